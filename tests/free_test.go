package tests

import (
	"math"
	"reflect"
	"slices"
	"strings"
	"testing"

	"loop.example/lapgive/impl"
)

// Books that are not ok, each for another reason, in which nobody holds anything near to the field b.
func booksNotOk() []bookCase {
	return []bookCase{
		{"Now -1", func(b *impl.GiveBook) { b.Now = -1 }, false},
		{"Now 10001", func(b *impl.GiveBook) { b.Now = 10001 }, false},
		{"fields turned", func(b *impl.GiveBook) { slices.Reverse(b.Fields) }, false},
		{"five fields", func(b *impl.GiveBook) { b.Fields = append(b.Fields, fieldsNamed("x", "y", "z")...) }, false},
		{"a field that has no name", func(b *impl.GiveBook) { b.Fields[0].Name = "" }, false},
		{"a field outside", func(b *impl.GiveBook) {
			b.Fields = append(b.Fields, impl.GiveField{Name: "c", X: 16, Y: 1})
		}, false},
		{"two fields in one cell", func(b *impl.GiveBook) {
			b.Fields = append(b.Fields, impl.GiveField{Name: "c", X: 4, Y: 2})
		}, false},
		{"held turned", func(b *impl.GiveBook) { slices.Reverse(b.Held) }, false},
		{"17 who hold something", func(b *impl.GiveBook) { b.Held = heldNamed(alphabet(17)...) }, false},
		{"somebody without a Tube", func(b *impl.GiveBook) { b.Held[1].Tube = nil }, false},
		{"a Tube in the air", func(b *impl.GiveBook) { b.Held[1].Tube[0].Low, b.Held[1].Tube[0].High = 1, 1 }, false},
		{"a Next on no field", func(b *impl.GiveBook) { b.Held[1].Next[0].X = 0 }, false},
		{"a Tube ahead of Now", func(b *impl.GiveBook) { b.Held[0].Tube[0].In = 9 }, false},
		{"two too near", func(b *impl.GiveBook) { b.Held[1].Next = stayOnA(40, 50) }, false},
	}
}

// Lists of boxes that are no tubes, and come near to nobody of the full book.
func tubesNotOk() [][]impl.GiveBox {
	b := impl.GiveBox{X: 4, Y: 2, In: 100, Out: 110}
	with := func(change func(box *impl.GiveBox)) []impl.GiveBox {
		box := b
		change(&box)
		return []impl.GiveBox{box}
	}
	return [][]impl.GiveBox{
		nil,
		{},
		slices.Repeat([]impl.GiveBox{b}, 41),
		with(func(box *impl.GiveBox) { box.X = 5 }),
		with(func(box *impl.GiveBox) { box.X = math.MaxInt }),
		with(func(box *impl.GiveBox) { box.Y = 3 }),
		with(func(box *impl.GiveBox) { box.Y = math.MinInt }),
		with(func(box *impl.GiveBox) { box.Low = -1 }),
		with(func(box *impl.GiveBox) { box.Low, box.High = 1, 1 }),
		with(func(box *impl.GiveBox) { box.High = 7 }),
		with(func(box *impl.GiveBox) { box.In = -1 }),
		with(func(box *impl.GiveBox) { box.In = math.MinInt }),
		with(func(box *impl.GiveBox) { box.In = 111 }),
		with(func(box *impl.GiveBox) { box.Out = 10001 }),
		with(func(box *impl.GiveBox) { box.Out = math.MaxInt }),
		{{X: 2, Y: 2, In: 100, Out: 110}, b},
		{{X: 4, Y: 2, In: 90, Out: 98}, b},
		{{X: 4, Y: 2, In: 100, Out: 111}, b},
		{b, {X: 5, Y: 2, In: 100, Out: 110}},
	}
}

// Texts that nobody of the full book has as a name, some of them none.
func namesOfNobody() []string {
	return []string{"", "x", "k", "kla", "KL", "kl ", " kl", "kl\x00", "\xff\xfe", "zurich", "zurichzurich", "é", strings.Repeat("kl", 50000)}
}

func TestFreeByWhoIsNear(t *testing.T) {
	b := fullBook()
	for _, c := range []struct {
		name string
		tube []impl.GiveBox
		want []string // who of the book may have it
		all  bool     // whether anybody else may
	}{
		{"near to nobody, another field", []impl.GiveBox{{X: 4, Y: 2, In: 10, Out: 69}}, []string{"ba", "kl", "lh"}, true},
		{"near to nobody, behind all", stayOnA(70, 80), []string{"ba", "kl", "lh"}, true},
		{"near to nobody, ahead of Now", stayOnA(0, 9), []string{"ba", "kl", "lh"}, true},
		{"near to the Tube of ba", stayOnA(12, 13), []string{"ba"}, false},
		{"near to the Next of ba", stayOnA(22, 23), []string{"ba"}, false},
		{"near to the Tube of kl", stayOnA(30, 30), []string{"kl"}, false},
		{"near to the Next of kl", stayOnA(49, 49), []string{"kl"}, false},
		{"near to both of kl", stayOnA(30, 49), []string{"kl"}, false},
		{"near to the Tube of lh", stayOnA(59, 59), []string{"lh"}, false},
		{"near to the Next of lh", stayOnA(69, 90), []string{"lh"}, false},
		{"near to ba and kl", stayOnA(29, 30), nil, false},
		{"near to kl and lh", stayOnA(49, 50), nil, false},
		{"near to all", stayOnA(0, 10000), nil, false},
		{"near by a box that is not the last", []impl.GiveBox{{X: 2, Y: 2, In: 68, Out: 70}, {X: 1, Y: 1, In: 70, Out: 80}}, []string{"lh"}, false},
		{"on the level above them", []impl.GiveBox{{X: 1, Y: 1, Low: 1, High: 2, In: 50, Out: 69}, {X: 1, Y: 1, High: 2, In: 70, Out: 70}}, []string{"ba", "kl", "lh"}, true},
	} {
		for _, name := range []string{"ba", "kl", "lh"} {
			if impl.GiveFree(b, name, c.tube) != slices.Contains(c.want, name) {
				t.Errorf("%s, for %s: not %v", c.name, name, slices.Contains(c.want, name))
			}
		}
		for _, name := range namesOfNobody() {
			if impl.GiveFree(b, name, c.tube) != c.all {
				t.Errorf("%s, for %.20q: not %v", c.name, name, c.all)
			}
		}
	}
}

func TestFreeWhereNobodyHoldsAnything(t *testing.T) {
	b := impl.GiveBook{Fields: twoFields()}
	for _, name := range namesOfNobody() {
		for _, tube := range [][]impl.GiveBox{plainTube(), {widest(1, 1)}, stayOnA(0, 0), stayOnA(10000, 10000), tubeOfSize(40)} {
			if !impl.GiveFree(b, name, tube) {
				t.Errorf("%.20q: %+v is not free", name, tube)
			}
		}
	}
	if impl.GiveFree(impl.GiveBook{}, "x", plainTube()) {
		t.Error("free without a runway")
	}
}

func TestNotFreeInABookThatIsNotOk(t *testing.T) {
	tube := []impl.GiveBox{{X: 4, Y: 2, In: 300, Out: 310}}
	if !impl.GiveFree(fullBook(), "x", tube) {
		t.Fatal("not free in a book that is ok")
	}
	for _, c := range booksNotOk() {
		b := fullBook()
		c.change(&b)
		for _, name := range []string{"x", "ba", "kl", ""} {
			if impl.GiveFree(b, name, tube) {
				t.Errorf("%s: free for %q", c.name, name)
			}
		}
	}
}

func TestTubesThatAreNotOkAreNotFree(t *testing.T) {
	for place, tube := range tubesNotOk() {
		for _, b := range []impl.GiveBook{fullBook(), {Fields: twoFields()}, {}} {
			if impl.GiveFree(b, "x", tube) || impl.GiveFree(b, "kl", tube) {
				t.Errorf("the list %d is free", place)
			}
		}
	}
}

// One's own Next is no bar either, nor is the Tube, if only the other one is near.
func TestFreeOfOnesOwn(t *testing.T) {
	b := fullBook()
	for _, held := range b.Held {
		if !impl.GiveFree(b, held.Name, held.Tube) || !impl.GiveFree(b, held.Name, held.Next) {
			t.Errorf("%s bars itself", held.Name)
		}
		if impl.GiveFree(b, "x", held.Tube) || impl.GiveFree(b, "x", held.Next) {
			t.Errorf("%s bars nobody", held.Name)
		}
	}
	b.Held[0].Next = nil
	if !impl.GiveFree(b, "x", stayOnA(20, 29)) {
		t.Error("a Next that is gone bars yet")
	}
}

func TestFreeAgainstTheWords(t *testing.T) {
	d := dice(7)
	var free, not int
	for range 400 {
		b := d.book(8, 6, 60)
		if !impl.GiveBookOk(b) {
			t.Fatalf("%+v is not ok", b)
		}
		for range 10 {
			tube := d.tubeTo(b.Fields, 8, d.roll(70))
			name := alphabet(10)[d.roll(10)]
			want := !nearToSomebodyElse(b, name, tube)
			if impl.GiveFree(b, name, tube) != want {
				t.Fatalf("%+v\n%s: %+v: not %v", b, name, tube, want)
			}
			if want {
				free++
			} else {
				not++
			}
		}
	}
	if free < 500 || not < 500 {
		t.Errorf("%d are free, %d are not", free, not)
	}
}

func TestFreeWritesNothing(t *testing.T) {
	b, all := withRoom(fullBook())
	kept := all()
	tube := append(stayOnA(70, 79), stayOnA(80, 89)...)
	if !impl.GiveFree(b, "kl", tube[:1]) || !impl.GiveFree(b, "x", tube[:1]) || impl.GiveFree(b, "x", b.Held[1].Tube) {
		t.Error("another answer")
	}
	if !reflect.DeepEqual(all(), kept) || !slices.Equal(tube, append(stayOnA(70, 79), stayOnA(80, 89)...)) {
		t.Error("an argument was changed")
	}
}
