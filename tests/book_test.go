package tests

import (
	"math"
	"reflect"
	"slices"
	"strings"
	"testing"

	"loop.example/lapgive/impl"
)

// A tube of one box on the field a, with these ticks.
func stayOnA(in int, out int) []impl.GiveBox {
	return []impl.GiveBox{{X: 1, Y: 1, In: in, Out: out}}
}

// Three who hold something on one runway, one behind the other, each with a Next.
func fullBook() impl.GiveBook {
	return impl.GiveBook{Now: 10, Fields: twoFields(), Held: []impl.GiveHeld{
		{Name: "ba", Tube: stayOnA(10, 19), Next: stayOnA(20, 29)},
		{Name: "kl", Tube: stayOnA(30, 39), Next: stayOnA(40, 49)},
		{Name: "lh", Tube: stayOnA(50, 59), Next: stayOnA(60, 69)},
	}}
}

type bookCase struct {
	name   string
	change func(b *impl.GiveBook)
	want   bool
}

func checkBooks(t *testing.T, cases []bookCase) {
	t.Helper()
	for _, c := range cases {
		b := fullBook()
		c.change(&b)
		if impl.GiveBookOk(b) != c.want {
			t.Errorf("%s: not %v", c.name, c.want)
		}
	}
}

func TestLimitsOfBooks(t *testing.T) {
	got := []int{impl.GiveMaxName, impl.GiveMaxFields, impl.GiveMaxHeld}
	if !slices.Equal(got, []int{8, 4, 16}) {
		t.Error(got)
	}
}

func TestBooksThatAreOk(t *testing.T) {
	checkBooks(t, []bookCase{
		{"as it is", func(b *impl.GiveBook) {}, true},
		{"nothing", func(b *impl.GiveBook) { *b = impl.GiveBook{} }, true},
		{"empty lists", func(b *impl.GiveBook) {
			*b = impl.GiveBook{Fields: []impl.GiveField{}, Held: []impl.GiveHeld{}}
		}, true},
		{"runways alone", func(b *impl.GiveBook) { b.Held = nil }, true},
		{"no Next, nil", func(b *impl.GiveBook) { b.Held[0].Next = nil }, true},
		{"no Next, empty", func(b *impl.GiveBook) { b.Held[2].Next = []impl.GiveBox{} }, true},
		{"long tubes", func(b *impl.GiveBook) {
			b.Now = 0
			b.Held = []impl.GiveHeld{{Name: "x", Tube: plainTube(), Next: plainTube()}}
		}, true},
	})
}

func TestNowOfABook(t *testing.T) {
	for now, want := range map[int]bool{0: true, 1: true, 9999: true, 10000: true, -1: false, 10001: false, math.MinInt: false, math.MaxInt: false} {
		if impl.GiveBookOk(impl.GiveBook{Now: now, Fields: twoFields()}) != want {
			t.Errorf("Now %d: not %v", now, want)
		}
	}
	at := impl.GiveBook{Now: 10000, Fields: twoFields(), Held: []impl.GiveHeld{{Name: "x", Tube: stayOnA(10000, 10000)}}}
	if !impl.GiveBookOk(at) {
		t.Error("a tube at the last tick")
	}
}

func TestInOfATubeAndNow(t *testing.T) {
	two := func(in int) []impl.GiveBox { return append(stayOnA(in, 75), stayOnA(75, 79)...) }
	checkBooks(t, []bookCase{
		{"Tube from Now on", func(b *impl.GiveBook) { b.Held[0].Tube = stayOnA(10, 19) }, true},
		{"Tube a tick below Now", func(b *impl.GiveBook) { b.Held[0].Tube = stayOnA(9, 19) }, false},
		{"Tube all below Now", func(b *impl.GiveBook) { b.Held[0].Tube = stayOnA(0, 9) }, false},
		{"Now a tick later", func(b *impl.GiveBook) { b.Now = 11 }, false},
		{"another's Tube below Now", func(b *impl.GiveBook) { b.Held[2].Tube = stayOnA(9, 9); b.Held[0].Tube = stayOnA(11, 19) }, false},
		{"Next from Now on", func(b *impl.GiveBook) { b.Held[0].Next = stayOnA(10, 29) }, true},
		{"Next a tick below Now", func(b *impl.GiveBook) { b.Held[0].Next = stayOnA(9, 29) }, false},
		{"another's Next below Now", func(b *impl.GiveBook) { b.Held[2].Next = stayOnA(8, 9) }, false},
		{"two boxes from Now on", func(b *impl.GiveBook) { b.Now = 70; b.Held = []impl.GiveHeld{{Name: "x", Tube: two(70)}} }, true},
		{"the first of two below Now", func(b *impl.GiveBook) { b.Now = 70; b.Held = []impl.GiveHeld{{Name: "x", Tube: two(69)}} }, false},
	})
}

func fieldsNamed(names ...string) []impl.GiveField {
	var fields []impl.GiveField
	for place, name := range names {
		fields = append(fields, impl.GiveField{Name: name, X: place, Y: 3})
	}
	return fields
}

func heldNamed(names ...string) []impl.GiveHeld {
	var held []impl.GiveHeld
	for place, name := range names {
		held = append(held, impl.GiveHeld{Name: name, Tube: stayOnA(100+10*place, 104+10*place), Next: stayOnA(105+10*place, 109+10*place)})
	}
	return held
}

func alphabet(size int) []string {
	return strings.Split("abcdefghijklmnopqrstuvwxyz"[:size], "")
}

// Names hold for runways and for those who hold something alike.
func checkNames(t *testing.T, what string, names []string, want bool) {
	t.Helper()
	if len(names) <= 4 && impl.GiveBookOk(impl.GiveBook{Fields: fieldsNamed(names...)}) != want {
		t.Errorf("%s: fields %q: not %v", what, names, want)
	}
	if impl.GiveBookOk(impl.GiveBook{Fields: twoFields(), Held: heldNamed(names...)}) != want {
		t.Errorf("%s: held %q: not %v", what, names, want)
	}
}

func TestNamesOfABook(t *testing.T) {
	for size := range 20 {
		name := strings.Repeat("x", size)
		checkNames(t, "size", []string{name}, size >= 1 && size <= 8)
		checkNames(t, "size, behind another one", []string{"a", name}, size >= 1 && size <= 8)
	}
	for c := range 256 {
		char := string([]byte{byte(c)})
		good := strings.Contains("abcdefghijklmnopqrstuvwxyz0123456789-", char)
		for _, name := range []string{char, char + "bc", "b" + char + "c", "bc" + char, "bcdefgh" + char} {
			checkNames(t, "bytes", []string{name}, good)
		}
	}
	checkNames(t, "no bytes of a name", []string{"é"}, false)
	checkNames(t, "far too long", []string{strings.Repeat("a", 100000)}, false)
}

func TestOrderOfNames(t *testing.T) {
	for _, names := range [][]string{
		{"a", "b"}, {"a", "b", "c", "d"}, {"a", "ab"}, {"a", "a-"}, {"-", "0", "9", "a"}, {"a-z", "a0"}, {"az", "b"}, {"9", "a", "z"}, {"10", "9"}, {"abcdefgg", "abcdefgh"}, {"--", "-a"},
	} {
		checkNames(t, "ascending", names, true)
		turned := slices.Clone(names)
		slices.Reverse(turned)
		checkNames(t, "descending", turned, false)
		checkNames(t, "one twice", append([]string{names[0]}, names[:len(names)-1]...), false)
		checkNames(t, "the last twice", append(slices.Clone(names[1:]), names[len(names)-1]), false)
	}
	checkNames(t, "the last two turned", []string{"a", "b", "d", "c"}, false)
	checkNames(t, "the first two turned", []string{"b", "a", "c", "d"}, false)
	checkNames(t, "one twice, apart", []string{"a", "b", "a"}, false)
	if !impl.GiveBookOk(impl.GiveBook{Fields: twoFields(), Held: heldNamed("a", "b")}) {
		t.Error("a runway and somebody may have one name")
	}
}

func TestHowManyFields(t *testing.T) {
	for size := range impl.GiveMaxSide {
		if impl.GiveBookOk(impl.GiveBook{Fields: fieldsNamed(alphabet(size)...)}) != (size <= 4) {
			t.Errorf("%d fields", size)
		}
	}
}

func TestHowManyHold(t *testing.T) {
	for size := range 27 {
		b := impl.GiveBook{Fields: twoFields(), Held: heldNamed(alphabet(size)...)}
		if impl.GiveBookOk(b) != (size <= 16) {
			t.Errorf("%d who hold something", size)
		}
	}
	if impl.GiveBookOk(impl.GiveBook{Held: make([]impl.GiveHeld, 100000)}) || impl.GiveBookOk(impl.GiveBook{Fields: make([]impl.GiveField, 100000)}) {
		t.Error("very many")
	}
}

func TestCellsOfFields(t *testing.T) {
	for place := range 4 {
		for n, want := range map[int]bool{0: true, 15: true, 7: true, -1: false, 16: false, math.MinInt: false, math.MaxInt: false} {
			byX := []impl.GiveField{{Name: "a", X: 1, Y: 1}, {Name: "b", X: 1, Y: 2}, {Name: "c", X: 1, Y: 3}, {Name: "d", X: 1, Y: 4}}
			byX[place].X = n
			if impl.GiveBookOk(impl.GiveBook{Fields: byX}) != want {
				t.Errorf("X %d of field %d: not %v", n, place, want)
			}
			byY := []impl.GiveField{{Name: "a", X: 1, Y: 1}, {Name: "b", X: 2, Y: 1}, {Name: "c", X: 3, Y: 1}, {Name: "d", X: 4, Y: 1}}
			byY[place].Y = n
			if impl.GiveBookOk(impl.GiveBook{Fields: byY}) != want {
				t.Errorf("Y %d of field %d: not %v", n, place, want)
			}
		}
	}
}

func TestNoTwoFieldsInOneCell(t *testing.T) {
	for one := range 4 {
		for other := range 4 {
			fields := []impl.GiveField{{Name: "a", X: 1, Y: 1}, {Name: "b", X: 2, Y: 1}, {Name: "c", X: 2, Y: 2}, {Name: "d", X: 1, Y: 2}}
			fields[one].X, fields[one].Y = fields[other].X, fields[other].Y
			if impl.GiveBookOk(impl.GiveBook{Fields: fields}) != (one == other) {
				t.Errorf("the fields %d and %d", one, other)
			}
		}
	}
}

func TestTubesOfABook(t *testing.T) {
	air := []impl.GiveBox{{X: 1, Y: 1, Low: 1, High: 1, In: 70, Out: 79}}
	afield := []impl.GiveBox{{X: 7, Y: 7, In: 70, Out: 79}}
	torn := append(stayOnA(70, 71), stayOnA(73, 79)...)
	long := slices.Repeat(stayOnA(70, 79), 41)
	wrong := []impl.GiveBox{{X: 1, Y: 1, In: 70, Out: 10001}}
	for place := range 3 {
		for _, bad := range [][]impl.GiveBox{air, afield, torn, long, wrong, {widest(-1, 0)}} {
			checkBooks(t, []bookCase{
				{"a Tube that is not ok", func(b *impl.GiveBook) { b.Held[place].Tube = bad }, false},
				{"a Next that is not ok", func(b *impl.GiveBook) { b.Held[place].Next = bad }, false},
			})
		}
		checkBooks(t, []bookCase{
			{"a Tube that is ok", func(b *impl.GiveBook) { b.Held[place].Tube = stayOnA(70, 79) }, true},
			{"a Next that is ok", func(b *impl.GiveBook) { b.Held[place].Next = stayOnA(70, 79) }, true},
			{"no Tube, nil", func(b *impl.GiveBook) { b.Held[place].Tube = nil }, false},
			{"no Tube, empty", func(b *impl.GiveBook) { b.Held[place].Tube = []impl.GiveBox{} }, false},
			{"neither", func(b *impl.GiveBook) { b.Held[place].Tube = nil; b.Held[place].Next = nil }, false},
			{"no Next", func(b *impl.GiveBook) { b.Held[place].Next = nil }, true},
			{"a Tube of 40 boxes", func(b *impl.GiveBook) { b.Held[place].Tube = long[:40] }, true},
			{"a Next of 40 boxes", func(b *impl.GiveBook) { b.Held[place].Next = long[:40] }, true},
		})
	}
	checkBooks(t, []bookCase{
		{"no runway under the tubes", func(b *impl.GiveBook) { b.Fields = b.Fields[1:] }, false},
		{"no runway at all", func(b *impl.GiveBook) { b.Fields = nil }, false},
	})
}

// Of each two, by all that either may fly, at whatever places they are.
func TestTwoWhoComeTooNear(t *testing.T) {
	for one := range 3 {
		for other := range 3 {
			for kind := range 4 {
				b := fullBook()
				mine := pick(&b.Held[one], kind/2)
				theirs := pick(&b.Held[other], kind%2)
				if mine == theirs {
					continue
				}
				// Both end on the field b, one behind the other; only the box ahead of the last one may be there too early.
				*theirs = []impl.GiveBox{{X: 4, Y: 2, In: 80, Out: 90}}
				*mine = []impl.GiveBox{{X: 3, Y: 3, In: 85, Out: 91}, {X: 4, Y: 2, In: 91, Out: 95}}
				if impl.GiveBookOk(b) != (one == other) {
					t.Errorf("%d and %d, kind %d: too near, not %v", one, other, kind, one == other)
				}
				(*mine)[0].In = 91
				if !impl.GiveBookOk(b) {
					t.Errorf("%d and %d, kind %d: apart by a tick", one, other, kind)
				}
				(*mine)[0].In = 90
				if impl.GiveBookOk(b) != (one == other) {
					t.Errorf("%d and %d, kind %d: near by a tick", one, other, kind)
				}
			}
		}
	}
}

// The Tube, or the Next.
func pick(held *impl.GiveHeld, which int) *[]impl.GiveBox {
	if which == 0 {
		return &held.Tube
	}
	return &held.Next
}

func TestNearInABookByLevelsAndCells(t *testing.T) {
	low := []impl.GiveBox{{X: 5, Y: 5, Low: 0, High: 2, In: 100, Out: 200}}
	over := func(levelLow int, x int) []impl.GiveBox {
		return []impl.GiveBox{{X: x, Y: 5, Low: levelLow, High: 6, In: 100, Out: 200}, {X: x + 1, Y: 5, High: 6, In: 201, Out: 202}}
	}
	for _, c := range []struct {
		level, x int
		want     bool
	}{{3, 5, true}, {2, 5, false}, {3, 6, true}, {2, 6, false}, {2, 7, true}, {0, 7, true}} {
		b := impl.GiveBook{Fields: []impl.GiveField{{Name: "a", X: 5, Y: 5}, {Name: "b", X: c.x + 1, Y: 5}}, Held: []impl.GiveHeld{{Name: "x", Tube: low}, {Name: "y", Tube: over(c.level, c.x)}}}
		if impl.GiveBookOk(b) != c.want {
			t.Errorf("level %d, X %d: not %v", c.level, c.x, c.want)
		}
	}
}

func TestOnesOwnTubesMayBeNear(t *testing.T) {
	b := fullBook()
	for place := range b.Held {
		b.Held[place].Next = slices.Clone(b.Held[place].Tube)
	}
	if !impl.GiveBookOk(b) {
		t.Error("Tube and Next of each are the same")
	}
}

func TestBookOkWritesNothing(t *testing.T) {
	b := fullBook()
	b.Held[1].Next = nil
	kept := copyBook(b)
	short := b
	short.Fields, short.Held = b.Fields[:1], b.Held[:2]
	if !impl.GiveBookOk(b) || !impl.GiveBookOk(short) || !reflect.DeepEqual(b, kept) {
		t.Error("an argument was changed")
	}
}

func TestBookWithFarNumbers(t *testing.T) {
	for number := range 6 {
		for _, far := range farNumbers() {
			b := fullBook()
			*numbersOf(&b.Held[1].Tube[0])[number] = far
			if impl.GiveBookOk(b) {
				t.Errorf("number %d of a Tube is %d", number, far)
			}
			b = fullBook()
			*numbersOf(&b.Held[1].Next[0])[number] = far
			if impl.GiveBookOk(b) {
				t.Errorf("number %d of a Next is %d", number, far)
			}
		}
	}
}
