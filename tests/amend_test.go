package tests

import (
	"fmt"
	"reflect"
	"slices"
	"testing"

	"loop.example/lapgive/impl"
)

// The full book, in which kl waits for nothing to be answered.
func amendBook() impl.GiveBook {
	b := fullBook()
	b.Held[1].Next = nil
	return b
}

func checkAmend(t *testing.T, what string, b impl.GiveBook, name string, tube []impl.GiveBox, want impl.GiveBook, wantCode int) {
	t.Helper()
	got, code := impl.GiveAmend(b, name, tube)
	checkBook(t, what, got, code, want, wantCode)
}

func checkAmendByWords(t *testing.T, what string, b impl.GiveBook, name string, tube []impl.GiveBox) int {
	t.Helper()
	want, code := amendByWords(b, name, tube)
	checkAmend(t, what, b, name, tube, want, code)
	return code
}

func checkHear(t *testing.T, what string, b impl.GiveBook, name string, took bool, want impl.GiveBook, wantCode int) {
	t.Helper()
	got, code := impl.GiveHear(b, name, took)
	checkBook(t, what, got, code, want, wantCode)
}

func stayOnB(in int, out int) []impl.GiveBox {
	return []impl.GiveBox{{X: 4, Y: 2, In: in, Out: out}}
}

// Promise 7, to each of three, while the others have what they have.
func TestAmendKeepsBoth(t *testing.T) {
	for place := range 3 {
		for _, tube := range [][]impl.GiveBox{stayOnB(10, 99), stayOnB(10, 10), laterBy(plainTube(), 100), stayOnA(70, 10000), laterBy(tubeOfSize(40), 70)} {
			b := fullBook()
			b.Held[place].Next = nil
			want := fullBook()
			want.Held[place].Next = tube
			checkAmend(t, "sent", b, b.Held[place].Name, tube, want, 0)
			b.Held[place].Next = []impl.GiveBox{}
			checkAmend(t, "sent behind an empty one", b, b.Held[place].Name, tube, want, 0)
			if after, _ := impl.GiveAmend(b, b.Held[place].Name, tube); !impl.GiveBookOk(after) {
				t.Errorf("%v: a book that is not ok", tube)
			}
		}
	}
}

func TestAmendByWhoIsNear(t *testing.T) {
	for _, c := range []struct {
		name string
		tube []impl.GiveBox
		want int
	}{
		{"near to nobody", stayOnB(10, 99), 0},
		{"one's own Tube", stayOnA(30, 39), 0},
		{"near to one's own Tube", stayOnA(35, 45), 0},
		{"beside all others", stayOnA(30, 49), 0},
		{"near to a Tube ahead", stayOnA(19, 19), 5},
		{"near to a Next ahead", stayOnA(29, 29), 5},
		{"near to a Next ahead and to one's own Tube", stayOnA(29, 39), 5},
		{"near to a Tube behind", stayOnA(50, 50), 5},
		{"near to a Tube behind and to one's own Tube", stayOnA(30, 50), 5},
		{"near to a Next behind", stayOnA(60, 60), 5},
		{"near to the end of a Next", stayOnA(69, 90), 5},
		{"behind all", stayOnA(70, 90), 0},
		{"near by a box that is not the last", []impl.GiveBox{{X: 2, Y: 2, In: 69, Out: 70}, {X: 1, Y: 1, In: 70, Out: 80}}, 5},
		{"apart by a level", []impl.GiveBox{{X: 1, Y: 1, Low: 1, High: 2, In: 50, Out: 69}, {X: 1, Y: 1, High: 2, In: 70, Out: 70}}, 0},
	} {
		b := amendBook()
		want := amendBook()
		if c.want == 0 {
			want.Held[1].Next = c.tube
		}
		checkAmend(t, c.name, b, "kl", c.tube, want, c.want)
		if free := impl.GiveFree(b, "kl", c.tube); free != (c.want == 0) {
			t.Errorf("%s: free is %v", c.name, free)
		}
	}
}

// Who has been sent nothing may hold something near to no Tube but to a Next, and the other way round.
func TestAmendNearToOneOfTwo(t *testing.T) {
	for kind := range 2 {
		other := impl.GiveHeld{Name: "x", Tube: stayOnA(900, 900), Next: stayOnA(950, 950)}
		*pick(&other, kind) = stayOnA(40, 49)
		for place, name := range []string{"a", "z"} {
			own := impl.GiveHeld{Name: name, Tube: stayOnB(0, 9)}
			b := impl.GiveBook{Fields: twoFields(), Held: slices.Insert([]impl.GiveHeld{other}, place, own)}
			for in, want := range map[int]int{30: 0, 39: 0, 40: 5, 49: 5, 50: 0} {
				if code := checkAmendByWords(t, name, b, name, stayOnA(in, in)); code != want {
					t.Errorf("%s at %d: code %d, not %d", name, in, code, want)
				}
			}
		}
	}
}

func TestAmendAndNow(t *testing.T) {
	two := func(first int, second int) []impl.GiveBox {
		return append(stayOnB(first, 80), stayOnB(second, 90)...)
	}
	for _, c := range []struct {
		name string
		tube []impl.GiveBox
		want int
	}{
		{"from Now on", stayOnB(10, 20), 0},
		{"at Now alone", stayOnB(10, 10), 0},
		{"a tick below Now", stayOnB(9, 20), 2},
		{"all below Now", stayOnB(0, 9), 2},
		{"from 0 on", stayOnB(0, 10000), 2},
		{"two from Now on", two(10, 10), 0},
		{"the first of two below", two(9, 10), 2},
		{"both below", two(9, 9), 2},
		{"a tick behind Now", two(11, 81), 0},
		{"below Now and near to others", stayOnA(9, 60), 2},
	} {
		if code := checkAmendByWords(t, c.name, amendBook(), "kl", c.tube); code != c.want {
			t.Errorf("%s: code %d, not %d", c.name, code, c.want)
		}
	}
	last := impl.GiveBook{Now: 10000, Fields: twoFields(), Held: []impl.GiveHeld{{Name: "kl", Tube: stayOnA(10000, 10000)}}}
	for in, want := range map[int]int{10000: 0, 9999: 2, 10001: 2} {
		if code := checkAmendByWords(t, "at the last tick", last, "kl", stayOnB(in, 10000)); code != want {
			t.Errorf("In %d at the last tick: code %d, not %d", in, code, want)
		}
	}
}

func TestAmendOfTubesThatAreNotOk(t *testing.T) {
	for place, tube := range tubesNotOk() {
		for _, name := range append(namesOfNobody(), "ba", "kl", "lh") {
			checkAmend(t, fmt.Sprintf("the list %d to %.20q", place, name), amendBook(), name, tube, amendBook(), 2)
		}
	}
	for number := range 6 {
		for _, far := range farNumbers() {
			tube := stayOnB(20, 30)
			*numbersOf(&tube[0])[number] = far
			checkAmend(t, "a far number", amendBook(), "kl", tube, amendBook(), 2)
		}
	}
	checkAmend(t, "very many boxes", amendBook(), "kl", make([]impl.GiveBox, 100000), amendBook(), 2)
	checkAmend(t, "without runways", impl.GiveBook{Now: 4}, "kl", stayOnB(20, 30), impl.GiveBook{Now: 4}, 2)
	only := amendBook()
	only.Fields = only.Fields[:1]
	checkAmend(t, "on a runway that the book has not", only, "kl", stayOnB(20, 30), only, 2)
}

func TestAmendAndHearOfNobody(t *testing.T) {
	for _, name := range namesOfNobody() {
		what := fmt.Sprintf("%.20q", name)
		checkAmend(t, what, amendBook(), name, stayOnB(20, 30), amendBook(), 6)
		checkAmend(t, what, amendBook(), name, stayOnA(20, 60), amendBook(), 6)
		checkAmend(t, what, impl.GiveBook{Fields: twoFields()}, name, stayOnB(20, 30), impl.GiveBook{Fields: twoFields()}, 6)
		for _, took := range []bool{true, false} {
			checkHear(t, what, amendBook(), name, took, amendBook(), 6)
			checkHear(t, what, impl.GiveBook{}, name, took, impl.GiveBook{}, 6)
		}
	}
}

// Promise 7: meanwhile nothing more is sent, not even the same or what is held.
func TestAmendWaitsForTheAnswer(t *testing.T) {
	for _, held := range fullBook().Held {
		for _, tube := range [][]impl.GiveBox{held.Tube, held.Next, stayOnB(20, 30), stayOnA(10, 99)} {
			checkAmend(t, held.Name, fullBook(), held.Name, tube, fullBook(), 7)
		}
	}
	b, code := impl.GiveAmend(amendBook(), "kl", stayOnB(20, 30))
	if code != 0 {
		t.Fatal(code)
	}
	checkAmend(t, "a second one", b, "kl", stayOnB(40, 50), b, 7)
	for _, took := range []bool{true, false} {
		heard, code := impl.GiveHear(b, "kl", took)
		if code != 0 {
			t.Fatal(code)
		}
		if _, code = impl.GiveAmend(heard, "kl", stayOnB(40, 50)); code != 0 {
			t.Errorf("behind the answer: code %d", code)
		}
	}
}

// What of the conditions holds, each with each other; the code is that of the first.
func TestOrderOfCodesOfAmend(t *testing.T) {
	for set := range 1 << 5 {
		holds := func(condition int) bool { return set>>condition&1 == 1 }
		b, name, tube := amendBook(), "kl", stayOnB(20, 30)
		want := 0
		if holds(4) {
			tube = stayOnA(20, 30)
			want = 5
		}
		if holds(3) {
			b.Held[1].Next = stayOnB(70, 79)
			want = 7
		}
		if holds(2) {
			name = "k"
			want = 6
		}
		if holds(1) {
			tube[0].In = 9
			want = 2
		}
		if holds(0) {
			b.Fields = append(b.Fields, impl.GiveField{Name: "c", X: 16})
			want = 1
		}
		what := fmt.Sprintf("conditions %05b", set)
		if code := checkAmendByWords(t, what, b, name, tube); code != want {
			t.Errorf("%s: code %d, not %d", what, code, want)
		}
	}
}

func TestOrderOfCodesOfHear(t *testing.T) {
	for set := range 1 << 4 {
		holds := func(condition int) bool { return set>>condition&1 == 1 }
		b, name := fullBook(), "kl"
		want := 0
		if holds(2) {
			b.Held[1].Next = nil
			want = 8
		}
		if holds(1) {
			name = "klm"
			want = 6
		}
		if holds(0) {
			b.Now = 11
			want = 1
		}
		took := holds(3)
		after, code := hearByWords(b, name, took)
		if code != want {
			t.Errorf("conditions %04b: code %d, not %d", set, code, want)
		}
		checkHear(t, fmt.Sprintf("conditions %04b", set), b, name, took, after, code)
	}
}

func TestHearWhatWasTaken(t *testing.T) {
	for place := range 3 {
		b, taken, refused := fullBook(), fullBook(), fullBook()
		taken.Held[place].Tube, taken.Held[place].Next = taken.Held[place].Next, nil
		refused.Held[place].Next = nil
		name := b.Held[place].Name
		checkHear(t, name+", taken", b, name, true, taken, 0)
		checkHear(t, name+", refused", b, name, false, refused, 0)
		checkHear(t, name+", taken, again", taken, name, true, taken, 8)
		checkHear(t, name+", taken, and refused then", taken, name, false, taken, 8)
		checkHear(t, name+", refused, again", refused, name, false, refused, 8)
		checkHear(t, name+", refused, and taken then", refused, name, true, refused, 8)
		empty := copyBook(refused)
		empty.Held[place].Next = []impl.GiveBox{}
		checkHear(t, name+", an empty Next", empty, name, true, refused, 8)
	}
}

// Promise 7: what was not taken is free again, and what was held, if another one was taken.
func TestWhatIsLetGoIsFree(t *testing.T) {
	b := fullBook()
	for _, took := range []bool{true, false} {
		free, kept := stayOnA(30, 39), stayOnA(40, 49)
		if !took {
			free, kept = kept, free
		}
		heard, code := impl.GiveHear(b, "kl", took)
		if code != 0 {
			t.Fatal(code)
		}
		for _, tube := range [][]impl.GiveBox{free, kept} {
			if impl.GiveFree(b, "x", tube) {
				t.Errorf("%v: free ahead of the answer", tube)
			}
		}
		if !impl.GiveFree(heard, "x", free) || impl.GiveFree(heard, "x", kept) {
			t.Errorf("taken is %v: %+v", took, heard)
		}
	}
}

func TestAmendAndHearInABookThatIsNotOk(t *testing.T) {
	for _, c := range booksNotOk() {
		b := fullBook()
		c.change(&b)
		for _, name := range []string{"kl", "ba", "x", ""} {
			for _, tube := range [][]impl.GiveBox{nil, stayOnB(400, 401), stayOnA(0, 99)} {
				checkAmend(t, c.name, b, name, tube, impl.GiveBook{}, 1)
			}
			checkHear(t, c.name, b, name, true, impl.GiveBook{}, 1)
			checkHear(t, c.name, b, name, false, impl.GiveBook{}, 1)
		}
	}
}

func TestAmendAndHearByWords(t *testing.T) {
	d := dice(37)
	codes := map[int]int{}
	for range 1000 {
		b := d.book(1+d.roll(8), 5, 90)
		if d.roll(10) == 0 {
			b.Now = 10 - d.roll(20)
		}
		name := alphabet(9)[d.roll(9)]
		tube := d.tubeTo(b.Fields, 6, d.roll(120))
		if d.roll(8) == 0 {
			tube = tubesNotOk()[d.roll(len(tubesNotOk()))]
		}
		codes[checkAmendByWords(t, "drawn", b, name, tube)]++
		for _, took := range []bool{true, false} {
			want, code := hearByWords(b, name, took)
			checkHear(t, "drawn", b, name, took, want, code)
			codes[code]++
		}
	}
	for _, code := range []int{0, 1, 2, 5, 6, 7, 8} {
		if codes[code] < 20 {
			t.Errorf("codes %v", codes)
		}
	}
}

func TestAmendAndHearAnswerInNewMemory(t *testing.T) {
	notOk := fullBook()
	notOk.Now = 11
	tube := append(stayOnB(20, 30), impl.GiveBox{X: -9})
	near := append(stayOnA(20, 30), impl.GiveBox{X: -9})
	for _, c := range []struct {
		b    impl.GiveBook
		name string
		want int
		call func(b impl.GiveBook, name string) (impl.GiveBook, int)
	}{
		{amendBook(), "kl", 0, func(b impl.GiveBook, name string) (impl.GiveBook, int) { return impl.GiveAmend(b, name, tube[:1]) }},
		{notOk, "kl", 1, func(b impl.GiveBook, name string) (impl.GiveBook, int) { return impl.GiveAmend(b, name, tube[:1]) }},
		{amendBook(), "kl", 2, func(b impl.GiveBook, name string) (impl.GiveBook, int) { return impl.GiveAmend(b, name, tube[:2]) }},
		{amendBook(), "k", 6, func(b impl.GiveBook, name string) (impl.GiveBook, int) { return impl.GiveAmend(b, name, tube[:1]) }},
		{fullBook(), "kl", 7, func(b impl.GiveBook, name string) (impl.GiveBook, int) { return impl.GiveAmend(b, name, tube[:1]) }},
		{amendBook(), "kl", 5, func(b impl.GiveBook, name string) (impl.GiveBook, int) { return impl.GiveAmend(b, name, near[:1]) }},
		{fullBook(), "kl", 0, func(b impl.GiveBook, name string) (impl.GiveBook, int) { return impl.GiveHear(b, name, true) }},
		{fullBook(), "kl", 0, func(b impl.GiveBook, name string) (impl.GiveBook, int) { return impl.GiveHear(b, name, false) }},
		{notOk, "kl", 1, func(b impl.GiveBook, name string) (impl.GiveBook, int) { return impl.GiveHear(b, name, true) }},
		{fullBook(), "k", 6, func(b impl.GiveBook, name string) (impl.GiveBook, int) { return impl.GiveHear(b, name, true) }},
		{amendBook(), "kl", 8, func(b impl.GiveBook, name string) (impl.GiveBook, int) { return impl.GiveHear(b, name, true) }},
	} {
		b, all := withRoom(c.b)
		kept, keptTube, keptNear := all(), slices.Clone(tube), slices.Clone(near)
		got, code := c.call(b, c.name)
		again, _ := c.call(b, c.name)
		what := fmt.Sprintf("code %d", c.want)
		if code != c.want {
			t.Errorf("%s: %d", what, code)
		}
		checkNewMemory(t, what, got, memoryOfBook("argument", b), memoryOfBook("another answer", again), []memory{memoryOf("tube", tube), memoryOf("tube", near)})
		if !reflect.DeepEqual(all(), kept) || !slices.Equal(tube, keptTube) || !slices.Equal(near, keptNear) {
			t.Errorf("%s: an argument was changed", what)
		}
	}
}
