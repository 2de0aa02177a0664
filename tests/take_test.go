package tests

import (
	"fmt"
	"math"
	"reflect"
	"slices"
	"testing"

	"loop.example/lapgive/impl"
)

func checkTake(t *testing.T, what string, b impl.GiveBook, w impl.GiveWish, want impl.GiveBook, choice impl.GiveChoice, wantCode int) {
	t.Helper()
	got, told, code := impl.GiveTake(b, w)
	checkBook(t, what, got, code, want, wantCode)
	if told != choice {
		t.Errorf("%s: the choice %v is told, not %v", what, told, choice)
	}
}

func checkTakeByWords(t *testing.T, what string, b impl.GiveBook, w impl.GiveWish) int {
	t.Helper()
	want, choice, code := takeByWords(b, w)
	checkTake(t, what, b, w, want, choice, code)
	return code
}

// Three who hold the field a from tick 100 on, and a wish to leave it ahead of them.
func takeBook() impl.GiveBook {
	return impl.GiveBook{Fields: twoFields(), Held: heldNamed("b", "d", "f")}
}

func wishOf(name string) impl.GiveWish {
	w := plainWish()
	w.Name = name
	return w
}

func TestTakeGivesTheBest(t *testing.T) {
	b, w := takeBook(), wishOf("e")
	tube := []impl.GiveBox{
		{X: 1, Y: 1, Low: 0, High: 0, In: 20, Out: 27},
		{X: 2, Y: 1, Low: 0, High: 1, In: 22, Out: 30},
		{X: 3, Y: 2, Low: 1, High: 1, In: 24, Out: 33},
		{X: 4, Y: 2, Low: 0, High: 1, In: 26, Out: 36},
	}
	held := heldNamed("b", "d", "f")
	want := impl.GiveBook{Fields: twoFields(), Held: []impl.GiveHeld{held[0], held[1], {Name: "e", Tube: tube}, held[2]}}
	checkTake(t, "at once", b, w, want, impl.GiveChoice{}, 0)

	alone := impl.GiveBook{Now: 20, Fields: twoFields()}
	checkTake(t, "where nobody holds anything", alone, w, impl.GiveBook{Now: 20, Fields: twoFields(), Held: []impl.GiveHeld{{Name: "e", Tube: tube}}}, impl.GiveChoice{}, 0)

	alone.Now = 27
	later := impl.GiveBook{Now: 27, Fields: twoFields(), Held: []impl.GiveHeld{{Name: "e", Tube: laterBy(tube, 7)}}}
	checkTake(t, "later, by Now", alone, w, later, impl.GiveChoice{Late: 7}, 0)
}

// Somebody is in the way on the ground, on a level, or for a time.
func TestTakeGivesAnotherWayOrLevelOrLater(t *testing.T) {
	fields := []impl.GiveField{{Name: "a", X: 1, Y: 5}, {Name: "b", X: 7, Y: 5}, {Name: "c", X: 4, Y: 9}}
	straight := way(cell(1, 5), cell(2, 5), cell(3, 5), cell(4, 5), cell(5, 5), cell(6, 5), cell(7, 5))
	around := way(cell(1, 5), cell(2, 4), cell(3, 3), cell(4, 2), cell(5, 3), cell(6, 4), cell(7, 5))
	down := func(low int, high int, out int) []impl.GiveBox {
		tube := []impl.GiveBox{{X: 4, Y: 6, Low: low, High: high, Out: out}}
		for place := 1; place <= 3; place++ {
			tube = append(tube, impl.GiveBox{X: 4, Y: 6 + place, High: 6, In: out + place, Out: out + place})
		}
		return tube
	}
	for _, c := range []struct {
		name string
		tube []impl.GiveBox
		ways []impl.GiveWay
		want impl.GiveChoice
	}{
		{"as it is liked best", down(4, 6, 30), []impl.GiveWay{straight, around}, impl.GiveChoice{}},
		{"another level", down(3, 6, 30), []impl.GiveWay{straight, around}, impl.GiveChoice{Level: 1}},
		{"another way", down(1, 6, 30), []impl.GiveWay{straight, around}, impl.GiveChoice{Way: 1}},
		{"later", down(1, 6, 14), []impl.GiveWay{straight}, impl.GiveChoice{Late: 3}},
		{"as late as may be", down(1, 6, 16), []impl.GiveWay{straight}, impl.GiveChoice{Late: 5}},
	} {
		w := impl.GiveWish{Name: "kl", Quick: 1, Slow: 1, From: 10, By: 10, Late: 5, Ways: c.ways, Levels: []int{3, 1, 2}}
		other := impl.GiveHeld{Name: "lh", Tube: c.tube}
		b := impl.GiveBook{Fields: fields, Held: []impl.GiveHeld{other}}
		given := impl.GiveHeld{Name: "kl", Tube: tubeOfWish(w, c.want.Way, c.want.Level, c.want.Late)}
		checkTake(t, c.name, b, w, impl.GiveBook{Fields: fields, Held: []impl.GiveHeld{given, other}}, c.want, 0)
		if best, ok := impl.GiveBest(b, w); !ok || best != c.want {
			t.Errorf("%s: the best is %v", c.name, best)
		}
	}
	w := impl.GiveWish{Name: "kl", Quick: 1, Slow: 1, From: 10, By: 10, Late: 5, Ways: []impl.GiveWay{straight}, Levels: []int{3, 1, 2}}
	b := impl.GiveBook{Fields: fields, Held: []impl.GiveHeld{{Name: "lh", Tube: down(1, 6, 17)}}}
	checkTake(t, "later than may be", b, w, b, impl.GiveChoice{}, 5)
}

func TestTakeComesIntoTheBookInOrder(t *testing.T) {
	held := heldNamed("b", "bb", "d")
	for _, c := range []struct {
		name  string
		place int
	}{
		{"a", 0}, {"-", 0}, {"0", 0}, {"9", 0}, {"azzzzzzz", 0},
		{"b-", 1}, {"b0", 1}, {"ba", 1}, {"bazzzzzz", 1},
		{"bb-", 2}, {"bbb", 2}, {"bc", 2}, {"c", 2}, {"czzzzzzz", 2},
		{"d-", 3}, {"da", 3}, {"dd", 3}, {"e", 3}, {"zzzzzzzz", 3},
	} {
		b := impl.GiveBook{Fields: twoFields(), Held: held}
		given := impl.GiveHeld{Name: c.name, Tube: tubeOfWish(plainWish(), 0, 0, 0)}
		want := impl.GiveBook{Fields: twoFields(), Held: slices.Insert(slices.Clone(held), c.place, given)}
		checkTake(t, c.name, b, wishOf(c.name), want, impl.GiveChoice{}, 0)
		if after, _, _ := impl.GiveTake(b, wishOf(c.name)); !impl.GiveBookOk(after) {
			t.Errorf("%s: a book that is not ok", c.name)
		}
	}
	longer := impl.GiveBook{Fields: twoFields(), Held: heldNamed("bb", "bbb")}
	for name, place := range map[string]int{"b": 0, "ba": 0, "bba": 1, "bbbb": 2} {
		after, _, code := impl.GiveTake(longer, wishOf(name))
		if code != 0 || placeIn(after, name) != place || len(after.Held) != 3 {
			t.Errorf("%s: code %d, %+v", name, code, after)
		}
	}
}

func TestTakeUntilTheBookIsFull(t *testing.T) {
	b := impl.GiveBook{Fields: twoFields()}
	names := []string{"m", "c", "x", "a", "zz", "z", "m-", "l", "9", "-", "k", "b", "mm", "n", "00", "0"}
	for place, name := range names {
		w := wishOf(name)
		w.From, w.By = w.From+100*place, w.By+100*place
		after, choice, code := impl.GiveTake(b, w)
		if code != 0 || choice != (impl.GiveChoice{}) || len(after.Held) != place+1 || !impl.GiveBookOk(after) {
			t.Fatalf("%s: code %d, %v, %+v", name, code, choice, after)
		}
		b = after
	}
	slices.Sort(names)
	for place, name := range names {
		if b.Held[place].Name != name || len(b.Held[place].Next) != 0 {
			t.Errorf("at %d: %+v, not %s", place, b.Held[place], name)
		}
	}
	w := wishOf("y")
	w.From, w.By = 5000, 5001
	if _, ok := impl.GiveBest(b, w); !ok {
		t.Fatal("the best is not free")
	}
	checkTake(t, "one more", b, w, b, impl.GiveChoice{}, 4)
	fifteen := copyBook(b)
	fifteen.Held = slices.Delete(fifteen.Held, 7, 8)
	if _, _, code := impl.GiveTake(fifteen, w); code != 0 {
		t.Errorf("the last one: code %d", code)
	}
}

// What of the conditions holds, each with each other; the code is that of the first.
func TestOrderOfCodesOfTake(t *testing.T) {
	for set := range 1 << 5 {
		holds := func(condition int) bool { return set>>condition&1 == 1 }
		b, w := takeBook(), wishOf("x")
		want := 0
		if holds(4) {
			w.From, w.By, w.Late = 100, 100, 0
			want = 5
		}
		if holds(3) {
			b.Held = heldNamed(alphabet(16)...)
			want = 4
		}
		if holds(2) {
			w.Name = "d"
			want = 3
		}
		if holds(1) {
			w.Levels[1] = 7
			want = 2
		}
		if holds(0) {
			b.Now = -1
			want = 1
		}
		what := fmt.Sprintf("conditions %05b", set)
		if code := checkTakeByWords(t, what, b, w); code != want {
			t.Errorf("%s: code %d, not %d", what, code, want)
		}
	}
}

func TestTakeInABookThatIsNotOk(t *testing.T) {
	w := wishOf("x")
	w.From, w.By = 400, 401
	for _, c := range booksNotOk() {
		b := fullBook()
		c.change(&b)
		checkTake(t, c.name, b, w, impl.GiveBook{}, impl.GiveChoice{}, 1)
		checkTake(t, c.name+", who holds something", b, wishOf("kl"), impl.GiveBook{}, impl.GiveChoice{}, 1)
		checkTake(t, c.name+", nothing wished", b, impl.GiveWish{}, impl.GiveBook{}, impl.GiveChoice{}, 1)
	}
	for _, now := range farNumbers() {
		checkTake(t, "Now far off", impl.GiveBook{Now: now, Fields: twoFields()}, w, impl.GiveBook{}, impl.GiveChoice{}, 1)
	}
}

func TestTakeOfAWishThatIsNotOk(t *testing.T) {
	for _, b := range []impl.GiveBook{takeBook(), {Fields: twoFields()}, {Fields: twoFields(), Held: heldNamed(alphabet(16)...)}} {
		for _, c := range wishesNotOk() {
			for _, name := range []string{"x", "d"} {
				w := wishOf(name)
				c.change(&w)
				checkTake(t, c.name, b, w, b, impl.GiveChoice{}, 2)
			}
		}
		checkTake(t, "nothing wished", b, impl.GiveWish{}, b, impl.GiveChoice{}, 2)
		for _, far := range farNumbers() {
			for number := range 5 {
				w := wishOf("x")
				*numbersOfWish(&w)[number] = far
				checkTake(t, "a far number", b, w, b, impl.GiveChoice{}, 2)
			}
		}
	}
	checkTake(t, "without runways", impl.GiveBook{}, wishOf("x"), impl.GiveBook{}, impl.GiveChoice{}, 2)
	one := impl.GiveBook{Now: 3, Fields: twoFields()[:1]}
	checkTake(t, "without one of the runways", one, wishOf("x"), one, impl.GiveChoice{}, 2)
}

// Promise 6: given once, it is not given again, not even to be better or the same.
func TestTakeGivesOnce(t *testing.T) {
	b := takeBook()
	for _, held := range b.Held {
		w := wishOf(held.Name)
		if _, ok := impl.GiveBest(b, w); !ok {
			t.Fatal("the best is not free")
		}
		checkTake(t, held.Name, b, w, b, impl.GiveChoice{}, 3)
	}
	first, choice, code := impl.GiveTake(b, wishOf("e"))
	if code != 0 {
		t.Fatal(code)
	}
	checkTake(t, "again", first, wishOf("e"), first, impl.GiveChoice{}, 3)
	other := wishOf("e")
	other.From, other.By = 1000, 1001
	checkTake(t, "again, another wish", first, other, first, impl.GiveChoice{}, 3)
	if choice != (impl.GiveChoice{}) {
		t.Error(choice)
	}
	after, code := impl.GiveTick(first, 200)
	if code != 0 || placeIn(after, "e") >= 0 {
		t.Fatalf("code %d, %+v", code, after)
	}
	if _, _, code = impl.GiveTake(after, other); code != 0 {
		t.Errorf("when it has ended: code %d", code)
	}
}

// Near to the Tube of somebody, or to the Next alone.
func TestTakeOfWhatIsNotFree(t *testing.T) {
	for _, kind := range []int{0, 1} {
		for in, want := range map[int]int{0: 0, 8: 0, 9: 5, 10: 5, 11: 5, 12: 5, 13: 0} {
			held := impl.GiveHeld{Name: "lh", Tube: stayOnA(900, 900), Next: stayOnA(950, 950)}
			*pick(&held, kind) = stayOnA(10, 12)
			b := impl.GiveBook{Fields: fieldsBeside(), Held: []impl.GiveHeld{held}}
			if code := checkTakeByWords(t, "beside a tube", b, shortWish(in, 0)); code != want {
				t.Errorf("from %d: code %d, not %d", in, code, want)
			}
		}
	}
	b := impl.GiveBook{Now: 21, Fields: fieldsBeside()}
	checkTake(t, "below Now", b, shortWish(20, 0), b, impl.GiveChoice{}, 5)
	checkTake(t, "a tick later than below Now", b, shortWish(20, 1), impl.GiveBook{Now: 21, Fields: fieldsBeside(), Held: []impl.GiveHeld{{Name: "kl", Tube: tubeOfWish(shortWish(21, 0), 0, 0, 0)}}}, impl.GiveChoice{Late: 1}, 0)
	b.Now = 0
	checkTake(t, "beyond all ticks", b, shortWish(10000, 300), b, impl.GiveChoice{}, 5)
	checkTakeByWords(t, "the last of all ticks", b, shortWish(9999, 300))
}

func TestTakeByWords(t *testing.T) {
	d := dice(31)
	codes := map[int]int{}
	for range 500 {
		b := d.book(1+d.roll(16), 5, 120)
		if d.roll(6) == 0 {
			b.Held = heldNamed(alphabet(16)...)
		}
		w := d.wish(b.Fields, alphabet(26)[d.roll(26)])
		if d.roll(5) == 0 {
			w.Late = 0
		}
		if d.roll(8) == 0 {
			cases := wishesNotOk()
			cases[d.roll(12)].change(&w)
		}
		if d.roll(10) == 0 {
			b.Now = 10 - d.roll(20)
		}
		codes[checkTakeByWords(t, "drawn", b, w)]++
	}
	for _, code := range []int{0, 1, 2, 3, 4, 5} {
		if codes[code] < 10 {
			t.Errorf("codes %v", codes)
		}
	}
}

func TestTakeAnswersInNewMemory(t *testing.T) {
	notOk := takeBook()
	notOk.Now = 10001
	late := wishOf("e")
	late.From, late.By, late.Late = 100, 100, 0
	for want, c := range map[int]struct {
		b impl.GiveBook
		w impl.GiveWish
	}{
		0: {takeBook(), wishOf("e")},
		1: {notOk, wishOf("e")},
		2: {takeBook(), wishOf("E")},
		3: {takeBook(), wishOf("d")},
		4: {impl.GiveBook{Fields: twoFields(), Held: heldNamed(alphabet(16)...)}, wishOf("x")},
		5: {takeBook(), late},
	} {
		b, allOfBook := withRoom(c.b)
		w, allOfWish := wishWithRoom(c.w)
		keptBook, keptWish := allOfBook(), allOfWish()
		got, _, code := impl.GiveTake(b, w)
		again, _, _ := impl.GiveTake(b, w)
		if code != want {
			t.Errorf("code %d, not %d", code, want)
		}
		what := fmt.Sprintf("code %d", want)
		checkNewMemory(t, what, got, memoryOfBook("argument", b), memoryOfWish(w), memoryOfBook("another answer", again))
		if !reflect.DeepEqual(allOfBook(), keptBook) || !reflect.DeepEqual(allOfWish(), keptWish) {
			t.Errorf("%s: an argument was changed", what)
		}
	}
	empty := impl.GiveBook{Fields: make([]impl.GiveField, 0, 4), Held: make([]impl.GiveHeld, 0, 4)}
	got, _, _ := impl.GiveTake(empty, wishOf("x"))
	checkNewMemory(t, "empty lists with room", got, memoryOfBook("argument", empty))
}

func TestTakeOfMuch(t *testing.T) {
	w := wishOf("x")
	w.Ways = slices.Repeat(w.Ways, 50000)
	checkTake(t, "very many ways", takeBook(), w, takeBook(), impl.GiveChoice{}, 2)
	w = wishOf("x")
	w.Late = math.MaxInt
	checkTake(t, "very late", takeBook(), w, takeBook(), impl.GiveChoice{}, 2)
}
