package tests

import (
	"math"
	"reflect"
	"slices"
	"testing"

	"loop.example/lapgive/impl"
)

// What the document says of a choice.
func choiceIsFree(b impl.GiveBook, w impl.GiveWish, c impl.GiveChoice) bool {
	tube := impl.GiveTubeOf(w, c.Way, c.Level, c.Late)
	if !impl.GiveTubeOk(b.Fields, tube) {
		return false
	}
	for _, box := range tube {
		if box.In < b.Now {
			return false
		}
	}
	return !slices.ContainsFunc(b.Held, func(h impl.GiveHeld) bool {
		return h.Name != w.Name && (impl.GiveNear(tube, h.Tube) || impl.GiveNear(tube, h.Next))
	})
}

// Every Late, Way and Level is tried one by one.
func choicesByTrying(b impl.GiveBook, w impl.GiveWish) []impl.GiveChoice {
	var free []impl.GiveChoice
	for late := 0; late <= w.Late; late++ {
		for way := range w.Ways {
			for level := range w.Levels {
				if c := (impl.GiveChoice{Late: late, Way: way, Level: level}); choiceIsFree(b, w, c) {
					free = append(free, c)
				}
			}
		}
	}
	return free
}

// GiveChoices and GiveBest are held against what is wanted.
func checkChoices(t *testing.T, what string, b impl.GiveBook, w impl.GiveWish, want []impl.GiveChoice) {
	t.Helper()
	if got := impl.GiveChoices(b, w); !slices.Equal(got, want) {
		t.Errorf("%s: choices %v, not %v, of\n%+v\n%+v", what, got, want, w, b)
	}
	var first impl.GiveChoice
	if len(want) > 0 {
		first = want[0]
	}
	if got, ok := impl.GiveBest(b, w); got != first || ok != (len(want) > 0) {
		t.Errorf("%s: best %v %v, not %v, of\n%+v\n%+v", what, got, ok, first, w, b)
	}
}

// The book and the wish are ok, and each choice is tried.
func checkByTrying(t *testing.T, what string, b impl.GiveBook, w impl.GiveWish) []impl.GiveChoice {
	t.Helper()
	if !impl.GiveBookOk(b) || !impl.GiveWishOk(b.Fields, w) {
		t.Fatalf("%s: not ok:\n%+v\n%+v", what, b, w)
	}
	want := choicesByTrying(b, w)
	checkChoices(t, what, b, w, want)
	return want
}

// A wish that leaves the field a for the field beside it at a tick and is on the ground all the time.
func shortWish(from int, late int) impl.GiveWish {
	return impl.GiveWish{
		Name: "kl", Quick: 1, Slow: 1, From: from, By: from, Late: late,
		Ways: []impl.GiveWay{wayOfSize(2)}, Levels: []int{1},
	}
}

// The choices of a wish with one way and one level, by how late they are.
func lates(from int, to int) []impl.GiveChoice {
	var some []impl.GiveChoice
	for late := from; late <= to; late++ {
		some = append(some, impl.GiveChoice{Late: late})
	}
	return some
}

func TestChoicesWhereNobodyHoldsAnything(t *testing.T) {
	b, w := impl.GiveBook{Fields: twoFields()}, plainWish()
	all := checkByTrying(t, "all", b, w)
	if len(all) != 41*2*2 {
		t.Errorf("%d choices", len(all))
	}
	w.Late = 1
	checkChoices(t, "in order", b, w, []impl.GiveChoice{
		{Late: 0, Way: 0, Level: 0}, {Late: 0, Way: 0, Level: 1}, {Late: 0, Way: 1, Level: 0}, {Late: 0, Way: 1, Level: 1},
		{Late: 1, Way: 0, Level: 0}, {Late: 1, Way: 0, Level: 1}, {Late: 1, Way: 1, Level: 0}, {Late: 1, Way: 1, Level: 1},
	})
	w.Late = 0
	checkByTrying(t, "not late", b, w)
	w.Late = 300
	w.Ways = slices.Repeat(w.Ways[1:], 3)
	w.Levels = []int{6, 1, 5, 2, 4, 3}
	if got := checkByTrying(t, "as many as may be", b, w); len(got) != 301*3*6 {
		t.Errorf("%d choices", len(got))
	}
}

func TestOrderOfChoices(t *testing.T) {
	d := dice(19)
	for range 100 {
		b := d.book(6, 5, 80)
		w := d.wish(b.Fields, "x")
		got := impl.GiveChoices(b, w)
		for place := 1; place < len(got); place++ {
			one, next := got[place-1], got[place]
			if slices.Compare([]int{one.Late, one.Way, one.Level}, []int{next.Late, next.Way, next.Level}) >= 0 {
				t.Fatalf("%v is ahead of %v", one, next)
			}
		}
	}
}

// Somebody else holds the field a for some ticks; a wish is in it and beside it for a tick each.
func TestChoicesBesideATube(t *testing.T) {
	b := impl.GiveBook{Fields: fieldsBeside(), Held: []impl.GiveHeld{{Name: "lh", Tube: stayOnA(10, 12)}}}
	for _, c := range []struct {
		name       string
		from, late int
		want       []impl.GiveChoice
	}{
		{"all, ahead of it", 0, 8, lates(0, 8)},
		{"some, till just ahead of it", 0, 10, lates(0, 8)},
		{"some, ahead of it and behind it", 5, 10, append(lates(0, 3), lates(8, 10)...)},
		{"some, from just behind it", 9, 4, lates(4, 4)},
		{"none", 9, 3, nil},
		{"none, at once", 12, 0, nil},
		{"all, behind it", 13, 5, lates(0, 5)},
	} {
		w := shortWish(c.from, c.late)
		checkChoices(t, c.name, b, w, c.want)
		checkByTrying(t, c.name, b, w)
		asNext := copyBook(b)
		asNext.Held[0].Tube, asNext.Held[0].Next = stayOnA(900, 900), stayOnA(10, 12)
		checkChoices(t, c.name+", as a Next", asNext, w, c.want)
		both := copyBook(b)
		both.Held[0].Tube, both.Held[0].Next = stayOnA(10, 11), stayOnA(11, 12)
		checkChoices(t, c.name+", as a Tube and a Next", both, w, c.want)
		w.Name = "lh"
		checkChoices(t, c.name+", one's own", b, w, lates(0, c.late))
		checkChoices(t, c.name+", one's own Next", asNext, w, lates(0, c.late))
		w.Name = "lha"
		checkChoices(t, c.name+", another name", both, w, c.want)
	}
}

// One's own tubes do not count, but those of the others do.
func TestChoicesOfWhoHoldsSomething(t *testing.T) {
	b := impl.GiveBook{Fields: fieldsBeside(), Held: []impl.GiveHeld{
		{Name: "ba", Tube: stayOnA(10, 12), Next: stayOnA(20, 22)},
		{Name: "kl", Tube: stayOnA(30, 32), Next: stayOnA(40, 42)},
		{Name: "lh", Tube: stayOnA(50, 52), Next: stayOnA(60, 62)},
	}}
	free := func(spans ...[2]int) []impl.GiveChoice {
		var some []impl.GiveChoice
		for _, s := range spans {
			some = append(some, lates(s[0], s[1])...)
		}
		return some
	}
	for name, want := range map[string][]impl.GiveChoice{
		"ba": free([2]int{0, 28}, [2]int{33, 38}, [2]int{43, 48}, [2]int{53, 58}, [2]int{63, 70}),
		"kl": free([2]int{0, 8}, [2]int{13, 18}, [2]int{23, 48}, [2]int{53, 58}, [2]int{63, 70}),
		"lh": free([2]int{0, 8}, [2]int{13, 18}, [2]int{23, 28}, [2]int{33, 38}, [2]int{43, 70}),
		"k":  free([2]int{0, 8}, [2]int{13, 18}, [2]int{23, 28}, [2]int{33, 38}, [2]int{43, 48}, [2]int{53, 58}, [2]int{63, 70}),
	} {
		w := shortWish(0, 70)
		w.Name = name
		checkChoices(t, name, b, w, want)
		checkByTrying(t, name, b, w)
	}
}

// What is free by another way or on another level comes ahead of what is later.
func TestBestByWayAndLevel(t *testing.T) {
	fields := []impl.GiveField{{Name: "a", X: 1, Y: 5}, {Name: "b", X: 7, Y: 5}, {Name: "c", X: 4, Y: 9}}
	straight := way(cell(1, 5), cell(2, 5), cell(3, 5), cell(4, 5), cell(5, 5), cell(6, 5), cell(7, 5))
	around := way(cell(1, 5), cell(2, 4), cell(3, 3), cell(4, 2), cell(5, 3), cell(6, 4), cell(7, 5))
	w := impl.GiveWish{Name: "kl", Quick: 1, Slow: 1, From: 10, By: 10, Late: 5, Ways: []impl.GiveWay{straight, around}, Levels: []int{3, 1, 2}}
	down := []impl.GiveBox{{X: 4, Y: 6, High: 6, In: 300, Out: 301}, {X: 4, Y: 7, High: 6, In: 301, Out: 302}, {X: 4, Y: 8, High: 6, In: 302, Out: 303}, {X: 4, Y: 9, High: 6, In: 303, Out: 304}}
	crossing := func(low int, high int, in int, out int) []impl.GiveBox {
		tube := slices.Clone(down)
		tube[0].Low, tube[0].High, tube[0].In, tube[0].Out = low, high, in, out
		for place := 1; place < 4; place++ {
			tube[place].In, tube[place].Out = out+place, out+place
		}
		return tube
	}
	for _, c := range []struct {
		name string
		tube []impl.GiveBox
		want impl.GiveChoice
	}{
		{"nothing in the way", crossing(0, 6, 300, 301), impl.GiveChoice{}},
		{"levels above", crossing(4, 6, 0, 30), impl.GiveChoice{}},
		{"the best level", crossing(3, 6, 0, 30), impl.GiveChoice{Level: 1}},
		{"the best two levels", crossing(2, 6, 0, 30), impl.GiveChoice{Level: 1}},
		{"all levels but the ground", crossing(1, 6, 0, 30), impl.GiveChoice{Way: 1}},
		{"all levels", crossing(0, 6, 0, 30), impl.GiveChoice{Way: 1}},
		{"levels that one climbs through", crossing(0, 1, 0, 30), impl.GiveChoice{Way: 1}},
	} {
		b := impl.GiveBook{Fields: fields, Held: []impl.GiveHeld{{Name: "lh", Tube: c.tube}}}
		if all := checkByTrying(t, c.name, b, w); all[0] != c.want {
			t.Errorf("%s: %v", c.name, all[0])
		}
	}
	alone := w
	alone.Ways = w.Ways[:1]
	b := impl.GiveBook{Fields: fields, Held: []impl.GiveHeld{{Name: "lh", Tube: crossing(1, 6, 0, 14)}}}
	if best, ok := impl.GiveBest(b, alone); !ok || best != (impl.GiveChoice{Late: 3, Level: 0}) {
		t.Errorf("later, for there is no other way: %v %v", best, ok)
	}
	checkByTrying(t, "no other way", b, alone)
}

func TestChoicesAndNow(t *testing.T) {
	for now := range 40 {
		b := impl.GiveBook{Now: now, Fields: fieldsBeside()}
		w := shortWish(20, 10)
		checkByTrying(t, "Now", b, w)
		checkChoices(t, "Now", b, w, lates(max(0, now-20), 10))
		b.Held = []impl.GiveHeld{{Name: "lh", Tube: stayOnA(max(now, 25), max(now, 25))}}
		checkByTrying(t, "Now and somebody", b, w)
	}
	b := impl.GiveBook{Now: 10000, Fields: fieldsBeside()}
	checkByTrying(t, "the last Now", b, shortWish(9998, 300))
	checkByTrying(t, "the last Now", b, shortWish(10000, 300))
	checkByTrying(t, "long ahead of Now", b, shortWish(0, 300))
	b.Now = 300
	checkChoices(t, "as late as may be", b, shortWish(0, 300), lates(300, 300))
	b.Now = 301
	checkChoices(t, "later than may be", b, shortWish(0, 300), nil)
}

// By two cells of one tick each, the last Out is one tick behind From.
func TestChoicesAtTheEndOfAllTicks(t *testing.T) {
	b := impl.GiveBook{Fields: fieldsBeside()}
	for from, want := range map[int][]impl.GiveChoice{
		9000: lates(0, 300), 9699: lates(0, 300), 9700: lates(0, 299), 9989: lates(0, 10),
		9998: lates(0, 1), 9999: lates(0, 0), 10000: nil,
	} {
		checkChoices(t, "beyond the last tick", b, shortWish(from, 300), want)
		checkByTrying(t, "beyond the last tick", b, shortWish(from, 300))
	}
	b.Held = []impl.GiveHeld{{Name: "lh", Tube: stayOnA(9990, 9994)}}
	checkChoices(t, "behind somebody", b, shortWish(9980, 300), append(lates(0, 8), lates(15, 19)...))
	w := plainWish()
	w.From, w.By, w.Slow, w.Late = 9600, 9650, 50, 300
	b = impl.GiveBook{Fields: twoFields(), Now: 9620}
	if got := checkByTrying(t, "one way is too long", b, w); len(got) == 0 || got[0].Late != 20 {
		t.Errorf("%v", got)
	}
}

func TestChoicesAgainstTrying(t *testing.T) {
	d := dice(23)
	sizes := map[string]int{}
	var later, otherwise int
	for range 400 {
		b := d.book(1+d.roll(12), 6, 150)
		w := d.wish(b.Fields, alphabet(16)[d.roll(16)])
		if shift := d.roll(3) * 40; shift > 0 {
			b.Now = shift
			for place := range b.Held {
				b.Held[place].Tube = laterBy(b.Held[place].Tube, shift)
				b.Held[place].Next = laterBy(b.Held[place].Next, shift)
			}
		}
		got := checkByTrying(t, "of some", b, w)
		switch len(got) {
		case 0:
			sizes["none"]++
		case (w.Late + 1) * len(w.Ways) * len(w.Levels):
			sizes["all"]++
		default:
			sizes["some"]++
		}
		if len(got) > 0 && got[0].Late > 0 {
			later++
		} else if len(got) > 0 && (got[0].Way > 0 || got[0].Level > 0) {
			otherwise++
		}
	}
	if sizes["none"] < 20 || sizes["all"] < 20 || sizes["some"] < 100 || later < 50 || otherwise < 5 {
		t.Errorf("%v, later %d, otherwise %d", sizes, later, otherwise)
	}
}

func TestChoicesAgainstTryingAtTheEnd(t *testing.T) {
	d := dice(29)
	for range 100 {
		b := d.book(8, 5, 60)
		for place := range b.Held {
			b.Held[place].Tube = laterBy(b.Held[place].Tube, 9890)
			b.Held[place].Next = laterBy(b.Held[place].Next, 9890)
		}
		b.Now = 9870 + d.roll(20)
		w := d.wish(b.Fields, "x")
		w.From += 9860
		w.By += 9860
		if w.By <= 10000 {
			checkByTrying(t, "at the end", b, w)
		}
	}
}

// As many hold as much as may be, each of them beside the way of the wish.
func TestChoicesInAFullBook(t *testing.T) {
	b := impl.GiveBook{Fields: fieldsBeside()}
	for place, name := range alphabet(16) {
		held := impl.GiveHeld{Name: name}
		for box := range 40 {
			tick := place*50 + box
			held.Tube = append(held.Tube, impl.GiveBox{X: 1, Y: 1, High: 6, In: tick, Out: tick})
			held.Next = append(held.Next, impl.GiveBox{X: 2, Y: 2, High: 6, In: tick, Out: tick})
		}
		held.Next[39].X, held.Next[39].Y = 1, 1
		b.Held = append(b.Held, held)
	}
	w := shortWish(0, 300)
	w.Name, w.Levels = "x", []int{6, 5, 4, 3, 2, 1}
	w.Ways = []impl.GiveWay{wayOfSize(40), wayOfSize(11), wayOfSize(10)}
	got := impl.GiveChoices(b, w)
	if len(got) != 6*6 || got[0] != (impl.GiveChoice{Late: 40, Way: 2, Level: 0}) || got[35] != (impl.GiveChoice{Late: 290, Way: 2, Level: 5}) {
		t.Errorf("%v", got)
	}
	if best, ok := impl.GiveBest(b, w); !ok || best != got[0] {
		t.Errorf("%v %v", best, ok)
	}
}

func TestNoChoicesInABookThatIsNotOk(t *testing.T) {
	w := plainWish()
	w.From, w.By, w.Name = 400, 401, "x"
	checkChoices(t, "a book that is ok", fullBook(), w, choicesByTrying(fullBook(), w))
	if _, ok := impl.GiveBest(fullBook(), w); !ok {
		t.Fatal("none in a book that is ok")
	}
	for _, c := range booksNotOk() {
		b := fullBook()
		c.change(&b)
		for _, name := range []string{"x", "kl"} {
			w.Name = name
			checkChoices(t, c.name, b, w, nil)
		}
	}
	checkChoices(t, "Now far off", impl.GiveBook{Now: math.MaxInt, Fields: twoFields()}, w, nil)
	checkChoices(t, "Now far off", impl.GiveBook{Now: math.MinInt, Fields: twoFields()}, w, nil)
	checkChoices(t, "a book of nothing", impl.GiveBook{}, w, nil)
}

func TestNoChoicesOfAWishThatIsNotOk(t *testing.T) {
	b := impl.GiveBook{Fields: twoFields()}
	if _, ok := impl.GiveBest(b, plainWish()); !ok {
		t.Fatal("none of a wish that is ok")
	}
	for _, c := range wishesNotOk() {
		w := plainWish()
		c.change(&w)
		checkChoices(t, c.name, b, w, nil)
	}
	for _, far := range farNumbers() {
		for number := range 5 {
			w := plainWish()
			*numbersOfWish(&w)[number] = far
			checkChoices(t, "a far number", b, w, nil)
		}
		w := plainWish()
		w.Levels[1] = far
		checkChoices(t, "a far level", b, w, nil)
		w = plainWish()
		w.Ways[1].Cells[2].Y = far
		checkChoices(t, "a far cell", b, w, nil)
	}
	checkChoices(t, "nothing wished", b, impl.GiveWish{}, nil)
	only := impl.GiveBook{Fields: twoFields()[:1]}
	checkChoices(t, "a field that the book has not", only, plainWish(), nil)
}

func TestChoicesAreNewMemory(t *testing.T) {
	b, allOfBook := withRoom(fullBook())
	plain := plainWish()
	plain.Name, plain.From, plain.By = "x", 45, 46
	w, allOfWish := wishWithRoom(plain)
	keptBook, keptWish := allOfBook(), allOfWish()
	want := choicesByTrying(fullBook(), plain)
	first, second := impl.GiveChoices(b, w), impl.GiveChoices(b, w)
	if len(want) == 0 || !slices.Equal(first, want) {
		t.Fatal(first, want)
	}
	spare := first[:cap(first)]
	for place := range spare {
		spare[place] = impl.GiveChoice{Late: -7, Way: -7, Level: -7}
	}
	if best, ok := impl.GiveBest(b, w); best != want[0] || !ok {
		t.Error(best, ok)
	}
	if !slices.Equal(second, want) || !slices.Equal(impl.GiveChoices(b, w), want) {
		t.Error("two answers share memory")
	}
	if !reflect.DeepEqual(allOfBook(), keptBook) || !reflect.DeepEqual(allOfWish(), keptWish) {
		t.Error("an argument was changed")
	}
}
