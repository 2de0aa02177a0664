package tests

import (
	"fmt"
	"math"
	"reflect"
	"slices"
	"testing"

	"loop.example/lapgive/impl"
)

func checkTick(t *testing.T, what string, b impl.GiveBook, ticks int, want impl.GiveBook, wantCode int) {
	t.Helper()
	got, code := impl.GiveTick(b, ticks)
	checkBook(t, what, got, code, want, wantCode)
}

func checkTickByWords(t *testing.T, what string, b impl.GiveBook, ticks int) impl.GiveBook {
	t.Helper()
	want, code := tickByWords(b, ticks)
	checkTick(t, what, b, ticks, want, code)
	return want
}

// What is held by one, alone in a book at tick 10.
func bookOfOne(tube []impl.GiveBox, next []impl.GiveBox) impl.GiveBook {
	return impl.GiveBook{Now: 10, Fields: twoFields(), Held: []impl.GiveHeld{{Name: "kl", Tube: tube, Next: next}}}
}

func TestTickOfTheFullBook(t *testing.T) {
	at := func(now int, held ...impl.GiveHeld) impl.GiveBook {
		return impl.GiveBook{Now: now, Fields: twoFields(), Held: held}
	}
	all := fullBook().Held
	for _, c := range []struct {
		ticks int
		want  impl.GiveBook
	}{
		{0, fullBook()},
		{1, at(11, impl.GiveHeld{Name: "ba", Tube: stayOnA(11, 19), Next: all[0].Next}, all[1], all[2])},
		{9, at(19, impl.GiveHeld{Name: "ba", Tube: stayOnA(19, 19), Next: all[0].Next}, all[1], all[2])},
		{10, at(20, impl.GiveHeld{Name: "ba", Tube: stayOnA(20, 29)}, all[1], all[2])},
		{15, at(25, impl.GiveHeld{Name: "ba", Tube: stayOnA(25, 29)}, all[1], all[2])},
		{19, at(29, impl.GiveHeld{Name: "ba", Tube: stayOnA(29, 29)}, all[1], all[2])},
		{20, at(30, all[1], all[2])},
		{35, at(45, impl.GiveHeld{Name: "kl", Tube: stayOnA(45, 49)}, all[2])},
		{59, at(69, impl.GiveHeld{Name: "lh", Tube: stayOnA(69, 69)})},
		{60, at(70)},
		{9990, at(10000)},
	} {
		checkTick(t, fmt.Sprintf("%d ticks", c.ticks), fullBook(), c.ticks, c.want, 0)
	}
}

func TestHowManyTicks(t *testing.T) {
	far := append(farNumbers(), math.MinInt+10, math.MinInt+11, math.MaxInt-9, math.MaxInt-10, math.MaxInt-11)
	for _, now := range []int{0, 1, 5000, 9999, 10000} {
		held := []impl.GiveHeld{{Name: "kl", Tube: stayOnA(now, 10000)}}
		b := impl.GiveBook{Now: now, Fields: twoFields(), Held: held}
		for _, ticks := range append(far, -2, -1, 10001-now, 10002-now, 10001, 20000) {
			checkTick(t, fmt.Sprintf("%d ticks from %d", ticks, now), b, ticks, b, 2)
		}
		for _, ticks := range []int{0, min(1, 10000-now), max(0, 9999-now), 10000 - now} {
			want := impl.GiveBook{Now: now + ticks, Fields: twoFields(), Held: []impl.GiveHeld{{Name: "kl", Tube: stayOnA(now+ticks, 10000)}}}
			checkTick(t, fmt.Sprintf("%d ticks from %d", ticks, now), b, ticks, want, 0)
		}
	}
	checkTick(t, "nothing in it", impl.GiveBook{}, 7, impl.GiveBook{Now: 7}, 0)
	checkTick(t, "runways alone", impl.GiveBook{Fields: twoFields()}, 10000, impl.GiveBook{Now: 10000, Fields: twoFields()}, 0)
}

func TestTickInABookThatIsNotOk(t *testing.T) {
	for _, c := range booksNotOk() {
		b := fullBook()
		c.change(&b)
		for _, ticks := range append(farNumbers(), -1, 0, 1, 5, 10000) {
			checkTick(t, c.name, b, ticks, impl.GiveBook{}, 1)
		}
	}
	for _, now := range append(farNumbers(), -1, 10001) {
		for _, ticks := range append(farNumbers(), 0, 1) {
			checkTick(t, "Now far off", impl.GiveBook{Now: now}, ticks, impl.GiveBook{}, 1)
		}
	}
}

// A Tube that ends at a tick, by the tick that it is then.
func TestTickAndTheEndOfATube(t *testing.T) {
	empty := impl.GiveBook{Now: 20, Fields: twoFields()}
	with := func(tube []impl.GiveBox, next []impl.GiveBox) impl.GiveBook {
		b := bookOfOne(tube, next)
		b.Now = 20
		return b
	}
	for _, c := range []struct {
		name       string
		tube, next []impl.GiveBox
		want       impl.GiveBook
	}{
		{"ends at the tick ahead of Now", stayOnA(10, 19), nil, empty},
		{"ends at Now", stayOnA(10, 20), nil, with(stayOnA(20, 20), nil)},
		{"ends behind Now", stayOnA(10, 21), nil, with(stayOnA(20, 21), nil)},
		{"begins at Now", stayOnA(20, 25), nil, with(stayOnA(20, 25), nil)},
		{"begins behind Now", stayOnA(21, 25), nil, with(stayOnA(21, 25), nil)},
		{"Tube ends, Next is left", stayOnA(10, 19), stayOnB(15, 25), with(stayOnB(20, 25), nil)},
		{"Tube ends, Next ends at Now", stayOnA(10, 19), stayOnB(15, 20), with(stayOnB(20, 20), nil)},
		{"Tube ends, Next begins behind Now", stayOnA(10, 19), stayOnB(35, 45), with(stayOnB(35, 45), nil)},
		{"both end at the tick ahead of Now", stayOnA(10, 19), stayOnB(15, 19), empty},
		{"both end, the Next first", stayOnA(10, 19), stayOnB(10, 11), empty},
		{"both end, the Tube first", stayOnA(10, 11), stayOnB(10, 19), empty},
		{"Next ends, Tube is left", stayOnA(10, 25), stayOnB(10, 19), with(stayOnA(20, 25), nil)},
		{"Next ends, Tube ends at Now", stayOnA(10, 20), stayOnB(10, 19), with(stayOnA(20, 20), nil)},
		{"both are left", stayOnA(10, 20), stayOnB(12, 22), with(stayOnA(20, 20), stayOnB(20, 22))},
		{"both are left, the same", stayOnA(10, 30), stayOnA(10, 30), with(stayOnA(20, 30), stayOnA(20, 30))},
	} {
		checkTick(t, c.name, bookOfOne(c.tube, c.next), 10, c.want, 0)
		if got, _ := impl.GiveTick(bookOfOne(c.tube, c.next), 10); !impl.GiveBookOk(got) {
			t.Errorf("%s: a book that is not ok", c.name)
		}
	}
}

// What is left of each box of a Tube, and of a Next beside it that is a tick later.
func TestTickBoxByBox(t *testing.T) {
	b := impl.GiveBook{Fields: twoFields(), Held: []impl.GiveHeld{{Name: "kl", Tube: plainTube(), Next: laterBy(plainTube(), 1)}}}
	boxes := func(first int, ins ...int) []impl.GiveBox {
		left := plainTube()[first:]
		for place, in := range ins {
			left[place].In = in
		}
		return left
	}
	left := map[int][]impl.GiveBox{
		0: plainTube(), 5: plainTube(), 6: boxes(0, 6), 7: boxes(0, 7, 7), 8: boxes(0, 8, 8), 9: boxes(1, 9, 9),
		10: boxes(1, 10, 10), 11: boxes(2, 11), 12: boxes(2, 12), 13: boxes(3), 14: boxes(3, 14), 15: boxes(3, 15),
	}
	for now, tube := range left {
		got, code := impl.GiveTick(b, now)
		if code != 0 || len(got.Held) != 1 || !slices.Equal(got.Held[0].Tube, tube) {
			t.Errorf("at %d: code %d, %+v", now, code, got)
		}
		if later, has := left[now-1]; has && !slices.Equal(got.Held[0].Next, laterBy(later, 1)) {
			t.Errorf("at %d: Next %+v", now, got.Held[0].Next)
		}
	}
	got, _ := impl.GiveTick(b, 16)
	if len(got.Held) != 1 || len(got.Held[0].Next) != 0 || !slices.Equal(got.Held[0].Tube, []impl.GiveBox{{X: 4, Y: 2, High: 1, In: 16, Out: 16}}) {
		t.Errorf("at 16: %+v", got)
	}
	if got, _ = impl.GiveTick(b, 17); len(got.Held) != 0 {
		t.Errorf("at 17: %+v", got)
	}
}

// Who holds something yet, by where they stand in the book.
func TestTickLetsSomeGo(t *testing.T) {
	names := alphabet(4)
	for set := range 1 << 4 {
		b, want := impl.GiveBook{Fields: twoFields()}, impl.GiveBook{Now: 50, Fields: twoFields()}
		for place, name := range names {
			held := impl.GiveHeld{Name: name, Tube: stayOnA(10*place, 10*place+9)}
			if set>>place&1 == 1 {
				held.Next = stayOnA(100+10*place, 109+10*place)
				want.Held = append(want.Held, impl.GiveHeld{Name: name, Tube: held.Next})
			}
			b.Held = append(b.Held, held)
		}
		checkTick(t, fmt.Sprintf("of four %04b", set), b, 50, want, 0)
	}
}

// Promise 8, its first sentence.
func TestTicksAtOnceAndOneByOne(t *testing.T) {
	d := dice(41)
	for range 60 {
		b := d.book(1+d.roll(10), 6, 40)
		most := 1 + d.roll(70)
		row, parts := copyBook(b), copyBook(b)
		done := 0
		for ticks := range most + 1 {
			atOnce, code := impl.GiveTick(b, ticks)
			checkBook(t, fmt.Sprintf("%d ticks one by one", ticks), row, 0, atOnce, code)
			if !impl.GiveBookOk(atOnce) {
				t.Fatalf("%d ticks: %+v is not ok", ticks, atOnce)
			}
			if d.roll(4) == 0 {
				parts, _ = impl.GiveTick(parts, ticks-done)
				done = ticks
				checkBook(t, fmt.Sprintf("%d ticks in parts", ticks), parts, 0, atOnce, 0)
			}
			checkTickByWords(t, "by words", b, ticks)
			row, code = impl.GiveTick(row, 1)
			if code != 0 {
				t.Fatalf("code %d", code)
			}
		}
	}
}

// Each Next is kept beside its Tube as long as both last.
func TestTickByWordsOfTwoTubes(t *testing.T) {
	d := dice(43)
	kinds := map[string]int{}
	for range 400 {
		b := bookOfOne(d.tubeTo(twoFields(), 6, 10+d.roll(20)), d.tubeTo(twoFields(), 6, 10+d.roll(20)))
		after := checkTickByWords(t, "drawn", b, d.roll(50))
		switch {
		case len(after.Held) == 0:
			kinds["none"]++
		case len(after.Held[0].Next) > 0:
			kinds["both"]++
		case slices.Equal(after.Held[0].Tube, leftOf(b.Held[0].Tube, after.Now)):
			kinds["Tube"]++
		default:
			kinds["Next"]++
		}
	}
	if kinds["none"] < 20 || kinds["both"] < 20 || kinds["Tube"] < 20 || kinds["Next"] < 20 {
		t.Errorf("%v", kinds)
	}
}

func TestTickAnswersInNewMemory(t *testing.T) {
	notOk := fullBook()
	notOk.Now = 11
	for _, c := range []struct {
		b     impl.GiveBook
		ticks int
		want  int
	}{
		{fullBook(), 0, 0}, {fullBook(), 1, 0}, {fullBook(), 9, 0}, {fullBook(), 10, 0}, {fullBook(), 35, 0}, {fullBook(), 60, 0},
		{amendBook(), 30, 0}, {bookOfOne(stayOnA(10, 30), stayOnA(10, 30)), 10, 0}, {bookOfOne(stayOnA(10, 30), stayOnA(40, 50)), 25, 0},
		{fullBook(), -1, 2}, {fullBook(), 9991, 2}, {amendBook(), math.MaxInt, 2}, {notOk, 1, 1},
	} {
		b, all := withRoom(c.b)
		kept := all()
		got, code := impl.GiveTick(b, c.ticks)
		again, _ := impl.GiveTick(b, c.ticks)
		what := fmt.Sprintf("%d ticks", c.ticks)
		if code != c.want {
			t.Errorf("%s: code %d", what, code)
		}
		checkNewMemory(t, what, got, memoryOfBook("argument", b), memoryOfBook("another answer", again))
		if !reflect.DeepEqual(all(), kept) {
			t.Errorf("%s: an argument was changed", what)
		}
	}
}
