package tests

import (
	"fmt"
	"slices"
	"testing"

	"loop.example/lapgive/impl"
)

// Books with runways alone from which the rows of events begin.
func firstBooks() []impl.GiveBook {
	four := []impl.GiveField{{Name: "a", X: 2, Y: 2}, {Name: "b", X: 2, Y: 13}, {Name: "c", X: 13, Y: 2}, {Name: "d", X: 13, Y: 13}}
	corners := []impl.GiveField{{Name: "e", X: 0, Y: 0}, {Name: "n", X: 0, Y: 5}, {Name: "s", X: 5, Y: 0}, {Name: "w", X: 5, Y: 5}}
	return []impl.GiveBook{
		{Fields: twoFields()},
		{Fields: twoFields()[:1]},
		{Fields: four},
		{Fields: corners},
		{Now: 5000, Fields: four},
		{Now: 9970, Fields: twoFields()},
		{Now: 9970, Fields: corners},
	}
}

func namesOfRows() []string {
	return append(alphabet(14), "a-", "aa", "b0", "ba", "zz", "-")
}

// An event that may do, or nearly so: each of its parts is filled, whatever its Kind.
func (d *dice) event(b impl.GiveBook) impl.GiveEvent {
	names := namesOfRows()
	e := impl.GiveEvent{
		Kind: []int{1, 1, 1, 1, 2, 2, 2, 3, 3, 4, 4, 4}[d.roll(12)],
		Name: names[d.roll(len(names))],
		Took: d.roll(2) == 0,
		Wish: d.wish(b.Fields, names[d.roll(len(names))]),
		Tube: d.tubeTo(b.Fields, 7, b.Now+d.roll(40)),
	}
	if len(b.Held) > 0 && d.roll(3) > 0 {
		e.Name = b.Held[d.roll(len(b.Held))].Name
	}
	e.Wish.From, e.Wish.By = min(10000, e.Wish.From/3+b.Now-d.roll(4)), min(10000, e.Wish.By/3+b.Now+d.roll(4))
	e.Wish.Late = d.roll(25)
	switch d.roll(30) {
	case 0:
		e.Kind = []int{-1, 0, 5, 99}[d.roll(4)]
	case 1:
		cases := tubesNotOk()
		e.Tube = cases[d.roll(len(cases))]
	case 2:
		e.Tube = laterBy(e.Tube, -50)
	case 3:
		e.Wish.Name, e.Name = "", "NOBODY"
	case 4:
		cases := wishesNotOk()
		cases[d.roll(13)].change(&e.Wish)
	}
	if place := placeIn(b, e.Name); place >= 0 && d.roll(3) == 0 {
		e.Tube = laterBy(b.Held[place].Tube, d.roll(4))
	}
	return e
}

// Most ticks are wishes in their place, which may be very late, so that the book comes to be full.
func inARush(e impl.GiveEvent, turn int) impl.GiveEvent {
	if e.Kind == impl.GiveTicks && turn > 0 {
		e.Kind = impl.GiveWishes
		e.Wish.Late *= 12
	}
	return e
}

// Who is named by an event, if somebody is.
func namedBy(e impl.GiveEvent) string {
	switch e.Kind {
	case 1:
		return e.Wish.Name
	case 2, 3:
		return e.Name
	}
	return ""
}

// Promise 1: no two come too near, whichever of their tubes each flies.
func checkApart(t *testing.T, b impl.GiveBook) {
	t.Helper()
	for place, one := range b.Held {
		for _, other := range b.Held[place+1:] {
			for _, mine := range [][]impl.GiveBox{one.Tube, one.Next} {
				for _, theirs := range [][]impl.GiveBox{other.Tube, other.Next} {
					if listsAreNear(mine, theirs) {
						t.Fatalf("%s and %s come too near: %+v", one.Name, other.Name, b)
					}
				}
			}
		}
	}
}

// Promise 2: each Tube and each Next ends on a runway, on the ground.
func checkLands(t *testing.T, b impl.GiveBook) {
	t.Helper()
	for _, held := range b.Held {
		if len(held.Tube) == 0 {
			t.Fatalf("%s holds nothing: %+v", held.Name, b)
		}
		for _, tube := range [][]impl.GiveBox{held.Tube, held.Next} {
			if len(tube) > 0 && !tubeIsOk(b.Fields, tube) {
				t.Fatalf("%s does not land: %+v", held.Name, b)
			}
		}
	}
}

// Promise 2, as it is now, and from every tick on.
func checkLandsFromEveryTick(t *testing.T, b impl.GiveBook) {
	t.Helper()
	for _, held := range b.Held {
		for _, tube := range [][]impl.GiveBox{held.Tube, held.Next} {
			if len(tube) == 0 {
				continue
			}
			end := tube[len(tube)-1]
			for tick := b.Now; tick <= end.Out; tick++ {
				left := impl.GiveCut(tube, tick)
				if !tubeIsOk(b.Fields, left) || startsBelow(left, tick) {
					t.Fatalf("%s does not land from %d on: %+v", held.Name, tick, b)
				}
			}
			if len(impl.GiveCut(tube, end.Out+1)) != 0 {
				t.Fatalf("%s is left behind the end: %+v", held.Name, b)
			}
		}
	}
}

// Promise 3: who is not named keeps what they hold from Now on, and nobody else comes in.
func checkOthersKeep(t *testing.T, before impl.GiveBook, e impl.GiveEvent, after impl.GiveBook) {
	t.Helper()
	var want []impl.GiveHeld
	for _, held := range before.Held {
		if left, any := heldFrom(held, after.Now); any && held.Name != namedBy(e) {
			want = append(want, left)
		}
	}
	others := slices.DeleteFunc(slices.Clone(after.Held), func(h impl.GiveHeld) bool { return h.Name == namedBy(e) })
	if !slices.EqualFunc(others, want, sameHeld) {
		t.Fatalf("%+v: the others hold\n%+v, not\n%+v", e, others, want)
	}
}

func TestLongRowsOfEvents(t *testing.T) {
	seen := map[[2]int]int{}
	most := 0
	for start, first := range firstBooks() {
		for seed := range 4 {
			d := dice(100*start + seed)
			b := first
			for range 250 {
				e := d.event(b)
				if seed == 3 {
					e = inARush(e, d.roll(8))
				}
				before := copyBook(b)
				after, code := impl.GiveStep(b, e)
				want, wantCode := stepByWords(before, e)
				checkBook(t, fmt.Sprintf("start %d, seed %d, %+v of %+v", start, seed, e, b), after, code, want, wantCode)
				if t.Failed() {
					return
				}
				if !sameBook(b, before) || !impl.GiveBookOk(after) {
					t.Fatalf("%+v: %+v", e, after)
				}
				checkApart(t, after)
				checkLands(t, after)
				checkOthersKeep(t, before, e, after)
				b = after
				seen[[2]int{e.Kind, code}]++
				most = max(most, len(b.Held))
			}
			checkLandsFromEveryTick(t, b)
		}
	}
	for _, kind := range [][2]int{{1, 0}, {1, 2}, {1, 3}, {1, 4}, {1, 5}, {2, 0}, {2, 2}, {2, 5}, {2, 6}, {2, 7}, {3, 0}, {3, 6}, {3, 8}, {4, 0}, {4, 2}, {5, 2}} {
		if seen[kind] < 10 {
			t.Errorf("Kind %d with code %d was seen %d times", kind[0], kind[1], seen[kind])
		}
	}
	if most != impl.GiveMaxHeld {
		t.Errorf("%d hold something at most", most)
	}
}

// Promises 1 and 7: whoever is sent another tube may fly it at once, or never, and is heard of late, or never:
// what they fly is held, and nobody flies near to anybody.
func TestWhateverAnybodyFlies(t *testing.T) {
	var changed, silent int
	for start, first := range firstBooks() {
		for seed := range 4 {
			d := dice(100*start + seed + 50)
			b, flies := first, map[string][]impl.GiveBox{}
			for range 200 {
				e := d.event(b)
				place := placeIn(b, e.Name)
				if e.Kind == impl.GiveHears && place >= 0 {
					e.Took = slices.Equal(leftOf(flies[e.Name], b.Now), b.Held[place].Next)
				}
				after, code := impl.GiveStep(b, e)
				switch {
				case code == 0 && e.Kind == impl.GiveWishes:
					flies[e.Wish.Name] = after.Held[placeIn(after, e.Wish.Name)].Tube
				case code == 0 && e.Kind == impl.GiveAmends && d.roll(2) == 0:
					flies[e.Name] = e.Tube
					changed++
				case code == 0 && e.Kind == impl.GiveTicks && len(after.Held) < len(b.Held):
					silent++
				}
				b = after
				checkFlights(t, b, flies)
			}
		}
	}
	if changed < 50 || silent < 50 {
		t.Errorf("%d changed what they fly, %d times somebody had landed", changed, silent)
	}
}

func checkFlights(t *testing.T, b impl.GiveBook, flies map[string][]impl.GiveBox) {
	t.Helper()
	for name, tube := range flies {
		left := leftOf(tube, b.Now)
		if len(left) == 0 {
			continue
		}
		place := placeIn(b, name)
		if place < 0 || !slices.Equal(left, b.Held[place].Tube) && !slices.Equal(left, b.Held[place].Next) {
			t.Fatalf("%s flies %+v, which is not held: %+v", name, left, b)
		}
		for other, theirs := range flies {
			if name < other && listsAreNear(left, leftOf(theirs, b.Now)) {
				t.Fatalf("%s and %s fly too near: %+v", name, other, b)
			}
		}
	}
}

// The book of one row, tick by tick to its end: each lands in silence.
func TestSilenceLands(t *testing.T) {
	for start, first := range firstBooks() {
		d := dice(7 + start)
		b := first
		for range 120 {
			e := d.event(b)
			if e.Kind != impl.GiveTicks || d.roll(4) == 0 {
				b, _ = impl.GiveStep(b, e)
			}
		}
		if len(b.Held) == 0 {
			t.Fatalf("start %d: nobody holds anything", start)
		}
		checkLandsFromEveryTick(t, b)
		whole := copyBook(b)
		for len(b.Held) > 0 && b.Now < 10000 {
			b, _ = impl.GiveStep(b, impl.GiveEvent{Kind: impl.GiveTicks})
			atOnce, code := impl.GiveTick(whole, b.Now-whole.Now)
			checkBook(t, "at once", b, 0, atOnce, code)
			checkApart(t, b)
			checkLands(t, b)
		}
		for _, held := range b.Held {
			if b.Now < 10000 || held.Tube[len(held.Tube)-1].Out != 10000 {
				t.Errorf("start %d: %+v never lands", start, held)
			}
		}
	}
}
