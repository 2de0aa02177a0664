package tests

import (
	"cmp"
	"reflect"
	"slices"
	"testing"

	"loop.example/lapgive/impl"
)

// The empty list and the nil list are the same value.
func sameHeld(one impl.GiveHeld, other impl.GiveHeld) bool {
	return one.Name == other.Name && slices.Equal(one.Tube, other.Tube) && slices.Equal(one.Next, other.Next)
}

func sameBook(one impl.GiveBook, other impl.GiveBook) bool {
	return one.Now == other.Now && slices.Equal(one.Fields, other.Fields) && slices.EqualFunc(one.Held, other.Held, sameHeld)
}

func checkBook(t *testing.T, what string, got impl.GiveBook, code int, want impl.GiveBook, wantCode int) {
	t.Helper()
	if code != wantCode {
		t.Errorf("%s: code %d, not %d", what, code, wantCode)
	}
	if !sameBook(got, want) {
		t.Errorf("%s:\n%+v, not\n%+v", what, got, want)
	}
}

// Where somebody of this name stands in a book, or -1.
func placeIn(b impl.GiveBook, name string) int {
	return slices.IndexFunc(b.Held, func(h impl.GiveHeld) bool { return h.Name == name })
}

func startsBelow(tube []impl.GiveBox, now int) bool {
	return slices.ContainsFunc(tube, func(box impl.GiveBox) bool { return box.In < now })
}

// What the document says of GiveTake, code by code.
func takeByWords(b impl.GiveBook, w impl.GiveWish) (impl.GiveBook, impl.GiveChoice, int) {
	none := impl.GiveChoice{}
	if !impl.GiveBookOk(b) {
		return impl.GiveBook{}, none, 1
	}
	if !impl.GiveWishOk(b.Fields, w) {
		return b, none, 2
	}
	if placeIn(b, w.Name) >= 0 {
		return b, none, 3
	}
	if len(b.Held) == 16 {
		return b, none, 4
	}
	best, ok := bestByTrying(b, w)
	if !ok {
		return b, none, 5
	}
	given := copyBook(b)
	given.Held = append(given.Held, impl.GiveHeld{Name: w.Name, Tube: tubeOfWish(w, best.Way, best.Level, best.Late)})
	slices.SortFunc(given.Held, func(one impl.GiveHeld, other impl.GiveHeld) int { return cmp.Compare(one.Name, other.Name) })
	return given, best, 0
}

// Every Late, Way and Level is tried until one is free.
func bestByTrying(b impl.GiveBook, w impl.GiveWish) (impl.GiveChoice, bool) {
	for late := 0; late <= w.Late; late++ {
		for way := range w.Ways {
			for level := range w.Levels {
				if c := (impl.GiveChoice{Late: late, Way: way, Level: level}); choiceIsFree(b, w, c) {
					return c, true
				}
			}
		}
	}
	return impl.GiveChoice{}, false
}

// What the document says of GiveAmend, code by code.
func amendByWords(b impl.GiveBook, name string, tube []impl.GiveBox) (impl.GiveBook, int) {
	if !impl.GiveBookOk(b) {
		return impl.GiveBook{}, 1
	}
	if !tubeIsOk(b.Fields, tube) || startsBelow(tube, b.Now) {
		return b, 2
	}
	place := placeIn(b, name)
	if place < 0 {
		return b, 6
	}
	if len(b.Held[place].Next) > 0 {
		return b, 7
	}
	if nearToSomebodyElse(b, name, tube) {
		return b, 5
	}
	sent := copyBook(b)
	sent.Held[place].Next = tube
	return sent, 0
}

// What the document says of GiveHear, code by code.
func hearByWords(b impl.GiveBook, name string, took bool) (impl.GiveBook, int) {
	if !impl.GiveBookOk(b) {
		return impl.GiveBook{}, 1
	}
	place := placeIn(b, name)
	if place < 0 {
		return b, 6
	}
	if len(b.Held[place].Next) == 0 {
		return b, 8
	}
	heard := copyBook(b)
	if took {
		heard.Held[place].Tube = heard.Held[place].Next
	}
	heard.Held[place].Next = nil
	return heard, 0
}

// What is left of a tube from a tick on, tick by tick and box by box.
func leftOf(tube []impl.GiveBox, from int) []impl.GiveBox {
	left := []impl.GiveBox{}
	for _, box := range tube {
		for box.In < from && box.In <= box.Out {
			box.In++
		}
		if box.In <= box.Out {
			left = append(left, box)
		}
	}
	return left
}

// What the document says of somebody when time has passed, and whether they hold anything yet.
func heldFrom(held impl.GiveHeld, now int) (impl.GiveHeld, bool) {
	tube, next := leftOf(held.Tube, now), leftOf(held.Next, now)
	if len(tube) > 0 {
		return impl.GiveHeld{Name: held.Name, Tube: tube, Next: next}, true
	}
	return impl.GiveHeld{Name: held.Name, Tube: next}, len(next) > 0
}

// What the document says of GiveTick.
func tickByWords(b impl.GiveBook, ticks int) (impl.GiveBook, int) {
	if !impl.GiveBookOk(b) {
		return impl.GiveBook{}, 1
	}
	if ticks < 0 || ticks > 10000 || b.Now+ticks > 10000 {
		return b, 2
	}
	later := impl.GiveBook{Now: b.Now + ticks, Fields: b.Fields}
	for _, held := range b.Held {
		if left, any := heldFrom(held, later.Now); any {
			later.Held = append(later.Held, left)
		}
	}
	return later, 0
}

// What the document says of GiveStep.
func stepByWords(b impl.GiveBook, e impl.GiveEvent) (impl.GiveBook, int) {
	switch {
	case !impl.GiveBookOk(b):
		return impl.GiveBook{}, 1
	case e.Kind == 1:
		after, _, code := takeByWords(b, e.Wish)
		return after, code
	case e.Kind == 2:
		return amendByWords(b, e.Name, e.Tube)
	case e.Kind == 3:
		return hearByWords(b, e.Name, e.Took)
	case e.Kind == 4:
		return tickByWords(b, 1)
	}
	return b, 2
}

// The memory of a list, spare room included.
type memory struct {
	what     string
	from, to uintptr
}

func memoryOf[T any](what string, list []T) memory {
	v := reflect.ValueOf(list)
	return memory{what, v.Pointer(), v.Pointer() + uintptr(v.Cap())*v.Type().Elem().Size()}
}

// The memory of all lists of a book, also of those that lie in its spare room.
func memoryOfBook(what string, b impl.GiveBook) []memory {
	all := []memory{memoryOf(what+": Fields", b.Fields), memoryOf(what+": Held", b.Held)}
	for _, held := range b.Held[:cap(b.Held)] {
		all = append(all, memoryOf(what+": Tube of "+held.Name, held.Tube), memoryOf(what+": Next of "+held.Name, held.Next))
	}
	return all
}

func memoryOfWish(w impl.GiveWish) []memory {
	all := []memory{memoryOf("Ways", w.Ways), memoryOf("Levels", w.Levels)}
	for _, way := range w.Ways {
		all = append(all, memoryOf("Cells", way.Cells))
	}
	return all
}

// No list of an answer shares memory with another list of it, nor with one of the arguments.
func checkNewMemory(t *testing.T, what string, answer impl.GiveBook, arguments ...[]memory) {
	t.Helper()
	mine := memoryOfBook("answer", answer)
	for place, one := range mine {
		for _, other := range append(slices.Clone(mine[place+1:]), slices.Concat(arguments...)...) {
			if one.from < other.to && other.from < one.to {
				t.Errorf("%s: %s and %s share memory", what, one.what, other.what)
			}
		}
	}
}
