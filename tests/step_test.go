package tests

import (
	"fmt"
	"reflect"
	"testing"

	"loop.example/lapgive/impl"
)

func checkStep(t *testing.T, what string, b impl.GiveBook, e impl.GiveEvent, want impl.GiveBook, wantCode int) {
	t.Helper()
	got, code := impl.GiveStep(b, e)
	checkBook(t, what, got, code, want, wantCode)
}

// What the function answers that the Kind of an event names.
func stepByFunction(b impl.GiveBook, e impl.GiveEvent) (impl.GiveBook, int) {
	switch e.Kind {
	case impl.GiveWishes:
		after, _, code := impl.GiveTake(b, e.Wish)
		return after, code
	case impl.GiveAmends:
		return impl.GiveAmend(b, e.Name, e.Tube)
	case impl.GiveHears:
		return impl.GiveHear(b, e.Name, e.Took)
	}
	return impl.GiveTick(b, 1)
}

type stepCase struct {
	name  string
	b     impl.GiveBook
	event impl.GiveEvent
	want  int
}

// An event of each Kind with each of its codes, with nothing in it that its Kind does not name.
func stepCases() []stepCase {
	late := wishOf("e")
	late.From, late.By, late.Late = 100, 100, 0
	many := impl.GiveBook{Fields: twoFields(), Held: heldNamed(alphabet(16)...)}
	notOk := fullBook()
	notOk.Now = 11
	last := impl.GiveBook{Now: 10000, Fields: twoFields(), Held: []impl.GiveHeld{{Name: "kl", Tube: stayOnA(10000, 10000)}}}
	wished := func(w impl.GiveWish) impl.GiveEvent { return impl.GiveEvent{Kind: 1, Wish: w} }
	sent := func(name string, tube []impl.GiveBox) impl.GiveEvent {
		return impl.GiveEvent{Kind: 2, Name: name, Tube: tube}
	}
	heard := func(name string, took bool) impl.GiveEvent { return impl.GiveEvent{Kind: 3, Name: name, Took: took} }
	ticked := impl.GiveEvent{Kind: 4}
	return []stepCase{
		{"given", takeBook(), wished(wishOf("e")), 0},
		{"given ahead of all", takeBook(), wished(wishOf("a")), 0},
		{"wished in a book that is not ok", notOk, wished(wishOf("e")), 1},
		{"wished, not ok", takeBook(), wished(wishOf("E")), 2},
		{"wished by who holds something", takeBook(), wished(wishOf("d")), 3},
		{"wished in a full book", many, wished(wishOf("x")), 4},
		{"wished, not free", takeBook(), wished(late), 5},
		{"sent", amendBook(), sent("kl", stayOnB(20, 30)), 0},
		{"sent in a book that is not ok", notOk, sent("kl", stayOnB(20, 30)), 1},
		{"sent, below Now", amendBook(), sent("kl", stayOnB(9, 30)), 2},
		{"sent, empty", amendBook(), sent("kl", nil), 2},
		{"sent to nobody", amendBook(), sent("k", stayOnB(20, 30)), 6},
		{"sent to the empty name", amendBook(), sent("", stayOnB(20, 30)), 6},
		{"sent, a second one", fullBook(), sent("kl", stayOnB(20, 30)), 7},
		{"sent, not free", amendBook(), sent("kl", stayOnA(20, 30)), 5},
		{"taken", fullBook(), heard("kl", true), 0},
		{"refused", fullBook(), heard("kl", false), 0},
		{"heard in a book that is not ok", notOk, heard("kl", true), 1},
		{"heard of nobody", fullBook(), heard("x", true), 6},
		{"heard of the empty name", fullBook(), heard("", false), 6},
		{"heard of what was not sent", amendBook(), heard("kl", true), 8},
		{"a tick", fullBook(), ticked, 0},
		{"a tick at which a Tube ends", bookOfOne(stayOnA(10, 10), stayOnB(10, 11)), ticked, 0},
		{"a tick at which all ends", bookOfOne(stayOnA(10, 10), nil), ticked, 0},
		{"a tick in a book that is not ok", notOk, ticked, 1},
		{"a tick beyond all", last, ticked, 2},
	}
}

func TestKindsOfEvents(t *testing.T) {
	kinds := [4]int{impl.GiveWishes, impl.GiveAmends, impl.GiveHears, impl.GiveTicks}
	if kinds != [4]int{1, 2, 3, 4} {
		t.Error(kinds)
	}
}

func TestStepAgainstTheFunctions(t *testing.T) {
	for _, c := range stepCases() {
		want, code := stepByFunction(c.b, c.event)
		if code != c.want {
			t.Errorf("%s: code %d, not %d", c.name, code, c.want)
		}
		checkStep(t, c.name, c.b, c.event, want, code)
		byWords, code := stepByWords(c.b, c.event)
		checkStep(t, c.name+", by words", c.b, c.event, byWords, code)
	}
}

// What a Kind does not name may be whatever it is.
func TestStepLooksAtWhatTheKindNames(t *testing.T) {
	far := impl.GiveBox{X: -1 << 40, Y: 1 << 40, Low: 9, High: -9, In: -1 << 40, Out: 1 << 40}
	others := []impl.GiveEvent{
		{Name: "ba", Took: true, Wish: wishOf("lh"), Tube: stayOnB(70, 80)},
		{Name: "x", Took: false, Wish: wishOf("x"), Tube: stayOnA(0, 10000)},
		{Name: "\xff\x00", Took: true, Wish: impl.GiveWish{Name: "-?", Quick: -1, Late: 1 << 60}, Tube: []impl.GiveBox{far}},
	}
	for _, c := range stepCases() {
		for _, other := range others {
			e := other
			e.Kind = c.event.Kind
			switch e.Kind {
			case 1:
				e.Wish = c.event.Wish
			case 2:
				e.Name, e.Tube = c.event.Name, c.event.Tube
			case 3:
				e.Name, e.Took = c.event.Name, c.event.Took
			}
			want, code := stepByFunction(c.b, c.event)
			checkStep(t, c.name, c.b, e, want, code)
		}
	}
}

func TestStepOfNoKind(t *testing.T) {
	for _, kind := range append(farNumbers(), -2, -1, 0, 5, 6, 1<<32+1, 1<<32+4) {
		for _, c := range stepCases() {
			e := c.event
			e.Kind = kind
			want, code := c.b, 2
			if c.want == 1 {
				want, code = impl.GiveBook{}, 1
			}
			checkStep(t, fmt.Sprintf("%s, Kind %d", c.name, kind), c.b, e, want, code)
		}
	}
}

func TestStepInABookThatIsNotOk(t *testing.T) {
	for _, wrong := range booksNotOk() {
		b := fullBook()
		wrong.change(&b)
		for _, c := range stepCases() {
			for _, kind := range []int{c.event.Kind, -1, 0, 5, 1 << 40} {
				e := c.event
				e.Kind = kind
				checkStep(t, wrong.name+", "+c.name, b, e, impl.GiveBook{}, 1)
			}
		}
	}
}

func TestStepAnswersInNewMemory(t *testing.T) {
	for _, c := range stepCases() {
		for _, kind := range []int{c.event.Kind, 5} {
			b, allOfBook := withRoom(c.b)
			w, allOfWish := wishWithRoom(c.event.Wish)
			room := append(append([]impl.GiveBox{}, c.event.Tube...), impl.GiveBox{X: -9})
			e := c.event
			e.Kind, e.Wish, e.Tube = kind, w, room[:len(e.Tube)]
			keptBook, keptWish, keptTube := allOfBook(), allOfWish(), append([]impl.GiveBox{}, room...)
			got, _ := impl.GiveStep(b, e)
			again, _ := impl.GiveStep(b, e)
			checkNewMemory(t, c.name, got, memoryOfBook("argument", b), memoryOfWish(w), memoryOfBook("another answer", again), []memory{memoryOf("Tube", room)})
			if !reflect.DeepEqual(allOfBook(), keptBook) || !reflect.DeepEqual(allOfWish(), keptWish) || !reflect.DeepEqual(room, keptTube) {
				t.Errorf("%s: an argument was changed", c.name)
			}
		}
	}
}
