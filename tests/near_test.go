package tests

import (
	"math"
	"slices"
	"testing"

	"loop.example/lapgive/impl"
)

func nearBothWays(t *testing.T, name string, a []impl.GiveBox, b []impl.GiveBox, want bool) {
	t.Helper()
	if impl.GiveNear(a, b) != want {
		t.Errorf("%s: not %v", name, want)
	}
	if impl.GiveNear(b, a) != want {
		t.Errorf("%s, the other way round: not %v", name, want)
	}
}

func TestJustTooNearAndJustNot(t *testing.T) {
	mid := impl.GiveBox{X: 5, Y: 5, Low: 2, High: 3, In: 10, Out: 12}
	cases := []struct {
		name string
		box  impl.GiveBox
		want bool
	}{
		{"same", mid, true},
		{"X 1 more", impl.GiveBox{X: 6, Y: 5, Low: 2, High: 3, In: 10, Out: 12}, true},
		{"X 2 more", impl.GiveBox{X: 7, Y: 5, Low: 2, High: 3, In: 10, Out: 12}, false},
		{"Y 1 more", impl.GiveBox{X: 5, Y: 6, Low: 2, High: 3, In: 10, Out: 12}, true},
		{"Y 2 more", impl.GiveBox{X: 5, Y: 7, Low: 2, High: 3, In: 10, Out: 12}, false},
		{"across a corner", impl.GiveBox{X: 6, Y: 4, Low: 2, High: 3, In: 10, Out: 12}, true},
		{"X 1, Y 2", impl.GiveBox{X: 4, Y: 7, Low: 2, High: 3, In: 10, Out: 12}, false},
		{"level above", impl.GiveBox{X: 5, Y: 5, Low: 4, High: 6, In: 10, Out: 12}, false},
		{"level met above", impl.GiveBox{X: 5, Y: 5, Low: 3, High: 6, In: 10, Out: 12}, true},
		{"level below", impl.GiveBox{X: 5, Y: 5, Low: 0, High: 1, In: 10, Out: 12}, false},
		{"level met below", impl.GiveBox{X: 5, Y: 5, Low: 0, High: 2, In: 10, Out: 12}, true},
		{"tick behind", impl.GiveBox{X: 5, Y: 5, Low: 2, High: 3, In: 13, Out: 20}, false},
		{"tick met behind", impl.GiveBox{X: 5, Y: 5, Low: 2, High: 3, In: 12, Out: 20}, true},
		{"tick ahead", impl.GiveBox{X: 5, Y: 5, Low: 2, High: 3, In: 0, Out: 9}, false},
		{"tick met ahead", impl.GiveBox{X: 5, Y: 5, Low: 2, High: 3, In: 0, Out: 10}, true},
	}
	for _, c := range cases {
		nearBothWays(t, c.name, []impl.GiveBox{mid}, []impl.GiveBox{c.box}, c.want)
	}
}

// One box against all that are around it, by the words of the document.
func TestNearAgainstTheWords(t *testing.T) {
	mid := impl.GiveBox{X: 5, Y: 5, Low: 2, High: 3, In: 10, Out: 12}
	for x := 3; x <= 7; x++ {
		for y := 3; y <= 7; y++ {
			for levels := range 49 {
				for ticks := range 64 {
					box := impl.GiveBox{X: x, Y: y, Low: levels / 7, High: levels % 7, In: 7 + ticks/8, Out: 7 + ticks%8}
					cells := distance(x, 5) < 2 && distance(y, 5) < 2
					want := boxIsOk(box) && cells && levelInCommon(mid, box) && tickInCommon(mid, box)
					if impl.GiveNear([]impl.GiveBox{mid}, []impl.GiveBox{box}) != want {
						t.Fatalf("%+v and %+v: not %v", mid, box, want)
					}
				}
			}
		}
	}
}

func TestNearAtTheLimits(t *testing.T) {
	for _, corner := range [][2]int{{0, 0}, {0, 15}, {15, 0}, {15, 15}} {
		box := widest(corner[0], corner[1])
		for _, other := range []impl.GiveBox{
			{X: corner[0], Y: corner[1], Low: 6, High: 6, In: 10000, Out: 10000},
			{X: corner[0], Y: corner[1]},
		} {
			nearBothWays(t, "a corner", []impl.GiveBox{box}, []impl.GiveBox{other}, true)
		}
	}
}

func TestBoxesNotOkAreNearToNothing(t *testing.T) {
	all := []impl.GiveBox{widest(0, 0), widest(15, 15)}
	for _, c := range boxesNotOk() {
		nearBothWays(t, c.name, all, []impl.GiveBox{c.box}, false)
		nearBothWays(t, c.name+", with itself", []impl.GiveBox{c.box}, []impl.GiveBox{c.box}, false)
		// It hides no other one.
		for _, list := range [][]impl.GiveBox{{c.box, widest(0, 0)}, {widest(0, 0), c.box}} {
			nearBothWays(t, c.name+", beside one that is", all, list, true)
		}
	}
}

func TestNearWithFarNumbers(t *testing.T) {
	all := []impl.GiveBox{widest(0, 0), widest(15, 15)}
	for number := range 6 {
		for _, far := range farNumbers() {
			for _, cell := range []int{0, 15} {
				box := widest(cell, cell)
				*numbersOf(&box)[number] = far
				nearBothWays(t, "a far number", all, []impl.GiveBox{box}, false)
			}
		}
	}
	lowest := impl.GiveBox{X: math.MinInt, Y: math.MinInt, Low: math.MinInt, High: math.MaxInt, In: math.MinInt, Out: math.MaxInt}
	highest := impl.GiveBox{X: math.MaxInt, Y: math.MaxInt, Low: math.MinInt, High: math.MaxInt, In: math.MinInt, Out: math.MaxInt}
	nearBothWays(t, "far numbers, a sum apart", []impl.GiveBox{lowest}, []impl.GiveBox{highest}, false)
}

func TestEmptyListsAreNearToNothing(t *testing.T) {
	for _, empty := range [][]impl.GiveBox{nil, {}} {
		nearBothWays(t, "empty", empty, plainTube(), false)
		nearBothWays(t, "both empty", empty, nil, false)
	}
}

func TestNearAtAnyPlaceOfEitherList(t *testing.T) {
	// Longer than a tube may be, and no tubes: any lists are looked at.
	size := 60
	for i := 0; i < size; i += 7 {
		for j := 0; j < size; j += 3 {
			a := slices.Repeat([]impl.GiveBox{{X: 1, Y: 1, In: 0, Out: 9}}, size)
			b := slices.Repeat([]impl.GiveBox{{X: 9, Y: 9, In: 0, Out: 9}}, size)
			nearBothWays(t, "apart at all places", a, b, false)
			a[i] = impl.GiveBox{X: 5, Y: 5, In: 20, Out: 30}
			nearBothWays(t, "apart at all places yet", a, b, false)
			b[j] = impl.GiveBox{X: 4, Y: 6, High: 2, In: 30, Out: 31}
			nearBothWays(t, "near at one", a, b, true)
		}
	}
}

// A tick of one pair and a cell of another are not in common.
func TestNearIsOfOnePair(t *testing.T) {
	a := []impl.GiveBox{{X: 1, Y: 1, In: 0, Out: 9}, {X: 5, Y: 5, In: 10, Out: 19}}
	b := []impl.GiveBox{{X: 5, Y: 5, In: 0, Out: 9}, {X: 1, Y: 1, In: 10, Out: 19}}
	nearBothWays(t, "cells at other ticks", a, b, false)
}

func TestNearWritesNothing(t *testing.T) {
	a, b := plainTube(), plainTube()
	if !impl.GiveNear(a[:2], b[:3]) || !slices.Equal(a, plainTube()) || !slices.Equal(b, plainTube()) {
		t.Error("an argument was changed")
	}
}
