package tests

import (
	"math"
	"slices"
	"testing"

	"loop.example/lapgive/impl"
)

func TestCutATube(t *testing.T) {
	tube := plainTube()
	later := func(first int, ins ...int) []impl.GiveBox {
		left := slices.Clone(tube[first:])
		for place, in := range ins {
			left[place].In = in
		}
		return left
	}
	cases := []struct {
		from int
		want []impl.GiveBox
	}{
		{math.MinInt, tube}, {-1, tube}, {0, tube}, {4, tube}, {5, tube},
		{6, later(0, 6)},
		{7, later(0, 7, 7)},
		{8, later(0, 8, 8)},
		{9, later(1, 9, 9)},
		{10, later(1, 10, 10)},
		{11, later(2, 11)},
		{12, later(2, 12)},
		{13, later(3)},
		{14, later(3, 14)},
		{15, later(3, 15)},
		{16, nil}, {10000, nil}, {10001, nil}, {math.MaxInt, nil},
	}
	for _, c := range cases {
		if got := impl.GiveCut(tube, c.from); !slices.Equal(got, c.want) {
			t.Errorf("from %d: %+v, not %+v", c.from, got, c.want)
		}
	}
}

func TestCutListsThatAreNoTubes(t *testing.T) {
	cases := []struct {
		name string
		list []impl.GiveBox
		from int
		want []impl.GiveBox
	}{
		{"nil", nil, 0, nil},
		{"empty", []impl.GiveBox{}, -5, nil},
		{"any order of ticks", []impl.GiveBox{{X: 1, In: 5, Out: 9}, {X: 2, In: 1, Out: 3}, {X: 3, In: 0, Out: 7}, {X: 4, In: 6, Out: 6}}, 7,
			[]impl.GiveBox{{X: 1, In: 7, Out: 9}, {X: 3, In: 7, Out: 7}}},
		{"In above Out", []impl.GiveBox{{In: 9, Out: 3}, {In: 9, Out: 1}}, 2, []impl.GiveBox{{In: 9, Out: 3}}},
		{"ticks below 0", []impl.GiveBox{{In: -9, Out: -3}, {In: -9, Out: -6}, {In: -2, Out: 4}}, -5, []impl.GiveBox{{In: -5, Out: -3}, {In: -2, Out: 4}}},
		{"ticks far above", []impl.GiveBox{{In: 20000, Out: math.MaxInt}, {In: 5, Out: 20000}}, 30000, []impl.GiveBox{{In: 30000, Out: math.MaxInt}}},
		{"the least tick", []impl.GiveBox{{In: math.MinInt, Out: math.MinInt}}, math.MinInt, []impl.GiveBox{{In: math.MinInt, Out: math.MinInt}}},
		{"the greatest tick", []impl.GiveBox{{In: 3, Out: math.MaxInt}, {In: 3, Out: math.MaxInt - 1}}, math.MaxInt, []impl.GiveBox{{In: math.MaxInt, Out: math.MaxInt}}},
		{"other numbers stay", []impl.GiveBox{{X: -7, Y: 99, Low: 8, High: -1, In: 1, Out: 6}}, 4, []impl.GiveBox{{X: -7, Y: 99, Low: 8, High: -1, In: 4, Out: 6}}},
		{"the same again", []impl.GiveBox{{In: 1, Out: 6}, {In: 1, Out: 6}}, 2, []impl.GiveBox{{In: 2, Out: 6}, {In: 2, Out: 6}}},
	}
	for _, c := range cases {
		if got := impl.GiveCut(c.list, c.from); !slices.Equal(got, c.want) {
			t.Errorf("%s: %+v, not %+v", c.name, got, c.want)
		}
	}
	if got := impl.GiveCut(tubeOfSize(100), 30); len(got) != 70 {
		t.Errorf("more boxes than a tube may have: %d left", len(got))
	}
}

func TestCutIsNewMemory(t *testing.T) {
	for _, from := range []int{-1, 0, 5, 9, 14, 16} {
		room := append(plainTube(), plainTube()...)
		given := room[:4]
		first, second := impl.GiveCut(given, from), impl.GiveCut(given, from)
		if !slices.Equal(room, append(plainTube(), plainTube()...)) {
			t.Fatalf("from %d: the argument was changed", from)
		}
		want := slices.Clone(second)
		whole := first[:cap(first)]
		for place := range whole {
			whole[place] = impl.GiveBox{X: 77}
		}
		if !slices.Equal(room, append(plainTube(), plainTube()...)) {
			t.Errorf("from %d: the answer shares memory with the argument", from)
		}
		if !slices.Equal(second, want) {
			t.Errorf("from %d: two answers share memory", from)
		}
	}
}

// Promise 8, its second sentence: a tube that is ok is so from any tick on, or nothing.
func TestTubeIsOkFromAnyTickOn(t *testing.T) {
	fields := twoFields()
	tubes := [][]impl.GiveBox{plainTube(), tubeOfSize(1), tubeOfSize(40), {widest(1, 1)}, slices.Repeat([]impl.GiveBox{widest(4, 2)}, 40)}
	for _, tube := range smallTubes() {
		if tubeIsOk(fields, tube) {
			tubes = append(tubes, tube)
		}
	}
	if len(tubes) < 100 {
		t.Fatalf("only %d tubes", len(tubes))
	}
	for _, tube := range tubes {
		last := tube[len(tube)-1].Out
		froms := []int{math.MinInt, -10001, last - 1, last, last + 1, 9999, 10000, 10001, math.MaxInt}
		for from := -2; from <= 50; from++ {
			froms = append(froms, from)
		}
		for _, from := range froms {
			checkCut(t, fields, tube, from)
		}
	}
}

func checkCut(t *testing.T, fields []impl.GiveField, tube []impl.GiveBox, from int) {
	t.Helper()
	left := impl.GiveCut(tube, from)
	gone := from > tube[len(tube)-1].Out
	if gone != (len(left) == 0) {
		t.Fatalf("%+v from %d: %d boxes left", tube, from, len(left))
	}
	if !gone && (!impl.GiveTubeOk(fields, left) || !tubeIsOk(fields, left)) {
		t.Fatalf("%+v from %d: %+v is not ok", tube, from, left)
	}
	for _, box := range left {
		if box.In < from {
			t.Fatalf("%+v from %d: %+v is ahead of it", tube, from, box)
		}
	}
	if from < math.MaxInt && !slices.Equal(impl.GiveCut(left, from+1), impl.GiveCut(tube, from+1)) {
		t.Fatalf("%+v from %d, then a tick more: another one than at once", tube, from)
	}
}
