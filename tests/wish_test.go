package tests

import (
	"math"
	"reflect"
	"slices"
	"strings"
	"testing"

	"loop.example/lapgive/impl"
)

func cell(x int, y int) impl.GiveCell {
	return impl.GiveCell{X: x, Y: y}
}

func way(cells ...impl.GiveCell) impl.GiveWay {
	return impl.GiveWay{Cells: cells}
}

// A wish from the field a to the field b by two ways and two levels, none of its numbers at a bound.
func plainWish() impl.GiveWish {
	return impl.GiveWish{
		Name: "kl", Quick: 2, Slow: 3, From: 20, By: 25, Late: 40,
		Ways: []impl.GiveWay{
			way(cell(1, 1), cell(2, 1), cell(3, 2), cell(4, 2)),
			way(cell(1, 1), cell(1, 2), cell(2, 3), cell(3, 3), cell(4, 2)),
		},
		Levels: []int{2, 1},
	}
}

// A way of so many cells, to and fro between two cells that are fields.
func wayOfSize(size int) impl.GiveWay {
	cells := []impl.GiveCell{}
	for place := range size {
		cells = append(cells, cell(1, 1+place%2))
	}
	return way(cells...)
}

// The fields of wayOfSize.
func fieldsBeside() []impl.GiveField {
	return []impl.GiveField{{Name: "a", X: 1, Y: 1}, {Name: "b", X: 1, Y: 2}}
}

func copyWish(w impl.GiveWish) impl.GiveWish {
	w.Ways, w.Levels = slices.Clone(w.Ways), slices.Clone(w.Levels)
	for place := range w.Ways {
		w.Ways[place].Cells = slices.Clone(w.Ways[place].Cells)
	}
	return w
}

type wishCase struct {
	name   string
	change func(w *impl.GiveWish)
	want   bool
}

func checkWishes(t *testing.T, cases []wishCase) {
	t.Helper()
	for _, c := range cases {
		w := plainWish()
		c.change(&w)
		if impl.GiveWishOk(twoFields(), w) != c.want {
			t.Errorf("%s: not %v", c.name, c.want)
		}
	}
}

// Each number of a wish that is none of its lists, to be set from outside.
func numbersOfWish(w *impl.GiveWish) []*int {
	return []*int{&w.Quick, &w.Slow, &w.From, &w.By, &w.Late}
}

// Wishes that are not ok, each for another reason, though each would lead to a tube.
func wishesNotOk() []wishCase {
	return []wishCase{
		{"no name", func(w *impl.GiveWish) { w.Name = "" }, false},
		{"a name of 9 bytes", func(w *impl.GiveWish) { w.Name = "abcdefghi" }, false},
		{"a name with a capital", func(w *impl.GiveWish) { w.Name = "Kl" }, false},
		{"Quick above Slow", func(w *impl.GiveWish) { w.Quick = 4 }, false},
		{"Quick 0", func(w *impl.GiveWish) { w.Quick = 0 }, false},
		{"Slow 51", func(w *impl.GiveWish) { w.Slow = 51 }, false},
		{"From above By", func(w *impl.GiveWish) { w.From = 26 }, false},
		{"From -1", func(w *impl.GiveWish) { w.From = -1 }, false},
		{"By 10001", func(w *impl.GiveWish) { w.By = 10001 }, false},
		{"Late -1", func(w *impl.GiveWish) { w.Late = -1 }, false},
		{"Late 301", func(w *impl.GiveWish) { w.Late = 301 }, false},
		{"no ways", func(w *impl.GiveWish) { w.Ways = nil }, false},
		{"four ways", func(w *impl.GiveWish) { w.Ways = append(w.Ways, w.Ways...) }, false},
		{"a way more that is none", func(w *impl.GiveWish) { w.Ways = append(w.Ways, way()) }, false},
		{"a way more of one cell", func(w *impl.GiveWish) { w.Ways = append(w.Ways, way(cell(1, 1))) }, false},
		{"a way that leaps", func(w *impl.GiveWish) { w.Ways[1].Cells[2] = cell(2, 4) }, false},
		{"a way that stands", func(w *impl.GiveWish) { w.Ways[1].Cells[1] = cell(1, 1) }, false},
		{"a way from no field", func(w *impl.GiveWish) { w.Ways[1].Cells[0] = cell(2, 1) }, false},
		{"a way to no field", func(w *impl.GiveWish) { w.Ways[1].Cells[4] = cell(4, 3) }, false},
		{"no levels", func(w *impl.GiveWish) { w.Levels = nil }, false},
		{"seven levels", func(w *impl.GiveWish) { w.Levels = slices.Repeat([]int{1}, 7) }, false},
		{"a level 0", func(w *impl.GiveWish) { w.Levels[1] = 0 }, false},
		{"a level 7", func(w *impl.GiveWish) { w.Levels[1] = 7 }, false},
	}
}

func TestLimitsOfWishes(t *testing.T) {
	got := []int{impl.GiveMaxSlow, impl.GiveMaxLate, impl.GiveMaxWays}
	if !slices.Equal(got, []int{50, 300, 3}) {
		t.Error(got)
	}
}

func TestWishesThatAreOk(t *testing.T) {
	checkWishes(t, []wishCase{
		{"as it is", func(w *impl.GiveWish) {}, true},
		{"one way alone", func(w *impl.GiveWish) { w.Ways = w.Ways[1:] }, true},
		{"one way twice", func(w *impl.GiveWish) { w.Ways[1] = w.Ways[0] }, true},
		{"one level twice", func(w *impl.GiveWish) { w.Levels = []int{3, 3} }, true},
		{"levels in whatever order", func(w *impl.GiveWish) { w.Levels = []int{4, 1, 6, 2} }, true},
		{"back to where it began", func(w *impl.GiveWish) {
			w.Ways[0] = way(cell(1, 1), cell(2, 2), cell(1, 1))
		}, true},
		{"by another field", func(w *impl.GiveWish) {
			w.Ways[0] = way(cell(1, 1), cell(2, 1), cell(3, 2), cell(4, 2), cell(3, 2), cell(2, 1), cell(1, 1))
		}, true},
	})
	checkWishes(t, wishesNotOk())
	if impl.GiveWishOk(twoFields(), impl.GiveWish{}) || impl.GiveWishOk(nil, impl.GiveWish{}) {
		t.Error("nothing is wished")
	}
}

// Quick to Slow and From to By: each pair of numbers, at and beyond all ends.
func TestTicksOfAWish(t *testing.T) {
	pairs := func(least int, most int, set func(w *impl.GiveWish, low int, high int)) {
		t.Helper()
		numbers := append(farNumbers(), least-1, least, least+1, 20, most-1, most, most+1)
		for _, low := range numbers {
			for _, high := range numbers {
				w := plainWish()
				set(&w, low, high)
				want := least <= low && low <= high && high <= most
				if impl.GiveWishOk(twoFields(), w) != want {
					t.Errorf("%d to %d in %d..%d: not %v", low, high, least, most, want)
				}
			}
		}
	}
	pairs(1, 50, func(w *impl.GiveWish, low int, high int) { w.Quick, w.Slow = low, high })
	pairs(0, 10000, func(w *impl.GiveWish, low int, high int) { w.From, w.By = low, high })
}

func TestLateOfAWish(t *testing.T) {
	for late, want := range map[int]bool{0: true, 1: true, 299: true, 300: true, -1: false, 301: false} {
		checkWishes(t, []wishCase{{"Late", func(w *impl.GiveWish) { w.Late = late }, want}})
	}
}

func TestFarNumbersOfAWish(t *testing.T) {
	for _, far := range farNumbers() {
		for number := range 5 {
			checkWishes(t, []wishCase{{"a number", func(w *impl.GiveWish) { *numbersOfWish(w)[number] = far }, false}})
		}
		for place := range 4 {
			checkWishes(t, []wishCase{
				{"X of a cell", func(w *impl.GiveWish) { w.Ways[0].Cells[place].X = far }, false},
				{"Y of a cell", func(w *impl.GiveWish) { w.Ways[0].Cells[place].Y = far }, false},
			})
		}
		for place := range 2 {
			checkWishes(t, []wishCase{{"a level", func(w *impl.GiveWish) { w.Levels[place] = far }, false}})
		}
		fields := twoFields()
		fields[1].X = far
		if impl.GiveWishOk(fields, plainWish()) {
			t.Errorf("X of a field is %d", far)
		}
	}
}

func TestNamesOfWishes(t *testing.T) {
	for size := range 20 {
		checkWishes(t, []wishCase{{"size", func(w *impl.GiveWish) { w.Name = strings.Repeat("k", size) }, size >= 1 && size <= 8}})
	}
	for c := range 256 {
		char := string([]byte{byte(c)})
		good := strings.Contains("abcdefghijklmnopqrstuvwxyz0123456789-", char)
		for _, name := range []string{char, char + "b", "b" + char, "bcdefgh" + char} {
			checkWishes(t, []wishCase{{"the name " + name, func(w *impl.GiveWish) { w.Name = name }, good}})
		}
	}
}

func TestHowManyWays(t *testing.T) {
	for size := range 8 {
		checkWishes(t, []wishCase{{"ways", func(w *impl.GiveWish) { w.Ways = slices.Repeat(w.Ways[:1], size) }, size >= 1 && size <= 3}})
	}
	checkWishes(t, []wishCase{
		{"very many", func(w *impl.GiveWish) { w.Ways = slices.Repeat(w.Ways[:1], 100000) }, false},
		{"empty", func(w *impl.GiveWish) { w.Ways = []impl.GiveWay{} }, false},
	})
}

func TestHowManyCells(t *testing.T) {
	for size := range 60 {
		for place := range 3 {
			w := plainWish()
			w.Ways = []impl.GiveWay{wayOfSize(2), wayOfSize(3), wayOfSize(40)}
			w.Ways[place] = wayOfSize(size)
			if impl.GiveWishOk(fieldsBeside(), w) != (size >= 2 && size <= 40) {
				t.Errorf("%d cells of the way %d", size, place)
			}
		}
	}
	w := plainWish()
	w.Ways = []impl.GiveWay{wayOfSize(100001)}
	if impl.GiveWishOk(fieldsBeside(), w) {
		t.Error("very many cells")
	}
}

// One step of whichever length, at each place of a way; the field b is wherever it leads to.
func TestStepsOfAWay(t *testing.T) {
	for dx := -3; dx <= 3; dx++ {
		for dy := -3; dy <= 3; dy++ {
			fields := []impl.GiveField{{Name: "a", X: 7, Y: 7}}
			if dx != 0 || dy != 0 {
				fields = append(fields, impl.GiveField{Name: "b", X: 7 + dx, Y: 7 + dy})
			}
			want := (dx != 0 || dy != 0) && distance(dx, 0) <= 1 && distance(dy, 0) <= 1
			for _, steps := range []impl.GiveWay{
				way(cell(7, 7), cell(7+dx, 7+dy)),
				way(cell(7+dx, 7+dy), cell(7, 7)),
				way(cell(7, 7), cell(8, 8), cell(7, 7), cell(7+dx, 7+dy)),
				way(cell(7, 7), cell(7+dx, 7+dy), cell(7, 7)),
			} {
				w := plainWish()
				w.Ways = []impl.GiveWay{steps}
				if impl.GiveWishOk(fields, w) != want {
					t.Errorf("%v: not %v", steps, want)
				}
			}
		}
	}
}

func TestCellsOfAWay(t *testing.T) {
	for _, c := range []struct {
		corner impl.GiveCell
		out    []impl.GiveCell
	}{
		{cell(0, 0), []impl.GiveCell{cell(-1, 0), cell(0, -1), cell(-1, -1), cell(-1, 1), cell(1, -1)}},
		{cell(15, 15), []impl.GiveCell{cell(16, 15), cell(15, 16), cell(16, 16), cell(16, 14), cell(14, 16)}},
		{cell(0, 15), []impl.GiveCell{cell(-1, 15), cell(0, 16)}},
		{cell(15, 0), []impl.GiveCell{cell(16, 0), cell(15, -1)}},
	} {
		fields := []impl.GiveField{{Name: "a", X: c.corner.X, Y: c.corner.Y}}
		w := plainWish()
		inward := cell(min(14, max(1, c.corner.X)), min(14, max(1, c.corner.Y)))
		w.Ways = []impl.GiveWay{way(c.corner, inward, c.corner)}
		if !impl.GiveWishOk(fields, w) {
			t.Errorf("%v: not ok", w.Ways)
		}
		for _, out := range c.out {
			w.Ways = []impl.GiveWay{way(c.corner, out, c.corner)}
			if impl.GiveWishOk(fields, w) {
				t.Errorf("%v: ok", w.Ways)
			}
		}
	}
}

// The cells of a way on a field: only the first and the last one need be, and each by both X and Y.
func TestEndsOfAWay(t *testing.T) {
	checkWishes(t, []wishCase{
		{"the first beside", func(w *impl.GiveWish) { w.Ways[0] = way(cell(1, 2), cell(2, 2), cell(3, 2), cell(4, 2)) }, false},
		{"the last beside", func(w *impl.GiveWish) { w.Ways[0] = way(cell(1, 1), cell(2, 1), cell(3, 2)) }, false},
		{"the first has X of one and Y of the other", func(w *impl.GiveWish) { w.Ways[0] = way(cell(4, 1), cell(4, 2)) }, false},
		{"the last has X of one and Y of the other", func(w *impl.GiveWish) { w.Ways[0] = way(cell(1, 1), cell(1, 2)) }, false},
		{"another way, the first beside", func(w *impl.GiveWish) { w.Ways[1] = way(cell(3, 2), cell(4, 2)) }, false},
		{"another way, the last beside", func(w *impl.GiveWish) { w.Ways[1] = way(cell(1, 1), cell(2, 2)) }, false},
		{"the other way round", func(w *impl.GiveWish) { slices.Reverse(w.Ways[0].Cells) }, true},
	})
	for place := range 2 {
		fields := twoFields()
		if impl.GiveWishOk(slices.Delete(fields, place, place+1), plainWish()) {
			t.Errorf("without the field %d", place)
		}
	}
	if impl.GiveWishOk(nil, plainWish()) || impl.GiveWishOk([]impl.GiveField{}, plainWish()) {
		t.Error("without fields")
	}
}

func TestLevelsOfAWish(t *testing.T) {
	for size := range 20 {
		for level := -2; level <= 9; level++ {
			levels := slices.Repeat([]int{level}, size)
			want := size >= 1 && size <= 6 && level >= 1 && level <= 6
			checkWishes(t, []wishCase{{"levels", func(w *impl.GiveWish) { w.Levels = levels }, want}})
		}
	}
	for place := range 6 {
		for level := -1; level <= 8; level++ {
			levels := []int{1, 2, 3, 4, 5, 6}
			levels[place] = level
			checkWishes(t, []wishCase{{"one of six", func(w *impl.GiveWish) { w.Levels = levels }, level >= 1 && level <= 6}})
		}
	}
	checkWishes(t, []wishCase{
		{"empty", func(w *impl.GiveWish) { w.Levels = []int{} }, false},
		{"very many", func(w *impl.GiveWish) { w.Levels = slices.Repeat([]int{1}, 100000) }, false},
	})
}

// The fields are as in a book that is ok; the others stand beside those that the ways need.
func TestFieldsOfAWish(t *testing.T) {
	field := func(name string, x int, y int) impl.GiveField { return impl.GiveField{Name: name, X: x, Y: y} }
	for _, c := range []struct {
		name string
		more []impl.GiveField
		want bool
	}{
		{"one more", []impl.GiveField{field("c", 7, 7)}, true},
		{"four", []impl.GiveField{field("c", 7, 7), field("d", 0, 15)}, true},
		{"five", []impl.GiveField{field("c", 7, 7), field("d", 0, 15), field("e", 8, 8)}, false},
		{"not ascending", []impl.GiveField{field("aa", 7, 7)}, false},
		{"one name twice", []impl.GiveField{field("b", 7, 7)}, false},
		{"no name", []impl.GiveField{field("", 7, 7)}, false},
		{"a name with a capital", []impl.GiveField{field("bC", 7, 7)}, false},
		{"a name that is too long", []impl.GiveField{field("cccccccc", 7, 7), field("ccccccccc", 8, 7)}, false},
		{"X -1", []impl.GiveField{field("c", -1, 7)}, false},
		{"X 16", []impl.GiveField{field("c", 16, 7)}, false},
		{"Y -1", []impl.GiveField{field("c", 7, -1)}, false},
		{"Y 16", []impl.GiveField{field("c", 7, 16)}, false},
		{"far off", []impl.GiveField{field("c", math.MinInt, math.MaxInt)}, false},
		{"two in one cell", []impl.GiveField{field("c", 1, 1)}, false},
		{"two others in one cell", []impl.GiveField{field("c", 7, 7), field("d", 7, 7)}, false},
		{"very many", make([]impl.GiveField, 100000), false},
	} {
		fields := append(twoFields(), c.more...)
		if impl.GiveWishOk(fields, plainWish()) != c.want {
			t.Errorf("%s: not %v", c.name, c.want)
		}
		if len(fields) < 10 && impl.GiveBookOk(impl.GiveBook{Fields: fields}) != c.want {
			t.Errorf("%s: a book of these is ok, not %v", c.name, c.want)
		}
	}
	turned := twoFields()
	slices.Reverse(turned)
	if impl.GiveWishOk(turned, plainWish()) {
		t.Error("turned")
	}
}

// The wish with each of its lists the beginning of a longer one, and what stands in these, to be held against itself later.
func wishWithRoom(w impl.GiveWish) (impl.GiveWish, func() impl.GiveWish) {
	longer := copyWish(w)
	longer.Ways = append(longer.Ways, way(cell(-5, -6)))
	longer.Levels = append(longer.Levels, -7)
	var rooms [][]impl.GiveCell
	for place, short := range w.Ways {
		room := append(slices.Clone(short.Cells), cell(-5, -6), cell(-7, -8))
		rooms = append(rooms, room)
		longer.Ways[place].Cells = room[:len(short.Cells)]
	}
	short := longer
	short.Ways, short.Levels = longer.Ways[:len(w.Ways)], longer.Levels[:len(w.Levels)]
	return short, func() impl.GiveWish {
		all := copyWish(longer)
		for _, room := range rooms {
			all.Ways = append(all.Ways, way(slices.Clone(room)...))
		}
		return all
	}
}

func TestWishOkWritesNothing(t *testing.T) {
	w, all := wishWithRoom(plainWish())
	kept := all()
	fields := append(twoFields(), impl.GiveField{Name: "mark", X: -5})
	if !impl.GiveWishOk(fields[:2], w) {
		t.Error("another answer")
	}
	if !reflect.DeepEqual(all(), kept) || !slices.Equal(fields, append(twoFields(), impl.GiveField{Name: "mark", X: -5})) {
		t.Error("an argument was changed")
	}
}
