package tests

import (
	"math"
	"reflect"
	"slices"
	"testing"

	"loop.example/lapgive/impl"
)

// The level behind a step, by the document's sentence.
func levelBehind(wished int, step int, cells int) int {
	return slices.Min([]int{wished, step, cells - 1 - step})
}

// The tube of a wish, by the document's sentence, where way, level and late are places.
func tubeOfWish(w impl.GiveWish, way int, level int, late int) []impl.GiveBox {
	cells, wished := w.Ways[way].Cells, w.Levels[level]
	var tube []impl.GiveBox
	for k := 0; k < len(cells) && k < 40; k++ {
		ahead, own := levelBehind(wished, k-1, len(cells)), levelBehind(wished, k, len(cells))
		if k == 0 {
			ahead = own
		}
		tube = append(tube, impl.GiveBox{
			X: cells[k].X, Y: cells[k].Y,
			Low: slices.Min([]int{ahead, own}), High: slices.Max([]int{ahead, own}),
			In: w.From + late + k*w.Quick, Out: w.By + late + (k+1)*w.Slow - 1,
		})
	}
	return tube
}

func checkTubeOf(t *testing.T, w impl.GiveWish, way int, level int, late int, want []impl.GiveBox) {
	t.Helper()
	if got := impl.GiveTubeOf(w, way, level, late); !slices.Equal(got, want) {
		t.Errorf("way %d, level %d, late %d of %.300v:\n%v, not\n%v", way, level, late, w, got, want)
	}
}

func TestTubesOfAWish(t *testing.T) {
	w := plainWish()
	checkTubeOf(t, w, 0, 0, 0, []impl.GiveBox{
		{X: 1, Y: 1, Low: 0, High: 0, In: 20, Out: 27},
		{X: 2, Y: 1, Low: 0, High: 1, In: 22, Out: 30},
		{X: 3, Y: 2, Low: 1, High: 1, In: 24, Out: 33},
		{X: 4, Y: 2, Low: 0, High: 1, In: 26, Out: 36},
	})
	checkTubeOf(t, w, 1, 0, 7, []impl.GiveBox{
		{X: 1, Y: 1, Low: 0, High: 0, In: 27, Out: 34},
		{X: 1, Y: 2, Low: 0, High: 1, In: 29, Out: 37},
		{X: 2, Y: 3, Low: 1, High: 2, In: 31, Out: 40},
		{X: 3, Y: 3, Low: 1, High: 2, In: 33, Out: 43},
		{X: 4, Y: 2, Low: 0, High: 1, In: 35, Out: 46},
	})
	checkTubeOf(t, w, 1, 1, 300, []impl.GiveBox{
		{X: 1, Y: 1, Low: 0, High: 0, In: 320, Out: 327},
		{X: 1, Y: 2, Low: 0, High: 1, In: 322, Out: 330},
		{X: 2, Y: 3, Low: 1, High: 1, In: 324, Out: 333},
		{X: 3, Y: 3, Low: 1, High: 1, In: 326, Out: 336},
		{X: 4, Y: 2, Low: 0, High: 1, In: 328, Out: 339},
	})
}

func TestTubesOfWaysOfEachSize(t *testing.T) {
	w := plainWish()
	w.Levels = []int{1, 2, 3, 4, 5, 6, 0, -1, -1000, 7, 18, 19, 20, 21, 40, 1000, math.MaxInt, math.MinInt}
	for _, size := range []int{0, 1, 2, 3, 4, 5, 6, 7, 8, 12, 13, 14, 38, 39, 40, 41, 42, 79, 80, 81, 100, 100000} {
		w.Ways = []impl.GiveWay{way(cell(1, 1)), wayOfSize(size)}
		for level := range w.Levels {
			for _, late := range []int{0, 1, 299, 300} {
				checkTubeOf(t, w, 1, level, late, tubeOfWish(w, 1, level, late))
			}
		}
		if got := len(impl.GiveTubeOf(w, 1, 0, 0)); got != min(size, 40) {
			t.Errorf("%d boxes for %d cells", got, size)
		}
	}
}

// Low and High of each box, level by level: up with each step, down in time for the last cell.
func TestLevelsOfATube(t *testing.T) {
	for _, c := range []struct {
		cells, level int
		want         [][2]int
	}{
		{0, 3, nil},
		{1, 3, [][2]int{{0, 0}}},
		{1, 0, [][2]int{{0, 0}}},
		{1, -2, [][2]int{{-2, -2}}},
		{2, 1, [][2]int{{0, 0}, {0, 0}}},
		{2, 6, [][2]int{{0, 0}, {0, 0}}},
		{2, -3, [][2]int{{-3, -3}, {-3, -3}}},
		{3, 1, [][2]int{{0, 0}, {0, 1}, {0, 1}}},
		{3, 6, [][2]int{{0, 0}, {0, 1}, {0, 1}}},
		{3, 0, [][2]int{{0, 0}, {0, 0}, {0, 0}}},
		{3, -1, [][2]int{{-1, -1}, {-1, -1}, {-1, -1}}},
		{4, 2, [][2]int{{0, 0}, {0, 1}, {1, 1}, {0, 1}}},
		{5, 2, [][2]int{{0, 0}, {0, 1}, {1, 2}, {1, 2}, {0, 1}}},
		{5, 1, [][2]int{{0, 0}, {0, 1}, {1, 1}, {1, 1}, {0, 1}}},
		{5, math.MaxInt, [][2]int{{0, 0}, {0, 1}, {1, 2}, {1, 2}, {0, 1}}},
		{3, math.MinInt, [][2]int{{math.MinInt, math.MinInt}, {math.MinInt, math.MinInt}, {math.MinInt, math.MinInt}}},
		{8, 3, [][2]int{{0, 0}, {0, 1}, {1, 2}, {2, 3}, {3, 3}, {2, 3}, {1, 2}, {0, 1}}},
	} {
		w := plainWish()
		w.Ways, w.Levels = []impl.GiveWay{wayOfSize(c.cells)}, []int{c.level}
		var got [][2]int
		for _, box := range impl.GiveTubeOf(w, 0, 0, 0) {
			got = append(got, [2]int{box.Low, box.High})
		}
		if !slices.Equal(got, c.want) {
			t.Errorf("%d cells, level %d: %v", c.cells, c.level, got)
		}
	}
}

// A way beyond GiveMaxBoxes gives the beginning of the tube that goes to its end.
func TestLevelsOfALongWay(t *testing.T) {
	w := plainWish()
	w.Levels = []int{6, 30}
	for _, c := range []struct{ cells, level, low, high int }{
		{40, 0, 0, 1}, {41, 0, 1, 2}, {42, 0, 2, 3}, {45, 0, 5, 6}, {46, 0, 6, 6}, {100, 0, 6, 6},
		{40, 1, 0, 1}, {60, 1, 20, 21}, {69, 1, 29, 30}, {70, 1, 30, 30},
	} {
		w.Ways = []impl.GiveWay{wayOfSize(c.cells)}
		tube := impl.GiveTubeOf(w, 0, c.level, 0)
		if len(tube) != 40 || tube[39].Low != c.low || tube[39].High != c.high {
			t.Errorf("%d cells: %v", c.cells, tube)
		}
	}
}

func TestTubeOfNoSuchPlace(t *testing.T) {
	w := plainWish()
	for _, off := range append(farNumbers(), -2, -1, 2, 3) {
		checkTubeOf(t, w, off, 0, 0, nil)
		checkTubeOf(t, w, 0, off, 0, nil)
		checkTubeOf(t, w, off, off, 0, nil)
	}
	for _, off := range append(farNumbers(), -2, -1, 301, 302) {
		checkTubeOf(t, w, 0, 0, off, nil)
	}
	for place := range 2 {
		for _, late := range []int{0, 300} {
			checkTubeOf(t, w, place, 1-place, late, tubeOfWish(w, place, 1-place, late))
		}
	}
	for size := range 5 {
		w.Ways, w.Levels = slices.Repeat(w.Ways[:1], size), []int{1}
		if got := impl.GiveTubeOf(w, size, 0, 0); len(got) != 0 {
			t.Errorf("way %d of %d: %v", size, size, got)
		}
		w.Ways = plainWish().Ways
		w.Levels = slices.Repeat([]int{1}, size)
		if got := impl.GiveTubeOf(w, 0, size, 0); len(got) != 0 {
			t.Errorf("level %d of %d: %v", size, size, got)
		}
	}
	checkTubeOf(t, impl.GiveWish{}, 0, 0, 0, nil)
}

func TestTubeOfTicksAndTheirEnds(t *testing.T) {
	for number, ends := range [][2]int{{1, 50}, {1, 50}, {0, 10000}, {0, 10000}} {
		for _, at := range append(farNumbers(), ends[0]-1, ends[0], ends[0]+1, ends[1]-1, ends[1], ends[1]+1) {
			w := plainWish()
			*numbersOfWish(&w)[number] = at
			var want []impl.GiveBox
			if ends[0] <= at && at <= ends[1] {
				want = tubeOfWish(w, 1, 0, 5)
			}
			checkTubeOf(t, w, 1, 0, 5, want)
		}
	}
	w := plainWish()
	w.Quick, w.Slow, w.From, w.By = 50, 50, 10000, 10000
	w.Ways[0] = wayOfSize(41)
	tube := impl.GiveTubeOf(w, 0, 0, 300)
	if len(tube) != 40 || tube[39].In != 12250 || tube[39].Out != 12299 {
		t.Errorf("the last of all ticks: %v", tube)
	}
	w.Quick, w.Slow, w.From, w.By = 1, 1, 0, 0
	checkTubeOf(t, w, 0, 0, 0, tubeOfWish(w, 0, 0, 0))
	if first := impl.GiveTubeOf(w, 0, 0, 0)[0]; first.In != 0 || first.Out != 0 {
		t.Errorf("the first of all ticks: %v", first)
	}
}

// Of a wish that is not ok in what is not looked at, the tube all the same.
func TestTubeOfAWishThatIsNotOk(t *testing.T) {
	plain := plainWish()
	for _, name := range []string{"", "KL", "far too long a name", "\x00"} {
		w := plainWish()
		w.Name = name
		checkTubeOf(t, w, 0, 0, 3, tubeOfWish(plain, 0, 0, 3))
	}
	for _, late := range append(farNumbers(), -1, 0, 1, 300, 301) {
		w := plainWish()
		w.Late = late
		checkTubeOf(t, w, 0, 0, 3, tubeOfWish(plain, 0, 0, 3))
		checkTubeOf(t, w, 0, 0, 300, tubeOfWish(plain, 0, 0, 300))
	}
	turned := plainWish()
	turned.Quick, turned.Slow, turned.From, turned.By = 50, 1, 10000, 0
	checkTubeOf(t, turned, 1, 0, 300, tubeOfWish(turned, 1, 0, 300))
	if box := impl.GiveTubeOf(turned, 1, 0, 300)[4]; box.In != 10500 || box.Out != 304 {
		t.Errorf("In above Out: %v", box)
	}
	many := plainWish()
	many.Ways, many.Levels = slices.Repeat(many.Ways, 5), slices.Repeat(many.Levels, 5)
	checkTubeOf(t, many, 9, 9, 0, tubeOfWish(plain, 1, 1, 0))
	checkTubeOf(t, many, 8, 8, 0, tubeOfWish(plain, 0, 0, 0))
	checkTubeOf(t, many, 10, 0, 0, nil)
	checkTubeOf(t, many, 0, 10, 0, nil)
}

func TestTubeOfCellsFarAway(t *testing.T) {
	for _, far := range farNumbers() {
		w := plainWish()
		w.Ways[1] = way(cell(far, 3), cell(far, 3), cell(4, far), cell(-far, far), cell(7, 7))
		checkTubeOf(t, w, 1, 0, 2, tubeOfWish(w, 1, 0, 2))
		other := plainWish()
		other.Ways[0], other.Levels[0] = w.Ways[1], far
		checkTubeOf(t, other, 1, 1, 2, tubeOfWish(plainWish(), 1, 1, 2))
	}
}

func TestTubesOfWishesThatAreOk(t *testing.T) {
	d := dice(17)
	for range 300 {
		w := d.wish(twoFields(), "kl")
		if !impl.GiveWishOk(twoFields(), w) {
			t.Fatalf("%+v is not ok", w)
		}
		for place := range w.Ways {
			for level := range w.Levels {
				late := d.roll(301)
				tube := impl.GiveTubeOf(w, place, level, late)
				if !slices.Equal(tube, tubeOfWish(w, place, level, late)) {
					t.Fatalf("%+v: way %d, level %d, late %d: %v", w, place, level, late, tube)
				}
				if !tubeIsOk(twoFields(), tube) {
					t.Fatalf("%+v: way %d, level %d, late %d: %v is not ok", w, place, level, late, tube)
				}
			}
		}
	}
}

// A wish that is ok, with ways of whatever turns.
func (d *dice) wish(fields []impl.GiveField, name string) impl.GiveWish {
	w := impl.GiveWish{Name: name, Quick: 1 + d.roll(4), From: d.roll(90), Late: d.roll(40)}
	w.Slow, w.By = w.Quick+d.roll(3), w.From+d.roll(6)
	for range 1 + d.roll(3) {
		w.Ways = append(w.Ways, d.way(fields))
	}
	for range 1 + d.roll(6) {
		w.Levels = append(w.Levels, 1+d.roll(6))
	}
	return w
}

// Some steps to whichever cell from one field, and as few as may be to another one, or back.
func (d *dice) way(fields []impl.GiveField) impl.GiveWay {
	from, to := fields[d.roll(len(fields))], fields[d.roll(len(fields))]
	cells := []impl.GiveCell{cell(from.X, from.Y)}
	end := cell(to.X, to.Y)
	for wander := d.roll(8); wander > 0 || len(cells) == 1 || cells[len(cells)-1] != end; wander-- {
		last := cells[len(cells)-1]
		next := cell(last.X+min(1, max(-1, end.X-last.X)), last.Y+min(1, max(-1, end.Y-last.Y)))
		for wander > 0 || next == last {
			next = cell(min(15, max(0, last.X+d.roll(3)-1)), min(15, max(0, last.Y+d.roll(3)-1)))
			if next != last {
				break
			}
		}
		cells = append(cells, next)
	}
	return way(cells...)
}

func TestTubesAreNewMemory(t *testing.T) {
	w, all := wishWithRoom(plainWish())
	kept := all()
	first, second := impl.GiveTubeOf(w, 1, 0, 7), impl.GiveTubeOf(w, 1, 0, 7)
	want := tubeOfWish(plainWish(), 1, 0, 7)
	spare := first[:cap(first)]
	for place := range spare {
		spare[place] = impl.GiveBox{X: -9, Y: -9, Low: -9, High: -9, In: -9, Out: -9}
	}
	if !slices.Equal(second, want) || !slices.Equal(impl.GiveTubeOf(w, 1, 0, 7), want) {
		t.Error("two answers share memory")
	}
	if !reflect.DeepEqual(all(), kept) {
		t.Error("an argument was changed")
	}
}
