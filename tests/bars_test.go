package tests

import (
	"math"
	"reflect"
	"slices"
	"testing"

	"loop.example/lapgive/impl"
)

// Each delay from 0 to most is tried one by one.
func barsByTrying(b impl.GiveBook, name string, tube []impl.GiveBox, most int) []impl.GiveSpan {
	var bars []impl.GiveSpan
	for delay := 0; delay <= most; delay++ {
		later := laterBy(tube, delay)
		if tubeIsOk(b.Fields, later) && !nearToSomebodyElse(b, name, later) {
			continue
		}
		if last := len(bars) - 1; last >= 0 && bars[last].High == delay-1 {
			bars[last].High = delay
		} else {
			bars = append(bars, impl.GiveSpan{Low: delay, High: delay})
		}
	}
	return bars
}

func earliestByTrying(b impl.GiveBook, name string, tube []impl.GiveBox, most int) (int, bool) {
	for delay := 0; delay <= most; delay++ {
		later := laterBy(tube, delay)
		if tubeIsOk(b.Fields, later) && !nearToSomebodyElse(b, name, later) {
			return delay, true
		}
	}
	return 0, false
}

func spansAreInOrder(bars []impl.GiveSpan, most int) bool {
	for place, bar := range bars {
		if bar.Low < 0 || bar.High < bar.Low || bar.High > most {
			return false
		}
		if place > 0 && bar.Low < bars[place-1].High+2 {
			return false
		}
	}
	return true
}

// What is told of a tube, against trying.
func checkTold(t *testing.T, b impl.GiveBook, name string, tube []impl.GiveBox, most int) []impl.GiveSpan {
	t.Helper()
	bars := impl.GiveBars(b, name, tube, most)
	if want := barsByTrying(b, name, tube, most); !slices.Equal(bars, want) || !spansAreInOrder(bars, most) {
		t.Fatalf("%+v\n%s: %+v, up to %d: bars %v, not %v", b, name, tube, most, bars, want)
	}
	by, ok := impl.GiveEarliest(b, name, tube, most)
	if want, is := earliestByTrying(b, name, tube, most); by != want || ok != is {
		t.Fatalf("%+v\n%s: %+v, up to %d: earliest %d %v, not %d %v", b, name, tube, most, by, ok, want, is)
	}
	return bars
}

// The same, and against GiveFree of each later one.
func checkBars(t *testing.T, b impl.GiveBook, name string, tube []impl.GiveBox, most int) []impl.GiveSpan {
	t.Helper()
	bars := checkTold(t, b, name, tube, most)
	for delay := 0; delay <= most; delay++ {
		in := slices.ContainsFunc(bars, func(s impl.GiveSpan) bool { return s.Low <= delay && delay <= s.High })
		if impl.GiveFree(b, name, laterBy(tube, delay)) == in {
			t.Fatalf("%+v\n%s: %+v: barred and free by %d, or neither", b, name, tube, delay)
		}
	}
	return bars
}

// One on the field a for each two ticks, from the one to the other.
func bookOnA(ticks ...[2]int) impl.GiveBook {
	b := impl.GiveBook{Fields: twoFields()}
	for place, pair := range ticks {
		b.Held = append(b.Held, impl.GiveHeld{Name: alphabet(16)[place], Tube: stayOnA(pair[0], pair[1])})
	}
	return b
}

type barsCase struct {
	name string
	b    impl.GiveBook
	tube []impl.GiveBox
	most int
	want []impl.GiveSpan
	by   int
	ok   bool
}

func checkBarsCases(t *testing.T, cases []barsCase) {
	t.Helper()
	for _, c := range cases {
		if got := impl.GiveBars(c.b, "x", c.tube, c.most); !slices.Equal(got, c.want) {
			t.Errorf("%s: bars %v, not %v", c.name, got, c.want)
		}
		if by, ok := impl.GiveEarliest(c.b, "x", c.tube, c.most); by != c.by || ok != c.ok {
			t.Errorf("%s: earliest %d %v, not %d %v", c.name, by, ok, c.by, c.ok)
		}
		checkBars(t, c.b, "x", c.tube, c.most)
	}
}

func TestBarsOfPairs(t *testing.T) {
	one := stayOnA(0, 0)
	checkBarsCases(t, []barsCase{
		{"nobody", bookOnA(), one, 20, nil, 0, true},
		{"one pair", bookOnA([2]int{5, 7}), one, 20, []impl.GiveSpan{{Low: 5, High: 7}}, 0, true},
		{"one pair, of longer boxes", bookOnA([2]int{10, 12}), stayOnA(2, 4), 20, []impl.GiveSpan{{Low: 6, High: 10}}, 0, true},
		{"it begins below 0", bookOnA([2]int{10, 12}), stayOnA(8, 11), 20, []impl.GiveSpan{{Low: 0, High: 4}}, 5, true},
		{"it begins at 0", bookOnA([2]int{10, 12}), stayOnA(8, 10), 20, []impl.GiveSpan{{Low: 0, High: 4}}, 5, true},
		{"it begins at 1", bookOnA([2]int{10, 12}), stayOnA(8, 9), 20, []impl.GiveSpan{{Low: 1, High: 4}}, 0, true},
		{"it ends at 0", bookOnA([2]int{10, 12}), stayOnA(12, 15), 20, []impl.GiveSpan{{Low: 0, High: 0}}, 1, true},
		{"it ends below 0", bookOnA([2]int{10, 12}), stayOnA(13, 15), 20, nil, 0, true},
		{"it ends at most", bookOnA([2]int{15, 20}), one, 20, []impl.GiveSpan{{Low: 15, High: 20}}, 0, true},
		{"it ends above most", bookOnA([2]int{15, 21}), one, 20, []impl.GiveSpan{{Low: 15, High: 20}}, 0, true},
		{"it begins at most", bookOnA([2]int{20, 21}), one, 20, []impl.GiveSpan{{Low: 20, High: 20}}, 0, true},
		{"it begins above most", bookOnA([2]int{21, 22}), one, 20, nil, 0, true},
	})
}

func TestBarsOfSeveralPairs(t *testing.T) {
	one := stayOnA(0, 0)
	long := stayOnA(0, 1)
	checkBarsCases(t, []barsCase{
		{"next to each other", bookOnA([2]int{5, 7}, [2]int{8, 9}), one, 20, []impl.GiveSpan{{Low: 5, High: 9}}, 0, true},
		{"next to each other, the later one first", bookOnA([2]int{8, 9}, [2]int{5, 7}), one, 20, []impl.GiveSpan{{Low: 5, High: 9}}, 0, true},
		{"a number between", bookOnA([2]int{5, 7}, [2]int{9, 9}), one, 20, []impl.GiveSpan{{Low: 5, High: 7}, {Low: 9, High: 9}}, 0, true},
		{"a number between, the later one first", bookOnA([2]int{9, 9}, [2]int{5, 7}), one, 20, []impl.GiveSpan{{Low: 5, High: 7}, {Low: 9, High: 9}}, 0, true},
		{"they overlap by the tube's length", bookOnA([2]int{5, 7}, [2]int{8, 9}), long, 20, []impl.GiveSpan{{Low: 4, High: 9}}, 0, true},
		{"they touch by the tube's length", bookOnA([2]int{5, 7}, [2]int{9, 9}), long, 20, []impl.GiveSpan{{Low: 4, High: 9}}, 0, true},
		{"one more between two", bookOnA([2]int{5, 6}, [2]int{9, 10}, [2]int{7, 8}), one, 20, []impl.GiveSpan{{Low: 5, High: 10}}, 0, true},
		{"one more that touches the one ahead", bookOnA([2]int{5, 6}, [2]int{9, 10}, [2]int{7, 7}), one, 20, []impl.GiveSpan{{Low: 5, High: 7}, {Low: 9, High: 10}}, 0, true},
		{"one more that touches the one behind", bookOnA([2]int{5, 6}, [2]int{9, 10}, [2]int{8, 8}), one, 20, []impl.GiveSpan{{Low: 5, High: 6}, {Low: 8, High: 10}}, 0, true},
		{"one more that touches none", bookOnA([2]int{5, 6}, [2]int{10, 11}, [2]int{8, 8}), one, 20, []impl.GiveSpan{{Low: 5, High: 6}, {Low: 8, High: 8}, {Low: 10, High: 11}}, 0, true},
		{"each second one", bookOnA([2]int{6, 6}, [2]int{0, 0}, [2]int{4, 4}, [2]int{8, 8}, [2]int{2, 2}), one, 8, []impl.GiveSpan{{}, {Low: 2, High: 2}, {Low: 4, High: 4}, {Low: 6, High: 6}, {Low: 8, High: 8}}, 1, true},
		{"all but one in the midst", bookOnA([2]int{0, 7}, [2]int{9, 20}), one, 20, []impl.GiveSpan{{Low: 0, High: 7}, {Low: 9, High: 20}}, 8, true},
		{"all but most", bookOnA([2]int{0, 7}, [2]int{8, 19}), one, 20, []impl.GiveSpan{{Low: 0, High: 19}}, 20, true},
		{"all", bookOnA([2]int{0, 7}, [2]int{8, 20}), one, 20, []impl.GiveSpan{{Low: 0, High: 20}}, 0, false},
		{"all, by one", bookOnA([2]int{0, 10000}), one, 300, []impl.GiveSpan{{Low: 0, High: 300}}, 0, false},
	})
}

// One tube of several boxes: the spans of its pairs lie in, over and beside each other.
func TestBarsOfPairsOfOneTube(t *testing.T) {
	theirs := func(ticks ...[2]int) impl.GiveBook {
		var tube []impl.GiveBox
		for _, pair := range ticks {
			tube = append(tube, stayOnA(pair[0], pair[1])...)
		}
		return impl.GiveBook{Fields: twoFields(), Held: []impl.GiveHeld{{Name: "a", Tube: tube}}}
	}
	one := stayOnA(0, 0)
	checkBarsCases(t, []barsCase{
		{"overlap", theirs([2]int{5, 10}, [2]int{8, 15}), one, 30, []impl.GiveSpan{{Low: 5, High: 15}}, 0, true},
		{"one within the other, behind it", theirs([2]int{5, 15}, [2]int{8, 15}), one, 30, []impl.GiveSpan{{Low: 5, High: 15}}, 0, true},
		{"one within the other, ahead of it", theirs([2]int{5, 8}, [2]int{5, 15}), one, 30, []impl.GiveSpan{{Low: 5, High: 15}}, 0, true},
		{"the same", theirs([2]int{5, 8}, [2]int{5, 8}), one, 30, []impl.GiveSpan{{Low: 5, High: 8}}, 0, true},
		{"touch", theirs([2]int{5, 8}, [2]int{9, 12}), one, 30, []impl.GiveSpan{{Low: 5, High: 12}}, 0, true},
		{"one of one's own boxes within the other", theirs([2]int{10, 12}), []impl.GiveBox{{X: 1, Y: 1, In: 0, Out: 5}, {X: 1, Y: 1, In: 2, Out: 5}}, 30, []impl.GiveSpan{{Low: 5, High: 12}}, 0, true},
		{"one's own boxes apart from each other", theirs([2]int{20, 21}), []impl.GiveBox{
			{X: 1, Y: 1, In: 0, Out: 1}, {X: 2, Y: 1, High: 1, In: 2, Out: 3},
			{X: 3, Y: 1, High: 1, In: 4, Out: 8}, {X: 2, Y: 1, High: 1, In: 9, Out: 9}, {X: 1, Y: 1, In: 10, Out: 10},
		}, 40, []impl.GiveSpan{{Low: 10, High: 12}, {Low: 17, High: 21}}, 0, true},
	})
}

// The span of a pair beside, around, and within those of two others.
func TestBarsOfThreePairs(t *testing.T) {
	for in := range 16 {
		for out := in; out < 16; out++ {
			b := impl.GiveBook{Fields: []impl.GiveField{{Name: "a", X: 1, Y: 1}, {Name: "b", X: 3, Y: 1}}}
			b.Held = []impl.GiveHeld{
				{Name: "k", Tube: stayOnA(4, 5)},
				{Name: "l", Tube: stayOnA(9, 11)},
				{Name: "m", Tube: []impl.GiveBox{{X: 3, Y: 1, In: in, Out: out}}},
			}
			// In the cell between both runways, and then on one of them.
			tube := []impl.GiveBox{{X: 2, Y: 1, In: 0, Out: 0}, {X: 3, Y: 1, In: 0, Out: 0}}
			for _, name := range []string{"x", "k", "l", "m"} {
				for most := range 17 {
					checkBars(t, b, name, tube, most)
				}
			}
		}
	}
}

func TestBarsAtTheEndOfAllTicks(t *testing.T) {
	free := bookOnA()
	checkBarsCases(t, []barsCase{
		{"met exactly by most", free, stayOnA(9990, 9995), 5, nil, 0, true},
		{"one more", free, stayOnA(9990, 9995), 6, []impl.GiveSpan{{Low: 6, High: 6}}, 0, true},
		{"some more", free, stayOnA(9990, 9995), 9, []impl.GiveSpan{{Low: 6, High: 9}}, 0, true},
		{"far more", free, stayOnA(9990, 9995), 300, []impl.GiveSpan{{Low: 6, High: 300}}, 0, true},
		{"at the last tick", free, stayOnA(9990, 10000), 300, []impl.GiveSpan{{Low: 1, High: 300}}, 0, true},
		{"at the last tick, no later", free, stayOnA(10000, 10000), 0, nil, 0, true},
		{"most and a tick ahead", free, stayOnA(5, 9700), 300, nil, 0, true},
		{"most ahead but a tick", free, stayOnA(5, 9701), 300, []impl.GiveSpan{{Low: 300, High: 300}}, 0, true},
		{"all ticks", free, stayOnA(0, 10000), 300, []impl.GiveSpan{{Low: 1, High: 300}}, 0, true},
		{"the last of two boxes alone", free, append(stayOnA(5, 9000), stayOnA(9, 9998)...), 9, []impl.GiveSpan{{Low: 3, High: 9}}, 0, true},
		{"somebody ahead of the end", bookOnA([2]int{9993, 9993}), stayOnA(9990, 9990), 20, []impl.GiveSpan{{Low: 3, High: 3}, {Low: 11, High: 20}}, 0, true},
		{"somebody just ahead of the end", bookOnA([2]int{9999, 9999}), stayOnA(9990, 9990), 20, []impl.GiveSpan{{Low: 9, High: 9}, {Low: 11, High: 20}}, 0, true},
		{"somebody up to the end", bookOnA([2]int{9999, 10000}), stayOnA(9990, 9990), 20, []impl.GiveSpan{{Low: 9, High: 20}}, 0, true},
		{"somebody up to the end, from 0 on", bookOnA([2]int{9990, 10000}), stayOnA(9990, 9990), 20, []impl.GiveSpan{{Low: 0, High: 20}}, 0, false},
		{"somebody who is met behind the end too", bookOnA([2]int{9998, 10000}), stayOnA(9990, 9996), 20, []impl.GiveSpan{{Low: 2, High: 20}}, 0, true},
		{"the end barred and 0", bookOnA([2]int{9990, 9995}), stayOnA(9990, 9991), 20, []impl.GiveSpan{{Low: 0, High: 5}, {Low: 10, High: 20}}, 6, true},
		{"only the last delay is free", bookOnA([2]int{9990, 9999}), stayOnA(9999, 9999), 20, []impl.GiveSpan{{Low: 0, High: 0}, {Low: 2, High: 20}}, 1, true},
	})
}

// The first box is somewhere else and would go on barring behind the end of all ticks, the last one is beyond it.
func TestBarsOfAFirstBoxAtTheEnd(t *testing.T) {
	for out := 9985; out <= 10000; out++ {
		b := bookOnA([2]int{9980, out})
		tube := []impl.GiveBox{{X: 2, Y: 2, In: 9970, Out: 9975}, {X: 3, Y: 2, In: 9976, Out: 9990}, {X: 4, Y: 2, In: 9980, Out: 9992}}
		for _, most := range []int{0, 4, 5, 7, 8, 9, 14, 15, 30, 31, 300} {
			checkBars(t, b, "x", tube, most)
		}
	}
}

func TestBarsByMost(t *testing.T) {
	b := bookOnA([2]int{10, 12}, [2]int{100, 399})
	tube := stayOnA(8, 10)
	for most := 0; most <= 300; most++ {
		checkBars(t, b, "x", tube, most)
	}
	if got := impl.GiveBars(b, "x", tube, 0); !slices.Equal(got, []impl.GiveSpan{{Low: 0, High: 0}}) {
		t.Errorf("most 0: %v", got)
	}
	if got := impl.GiveBars(b, "x", tube, 300); !slices.Equal(got, []impl.GiveSpan{{Low: 0, High: 4}, {Low: 90, High: 300}}) {
		t.Errorf("most 300: %v", got)
	}
	for _, most := range append(farNumbers(), -1, -2, -300, 301, 302, 600, 10000, 10001) {
		for _, name := range []string{"x", "a"} {
			checkNothingTold(t, "most", b, name, tube, most)
			checkNothingTold(t, "most, in an empty sky", bookOnA(), name, tube, most)
		}
	}
}

func checkNothingTold(t *testing.T, what string, b impl.GiveBook, name string, tube []impl.GiveBox, most int) {
	t.Helper()
	if bars := impl.GiveBars(b, name, tube, most); len(bars) != 0 {
		t.Errorf("%s, %q, up to %d: bars %v", what, name, most, bars)
	}
	if by, ok := impl.GiveEarliest(b, name, tube, most); by != 0 || ok {
		t.Errorf("%s, %q, up to %d: earliest %d %v", what, name, most, by, ok)
	}
}

func TestBarsOfABookThatIsNotOk(t *testing.T) {
	tube := []impl.GiveBox{{X: 4, Y: 2, In: 9900, Out: 9910}}
	if got := impl.GiveBars(fullBook(), "x", tube, 100); !slices.Equal(got, []impl.GiveSpan{{Low: 91, High: 100}}) {
		t.Fatal(got)
	}
	for _, c := range booksNotOk() {
		b := fullBook()
		c.change(&b)
		for _, name := range []string{"x", "kl", ""} {
			checkNothingTold(t, c.name, b, name, tube, 100)
			checkNothingTold(t, c.name, b, name, stayOnA(5, 15), 100)
		}
	}
}

func TestBarsOfATubeThatIsNotOk(t *testing.T) {
	for _, tube := range tubesNotOk() {
		for _, most := range []int{-1, 0, 1, 300, 301} {
			checkNothingTold(t, "a list that is no tube", fullBook(), "x", tube, most)
			checkNothingTold(t, "a list that is no tube, in an empty sky", bookOnA(), "x", tube, most)
		}
	}
	checkNothingTold(t, "no runway", impl.GiveBook{}, "x", plainTube(), 9)
}

// Who asks bars nothing by what is their own, Tube or Next; a text that nobody has as a name lets all bar.
func TestBarsByName(t *testing.T) {
	b := fullBook()
	tube := stayOnA(5, 7)
	for name, want := range map[string][]impl.GiveSpan{
		"ba": {{Low: 23, High: 64}}, "kl": {{Low: 3, High: 24}, {Low: 43, High: 64}}, "lh": {{Low: 3, High: 44}},
	} {
		if got := checkBars(t, b, name, tube, 100); !slices.Equal(got, want) {
			t.Errorf("%s: %v, not %v", name, got, want)
		}
	}
	for _, name := range namesOfNobody() {
		if got := checkBars(t, b, name, tube, 100); !slices.Equal(got, []impl.GiveSpan{{Low: 3, High: 64}}) {
			t.Errorf("%.20q: %v", name, got)
		}
	}
	b.Held[1].Next = nil
	if got := checkBars(t, b, "x", tube, 100); !slices.Equal(got, []impl.GiveSpan{{Low: 3, High: 34}, {Low: 43, High: 64}}) {
		t.Errorf("without a Next: %v", got)
	}
}

// A box bars by its cell and levels alone where these are near, a bit off, and far off.
func TestBarsByCellsAndLevels(t *testing.T) {
	fields := []impl.GiveField{{Name: "a", X: 7, Y: 7}, {Name: "b", X: 9, Y: 9}}
	held := []impl.GiveHeld{{Name: "k", Tube: []impl.GiveBox{{X: 7, Y: 7, Low: 2, High: 3, In: 20, Out: 22}, {X: 7, Y: 7, Low: 0, High: 2, In: 20, Out: 22}}}}
	b := impl.GiveBook{Fields: fields, Held: held}
	for x := 8; x <= 10; x++ {
		for y := 8; y <= 10; y++ {
			for levels := range 49 {
				low, high := levels/7, levels%7
				if low > high {
					continue
				}
				tube := []impl.GiveBox{{X: x, Y: y, Low: low, High: high, In: 3, Out: 4}, {X: 9, Y: 9, Low: 0, High: high, In: 4, Out: 5}}
				checkBars(t, b, "x", tube, 40)
				checkBars(t, b, "k", tube, 40)
			}
		}
	}
}

func TestBarsAgainstTrying(t *testing.T) {
	d := dice(11)
	sizes := map[int]int{}
	var never, later int
	for range 250 {
		b := d.book(10, 7, 120)
		if !impl.GiveBookOk(b) {
			t.Fatalf("%+v is not ok", b)
		}
		for range 3 {
			tube := d.tubeTo(b.Fields, 10, d.roll(100))
			name := alphabet(12)[d.roll(12)]
			most := []int{0, 7, 60, 150}[d.roll(4)]
			sizes[min(4, len(checkBars(t, b, name, tube, most)))]++
			if by, ok := impl.GiveEarliest(b, name, tube, most); !ok {
				never++
			} else if by > 0 {
				later++
			}
		}
	}
	if len(sizes) < 5 || never < 20 || later < 50 {
		t.Errorf("sizes %v, never %d, later %d", sizes, never, later)
	}
}

func TestBarsAgainstTryingAtTheEnd(t *testing.T) {
	d := dice(13)
	for range 100 {
		b := d.book(6, 4, 60)
		for place := range b.Held {
			b.Held[place].Tube = laterBy(b.Held[place].Tube, 9900)
			b.Held[place].Next = laterBy(b.Held[place].Next, 9900)
		}
		if !impl.GiveBookOk(b) {
			t.Fatalf("%+v is not ok", b)
		}
		tube := d.tubeTo(b.Fields, 6, 9900+d.roll(60))
		checkBars(t, b, "x", tube, 50+d.roll(60))
	}
}

// As many hold as much as may be, all in one cell, so that each pair of boxes bars something.
func TestBarsOfAFullBook(t *testing.T) {
	b := impl.GiveBook{Fields: twoFields()}
	for place, name := range alphabet(16) {
		held := impl.GiveHeld{Name: name}
		for box := range 40 {
			tick := place*50 + box
			held.Tube = append(held.Tube, impl.GiveBox{X: 1, Y: 1, High: 6, In: tick, Out: tick})
			held.Next = append(held.Next, impl.GiveBox{X: 2, Y: 2, High: 6, In: tick, Out: tick})
		}
		held.Next[39].X, held.Next[39].Y = 1, 1
		b.Held = append(b.Held, held)
	}
	for size := 1; size <= 40; size++ {
		bars := checkTold(t, b, "x", tubeOfSize(size), 300)
		if (len(bars) > 1) != (size <= 10) {
			t.Errorf("%d boxes: %v", size, bars)
		}
	}
}

func TestEarliestOfSome(t *testing.T) {
	b := bookOnA([2]int{10, 20}, [2]int{24, 30})
	for _, c := range []struct {
		in, out, most, by int
		ok                bool
	}{
		{0, 0, 300, 0, true}, {9, 9, 300, 0, true}, {9, 10, 300, 12, true},
		{10, 12, 300, 11, true}, {10, 12, 11, 11, true}, {10, 12, 10, 0, false}, {10, 12, 0, 0, false},
		{10, 13, 300, 21, true}, {10, 13, 21, 21, true}, {10, 13, 20, 0, false},
		{20, 20, 1, 1, true}, {20, 20, 0, 0, false}, {21, 21, 0, 0, true}, {31, 40, 300, 0, true},
	} {
		by, ok := impl.GiveEarliest(b, "x", stayOnA(c.in, c.out), c.most)
		if by != c.by || ok != c.ok {
			t.Errorf("%+v: %d %v", c, by, ok)
		}
	}
	long := bookOnA([2]int{0, 299})
	if by, ok := impl.GiveEarliest(long, "x", stayOnA(0, 0), 300); by != 300 || !ok {
		t.Errorf("the most that may be: %d %v", by, ok)
	}
	if by, ok := impl.GiveEarliest(long, "x", stayOnA(0, 0), 299); by != 0 || ok {
		t.Errorf("one less: %d %v", by, ok)
	}
}

func TestBarsAreNewMemory(t *testing.T) {
	whole := bookOnA([2]int{10, 12}, [2]int{20, 22}, [2]int{30, 31})
	whole.Held[1].Next = stayOnA(40, 41)
	b, all := withRoom(whole)
	kept := all()
	room := append(stayOnA(5, 6), stayOnA(10, 10)...)
	first, second := impl.GiveBars(b, "x", room[:1], 100), impl.GiveBars(b, "x", room[:1], 100)
	want := []impl.GiveSpan{{Low: 4, High: 7}, {Low: 14, High: 17}, {Low: 24, High: 26}, {Low: 34, High: 36}}
	if !slices.Equal(first, want) || !slices.Equal(second, want) {
		t.Fatal(first, second)
	}
	spare := first[:cap(first)]
	for place := range spare {
		spare[place] = impl.GiveSpan{Low: -7, High: -7}
	}
	if by, ok := impl.GiveEarliest(b, "x", room[:1], 100); by != 0 || !ok {
		t.Error(by, ok)
	}
	if !slices.Equal(second, want) || !slices.Equal(impl.GiveBars(b, "x", room[:1], 100), want) {
		t.Error("two answers share memory")
	}
	if !reflect.DeepEqual(all(), kept) || !slices.Equal(room, append(stayOnA(5, 6), stayOnA(10, 10)...)) {
		t.Error("an argument was changed")
	}
}

func TestBarsOfFarNumbers(t *testing.T) {
	for number := range 6 {
		for _, far := range farNumbers() {
			tube := stayOnA(5, 6)
			*numbersOf(&tube[0])[number] = far
			checkNothingTold(t, "a far number of the tube", bookOnA([2]int{7, 8}), "x", tube, 9)
			b := bookOnA([2]int{7, 8})
			*numbersOf(&b.Held[0].Tube[0])[number] = far
			checkNothingTold(t, "a far number of the book", b, "x", stayOnA(5, 6), 9)
		}
	}
	checkNothingTold(t, "Now far off", impl.GiveBook{Now: math.MaxInt, Fields: twoFields()}, "x", stayOnA(5, 6), 9)
}
