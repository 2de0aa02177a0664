package tests

import (
	"slices"
	"testing"

	"loop.example/lapgive/impl"
)

func TestLimitsOfBoxes(t *testing.T) {
	got := []int{impl.GiveMaxSide, impl.GiveMaxLevel, impl.GiveMaxTick, impl.GiveMaxBoxes, impl.GiveApart}
	if !slices.Equal(got, []int{16, 6, 10000, 40, 2}) {
		t.Error(got)
	}
}

func TestTubesThatAreOk(t *testing.T) {
	a := impl.GiveBox{X: 1, Y: 1, In: 5, Out: 8}
	cases := []struct {
		name string
		tube []impl.GiveBox
	}{
		{"from a field to another", plainTube()},
		{"one box", []impl.GiveBox{a}},
		{"one box, one tick", []impl.GiveBox{{X: 1, Y: 1, In: 5, Out: 5}}},
		{"one box, all levels", []impl.GiveBox{{X: 1, Y: 1, High: 6, In: 5, Out: 8}}},
		{"the same box again", []impl.GiveBox{a, a, a}},
		{"it begins on no field, in the air", []impl.GiveBox{{X: 2, Y: 2, Low: 3, High: 5, In: 5, Out: 8}, {X: 1, Y: 1, High: 3, In: 5, Out: 8}}},
		{"to the first field", []impl.GiveBox{{X: 2, Y: 1, High: 1, In: 5, Out: 7}, a}},
		{"to the last field", []impl.GiveBox{{X: 3, Y: 1, High: 1, In: 5, Out: 7}, {X: 4, Y: 2, In: 5, Out: 7}}},
		{"over a field and on", []impl.GiveBox{{X: 4, Y: 2, In: 1, Out: 2}, {X: 5, Y: 2, In: 2, Out: 3}, {X: 4, Y: 2, In: 3, Out: 4}}},
	}
	for dx := -1; dx <= 1; dx++ {
		for dy := -1; dy <= 1; dy++ {
			cases = append(cases, struct {
				name string
				tube []impl.GiveBox
			}{"a step from each neighbour", []impl.GiveBox{{X: 1 + dx, Y: 1 + dy, In: 5, Out: 8}, a}})
		}
	}
	for _, c := range cases {
		if !impl.GiveTubeOk(twoFields(), c.tube) {
			t.Errorf("%s: %+v is not ok", c.name, c.tube)
		}
	}
}

func TestTubeSizes(t *testing.T) {
	for size := range 100 {
		if impl.GiveTubeOk(twoFields(), tubeOfSize(size)) != (size >= 1 && size <= 40) {
			t.Errorf("%d boxes", size)
		}
	}
	if impl.GiveTubeOk(twoFields(), nil) || impl.GiveTubeOk(twoFields(), []impl.GiveBox{}) || impl.GiveTubeOk(nil, nil) {
		t.Error("no boxes")
	}
}

func TestTubeAtTheLimitsOfABox(t *testing.T) {
	fields := []impl.GiveField{{X: 0, Y: 0}, {X: 15, Y: 15}, {X: 0, Y: 15}, {X: 15, Y: 0}}
	for _, field := range fields {
		if !impl.GiveTubeOk(fields, []impl.GiveBox{widest(field.X, field.Y)}) {
			t.Errorf("%+v met exactly", field)
		}
	}
	for _, ticks := range [][2]int{{0, 0}, {0, 10000}, {10000, 10000}} {
		if !impl.GiveTubeOk(fields, []impl.GiveBox{{In: ticks[0], Out: ticks[1]}}) {
			t.Errorf("ticks %v met exactly", ticks)
		}
	}
	for _, c := range boxesNotOk() {
		// A field in just that cell, so that nothing but the box is wrong.
		there := []impl.GiveField{{X: c.box.X, Y: c.box.Y}}
		if impl.GiveTubeOk(there, []impl.GiveBox{c.box}) {
			t.Errorf("%s", c.name)
		}
	}
}

func TestTubeWithOneBoxNotOkAtEachPlace(t *testing.T) {
	breaks := []struct {
		name  string
		spoil func(b *impl.GiveBox)
	}{
		{"Low -1", func(b *impl.GiveBox) { b.Low = -1 }},
		{"High 7", func(b *impl.GiveBox) { b.High = 7 }},
		{"Out 10001", func(b *impl.GiveBox) { b.Out = 10001 }},
		{"In -1", func(b *impl.GiveBox) { b.In = -1 }},
	}
	for place := range 4 {
		for _, c := range breaks {
			tube := slices.Repeat([]impl.GiveBox{{X: 1, Y: 1, High: 6, Out: 10000}}, 4)
			c.spoil(&tube[place])
			if impl.GiveTubeOk(twoFields(), tube) {
				t.Errorf("%s at %d", c.name, place)
			}
		}
	}
	for place := range 4 {
		tube := slices.Repeat([]impl.GiveBox{widest(0, 0)}, 4)
		tube[place].X = -1
		if impl.GiveTubeOk([]impl.GiveField{{X: 0}, {X: -1}}, tube) {
			t.Errorf("X -1 at %d", place)
		}
		tube = slices.Repeat([]impl.GiveBox{widest(15, 15)}, 4)
		tube[place].Y = 16
		if impl.GiveTubeOk([]impl.GiveField{{X: 15, Y: 15}, {X: 15, Y: 16}}, tube) {
			t.Errorf("Y 16 at %d", place)
		}
	}
}

// Each pair meets all of its bounds exactly but the one that is told.
func TestBoxBehindTheOneAhead(t *testing.T) {
	ahead := impl.GiveBox{X: 5, Y: 5, Low: 2, High: 3, In: 10, Out: 20}
	cases := []struct {
		name string
		box  impl.GiveBox
		want bool
	}{
		{"same", ahead, true},
		{"X 1 more", impl.GiveBox{X: 6, Y: 5, Low: 2, High: 3, In: 10, Out: 20}, true},
		{"X 2 more", impl.GiveBox{X: 7, Y: 5, Low: 2, High: 3, In: 10, Out: 20}, false},
		{"X 1 less", impl.GiveBox{X: 4, Y: 5, Low: 2, High: 3, In: 10, Out: 20}, true},
		{"X 2 less", impl.GiveBox{X: 3, Y: 5, Low: 2, High: 3, In: 10, Out: 20}, false},
		{"Y 1 more", impl.GiveBox{X: 5, Y: 6, Low: 2, High: 3, In: 10, Out: 20}, true},
		{"Y 2 more", impl.GiveBox{X: 5, Y: 7, Low: 2, High: 3, In: 10, Out: 20}, false},
		{"Y 1 less", impl.GiveBox{X: 5, Y: 4, Low: 2, High: 3, In: 10, Out: 20}, true},
		{"Y 2 less", impl.GiveBox{X: 5, Y: 3, Low: 2, High: 3, In: 10, Out: 20}, false},
		{"X and Y 1 apart", impl.GiveBox{X: 6, Y: 4, Low: 2, High: 3, In: 10, Out: 20}, true},
		{"High meets Low", impl.GiveBox{X: 5, Y: 5, Low: 0, High: 2, In: 10, Out: 20}, true},
		{"High below Low", impl.GiveBox{X: 5, Y: 5, Low: 0, High: 1, In: 10, Out: 20}, false},
		{"Low meets High", impl.GiveBox{X: 5, Y: 5, Low: 3, High: 6, In: 10, Out: 20}, true},
		{"Low above High", impl.GiveBox{X: 5, Y: 5, Low: 4, High: 6, In: 10, Out: 20}, false},
		{"levels around", impl.GiveBox{X: 5, Y: 5, Low: 0, High: 6, In: 10, Out: 20}, true},
		{"In 1 less", impl.GiveBox{X: 5, Y: 5, Low: 2, High: 3, In: 9, Out: 20}, false},
		{"In more", impl.GiveBox{X: 5, Y: 5, Low: 2, High: 3, In: 20, Out: 20}, true},
		{"Out 1 less", impl.GiveBox{X: 5, Y: 5, Low: 2, High: 3, In: 10, Out: 19}, false},
		{"Out more", impl.GiveBox{X: 5, Y: 5, Low: 2, High: 3, In: 10, Out: 30}, true},
		{"In 1 more than Out ahead", impl.GiveBox{X: 5, Y: 5, Low: 2, High: 3, In: 21, Out: 30}, true},
		{"In 2 more than Out ahead", impl.GiveBox{X: 5, Y: 5, Low: 2, High: 3, In: 22, Out: 30}, false},
	}
	for _, c := range cases {
		// A box ahead of the two and one behind them, on the ground, so that the pair is looked for at any place.
		first := impl.GiveBox{X: 5, Y: 5, High: 6, In: 0, Out: 15}
		last := impl.GiveBox{X: c.box.X, Y: c.box.Y, High: 6, In: c.box.In, Out: c.box.Out}
		fields := []impl.GiveField{{X: c.box.X, Y: c.box.Y}}
		for _, tube := range [][]impl.GiveBox{{ahead, c.box, last}, {first, ahead, c.box, last}, {first, first, ahead, c.box, last, last}} {
			if impl.GiveTubeOk(fields, tube) != c.want {
				t.Errorf("%s: %+v", c.name, tube)
			}
		}
	}
}

func TestBoxBehindAtTheEnd(t *testing.T) {
	ground := impl.GiveBox{X: 1, Y: 1, In: 5, Out: 9}
	for _, ahead := range []impl.GiveBox{
		{X: 3, Y: 1, In: 5, Out: 9}, {X: 1, Y: 3, In: 5, Out: 9}, {X: 1, Y: 1, Low: 1, High: 2, In: 5, Out: 9},
		{X: 1, Y: 1, In: 6, Out: 9}, {X: 1, Y: 1, In: 5, Out: 10}, {X: 1, Y: 1, In: 2, Out: 3},
	} {
		if impl.GiveTubeOk(twoFields(), []impl.GiveBox{ahead, ground}) {
			t.Errorf("%+v ahead of the last one", ahead)
		}
		if impl.GiveTubeOk(twoFields(), []impl.GiveBox{ahead, ground, ground}) {
			t.Errorf("%+v at first", ahead)
		}
	}
}

func TestTubeThatDoesNotLand(t *testing.T) {
	cases := []struct {
		name string
		last impl.GiveBox
	}{
		{"beside, by X", impl.GiveBox{X: 5, Y: 2, In: 13, Out: 15}},
		{"beside, by Y", impl.GiveBox{X: 4, Y: 3, In: 13, Out: 15}},
		{"X of one field, Y of the other", impl.GiveBox{X: 4, Y: 1, In: 13, Out: 15}},
		{"Low 1", impl.GiveBox{X: 4, Y: 2, Low: 1, High: 1, In: 13, Out: 15}},
		{"Low 1, High 6", impl.GiveBox{X: 4, Y: 2, Low: 1, High: 6, In: 13, Out: 15}},
	}
	for _, c := range cases {
		tube := plainTube()
		tube[2].Low = 0
		tube[3] = c.last
		if impl.GiveTubeOk(twoFields(), tube) {
			t.Errorf("%s", c.name)
		}
		if impl.GiveTubeOk(twoFields(), []impl.GiveBox{c.last}) {
			t.Errorf("%s, alone", c.name)
		}
	}
	if impl.GiveTubeOk(twoFields(), plainTube()[:3]) {
		t.Error("only the first box is on a field")
	}
}

func TestTubeByAnyFields(t *testing.T) {
	if impl.GiveTubeOk(nil, plainTube()) || impl.GiveTubeOk([]impl.GiveField{}, plainTube()) {
		t.Error("no fields")
	}
	there := impl.GiveField{Name: "", X: 4, Y: 2}
	many := slices.Repeat([]impl.GiveField{{Name: "A b", X: -1, Y: 99}}, 50)
	for _, fields := range [][]impl.GiveField{{there}, {there, there}, append(many, there), append([]impl.GiveField{there}, many...)} {
		if !impl.GiveTubeOk(fields, plainTube()) {
			t.Errorf("%d fields with one under the last box", len(fields))
		}
	}
	if impl.GiveTubeOk(many, plainTube()) {
		t.Error("many fields, none under the last box")
	}
}

func TestTubeWithFarNumbers(t *testing.T) {
	for place := range plainTube() {
		for number := range 6 {
			for _, far := range farNumbers() {
				tube := plainTube()
				*numbersOf(&tube[place])[number] = far
				last := tube[3]
				if impl.GiveTubeOk(append(twoFields(), impl.GiveField{X: last.X, Y: last.Y}), tube) {
					t.Errorf("number %d of box %d is %d", number, place, far)
				}
				if number == 0 || number == 1 {
					continue
				}
				// Both of a pair, so that they stand in order.
				tube = plainTube()
				*numbersOf(&tube[place])[number] = far
				*numbersOf(&tube[place])[number^1] = far
				if impl.GiveTubeOk(twoFields(), tube) {
					t.Errorf("numbers %d and %d of box %d are %d", number, number^1, place, far)
				}
			}
		}
	}
	for _, far := range farNumbers() {
		every := impl.GiveBox{X: far, Y: far, Low: far, High: far, In: far, Out: far}
		if impl.GiveTubeOk([]impl.GiveField{{X: far, Y: far}}, []impl.GiveBox{every, every}) {
			t.Errorf("all numbers are %d", far)
		}
	}
}

// All tubes of three boxes with few ticks and levels, against the words of the document.
func TestTubesAgainstTheWords(t *testing.T) {
	fields := twoFields()
	for _, tube := range smallTubes() {
		if impl.GiveTubeOk(fields, tube) != tubeIsOk(fields, tube) {
			t.Fatalf("%+v: not %v", tube, tubeIsOk(fields, tube))
		}
	}
}

// Lists of three boxes with all kinds of ticks, most of them no tubes.
func smallTubes() [][]impl.GiveBox {
	var boxes []impl.GiveBox
	for in := range 5 {
		for out := range 5 {
			boxes = append(boxes, impl.GiveBox{X: 1, Y: 1, High: 1, In: in, Out: out})
		}
	}
	boxes = append(boxes, impl.GiveBox{X: 3, Y: 1, Out: 4}, impl.GiveBox{X: 1, Y: 2, Low: 1, High: 1, Out: 4}, impl.GiveBox{X: 2, Y: 0, Low: 2, High: 2, Out: 4})
	var tubes [][]impl.GiveBox
	for _, one := range boxes {
		for _, two := range boxes {
			for _, three := range boxes {
				tubes = append(tubes, []impl.GiveBox{one, two, three})
			}
		}
	}
	return tubes
}

func TestTubeOkWritesNothing(t *testing.T) {
	fields, tube := twoFields(), plainTube()
	impl.GiveTubeOk(fields[:1], tube[:2])
	impl.GiveTubeOk(fields, tube)
	if !slices.Equal(fields, twoFields()) || !slices.Equal(tube, plainTube()) {
		t.Error("an argument was changed")
	}
}
