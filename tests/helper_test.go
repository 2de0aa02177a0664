package tests

import (
	"math"
	"slices"

	"loop.example/lapgive/impl"
)

// Two runways, so that a cell with the X of one and the Y of the other is none.
func twoFields() []impl.GiveField {
	return []impl.GiveField{{Name: "a", X: 1, Y: 1}, {Name: "b", X: 4, Y: 2}}
}

// A tube from the field a to the field b in which no pair of boxes meets any of its bounds but the ticks of the last one.
func plainTube() []impl.GiveBox {
	return []impl.GiveBox{
		{X: 1, Y: 1, Low: 0, High: 1, In: 5, Out: 8},
		{X: 2, Y: 1, Low: 0, High: 2, In: 6, Out: 10},
		{X: 3, Y: 2, Low: 1, High: 3, In: 8, Out: 12},
		{X: 4, Y: 2, Low: 0, High: 1, In: 13, Out: 15},
	}
}

// A tube that stays on the field a, a box a tick.
func tubeOfSize(size int) []impl.GiveBox {
	var tube []impl.GiveBox
	for tick := range size {
		tube = append(tube, impl.GiveBox{X: 1, Y: 1, In: tick, Out: tick})
	}
	return tube
}

// A box that is ok and as wide in levels and ticks as may be.
func widest(x int, y int) impl.GiveBox {
	return impl.GiveBox{X: x, Y: y, High: impl.GiveMaxLevel, Out: impl.GiveMaxTick}
}

// Each number of a box, to be set from outside.
func numbersOf(box *impl.GiveBox) []*int {
	return []*int{&box.X, &box.Y, &box.Low, &box.High, &box.In, &box.Out}
}

func farNumbers() []int {
	return []int{math.MinInt, math.MinInt + 1, -1 << 32, -100000, 100000, 1 << 32, math.MaxInt - 1, math.MaxInt}
}

type boxCase struct {
	name string
	box  impl.GiveBox
}

// Boxes that are not ok for one reason each, and would be near to the widest box at the cell if they were.
func boxesNotOk() []boxCase {
	return []boxCase{
		{"X -1", impl.GiveBox{X: -1, Y: 0, Out: 9}},
		{"X 16", impl.GiveBox{X: 16, Y: 15, Out: 9}},
		{"Y -1", impl.GiveBox{X: 0, Y: -1, Out: 9}},
		{"Y 16", impl.GiveBox{X: 15, Y: 16, Out: 9}},
		{"Low -1", impl.GiveBox{X: 0, Y: 0, Low: -1, Out: 9}},
		{"Low above High", impl.GiveBox{X: 0, Y: 0, Low: 4, High: 3, Out: 9}},
		{"High 7", impl.GiveBox{X: 0, Y: 0, High: 7, Out: 9}},
		{"In -1", impl.GiveBox{X: 0, Y: 0, In: -1, Out: 9}},
		{"In above Out", impl.GiveBox{X: 0, Y: 0, In: 10, Out: 9}},
		{"Out 10001", impl.GiveBox{X: 0, Y: 0, In: 9, Out: 10001}},
	}
}

// What the document says of a box, word by word.
func boxIsOk(b impl.GiveBox) bool {
	if b.X < 0 || b.X > 15 || b.Y < 0 || b.Y > 15 {
		return false
	}
	if b.Low < 0 || b.High < b.Low || b.High > 6 {
		return false
	}
	return !(b.In < 0 || b.Out < b.In || b.Out > 10000)
}

func distance(a int, b int) int {
	if a < b {
		return b - a
	}
	return a - b
}

// What the document says of two boxes, level by level.
func levelInCommon(a impl.GiveBox, b impl.GiveBox) bool {
	for level := a.Low; level <= a.High; level++ {
		if b.Low <= level && level <= b.High {
			return true
		}
	}
	return false
}

func tickInCommon(a impl.GiveBox, b impl.GiveBox) bool {
	for tick := a.In; tick <= a.Out; tick++ {
		if b.In <= tick && tick <= b.Out {
			return true
		}
	}
	return false
}

// What the document says of a tube.
func tubeIsOk(fields []impl.GiveField, tube []impl.GiveBox) bool {
	if len(tube) == 0 || len(tube) > 40 {
		return false
	}
	for place, box := range tube {
		if !boxIsOk(box) {
			return false
		}
		if place == 0 {
			continue
		}
		ahead := tube[place-1]
		if distance(ahead.X, box.X) > 1 || distance(ahead.Y, box.Y) > 1 || !levelInCommon(ahead, box) {
			return false
		}
		if box.In < ahead.In || box.Out < ahead.Out || box.In-ahead.Out > 1 {
			return false
		}
	}
	last := tube[len(tube)-1]
	return last.Low == 0 && slices.ContainsFunc(fields, func(f impl.GiveField) bool { return f.X == last.X && f.Y == last.Y })
}

func copyBook(b impl.GiveBook) impl.GiveBook {
	b.Fields = slices.Clone(b.Fields)
	b.Held = slices.Clone(b.Held)
	for place := range b.Held {
		b.Held[place].Tube = slices.Clone(b.Held[place].Tube)
		b.Held[place].Next = slices.Clone(b.Held[place].Next)
	}
	return b
}
