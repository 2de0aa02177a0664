package tests

import (
	"math"
	"slices"

	"loop.example/lapgive/impl"
)

// Two runways, so that a cell with the X of one and the Y of the other is none.
func twoFields() []impl.GiveField {
	return []impl.GiveField{{Name: "a", X: 1, Y: 1}, {Name: "b", X: 4, Y: 2}}
}

// A tube from the field a to the field b in which no pair of boxes meets any of its bounds but the ticks of the last one.
func plainTube() []impl.GiveBox {
	return []impl.GiveBox{
		{X: 1, Y: 1, Low: 0, High: 1, In: 5, Out: 8},
		{X: 2, Y: 1, Low: 0, High: 2, In: 6, Out: 10},
		{X: 3, Y: 2, Low: 1, High: 3, In: 8, Out: 12},
		{X: 4, Y: 2, Low: 0, High: 1, In: 13, Out: 15},
	}
}

// A tube that stays on the field a, a box a tick.
func tubeOfSize(size int) []impl.GiveBox {
	var tube []impl.GiveBox
	for tick := range size {
		tube = append(tube, impl.GiveBox{X: 1, Y: 1, In: tick, Out: tick})
	}
	return tube
}

// A box that is ok and as wide in levels and ticks as may be.
func widest(x int, y int) impl.GiveBox {
	return impl.GiveBox{X: x, Y: y, High: impl.GiveMaxLevel, Out: impl.GiveMaxTick}
}

// Each number of a box, to be set from outside.
func numbersOf(box *impl.GiveBox) []*int {
	return []*int{&box.X, &box.Y, &box.Low, &box.High, &box.In, &box.Out}
}

func farNumbers() []int {
	return []int{math.MinInt, math.MinInt + 1, -1 << 32, -100000, 100000, 1 << 32, math.MaxInt - 1, math.MaxInt}
}

type boxCase struct {
	name string
	box  impl.GiveBox
}

// Boxes that are not ok for one reason each, and would be near to the widest box at the cell if they were.
func boxesNotOk() []boxCase {
	return []boxCase{
		{"X -1", impl.GiveBox{X: -1, Y: 0, Out: 9}},
		{"X 16", impl.GiveBox{X: 16, Y: 15, Out: 9}},
		{"Y -1", impl.GiveBox{X: 0, Y: -1, Out: 9}},
		{"Y 16", impl.GiveBox{X: 15, Y: 16, Out: 9}},
		{"Low -1", impl.GiveBox{X: 0, Y: 0, Low: -1, Out: 9}},
		{"Low above High", impl.GiveBox{X: 0, Y: 0, Low: 4, High: 3, Out: 9}},
		{"High 7", impl.GiveBox{X: 0, Y: 0, High: 7, Out: 9}},
		{"In -1", impl.GiveBox{X: 0, Y: 0, In: -1, Out: 9}},
		{"In above Out", impl.GiveBox{X: 0, Y: 0, In: 10, Out: 9}},
		{"Out 10001", impl.GiveBox{X: 0, Y: 0, In: 9, Out: 10001}},
	}
}

// What the document says of a box, word by word.
func boxIsOk(b impl.GiveBox) bool {
	if b.X < 0 || b.X > 15 || b.Y < 0 || b.Y > 15 {
		return false
	}
	if b.Low < 0 || b.High < b.Low || b.High > 6 {
		return false
	}
	return !(b.In < 0 || b.Out < b.In || b.Out > 10000)
}

func distance(a int, b int) int {
	if a < b {
		return b - a
	}
	return a - b
}

// What the document says of two boxes, level by level.
func levelInCommon(a impl.GiveBox, b impl.GiveBox) bool {
	for level := a.Low; level <= a.High; level++ {
		if b.Low <= level && level <= b.High {
			return true
		}
	}
	return false
}

func tickInCommon(a impl.GiveBox, b impl.GiveBox) bool {
	for tick := a.In; tick <= a.Out; tick++ {
		if b.In <= tick && tick <= b.Out {
			return true
		}
	}
	return false
}

// What the document says of a tube.
func tubeIsOk(fields []impl.GiveField, tube []impl.GiveBox) bool {
	if len(tube) == 0 || len(tube) > 40 {
		return false
	}
	for place, box := range tube {
		if !boxIsOk(box) {
			return false
		}
		if place == 0 {
			continue
		}
		ahead := tube[place-1]
		if distance(ahead.X, box.X) > 1 || distance(ahead.Y, box.Y) > 1 || !levelInCommon(ahead, box) {
			return false
		}
		if box.In < ahead.In || box.Out < ahead.Out || box.In-ahead.Out > 1 {
			return false
		}
	}
	last := tube[len(tube)-1]
	return last.Low == 0 && slices.ContainsFunc(fields, func(f impl.GiveField) bool { return f.X == last.X && f.Y == last.Y })
}

func copyBook(b impl.GiveBook) impl.GiveBook {
	b.Fields = slices.Clone(b.Fields)
	b.Held = slices.Clone(b.Held)
	for place := range b.Held {
		b.Held[place].Tube = slices.Clone(b.Held[place].Tube)
		b.Held[place].Next = slices.Clone(b.Held[place].Next)
	}
	return b
}

// What the document says of two lists of boxes.
func listsAreNear(a []impl.GiveBox, b []impl.GiveBox) bool {
	for _, one := range a {
		for _, other := range b {
			near := distance(one.X, other.X) < 2 && distance(one.Y, other.Y) < 2
			if near && boxIsOk(one) && boxIsOk(other) && levelInCommon(one, other) && tickInCommon(one, other) {
				return true
			}
		}
	}
	return false
}

func nearToSomebodyElse(b impl.GiveBook, name string, tube []impl.GiveBox) bool {
	return slices.ContainsFunc(b.Held, func(h impl.GiveHeld) bool {
		return h.Name != name && (listsAreNear(tube, h.Tube) || listsAreNear(tube, h.Next))
	})
}

func laterBy(tube []impl.GiveBox, ticks int) []impl.GiveBox {
	later := slices.Clone(tube)
	for place := range later {
		later[place].In += ticks
		later[place].Out += ticks
	}
	return later
}

// Numbers that are the same ones at each run.
type dice uint64

func (d *dice) roll(sides int) int {
	*d = *d*6364136223846793005 + 1442695040888963407
	return int(uint64(*d)>>33) % sides
}

// A tube that is ok to one of the fields, of at most so many boxes, built from its end on the ground.
func (d *dice) tubeTo(fields []impl.GiveField, most int, from int) []impl.GiveBox {
	field := fields[d.roll(len(fields))]
	tube := []impl.GiveBox{{X: field.X, Y: field.Y, High: d.roll(3)}}
	for range d.roll(most) {
		next := tube[0]
		shared := next.Low + d.roll(next.High-next.Low+1)
		tube = slices.Insert(tube, 0, impl.GiveBox{
			X:    min(15, max(0, next.X+d.roll(3)-1)),
			Y:    min(15, max(0, next.Y+d.roll(3)-1)),
			Low:  max(0, shared-d.roll(3)),
			High: min(6, shared+d.roll(3)),
		})
	}
	in, out := from, from+d.roll(6)
	for place := range tube {
		tube[place].In, tube[place].Out = in, out
		in += d.roll(out - in + 2)
		out = max(in, out+d.roll(5))
	}
	return tube
}

// A book that is ok: of those who ask for a tube, or for a Next, all stay in it who come near to nobody.
func (d *dice) book(asking int, most int, spread int) impl.GiveBook {
	b := impl.GiveBook{Fields: twoFields()}
	for _, name := range alphabet(asking) {
		held := impl.GiveHeld{Name: name, Tube: d.tubeTo(b.Fields, most, d.roll(spread))}
		if nearToSomebodyElse(b, name, held.Tube) {
			continue
		}
		if next := d.tubeTo(b.Fields, most, d.roll(spread)); d.roll(2) == 0 && !nearToSomebodyElse(b, name, next) {
			held.Next = next
		}
		b.Held = append(b.Held, held)
	}
	return b
}

// The book with each of its lists the beginning of a longer one, and what stands in these, to be held against itself later.
func withRoom(b impl.GiveBook) (impl.GiveBook, func() impl.GiveBook) {
	longer := copyBook(b)
	mark := impl.GiveBox{X: -5, Y: -6, Low: -7, High: -8, In: -9, Out: -10}
	for place := range longer.Held {
		longer.Held[place].Tube = append(longer.Held[place].Tube, mark, mark)
		longer.Held[place].Next = append(longer.Held[place].Next, mark, mark)
	}
	rooms := slices.Clone(longer.Held)
	longer.Fields = append(longer.Fields, impl.GiveField{Name: "mark", X: -5, Y: -6})
	longer.Held = append(longer.Held, impl.GiveHeld{Name: "mark"})
	short := impl.GiveBook{Now: b.Now, Fields: longer.Fields[:len(b.Fields)], Held: longer.Held[:len(b.Held)]}
	for place := range short.Held {
		short.Held[place].Tube = rooms[place].Tube[:len(b.Held[place].Tube)]
		short.Held[place].Next = rooms[place].Next[:len(b.Held[place].Next)]
	}
	return short, func() impl.GiveBook {
		all := copyBook(longer)
		for place := range rooms {
			all.Held[place].Tube = append(all.Held[place].Tube, rooms[place].Tube...)
			all.Held[place].Next = append(all.Held[place].Next, rooms[place].Next...)
		}
		return all
	}
}
