// Package impl: who holds what of the sky, and the least change that is free.
package impl

import "iter"

// Limits of boxes.
const (
	GiveMaxSide  = 16
	GiveMaxLevel = 6
	GiveMaxTick  = 10000
	GiveMaxBoxes = 40
	GiveApart    = 2
)

// GiveBox is a cell, levels, and ticks.
type GiveBox struct {
	X    int
	Y    int
	Low  int
	High int
	In   int
	Out  int
}

// GiveField is a runway.
type GiveField struct {
	Name string
	X    int
	Y    int
}

// GiveTubeOk says whether a tube is ok, and goes to the ground.
func GiveTubeOk(fields []GiveField, tube []GiveBox) bool {
	return passes(tube, []func([]GiveBox) bool{
		lengthOk,
		boxesOk,
		boxesBehind,
		func(tube []GiveBox) bool { return lands(fields, tube) },
	})
}

// GiveNear says whether two tubes come too near.
func GiveNear(a []GiveBox, b []GiveBox) bool {
	for _, one := range a {
		if boxOk(one) && nearAny(one, b) {
			return true
		}
	}
	return false
}

// GiveCut is a tube from a tick on.
func GiveCut(tube []GiveBox, from int) []GiveBox {
	var left []GiveBox
	for _, box := range tube {
		if box.Out >= from {
			box.In = max(box.In, from)
			left = append(left, box)
		}
	}
	return left
}

// passes asks no check behind one that fails, so a check may lean on those ahead of it:
// on there being a last box, or on numbers so small that no sum wraps round.
func passes[T any](thing T, checks []func(T) bool) bool {
	for _, holds := range checks {
		if !holds(thing) {
			return false
		}
	}
	return true
}

// following ranges over each two that follow each other, the one ahead first.
func following[T any](list []T) iter.Seq2[T, T] {
	return func(yield func(T, T) bool) {
		for place := 1; place < len(list); place++ {
			if !yield(list[place-1], list[place]) {
				return
			}
		}
	}
}

func lengthOk(tube []GiveBox) bool {
	return 1 <= len(tube) && len(tube) <= GiveMaxBoxes
}

func boxesOk(tube []GiveBox) bool {
	for _, box := range tube {
		if !boxOk(box) {
			return false
		}
	}
	return true
}

func boxesBehind(tube []GiveBox) bool {
	for ahead, box := range following(tube) {
		if !behind(ahead, box) {
			return false
		}
	}
	return true
}

func lands(fields []GiveField, tube []GiveBox) bool {
	last := tube[len(tube)-1]
	return last.Low == 0 && onField(fields, last.X, last.Y)
}

func onField(fields []GiveField, x int, y int) bool {
	for _, field := range fields {
		if field.X == x && field.Y == y {
			return true
		}
	}
	return false
}

func boxOk(box GiveBox) bool {
	return cellOk(box.X, box.Y) &&
		0 <= box.Low && box.Low <= box.High && box.High <= GiveMaxLevel &&
		0 <= box.In && box.In <= box.Out && box.Out <= GiveMaxTick
}

func cellOk(x int, y int) bool {
	return 0 <= x && x < GiveMaxSide && 0 <= y && y < GiveMaxSide
}

func behind(ahead GiveBox, box GiveBox) bool {
	return apart(ahead.X, box.X) <= 1 && apart(ahead.Y, box.Y) <= 1 &&
		shareLevel(ahead, box) &&
		ahead.In <= box.In && ahead.Out <= box.Out && box.In <= ahead.Out+1
}

// nearAny asks for a tick in common first: most pairs have none, and there are many pairs.
func nearAny(one GiveBox, boxes []GiveBox) bool {
	for _, other := range boxes {
		if shareTick(one, other) && boxOk(other) && shareLevel(one, other) && cellsNear(one, other) {
			return true
		}
	}
	return false
}

func cellsNear(one GiveBox, other GiveBox) bool {
	return apart(one.X, other.X) < GiveApart && apart(one.Y, other.Y) < GiveApart
}

func shareLevel(one GiveBox, other GiveBox) bool {
	return one.Low <= other.High && other.Low <= one.High
}

func shareTick(one GiveBox, other GiveBox) bool {
	return one.In <= other.Out && other.In <= one.Out
}

func apart(a int, b int) int {
	return max(a-b, b-a)
}
