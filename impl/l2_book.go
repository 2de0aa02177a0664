package impl

import "iter"

// Limits of books.
const (
	GiveMaxName   = 8
	GiveMaxFields = 4
	GiveMaxHeld   = 16
)

// GiveHeld is what somebody holds: a tube, and at most one that was sent and not answered.
type GiveHeld struct {
	Name string
	Tube []GiveBox
	Next []GiveBox
}

// GiveBook is who holds what.
type GiveBook struct {
	Now    int
	Fields []GiveField
	Held   []GiveHeld
}

// GiveBookOk says whether a book is ok.
func GiveBookOk(b GiveBook) bool {
	return passes(b, []func(GiveBook) bool{
		nowOk,
		func(b GiveBook) bool { return fieldsOk(b.Fields) },
		holdersOk,
		tubesOk,
		nobodyNear,
	})
}

// inTurn ranges over the parts of each holder, each with its holder, one holder behind the other.
func inTurn[Holder, Part any](holders []Holder, parts ...func(Holder) Part) iter.Seq2[Holder, Part] {
	return func(yield func(Holder, Part) bool) {
		for _, holder := range holders {
			for _, part := range parts {
				if !yield(holder, part(holder)) {
					return
				}
			}
		}
	}
}

// flown ranges over whatever anybody may fly: as long as a Next was not answered, nobody
// can tell which of the two it is, so it counts as much as the Tube. A Next may be empty.
func flown(held []GiveHeld) iter.Seq2[GiveHeld, []GiveBox] {
	return inTurn(held, tubeOf, nextOf)
}

func tubeOf(held GiveHeld) []GiveBox {
	return held.Tube
}

func nextOf(held GiveHeld) []GiveBox {
	return held.Next
}

func nowOk(b GiveBook) bool {
	return 0 <= b.Now && b.Now <= GiveMaxTick
}

func fieldsOk(fields []GiveField) bool {
	return passes(fields, []func([]GiveField) bool{
		func(fields []GiveField) bool { return len(fields) <= GiveMaxFields },
		func(fields []GiveField) bool { return namesOk(fields, fieldName) },
		fieldCellsOk,
	})
}

func holdersOk(b GiveBook) bool {
	return len(b.Held) <= GiveMaxHeld && namesOk(b.Held, heldName)
}

func fieldName(field GiveField) string {
	return field.Name
}

func heldName(held GiveHeld) string {
	return held.Name
}

func namesOk[T any](list []T, nameOf func(T) string) bool {
	for _, thing := range list {
		if !isName(nameOf(thing)) {
			return false
		}
	}
	for ahead, thing := range following(list) {
		if nameOf(ahead) >= nameOf(thing) {
			return false
		}
	}
	return true
}

func isName(text string) bool {
	if len(text) < 1 || len(text) > GiveMaxName {
		return false
	}
	for place := range len(text) {
		if !nameByte(text[place]) {
			return false
		}
	}
	return true
}

func nameByte(c byte) bool {
	return 'a' <= c && c <= 'z' || '0' <= c && c <= '9' || c == '-'
}

func fieldCellsOk(fields []GiveField) bool {
	for place, field := range fields {
		if !cellOk(field.X, field.Y) || onField(fields[:place], field.X, field.Y) {
			return false
		}
	}
	return true
}

func tubesOk(b GiveBook) bool {
	for holder, tube := range flown(b.Held) {
		if len(holder.Tube) == 0 {
			return false
		}
		if len(tube) > 0 && !tubeOkIn(b, tube) {
			return false
		}
	}
	return true
}

func tubeOkIn(b GiveBook, tube []GiveBox) bool {
	return GiveTubeOk(b.Fields, tube) && startsFrom(tube, b.Now)
}

func startsFrom(tube []GiveBox, now int) bool {
	for _, box := range tube {
		if box.In < now {
			return false
		}
	}
	return true
}

// nobodyNear holds each two against each other once, by their names, which ascend.
// One's own Tube and Next are let be: only one of them is flown.
func nobodyNear(b GiveBook) bool {
	for one, tube := range flown(b.Held) {
		for other, crossing := range flown(b.Held) {
			if one.Name < other.Name && GiveNear(tube, crossing) {
				return false
			}
		}
	}
	return true
}
