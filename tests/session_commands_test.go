package tests

import (
	"fmt"
	"slices"
	"strings"
	"testing"

	"loop.example/lapgive/impl"
)

// Each order of some texts.
func ordersOf(texts []string) [][]string {
	if len(texts) == 0 {
		return [][]string{nil}
	}
	var all [][]string
	for place, first := range texts {
		rest := slices.Delete(slices.Clone(texts), place, place+1)
		for _, order := range ordersOf(rest) {
			all = append(all, append([]string{first}, order...))
		}
	}
	return all
}

// A wish that stays at a cell, whose answer tells whether it is a runway.
func stayWish(name string, x int, y int, from int) string {
	return wishLine(impl.GiveWish{Name: name, Quick: 1, Slow: 1, From: from, By: from, Ways: []impl.GiveWay{way(cell(x, y), cell(x, y^1), cell(x, y))}, Levels: []int{1}})
}

const given = "late 0 way 0 level 0"

// Ahead of all, between two and behind all: the book is ok in whichever order they come.
func TestFieldsInEveryOrder(t *testing.T) {
	for _, names := range [][]string{{"a", "b", "c", "d"}, {"-", "0", "9", "z"}, {"a", "a-", "a0", "aa"}, {"b", "bb", "bbb", "bbbb"}, {"aaaaaaaa", "b", "zzzzzzzz", "--------"}} {
		for _, order := range ordersOf(names) {
			var all []said
			for place, name := range order {
				all = talk(all, each("ok", fmt.Sprintf("field %s %d 5", name, 3*place)), each(given, stayWish(name, 3*place, 5, 10*place)))
			}
			all = talk(all, each("no", "field x 15 15", "field "+order[0]+" 15 15"), each("code 0", "tick 0"))
			checkTalk(t, strings.Join(order, " "), all...)
		}
	}
}

// The name of another one, wherever it stands, and the cell of one.
func TestFieldsOfOneNameOrCell(t *testing.T) {
	start := each("ok", "field d 1 1", "field b 4 2", "field f 7 3")
	for _, name := range []string{"b", "d", "f"} {
		checkTalk(t, name, talk(start, each("no", "field "+name+" 9 9", "field "+name+" 1 1", "field "+name+" 4 2", "field "+name+" 7 3"), []said{
			{stayWish("kl", 9, 9, 5), "code 2"},
			{"held", "0"},
			{"field e 9 9", "ok"},
			{stayWish("kl", 9, 9, 5), given},
			{stayWish("lh", 1, 1, 5), given},
			{stayWish("ba", 4, 2, 50), given},
			{stayWish("af", 7, 3, 500), given},
			{"held", "0 af:3@500-502/- ba:3@50-52/- kl:3@5-7/- lh:3@5-7/-"},
		})...)
	}
	for _, at := range []string{"1 1", "4 2", "7 3"} {
		checkTalk(t, at, talk(start, each("no", "field a "+at, "field c "+at, "field e "+at, "field g "+at), []said{
			{"field g 1 3", "ok"},
			{stayWish("kl", 1, 3, 5), given},
			{stayWish("lh", 1, 1, 50), given},
		})...)
	}
}

func TestFieldsMoreThanMayBe(t *testing.T) {
	start := each("ok", "field d 1 1", "field b 4 2", "field f 7 3", "field h 10 4")
	for _, name := range []string{"a", "b", "c", "d", "e", "f", "g", "h", "i"} {
		checkTalk(t, name, talk(start, each("no", "field "+name+" 9 9", "field "+name+" 9 9"), []said{
			{stayWish("kl", 9, 9, 5), "code 2"},
			{stayWish("kl", 10, 4, 5), given},
			{"tick 0", "code 0"},
			{"field " + name + " 9 9", "no"},
			{"held", "0 kl:3@5-7/-"},
		})...)
	}
}

func TestFieldsThatAreNone(t *testing.T) {
	for _, name := range []string{"", "A", "aB", "abcdefghi", "a_b", "a.b", "a,b", "/", "\u00e9", "\xff", "a\x00", "a\t", "\r", "+", "*", strings.Repeat("a", 200)} {
		checkTalk(t, name, []said{
			{"field " + name + " 9 9", "no"},
			{stayWish("kl", 9, 9, 5), "code 2"},
			{"field a 9 9", "ok"},
			{stayWish("kl", 9, 9, 5), given},
		}...)
	}
	for _, name := range []string{"a", "z", "0", "9", "-", "abcdefgh", "--------", "a-0", "field", "held"} {
		checkTalk(t, name, said{"field " + name + " 9 9", "ok"}, said{stayWish("kl", 9, 9, 5), given})
	}
	for _, at := range []string{"16 1", "1 16", "16 16", "17 1", "1 99999", "99999 99999", "100 1"} {
		checkTalk(t, at, said{"field a " + at, "no"}, said{"field a 1 1", "ok"}, said{"field b " + at, "no"})
	}
	for _, at := range []string{"0 0", "15 15", "0 15", "15 0", "8 8"} {
		var x, y int
		fmt.Sscan(at, &x, &y)
		checkTalk(t, at, said{"field a " + at, "ok"}, said{stayWish("kl", x, y, 5), given})
	}
	checkTalk(t, "X and Y in their places", said{"field a 3 12", "ok"}, said{stayWish("kl", 12, 3, 5), "code 2"}, said{stayWish("kl", 3, 12, 5), given})
}

// What is held stays as it is, with and without a runway more.
func TestFieldsWhileSomebodyHoldsSomething(t *testing.T) {
	checkTalk(t, "at once", talk(fullTalk(), []said{
		{"field a 9 9", "no"},
		{"field c 1 1", "no"},
		{"field c 16 9", "no"},
		{"field A 9 9", "no"},
		{"held", fullHeld},
		{stayWish("x", 9, 9, 5), "code 2"},
		{"field a- 9 9", "ok"},
		{"held", fullHeld},
		{stayWish("x", 9, 9, 5), given},
		{"field 0 9 12", "ok"},
		{"field e 12 12", "no"},
		{"held", fullHeld + " x:3@5-7/-"},
		{"box 9 9 0 0 30 30", "ok"},
		{"amend kl", "code 7"},
		{"refused kl", "code 0"},
		{"box 9 9 0 0 30 30", "ok"},
		{"amend kl", "code 0"},
		{"held", "0 ba:1@10-19/1@20-29 kl:1@30-39/1@30-30 lh:1@50-59/1@60-69 x:3@5-7/-"},
	})...)
	checkTalk(t, "later", talk(fullTalk(), []said{
		{"tick 25", "code 0"},
		{"field c 9 9", "ok"},
		{"field c 9 12", "no"},
		{"held", "25 ba:1@25-29/- kl:1@30-39/1@40-49 lh:1@50-59/1@60-69"},
	})...)
}

// Somebody comes down through the field's middle: in the way on all levels, on one, or for a time.
func TestAnswersOfWishes(t *testing.T) {
	start := each("ok", "field a 1 5", "field b 7 5", "field c 4 9", "field d 14 14")
	straight, around := "1,5 2,5 3,5 4,5 5,5 6,5 7,5", "1,5 2,4 3,3 4,2 5,3 6,4 7,5"
	for _, c := range []struct{ levels, out, line, answer, held string }{
		{"4 6", "30", "3,1,2 " + straight + " / " + around, "late 0 way 0 level 0", "kl:7@10-16/-"},
		{"3 6", "30", "3,1,2 " + straight + " / " + around, "late 0 way 0 level 1", "kl:7@10-16/-"},
		{"3 6", "30", "3,6,5,2 " + straight + " / " + around, "late 0 way 0 level 3", "kl:7@10-16/-"},
		{"1 6", "30", "3,1,2 " + straight + " / " + around, "late 0 way 1 level 0", "kl:7@10-16/-"},
		{"1 6", "30", "3,1,2 " + straight + " / " + straight + " / " + around, "late 0 way 2 level 0", "kl:7@10-16/-"},
		{"1 6", "30", "3,1,2 " + around + " / " + straight, "late 0 way 0 level 0", "kl:7@10-16/-"},
		{"1 6", "14", "3,1,2 " + straight, "late 3 way 0 level 0", "kl:7@13-19/-"},
		{"1 6", "16", "3,1,2 " + straight, "late 5 way 0 level 0", "kl:7@15-21/-"},
		{"2 6", "16", "3,1,2 " + straight, "late 0 way 0 level 1", "kl:7@10-16/-"},
		{"1 6", "17", "3,1,2 " + straight, "code 5", ""},
		{"1 6", "17", "3,1,0 " + straight, "code 2", ""},
	} {
		var out int
		fmt.Sscan(c.out, &out)
		all := talk(start, each(given, stayWish("lh", 14, 14, 9000)), each("ok", "box 4 6 "+c.levels+" 0 "+c.out))
		for place := 1; place <= 3; place++ {
			all = append(all, said{fmt.Sprintf("box 4 %d 0 6 %d %d", 6+place, out+place, out+place), "ok"})
		}
		held := fmt.Sprintf("lh:4@0-%d/-", out+3)
		if c.held != "" {
			held = c.held + " " + held
		}
		checkTalk(t, c.line, talk(all, each("code 0", "amend lh", "took lh"), []said{
			{"wish kl 1 1 10 10 5 " + c.line, c.answer},
			{"held", "0 " + held},
		})...)
	}
}

// The codes 2, 3, 4 and 5, each ahead of those behind it.
func TestCodesOfWishes(t *testing.T) {
	near := wishLine(impl.GiveWish{Name: "x", Quick: 1, Slow: 1, From: 35, By: 35, Ways: []impl.GiveWay{way(cell(1, 1), cell(1, 2), cell(1, 1))}, Levels: []int{1}})
	for _, c := range []struct{ line, answer string }{
		{near, "code 5"},
		{strings.Replace(near, " x ", " kl ", 1), "code 3"},
		{strings.Replace(near, " x ", " KL ", 1), "code 2"},
		{strings.Replace(near, " x ", " kl- ", 1), "code 5"},
		{strings.Replace(near, " 1,2 ", " 3,2 ", 1), "code 2"},
		{strings.Replace(strings.Replace(near, " 1,2 ", " 3,2 ", 1), " x ", " kl ", 1), "code 2"},
	} {
		checkTalk(t, c.line, talk(fullTalk(), []said{{c.line, c.answer}, {"held", fullHeld}})...)
	}
	full, held := ground(), "0"
	for place, name := range alphabet(16) {
		full = append(full, said{stayWish(name, 1, 1, 10*place), given})
		held += fmt.Sprintf(" %s:3@%d-%d/-", name, 10*place, 10*place+2)
	}
	checkTalk(t, "as many as may", talk(full, []said{
		{"held", held},
		{stayWish("x", 1, 1, 1000), "code 4"},
		{stayWish("x", 1, 1, 0), "code 4"},
		{stayWish("p", 1, 1, 0), "code 3"},
		{stayWish("", 1, 1, 1000), "code 2"},
		{stayWish("p", 2, 2, 1000), "code 2"},
		{"held", held},
		{"tick 3", "code 0"},
		{stayWish("x", 1, 1, 11), "code 5"},
		{stayWish("x", 1, 1, 1000), given},
		{stayWish("y", 1, 1, 1100), "code 4"},
		{stayWish("a", 1, 1, 1100), "code 4"},
	})...)
	checkTalk(t, "no runways", said{stayWish("x", 1, 1, 0), "code 2"}, said{"held", "0"})
}

// Any box is taken into the hand; whether they are a tube is asked of what is done with them.
func TestBoxes(t *testing.T) {
	checkTalk(t, "whichever", talk(each("ok", "box 0 0 0 0 0 0", "box 99999 99999 99999 99999 99999 99999", "box 1 1 6 0 9 5", "box 15 15 0 6 0 10000"), each("0", "held"), each("never", "bars x 0"))...)
	one := "box 1 1 0 0 5 9"
	for _, c := range []struct {
		size         int
		amend, never string
	}{{0, "code 2", "never"}, {1, "code 0", "free 0"}, {2, "code 0", "free 0"}, {39, "code 0", "free 0"}, {40, "code 0", "free 0"}, {41, "code 2", "never"}, {80, "code 2", "never"}, {250, "code 2", "never"}} {
		next := "-"
		if c.amend == "code 0" {
			next = fmt.Sprintf("%d@5-9", c.size)
		}
		checkTalk(t, fmt.Sprint(c.size, " boxes"), talk(ground(), each(given, stayWish("kl", 1, 1, 5)), each("ok", slices.Repeat([]string{one}, c.size)...), []said{
			{"bars kl 0", c.never},
			{"amend kl", c.amend},
			{"held", "0 kl:3@5-7/" + next},
		})...)
	}
}

// The order of the boxes is that of their lines.
func TestBoxesAreInOrder(t *testing.T) {
	start := talk(ground(), each(given, stayWish("kl", 1, 1, 5)))
	checkTalk(t, "in order", talk(start, inHand(plainTube()), each("code 0", "amend kl"), each("0 kl:3@5-7/4@5-15", "held"))...)
	turned := plainTube()
	slices.Reverse(turned)
	checkTalk(t, "turned", talk(start, inHand(turned), each("code 2", "amend kl"), each("0 kl:3@5-7/-", "held"))...)
	other := plainTube()
	other[1], other[2] = other[2], other[1]
	checkTalk(t, "two of them turned", talk(start, inHand(other), each("code 2", "amend kl"))...)
}

// With each of its codes the tube in hand is empty then: one box more is a tube of its own.
func TestAmendEmptiesTheHand(t *testing.T) {
	for _, c := range []struct {
		name   string
		start  []said
		tube   []impl.GiveBox
		who    string
		answer string
		held   string
	}{
		{"sent", each("code 0", "refused kl"), stayOnA(40, 45), "kl", "code 0", "0 ba:1@10-19/1@20-29 kl:1@30-39/1@40-45 lh:1@50-59/1@60-69"},
		{"empty", nil, nil, "kl", "code 2", fullHeld},
		{"on no runway", nil, []impl.GiveBox{{X: 1, Y: 2, In: 40, Out: 45}}, "kl", "code 2", fullHeld},
		{"of too many boxes", nil, slices.Repeat(stayOnA(40, 45), 41), "kl", "code 2", fullHeld},
		{"not ok, to nobody", nil, []impl.GiveBox{{X: 1, Y: 2, In: 40, Out: 45}}, "x", "code 2", fullHeld},
		{"below Now", each("code 0", "tick 1"), stayOnA(0, 45), "kl", "code 2", "1" + fullHeld[1:]},
		{"to nobody", nil, stayOnA(70, 75), "x", "code 6", fullHeld},
		{"to the beginning of a name", nil, stayOnA(70, 75), "k", "code 6", fullHeld},
		{"a second one", nil, stayOnA(70, 75), "kl", "code 7", fullHeld},
		{"a second one, near to somebody", nil, stayOnA(10, 75), "kl", "code 7", fullHeld},
		{"near to a Tube", each("code 0", "refused kl"), stayOnA(50, 50), "kl", "code 5", "0 ba:1@10-19/1@20-29 kl:1@30-39/- lh:1@50-59/1@60-69"},
		{"near to a Next", each("code 0", "refused kl"), stayOnA(29, 30), "kl", "code 5", "0 ba:1@10-19/1@20-29 kl:1@30-39/- lh:1@50-59/1@60-69"},
	} {
		checkTalk(t, c.name, talk(fullTalk(), c.start, inHand(c.tube), []said{
			{"amend " + c.who, c.answer},
			{"held", c.held},
			{"bars x 0", "never"},
			{"amend ba", "code 2"},
			{"box 4 2 0 0 80 85", "ok"},
			{"bars x 0", "free 0"},
			{"refused lh", "code 0"},
			{"amend lh", "code 0"},
			{"bars x 0", "never"},
			{"held", strings.Replace(c.held, "1@60-69", "1@80-85", 1)},
		})...)
	}
}

// A bad line, and all that is not amend, leave the tube in hand as it is.
func TestTheHandIsKept(t *testing.T) {
	tube := laterBy(plainTube(), 25)
	all := talk(fullTalk(), inHand(tube[:2]))
	for _, line := range []string{
		"amend", "amend kl x", "amend  ", "Amend kl", "box", "box 1 1 0 0 5", "box 1 1 0 0 5 x", "box 1 1 0 0 5 9 9", "bars", "bars x", "bars x y", "held x", "took", "tick", "tick x", "field c 5", "wish kl", "",
	} {
		all = append(all, said{line, "bad"})
	}
	all = talk(all, []said{
		{"bars x 5", "never"},
		{"bars x 300", "never"},
		{"field c 9 9", "ok"},
		{"field c 9 9", "no"},
		{"held", fullHeld},
		{"refused kl", "code 0"},
		{"refused kl", "code 8"},
		{"took x", "code 6"},
		{"tick 0", "code 0"},
		{"tick 99999", "code 2"},
		{stayWish("x", 9, 9, 5), given},
		{stayWish("x", 9, 9, 5), "code 3"},
	}, inHand(tube[2:]), []said{
		{"bars kl 50", "15-39 free 0"},
		{"bars kl 50", "15-39 free 0"},
		{"bars lh 0", "0-0 never"},
		{"amend kl", "code 0"},
		{"held", "0 ba:1@10-19/1@20-29 kl:1@30-39/4@30-40 lh:1@50-59/1@60-69 x:3@5-7/-"},
		{"bars kl 50", "never"},
	})
	checkTalk(t, "kept", all...)
}

func TestBarsInALine(t *testing.T) {
	start := talk(fullTalk(), inHand(stayOnA(5, 7)))
	for _, c := range []struct{ line, answer string }{
		{"bars x 0", "free 0"},
		{"bars x 2", "free 0"},
		{"bars x 3", "3-3 free 0"},
		{"bars x 4", "3-4 free 0"},
		{"bars x 63", "3-63 free 0"},
		{"bars x 64", "3-64 free 0"},
		{"bars x 300", "3-64 free 0"},
		{"bars ba 300", "23-64 free 0"},
		{"bars ba 22", "free 0"},
		{"bars kl 300", "3-24 43-64 free 0"},
		{"bars kl 24", "3-24 free 0"},
		{"bars kl 42", "3-24 free 0"},
		{"bars kl 43", "3-24 43-43 free 0"},
		{"bars lh 300", "3-44 free 0"},
		{"bars k 300", "3-64 free 0"},
		{"bars KL 300", "3-64 free 0"},
		{"bars  300", "3-64 free 0"},
		{"bars \xff\x00 300", "3-64 free 0"},
		{"bars x 301", "never"},
		{"bars x 99999", "never"},
	} {
		checkTalk(t, c.line, talk(start, []said{{c.line, c.answer}, {c.line, c.answer}, {"held", fullHeld}})...)
	}
	for _, c := range []struct {
		tube   []impl.GiveBox
		line   string
		answer string
	}{
		{stayOnA(10, 12), "bars x 0", "0-0 never"},
		{stayOnA(10, 12), "bars x 59", "0-59 never"},
		{stayOnA(10, 12), "bars x 60", "0-59 free 60"},
		{stayOnA(10, 12), "bars x 300", "0-59 free 60"},
		{stayOnA(10, 12), "bars kl 300", "0-19 38-59 free 20"},
		{stayOnA(10, 12), "bars kl 19", "0-19 never"},
		{stayOnA(10, 12), "bars kl 20", "0-19 free 20"},
		{stayOnA(10, 12), "bars ba 300", "18-59 free 0"},
		{stayOnA(10, 69), "bars kl 300", "0-59 free 60"},
		{stayOnB(9990, 9995), "bars x 5", "free 0"},
		{stayOnB(9990, 9995), "bars x 6", "6-6 free 0"},
		{stayOnB(9990, 9995), "bars x 300", "6-300 free 0"},
		{stayOnB(9990, 10000), "bars x 300", "1-300 free 0"},
		{stayOnB(9990, 10001), "bars x 300", "never"},
		{nil, "bars x 300", "never"},
		{nil, "bars kl 0", "never"},
		{[]impl.GiveBox{{X: 9, Y: 9, In: 5, Out: 7}}, "bars x 300", "never"},
		{append(stayOnB(5, 7), stayOnA(5, 7)...), "bars x 300", "never"},
		{slices.Repeat(stayOnA(5, 7), 40), "bars x 300", "3-64 free 0"},
		{slices.Repeat(stayOnA(5, 7), 41), "bars x 300", "never"},
	} {
		checkTalk(t, c.line+" of "+fmt.Sprint(c.tube), talk(fullTalk(), inHand(c.tube), []said{{c.line, c.answer}})...)
	}
	checkTalk(t, "below Now", talk(fullTalk(), each("code 0", "tick 9"), inHand(stayOnA(5, 7)), each("3-64 free 0", "bars x 300"))...)
	checkTalk(t, "no book", talk(inHand(stayOnA(5, 7)), each("never", "bars x 300", "bars x 0"))...)
}

func TestAnswersThatAreHeard(t *testing.T) {
	before, after := "0 ba:1@10-19/1@20-29 kl:1@30-39/1@40-49", "lh:1@50-59/1@60-69"
	checkTalk(t, "taken", talk(fullTalk(), []said{
		{"took kl", "code 0"},
		{"held", "0 ba:1@10-19/1@20-29 kl:1@40-49/- " + after},
		{"took kl", "code 8"},
		{"refused kl", "code 8"},
		{"held", "0 ba:1@10-19/1@20-29 kl:1@40-49/- " + after},
	})...)
	checkTalk(t, "refused", talk(fullTalk(), []said{
		{"refused lh", "code 0"},
		{"held", before + " lh:1@50-59/-"},
		{"took lh", "code 8"},
		{"refused lh", "code 8"},
		{"refused ba", "code 0"},
		{"held", "0 ba:1@10-19/- kl:1@30-39/1@40-49 lh:1@50-59/-"},
	})...)
	var nobody []string
	for _, name := range []string{"", "k", "kll", "KL", "kl\x00", "\xff", "a", "0", "-", "held", "ba/", "kl:", strings.Repeat("k", 99)} {
		nobody = append(nobody, "took "+name, "refused "+name)
	}
	checkTalk(t, "nobody", talk(fullTalk(), each("code 6", nobody...), each(fullHeld, "held"))...)
	checkTalk(t, "an empty book", each("code 6", "took kl", "refused kl")...)
}

func TestTicksInALine(t *testing.T) {
	checkTalk(t, "of the full book", talk(fullTalk(), []said{
		{"tick 0", "code 0"},
		{"held", fullHeld},
		{"tick 10", "code 0"},
		{"held", "10" + fullHeld[1:]},
		{"tick 9", "code 0"},
		{"held", "19 ba:1@19-19/1@20-29 kl:1@30-39/1@40-49 lh:1@50-59/1@60-69"},
		{"tick 1", "code 0"},
		{"held", "20 ba:1@20-29/- kl:1@30-39/1@40-49 lh:1@50-59/1@60-69"},
		{"took ba", "code 8"},
		{"tick 15", "code 0"},
		{"held", "35 kl:1@35-39/1@40-49 lh:1@50-59/1@60-69"},
		{"took ba", "code 6"},
		{"tick 9966", "code 2"},
		{"held", "35 kl:1@35-39/1@40-49 lh:1@50-59/1@60-69"},
		{"tick 20", "code 0"},
		{"held", "55 lh:1@55-59/1@60-69"},
		{"tick 15", "code 0"},
		{"held", "70"},
		{"tick 9930", "code 0"},
		{"held", "10000"},
		{"tick 0", "code 0"},
		{"tick 1", "code 2"},
		{"tick 10000", "code 2"},
		{"held", "10000"},
	})...)
	checkTalk(t, "at once", said{"tick 10000", "code 0"}, said{"held", "10000"}, said{"tick 1", "code 2"})
	checkTalk(t, "beyond all", said{"tick 10001", "code 2"}, said{"held", "0"}, said{"tick 99999", "code 2"}, said{"held", "0"})
}

// A row of ticks one by one, and at once.
func TestTicksOneByOneInALine(t *testing.T) {
	for ticks := range 75 {
		one := linesOf(fullTalk()) + strings.Repeat("tick 1\n", ticks) + "held\n"
		atOnce := linesOf(fullTalk()) + fmt.Sprintf("tick %d\nheld\n", ticks)
		if a, b := lastLine(impl.GiveSession(one)), lastLine(impl.GiveSession(atOnce)); a != b {
			t.Errorf("%d ticks: %q, not %q", ticks, a, b)
		}
	}
}

func lastLine(text string) string {
	lines := strings.Split(strings.TrimSuffix(text, "\n"), "\n")
	return lines[len(lines)-1]
}

// Tube and Next, each of one box or of several: In is of the first, Out of the last.
func TestHeldInALine(t *testing.T) {
	checkTalk(t, "nobody", said{"held", "0"}, said{"field a 1 1", "ok"}, said{"held", "0"})
	checkTalk(t, "several", talk(ground(), []said{
		{stayWish("kl", 1, 1, 100), given},
		{"held", "0 kl:3@100-102/-"},
		{stayWish("b", 1, 1, 7), given},
		{"held", "0 b:3@7-9/- kl:3@100-102/-"},
		{stayWish("zz", 4, 2, 7), given},
		{"held", "0 b:3@7-9/- kl:3@100-102/- zz:3@7-9/-"},
		{stayWish("k", 4, 2, 70), given},
		{"held", "0 b:3@7-9/- k:3@70-72/- kl:3@100-102/- zz:3@7-9/-"},
		{stayWish("-", 4, 2, 700), given},
		{stayWish("0", 4, 2, 7000), given},
		{"held", "0 -:3@700-702/- 0:3@7000-7002/- b:3@7-9/- k:3@70-72/- kl:3@100-102/- zz:3@7-9/-"},
	}, inHand(laterBy(plainTube(), 1000)), []said{
		{"amend k", "code 0"},
		{"held", "0 -:3@700-702/- 0:3@7000-7002/- b:3@7-9/- k:3@70-72/4@1005-1015 kl:3@100-102/- zz:3@7-9/-"},
	}, inHand(stayOnA(9999, 10000)), []said{
		{"amend 0", "code 0"},
		{"took 0", "code 0"},
		{"tick 71", "code 0"},
		{"held", "71 -:3@700-702/- 0:1@9999-10000/- k:2@71-72/4@1005-1015 kl:3@100-102/-"},
		{"tick 900", "code 0"},
		{"held", "971 0:1@9999-10000/- k:4@1005-1015/-"},
	})...)
}
