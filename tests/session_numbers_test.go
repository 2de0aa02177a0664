package tests

import (
	"fmt"
	"slices"
	"strings"
	"testing"

	"loop.example/lapgive/impl"
)

// Lines with a place for an N, and what they are answered behind the runways by an N that is 0, 1 or 99999.
func placesOfNumbers() []struct {
	line    string
	answers [3]string
} {
	given := "late 0 way 0 level 0"
	return []struct {
		line    string
		answers [3]string
	}{
		{"field c # 9", [3]string{"ok", "ok", "no"}},
		{"field c 9 #", [3]string{"ok", "ok", "no"}},
		{"wish kl # 1 5 6 3 1,2 1,1 2,1 3,2 4,2", [3]string{"code 2", given, "code 2"}},
		{"wish kl 1 # 5 6 3 1,2 1,1 2,1 3,2 4,2", [3]string{"code 2", given, "code 2"}},
		{"wish kl 1 1 # 6 3 1,2 1,1 2,1 3,2 4,2", [3]string{given, given, "code 2"}},
		{"wish kl 1 1 0 # 3 1,2 1,1 2,1 3,2 4,2", [3]string{given, given, "code 2"}},
		{"wish kl 1 1 5 6 # 1,2 1,1 2,1 3,2 4,2", [3]string{given, given, "code 2"}},
		{"wish kl 1 1 5 6 3 # 1,1 2,1 3,2 4,2", [3]string{"code 2", given, "code 2"}},
		{"wish kl 1 1 5 6 3 #,2 1,1 2,1 3,2 4,2", [3]string{"code 2", given, "code 2"}},
		{"wish kl 1 1 5 6 3 1,#,3 1,1 2,1 3,2 4,2", [3]string{"code 2", given, "code 2"}},
		{"wish kl 1 1 5 6 3 1,2,# 1,1 2,1 3,2 4,2", [3]string{"code 2", given, "code 2"}},
		{"wish kl 1 1 5 6 3 1,2 #,1 2,1 3,2 4,2", [3]string{"code 2", given, "code 2"}},
		{"wish kl 1 1 5 6 3 1,2 1,# 2,1 3,2 4,2", [3]string{"code 2", given, "code 2"}},
		{"wish kl 1 1 5 6 3 1,2 1,1 #,2 1,1", [3]string{given, given, "code 2"}},
		{"wish kl 1 1 5 6 3 1,2 1,1 2,# 1,1", [3]string{given, given, "code 2"}},
		{"wish kl 1 1 5 6 3 1,2 1,1 2,1 #,1", [3]string{"code 2", given, "code 2"}},
		{"wish kl 1 1 5 6 3 1,2 1,1 2,1 1,#", [3]string{"code 2", given, "code 2"}},
		{"wish kl 1 1 5 6 3 1,2 1,1 2,1 1,1 / 1,1 #,2 1,1", [3]string{given, given, "code 2"}},
		{"wish kl 1 1 5 6 3 1,2 1,1 2,1 1,1 / 1,1 2,2 1,#", [3]string{"code 2", given, "code 2"}},
		{"box # 1 0 0 5 9", [3]string{"ok", "ok", "ok"}},
		{"box 1 # 0 0 5 9", [3]string{"ok", "ok", "ok"}},
		{"box 1 1 # 0 5 9", [3]string{"ok", "ok", "ok"}},
		{"box 1 1 0 # 5 9", [3]string{"ok", "ok", "ok"}},
		{"box 1 1 0 0 # 9", [3]string{"ok", "ok", "ok"}},
		{"box 1 1 0 0 5 #", [3]string{"ok", "ok", "ok"}},
		{"tick #", [3]string{"code 0", "code 0", "code 2"}},
		{"bars kl #", [3]string{"free 0", "free 0", "never"}},
	}
}

// What is no N, in whichever of its places: neither a number, nor a list, nor a cell.
func noNumbers() []string {
	return []string{
		"", "100000", "123456", "999999", "0000001", "4294967297", "18446744073709551617", strings.Repeat("1", 400),
		"00", "01", "007", "00000", "000000", "00001", "09999", "099999", "-0", "+0", "-1", "+1", "--1", "1-", "1+", "-", "+",
		"a", "x1", "1x", "1a1", "0x1", "0b1", "0o1", "1_0", "1e1", "1.", "1.0", ".1", "1/", "/1", "//", "1;1", "1:1", "1'",
		"\u0661", "\uff11", "\u00b2", "\u2160", "1\u00a0", "\t1", "1\t", "1\r", "\x001", "1\x00", "1\xff", "O", "l", "1,x", "x,1",
	}
}

func TestNumbersInEachPlace(t *testing.T) {
	for _, c := range placesOfNumbers() {
		for place, number := range []string{"0", "1", "99999"} {
			line := strings.Replace(c.line, "#", number, 1)
			checkTalk(t, line, talk(ground(), inHand(stayOnA(5, 9)), []said{{line, c.answers[place]}})...)
		}
	}
}

// Neither the book nor the tube in hand is changed by what is bad.
func TestWhatIsNoNumberInEachPlace(t *testing.T) {
	for _, c := range placesOfNumbers() {
		all := talk(ground(), inHand(stayOnA(5, 9)))
		for _, wrong := range noNumbers() {
			all = append(all, said{strings.Replace(c.line, "#", wrong, 1), "bad"})
		}
		all = talk(all, []said{
			{"held", "0"},
			{"bars kl 5", "free 0"},
			{strings.Replace(c.line, "#", "1", 1), c.answers[1]},
		})
		checkTalk(t, c.line, all...)
	}
}

// A list or a cell where one number is to be, and `/` where a cell is not.
func TestListsWhereNumbersAreToBe(t *testing.T) {
	for _, c := range placesOfNumbers() {
		inside := strings.Contains(c.line, ",#") || strings.Contains(c.line, "#,") || strings.Contains(c.line, "6 3 #")
		for _, wrong := range []string{"1,1", "1,", ",1", ",", "/"} {
			if inside && wrong != "/" {
				continue
			}
			line := strings.Replace(c.line, "#", wrong, 1)
			checkTalk(t, line, talk(ground(), []said{{line, "bad"}, {"held", "0"}})...)
		}
	}
}

// Each N is read as what it says: what is told of it is the same number.
func TestNumbersAreRead(t *testing.T) {
	for _, number := range []int{0, 1, 2, 9, 10, 11, 19, 20, 99, 100, 101, 909, 990, 999, 1000, 1001, 1234, 5678, 9009, 9099, 9876, 9999, 10000} {
		checkTalk(t, "ticks", []said{
			{fmt.Sprintf("tick %d", number), "code 0"},
			{"held", fmt.Sprint(number)},
		}...)
	}
	for _, number := range []int{10001, 10010, 10100, 11000, 20000, 12345, 65535, 65536, 90000, 99999} {
		checkTalk(t, "too many ticks", []said{
			{fmt.Sprintf("tick %d", number), "code 2"},
			{"held", "0"},
		}...)
	}
}

// Each of the six numbers of a box is in its own place: a tube of one box, in a book where it is held as it was said.
func TestNumbersOfABoxInALine(t *testing.T) {
	start := talk(each("ok", "field f 3 4"), each("late 0 way 0 level 0", "wish kl 1 1 9000 9000 0 1 3,4 3,5 3,4"))
	checkTalk(t, "as it is", talk(start, []said{
		{"box 3 4 0 2 70 80", "ok"},
		{"amend kl", "code 0"},
		{"took kl", "code 0"},
		{"held", "0 kl:1@70-80/-"},
		{"box 3 4 0 2 70 80", "ok"},
		{"bars lh 20", "0-10 free 11"},
		{"amend lh", "code 6"},
	})...)
	for place, wrong := range []string{"4 4 0 2 70 80", "3 3 0 2 70 80", "3 4 1 2 70 80", "3 4 0 7 70 80", "3 4 0 2 81 80", "3 4 0 2 70 10001"} {
		checkTalk(t, fmt.Sprint("place ", place), talk(start, each("ok", "box "+wrong), each("code 2", "amend kl"))...)
	}
	levels := []impl.GiveBox{{X: 3, Y: 3, Low: 2, High: 5, In: 70, Out: 80}, {X: 3, Y: 4, Low: 0, High: 2, In: 75, Out: 81}}
	under := []impl.GiveBox{{X: 3, Y: 3, Low: 0, High: 1, In: 70, Out: 74}, {X: 3, Y: 4, Low: 0, High: 0, In: 75, Out: 76}}
	over := []impl.GiveBox{{X: 3, Y: 3, Low: 6, High: 6, In: 70, Out: 74}, {X: 3, Y: 4, Low: 0, High: 6, In: 75, Out: 76}}
	checkTalk(t, "levels", talk(start,
		inHand(levels), each("code 0", "amend kl", "took kl"), each("0 kl:2@70-81/-", "held"),
		inHand(under[:1]), each("never", "bars lh 3"), inHand(under[1:]), each("0-11 free 12", "bars lh 20"), each("code 6", "amend lh"),
		inHand(over), each("0-6 free 7", "bars lh 20"),
	)...)
}

// Quick, Slow, From, By and Late are each in its own place.
func TestNumbersOfAWishInALine(t *testing.T) {
	wished := []said{{"wish kl 2 3 20 25 40 1 1,1 2,1 3,2 4,2", "late 0 way 0 level 0"}, {"held", "0 kl:4@20-36/-"}}
	checkTalk(t, "at once", talk(ground(), wished)...)
	for _, c := range []struct{ line, answer, held string }{
		{"wish kl 2 3 20 25 40 1 1,1 2,1 3,2 4,2", "late 5 way 0 level 0", "25 kl:4@25-41/-"},
		{"wish kl 1 3 20 25 40 1 1,1 2,1 3,2 4,2", "late 5 way 0 level 0", "25 kl:4@25-41/-"},
		{"wish kl 2 4 20 25 40 1 1,1 2,1 3,2 4,2", "late 5 way 0 level 0", "25 kl:4@25-45/-"},
		{"wish kl 2 3 21 25 40 1 1,1 2,1 3,2 4,2", "late 4 way 0 level 0", "25 kl:4@25-40/-"},
		{"wish kl 2 3 20 26 40 1 1,1 2,1 3,2 4,2", "late 5 way 0 level 0", "25 kl:4@25-42/-"},
		{"wish kl 2 3 20 25 5 1 1,1 2,1 3,2 4,2", "late 5 way 0 level 0", "25 kl:4@25-41/-"},
		{"wish kl 2 3 20 25 4 1 1,1 2,1 3,2 4,2", "code 5", "25"},
		{"wish kl 3 2 20 25 40 1 1,1 2,1 3,2 4,2", "code 2", "25"},
		{"wish kl 2 3 26 25 40 1 1,1 2,1 3,2 4,2", "code 2", "25"},
	} {
		checkTalk(t, c.line, talk(ground(), each("code 0", "tick 25"), []said{{c.line, c.answer}, {"held", c.held}})...)
	}
	checkTalk(t, "Quick is told of when some of it has passed", talk(ground(), wished, []said{
		{"tick 22", "code 0"},
		{"held", "22 kl:4@22-36/-"},
		{"tick 6", "code 0"},
		{"held", "28 kl:3@28-36/-"},
	})...)
}

func TestLevelsInALine(t *testing.T) {
	line := func(levels string) string { return "wish kl 1 1 5 5 9 " + levels + " 1,1 2,1 3,2 4,2" }
	for _, levels := range []string{"1", "6", "1,2", "2,1", "3,3", "6,5,4,3,2,1", "1,1,1,1,1,1"} {
		checkTalk(t, levels, talk(ground(), []said{{line(levels), "late 0 way 0 level 0"}, {"held", "0 kl:4@5-8/-"}})...)
	}
	for _, levels := range []string{"0", "7", "1,0", "1,7", "0,1", "1,1,1,1,1,1,1", "1,2,3,4,5,6,6", "99999", "1,99999"} {
		checkTalk(t, levels, talk(ground(), []said{{line(levels), "code 2"}, {"held", "0"}})...)
	}
	for _, levels := range []string{"", ",", ",,", "1,", ",1", "1,,2", "1,2,", ",1,2", "1;2", "1-2", "01", "1,02", "1,2x", "a", "a,1", "-1", "1,-1", "/", "1/2", "1,/", "100000", "1,100000", "1.2", "1,\t2"} {
		checkTalk(t, levels, talk(ground(), []said{{line(levels), "bad"}, {"held", "0"}})...)
	}
}

// Words that are no CELL, each as the first, between two, as the last, and alone.
func TestWhatIsNoCell(t *testing.T) {
	for _, wrong := range []string{
		"", "1", "0", "1,1,1", "1,2,3,4", ",", ",,", ",1", "1,", "1,,1", "1,1,", ",1,1", "01,1", "1,01", "00,1", "1,00", "-1,1", "1,-1", "+1,1",
		"x,1", "1,x", "x", "1;1", "1.1", "1-1", "1/1", "//", "/1", "1/", "/1,1", "1,1/", "/,", ",/", "///", "\\", "100000,1", "1,100000",
		"1,1\t", "1,1\r", "1,1\x00", "(1,1)", "1,1;", "\uff11,1", "1\u066c1",
	} {
		all := ground()
		for _, cells := range []string{"# 2,1 3,2 4,2", "1,1 # 3,2 4,2", "1,1 2,1 3,2 #", "1,1 2,1 3,2 4,2 #", "1,1 2,1 3,2 4,2 / #", "# / 1,1 2,1 3,2 4,2", "#"} {
			all = append(all, said{"wish kl 1 1 5 5 9 1 " + strings.Replace(cells, "#", wrong, 1), "bad"})
		}
		checkTalk(t, wrong, append(all, said{"held", "0"})...)
	}
	checkTalk(t, "no cell", talk(ground(), each("bad",
		"wish kl 1 1 5 5 9 1", "wish kl 1 1 5 5 9 1 ", "wish kl 1 1 5 5 9", "wish kl 1 1 5 5 9 1,1", "wish kl 1 1 5 5 1,1 1,2 1,1",
	), each("0", "held"))...)
}

// A way of a wish begins at each `/`; one without a cell is none that a wish may have.
func TestWaysInALine(t *testing.T) {
	straight, around := "1,1 2,1 3,2 4,2", "1,1 1,2 2,3 3,3 4,2"
	for cells, answer := range map[string]string{
		straight:                  "late 0 way 0 level 0",
		straight + " / " + around: "late 0 way 0 level 0",
		straight + " / 1,1 1,2 1,1 / 4,2 5,2 4,2":                 "late 0 way 0 level 0",
		strings.Join(slices.Repeat([]string{straight}, 4), " / "): "code 2",
		"1,1":                            "code 2",
		"2,1":                            "code 2",
		straight + " / 1,1":              "code 2",
		"1,1 / " + straight:              "code 2",
		"1,1 2,1 / 3,2 4,2":              "code 2",
		straight + " " + straight:        "code 2",
		"/":                              "code 2",
		"/ /":                            "code 2",
		"/ / /":                          "code 2",
		"/ " + straight:                  "code 2",
		straight + " /":                  "code 2",
		"/ " + straight + " /":           "code 2",
		straight + " / / " + around:      "code 2",
		straight + " / " + around + " /": "code 2",
		"15,15 0,0":                      "code 2",
		"1,1 16,1 1,1":                   "code 2",
		"1,1 1,1":                        "code 2",
	} {
		held := "0"
		if answer != "code 2" {
			held = "0 kl:4@5-8/-"
		}
		checkTalk(t, cells, talk(ground(), []said{{"wish kl 1 1 5 5 9 1 " + cells, answer}, {"held", held}})...)
	}
	for size, answer := range map[int]string{1: "code 2", 2: "late 0 way 0 level 0", 39: "late 0 way 0 level 0", 40: "late 0 way 0 level 0", 41: "code 2", 300: "code 2"} {
		w := impl.GiveWish{Name: "kl", Quick: 1, Slow: 1, Ways: []impl.GiveWay{wayOfSize(size)}, Levels: []int{1}}
		held := "0"
		if answer != "code 2" {
			held = fmt.Sprintf("0 kl:%d@0-%d/-", size, size-1)
		}
		checkTalk(t, fmt.Sprint(size, " cells"), talk(each("ok", "field a 1 1", "field b 1 2"), []said{{wishLine(w), answer}, {"held", held}})...)
	}
}
