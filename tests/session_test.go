package tests

import (
	"fmt"
	"slices"
	"strconv"
	"strings"
	"testing"

	"loop.example/lapgive/impl"
)

// A line of a session, and what it is to be answered.
type said struct {
	line   string
	answer string
}

func linesOf(talk []said) string {
	var text strings.Builder
	for _, one := range talk {
		text.WriteString(one.line + "\n")
	}
	return text.String()
}

func answersOf(talk []said) string {
	var text strings.Builder
	for _, one := range talk {
		text.WriteString(one.answer + "\n")
	}
	return text.String()
}

func checkTalk(t *testing.T, what string, talk ...said) {
	t.Helper()
	got := impl.GiveSession(linesOf(talk))
	if got == answersOf(talk) {
		return
	}
	answers := strings.Split(strings.TrimSuffix(got, "\n"), "\n")
	for place, one := range talk {
		if place >= len(answers) || answers[place] != one.answer {
			t.Errorf("%q: line %d, %q: not %q, in\n%s", what, place, one.line, one.answer, got)
			return
		}
	}
	t.Errorf("%q: answers behind the last line: %q", what, got)
}

func checkText(t *testing.T, text string, want string) {
	t.Helper()
	if got := impl.GiveSession(text); got != want {
		t.Errorf("%.200q: %.200q, not %.200q", text, got, want)
	}
}

// Some talk, and other talk behind it, in new memory.
func talk(parts ...[]said) []said {
	return slices.Concat(parts...)
}

// Lines that are each answered alike.
func each(answer string, lines ...string) []said {
	var all []said
	for _, line := range lines {
		all = append(all, said{line, answer})
	}
	return all
}

// The runways of twoFields.
func ground() []said {
	return each("ok", "field a 1 1", "field b 4 2")
}

// The line that tells a wish.
func wishLine(w impl.GiveWish) string {
	words := []string{"wish", w.Name}
	for _, number := range []int{w.Quick, w.Slow, w.From, w.By, w.Late} {
		words = append(words, strconv.Itoa(number))
	}
	var levels []string
	for _, level := range w.Levels {
		levels = append(levels, strconv.Itoa(level))
	}
	words = append(words, strings.Join(levels, ","))
	for place, way := range w.Ways {
		if place > 0 {
			words = append(words, "/")
		}
		for _, cell := range way.Cells {
			words = append(words, fmt.Sprintf("%d,%d", cell.X, cell.Y))
		}
	}
	return strings.Join(words, " ")
}

func boxLines(tube []impl.GiveBox) []string {
	var lines []string
	for _, b := range tube {
		lines = append(lines, fmt.Sprintf("box %d %d %d %d %d %d", b.X, b.Y, b.Low, b.High, b.In, b.Out))
	}
	return lines
}

// A tube comes into the hand.
func inHand(tube []impl.GiveBox) []said {
	return each("ok", boxLines(tube)...)
}

// Somebody who holds nothing comes to hold a tube, whichever: they are given one that is beside all else, at the field b
// at the end of all ticks, are sent this one, and take it.
func holding(name string, tube []impl.GiveBox) []said {
	w := impl.GiveWish{Name: name, Quick: 1, Slow: 1, From: 9990, By: 9990, Ways: []impl.GiveWay{way(cell(4, 2), cell(5, 3), cell(4, 2))}, Levels: []int{1}}
	return talk(
		each("late 0 way 0 level 0", wishLine(w)),
		inHand(tube),
		each("code 0", "amend "+name, "took "+name),
	)
}

// The full book, but at tick 0.
func fullTalk() []said {
	all := ground()
	for _, held := range fullBook().Held {
		all = talk(all, holding(held.Name, held.Tube), inHand(held.Next), each("code 0", "amend "+held.Name))
	}
	return talk(all, each(fullHeld, "held"))
}

const fullHeld = "0 ba:1@10-19/1@20-29 kl:1@30-39/1@40-49 lh:1@50-59/1@60-69"

// The document's example.
func example() []said {
	return []said{
		{"field a 1 1", "ok"},
		{"field b 4 1", "ok"},
		{"wish kl 1 2 5 6 3 1,2 1,1 2,1 3,1 4,1", "late 0 way 0 level 0"},
		{"wish ba 1 1 5 5 2 1 4,1 3,1 2,1 1,1", "code 5"},
		{"wish lh 1 1 20 20 9 1 4,1 3,1 2,1 1,1", "late 0 way 0 level 0"},
		{"held", "0 kl:4@5-13/- lh:4@20-23/-"},
		{"box 1 1 0 0 5 7", "ok"},
		{"box 2 2 0 1 6 14", "ok"},
		{"box 3 2 0 1 7 15", "ok"},
		{"box 4 1 0 0 8 18", "ok"},
		{"bars kl 9", "2-9 free 0"},
		{"amend kl", "code 0"},
		{"held", "0 kl:4@5-13/4@5-18 lh:4@20-23/-"},
		{"took kl", "code 0"},
		{"tick 8", "code 0"},
		{"held", "8 kl:3@8-18/- lh:4@20-23/-"},
		{"refused kl", "code 8"},
		{"tick 20", "code 0"},
		{"held", "28"},
		{"wish x 1 1 1 1 1 0 1,1", "code 2"},
	}
}

func TestLimitsOfSessions(t *testing.T) {
	got := []int{impl.GiveMaxSession, impl.GiveMaxLines}
	if !slices.Equal(got, []int{20000, 300}) {
		t.Error(got)
	}
}

// Whole, and by each of its beginnings, with and without a newline at the end.
func TestExampleOfTheDocument(t *testing.T) {
	all := example()
	checkTalk(t, "whole", all...)
	for size := range len(all) + 1 {
		text := linesOf(all[:size])
		checkText(t, text, answersOf(all[:size]))
		checkText(t, strings.TrimSuffix(text, "\n"), answersOf(all[:size]))
	}
}

// A line that is answered `bad` changes nothing.
func TestExampleBetweenBadLines(t *testing.T) {
	var all []said
	for _, one := range example() {
		all = talk(all, each("bad", one.line+" ", " "+one.line, strings.ToUpper(one.line)), []said{one}, each("bad", "", "bad"))
	}
	checkTalk(t, "between bad lines", all...)
}

func TestLines(t *testing.T) {
	for _, c := range []struct{ text, want string }{
		{"", ""},
		{"\n", "bad\n"},
		{"\n\n", "bad\nbad\n"},
		{"\n\n\n", "bad\nbad\nbad\n"},
		{"held", "0\n"},
		{"held\n", "0\n"},
		{"held\n\n", "0\nbad\n"},
		{"\nheld", "bad\n0\n"},
		{"held\nheld", "0\n0\n"},
		{"held\nheld\n", "0\n0\n"},
		{"held\n\nheld", "0\nbad\n0\n"},
		{"held\n\nheld\n\n", "0\nbad\n0\nbad\n"},
		{"held\n\n\nheld\n", "0\nbad\nbad\n0\n"},
		{"tick 1\nheld", "code 0\n1\n"},
		{"tick 1\n\nheld\ntick 2\n \nheld\n", "code 0\nbad\n1\ncode 0\nbad\n3\n"},
		{" ", "bad\n"},
		{" \n", "bad\n"},
		{"     ", "bad\n"},
		{"held\n  \nheld", "0\nbad\n0\n"},
		{"held\r\nheld\r\n", "bad\nbad\n"},
		{"held\rheld\n", "bad\n"},
		{"held\x00held\n", "bad\n"},
		{"held\u2028held\u0085held\vheld\fheld\n", "bad\n"},
		{"\x00\n\xff\n\t\n\r\n", "bad\nbad\nbad\nbad\n"},
	} {
		checkText(t, c.text, c.want)
	}
}

// An empty word is a word: a NAME, or one too many, or something else in the place of an N.
func TestEmptyWords(t *testing.T) {
	checkTalk(t, "of a book with runways", talk(ground(), []said{
		{"field  5 5", "no"},
		{"field c  5 5", "bad"},
		{"field  c 5 5", "bad"},
		{"field c 5  5", "bad"},
		{"field c 5 5 ", "bad"},
		{" field c 5 5", "bad"},
		{"field c 5 ", "bad"},
		{"field c  5", "bad"},
		{"field   ", "bad"},
		{"wish  1 1 5 5 0 1 1,1 1,2 1,1", "code 2"},
		{"wish  kl 1 1 5 5 0 1 1,1 1,2 1,1", "bad"},
		{"wish kl  1 5 5 0 1 1,1 1,2 1,1", "bad"},
		{"wish kl 1 1 5 5 0  1 1,1 1,2 1,1", "bad"},
		{"wish kl 1 1 5 5 0  1,1 1,2 1,1", "bad"},
		{"wish kl 1 1 5 5 0 1  1,1 1,2 1,1", "bad"},
		{"wish kl 1 1 5 5 0 1 1,1  1,2 1,1", "bad"},
		{"wish kl 1 1 5 5 0 1 1,1 1,2 1,1 ", "bad"},
		{"wish kl 1 1 5 5 0 1 ", "bad"},
		{" wish kl 1 1 5 5 0 1 1,1 1,2 1,1", "bad"},
		{"box  1 1 0 0 5 9", "bad"},
		{"box 1 1 0  0 5 9", "bad"},
		{"box 1 1 0  5 9", "bad"},
		{"box 1 1 0 0 5 9 ", "bad"},
		{"box 1 1 0 0 5 ", "bad"},
		{"amend ", "code 2"},
		{"amend  ", "bad"},
		{"amend  kl", "bad"},
		{"amend kl ", "bad"},
		{" amend kl", "bad"},
		{"took ", "code 6"},
		{"took  ", "bad"},
		{"took  kl", "bad"},
		{"took kl ", "bad"},
		{"refused ", "code 6"},
		{"refused  ", "bad"},
		{"refused  kl", "bad"},
		{"refused kl ", "bad"},
		{"tick ", "bad"},
		{"tick  1", "bad"},
		{"tick 1 ", "bad"},
		{" tick 1", "bad"},
		{"bars  5", "never"},
		{"bars kl  5", "bad"},
		{"bars  kl 5", "bad"},
		{"bars kl 5 ", "bad"},
		{"bars kl ", "bad"},
		{"bars  ", "bad"},
		{"held ", "bad"},
		{" held", "bad"},
		{"  held", "bad"},
		{"held", "0"},
	})...)
	checkTalk(t, "of nobody, with a tube in hand", talk(ground(), inHand(stayOnA(5, 9)), []said{
		{"bars  0", "free 0"},
		{"amend ", "code 6"},
	})...)
}

// One line of each command that is not answered `bad`.
func goodLines() []string {
	return []string{
		"field c 5 5",
		"wish kl 1 2 5 6 3 1,2 1,1 2,1 3,2 4,2",
		"box 1 1 0 0 5 9",
		"amend kl",
		"took kl",
		"refused kl",
		"tick 7",
		"bars kl 9",
		"held",
	}
}

func isBad(answer string) bool {
	return answer == "bad"
}

// How a line is answered behind the runways.
func answerOf(line string) string {
	answers := strings.Split(impl.GiveSession(linesOf(ground())+line+"\n"), "\n")
	return answers[len(ground())]
}

func TestTooFewAndTooManyWords(t *testing.T) {
	for _, line := range goodLines() {
		if isBad(answerOf(line)) {
			t.Errorf("%q is bad", line)
		}
		words := strings.Split(line, " ")
		fewest := len(words)
		if words[0] == "wish" {
			fewest = 9
		}
		for size := 1; size < len(words); size++ {
			less := strings.Join(words[:size], " ")
			if isBad(answerOf(less)) != (size < fewest) {
				t.Errorf("%q: %s", less, answerOf(less))
			}
		}
		for _, more := range []string{" ", " x", " 1", " 0", " held", " 1 1", " kl kl kl", " 1,1"} {
			want := words[0] != "wish" || more != " 1,1"
			if isBad(answerOf(line+more)) != want {
				t.Errorf("%q: %s", line+more, answerOf(line+more))
			}
		}
	}
}

func TestNoCommands(t *testing.T) {
	for _, word := range []string{
		"fiel", "fields", "wishes", "wis", "boxes", "bo", "amends", "amen", "take", "tooks", "too", "refuse", "refuseds",
		"ticks", "tic", "bar", "barss", "hold", "hel", "helds", "bad", "ok", "no", "code", "never", "free", "session",
		"hear", "turnTo", "commands", "book", "hand", "x", "0", "1", "-", "/", ",", "*", "\"held\"", "\x00", "\xff",
		"held\x00", "\x00held", "held\t", "\theld", "held\r", "held\v", "held\u00a0", "\ufeffheld", "h\u00e9ld", "held/", "held,", "held;",
		"FIELD", "Field", "WISH", "Wish", "BOX", "Box", "AMEND", "Amend", "TOOK", "Took", "REFUSED", "Refused",
		"TICK", "Tick", "BARS", "Bars", "HELD", "Held", "helD",
	} {
		checkText(t, word, "bad\n")
		for _, line := range goodLines() {
			_, rest, _ := strings.Cut(line, " ")
			if got := answerOf(word + " " + rest); !isBad(got) {
				t.Errorf("%q %q: %s", word, rest, got)
			}
		}
	}
}

// Whatever bytes a NAME has, it is one; where an N is to be, or behind a command, they are bad.
func TestOddBytes(t *testing.T) {
	for _, odd := range []string{"\t", "\r", "\x00", "\v", "\x7f", "\x80", "\xff", "\u00a0", "\u00e9", "\u0663", "\uff11", "\u2028", "\U0001f6e9", "_", "A", ".", ":", "/", ","} {
		checkTalk(t, odd, talk(ground(), []said{
			{"field " + odd + " 5 5", "no"},
			{"field c" + odd + " 5 5", "no"},
			{"field c 5" + odd + " 5", "bad"},
			{"field c 5 " + odd, "bad"},
			{"field c 5 " + odd + "5", "bad"},
			{"field" + odd + "c 5 5", "bad"},
			{"wish " + odd + "x 1 1 5 5 0 1 1,1 1,2 1,1", "code 2"},
			{"wish x " + odd + " 1 5 5 0 1 1,1 1,2 1,1", "bad"},
			{"wish x 1 1 5 5 0 1" + odd + " 1,1 1,2 1,1", "bad"},
			{"wish x 1 1 5 5 0 1 1,1 1," + odd + "2 1,1", "bad"},
			{"wish x 1 1 5 5 0 1 1,1 1,2" + odd + " 1,1", "bad"},
			{"box 1 1 0 0 5 9" + odd, "bad"},
			{"amend " + odd, "code 2"},
			{"took " + odd, "code 6"},
			{"refused x" + odd, "code 6"},
			{"tick 1" + odd, "bad"},
			{"tick " + odd + "1", "bad"},
			{"tick" + odd + "1", "bad"},
			{"bars " + odd + " 5", "never"},
			{"bars x 5" + odd, "bad"},
			{"held" + odd, "bad"},
			{odd + "held", "bad"},
			{odd, "bad"},
			{"held", "0"},
			{"field c 5 5", "ok"},
		})...)
	}
}

func TestTooLongByBytes(t *testing.T) {
	for _, line := range []string{"x", " ", "held ", "\x00", "\u00e9", "tick 0 "} {
		most := strings.Repeat(line, 20000)[:20000]
		checkText(t, most, "bad\n")
		checkText(t, most[:19999]+"\n", "bad\n")
		checkText(t, "\n"+most[:19999], "bad\nbad\n")
		checkText(t, most+"\n", "too long\n")
		checkText(t, most+"x", "too long\n")
		checkText(t, "\n"+most, "too long\n")
	}
	for _, size := range []int{20001, 20002, 40000, 65536 + 1, 1 << 20} {
		checkText(t, strings.Repeat("x", size), "too long\n")
		checkText(t, strings.Repeat("\n", size), "too long\n")
	}
	name := strings.Repeat("n", 20000-len("tick 3\nheld\ntook \nheld"))
	checkText(t, "tick 3\nheld\ntook "+name+"\nheld", "code 0\n3\ncode 6\n3\n")
	checkText(t, "tick 3\nheld\ntook "+name+"\nheld\n", "too long\n")
	checkText(t, "tick 3\nheld\ntook "+name+"n\nheld", "too long\n")
}

func TestTooLongByLines(t *testing.T) {
	for _, c := range []struct{ line, answer string }{{"held", "0"}, {"", "bad"}, {"x", "bad"}, {"box 1 1 0 0 5 5", "ok"}} {
		most := strings.Repeat(c.line+"\n", 300)
		checkText(t, most, strings.Repeat(c.answer+"\n", 300))
		checkText(t, most[:len(most)-1]+"y", strings.Repeat(c.answer+"\n", 299)+"bad\n")
		checkText(t, strings.Repeat(c.line+"\n", 299)+"held", strings.Repeat(c.answer+"\n", 299)+"0\n")
		checkText(t, most+"\n", "too long\n")
		checkText(t, most+"held", "too long\n")
		checkText(t, most+"held\n", "too long\n")
		checkText(t, most+" ", "too long\n")
		checkText(t, strings.Repeat(most, 2), "too long\n")
	}
	checkText(t, strings.Repeat("held\n", 299)+"held", strings.Repeat("0\n", 300))
	checkText(t, strings.Repeat("held\n", 300)+"held", "too long\n")
}

// Both limits are met at once.
func TestAsLongAsMayBe(t *testing.T) {
	line := strings.Repeat("z", 20000/300-1)
	text := strings.Repeat(line+"\n", 299)
	text += strings.Repeat("z", 20000-len(text))
	checkText(t, text, strings.Repeat("bad\n", 300))
	checkText(t, text+"\n", "too long\n")
	checkText(t, text[:19999]+"\n", strings.Repeat("bad\n", 300))
	checkText(t, text[:19998]+"\nz", "too long\n")
}
