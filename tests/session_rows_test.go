package tests

import (
	"cmp"
	"fmt"
	"regexp"
	"slices"
	"strconv"
	"strings"
	"testing"

	"loop.example/lapgive/impl"
)

// The forms of the lines, as the document's table has them.
var forms = func() map[string]*regexp.Regexp {
	all := map[string]*regexp.Regexp{}
	for _, form := range []string{
		"field NAME N N",
		"wish NAME N N N N N LEVELS CELLS",
		"box N N N N N N",
		"amend NAME",
		"took NAME",
		"refused NAME",
		"tick N",
		"bars NAME N",
		"held",
	} {
		word, _, _ := strings.Cut(form, " ")
		for _, part := range [][2]string{
			{"NAME", `([^ ]*)`},
			{"LEVELS", `(#(?:,#)*)`},
			{" CELLS", `((?: (?:#,#|/))+)`},
			{"N", `(#)`},
			{"#", `(?:0|[1-9][0-9]{0,4})`},
		} {
			form = strings.ReplaceAll(form, part[0], part[1])
		}
		all[word] = regexp.MustCompile(`\A` + form + `\z`)
	}
	return all
}()

// A session as the document's words have it.
type byWords struct {
	book impl.GiveBook
	hand []impl.GiveBox
}

func (s *byWords) answer(line string) string {
	for word, form := range forms {
		if parts := form.FindStringSubmatch(line); parts != nil {
			return s.does(word, parts[1:])
		}
	}
	return "bad"
}

func (s *byWords) does(word string, parts []string) string {
	var numbers []int
	for _, part := range parts {
		number, _ := strconv.Atoi(part)
		numbers = append(numbers, number)
	}
	var code int
	switch word {
	case "field":
		return s.field(impl.GiveField{Name: parts[0], X: numbers[1], Y: numbers[2]})
	case "wish":
		return s.wish(parts, numbers)
	case "box":
		s.hand = append(s.hand, impl.GiveBox{X: numbers[0], Y: numbers[1], Low: numbers[2], High: numbers[3], In: numbers[4], Out: numbers[5]})
		return "ok"
	case "amend":
		s.book, code = amendByWords(s.book, parts[0], s.hand)
		s.hand = nil
	case "took", "refused":
		s.book, code = hearByWords(s.book, parts[0], word == "took")
	case "tick":
		s.book, code = tickByWords(s.book, numbers[0])
	case "bars":
		return s.bars(parts[0], numbers[1])
	case "held":
		return s.held()
	}
	return fmt.Sprintf("code %d", code)
}

func (s *byWords) field(field impl.GiveField) string {
	more := copyBook(s.book)
	more.Fields = append([]impl.GiveField{field}, more.Fields...)
	slices.SortStableFunc(more.Fields, func(one impl.GiveField, other impl.GiveField) int { return cmp.Compare(one.Name, other.Name) })
	if !impl.GiveBookOk(more) {
		return "no"
	}
	s.book = more
	return "ok"
}

func (s *byWords) wish(parts []string, numbers []int) string {
	w := impl.GiveWish{Name: parts[0], Quick: numbers[1], Slow: numbers[2], From: numbers[3], By: numbers[4], Late: numbers[5]}
	for _, level := range strings.Split(parts[6], ",") {
		number, _ := strconv.Atoi(level)
		w.Levels = append(w.Levels, number)
	}
	for _, cells := range strings.Split(parts[7]+" ", "/") {
		var way impl.GiveWay
		for _, word := range strings.Fields(cells) {
			var c impl.GiveCell
			fmt.Sscanf(word, "%d,%d", &c.X, &c.Y)
			way.Cells = append(way.Cells, c)
		}
		w.Ways = append(w.Ways, way)
	}
	after, best, code := impl.GiveTake(s.book, w)
	if code != 0 {
		return fmt.Sprintf("code %d", code)
	}
	s.book = after
	return fmt.Sprintf("late %d way %d level %d", best.Late, best.Way, best.Level)
}

func (s *byWords) bars(name string, most int) string {
	told := ""
	for _, bar := range impl.GiveBars(s.book, name, s.hand, most) {
		told += fmt.Sprintf("%d-%d ", bar.Low, bar.High)
	}
	if by, ok := impl.GiveEarliest(s.book, name, s.hand, most); ok {
		return told + fmt.Sprintf("free %d", by)
	}
	return told + "never"
}

func (s *byWords) held() string {
	told := fmt.Sprint(s.book.Now)
	for _, held := range s.book.Held {
		told += fmt.Sprintf(" %s:", held.Name)
		for place, tube := range [][]impl.GiveBox{held.Tube, held.Next} {
			if place > 0 {
				told += "/"
			}
			if len(tube) == 0 {
				told += "-"
			} else {
				told += fmt.Sprintf("%d@%d-%d", len(tube), tube[0].In, tube[len(tube)-1].Out)
			}
		}
	}
	return told
}

// Lines that may do, or nearly so, drawn while a session by the document's words goes on, with their answers.
func (d *dice) talk(size int) []said {
	var s byWords
	var all []said
	fields := firstBooks()[d.roll(4)].Fields
	for len(all) < size {
		for _, line := range d.lines(&s, fields) {
			if d.roll(9) == 0 {
				line = d.spoilt(line)
			}
			all = append(all, said{line, s.answer(line)})
		}
	}
	return all[:size]
}

// Some lines that belong together.
func (d *dice) lines(s *byWords, fields []impl.GiveField) []string {
	name := d.nameFor(s.book)
	if len(s.book.Fields) == 0 || d.roll(12) == 0 {
		f := fields[d.roll(len(fields))]
		return []string{fmt.Sprintf("field %s %d %d", f.Name, f.X, f.Y)}
	}
	switch d.roll(12) {
	case 0, 1, 2, 3:
		w := d.wish(s.book.Fields, d.nameFor(s.book))
		w.From, w.By = w.From/3+s.book.Now, w.By/3+s.book.Now+d.roll(4)
		w.Late = d.roll(25)
		return []string{wishLine(w)}
	case 4, 5, 6:
		tube := d.tubeTo(s.book.Fields, 5, s.book.Now+d.roll(40))
		if place := placeIn(s.book, name); place >= 0 && d.roll(3) == 0 {
			tube = laterBy(s.book.Held[place].Tube, d.roll(4))
		}
		return append(boxLines(tube), fmt.Sprintf("bars %s %d", name, d.roll(330)), "amend "+name)
	case 7, 8:
		return []string{[]string{"took ", "refused "}[d.roll(2)] + name}
	case 9:
		return []string{fmt.Sprintf("tick %d", []int{0, 1, 1, 2, 5, 20, 10001}[d.roll(7)])}
	case 10:
		return []string{d.spoilt("")}
	}
	return []string{"held"}
}

// A name of somebody who holds something, more often than not.
func (d *dice) nameFor(b impl.GiveBook) string {
	if len(b.Held) > 0 && d.roll(3) > 0 {
		return b.Held[d.roll(len(b.Held))].Name
	}
	names := append(namesOfRows(), "", "A", "abcdefghi", "\xff")
	return names[d.roll(len(names))]
}

// The line with a byte more, less or changed; never with a newline in it.
func (d *dice) spoilt(line string) string {
	odd := []string{" ", "  ", ",", "/", " / ", "0", "1", "-", "\t", "\r", "\x00", "\xff", "x", "A", "held", "\u00e9", " 1", " 1,1"}
	place := d.roll(len(line) + 1)
	with := odd[d.roll(len(odd))]
	switch behind := line[place:]; {
	case behind != "" && d.roll(3) == 0:
		return line[:place] + behind[1:]
	case behind != "" && d.roll(2) == 0:
		return line[:place] + with + behind[1:]
	default:
		return line[:place] + with + behind
	}
}

func kindOfAnswer(answer string) string {
	switch {
	case strings.HasPrefix(answer, "late"):
		return "late"
	case strings.HasSuffix(answer, "never"):
		return "never"
	case strings.Contains(answer, "free"):
		return "free"
	case regexp.MustCompile(`\A[0-9]`).MatchString(answer):
		return "held"
	}
	return answer
}

func TestLongRowsOfLines(t *testing.T) {
	seen := map[string]int{}
	for seed := range 60 {
		d := dice(3000 + seed)
		all := d.talk(60 + d.roll(240))
		if len(linesOf(all)) > impl.GiveMaxSession {
			continue
		}
		checkTalk(t, fmt.Sprint("row ", seed), all...)
		for _, one := range all {
			word, _, _ := strings.Cut(one.line, " ")
			seen[word+" "+kindOfAnswer(one.answer)]++
			seen[kindOfAnswer(one.answer)]++
		}
	}
	for _, kind := range []string{
		"bad", "field ok", "field no", "field bad", "box ok", "box bad", "held held", "tick code 0", "tick code 2", "tick bad",
		"wish late", "wish code 2", "wish code 3", "wish code 5", "wish bad", "bars free", "bars never", "bars bad",
		"amend code 0", "amend code 2", "amend code 5", "amend code 6", "amend code 7", "amend bad",
		"took code 0", "took code 6", "took code 8", "refused code 0", "refused code 6", "refused code 8",
	} {
		if seen[kind] < 5 {
			t.Errorf("%q was seen %d times", kind, seen[kind])
		}
	}
}

// Promise 9: the answers to the first lines are those to these lines alone, whatever is behind them.
func TestFirstLinesDoNotHangOnLaterOnes(t *testing.T) {
	for seed := range 12 {
		d := dice(7000 + seed)
		all := d.talk(120)
		text := linesOf(all)
		whole := strings.SplitAfter(impl.GiveSession(text), "\n")
		if len(whole) != len(all)+1 || whole[len(all)] != "" {
			t.Fatalf("seed %d: %d lines of answer", seed, len(whole)-1)
		}
		other := linesOf(d.talk(40))
		for size := range len(all) + 1 {
			first, want := linesOf(all[:size]), strings.Join(whole[:size], "")
			checkText(t, first, want)
			if size > 0 && all[size-1].line != "" {
				checkText(t, strings.TrimSuffix(first, "\n"), want)
			}
			if got := impl.GiveSession(first + other); !strings.HasPrefix(got, want) || strings.Count(got, "\n") != size+40 {
				t.Fatalf("seed %d: %d lines and others behind them: %q", seed, size, got)
			}
		}
	}
}

// Unless the text is too long with the lines behind.
func TestFirstLinesOfATextThatIsTooLong(t *testing.T) {
	d := dice(4711)
	all := d.talk(100)
	text, answers := linesOf(all), answersOf(all)
	checkText(t, text+strings.Repeat("\n", 200), answers+strings.Repeat("bad\n", 200))
	checkText(t, text+strings.Repeat("\n", 201), "too long\n")
	rest := strings.Repeat("x", 20000-len(text))
	checkText(t, text+rest, answers+"bad\n")
	checkText(t, text+rest+"x", "too long\n")
}

// One line of answer to each line, whatever the bytes of the text are.
func TestEveryTextIsAnswered(t *testing.T) {
	d := dice(99)
	pieces := []string{"\n", "\n", " ", ",", "/", "0", "1", "15", "300", "field", "wish", "box", "amend", "took", "refused", "tick", "bars", "held", " a", " kl", " 1 1", " 1,1", "\x00", "\xff", "\t", "\r", "\u00e9", "\n\n"}
	for range 3000 {
		var made strings.Builder
		for range d.roll(60) {
			if d.roll(6) == 0 {
				made.WriteByte(byte(d.roll(256)))
			} else {
				made.WriteString(pieces[d.roll(len(pieces))])
			}
		}
		text := made.String()
		lines := strings.Split(text, "\n")
		if lines[len(lines)-1] == "" {
			lines = lines[:len(lines)-1]
		}
		var s byWords
		var want strings.Builder
		for _, line := range lines {
			want.WriteString(s.answer(line) + "\n")
		}
		checkText(t, text, want.String())
	}
}

// A call answers the same whichever calls came before it, or go on beside it.
func TestSessionsDoNotHangOnEachOther(t *testing.T) {
	var rows [][]said
	for seed := range 6 {
		d := dice(500 + seed)
		rows = append(rows, d.talk(50))
	}
	rows = append(rows, example(), fullTalk(), each("bad", "x", "", "held "), each("0", "held"), nil)
	for _, one := range rows {
		for _, other := range rows {
			checkText(t, linesOf(one), answersOf(one))
			impl.GiveSession(linesOf(other) + strings.Repeat("\n", 301))
			checkText(t, linesOf(other), answersOf(other))
		}
	}
	done := make(chan bool)
	for range 8 {
		go func() {
			same := true
			for _, row := range rows {
				same = same && impl.GiveSession(linesOf(row)) == answersOf(row)
			}
			done <- same
		}()
	}
	for range 8 {
		if !<-done {
			t.Error("calls beside each other are answered otherwise")
		}
	}
}
