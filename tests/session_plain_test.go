package tests

import (
	"fmt"
	"regexp"
	"sort"
	"strconv"
	"strings"

	"loop.example/lapstrip/impl"
)

// The document's sentences about sessions, said once more and plainly, to hold the program against.

const (
	number = `(0|[1-9][0-9]{0,4})`
	word   = `((?s:[^ ]*))`
)

var (
	comesLine = regexp.MustCompile(`^(land|leave) ` + word + ` ` + number + ` ` + number + ` ` + number + `$`)
	dropLine  = regexp.MustCompile(`^drop ` + word + `$`)
	roundLine = regexp.MustCompile(`^round ` + word + `$`)
	tickLine  = regexp.MustCompile(`^tick ([0-9]|[1-9][0-9]|100)$`)
	// anyAnswer is what a line may be answered at all.
	anyAnswer = regexp.MustCompile(`^(bad|yes|no|code [0-6]|([a-z0-9-]{1,8} )*(now [0-9]+|code 2)|[0-9]+( [a-z0-9-]{1,8}@[0-9]+!?)* late [0-9]+ most [0-9]+)$`)
)

// plainSession is the book between two lines.
type plainSession struct {
	book impl.StripBook
}

func newPlainSession() *plainSession {
	return &plainSession{book: impl.StripBook{Shift: 2}}
}

func (p *plainSession) answer(line string) string {
	if w := comesLine.FindStringSubmatch(line); w != nil {
		m := impl.StripMove{Name: w[2], Lands: w[1] == "land", Wake: atoi(w[3]), Est: atoi(w[4]), Late: atoi(w[5]), Promise: -1}
		next, code := addPlainly(p.book, m)
		p.book = next
		return fmt.Sprint("code ", code)
	}
	if w := dropLine.FindStringSubmatch(line); w != nil {
		d := dropPlainly(p.book, w[1])
		p.book = d.next
		return fmt.Sprint("code ", d.code)
	}
	if w := roundLine.FindStringSubmatch(line); w != nil {
		next, code := roundCodePlainly(p.book, w[1])
		p.book = next
		return fmt.Sprint("code ", code)
	}
	if w := tickLine.FindStringSubmatch(line); w != nil {
		return p.ticks(atoi(w[1]))
	}
	switch line {
	case "plan":
		return p.plan()
	case "sure":
		if surePlainly(p.book) {
			return "yes"
		}
		return "no"
	}
	return "bad"
}

func (p *plainSession) ticks(n int) string {
	var out []string
	for range n {
		next, told, code := tickPlainly(p.book)
		if code != 0 {
			return strings.Join(append(out, fmt.Sprint("code ", code)), " ")
		}
		out, p.book = append(out, told...), next
	}
	return strings.Join(append(out, fmt.Sprint("now ", p.book.Now)), " ")
}

func (p *plainSession) plan() string {
	at := map[int]string{}
	var ticks []int
	sum, most := 0, 0
	for i, m := range p.book.Moves {
		tick := p.book.Ticks[i]
		at[tick] = fmt.Sprintf(" %s@%d", m.Name, tick)
		if m.Promise >= 0 {
			at[tick] += "!"
		}
		ticks = append(ticks, tick)
		sum, most = sum+tick-m.Est, max(most, tick-m.Est)
	}
	sort.Ints(ticks)
	out := fmt.Sprint(p.book.Now)
	for _, tick := range ticks {
		out += at[tick]
	}
	return out + fmt.Sprintf(" late %d most %d", sum, most)
}

// sessionPlainly is for texts that are not too long.
func sessionPlainly(text string) string {
	p, out := newPlainSession(), ""
	for text != "" {
		line, behind, _ := strings.Cut(text, "\n")
		out += p.answer(line) + "\n"
		text = behind
	}
	return out
}

func atoi(text string) int {
	n, err := strconv.Atoi(text)
	if err != nil {
		panic(err)
	}
	return n
}

// someLine is a line that may do something to the book, or one that is spoilt.
func (d *dice) someLine(b impl.StripBook) string {
	line := d.goodLine(b)
	if d.below(15) == 0 {
		return d.spoilt(line)
	}
	return line
}

func (d *dice) goodLine(b impl.StripBook) string {
	name := string(rune('a' + d.below(9)))
	if len(b.Moves) > 0 && d.below(8) > 0 {
		name = b.Moves[d.below(len(b.Moves))].Name
	}
	for i, m := range b.Moves {
		if b.Ticks[i] == b.Now && m.Lands && d.below(2) == 0 {
			return "round " + m.Name
		}
	}
	switch k := d.below(24); {
	case k < 10:
		m := d.someMove(b.Now)
		return fmt.Sprintf("%s %s %d %d %d", map[bool]string{true: "land", false: "leave"}[m.Lands], m.Name, m.Wake, m.Est, m.Late)
	case k < 14:
		return fmt.Sprint("tick ", d.below(3))
	case k < 15:
		return fmt.Sprint("tick ", d.below(20))
	case k < 17:
		return "drop " + name
	case k < 18:
		return "round " + name
	case k < 21:
		return "sure"
	}
	return "plan"
}

// spoilt is the line with a byte more, less or changed, which may be a good one still; it has no newline.
func (d *dice) spoilt(line string) string {
	at := d.below(len(line))
	with := string("  0019-+abz@!\t\r\x00\xff"[d.below(17)])
	switch d.below(3) {
	case 0:
		return line[:at] + with + line[at:]
	case 1:
		return line[:at] + line[at+1:]
	}
	return line[:at] + with + line[at+1:]
}

// someSession is n lines, and what they are answered, plainly.
func (d *dice) someSession(n int) (lines, answers []string) {
	p := newPlainSession()
	for range n {
		line := d.someLine(p.book)
		lines, answers = append(lines, line), append(answers, p.answer(line))
	}
	return lines, answers
}

// textOf is the lines with a newline behind each.
func textOf(lines []string) string {
	if len(lines) == 0 {
		return ""
	}
	return strings.Join(lines, "\n") + "\n"
}
