package tests

import (
	"fmt"
	"strings"
	"sync"
	"testing"

	"loop.example/lapstrip/impl"
)

// exampleLines are the document's example, each line with its answer.
var exampleLines = []string{
	"land kl 3 5 30", "code 0",
	"land ba 1 5 40", "code 0",
	"leave lh 2 6 12", "code 0",
	"plan", "0 ba@5 lh@7 kl@8 late 4 most 3",
	"sure", "yes",
	"land a 1 9 10", "code 6",
	"leave b 1 9 16", "code 0",
	"plan", "0 ba@5 lh@7 b@9 kl@10 late 6 most 5",
	"tick 3", "now 3",
	"round kl", "code 6",
	"tick 2", "now 5",
	"round kl", "code 6",
	"round ba", "code 0",
	"plan", "5 lh@7! b@9 kl@10 ba@14 late 9 most 5",
	"sure", "yes",
	"leave c 1 9 40", "code 0",
	"drop lh", "code 0",
	"plan", "5 b@9 c@10 ba@11 kl@13 late 9 most 8",
	"tick 20", "b c ba kl now 25",
	"plan", "25 late 0 most 0",
	"tick 101", "bad",
}

// apart is the lines and the answers of a script, in which each line stands ahead of its answer.
func apart(script []string) (lines, answers []string) {
	for i := 0; i+1 < len(script); i += 2 {
		lines, answers = append(lines, script[i]), append(answers, script[i+1])
	}
	return lines, answers
}

// plays asks for each line's answer.
func plays(t *testing.T, script ...string) {
	t.Helper()
	if len(script)%2 != 0 {
		t.Fatal("a line without an answer")
	}
	lines, want := apart(script)
	text := textOf(lines)
	got := strings.Split(impl.StripSession(text), "\n")
	for i, line := range lines {
		if i >= len(got) || got[i] != want[i] {
			t.Fatalf("line %d of %q, %q: %q, want %q", i, text, line, got[min(i, len(got)-1)], want[i])
		}
	}
	if len(got) != len(lines)+1 || got[len(lines)] != "" {
		t.Fatalf("%q: %q", text, got)
	}
}

// allBad asks that a line is answered `bad`, and leaves the book as it was.
func allBad(t *testing.T, lines ...string) {
	t.Helper()
	for _, line := range lines {
		plays(t, line, "bad", "plan", "0 late 0 most 0")
		plays(t, "land a 1 5 40", "code 0", "tick 2", "now 2", line, "bad", "plan", "2 a@5! late 0 most 0")
	}
}

func TestSessionOfTheExample(t *testing.T) {
	plays(t, exampleLines...)
	lines, answers := apart(exampleLines)
	if got := impl.StripSession(strings.Join(lines, "\n")); got != textOf(answers) {
		t.Errorf("without a newline at the end: %q", got)
	}
}

func TestSessionStartsWithNobody(t *testing.T) {
	plays(t, "plan", "0 late 0 most 0")
	plays(t, "sure", "yes")
	plays(t, "tick 0", "now 0")
	plays(t, "drop a", "code 3")
	plays(t, "round a", "code 3")
}

// With the Shift 2 one may be shifted by two places, but none by three.
func TestSessionHasTheShiftTwo(t *testing.T) {
	lines := []string{"land x 3 4 90", "leave a 1 5 90", "leave b 1 5 90", "leave c 1 5 90"}
	got := impl.StripSession(textOf(lines) + "plan\n")
	books := map[int]string{}
	for shift := range impl.StripMaxMoves + 1 {
		p := plainSession{book: impl.StripBook{Shift: shift}}
		for _, line := range lines {
			p.answer(line)
		}
		books[shift] = p.answer("plan")
	}
	if books[1] == books[2] || books[2] == books[3] {
		t.Fatalf("the plans tell too little: %v", books)
	}
	if want := "code 0\ncode 0\ncode 0\ncode 0\n" + books[2] + "\n"; got != want {
		t.Errorf("%q, want %q", got, want)
	}
}

func TestSessionLands(t *testing.T) {
	plays(t, "land a 1 5 11", "code 0", "sure", "yes", "plan", "0 a@5 late 0 most 0")
	plays(t, "land abcdefgh 3 0 10000", "code 0", "plan", "0 abcdefgh@4 late 4 most 4")
	plays(t, "land 0-9 1 9994 10000", "code 0", "plan", "0 0-9@9994 late 0 most 0")
	// Whoever lands blocks the runway for longer, and by their own Wake.
	plays(t, "land a 3 5 40", "code 0", "leave b 1 8 9", "code 0", "plan", "0 a@5 b@9 late 1 most 1")
	plays(t, "leave a 3 5 40", "code 0", "leave b 1 7 9", "code 0", "plan", "0 a@5 b@8 late 1 most 1")
	plays(t, "land a 1 5 40", "code 0", "leave b 3 6 9", "code 0", "plan", "0 a@5 b@7 late 1 most 1")
}

func TestSessionLandsWithCodes(t *testing.T) {
	for _, kind := range []string{"land", "leave"} {
		for _, words := range []string{
			"A 1 5 40", "abcdefghi 1 5 40", "a_ 1 5 40", "\xff 1 5 40", "é 1 5 40", "a\tb 1 5 40", "\x00 1 5 40", "a\r 1 5 40",
			" 1 5 40", "@ 1 5 40", "a! 1 5 40",
			"a 0 5 40", "a 4 5 40", "a 99999 5 40",
			"a 1 41 40", "a 1 5 10001", "a 1 10001 10001", "a 1 99999 99999", "a 1 5 0",
		} {
			plays(t, kind+" "+words, "code 2", "plan", "0 late 0 most 0")
		}
		plays(t, "land a 1 5 40", "code 0", kind+" a 1 5 40", "code 3", kind+" a 0 5 40", "code 2", "plan", "0 a@5 late 0 most 0")
		plays(t, kind+" a 1 0 3", "code 5", kind+" a 1 0 4", map[string]string{"land": "code 6", "leave": "code 0"}[kind])
		plays(t, "tick 10", "now 10", kind+" a 1 0 13", "code 5", "plan", "10 late 0 most 0")
		plays(t, "leave a 1 5 5", "code 0", kind+" b 1 5 5", "code 5", "plan", "0 a@5 late 0 most 0")
	}
	plays(t, "land a 1 5 10", "code 6", "plan", "0 late 0 most 0", "land a 1 5 11", "code 0")
	// Behind b, who leaves, there would be no tick at which a could come again.
	plays(t, "land a 1 5 11", "code 0", "leave b 1 11 11", "code 6", "leave b 1 12 12", "code 6", "leave b 1 13 13", "code 0",
		"plan", "0 a@5 b@13 late 0 most 0")
}

func TestSessionWithTheMostMoves(t *testing.T) {
	script := []string{}
	want := "0"
	for i := range impl.StripMaxMoves {
		name := string(rune('f' - i))
		script = append(script, fmt.Sprintf("leave %s 1 %d 90", name, 10+i), "code 0")
		want += fmt.Sprintf(" %s@%d", name, 10+i)
	}
	want += " late 0 most 0"
	script = append(script, "plan", want,
		"leave g 1 5 90", "code 4", "land g 1 5 90", "code 4",
		"leave f 1 5 90", "code 3", "leave G 1 5 90", "code 2",
		"plan", want, "sure", "yes",
		"drop f", "code 0", "leave g 1 20 90", "code 0", "leave h 1 20 90", "code 4")
	plays(t, script...)
}

func TestSessionDrops(t *testing.T) {
	plays(t, "leave a 1 5 40", "code 0", "leave b 1 5 40", "code 0", "plan", "0 a@5 b@6 late 1 most 1",
		"drop c", "code 3", "drop A", "code 3", "drop \xff\x00", "code 3", "drop ", "code 3", "drop ab", "code 3",
		"plan", "0 a@5 b@6 late 1 most 1",
		"drop a", "code 0", "plan", "0 b@5 late 0 most 0", "drop a", "code 3",
		"drop b", "code 0", "plan", "0 late 0 most 0", "drop b", "code 3")
	// b's tick was promised: it stays, though a has gone.
	plays(t, "leave a 1 5 40", "code 0", "leave b 1 5 40", "code 0", "tick 3", "now 3", "drop a", "code 0", "plan", "3 b@6! late 1 most 1")
}

func TestSessionRounds(t *testing.T) {
	plays(t, "land a 1 5 11", "code 0", "leave b 1 20 40", "code 0",
		"round a", "code 6", "round b", "code 3", "round c", "code 3", "round \xff", "code 3", "round ", "code 3",
		"tick 5", "now 5", "round b", "code 3", "round a", "code 0", "plan", "5 a@11 b@20 late 0 most 0",
		"round a", "code 6", "sure", "no",
		"tick 6", "now 11", "plan", "11 a@11! b@20 late 0 most 0", "round a", "code 5", "plan", "11 a@11! b@20 late 0 most 0",
		"tick 1", "a now 12", "round a", "code 3", "sure", "yes")
	// Going round at their tick does not let it pass: Now stays.
	plays(t, "land a 1 5 40", "code 0", "tick 5", "now 5", "round a", "code 0", "tick 6", "now 11", "round a", "code 0",
		"tick 6", "now 17", "tick 1", "a now 18")
}

func TestSessionTicks(t *testing.T) {
	plays(t, "tick 0", "now 0", "tick 1", "now 1", "tick 9", "now 10", "tick 10", "now 20", "tick 99", "now 119", "tick 100", "now 219",
		"tick 101", "bad", "tick 999", "bad", "tick 10000", "bad", "tick 99999", "bad", "tick 0", "now 219")
	plays(t, "leave c 1 5 40", "code 0", "leave b 1 6 40", "code 0", "land a 1 7 40", "code 0", "plan", "0 c@5 b@6 a@7 late 0 most 0",
		"tick 5", "now 5", "tick 0", "now 5", "tick 1", "c now 6", "tick 2", "b a now 8", "tick 1", "now 9")
	plays(t, "leave c 1 5 40", "code 0", "leave b 1 6 40", "code 0", "land a 1 7 40", "code 0", "tick 100", "c b a now 100", "plan", "100 late 0 most 0")
}

// toTick is a script that leads to a tick of hundreds.
func toTick(tick int) []string {
	var script []string
	for now := 100; now <= tick; now += 100 {
		script = append(script, "tick 100", fmt.Sprint("now ", now))
	}
	return script
}

func TestSessionTicksUpToTheLast(t *testing.T) {
	plays(t, append(toTick(10000),
		"plan", "10000 late 0 most 0", "tick 0", "now 10000", "tick 1", "code 2", "tick 100", "code 2", "tick 101", "bad",
		"plan", "10000 late 0 most 0", "leave a 1 10000 10000", "code 5", "sure", "yes")...)
	plays(t, append(toTick(9900), "tick 99", "now 9999", "tick 1", "now 10000", "tick 1", "code 2")...)
	plays(t, append(toTick(9900), "tick 99", "now 9999", "tick 2", "code 2", "plan", "10000 late 0 most 0")...)
	// Who is told ahead of the code is told, and gone; who has the last tick stays.
	plays(t, append(toTick(9900),
		"leave c 1 9990 10000", "code 0", "leave b 1 9995 10000", "code 0", "leave a 1 10000 10000", "code 0",
		"tick 95", "c now 9995", "tick 10", "b code 2", "plan", "10000 a@10000! late 0 most 0",
		"tick 1", "code 2", "drop b", "code 3", "drop a", "code 0", "tick 0", "now 10000")...)
	plays(t, append(toTick(9900),
		"leave c 1 9990 10000", "code 0", "leave b 1 9995 10000", "code 0", "tick 1", "now 9901", "tick 100", "c b code 2", "plan", "10000 late 0 most 0")...)
	plays(t, append(toTick(9900), "leave c 1 9990 10000", "code 0", "leave b 1 9999 10000", "code 0", "tick 100", "c b now 10000")...)
}

func TestSessionPlans(t *testing.T) {
	// Promised is what is below Now + StripFreeze, once a tick has passed.
	plays(t, "leave a 1 4 40", "code 0", "leave b 1 5 40", "code 0", "plan", "0 a@4 b@5 late 0 most 0",
		"tick 1", "now 1", "plan", "1 a@4! b@5 late 0 most 0",
		"tick 1", "now 2", "plan", "2 a@4! b@5! late 0 most 0",
		"tick 2", "now 4", "plan", "4 a@4! b@5! late 0 most 0",
		"tick 1", "a now 5", "plan", "5 b@5! late 0 most 0")
	// By ticks, not by names, nor by the texts of ticks.
	plays(t, "leave a 1 100 140", "code 0", "leave b 1 20 40", "code 0", "leave c 1 9 40", "code 0", "plan", "0 c@9 b@20 a@100 late 0 most 0")
	// How late all are together, and the one that is latest.
	plays(t, "leave a 1 0 40", "code 0", "leave b 1 1 40", "code 0", "leave c 1 2 40", "code 0", "plan", "0 a@4 b@5 c@6 late 12 most 4")
}

func TestSessionIsSure(t *testing.T) {
	plays(t, "sure", "yes", "leave a 1 5 5", "code 0", "sure", "yes", "land b 1 8 30", "code 0", "sure", "yes", "tick 8", "a now 8", "sure", "yes",
		"round b", "code 0", "sure", "yes", "tick 6", "now 14", "round b", "code 0", "sure", "yes", "tick 6", "now 20", "round b", "code 0",
		"plan", "20 b@26 late 0 most 0", "sure", "no", "drop b", "code 0", "sure", "yes")
}

func TestSessionBadWords(t *testing.T) {
	allBad(t, "", " ", "  ", "x", "Land a 1 5 40", "PLAN", "plans", "pla", "lan a 1 5 40", "code 0", "now 0", "bad", "too long",
		"\x00", "\xff", "\xc3\xa9", "plan\r", "plan\t", "\tplan", "plan\x00", "sure\r", "tick\t1", "drop\ta", "drop\u00a0a", "\ufeffplan")
}

func TestSessionTooFewAndTooManyWords(t *testing.T) {
	allBad(t, "land", "land a", "land a 1", "land a 1 5", "land a 1 5 40 1", "land a b 1 5 40", "leave", "leave a", "leave a 1", "leave a 1 5", "leave a 1 5 40 1",
		"drop", "drop a b", "drop a a", "round", "round a b", "tick", "tick 1 1", "plan a", "plan plan", "plan 0", "sure a", "sure sure")
}

// A space always parts two words: one of them is empty at a head, at an end and between two in a row.
func TestSessionSpaces(t *testing.T) {
	for _, line := range []string{"land b 1 5 40", "leave b 1 5 40", "drop a", "round a", "tick 1", "plan", "sure"} {
		allBad(t, " "+line, "  "+line, line+" ", line+"  ", " "+line+" ")
		for at, c := range line {
			if c == ' ' {
				allBad(t, line[:at]+" "+line[at:], line[:at]+"  "+line[at:], line[:at]+"\t"+line[at+1:])
			}
		}
	}
	allBad(t, "plan ", "sure ", "tick ", "land ", "leave ", "land  1 5", "drop  ", "round  ")
}

func TestSessionNumbers(t *testing.T) {
	for _, n := range []string{"", "00", "01", "007", "00001", "-1", "-0", "+1", "+0", "1.0", "1e1", "0x1", "1_0", "x", "1x", "x1", "1\t", "\t1", "1\r", "1\x00", "\xff",
		"100000", "000001", "999999", "123456", "00000000000000000001", "18446744073709551617", "9223372036854775808", "１", "٣", strings.Repeat("9", 5000)} {
		allBad(t, "tick "+n, "land b "+n+" 5 40", "land b 1 "+n+" 40", "land b 1 5 "+n, "leave b "+n+" 5 40", "leave b 1 "+n+" 40", "leave b 1 5 "+n)
	}
	for _, n := range []string{"99999", "10001", "12345"} {
		plays(t, "land b "+n+" 5 40", "code 2", "land b 1 "+n+" 40", "code 2", "land b 1 5 "+n, "code 2", "tick "+n, "bad")
	}
	plays(t, "land b 0 5 40", "code 2", "leave b 1 0 0", "code 5", "leave b 1 0 10000", "code 0", "tick 0", "now 0")
	plays(t, "leave b 1 10000 10000", "code 0", "plan", "0 b@10000 late 0 most 0")
	// A bad N is bad, whatever else the move is.
	plays(t, "land A 9 5 x", "bad", "land A 9 05 40", "bad", "land A 9 5 40", "code 2")
}

func TestSessionNamesOfAnyBytes(t *testing.T) {
	for c := range 256 {
		if c == '\n' || c == ' ' {
			continue
		}
		name := string([]byte{byte(c)})
		ok := strings.Contains("abcdefghijklmnopqrstuvwxyz0123456789-", name)
		if ok {
			plays(t, "drop "+name, "code 3", "round "+name, "code 3", "land "+name+" 1 5 40", "code 0", "plan", "0 "+name+"@5 late 0 most 0", "drop "+name, "code 0")
		} else {
			plays(t, "drop "+name, "code 3", "round "+name, "code 3", "land "+name+" 1 5 40", "code 2", "leave "+name+" 1 5 40", "code 2", "plan", "0 late 0 most 0")
		}
	}
	long := strings.Repeat("a", 9000)
	plays(t, "drop "+long, "code 3")
	plays(t, "round "+long, "code 3")
	plays(t, "land "+long+" 1 5 40", "code 2")
	// A NAME may be a command's word, or a number.
	plays(t, "land plan 1 5 40", "code 0", "leave 12345 1 20 40", "code 0", "plan", "0 plan@5 12345@20 late 0 most 0", "drop drop", "code 3", "drop plan", "code 0")
}

func TestSessionLines(t *testing.T) {
	cases := map[string]string{
		"":               "",
		"\n":             "bad\n",
		"\n\n":           "bad\nbad\n",
		" ":              "bad\n",
		" \n":            "bad\n",
		"\n ":            "bad\nbad\n",
		"sure":           "yes\n",
		"sure\n":         "yes\n",
		"sure\n\n":       "yes\nbad\n",
		"\nsure":         "bad\nyes\n",
		"\nsure\n":       "bad\nyes\n",
		"sure\nsure":     "yes\nyes\n",
		"sure\nsure\n":   "yes\nyes\n",
		"sure\n\nsure":   "yes\nbad\nyes\n",
		"sure\r\nsure":   "bad\nyes\n",
		"sure\n\r":       "yes\nbad\n",
		"sure\n\x00":     "yes\nbad\n",
		"sure\rsure":     "bad\n",
		"sure\u2028sure": "bad\n",
	}
	for text, want := range cases {
		if got := impl.StripSession(text); got != want {
			t.Errorf("%q: %q, want %q", text, got, want)
		}
	}
}

func TestSessionBytes(t *testing.T) {
	const most = impl.StripMaxSession
	cases := []struct{ text, want string }{
		{"drop " + strings.Repeat("x", most-5), "code 3\n"},
		{"drop " + strings.Repeat("x", most-4), "too long\n"},
		{"drop " + strings.Repeat("x", most-6) + "\n", "code 3\n"},
		{"drop " + strings.Repeat("x", most-5) + "\n", "too long\n"},
		{"sure\n" + strings.Repeat("x", most-5), "yes\nbad\n"},
		{"sure\n" + strings.Repeat("x", most-4), "too long\n"},
		{strings.Repeat("x", most-5) + "\nsure", "bad\nyes\n"},
		{strings.Repeat("x", most-4) + "\nsure", "too long\n"},
		// The size is in bytes, not in runes.
		{strings.Repeat("é", most/2), "bad\n"},
		{strings.Repeat("é", most/2) + "x", "too long\n"},
		{strings.Repeat("\xff", most), "bad\n"},
		{strings.Repeat("\xff", most+1), "too long\n"},
		{strings.Repeat(" ", most), "bad\n"},
		{strings.Repeat(" ", most+1), "too long\n"},
		{strings.Repeat("x", 1<<22), "too long\n"},
	}
	for i, c := range cases {
		if got := impl.StripSession(c.text); got != c.want {
			t.Errorf("case %d, of %d bytes: %q, want %q", i, len(c.text), got, c.want)
		}
	}
}

func TestSessionLinesUpToTheMost(t *testing.T) {
	const most = impl.StripMaxLines
	many := func(piece string, n int) string { return strings.Repeat(piece, n) }
	cases := []struct{ text, want string }{
		{many("sure\n", most), many("yes\n", most)},
		{many("sure\n", most-1) + "sure", many("yes\n", most)},
		{many("sure\n", most) + "sure", "too long\n"},
		{many("sure\n", most+1), "too long\n"},
		{many("sure\n", most) + "\n", "too long\n"},
		{many("sure\n", most) + " ", "too long\n"},
		{many("\n", most), many("bad\n", most)},
		{many("\n", most) + "x", "too long\n"},
		{many("\n", most+1), "too long\n"},
		{many("\n", impl.StripMaxSession), "too long\n"},
		{many("\n", impl.StripMaxSession+1), "too long\n"},
		// Both limits at once.
		{many("drop "+many("x", 44)+"\n", most), many("code 3\n", most)},
		{many("drop "+many("x", 44)+"\n", most) + "x", "too long\n"},
		{many("drop "+many("x", 44)+"\n", most-1) + "drop " + many("x", 45), many("code 3\n", most)},
	}
	for i, c := range cases {
		if got := impl.StripSession(c.text); got != c.want {
			t.Errorf("case %d, of %d bytes: %.60q, want %.60q", i, len(c.text), got, c.want)
		}
	}
}

// Long sessions are held against the document's sentences, said plainly.
func TestSessionsPlainly(t *testing.T) {
	met := map[string]int{}
	for seed := range 250 {
		d := dice(40000 + seed)
		lines, answers := d.someSession(80)
		got := strings.Split(impl.StripSession(textOf(lines)), "\n")
		for i, line := range lines {
			if got[i] != answers[i] {
				t.Fatalf("%q, line %d, %q: %q, want %q", textOf(lines), i, line, got[i], answers[i])
			}
			first, _, _ := strings.Cut(line, " ")
			last := got[i]
			if first == "tick" || first == "plan" {
				last = ""
			}
			met[first+" "+last]++
		}
	}
	for _, what := range []string{"land code 0", "land code 2", "land code 3", "land code 4", "land code 5", "land code 6",
		"leave code 0", "leave code 3", "leave code 4", "leave code 5", "leave code 6", "drop code 0", "drop code 3",
		"round code 0", "round code 3", "round code 5", "round code 6", "tick ", "plan ", "sure yes", "sure no", "land bad", "leave bad"} {
		if met[what] < 5 {
			t.Errorf("%q was met %d times: too few to tell", what, met[what])
		}
	}
}

func TestSessionKeepsNothing(t *testing.T) {
	lines, answers := apart(exampleLines)
	text, want := textOf(lines), textOf(answers)
	for range 3 {
		if got := impl.StripSession(text); got != want {
			t.Fatalf("%q", got)
		}
		for _, other := range []string{"land kl 1 9 90\ntick 3\n", "bad", "", strings.Repeat("x", impl.StripMaxSession+1), "tick 100\ntick x"} {
			impl.StripSession(other)
		}
	}
	for seed := range 50 {
		d := dice(60000 + seed)
		lines, _ := d.someSession(40)
		first := impl.StripSession(textOf(lines))
		if again := impl.StripSession(textOf(lines)); again != first {
			t.Fatalf("%q: %q, and then %q", textOf(lines), first, again)
		}
	}
}

// Sessions that are played at the same time know nothing of each other.
func TestSessionsAtTheSameTime(t *testing.T) {
	var all sync.WaitGroup
	for seed := range 8 {
		all.Go(func() {
			d := dice(70000 + seed)
			for range 5 {
				lines, answers := d.someSession(40)
				if got := impl.StripSession(textOf(lines)); got != textOf(answers) {
					t.Errorf("%q: %q", textOf(lines), got)
				}
			}
		})
	}
	all.Wait()
}
