package tests

import (
	"strings"
	"testing"

	"loop.example/lapstrip/impl"
)

// lineCount is how many lines a text has.
func lineCount(text string) int {
	n := strings.Count(text, "\n")
	if text != "" && !strings.HasSuffix(text, "\n") {
		n++
	}
	return n
}

// isAnswered asks that a text, of any bytes, is answered: a line for each of its lines, or `too long`.
func isAnswered(t *testing.T, text string) {
	t.Helper()
	got := impl.StripSession(text)
	if len(text) > impl.StripMaxSession || lineCount(text) > impl.StripMaxLines {
		if got != "too long\n" {
			t.Fatalf("%d bytes, %d lines: %.80q", len(text), lineCount(text), got)
		}
		return
	}
	if lineCount(got) != lineCount(text) || got != "" && !strings.HasSuffix(got, "\n") {
		t.Fatalf("%q has %d lines, its answer %d: %q", text, lineCount(text), lineCount(got), got)
	}
	for line := range strings.Lines(got) {
		if !anyAnswer.MatchString(strings.TrimSuffix(line, "\n")) {
			t.Fatalf("%q: %q is no answer", text, line)
		}
	}
}

// Promise 9: StripSession answers every text.
func TestPromise9EveryShortText(t *testing.T) {
	isAnswered(t, "")
	for a := range 256 {
		isAnswered(t, string([]byte{byte(a)}))
		for b := range 256 {
			isAnswered(t, string([]byte{byte(a), byte(b)}))
		}
	}
}

func TestPromise9AnyBytes(t *testing.T) {
	d := dice(80000)
	for i := range 2000 {
		text := make([]byte, d.below(400))
		for k := range text {
			text[k] = byte(d.below(256))
			if i%2 == 0 && d.below(6) == 0 {
				text[k] = " \n"[d.below(2)]
			}
		}
		isAnswered(t, string(text))
	}
	for range 20 {
		text := make([]byte, impl.StripMaxSession-3+d.below(6))
		for k := range text {
			text[k] = byte(d.below(256))
		}
		isAnswered(t, string(text))
	}
}

// Texts of the session's own words, put together by chance, and held against the document's sentences too.
func TestPromise9AnyWords(t *testing.T) {
	words := []string{"land", "leave", "drop", "round", "tick", "plan", "sure", "a", "b", "A", "", "0", "1", "2", "3", "4", "5", "9", "20", "00", "-1", "100", "101", "9999", "10000", "99999", "100000", "\xff", "\x00"}
	d := dice(81000)
	for range 1500 {
		var text strings.Builder
		for range d.below(150) {
			text.WriteString(words[d.below(len(words))])
			text.WriteString(" \n  "[d.below(4):][:1])
		}
		isAnswered(t, text.String())
		if got := impl.StripSession(text.String()); lineCount(text.String()) <= impl.StripMaxLines && got != sessionPlainly(text.String()) {
			t.Fatalf("%q: %q, want %q", text.String(), got, sessionPlainly(text.String()))
		}
	}
}

// Promise 9: the answers to the first lines do not hang on the lines behind them.
func TestPromise9FirstLines(t *testing.T) {
	for seed := range 40 {
		d := dice(90000 + seed)
		lines, _ := d.someSession(60)
		whole := strings.SplitAfter(impl.StripSession(textOf(lines)), "\n")
		for n := range len(lines) + 1 {
			want := strings.Join(whole[:n], "")
			if got := impl.StripSession(textOf(lines[:n])); got != want {
				t.Fatalf("the first %d lines of %q: %q, want %q", n, textOf(lines), got, want)
			}
			if n > 0 && lines[n-1] != "" {
				if got := impl.StripSession(strings.Join(lines[:n], "\n")); got != want {
					t.Fatalf("the first %d lines of %q, without the last newline: %q, want %q", n, textOf(lines), got, want)
				}
			}
		}
	}
}

// The same for a text that is cut anywhere: all lines but the cut one are answered as in the whole.
func TestPromise9FirstBytes(t *testing.T) {
	lines, answers := apart(exampleLines)
	text := textOf(lines)
	for cut := range len(text) + 1 {
		got := impl.StripSession(text[:cut])
		n := strings.Count(text[:cut], "\n")
		if want := textOf(answers[:n]); !strings.HasPrefix(got, want) || lineCount(got) != lineCount(text[:cut]) {
			t.Fatalf("%q: %q, want at first %q", text[:cut], got, want)
		}
	}
}

// The same for other lines behind the first ones.
func TestPromise9OtherLinesBehind(t *testing.T) {
	for seed := range 40 {
		d := dice(91000 + seed)
		lines, answers := d.someSession(40)
		head, want := textOf(lines), textOf(answers)
		for range 5 {
			others, _ := d.someSession(20)
			for _, tail := range []string{textOf(others), strings.Repeat("tick 100\n", 20), strings.Repeat("\n", impl.StripMaxLines-40), "\xff\x00", strings.Repeat("x", impl.StripMaxSession-len(head))} {
				if got := impl.StripSession(head + tail); !strings.HasPrefix(got, want) {
					t.Fatalf("%q and %q: %q, want at first %q", head, tail, got, want)
				}
			}
		}
	}
}

// Unless the text is too long with these.
func TestPromise9TooLongWithTheLinesBehind(t *testing.T) {
	lines, answers := apart(exampleLines)
	head, want := textOf(lines), textOf(answers)
	room := impl.StripMaxSession - len(head)
	most := impl.StripMaxLines - len(lines)
	for _, tail := range []string{strings.Repeat("x", room), strings.Repeat("\n", most), strings.Repeat("\n", most-1) + "x"} {
		if got := impl.StripSession(head + tail); !strings.HasPrefix(got, want) {
			t.Errorf("%.40q: %q", tail, got)
		}
	}
	for _, tail := range []string{strings.Repeat("x", room+1), strings.Repeat("\n", most+1), strings.Repeat("\n", most) + "x", strings.Repeat("x", room) + "\n"} {
		if got := impl.StripSession(head + tail); got != "too long\n" {
			t.Errorf("%.40q: %q", tail, got)
		}
	}
}
