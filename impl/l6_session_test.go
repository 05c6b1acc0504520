package impl

import (
	"errors"
	"testing"
)

// What becomes of a panic inside is tested here, as no text leads to one that is
// not the line's.

func TestPanicOfABadLine(t *testing.T) {
	commands := map[string]command{"x": func([]string) string { panic(badLine{}) }}
	for _, line := range []string{"x", "x y", "y", ""} {
		if got := answered(commands, line); got != "bad" {
			t.Errorf("%q: %q", line, got)
		}
	}
}

func TestOtherPanicsGoOn(t *testing.T) {
	for _, value := range []any{"bad", 5, errors.New("another"), struct{}{}, &badLine{}} {
		commands := map[string]command{"x": func([]string) string { panic(value) }}
		got, fault := caught(func() string { return answered(commands, "x") })
		if fault != value {
			t.Errorf("a panic with %v: %q and %v", value, got, fault)
		}
	}
}

func TestAnswersWithoutAPanic(t *testing.T) {
	commands := map[string]command{"x": func(words []string) string { return "so" }}
	got, fault := caught(func() string { return answered(commands, "x y z") })
	if got != "so" || fault != nil {
		t.Errorf("%q and %v", got, fault)
	}
}

// A bad line leaves by a panic: the book is as it was.
func TestBadLinesLeaveTheBook(t *testing.T) {
	s := &session{book: StripBook{Now: 3, Shift: 5}}
	commands := s.commands()
	for _, line := range []string{"tick 101", "tick x", "tick 1 1", "land a 1 5", "leave a 1 5 040", "plan 1", "sure 1", "drop", "round"} {
		if got := answered(commands, line); got != "bad" {
			t.Errorf("%q: %q", line, got)
		}
		if s.book.Now != 3 || s.book.Shift != 5 || len(s.book.Moves) != 0 || len(s.book.Ticks) != 0 {
			t.Errorf("%q: %v", line, s.book)
		}
	}
}

func caught(call func() string) (got string, fault any) {
	defer func() { fault = recover() }()
	return call(), nil
}
