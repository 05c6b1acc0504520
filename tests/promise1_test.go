package tests

import (
	"testing"

	"loop.example/lapstrip/impl"
)

// manyRuns are runs of calls from books with nobody, some of them up to the last tick.
func manyRuns(seed int) [][]step {
	var out [][]step
	for i := range 300 {
		d := dice(seed + i)
		now := 0
		if i%5 == 0 {
			now = impl.StripMaxTick - d.below(60)
		}
		out = append(out, d.run(now, 60))
	}
	return out
}

// Promise 1: in every book that StripAdd, StripDrop, StripRound and StripTick have led to from one with nobody, the ticks fit.
func TestPromise1(t *testing.T) {
	full := 0
	for _, run := range manyRuns(10000) {
		for _, s := range run {
			b := s.after
			if len(b.Moves) != len(b.Ticks) || !impl.StripMovesOk(b.Moves) {
				t.Fatalf("%s %s of %+v: %+v", s.what, s.name, s.before, b)
			}
			if !impl.StripFits(b.Moves, b.Ticks) || !fitsPlainly(b.Moves, b.Ticks) {
				t.Fatalf("%s %s of %+v: in %+v the ticks do not fit", s.what, s.name, s.before, b)
			}
			if !impl.StripBookOk(b) || !bookOkPlainly(b) {
				t.Fatalf("%s %s of %+v: %+v is not ok", s.what, s.name, s.before, b)
			}
			if len(b.Moves) == impl.StripMaxMoves {
				full++
			}
		}
	}
	if full == 0 {
		t.Error("no book had the most moves")
	}
}

// Promise 1, on the runway itself: all who are told, each gone at its tick, were far enough behind each other.
func TestPromise1OnTheRunway(t *testing.T) {
	tried := 0
	for _, run := range manyRuns(20000) {
		var last impl.StripMove
		lastTick := -100
		for _, s := range run {
			for _, name := range s.told {
				m := s.before.Moves[placePlainly(s.before, name)]
				if s.before.Now < lastTick+between(last, m) {
					t.Fatalf("%v at %d, and %v at %d", last, lastTick, m, s.before.Now)
				}
				last, lastTick = m, s.before.Now
				tried++
			}
		}
	}
	if tried < 500 {
		t.Errorf("%d who came are too few to tell", tried)
	}
}
