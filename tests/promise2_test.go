package tests

import (
	"slices"
	"testing"

	"loop.example/lapstrip/impl"
)

// Promise 2: by no call a tick that was promised to somebody who stays changes, but for whom goes round.
func TestPromise2(t *testing.T) {
	kept := map[string]int{}
	for _, run := range manyRuns(30000) {
		for _, s := range run {
			for i, m := range s.before.Moves {
				place := placePlainly(s.after, m.Name)
				goesRound := s.what == "round" && s.name == m.Name && s.code == 0
				if m.Promise == -1 || place == -1 || goesRound {
					continue
				}
				if s.after.Ticks[place] != m.Promise || s.before.Ticks[i] != m.Promise || s.after.Moves[place] != m {
					t.Fatalf("%s %s of %+v: the promise to %s is not kept in %+v", s.what, s.name, s.before, m.Name, s.after)
				}
				kept[s.what]++
			}
		}
	}
	for _, what := range []string{"add", "drop", "round", "tick"} {
		if kept[what] < 100 {
			t.Errorf("%s: %d promises are too few to tell", what, kept[what])
		}
	}
}

// Promise 2, who stays: nobody goes but who is dropped, or told, and nobody comes but who is added; what a move wants stays too.
func TestPromise2WhoStays(t *testing.T) {
	for _, run := range manyRuns(40000) {
		for _, s := range run {
			for _, m := range s.before.Moves {
				gone := s.code == 0 && (s.what == "drop" && s.name == m.Name || slices.Contains(s.told, m.Name))
				place := placePlainly(s.after, m.Name)
				if gone != (place == -1) {
					t.Fatalf("%s %s of %+v: %s in %+v", s.what, s.name, s.before, m.Name, s.after)
				}
				if gone {
					continue
				}
				is := s.after.Moves[place]
				if s.what == "round" && s.name == m.Name && s.code == 0 {
					is.Est = m.Est
				}
				is.Promise = m.Promise
				if is != m {
					t.Fatalf("%s %s of %+v: %+v is now %+v", s.what, s.name, s.before, m, is)
				}
			}
			for _, m := range s.after.Moves {
				if placePlainly(s.before, m.Name) == -1 && (s.what != "add" || s.code != 0 || m != s.move) {
					t.Fatalf("%s %s of %+v: %s has come into %+v", s.what, s.name, s.before, m.Name, s.after)
				}
			}
		}
	}
}

// Promise 2: a tick is promised, once it is near, and kept up to when it comes.
func TestPromise2UpToTheirTick(t *testing.T) {
	came := 0
	for _, run := range manyRuns(50000) {
		promised := map[string]int{}
		for _, s := range run {
			for _, name := range s.told {
				if at, ok := promised[name]; !ok || at != s.before.Now {
					t.Fatalf("%s came at %d, and was promised %d, %v", name, s.before.Now, at, ok)
				}
				came++
			}
			clear(promised)
			for i, m := range s.after.Moves {
				if s.after.Ticks[i] < s.after.Now+impl.StripFreeze && m.Promise != s.after.Ticks[i] {
					t.Fatalf("%+v: %s is near, and not promised", s.after, m.Name)
				}
				if m.Promise != -1 {
					promised[m.Name] = m.Promise
				}
			}
		}
	}
	if came < 500 {
		t.Errorf("%d who came are too few to tell", came)
	}
}
