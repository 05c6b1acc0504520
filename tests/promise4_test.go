package tests

import (
	"testing"

	"loop.example/lapstrip/impl"
)

// noneLater asks that all who are in both books come no later in the second.
func noneLater(t *testing.T, before, after impl.StripBook, name string) bool {
	t.Helper()
	ahead := false
	for i, m := range after.Moves {
		place := placePlainly(before, m.Name)
		if place == -1 || after.Ticks[i] > before.Ticks[place] {
			t.Fatalf("drop %s of %+v: in %+v %s is later", name, before, after, m.Name)
		}
		ahead = ahead || after.Ticks[i] < before.Ticks[place]
	}
	return ahead
}

// Promise 4: StripDrop makes nobody later.
func TestPromise4(t *testing.T) {
	ahead, would := 0, 0
	for _, run := range manyRuns(70000) {
		for _, s := range run {
			// Anybody could be dropped from any of the books.
			for _, m := range s.before.Moves {
				got, code := impl.StripDrop(s.before, m.Name)
				if code != 0 {
					t.Fatalf("drop %s of %+v: code %d", m.Name, s.before, code)
				}
				if len(got.Moves) != len(s.before.Moves)-1 {
					t.Fatalf("drop %s of %+v: %+v", m.Name, s.before, got)
				}
				if noneLater(t, s.before, got, m.Name) {
					ahead++
				}
				if s.what == "drop" && dropPlainly(s.before, m.Name).later {
					would++
				}
			}
		}
	}
	if ahead < 500 || would < 20 {
		t.Errorf("%d come ahead, and %d would have been later: too few to tell", ahead, would)
	}
}
