package tests

import (
	"slices"
	"testing"

	"loop.example/lapstrip/impl"
)

func bothSure(b impl.StripBook) bool {
	return impl.StripSure(b) && surePlainly(b)
}

// Promise 3: what StripAdd gives is sure; StripDrop and StripTick of a book that is sure leave it so; and in a book that is sure StripRound of whom lands, and whose tick is Now, has code 0.
func TestPromise3(t *testing.T) {
	tried := map[string]int{}
	for _, run := range manyRuns(60000) {
		for _, s := range run {
			wasSure := surePlainly(s.before)
			switch {
			case s.what == "add" && s.code == 0 && !bothSure(s.after):
				t.Fatalf("add %+v to %+v: %+v is not sure", s.move, s.before, s.after)
			case s.what == "drop" && wasSure && !bothSure(s.after), s.what == "tick" && wasSure && !bothSure(s.after):
				t.Fatalf("%s %s of %+v: %+v is not sure any more", s.what, s.name, s.before, s.after)
			}
			if wasSure || s.code == 0 {
				tried[s.what]++
			}
			roundAll(t, s.after)
		}
	}
	for _, what := range []string{"add", "drop", "tick"} {
		if tried[what] < 500 {
			t.Errorf("%s: %d are too few to tell", what, tried[what])
		}
	}
}

// roundAll lets everybody who lands go round at their tick, in a book that is sure, on the way there.
func roundAll(t *testing.T, b impl.StripBook) {
	t.Helper()
	if !impl.StripSure(b) {
		return
	}
	last := slices.Max(append([]int{-1}, b.Ticks...))
	for code := 0; code == 0 && b.Now <= last; {
		for i, m := range b.Moves {
			if m.Lands && b.Ticks[i] == b.Now {
				roundOne(t, b, m.Name)
			}
		}
		b, _, code = impl.StripTick(b)
	}
}

func roundOne(t *testing.T, b impl.StripBook, name string) {
	t.Helper()
	got, code := impl.StripRound(b, name)
	if code != 0 {
		t.Fatalf("%+v is sure, and %s, who goes round, has code %d", b, name, code)
	}
	place := placePlainly(got, name)
	if tick := got.Ticks[place]; tick < b.Now+impl.StripRoundT || tick > got.Moves[place].Late {
		t.Fatalf("%s goes round in %+v: %+v", name, b, got)
	}
	if !impl.StripBookOk(got) {
		t.Fatalf("%s goes round in %+v: %+v is not ok", name, b, got)
	}
}

// Promise 3, for drops: of many who have not long to go round.
func TestPromise3Drops(t *testing.T) {
	d := dice(3)
	ahead, held := 0, 0
	for range 3000 {
		b := impl.StripBook{Shift: d.below(impl.StripMaxMoves + 1)}
		// The first is light and can come again at one tick only; heavy ones come near it.
		b, _ = impl.StripAdd(b, lander("d", 1, 6, 12+d.below(2)))
		for _, name := range []string{"a", "b", "f"} {
			m := lander(name, 1+d.below(3), 7+d.below(4), 0)
			m.Late = m.Est + impl.StripRoundT + d.below(6)
			m.Lands = d.below(3) > 0
			b, _ = impl.StripAdd(b, m)
		}
		for _, m := range b.Moves {
			got, code := impl.StripDrop(b, m.Name)
			if code != 0 || !bothSure(got) {
				t.Fatalf("drop %s of %+v: %+v, code %d", m.Name, b, got, code)
			}
			x := dropPlainly(b, m.Name)
			if !sameBook(got, x.kept) {
				ahead++
			}
			if x.unsure && !x.later && !x.noPlan {
				held++
			}
		}
	}
	if ahead < 100 || held < 10 {
		t.Errorf("%d come ahead, and %d would have, were it sure: too few to tell", ahead, held)
	}
}

// Promise 3, up to the last tick.
func TestPromise3NearTheEnd(t *testing.T) {
	for now := maxTick - 30; now <= maxTick; now++ {
		for late := now; late <= maxTick; late++ {
			b, code := impl.StripAdd(impl.StripBook{Now: now}, lander("a", 1, now, late))
			if code == 0 {
				roundAll(t, b)
			}
			if want := late >= now+freeze+roundT; want != (code == 0) {
				t.Fatalf("Now %d, Late %d: code %d", now, late, code)
			}
		}
	}
}
