package tests

import (
	"fmt"
	"slices"
	"testing"

	"loop.example/lapstrip/impl"
)

func TestRound(t *testing.T) {
	b := later(t, added(t, impl.StripBook{Shift: 1}, lander("k", 2, 5, 20), leaver("l", 1, 5, 20), leaver("z", 1, 15, 40)), 6)
	if !slices.Equal(b.Ticks, []int{6, 15}) {
		t.Fatalf("%v", b)
	}
	got, code := impl.StripRound(b, "k")
	want := impl.StripBook{Now: 6, Shift: 1, Moves: []impl.StripMove{lander("k", 2, 12, 20), leaver("z", 1, 15, 40)}, Ticks: []int{12, 15}}
	if code != 0 || !sameBook(got, want) {
		t.Errorf("%v, code %d", got, code)
	}
}

// The others may have to wait for who goes round, if nothing is promised to them.
func TestRoundTheOthersWait(t *testing.T) {
	k := withPromise(lander("k", 3, 5, 16), 10)
	near := withPromise(leaver("a", 1, 10, 40), 14)
	for what, c := range map[string]struct {
		tick, code int
		m          impl.StripMove
		want       []int
	}{
		"16, not promised":      {16, 0, leaver("a", 1, 10, 40), []int{14, 16}},
		"15, not promised":      {15, 0, leaver("a", 1, 15, 40), []int{15, 16}},
		"16, can only come so":  {16, 5, leaver("a", 1, 16, 16), nil},
		"16, and can wait":      {16, 0, leaver("a", 1, 16, 20), []int{20, 16}},
		"16, and cannot so far": {16, 5, leaver("a", 1, 16, 19), nil},
		"16, promised":          {16, 5, withPromise(leaver("a", 1, 16, 40), 16), nil},
		"14, promised":          {14, 0, near, []int{14, 16}},
	} {
		b := bookOf(10, []int{c.tick, 10}, c.m, k)
		got, code := impl.StripRound(b, "k")
		if c.code != 0 {
			stays(t, what, b, got, code, c.code)
			continue
		}
		if code != 0 || !slices.Equal(got.Ticks, c.want) || got.Moves[0] != c.m {
			t.Errorf("%s: %v, code %d, want %v", what, got, code, c.want)
		}
	}
}

func TestRoundAtLateAndAboveIt(t *testing.T) {
	const now = 10
	for late := now; late <= now+roundT+1; late++ {
		b := bookOf(now, []int{now}, withPromise(lander("a", 1, 5, late), now))
		got, code := impl.StripRound(b, "a")
		if late < now+roundT {
			stays(t, fmt.Sprintf("Late %d", late), b, got, code, 5)
		} else if code != 0 || !slices.Equal(got.Ticks, []int{now + roundT}) || got.Moves[0] != lander("a", 1, now+roundT, late) {
			t.Errorf("Late %d: %v, code %d", late, got, code)
		}
	}
	for _, now := range []int{maxTick - roundT, maxTick - roundT + 1, maxTick} {
		b := bookOf(now, []int{now}, withPromise(lander("a", 1, 5, maxTick), now))
		got, code := impl.StripRound(b, "a")
		if now > maxTick-roundT {
			stays(t, "at the last ticks", b, got, code, 5)
		} else if code != 0 || !slices.Equal(got.Ticks, []int{maxTick}) {
			t.Errorf("Now %d: %v, code %d", now, got, code)
		}
	}
}

func TestRoundRefuses(t *testing.T) {
	b := bookOf(10, []int{10, 12, 13, 30}, withPromise(lander("a", 1, 5, 12), 10), withPromise(leaver("b", 1, 5, 40), 12), withPromise(lander("c", 1, 5, 14), 13), lander("d", 1, 5, 90))
	for name, want := range map[string]int{
		"":       3,
		"nobody": 3,
		"A":      3,
		"a\x00":  3,
		"b":      3, // who leaves, and whose tick is not Now
		"c":      6, // who could not come again in time either
		"d":      6,
		"a":      5,
	} {
		got, code := impl.StripRound(b, name)
		stays(t, "round "+name, b, got, code, want)
	}
	leaves := bookOf(10, []int{10}, withPromise(leaver("a", 1, 5, 40), 10))
	got, code := impl.StripRound(leaves, "a")
	stays(t, "who leaves now", leaves, got, code, 3)
	nobody := impl.StripBook{Now: 3, Shift: 3}
	got, code = impl.StripRound(nobody, "a")
	stays(t, "nobody", nobody, got, code, 3)
}

// The book behind a round need not be sure, and a second round may be refused.
func TestRoundTwice(t *testing.T) {
	b := later(t, added(t, impl.StripBook{}, lander("a", 1, 5, 12)), 5)
	b, code := impl.StripRound(b, "a")
	if code != 0 || !slices.Equal(b.Ticks, []int{11}) || impl.StripSure(b) {
		t.Fatalf("%v, code %d", b, code)
	}
	got, code := impl.StripRound(b, "a")
	stays(t, "at once", b, got, code, 6)
	b = later(t, b, 6)
	got, code = impl.StripRound(b, "a")
	stays(t, "again", b, got, code, 5)
	b = later(t, b, 1)
	got, code = impl.StripRound(b, "a")
	stays(t, "when gone", b, got, code, 3)
}
