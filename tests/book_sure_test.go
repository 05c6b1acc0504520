package tests

import (
	"slices"
	"testing"

	"loop.example/lapstrip/impl"
)

func TestSureOfOne(t *testing.T) {
	// Who lands at 10 comes again at 16.
	for late, want := range map[int]bool{10: false, 15: false, 16: true, 17: true, maxTick: true} {
		if got := impl.StripSure(bookOf(0, []int{10}, lander("a", 1, 5, late))); got != want {
			t.Errorf("lands, Late %d: %v", late, got)
		}
		if !impl.StripSure(bookOf(0, []int{10}, leaver("a", 1, 5, late))) {
			t.Errorf("leaves, Late %d: not sure", late)
		}
		// A promise does not bind who goes round.
		if got := impl.StripSure(bookOf(9, []int{10}, withPromise(lander("a", 1, 5, late), 10))); got != want {
			t.Errorf("lands, promised, Late %d: %v", late, got)
		}
	}
	if impl.StripSure(bookOf(0, []int{maxTick - 5}, lander("a", 1, 5, maxTick))) || !impl.StripSure(bookOf(0, []int{maxTick - 6}, lander("a", 1, 5, maxTick))) {
		t.Error("at the last tick at which one who lands can go round")
	}
}

// What is gone when somebody goes round later: those ahead of them hold nothing any more.
func TestSureWhatIsGone(t *testing.T) {
	// b cannot come but at 10, and is gone when a goes round at 12.
	if !impl.StripSure(bookOf(0, []int{12, 10}, lander("a", 1, 5, 18), leaver("b", 1, 10, 10))) {
		t.Error("who is gone is in the way of one who goes round")
	}
	// b at 10 can come again at 16 only, and a waits for it; a goes round at 16, when b is gone.
	b := bookOf(0, []int{16, 10}, lander("a", 1, 16, 22), lander("b", 1, 5, 16))
	if !impl.StripSure(b) {
		t.Error("one of two who land is in the way of the other, though gone")
	}
	// One who leaves at 16 and cannot wait up to 18 is in the way of b.
	b.Moves[0].Lands, b.Moves[0].Late = false, 17
	if impl.StripSure(b) {
		t.Error("who is not gone is not in the way")
	}
	b.Moves[0].Late = 18
	if !impl.StripSure(b) {
		t.Error("who can wait is in the way")
	}
}

// What is promised when somebody goes round later: what is near by then, not what is near now.
func TestSureWhatIsPromised(t *testing.T) {
	// g at 8 is to come again at 14. b at 11 would be promised by then, and blocks the runway up to 15; b at 12 would not, and can wait.
	g, b := lander("g", 1, 8, 14), lander("b", 3, 11, 18)
	if impl.StripSure(bookOf(0, []int{11, 8}, b, g)) {
		t.Error("b at 11 is taken for one who can wait")
	}
	if !impl.StripSure(bookOf(0, []int{12, 8}, b, g)) {
		t.Error("b at 12 is taken for one to whom its tick is promised")
	}
	// A promise that was made already is kept, however far.
	if impl.StripSure(bookOf(0, []int{12, 8}, withPromise(b, 12), g)) {
		t.Error("b, promised 12, is taken for one who can wait")
	}
}

// When somebody goes round at 10, nobody to whom nothing is promised can come ahead of 14, however early they could have come at first.
func TestSureThePlanIsAtTheirTick(t *testing.T) {
	// a is to come again at 16; b, at 14, blocks the runway up to 17, and behind a it comes at 18.
	for late, want := range map[int]bool{14: false, 17: false, 18: true} {
		b := bookOf(0, []int{10, 14}, lander("a", 1, 5, 16), leaver("b", 3, 5, late))
		if got := impl.StripSure(b); got != want {
			t.Errorf("Late %d: %v", late, got)
		}
	}
}

// The one who goes round may be put anywhere: the book's Shift does not bind the plan behind it.
func TestSureTakesAnyShift(t *testing.T) {
	// a at 10 comes again at 16 of itself ahead of b and c, but b and c cannot wait for it.
	for shift := range impl.StripMaxMoves + 1 {
		b := bookOf(10, []int{10, 16, 17}, withPromise(lander("a", 1, 5, 40), 10), leaver("b", 1, 16, 16), leaver("c", 1, 17, 17))
		b.Shift = shift
		if !impl.StripSure(b) {
			t.Errorf("Shift %d: not sure", shift)
		}
		got, code := impl.StripRound(b, "a")
		if code != 0 || !slices.Equal(got.Ticks, []int{18, 16, 17}) || got.Shift != shift {
			t.Errorf("Shift %d: %v, code %d", shift, got, code)
		}
	}
}
