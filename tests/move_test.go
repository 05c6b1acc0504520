package tests

import (
	"math"
	"slices"
	"strings"
	"testing"

	"loop.example/lapstrip/impl"
)

func TestLimits(t *testing.T) {
	got := []int{impl.StripMaxName, impl.StripMaxTick, impl.StripMaxMoves, impl.StripMaxWake, impl.StripFreeze, impl.StripRoundT, impl.StripMaxSession, impl.StripMaxLines}
	want := []int{8, 10000, 6, 3, 4, 6, 10000, 200}
	if !slices.Equal(got, want) {
		t.Errorf("got %v, want %v", got, want)
	}
}

func TestMoveOkNames(t *testing.T) {
	cases := []struct {
		name string
		ok   bool
	}{
		{"", false},
		{"a", true},
		{"z", true},
		{"0", true},
		{"9", true},
		{"-", true},
		{"--------", true},
		{"abcdefgh", true},
		{"az09-az0", true},
		{"abcdefghi", false},
		{strings.Repeat("a", 100000), false},
		{"A", false},
		{"Z", false},
		{"`", false},
		{"{", false},
		{"/", false},
		{":", false},
		{",", false},
		{".", false},
		{"_", false},
		{" ", false},
		{"a ", false},
		{" a", false},
		{"a b", false},
		{"ab\n", false},
		{"\x00", false},
		{"a\x00", false},
		{"\x7f", false},
		{"\x80", false},
		{"\xff", false},
		{"a\xc3", false},
		{"\xc3\xa4", false},
		{"a\xe2\x82", false},
		{"abcdefg\xff", false},
		{"\xed\xa0\x80", false},
		{"\xef\xbf\xbd", false},
		{"\xef\xbd\x81", false},
		{"\u0430", false},
		{"\u0661", false},
		{"\u0161", false},
		{"\u2010", false},
		{"\U0001f6ec", false},
	}
	for _, c := range cases {
		m := plainMove()
		m.Name = c.name
		if impl.StripMoveOk(m) != c.ok {
			t.Errorf("name %q: want %v", c.name, c.ok)
		}
	}
}

func TestMoveOkEachByteAtEachPlace(t *testing.T) {
	const allowed = "abcdefghijklmnopqrstuvwxyz0123456789-"
	for size := 1; size <= impl.StripMaxName; size++ {
		for at := range size {
			for b := range 256 {
				name := []byte(strings.Repeat("a", size))
				name[at] = byte(b)
				m := plainMove()
				m.Name = string(name)
				want := strings.IndexByte(allowed, byte(b)) >= 0
				if impl.StripMoveOk(m) != want {
					t.Fatalf("name %q: want %v", name, want)
				}
			}
		}
	}
}

func TestMoveOkWakes(t *testing.T) {
	for wake := -5; wake <= 8; wake++ {
		for _, lands := range []bool{false, true} {
			m := plainMove()
			m.Wake, m.Lands = wake, lands
			want := wake == 1 || wake == 2 || wake == 3
			if impl.StripMoveOk(m) != want {
				t.Errorf("wake %d, lands %v: want %v", wake, lands, want)
			}
		}
	}
	for _, wake := range farInts {
		m := plainMove()
		m.Wake = wake
		if impl.StripMoveOk(m) {
			t.Errorf("wake %d is ok", wake)
		}
	}
}

func TestMoveOkSpans(t *testing.T) {
	cases := []struct {
		est, late int
		ok        bool
	}{
		{0, 0, true},
		{0, 10000, true},
		{10000, 10000, true},
		{5, 5, true},
		{5, 6, true},
		{6, 5, false},
		{-1, 5, false},
		{-1, -1, false},
		{-2, -1, false},
		{0, -1, false},
		{0, 10001, false},
		{10000, 10001, false},
		{10001, 10001, false},
		{10001, 10000, false},
		{math.MinInt, 5, false},
		{5, math.MaxInt, false},
		{math.MaxInt, math.MinInt, false},
		{math.MinInt, math.MaxInt, false},
		{math.MaxInt, math.MaxInt, false},
		{math.MinInt, math.MinInt, false},
	}
	for _, c := range cases {
		m := plainMove()
		m.Est, m.Late = c.est, c.late
		if impl.StripMoveOk(m) != c.ok {
			t.Errorf("from %d to %d: want %v", c.est, c.late, c.ok)
		}
	}
}

func TestMoveOkPromises(t *testing.T) {
	cases := []struct {
		est, late, promise int
		ok                 bool
	}{
		{5, 9, -1, true},
		{5, 9, 4, false},
		{5, 9, 5, true},
		{5, 9, 7, true},
		{5, 9, 9, true},
		{5, 9, 10, false},
		{5, 9, 0, false},
		{5, 9, -2, false},
		{5, 5, 5, true},
		{5, 5, 6, false},
		{0, 9, 0, true},
		{0, 9, -1, true},
		{0, 9, -2, false},
		{0, 10000, 10000, true},
		{0, 10000, 10001, false},
		{5, 9, math.MinInt, false},
		{5, 9, math.MaxInt, false},
	}
	for _, c := range cases {
		m := plainMove()
		m.Est, m.Late, m.Promise = c.est, c.late, c.promise
		if impl.StripMoveOk(m) != c.ok {
			t.Errorf("promise %d of %d to %d: want %v", c.promise, c.est, c.late, c.ok)
		}
	}
}

func TestMoveOkOfNothing(t *testing.T) {
	if impl.StripMoveOk(impl.StripMove{}) {
		t.Error("a move that is nothing is ok")
	}
}

func TestMovesOkNames(t *testing.T) {
	cases := []struct {
		names string
		ok    bool
	}{
		{"", true},
		{"a", true},
		{"a b", true},
		{"b a", false},
		{"a a", false},
		{"a b b", false},
		{"a c b", false},
		{"b a c", false},
		{"a ab", true},
		{"ab a", false},
		{"ab b", true},
		{"- 0 9 a z", true},
		{"0 -", false},
		{"a 9", false},
		{"a a- a0 aa b", true},
		{"10 9", true},
		{"9 10", false},
		{"a b c d e f", true},
		{"a b c d e f g", false},
		{"a b c d f e", false},
		{"a b c d e E", false},
		{"A b", false},
		{"a b\xff", false},
		{"abcdefgh abcdefgi", true},
		{"abcdefgh abcdefghi", false},
	}
	for _, c := range cases {
		var list []impl.StripMove
		for _, name := range strings.Fields(c.names) {
			list = append(list, wideMove(name, false, 1))
		}
		if impl.StripMovesOk(list) != c.ok {
			t.Errorf("names %q: want %v", c.names, c.ok)
		}
	}
}

func TestMovesOkOfNone(t *testing.T) {
	if !impl.StripMovesOk(nil) || !impl.StripMovesOk([]impl.StripMove{}) {
		t.Error("no moves are not ok together")
	}
}

func TestMovesOkAsksEachMove(t *testing.T) {
	for size := 1; size <= impl.StripMaxMoves; size++ {
		for at := range size {
			list := make([]impl.StripMove, size)
			for i := range list {
				list[i] = wideMove(string(rune('a'+i)), i%2 == 0, 1+i%3)
			}
			if !impl.StripMovesOk(list) {
				t.Fatalf("%d moves are not ok together", size)
			}
			list[at].Late = impl.StripMaxTick + 1
			if impl.StripMovesOk(list) {
				t.Errorf("%d moves, that at %d not ok, are ok together", size, at)
			}
		}
	}
}

func TestMovesOkDoesNotAskTicks(t *testing.T) {
	// Whether promises can be kept together is a matter of what fits.
	a, b := plainMove(), plainMove()
	b.Name = "b"
	a.Promise, b.Promise = 7, 7
	if !impl.StripMovesOk([]impl.StripMove{a, b}) {
		t.Error("two with the same promise are not ok together")
	}
}

func TestMovesOkOfVeryMany(t *testing.T) {
	if impl.StripMovesOk(make([]impl.StripMove, 100000)) {
		t.Error("very many moves are ok together")
	}
}

func TestGapTable(t *testing.T) {
	// Rows: the wake of the one ahead, 1 to 3; columns: of the one behind.
	leaves := [3][3]int{{1, 1, 1}, {2, 1, 1}, {3, 2, 1}}
	lands := [3][3]int{{2, 2, 2}, {3, 2, 2}, {4, 3, 2}}
	for i := range 3 {
		for j := range 3 {
			for _, behindLands := range []bool{false, true} {
				b := wideMove("b", behindLands, j+1)
				if got := impl.StripGap(wideMove("a", false, i+1), b); got != leaves[i][j] {
					t.Errorf("behind one that leaves, wakes %d and %d: %d, want %d", i+1, j+1, got, leaves[i][j])
				}
				if got := impl.StripGap(wideMove("a", true, i+1), b); got != lands[i][j] {
					t.Errorf("behind one that lands, wakes %d and %d: %d, want %d", i+1, j+1, got, lands[i][j])
				}
			}
		}
	}
}

func TestGapOfWakesOutside(t *testing.T) {
	outside := append([]int{-100, -3, -2, -1, 0, 4, 5, 6, 7, 100}, farInts...)
	others := append([]int{1, 2, 3}, outside...)
	for _, wake := range outside {
		for _, other := range others {
			for _, ends := range [][2]int{{wake, other}, {other, wake}} {
				a, b := impl.StripMove{Wake: ends[0]}, impl.StripMove{Wake: ends[1]}
				if got := impl.StripGap(a, b); got != 1 {
					t.Errorf("wakes %v, leaves: %d, want 1", ends, got)
				}
				a.Lands = true
				if got := impl.StripGap(a, b); got != 2 {
					t.Errorf("wakes %v, lands: %d, want 2", ends, got)
				}
			}
		}
	}
}

func TestGapAsksNothingElse(t *testing.T) {
	a := impl.StripMove{Name: "\xff", Lands: true, Wake: 3, Est: math.MaxInt, Late: math.MinInt, Promise: 77}
	b := impl.StripMove{Name: strings.Repeat("Z", 50), Wake: 1, Est: -4, Late: -9, Promise: math.MinInt}
	if got := impl.StripGap(a, b); got != 4 {
		t.Errorf("got %d, want 4", got)
	}
	if got := impl.StripGap(b, a); got != 1 {
		t.Errorf("got %d, want 1", got)
	}
}
