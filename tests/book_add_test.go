package tests

import (
	"fmt"
	"math"
	"slices"
	"strings"
	"testing"

	"loop.example/lapstrip/impl"
)

func TestAddToNobody(t *testing.T) {
	for _, now := range []int{0, 1, 100} {
		m := leaver("a", 1, 0, maxTick)
		got, code := impl.StripAdd(impl.StripBook{Now: now, Shift: 3}, m)
		want := impl.StripBook{Now: now, Shift: 3, Moves: []impl.StripMove{m}, Ticks: []int{now + freeze}}
		if code != 0 || !sameBook(got, want) {
			t.Errorf("Now %d: %v, code %d", now, got, code)
		}
	}
}

// The plan puts an Est up to Now + StripFreeze; the moves keep their own.
func TestAddAtAnEstThatThePlanPutsAtLateAndAboveIt(t *testing.T) {
	const now = 10
	b := impl.StripBook{Now: now}
	for est := now; est <= now+freeze; est++ {
		m := leaver("a", 1, est, now+freeze)
		got, code := impl.StripAdd(b, m)
		if code != 0 || !slices.Equal(got.Ticks, []int{now + freeze}) || !slices.Equal(got.Moves, []impl.StripMove{m}) {
			t.Errorf("Est %d, Late %d: %v, code %d", m.Est, m.Late, got, code)
		}
	}
	for late := 0; late < now+freeze; late++ {
		got, code := impl.StripAdd(b, leaver("a", 1, 0, late))
		stays(t, fmt.Sprintf("Late %d", late), b, got, code, 5)
	}
	got, code := impl.StripAdd(b, leaver("a", 1, now+freeze+1, now+freeze+1))
	if code != 0 || !slices.Equal(got.Ticks, []int{now + freeze + 1}) {
		t.Errorf("above it: %v, code %d", got, code)
	}
}

func TestAddNearTheLastTick(t *testing.T) {
	m := leaver("a", 1, 0, maxTick)
	if got, code := impl.StripAdd(impl.StripBook{Now: maxTick - freeze}, m); code != 0 || !slices.Equal(got.Ticks, []int{maxTick}) {
		t.Errorf("%v, code %d", got, code)
	}
	for _, now := range []int{maxTick - freeze + 1, maxTick} {
		b := impl.StripBook{Now: now}
		got, code := impl.StripAdd(b, m)
		stays(t, "behind it", b, got, code, 5)
	}
	m.Lands = true
	b := impl.StripBook{Now: maxTick - freeze - roundT}
	if got, code := impl.StripAdd(b, m); code != 0 || !slices.Equal(got.Ticks, []int{maxTick - roundT}) {
		t.Errorf("lands: %v, code %d", got, code)
	}
	b.Now++
	got, code := impl.StripAdd(b, m)
	stays(t, "lands behind it", b, got, code, 6)
}

func TestAddInOrder(t *testing.T) {
	names := []string{"c", "a", "e", "0", "-", "cc"}
	b := impl.StripBook{Shift: 6}
	for i, name := range names {
		b = added(t, b, leaver(name, 1, 10, 100))
		got := make([]string, 0)
		for _, m := range b.Moves {
			got = append(got, m.Name)
		}
		want := slices.Clone(names[:i+1])
		slices.Sort(want)
		if !slices.Equal(got, want) {
			t.Errorf("%v, want %v", got, want)
		}
	}
	// With all as good, the first by the ticks.
	if !slices.Equal(b.Ticks, []int{10, 11, 12, 13, 14, 15}) {
		t.Errorf("ticks %v", b.Ticks)
	}
}

// Who comes in may move who is not promised, and nobody who is.
func TestAddMovesWhoIsNotPromised(t *testing.T) {
	b := added(t, impl.StripBook{Shift: 2}, lander("k", 2, 5, 20))
	if !slices.Equal(b.Ticks, []int{5}) {
		t.Fatalf("%v", b)
	}
	moved := added(t, b, leaver("l", 1, 5, 20))
	if !slices.Equal(moved.Ticks, []int{6, 5}) {
		t.Errorf("not promised: %v", moved)
	}
	b = later(t, b, 2)
	held := added(t, b, leaver("l", 1, 5, 20))
	if !slices.Equal(held.Ticks, []int{5, 8}) || held.Moves[0].Promise != 5 || held.Moves[1].Promise != -1 {
		t.Errorf("promised: %v", held)
	}
}

// The Shift of the book is that of its plans.
func TestAddTakesTheShift(t *testing.T) {
	for shift, want := range [][]int{{10, 14, 16}, {12, 10, 15}, {13, 10, 12}, {13, 10, 12}} {
		list := threeMoves()
		b := impl.StripBook{Shift: shift}
		for i, m := range list {
			m.Est, m.Late = m.Est+5, maxTick
			list[i] = m
		}
		b = added(t, b, list...)
		if !slices.Equal(b.Ticks, want) {
			t.Errorf("Shift %d: %v, want %v", shift, b.Ticks, want)
		}
	}
}

func TestAddRefusesMoves(t *testing.T) {
	b := added(t, impl.StripBook{Shift: 2}, leaver("b", 1, 10, 40))
	good := leaver("a", 1, 10, 40)
	spoilt := func(spoil func(m *impl.StripMove)) impl.StripMove {
		m := good
		spoil(&m)
		return m
	}
	cases := map[string]impl.StripMove{
		"nothing":             {},
		"no name":             spoilt(func(m *impl.StripMove) { m.Name = "" }),
		"a long name":         spoilt(func(m *impl.StripMove) { m.Name = "123456789" }),
		"a very long name":    spoilt(func(m *impl.StripMove) { m.Name = strings.Repeat("a", 1000000) }),
		"a bad name":          spoilt(func(m *impl.StripMove) { m.Name = "a\x00" }),
		"a big letter":        spoilt(func(m *impl.StripMove) { m.Name = "A" }),
		"the wake 0":          spoilt(func(m *impl.StripMove) { m.Wake = 0 }),
		"the wake 4":          spoilt(func(m *impl.StripMove) { m.Wake = 4 }),
		"Est -1":              spoilt(func(m *impl.StripMove) { m.Est = -1 }),
		"Est above Late":      spoilt(func(m *impl.StripMove) { m.Est = 41 }),
		"Late above the last": spoilt(func(m *impl.StripMove) { m.Late = maxTick + 1 }),
		"far":                 spoilt(func(m *impl.StripMove) { m.Est, m.Late = math.MinInt, math.MaxInt }),
		"a promise":           spoilt(func(m *impl.StripMove) { m.Promise = 10 }),
		"a promise at 0":      {Name: "a", Wake: 1, Est: 0, Late: 40, Promise: 0},
		"the promise -2":      spoilt(func(m *impl.StripMove) { m.Promise = -2 }),
		"a promise far off":   spoilt(func(m *impl.StripMove) { m.Promise = math.MaxInt }),
		// Ahead of the codes that come behind.
		"a promise, and a name that is there":  spoilt(func(m *impl.StripMove) { m.Name, m.Promise = "b", 10 }),
		"a wake, and a name that is there":     spoilt(func(m *impl.StripMove) { m.Name, m.Wake = "b", 0 }),
		"a promise, where there is no plan":    {Name: "a", Wake: 1, Est: 0, Late: 2, Promise: 1},
		"a promise, and lands with none to go": {Name: "a", Lands: true, Wake: 1, Est: 10, Late: 11, Promise: 10},
	}
	for what, m := range cases {
		got, code := impl.StripAdd(b, m)
		stays(t, what, b, got, code, 2)
		six := sixBook()
		got, code = impl.StripAdd(six, m)
		stays(t, what+", with six", six, got, code, 2)
	}
	// It is the promise alone that is refused, not the tick.
	if got, code := impl.StripAdd(b, good); code != 0 || !slices.Equal(got.Ticks, []int{10, 11}) {
		t.Errorf("%v, code %d", got, code)
	}
}

func TestAddANameThatIsThere(t *testing.T) {
	b := added(t, impl.StripBook{Shift: 2}, leaver("b", 1, 10, 40), leaver("d", 1, 10, 40))
	for _, name := range []string{"b", "d"} {
		got, code := impl.StripAdd(b, lander(name, 3, 20, 90))
		stays(t, name, b, got, code, 3)
		// Ahead of there being no plan, and of a book that is not sure.
		got, code = impl.StripAdd(b, leaver(name, 1, 0, 2))
		stays(t, name+" without a plan", b, got, code, 3)
		got, code = impl.StripAdd(b, lander(name, 1, 20, 21))
		stays(t, name+" not sure", b, got, code, 3)
	}
	for _, name := range []string{"a", "bb", "c", "e", "-"} {
		if got, code := impl.StripAdd(b, leaver(name, 1, 10, 40)); code != 0 || len(got.Moves) != 3 {
			t.Errorf("%s: %v, code %d", name, got, code)
		}
	}
}

func TestAddToTheMostMoves(t *testing.T) {
	b := sixBook()
	got, code := impl.StripAdd(b, leaver("a", 1, 10, 40))
	stays(t, "one more", b, got, code, 4)
	got, code = impl.StripAdd(b, leaver("b", 1, 10, 40))
	stays(t, "one more whose name is there", b, got, code, 3)
	got, code = impl.StripAdd(b, leaver("z", 1, 0, 2))
	stays(t, "one more for whom there is no plan", b, got, code, 4)
	got, code = impl.StripAdd(b, lander("z", 1, 20, 20))
	stays(t, "one more with whom it is not sure", b, got, code, 4)
	five, code := impl.StripDrop(b, "g")
	if code != 0 {
		t.Fatalf("code %d", code)
	}
	if got, code = impl.StripAdd(five, leaver("a", 1, 10, 40)); code != 0 || len(got.Moves) != 6 {
		t.Errorf("the sixth: %v, code %d", got, code)
	}
}

func TestAddWithoutAPlan(t *testing.T) {
	// The runway is blocked by a, promised 10, from 10 to 13.
	b := bookOf(8, []int{10}, withPromise(lander("a", 3, 5, 40), 10))
	for late := 12; late <= 13; late++ {
		got, code := impl.StripAdd(b, leaver("b", 1, 11, late))
		stays(t, "blocked", b, got, code, 5)
	}
	if got, code := impl.StripAdd(b, leaver("b", 1, 11, 14)); code != 0 || !slices.Equal(got.Ticks, []int{10, 14}) {
		t.Errorf("%v, code %d", got, code)
	}
	// Without a plan it is not asked whether it would be sure.
	got, code := impl.StripAdd(b, lander("b", 1, 11, 13))
	stays(t, "blocked and not sure", b, got, code, 5)
	// No plan within the Shift, though one with more.
	b = impl.StripBook{Shift: 0}
	b = added(t, b, leaver("b", 1, 20, 20))
	got, code = impl.StripAdd(b, leaver("a", 1, 20, 30))
	stays(t, "the Shift 0", b, got, code, 5)
	b.Shift = 1
	if got, code = impl.StripAdd(b, leaver("a", 1, 20, 30)); code != 0 || !slices.Equal(got.Ticks, []int{21, 20}) {
		t.Errorf("the Shift 1: %v, code %d", got, code)
	}
}

func TestAddNotSure(t *testing.T) {
	b := impl.StripBook{Shift: 2}
	got, code := impl.StripAdd(b, lander("a", 1, 10, 15))
	stays(t, "who comes has none to go", b, got, code, 6)
	if got, code = impl.StripAdd(b, lander("a", 1, 10, 16)); code != 0 || !slices.Equal(got.Ticks, []int{10}) {
		t.Errorf("%v, code %d", got, code)
	}
	// With b at 16, a could not come again there.
	b = added(t, b, lander("a", 1, 10, 16))
	got, code = impl.StripAdd(b, leaver("b", 1, 16, 16))
	stays(t, "who is there has none to go", b, got, code, 6)
	if got, code = impl.StripAdd(b, leaver("b", 1, 16, 18)); code != 0 || !slices.Equal(got.Ticks, []int{10, 16}) {
		t.Errorf("%v, code %d", got, code)
	}
}
