package tests

import (
	"math"
	"slices"
	"testing"

	"loop.example/lapstrip/impl"
)

// between counts, one by one, the ticks that the document asks for behind a, ahead of b.
func between(a, b impl.StripMove) int {
	n := 1
	if a.Lands {
		n++
	}
	for wake := b.Wake; wake < a.Wake; wake++ {
		n++
	}
	return n
}

// fitsPlainly is the document's sentence for moves that are ok together, with a tick for each.
func fitsPlainly(list []impl.StripMove, ticks []int) bool {
	for i, a := range list {
		if ticks[i] < a.Est || ticks[i] > a.Late || a.Promise != -1 && ticks[i] != a.Promise {
			return false
		}
		for j, b := range list {
			if i != j && (ticks[i] == ticks[j] || ticks[i] < ticks[j] && ticks[j] < ticks[i]+between(a, b)) {
				return false
			}
		}
	}
	return true
}

func TestFitsOfNone(t *testing.T) {
	if !impl.StripFits(nil, nil) || !impl.StripFits([]impl.StripMove{}, []int{}) || !impl.StripFits(nil, []int{}) {
		t.Error("no ticks do not fit no moves")
	}
	if impl.StripFits(nil, []int{0}) {
		t.Error("a tick fits no moves")
	}
	if sum, most := impl.StripCost(nil, nil); sum != 0 || most != 0 {
		t.Errorf("none cost %d and %d", sum, most)
	}
}

func TestFitsOne(t *testing.T) {
	cases := []struct {
		promise, tick int
		ok            bool
	}{
		{-1, 4, false},
		{-1, 5, true},
		{-1, 7, true},
		{-1, 9, true},
		{-1, 10, false},
		{-1, -1, false},
		{5, 5, true},
		{5, 6, false},
		{7, 6, false},
		{7, 7, true},
		{7, 8, false},
		{9, 9, true},
		{9, 8, false},
		{9, 10, false},
		{-1, math.MinInt, false},
		{-1, math.MaxInt, false},
		{7, math.MinInt, false},
	}
	for _, c := range cases {
		m := plainMove()
		m.Promise = c.promise
		if impl.StripFits([]impl.StripMove{m}, []int{c.tick}) != c.ok {
			t.Errorf("promise %d, tick %d: want %v", c.promise, c.tick, c.ok)
		}
	}
}

func TestFitsPromiseAtTickZero(t *testing.T) {
	m := wideMove("a", true, 1)
	m.Promise = 0
	list := []impl.StripMove{m}
	if !impl.StripFits(list, []int{0}) || impl.StripFits(list, []int{1}) {
		t.Error("a promise of the tick 0 is not kept")
	}
}

func TestFitsAtTheLastTick(t *testing.T) {
	list := []impl.StripMove{wideMove("a", true, 3), wideMove("b", false, 1)}
	if !impl.StripFits(list, []int{9996, 10000}) {
		t.Error("the last tick does not fit")
	}
	if impl.StripFits(list, []int{9997, 10001}) {
		t.Error("a tick behind the last one fits")
	}
}

func TestFitsAsksForATickEach(t *testing.T) {
	list := []impl.StripMove{wideMove("a", false, 1), wideMove("b", false, 1)}
	for n := range 5 {
		ticks := make([]int, n)
		for i := range ticks {
			ticks[i] = 10 * i
		}
		if impl.StripFits(list, ticks) != (n == 2) {
			t.Errorf("%d ticks for 2 moves", n)
		}
		sum, most := impl.StripCost(list, ticks)
		if n != 2 && (sum != 0 || most != 0) {
			t.Errorf("%d ticks for 2 moves cost %d and %d", n, sum, most)
		}
	}
	if impl.StripFits(list, nil) {
		t.Error("no ticks fit 2 moves")
	}
}

func TestFitsEveryTwo(t *testing.T) {
	for _, a := range eachKind() {
		for _, b := range eachKind() {
			a.Name, b.Name = "a", "b"
			list := []impl.StripMove{a, b}
			for tick := range 21 {
				want := tick >= 10+between(a, b) || tick <= 10-between(b, a)
				if impl.StripFits(list, []int{10, tick}) != want {
					t.Errorf("%v at 10, %v at %d: want %v", a, b, tick, want)
				}
			}
		}
	}
}

func TestFitsTheSameTick(t *testing.T) {
	a, b := wideMove("a", false, 1), wideMove("b", false, 3)
	if impl.StripFits([]impl.StripMove{a, b}, []int{7, 7}) {
		t.Error("two at one tick fit")
	}
	a.Promise, b.Promise = 7, 7
	if impl.StripFits([]impl.StripMove{a, b}, []int{7, 7}) {
		t.Error("two promised one tick fit")
	}
	c := wideMove("c", true, 1)
	if impl.StripFits([]impl.StripMove{wideMove("a", false, 1), wideMove("b", false, 1), c}, []int{7, 20, 7}) {
		t.Error("the first and the last of three at one tick fit")
	}
}

func TestFitsAsksThoseWhoAreNoNeighboursInTheList(t *testing.T) {
	list := []impl.StripMove{
		wideMove("a", true, 3), wideMove("b", false, 1), wideMove("c", false, 1),
		wideMove("d", false, 1), wideMove("e", false, 1), wideMove("f", false, 1),
	}
	far := []int{100, 200, 300, 400, 500, 600}
	if !impl.StripFits(list, far) {
		t.Fatal("ticks far from each other do not fit")
	}
	for i := range list {
		for j := range list {
			if i == j {
				continue
			}
			near := slices.Clone(far)
			near[j] = near[i] + between(list[i], list[j])
			if !impl.StripFits(list, near) {
				t.Errorf("%d just far enough behind %d does not fit", j, i)
			}
			near[j]--
			if impl.StripFits(list, near) {
				t.Errorf("%d one tick too near behind %d fits", j, i)
			}
		}
	}
}

func TestFitsAsksWhetherTheMovesAreOkTogether(t *testing.T) {
	a, b := wideMove("a", false, 1), wideMove("b", false, 1)
	bad := b
	bad.Wake = 4
	seven := make([]impl.StripMove, 7)
	sevenTicks := make([]int, 7)
	for i := range seven {
		seven[i] = wideMove(string(rune('a'+i)), false, 1)
		sevenTicks[i] = 10 * i
	}
	cases := []struct {
		list  []impl.StripMove
		ticks []int
	}{
		{[]impl.StripMove{b, a}, []int{10, 20}},
		{[]impl.StripMove{a, a}, []int{10, 20}},
		{[]impl.StripMove{a, bad}, []int{10, 20}},
		{[]impl.StripMove{{}}, []int{0}},
		{seven, sevenTicks},
	}
	for i, c := range cases {
		if impl.StripFits(c.list, c.ticks) {
			t.Errorf("case %d fits", i)
		}
		if sum, most := impl.StripCost(c.list, c.ticks); sum != 0 || most != 0 {
			t.Errorf("case %d costs %d and %d", i, sum, most)
		}
	}
	if !impl.StripFits(seven[:6], sevenTicks[:6]) {
		t.Error("six moves do not fit")
	}
}

func TestFitsOfFarTicks(t *testing.T) {
	list := []impl.StripMove{wideMove("a", true, 3), wideMove("b", true, 1)}
	for _, x := range append([]int{0, 5000}, farInts...) {
		for _, y := range farInts {
			for _, ticks := range [][]int{{x, y}, {y, x}} {
				sum, most := impl.StripCost(list, ticks)
				if impl.StripFits(list, ticks) || sum != 0 || most != 0 {
					t.Errorf("ticks %v fit, or cost %d and %d", ticks, sum, most)
				}
			}
		}
	}
}

func TestFitsAndCostOfAllThreesOfTicks(t *testing.T) {
	list := []impl.StripMove{
		{Name: "a", Lands: true, Wake: 3, Est: 1, Late: 9, Promise: -1},
		{Name: "b", Wake: 2, Est: 0, Late: 8, Promise: -1},
		{Name: "c", Lands: true, Wake: 1, Est: 2, Late: 10, Promise: -1},
	}
	for _, promise := range []int{-1, 1, 4, 9} {
		list[0].Promise = promise
		fitting := 0
		for n := range 13 * 13 * 13 {
			ticks := []int{n%13 - 1, n/13%13 - 1, n/169 - 1}
			want := fitsPlainly(list, ticks)
			if impl.StripFits(list, ticks) != want {
				t.Fatalf("promise %d, ticks %v: want %v", promise, ticks, want)
			}
			wantSum, wantMost := 0, 0
			if want {
				fitting++
				lates := []int{ticks[0] - 1, ticks[1], ticks[2] - 2}
				wantSum, wantMost = lates[0]+lates[1]+lates[2], slices.Max(lates)
			}
			if sum, most := impl.StripCost(list, ticks); sum != wantSum || most != wantMost {
				t.Fatalf("promise %d, ticks %v: cost %d and %d, want %d and %d", promise, ticks, sum, most, wantSum, wantMost)
			}
		}
		if fitting == 0 {
			t.Errorf("promise %d: nothing fits, so the cost was not tried", promise)
		}
	}
}

func TestCost(t *testing.T) {
	a := impl.StripMove{Name: "a", Wake: 1, Est: 5, Late: 20, Promise: -1}
	b := impl.StripMove{Name: "b", Lands: true, Wake: 2, Est: 5, Late: 20, Promise: -1}
	c := impl.StripMove{Name: "c", Wake: 3, Est: 0, Late: 20, Promise: 12}
	all := wideMove("a", false, 1)
	cases := []struct {
		list      []impl.StripMove
		ticks     []int
		sum, most int
	}{
		{[]impl.StripMove{a}, []int{5}, 0, 0},
		{[]impl.StripMove{a}, []int{20}, 15, 15},
		{[]impl.StripMove{a}, []int{21}, 0, 0},
		{[]impl.StripMove{a}, []int{4}, 0, 0},
		{[]impl.StripMove{a, b}, []int{5, 6}, 1, 1},
		{[]impl.StripMove{a, b}, []int{8, 5}, 3, 3},
		{[]impl.StripMove{a, b}, []int{7, 5}, 0, 0},
		{[]impl.StripMove{a, b}, []int{9, 6}, 5, 4},
		{[]impl.StripMove{a, b, c}, []int{9, 6, 12}, 17, 12},
		{[]impl.StripMove{a, b, c}, []int{9, 6, 13}, 0, 0},
		{[]impl.StripMove{a, b, c}, []int{20, 6, 12}, 28, 15},
		{[]impl.StripMove{all}, []int{10000}, 10000, 10000},
		{[]impl.StripMove{a, b}, []int{5, 5}, 0, 0},
	}
	for i, k := range cases {
		if sum, most := impl.StripCost(k.list, k.ticks); sum != k.sum || most != k.most {
			t.Errorf("case %d: cost %d and %d, want %d and %d", i, sum, most, k.sum, k.most)
		}
	}
}

func TestNothingIsWrittenIntoArguments(t *testing.T) {
	list := []impl.StripMove{wideMove("a", true, 3), wideMove("b", false, 1), wideMove("c", true, 2), {Name: "spare"}}
	ticks := []int{30, 10, 20, -7}
	listWas, ticksWas := slices.Clone(list), slices.Clone(ticks)
	impl.StripMovesOk(list[:3])
	impl.StripFits(list[:3], ticks[:3])
	impl.StripCost(list[:3], ticks[:3])
	if !slices.Equal(list, listWas) || !slices.Equal(ticks, ticksWas) {
		t.Error("an argument, or what is behind its end, was changed")
	}
}
