package tests

import (
	"math"
	"slices"
	"testing"

	"loop.example/lapstrip/impl"
)

// comesFirst is the document's sentence about two moves at the places i and j.
func comesFirst(list []impl.StripMove, i, j int) bool {
	tick := func(m impl.StripMove) int {
		if m.Promise >= 0 {
			return m.Promise
		}
		return m.Est
	}
	a, b := list[i], list[j]
	if tick(a) != tick(b) {
		return tick(a) < tick(b)
	}
	if a.Name != b.Name {
		return a.Name < b.Name
	}
	return i < j
}

// firstPlainly puts each place behind as many as come first.
func firstPlainly(list []impl.StripMove) []int {
	out := make([]int, len(list))
	for i := range list {
		ahead := 0
		for j := range list {
			if comesFirst(list, j, i) {
				ahead++
			}
		}
		out[ahead] = i
	}
	return out
}

// orderPlainly goes up tick by tick, for moves that are ok together and an order of them.
func orderPlainly(list []impl.StripMove, order []int) ([]int, bool) {
	ticks := make([]int, len(list))
	for i, place := range order {
		tick := list[place].Est
		for blocked(list, ticks, order[:i], place, tick) {
			tick++
		}
		if p := list[place].Promise; p != -1 {
			if tick > p {
				return nil, false
			}
			tick = p
		}
		if tick > list[place].Late {
			return nil, false
		}
		ticks[place] = tick
	}
	return ticks, true
}

func blocked(list []impl.StripMove, ticks []int, ahead []int, place, tick int) bool {
	for _, k := range ahead {
		if tick < ticks[k]+between(list[k], list[place]) {
			return true
		}
	}
	return false
}

// shiftPlainly needs two orders of one size.
func shiftPlainly(a, b []int) int {
	most := 0
	for x := range a {
		by := slices.Index(a, x) - slices.Index(b, x)
		if by < 0 {
			by = -by
		}
		if by > most {
			most = by
		}
	}
	return most
}

func TestFirst(t *testing.T) {
	move := func(name string, est, promise int) impl.StripMove {
		return impl.StripMove{Name: name, Wake: 1, Est: est, Late: 100, Promise: promise}
	}
	cases := []struct {
		what string
		list []impl.StripMove
		want []int
	}{
		{"none", nil, nil},
		{"one", []impl.StripMove{move("a", 5, -1)}, []int{0}},
		{"by Est", []impl.StripMove{move("a", 7, -1), move("b", 5, -1), move("c", 6, -1)}, []int{1, 2, 0}},
		{"by Promise", []impl.StripMove{move("a", 1, 9), move("b", 2, 8), move("c", 3, 7)}, []int{2, 1, 0}},
		{"by either", []impl.StripMove{move("a", 1, 6), move("b", 5, -1), move("c", 7, -1)}, []int{1, 0, 2}},
		{"a Promise of 0", []impl.StripMove{move("a", 4, -1), move("b", 9, 0)}, []int{1, 0}},
		{"a Promise of 0 and an Est of 0", []impl.StripMove{move("a", 0, -1), move("b", 0, 0), move("c", 0, -1)}, []int{0, 1, 2}},
		{"a Promise of -1", []impl.StripMove{move("a", 4, -1), move("b", 3, -1)}, []int{1, 0}},
		{"a Promise below -1", []impl.StripMove{move("a", 4, -2), move("b", 3, math.MinInt)}, []int{1, 0}},
		{"a Promise below -1 and an Est below it", []impl.StripMove{move("a", -3, -2), move("b", -4, -9)}, []int{1, 0}},
		{"the same Est", []impl.StripMove{move("c", 5, -1), move("a", 5, -1), move("b", 5, -1)}, []int{1, 2, 0}},
		{"the same Promise", []impl.StripMove{move("b", 1, 5), move("a", 2, 5)}, []int{1, 0}},
		{"an Est that is a Promise", []impl.StripMove{move("b", 5, -1), move("a", 2, 5)}, []int{1, 0}},
		{"the same Name and Est", []impl.StripMove{move("a", 5, -1), move("a", 5, -1), move("a", 4, -1), move("a", 5, -1)}, []int{2, 0, 1, 3}},
		{"the same Name and Promise", []impl.StripMove{move("b", 9, 5), move("a", 8, 5), move("a", 7, 5)}, []int{1, 2, 0}},
		{"a Name that another one begins with", []impl.StripMove{move("ab", 5, -1), move("a", 5, -1), move("", 5, -1)}, []int{2, 1, 0}},
		{"Names byte by byte", []impl.StripMove{move("\xff", 5, -1), move("a", 5, -1), move("\u00e4", 5, -1), move("Z", 5, -1), move("-", 5, -1), move("0", 5, -1)}, []int{4, 5, 3, 1, 2, 0}},
		{"far ticks", []impl.StripMove{move("a", math.MaxInt, -1), move("b", math.MinInt, -1), move("c", 0, math.MaxInt), move("d", math.MinInt+1, -1)}, []int{1, 3, 0, 2}},
		{"what is nothing", make([]impl.StripMove, 3), []int{0, 1, 2}},
	}
	for _, c := range cases {
		if got := impl.StripFirst(c.list); !slices.Equal(got, c.want) {
			t.Errorf("%s: %v, want %v", c.what, got, c.want)
		}
	}
}

func TestFirstAsksNothingElse(t *testing.T) {
	list := []impl.StripMove{
		{Name: "b", Lands: true, Wake: 9, Est: 3, Late: -4, Promise: -1},
		{Name: "a", Wake: -9, Est: 3, Late: math.MaxInt, Promise: -1},
	}
	if got := impl.StripFirst(list); !slices.Equal(got, []int{1, 0}) {
		t.Errorf("got %v", got)
	}
}

func TestFirstOfSomeMoves(t *testing.T) {
	d := dice(3)
	names := []string{"", "a", "a", "ab", "b", "\xff", "aaaaaaaaaaaa"}
	for n := range 40 {
		for range 20 {
			list := make([]impl.StripMove, n)
			for i := range list {
				list[i] = impl.StripMove{Name: names[d.below(len(names))], Est: d.below(7) - 3, Promise: d.below(7) - 3}
			}
			if got, want := impl.StripFirst(list), firstPlainly(list); !slices.Equal(got, want) {
				t.Fatalf("%v: %v, want %v", list, got, want)
			}
		}
	}
}

func TestFirstOfVeryMany(t *testing.T) {
	list := make([]impl.StripMove, 50000)
	for i := range list {
		list[i] = impl.StripMove{Name: "a", Est: -i / 2, Promise: -1}
	}
	first := impl.StripFirst(list)
	for i := 1; i < len(first); i++ {
		if !comesFirst(list, first[i-1], first[i]) {
			t.Fatalf("%d stands ahead of %d", first[i-1], first[i])
		}
	}
}

// threeMoves is those of the document's example, a heavy one, a light one and one that leaves.
func threeMoves() []impl.StripMove {
	return []impl.StripMove{
		{Name: "a", Lands: true, Wake: 3, Est: 5, Late: 30, Promise: -1},
		{Name: "b", Lands: true, Wake: 1, Est: 5, Late: 40, Promise: -1},
		{Name: "c", Wake: 2, Est: 6, Late: 12, Promise: -1},
	}
}

func TestOrderOfNone(t *testing.T) {
	ticks, ok := impl.StripOrder(nil, nil)
	if !ok || len(ticks) != 0 {
		t.Errorf("%v, %v", ticks, ok)
	}
	if ticks, ok := impl.StripOrder(nil, []int{0}); ok || len(ticks) != 0 {
		t.Errorf("a place of none: %v, %v", ticks, ok)
	}
}

func TestOrderOfOne(t *testing.T) {
	m := plainMove()
	if ticks, ok := impl.StripOrder([]impl.StripMove{m}, []int{0}); !ok || !slices.Equal(ticks, []int{5}) {
		t.Errorf("%v, %v", ticks, ok)
	}
	m.Promise = 7
	if ticks, ok := impl.StripOrder([]impl.StripMove{m}, []int{0}); !ok || !slices.Equal(ticks, []int{7}) {
		t.Errorf("promised 7: %v, %v", ticks, ok)
	}
	m.Est, m.Promise = 0, 0
	if ticks, ok := impl.StripOrder([]impl.StripMove{m}, []int{0}); !ok || !slices.Equal(ticks, []int{0}) {
		t.Errorf("promised 0: %v, %v", ticks, ok)
	}
}

func TestOrderOfThree(t *testing.T) {
	cases := []struct {
		order []int
		want  []int
	}{
		{[]int{0, 1, 2}, []int{5, 9, 11}},
		{[]int{0, 2, 1}, []int{5, 10, 8}},
		{[]int{1, 0, 2}, []int{7, 5, 10}},
		{[]int{1, 2, 0}, []int{8, 5, 7}},
		{[]int{2, 0, 1}, []int{7, 11, 6}},
		{[]int{2, 1, 0}, []int{10, 8, 6}},
	}
	for _, c := range cases {
		if ticks, ok := impl.StripOrder(threeMoves(), c.order); !ok || !slices.Equal(ticks, c.want) {
			t.Errorf("order %v: %v and %v, want %v", c.order, ticks, ok, c.want)
		}
	}
}

// One who leaves ahead of a light one does not make it come nearer to a heavy one further ahead.
func TestOrderIsBehindEachAhead(t *testing.T) {
	list := []impl.StripMove{wideMove("a", true, 3), wideMove("b", false, 3), wideMove("c", true, 1)}
	if ticks, ok := impl.StripOrder(list, []int{0, 1, 2}); !ok || !slices.Equal(ticks, []int{0, 2, 5}) {
		t.Errorf("%v, %v", ticks, ok)
	}
	list[1].Wake = 1
	if ticks, ok := impl.StripOrder(list, []int{0, 1, 2}); !ok || !slices.Equal(ticks, []int{0, 4, 5}) {
		t.Errorf("%v, %v", ticks, ok)
	}
}

func TestOrderWithAPromise(t *testing.T) {
	cases := []struct {
		what    string
		promise [3]int
		order   []int
		want    []int
		ok      bool
	}{
		{"met exactly", [3]int{5, -1, -1}, []int{0, 1, 2}, []int{5, 9, 11}, true},
		{"met exactly behind another", [3]int{-1, 9, -1}, []int{0, 1, 2}, []int{5, 9, 11}, true},
		{"met exactly as the last", [3]int{-1, -1, 11}, []int{0, 1, 2}, []int{5, 9, 11}, true},
		{"ahead of others", [3]int{6, -1, -1}, []int{0, 1, 2}, []int{6, 10, 12}, true},
		{"ahead of others, one too late", [3]int{7, -1, -1}, []int{0, 1, 2}, nil, false},
		{"behind another, later than need be", [3]int{-1, 10, -1}, []int{0, 1, 2}, []int{5, 10, 12}, true},
		{"behind all", [3]int{20, -1, -1}, []int{1, 2, 0}, []int{20, 5, 7}, true},
		{"a least tick above it", [3]int{-1, 8, -1}, []int{0, 1, 2}, nil, false},
		{"a least tick above it as the last", [3]int{-1, -1, 10}, []int{0, 1, 2}, nil, false},
		{"at Late", [3]int{-1, -1, 12}, []int{0, 1, 2}, []int{5, 9, 12}, true},
		{"all", [3]int{8, 5, 7}, []int{1, 2, 0}, []int{8, 5, 7}, true},
		{"all, in an order they do not come in", [3]int{8, 5, 7}, []int{1, 0, 2}, nil, false},
		{"two at one tick", [3]int{9, 9, -1}, []int{2, 0, 1}, nil, false},
	}
	for _, c := range cases {
		list := threeMoves()
		for i := range list {
			list[i].Promise = c.promise[i]
		}
		if ticks, ok := impl.StripOrder(list, c.order); ok != c.ok || !slices.Equal(ticks, c.want) {
			t.Errorf("%s: %v and %v, want %v and %v", c.what, ticks, ok, c.want, c.ok)
		}
	}
}

func TestOrderAtLateAndAboveIt(t *testing.T) {
	list := threeMoves()
	order := []int{0, 1, 2}
	for i, tick := range []int{5, 9, 11} {
		exact := slices.Clone(list)
		exact[i].Late = tick
		if ticks, ok := impl.StripOrder(exact, order); !ok || ticks[i] != tick {
			t.Errorf("place %d at its Late: %v, %v", i, ticks, ok)
		}
		if tick == exact[i].Est {
			continue
		}
		exact[i].Late--
		if ticks, ok := impl.StripOrder(exact, order); ok || len(ticks) != 0 {
			t.Errorf("place %d above its Late: %v, %v", i, ticks, ok)
		}
	}
	end := []impl.StripMove{wideMove("a", false, 1), wideMove("b", false, 1)}
	end[0].Est, end[1].Est = impl.StripMaxTick-1, impl.StripMaxTick-1
	if ticks, ok := impl.StripOrder(end, []int{1, 0}); !ok || !slices.Equal(ticks, []int{impl.StripMaxTick, impl.StripMaxTick - 1}) {
		t.Errorf("up to the last tick: %v, %v", ticks, ok)
	}
	end[1].Est++
	if ticks, ok := impl.StripOrder(end, []int{1, 0}); ok || len(ticks) != 0 {
		t.Errorf("past the last tick: %v, %v", ticks, ok)
	}
}

func TestOrderAsksForAnOrder(t *testing.T) {
	cases := [][]int{
		nil,
		{},
		{0},
		{0, 1},
		{0, 1, 2, 3},
		{0, 1, 2, 0},
		{0, 0, 1},
		{0, 1, 1},
		{2, 2, 2},
		{-1, 1, 2},
		{0, 1, -1},
		{0, 1, 3},
		{3, 1, 2},
		{1, 2, 3},
		{math.MinInt, 1, 2},
		{0, 1, math.MaxInt},
		make([]int, 100000),
	}
	for _, order := range cases {
		if ticks, ok := impl.StripOrder(threeMoves(), order); ok || len(ticks) != 0 {
			t.Errorf("%d places: %v, %v", len(order), ticks, ok)
		}
	}
}

func TestOrderAsksWhetherTheMovesAreOkTogether(t *testing.T) {
	a, b := wideMove("a", false, 1), wideMove("b", false, 1)
	spoilt := func(spoil func(*impl.StripMove)) []impl.StripMove {
		m := b
		spoil(&m)
		return []impl.StripMove{a, m}
	}
	cases := [][]impl.StripMove{
		{b, a},
		{a, a},
		spoilt(func(m *impl.StripMove) { m.Name = "B" }),
		spoilt(func(m *impl.StripMove) { m.Wake = 0 }),
		spoilt(func(m *impl.StripMove) { m.Est = -1 }),
		spoilt(func(m *impl.StripMove) { m.Late = impl.StripMaxTick + 1 }),
		spoilt(func(m *impl.StripMove) { m.Promise = -2 }),
		spoilt(func(m *impl.StripMove) { m.Promise = impl.StripMaxTick + 1 }),
		spoilt(func(m *impl.StripMove) { m.Est, m.Late = math.MaxInt, math.MinInt }),
	}
	for i, list := range cases {
		if ticks, ok := impl.StripOrder(list, []int{0, 1}); ok || len(ticks) != 0 {
			t.Errorf("case %d: %v, %v", i, ticks, ok)
		}
	}
}

func TestOrderOfTheMostMovesAndOneMore(t *testing.T) {
	var list []impl.StripMove
	var order, want []int
	for i := range impl.StripMaxMoves + 1 {
		list = append(list, wideMove(string(rune('a'+i)), false, 1))
		order = append(order, i)
		want = append(want, i)
	}
	most := impl.StripMaxMoves
	if ticks, ok := impl.StripOrder(list[:most], order[:most]); !ok || !slices.Equal(ticks, want[:most]) {
		t.Errorf("%d moves: %v, %v", most, ticks, ok)
	}
	if ticks, ok := impl.StripOrder(list, order); ok || len(ticks) != 0 {
		t.Errorf("%d moves: %v, %v", most+1, ticks, ok)
	}
}

func TestOrderOfSomeMoves(t *testing.T) {
	d := dice(11)
	met, failed := 0, 0
	for n := range 6 {
		for range 60 {
			list := d.someMoves(n)
			for _, order := range eachOrder(n) {
				want, wantOk := orderPlainly(list, order)
				ticks, ok := impl.StripOrder(list, order)
				if ok != wantOk || !slices.Equal(ticks, want) {
					t.Fatalf("%v in the order %v: %v and %v, want %v and %v", list, order, ticks, ok, want, wantOk)
				}
				if ok {
					met++
				} else {
					failed++
				}
			}
		}
	}
	if met < 100 || failed < 100 {
		t.Errorf("%d orders that can be and %d that cannot are too few to tell", met, failed)
	}
}

func TestShift(t *testing.T) {
	cases := []struct {
		a, b []int
		want int
	}{
		{nil, nil, 0},
		{nil, []int{}, 0},
		{[]int{0}, []int{0}, 0},
		{[]int{0, 1}, []int{0, 1}, 0},
		{[]int{1, 0}, []int{1, 0}, 0},
		{[]int{0, 1}, []int{1, 0}, 1},
		{[]int{0, 1, 2}, []int{0, 2, 1}, 1},
		{[]int{0, 1, 2}, []int{2, 0, 1}, 2},
		{[]int{0, 1, 2}, []int{1, 2, 0}, 2},
		{[]int{2, 0, 1}, []int{0, 1, 2}, 2},
		{[]int{0, 1, 2, 3}, []int{1, 0, 3, 2}, 1},
		{[]int{2, 3, 0, 1}, []int{3, 2, 1, 0}, 1},
		{[]int{0, 1, 2, 3, 4, 5}, []int{5, 1, 2, 3, 4, 0}, 5},
		{[]int{0, 1, 2, 3, 4, 5, 6, 7}, []int{1, 2, 3, 4, 5, 6, 7, 0}, 7},
		{[]int{0}, nil, -1},
		{nil, []int{0}, -1},
		{[]int{0, 1}, []int{0}, -1},
		{[]int{0}, []int{0, 1}, -1},
		{[]int{0, 1, 2}, []int{1, 0}, -1},
		{[]int{0, 0}, []int{0, 1}, -1},
		{[]int{0, 1}, []int{0, 0}, -1},
		{[]int{1, 1}, []int{1, 1}, -1},
		{[]int{1, 2}, []int{1, 2}, -1},
		{[]int{1}, []int{1}, -1},
		{[]int{-1}, []int{-1}, -1},
		{[]int{0, -1}, []int{0, 1}, -1},
		{[]int{0, 1}, []int{0, 2}, -1},
		{[]int{math.MinInt}, []int{0}, -1},
		{[]int{0}, []int{math.MaxInt}, -1},
	}
	for _, c := range cases {
		if got := impl.StripShift(c.a, c.b); got != c.want {
			t.Errorf("%v and %v: %d, want %d", c.a, c.b, got, c.want)
		}
	}
}

func TestShiftOfAllOrders(t *testing.T) {
	for n := range 6 {
		for _, a := range eachOrder(n) {
			for _, b := range eachOrder(n) {
				if got, want := impl.StripShift(a, b), shiftPlainly(a, b); got != want {
					t.Fatalf("%v and %v: %d, want %d", a, b, got, want)
				}
			}
		}
	}
}

func TestShiftOfVeryMany(t *testing.T) {
	const n = 100000
	up, down := make([]int, n), make([]int, n)
	for i := range n {
		up[i], down[i] = i, n-1-i
	}
	if got := impl.StripShift(up, down); got != n-1 {
		t.Errorf("got %d, want %d", got, n-1)
	}
	down[n/2] = down[0]
	if got := impl.StripShift(up, down); got != -1 {
		t.Errorf("a place twice: %d", got)
	}
}

func TestOrdersLeaveTheirArguments(t *testing.T) {
	list := append(threeMoves(), impl.StripMove{Name: "spare"})
	order, other := []int{1, 2, 0, -7}, []int{2, 1, 0, -8}
	listWas, orderWas, otherWas := slices.Clone(list), slices.Clone(order), slices.Clone(other)
	first := impl.StripFirst(list[:3])
	ticks, _ := impl.StripOrder(list[:3], order[:3])
	impl.StripShift(order[:3], other[:3])
	same := func() bool {
		return slices.Equal(list, listWas) && slices.Equal(order, orderWas) && slices.Equal(other, otherWas)
	}
	if !same() {
		t.Error("an argument, or what is behind its end, was changed")
	}
	upset(first)
	upset(ticks)
	if !same() {
		t.Error("an answer shares memory with an argument")
	}
}

func TestOrdersAnswerNewMemory(t *testing.T) {
	list, order := threeMoves(), []int{1, 2, 0}
	upset(impl.StripFirst(list))
	ticks, _ := impl.StripOrder(list, order)
	upset(ticks)
	again, ok := impl.StripOrder(list, order)
	if !slices.Equal(impl.StripFirst(list), []int{0, 1, 2}) || !ok || !slices.Equal(again, []int{8, 5, 7}) {
		t.Error("two answers share memory")
	}
}

// An order may be answered back: the ticks are not laid over it.
func TestOrderOfWhatFirstAnswered(t *testing.T) {
	list := threeMoves()
	first := impl.StripFirst(list)
	ticks, ok := impl.StripOrder(list, first)
	if !ok || !slices.Equal(first, []int{0, 1, 2}) || !slices.Equal(ticks, []int{5, 9, 11}) {
		t.Errorf("%v in the order %v, %v", ticks, first, ok)
	}
}
