package tests

import (
	"math"
	"slices"

	"loop.example/lapstrip/impl"
)

// farInts are the whole numbers at which sums and differences wrap round.
var farInts = []int{math.MinInt, math.MinInt + 1, math.MaxInt - 1, math.MaxInt}

// plainMove is ok, leaves, and has no promise.
func plainMove() impl.StripMove {
	return impl.StripMove{Name: "a", Wake: 1, Est: 5, Late: 9, Promise: -1}
}

// wideMove is ok and may come at any tick.
func wideMove(name string, lands bool, wake int) impl.StripMove {
	return impl.StripMove{Name: name, Lands: lands, Wake: wake, Est: 0, Late: impl.StripMaxTick, Promise: -1}
}

// eachKind is one move of each kind that the gap tells apart.
func eachKind() []impl.StripMove {
	var out []impl.StripMove
	for wake := 1; wake <= impl.StripMaxWake; wake++ {
		out = append(out, wideMove("k", false, wake), wideMove("k", true, wake))
	}
	return out
}

// dice gives the same numbers at every run, so that a test that fails can be run again.
type dice uint64

// below is a number from 0 to n - 1.
func (d *dice) below(n int) int {
	*d = *d*6364136223846793005 + 1442695040888963407
	return int(uint64(*d)>>33) % n
}

// someMoves is n moves that are ok together and want about the same ticks; about one of five has a promise.
func (d *dice) someMoves(n int) []impl.StripMove {
	list := make([]impl.StripMove, n)
	for i := range list {
		m := wideMove(string(rune('a'+i)), d.below(2) == 0, 1+d.below(impl.StripMaxWake))
		m.Est = d.below(2 * n)
		m.Late = m.Est + d.below(5*n)
		if d.below(5) == 0 {
			m.Promise = m.Est + d.below(m.Late-m.Est+1)
		}
		list[i] = m
	}
	return list
}

// eachOrder is all orders of n.
func eachOrder(n int) [][]int {
	if n == 0 {
		return [][]int{{}}
	}
	var out [][]int
	for _, shorter := range eachOrder(n - 1) {
		for at := range n {
			out = append(out, slices.Insert(slices.Clone(shorter), at, n-1))
		}
	}
	return out
}

// upset writes into all of a list, its spare room too.
func upset(list []int) {
	all := list[:cap(list)]
	for i := range all {
		all[i] = -12345
	}
}
