package tests

import (
	"math"

	"loop.example/lapstrip/impl"
)

// farInts are the whole numbers at which sums and differences wrap round.
var farInts = []int{math.MinInt, math.MinInt + 1, math.MaxInt - 1, math.MaxInt}

// plainMove is ok, leaves, and has no promise.
func plainMove() impl.StripMove {
	return impl.StripMove{Name: "a", Wake: 1, Est: 5, Late: 9, Promise: -1}
}

// wideMove is ok and may come at any tick.
func wideMove(name string, lands bool, wake int) impl.StripMove {
	return impl.StripMove{Name: name, Lands: lands, Wake: wake, Est: 0, Late: impl.StripMaxTick, Promise: -1}
}

// eachKind is one move of each kind that the gap tells apart.
func eachKind() []impl.StripMove {
	var out []impl.StripMove
	for wake := 1; wake <= impl.StripMaxWake; wake++ {
		out = append(out, wideMove("k", false, wake), wideMove("k", true, wake))
	}
	return out
}
