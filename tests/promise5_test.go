package tests

import (
	"slices"
	"testing"

	"loop.example/lapstrip/impl"
)

// Promise 5: what StripBest answers fits, and no order that may be has ticks that cost less.
func TestPromise5NoOrderCostsLess(t *testing.T) {
	d := dice(5)
	for n := range impl.StripMaxMoves {
		for range 60 {
			list := d.someMoves(n)
			first := impl.StripFirst(list)
			for shift := range impl.StripMaxMoves + 1 {
				best, ok := impl.StripBest(list, shift)
				if ok && !impl.StripFits(list, best) {
					t.Fatalf("%v at %v do not fit", list, best)
				}
				for _, order := range eachOrder(n) {
					if impl.StripShift(order, first) > shift {
						continue
					}
					ticks, may := impl.StripOrder(list, order)
					if may && (!ok || better(list, ticks, best)) {
						t.Fatalf("%v with the shift %d: %v is better than %v", list, shift, ticks, best)
					}
				}
			}
		}
	}
}

// Promise 5, for any ticks whatever: of all that fit and come in an order that may be, StripBest's are the best.
func TestPromise5NoTicksCostLess(t *testing.T) {
	d := dice(6)
	const last = 13
	for range 60 {
		list := d.someMoves(3)
		for i := range list {
			list[i].Late = min(list[i].Late, last-1)
			if list[i].Promise > list[i].Late {
				list[i].Promise = list[i].Late
			}
		}
		first := firstPlainly(list)
		for shift := range 3 {
			var want []int
			found := false
			for k := range last * last * last {
				ticks := []int{k % last, k / last % last, k / last / last}
				if !fitsPlainly(list, ticks) || shiftPlainly(byTicks(ticks), first) > shift {
					continue
				}
				if !found || better(list, ticks, want) {
					want, found = ticks, true
				}
			}
			if best, ok := impl.StripBest(list, shift); ok != found || !slices.Equal(best, want) {
				t.Fatalf("%v with the shift %d: %v and %v, want %v and %v", list, shift, best, ok, want, found)
			}
		}
	}
}

// byTicks is the order in which different ticks come.
func byTicks(ticks []int) []int {
	order := make([]int, len(ticks))
	for i, a := range ticks {
		ahead := 0
		for _, b := range ticks {
			if b < a {
				ahead++
			}
		}
		order[ahead] = i
	}
	return order
}

// Promise 5: with more shift it costs no more, and what can be with less can be.
func TestPromise5MoreShiftCostsNoMore(t *testing.T) {
	d := dice(7)
	less := 0
	for range 200 {
		list := d.someMoves(d.below(impl.StripMaxMoves + 1))
		before, can := impl.StripBest(list, 0)
		for shift := 1; shift <= impl.StripMaxMoves; shift++ {
			ticks, ok := impl.StripBest(list, shift)
			if can && !ok {
				t.Fatalf("%v: the shift %d finds nothing, one less does", list, shift)
			}
			if can {
				sum, most := impl.StripCost(list, ticks)
				sumBefore, mostBefore := impl.StripCost(list, before)
				if sum > sumBefore || sum == sumBefore && most > mostBefore {
					t.Fatalf("%v: the shift %d costs %d and %d, one less %d and %d", list, shift, sum, most, sumBefore, mostBefore)
				}
				if sum < sumBefore {
					less++
				}
			}
			before, can = ticks, ok
		}
	}
	if less == 0 {
		t.Error("no shift was of use, so nothing was tried")
	}
}
