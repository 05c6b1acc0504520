package tests

import (
	"slices"
	"testing"

	"loop.example/lapstrip/impl"
)

// Promise 6: StripOrder's ticks come in the order and fit, and none can be earlier by itself, the others and the order staying.
func TestPromise6(t *testing.T) {
	d := dice(8)
	tried := 0
	for n := range impl.StripMaxMoves {
		for range 60 {
			list := d.someMoves(n)
			for _, order := range eachOrder(n) {
				ticks, ok := impl.StripOrder(list, order)
				if !ok {
					continue
				}
				tried++
				if !slices.Equal(byTicks(ticks), order) {
					t.Fatalf("%v: %v do not come in the order %v", list, ticks, order)
				}
				if !impl.StripFits(list, ticks) || !fitsPlainly(list, ticks) {
					t.Fatalf("%v: %v do not fit", list, ticks)
				}
				noneCanBeEarlier(t, list, ticks, order)
			}
		}
	}
	if tried < 1000 {
		t.Errorf("%d orders are too few to tell", tried)
	}
}

func noneCanBeEarlier(t *testing.T, list []impl.StripMove, ticks, order []int) {
	t.Helper()
	for i := range ticks {
		for tick := list[i].Est; tick < ticks[i]; tick++ {
			earlier := slices.Clone(ticks)
			earlier[i] = tick
			if fitsPlainly(list, earlier) && slices.Equal(byTicks(earlier), order) {
				t.Fatalf("%v in the order %v: %v can be %v", list, order, ticks, earlier)
			}
		}
	}
}

// Promise 6, what a false is worth: no ticks that fit come in that order.
func TestPromise6WhatCannotBe(t *testing.T) {
	d := dice(9)
	const last = 13
	none := 0
	for range 60 {
		list := d.someMoves(3)
		for i := range list {
			list[i].Late = min(list[i].Late, last-1)
			if list[i].Promise > list[i].Late {
				list[i].Promise = list[i].Late
			}
		}
		can := map[[3]int]int{}
		for k := range last * last * last {
			ticks := []int{k % last, k / last % last, k / last / last}
			if fitsPlainly(list, ticks) {
				can[[3]int(byTicks(ticks))]++
			}
		}
		for _, order := range eachOrder(3) {
			_, ok := impl.StripOrder(list, order)
			if ok != (can[[3]int(order)] > 0) {
				t.Fatalf("%v in the order %v: %v, and %d ticks fit", list, order, ok, can[[3]int(order)])
			}
			if !ok {
				none++
			}
		}
	}
	if none == 0 {
		t.Error("each order can be, so nothing was tried")
	}
}
