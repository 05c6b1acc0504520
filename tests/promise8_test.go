package tests

import (
	"testing"

	"loop.example/lapstrip/impl"
)

// Promise 8: StripShift goes both ways.
func TestPromise8(t *testing.T) {
	for n := range impl.StripMaxMoves {
		for _, a := range eachOrder(n) {
			for _, b := range eachOrder(n) {
				if impl.StripShift(a, b) != impl.StripShift(b, a) {
					t.Fatalf("%v and %v: %d one way and %d the other", a, b, impl.StripShift(a, b), impl.StripShift(b, a))
				}
			}
		}
	}
}

// Promise 8, of any lists: what is no order is none on either side.
func TestPromise8OfAnyLists(t *testing.T) {
	lists := [][]int{nil}
	for n := 1; n <= 3; n++ {
		for k := range 5 * 5 * 5 {
			lists = append(lists, []int{k%5 - 1, k/5%5 - 1, k/25 - 1}[:n])
		}
	}
	for _, a := range lists {
		for _, b := range lists {
			if impl.StripShift(a, b) != impl.StripShift(b, a) {
				t.Fatalf("%v and %v: %d one way and %d the other", a, b, impl.StripShift(a, b), impl.StripShift(b, a))
			}
		}
	}
}
