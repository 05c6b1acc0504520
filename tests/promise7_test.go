package tests

import (
	"testing"

	"loop.example/lapstrip/impl"
)

// Promise 7: the gap of a and c is at most those of a and b and of b and c together.
func TestPromise7Gaps(t *testing.T) {
	for _, a := range eachKind() {
		for _, b := range eachKind() {
			for _, c := range eachKind() {
				if impl.StripGap(a, c) > impl.StripGap(a, b)+impl.StripGap(b, c) {
					t.Errorf("%v, %v, %v: %d is more than %d and %d", a, b, c, impl.StripGap(a, c), impl.StripGap(a, b), impl.StripGap(b, c))
				}
			}
		}
	}
}

// Promise 7, what it is for: if all who follow each other are just far enough apart, all fit.
func TestPromise7NeighboursAreEnough(t *testing.T) {
	kinds := eachKind()
	n := len(kinds)
	for k := range n * n * n * n {
		list := []impl.StripMove{kinds[k%n], kinds[k/n%n], kinds[k/n/n%n], kinds[k/n/n/n]}
		ticks := make([]int, len(list))
		for i := range list {
			list[i].Name = string(rune('a' + i))
			if i > 0 {
				ticks[i] = ticks[i-1] + impl.StripGap(list[i-1], list[i])
			}
		}
		if !impl.StripFits(list, ticks) {
			t.Fatalf("%v at %v do not fit", list, ticks)
		}
		for i := 1; i < len(list); i++ {
			nearer := append([]int(nil), ticks...)
			for j := i; j < len(list); j++ {
				nearer[j]--
			}
			if impl.StripFits(list, nearer) {
				t.Fatalf("%v at %v fit", list, nearer)
			}
		}
	}
}
