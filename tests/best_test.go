package tests

import (
	"math"
	"runtime"
	"slices"
	"sync"
	"testing"
	"time"

	"loop.example/lapstrip/impl"
)

// costPlainly needs a tick for each.
func costPlainly(list []impl.StripMove, ticks []int) (int, int) {
	sum, most := 0, 0
	for i, m := range list {
		late := ticks[i] - m.Est
		sum += late
		if late > most {
			most = late
		}
	}
	return sum, most
}

// better is the document's sentence about which of two ticks are taken.
func better(list []impl.StripMove, a, b []int) bool {
	sumA, mostA := costPlainly(list, a)
	sumB, mostB := costPlainly(list, b)
	if sumA != sumB {
		return sumA < sumB
	}
	if mostA != mostB {
		return mostA < mostB
	}
	return slices.Compare(a, b) < 0
}

// bestPlainly tries all orders, for moves that are ok together.
func bestPlainly(list []impl.StripMove, shift int) ([]int, bool) {
	var best []int
	found := false
	first := firstPlainly(list)
	for _, order := range eachOrder(len(list)) {
		if shiftPlainly(order, first) > shift {
			continue
		}
		ticks, ok := orderPlainly(list, order)
		if ok && (!found || better(list, ticks, best)) {
			best, found = ticks, true
		}
	}
	return best, found
}

func TestBestOfNone(t *testing.T) {
	for shift := range impl.StripMaxMoves + 1 {
		if ticks, ok := impl.StripBest(nil, shift); !ok || len(ticks) != 0 {
			t.Errorf("shift %d: %v, %v", shift, ticks, ok)
		}
	}
	for _, shift := range append([]int{-1, impl.StripMaxMoves + 1}, farInts...) {
		if ticks, ok := impl.StripBest(nil, shift); ok || len(ticks) != 0 {
			t.Errorf("shift %d: %v, %v", shift, ticks, ok)
		}
	}
}

func TestBestOfOne(t *testing.T) {
	m := plainMove()
	for _, promise := range []int{-1, 5, 7, 9} {
		m.Promise = promise
		want := max(promise, m.Est)
		if ticks, ok := impl.StripBest([]impl.StripMove{m}, 0); !ok || !slices.Equal(ticks, []int{want}) {
			t.Errorf("promise %d: %v, %v", promise, ticks, ok)
		}
	}
}

func TestBestShifts(t *testing.T) {
	want := [][]int{{5, 9, 11}, {7, 5, 10}, {8, 5, 7}, {8, 5, 7}, {8, 5, 7}, {8, 5, 7}, {8, 5, 7}}
	for shift, ticks := range want {
		if got, ok := impl.StripBest(threeMoves(), shift); !ok || !slices.Equal(got, ticks) {
			t.Errorf("shift %d: %v and %v, want %v", shift, got, ok, ticks)
		}
	}
	for _, shift := range append([]int{-2, -1, impl.StripMaxMoves + 1, 100}, farInts...) {
		if got, ok := impl.StripBest(threeMoves(), shift); ok || len(got) != 0 {
			t.Errorf("shift %d: %v, %v", shift, got, ok)
		}
	}
}

// The shift is counted from the order in which they come by themselves, which is not that of the list.
func TestBestShiftIsFromTheFirstOrder(t *testing.T) {
	list := []impl.StripMove{wideMove("a", false, 1), wideMove("b", true, 3), wideMove("c", false, 1)}
	list[0].Est, list[1].Est, list[2].Est = 12, 10, 10
	for shift, want := range [][]int{{15, 10, 14}, {15, 11, 10}, {12, 13, 10}} {
		if ticks, ok := impl.StripBest(list, shift); !ok || !slices.Equal(ticks, want) {
			t.Errorf("shift %d: %v and %v, want %v", shift, ticks, ok, want)
		}
	}
}

func TestBestKeepsPromises(t *testing.T) {
	list := threeMoves()
	list[0].Promise = 6
	// Nobody can come ahead of a: b at 5 blocks the runway until 7, and so does c at 6.
	if ticks, ok := impl.StripBest(list, 6); !ok || !slices.Equal(ticks, []int{6, 11, 9}) {
		t.Errorf("%v, %v", ticks, ok)
	}
	list[0].Promise = 7
	if ticks, ok := impl.StripBest(list, 6); !ok || !slices.Equal(ticks, []int{7, 5, 10}) {
		t.Errorf("%v, %v", ticks, ok)
	}
}

func TestBestIfNoOrderCanBe(t *testing.T) {
	list := threeMoves()
	list[2].Late = 6
	list[0].Promise = 5
	if ticks, ok := impl.StripBest(list, 6); ok || len(ticks) != 0 {
		t.Errorf("%v, %v", ticks, ok)
	}
	// One that is to come first can, with the shift that lets it.
	list[0].Promise = -1
	for shift, want := range []bool{false, false, true, true} {
		ticks, ok := impl.StripBest(list, shift)
		if ok != want || !ok && len(ticks) != 0 {
			t.Errorf("shift %d: %v, %v", shift, ticks, ok)
		}
	}
	both := []impl.StripMove{wideMove("a", false, 1), wideMove("b", false, 1)}
	both[0].Promise, both[1].Promise = 7, 7
	if ticks, ok := impl.StripBest(both, 6); ok || len(ticks) != 0 {
		t.Errorf("two with one promise: %v, %v", ticks, ok)
	}
}

// Both orders are late together by 5: that whose latest is later by 3 is taken, though that by 4 is the first by the ticks.
func TestBestOfSeveralTheLatestByLeast(t *testing.T) {
	list := []impl.StripMove{wideMove("a", false, 2), wideMove("b", true, 2), wideMove("c", true, 1)}
	if ticks, ok := impl.StripBest(list, 6); !ok || !slices.Equal(ticks, []int{2, 3, 0}) {
		t.Errorf("%v, %v", ticks, ok)
	}
	list = []impl.StripMove{wideMove("a", true, 2), wideMove("b", true, 1), wideMove("c", false, 2)}
	if ticks, ok := impl.StripBest(list, 6); !ok || !slices.Equal(ticks, []int{3, 0, 2}) {
		t.Errorf("%v, %v", ticks, ok)
	}
}

func TestBestOfSeveralTheFirstByTheTicks(t *testing.T) {
	alike := []impl.StripMove{wideMove("a", false, 1), wideMove("b", false, 1), wideMove("c", false, 1)}
	if ticks, ok := impl.StripBest(alike, 6); !ok || !slices.Equal(ticks, []int{0, 1, 2}) {
		t.Errorf("%v, %v", ticks, ok)
	}
	// Late together by 5, the latest by 3: 6 1 4 and 5 4 2.
	list := []impl.StripMove{wideMove("a", true, 3), wideMove("b", false, 3), wideMove("c", true, 1)}
	list[0].Est, list[1].Est, list[2].Est = 3, 1, 2
	for shift, want := range [][]int{{6, 1, 4}, {5, 4, 2}, {5, 4, 2}} {
		if ticks, ok := impl.StripBest(list, shift); !ok || !slices.Equal(ticks, want) {
			t.Errorf("shift %d: %v, %v", shift, ticks, ok)
		}
	}
	// Late together by 5, the latest by 3: 6 1 2 and 5 4 0.
	list = []impl.StripMove{wideMove("a", true, 1), wideMove("b", false, 1), wideMove("c", true, 3)}
	list[0].Est, list[1].Est, list[2].Est = 3, 1, 0
	if ticks, ok := impl.StripBest(list, 6); !ok || !slices.Equal(ticks, []int{5, 4, 0}) {
		t.Errorf("%v, %v", ticks, ok)
	}
}

func TestBestOfTheMostMovesAndOneMore(t *testing.T) {
	var list []impl.StripMove
	for i := range impl.StripMaxMoves + 1 {
		list = append(list, wideMove(string(rune('a'+i)), i%2 == 0, 1+i%3))
	}
	most := impl.StripMaxMoves
	for shift := range most + 1 {
		want, _ := bestPlainly(list[:most], shift)
		if ticks, ok := impl.StripBest(list[:most], shift); !ok || !slices.Equal(ticks, want) {
			t.Errorf("%d moves, shift %d: %v and %v, want %v", most, shift, ticks, ok, want)
		}
		if ticks, ok := impl.StripBest(list, shift); ok || len(ticks) != 0 {
			t.Errorf("%d moves, shift %d: %v, %v", most+1, shift, ticks, ok)
		}
	}
	if ticks, ok := impl.StripBest(make([]impl.StripMove, 100000), 6); ok || len(ticks) != 0 {
		t.Errorf("very many: %v, %v", ticks, ok)
	}
}

func TestBestAsksWhetherTheMovesAreOkTogether(t *testing.T) {
	a, b := wideMove("a", false, 1), wideMove("b", false, 1)
	bad, far := b, b
	bad.Wake = 4
	far.Est, far.Late, far.Promise = math.MaxInt, math.MinInt, math.MaxInt
	for i, list := range [][]impl.StripMove{{b, a}, {a, a}, {a, bad}, {a, far}, {{}}} {
		if ticks, ok := impl.StripBest(list, 6); ok || len(ticks) != 0 {
			t.Errorf("case %d: %v, %v", i, ticks, ok)
		}
	}
}

func TestBestOfSomeMoves(t *testing.T) {
	d := dice(29)
	met, failed := 0, 0
	for n := range impl.StripMaxMoves + 1 {
		runs := 200
		if n == impl.StripMaxMoves {
			runs = 25
		}
		for range runs {
			list := d.someMoves(n)
			for shift := range impl.StripMaxMoves + 1 {
				want, wantOk := bestPlainly(list, shift)
				ticks, ok := impl.StripBest(list, shift)
				if ok != wantOk || !slices.Equal(ticks, want) {
					t.Fatalf("%v with the shift %d: %v and %v, want %v and %v", list, shift, ticks, ok, want, wantOk)
				}
				if ok {
					met++
				} else {
					failed++
				}
			}
		}
	}
	if met < 100 || failed < 100 {
		t.Errorf("%d that can be and %d that cannot are too few to tell", met, failed)
	}
}

func TestBestLeavesItsArguments(t *testing.T) {
	list := append(threeMoves(), impl.StripMove{Name: "spare"})
	was := slices.Clone(list)
	ticks, _ := impl.StripBest(list[:3], 6)
	upset(ticks)
	if !slices.Equal(list, was) {
		t.Error("an argument, or what is behind its end, was changed")
	}
	if again, ok := impl.StripBest(list[:3], 6); !ok || !slices.Equal(again, []int{8, 5, 7}) {
		t.Errorf("two answers share memory: %v, %v", again, ok)
	}
}

// The answer does not hang on how those run who look for it, nor on who else asks meanwhile.
func TestBestIsTheSameWhoeverAsks(t *testing.T) {
	d := dice(41)
	list := d.someMoves(impl.StripMaxMoves)
	for i := range list {
		list[i].Late, list[i].Promise = impl.StripMaxTick, -1
	}
	want, _ := bestPlainly(list, impl.StripMaxMoves)
	var wait sync.WaitGroup
	for range 16 {
		wait.Go(func() {
			for range 20 {
				if ticks, ok := impl.StripBest(list, impl.StripMaxMoves); !ok || !slices.Equal(ticks, want) {
					t.Errorf("%v and %v, want %v", ticks, ok, want)
				}
			}
		})
	}
	wait.Wait()
}

func TestBestLeavesNobodyRunning(t *testing.T) {
	was := runtime.NumGoroutine()
	for range 50 {
		impl.StripBest(threeMoves(), 6)
	}
	// One that has said that it is done may still be about to go.
	for range 1000 {
		if runtime.NumGoroutine() <= was {
			return
		}
		time.Sleep(time.Millisecond)
	}
	t.Errorf("%d run where %d did", runtime.NumGoroutine(), was)
}
