package impl

import "iter"

// StripFits says whether ticks fit moves.
func StripFits(list []StripMove, ticks []int) bool {
	if !StripMovesOk(list) || len(ticks) != len(list) {
		return false
	}
	for i, m := range list {
		if !tickSuits(m, ticks[i]) {
			return false
		}
	}
	for i, j := range pairs(len(list)) {
		if tooNear(list[i], list[j], ticks[i], ticks[j]) {
			return false
		}
	}
	return true
}

// StripCost is by how much all are late together, and by how much who is latest.
func StripCost(list []StripMove, ticks []int) (int, int) {
	if !StripFits(list, ticks) {
		return 0, 0
	}
	return lateness(list, ticks)
}

// lateness needs ticks that fit.
func lateness(list []StripMove, ticks []int) (int, int) {
	sum, most := 0, 0
	for i, m := range list {
		late := ticks[i] - m.Est
		sum += late
		most = max(most, late)
	}
	return sum, most
}

// tickSuits looks at one move by itself.
func tickSuits(m StripMove, tick int) bool {
	return inSpan(m, tick) && (m.Promise == noPromise || m.Promise == tick)
}

// tooNear needs ticks that suit their moves: far outside they could not be
// taken from each other.
func tooNear(a, b StripMove, tickA, tickB int) bool {
	if tickB < tickA {
		return tickA-tickB < gapOf(b, a)
	}
	// The same tick is always too near, as no gap is below 1.
	return tickB-tickA < gapOf(a, b)
}

// pairs tells each two places below n once, the lower one first.
func pairs(n int) iter.Seq2[int, int] {
	return func(yield func(int, int) bool) {
		for i := range n {
			for j := i + 1; j < n; j++ {
				if !yield(i, j) {
					return
				}
			}
		}
	}
}
