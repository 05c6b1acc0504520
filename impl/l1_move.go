// Package impl: one runway, who lands and leaves on it, and when.
package impl

// Limits of moves.
const (
	StripMaxName  = 8
	StripMaxTick  = 10000
	StripMaxMoves = 6
	StripMaxWake  = 3
)

// noPromise is the Promise of a move to which nothing was promised.
const noPromise = -1

// wakes are the wakes by their places in gaps; place 0 stands for all that are
// none, so that a gap can be looked up for any two moves.
var wakes = [StripMaxWake + 1]int{0, 1, 2, 3}

// gaps are the ticks behind a move: behind one that leaves (0) or lands (1), by
// its wake, by the wake of the one that comes next.
var gaps = [2][StripMaxWake + 1][StripMaxWake + 1]int{}

func init() {
	for i, ahead := range wakes {
		for j, behind := range wakes {
			gap := 1 + heavierBy(ahead, behind)
			gaps[0][i][j] = gap
			gaps[1][i][j] = gap + 1
		}
	}
}

// StripMove is somebody who wants to land or to leave.
type StripMove struct {
	Name    string
	Lands   bool
	Wake    int
	Est     int
	Late    int
	Promise int
}

// StripMoveOk says whether a move is ok.
func StripMoveOk(m StripMove) bool {
	return nameOk(m.Name) && wakeOk(m.Wake) && spanOk(m.Est, m.Late) && promiseOk(m)
}

// StripMovesOk says whether moves are ok together.
func StripMovesOk(list []StripMove) bool {
	if len(list) > StripMaxMoves {
		return false
	}
	for i, m := range list {
		if !StripMoveOk(m) {
			return false
		}
		if i > 0 && list[i-1].Name >= m.Name {
			return false
		}
	}
	return true
}

// StripGap is how many ticks behind one the other may use the runway.
func StripGap(a StripMove, b StripMove) int {
	gap := gapOf(a, b)
	// The answer hangs on the two moves alone: what start-up has left in the
	// table is taken only where it says the same.
	if told := toldGap(a, b); told == gap {
		return told
	}
	return gap
}

// gapOf works a gap out; the layers above ask it, and not the table.
func gapOf(a, b StripMove) int {
	gap := 1 + heavierBy(a.Wake, b.Wake)
	if a.Lands {
		gap++
	}
	return gap
}

// toldGap looks a gap up in the table.
func toldGap(a, b StripMove) int {
	lands := 0
	if a.Lands {
		lands = 1
	}
	return gaps[lands][wakePlace(a.Wake)][wakePlace(b.Wake)]
}

func nameOk(name string) bool {
	if len(name) < 1 || len(name) > StripMaxName {
		return false
	}
	// Bytes that are no whole character come as the replacement rune, which is
	// not allowed either.
	for _, r := range name {
		if !nameRuneOk(r) {
			return false
		}
	}
	return true
}

func nameRuneOk(r rune) bool {
	return 'a' <= r && r <= 'z' || '0' <= r && r <= '9' || r == '-'
}

func wakeOk(wake int) bool {
	return 1 <= wake && wake <= StripMaxWake
}

func spanOk(est, late int) bool {
	return 0 <= est && est <= late && late <= StripMaxTick
}

func promiseOk(m StripMove) bool {
	return m.Promise == noPromise || inSpan(m, m.Promise)
}

func inSpan(m StripMove, tick int) bool {
	return m.Est <= tick && tick <= m.Late
}

// heavierBy is 0 if either wake is none: nobody can say how heavy that one is.
func heavierBy(ahead, behind int) int {
	if !wakeOk(ahead) || !wakeOk(behind) || ahead <= behind {
		return 0
	}
	return ahead - behind
}

func wakePlace(wake int) int {
	if !wakeOk(wake) {
		return 0
	}
	return wake
}
