package tests

import (
	"slices"
	"sort"

	"loop.example/lapstrip/impl"
)

// The document's sentences about books, said once more and plainly, to hold the program against.

func sameBook(a, b impl.StripBook) bool {
	return a.Now == b.Now && a.Shift == b.Shift && slices.Equal(a.Moves, b.Moves) && slices.Equal(a.Ticks, b.Ticks)
}

// isNothing is for the book beside the code 1.
func isNothing(b impl.StripBook) bool {
	return sameBook(b, impl.StripBook{})
}

// deepCopy shares nothing with the book.
func deepCopy(b impl.StripBook) impl.StripBook {
	b.Moves = append([]impl.StripMove{}, b.Moves...)
	b.Ticks = append([]int{}, b.Ticks...)
	return b
}

func placePlainly(b impl.StripBook, name string) int {
	for i, m := range b.Moves {
		if m.Name == name {
			return i
		}
	}
	return -1
}

func bookOkPlainly(b impl.StripBook) bool {
	if b.Now < 0 || b.Now > 10000 || b.Shift < 0 || b.Shift > 6 {
		return false
	}
	if !impl.StripMovesOk(b.Moves) || len(b.Moves) != len(b.Ticks) || !fitsPlainly(b.Moves, b.Ticks) {
		return false
	}
	for i, tick := range b.Ticks {
		if tick < b.Now || tick < b.Now+4 && b.Moves[i].Promise == -1 {
			return false
		}
	}
	return true
}

func planPlainly(list []impl.StripMove, now, shift int) ([]int, bool) {
	var at []impl.StripMove
	for _, m := range list {
		if m.Promise == -1 && m.Est < now+4 {
			m.Est = now + 4
		}
		if m.Est > m.Late {
			return nil, false
		}
		at = append(at, m)
	}
	return bestPlainly(at, shift)
}

// roundPlainly is who is at a place going round at their tick.
func roundPlainly(b impl.StripBook, place int) (impl.StripBook, bool) {
	at := b.Ticks[place]
	out := impl.StripBook{Now: at, Shift: b.Shift}
	for i, m := range b.Moves {
		switch {
		case i == place && at+6 > m.Late:
			return impl.StripBook{}, false
		case i == place:
			out.Moves = append(out.Moves, impl.StripMove{Name: m.Name, Lands: m.Lands, Wake: m.Wake, Est: at + 6, Late: m.Late, Promise: -1})
		case b.Ticks[i] >= at+4:
			out.Moves = append(out.Moves, m)
		case b.Ticks[i] >= at:
			out.Moves = append(out.Moves, impl.StripMove{Name: m.Name, Lands: m.Lands, Wake: m.Wake, Est: m.Est, Late: m.Late, Promise: b.Ticks[i]})
		}
	}
	ticks, ok := planPlainly(out.Moves, at, 6)
	if !ok {
		return impl.StripBook{}, false
	}
	out.Ticks = ticks
	return out, true
}

func surePlainly(b impl.StripBook) bool {
	if !bookOkPlainly(b) {
		return false
	}
	for i, m := range b.Moves {
		if _, ok := roundPlainly(b, i); m.Lands && !ok {
			return false
		}
	}
	return true
}

func addPlainly(b impl.StripBook, m impl.StripMove) (impl.StripBook, int) {
	if !bookOkPlainly(b) {
		return impl.StripBook{}, 1
	}
	if !impl.StripMoveOk(m) || m.Promise != -1 {
		return b, 2
	}
	if placePlainly(b, m.Name) != -1 {
		return b, 3
	}
	if len(b.Moves) == 6 {
		return b, 4
	}
	next := deepCopy(b)
	next.Moves = append(next.Moves, m)
	sort.Slice(next.Moves, func(i, j int) bool { return next.Moves[i].Name < next.Moves[j].Name })
	ticks, ok := planPlainly(next.Moves, b.Now, b.Shift)
	if !ok {
		return b, 5
	}
	next.Ticks = ticks
	if !surePlainly(next) {
		return b, 6
	}
	return next, 0
}

// dropped is what came of a drop, ahead of and behind the choice that the document asks for.
type dropped struct {
	kept, next impl.StripBook
	code       int
	noPlan     bool
	later      bool
	unsure     bool
}

func dropPlainly(b impl.StripBook, name string) dropped {
	if !bookOkPlainly(b) {
		return dropped{code: 1}
	}
	place := placePlainly(b, name)
	if place == -1 {
		return dropped{next: b, code: 3}
	}
	d := dropped{kept: impl.StripBook{Now: b.Now, Shift: b.Shift}}
	for i := range b.Moves {
		if i != place {
			d.kept.Moves = append(d.kept.Moves, b.Moves[i])
			d.kept.Ticks = append(d.kept.Ticks, b.Ticks[i])
		}
	}
	d.next = d.kept
	ticks, ok := planPlainly(d.kept.Moves, b.Now, b.Shift)
	if !ok {
		d.noPlan = true
		return d
	}
	for i, tick := range ticks {
		d.later = d.later || tick > d.kept.Ticks[i]
	}
	planned := deepCopy(d.kept)
	planned.Ticks = ticks
	d.unsure = !surePlainly(planned)
	if !d.later && !d.unsure {
		d.next = planned
	}
	return d
}

func roundCodePlainly(b impl.StripBook, name string) (impl.StripBook, int) {
	if !bookOkPlainly(b) {
		return impl.StripBook{}, 1
	}
	place := placePlainly(b, name)
	if place == -1 || !b.Moves[place].Lands {
		return b, 3
	}
	if b.Ticks[place] != b.Now {
		return b, 6
	}
	next, ok := roundPlainly(b, place)
	if !ok {
		return b, 5
	}
	return next, 0
}

func tickPlainly(b impl.StripBook) (impl.StripBook, []string, int) {
	if !bookOkPlainly(b) {
		return impl.StripBook{}, nil, 1
	}
	if b.Now == 10000 {
		return b, nil, 2
	}
	next, told := impl.StripBook{Now: b.Now + 1, Shift: b.Shift}, []string{}
	for i, m := range b.Moves {
		tick := b.Ticks[i]
		if tick == b.Now {
			told = append(told, m.Name)
			continue
		}
		if tick <= b.Now+4 {
			m.Promise = tick
		}
		next.Moves, next.Ticks = append(next.Moves, m), append(next.Ticks, tick)
	}
	return next, told, 0
}

// step is one call in a run.
type step struct {
	what   string
	name   string
	move   impl.StripMove
	before impl.StripBook
	after  impl.StripBook
	told   []string
	code   int
}

// run is many calls, each on the book that the one ahead of it has led to, from one with nobody.
func (d *dice) run(now, steps int) []step {
	b := impl.StripBook{Now: now, Shift: d.below(impl.StripMaxMoves + 1)}
	var out []step
	for range steps {
		s := d.someStep(b)
		out = append(out, s)
		b = s.after
	}
	return out
}

func (d *dice) someStep(b impl.StripBook) step {
	s := step{before: deepCopy(b), name: string(rune('a' + d.below(9)))}
	if len(b.Moves) > 0 && d.below(8) > 0 {
		s.name = b.Moves[d.below(len(b.Moves))].Name
	}
	for i, m := range b.Moves {
		if b.Ticks[i] == b.Now && m.Lands && d.below(2) == 0 {
			s.what, s.name = "round", m.Name
			s.after, s.code = impl.StripRound(b, s.name)
			return s
		}
	}
	switch k := d.below(20); {
	case k < 9:
		s.what, s.move = "add", d.someMove(b.Now)
		s.name = s.move.Name
		s.after, s.code = impl.StripAdd(b, s.move)
	case k < 16:
		s.what = "tick"
		s.after, s.told, s.code = impl.StripTick(b)
	case k < 19:
		s.what = "drop"
		s.after, s.code = impl.StripDrop(b, s.name)
	default:
		s.what = "round"
		s.after, s.code = impl.StripRound(b, s.name)
	}
	return s
}

// someMove is ok, unless it is too near the last tick, and wants to come soon; many who land have not long to go round.
func (d *dice) someMove(now int) impl.StripMove {
	m := wideMove(string(rune('a'+d.below(9))), d.below(2) == 0, 1+d.below(impl.StripMaxWake))
	m.Est = now + d.below(12)
	m.Late = m.Est + d.below(30)
	if m.Lands && d.below(2) == 0 {
		m.Late = m.Est + impl.StripRoundT + d.below(4)
	}
	return m
}
