package tests

import (
	"fmt"
	"math"
	"slices"
	"testing"

	"loop.example/lapstrip/impl"
)

const (
	freeze  = impl.StripFreeze
	roundT  = impl.StripRoundT
	maxTick = impl.StripMaxTick
)

func lander(name string, wake, est, late int) impl.StripMove {
	return impl.StripMove{Name: name, Lands: true, Wake: wake, Est: est, Late: late, Promise: -1}
}

func leaver(name string, wake, est, late int) impl.StripMove {
	return impl.StripMove{Name: name, Wake: wake, Est: est, Late: late, Promise: -1}
}

// withPromise is the move, to which a tick was promised.
func withPromise(m impl.StripMove, tick int) impl.StripMove {
	m.Promise = tick
	return m
}

// bookOf is a book at now, with the shift 2.
func bookOf(now int, ticks []int, moves ...impl.StripMove) impl.StripBook {
	return impl.StripBook{Now: now, Shift: 2, Moves: moves, Ticks: ticks}
}

// added is the book with all of these, each of which is to come in.
func added(t *testing.T, b impl.StripBook, moves ...impl.StripMove) impl.StripBook {
	t.Helper()
	for _, m := range moves {
		next, code := impl.StripAdd(b, m)
		if code != 0 {
			t.Fatalf("%v comes into %v: code %d", m, b, code)
		}
		b = next
	}
	return b
}

// later is the book so many ticks on.
func later(t *testing.T, b impl.StripBook, ticks int) impl.StripBook {
	t.Helper()
	for range ticks {
		next, _, code := impl.StripTick(b)
		if code != 0 {
			t.Fatalf("a tick of %v: code %d", b, code)
		}
		b = next
	}
	return b
}

// stays asks that a call has refused with a code, and answered the book as it was.
func stays(t *testing.T, what string, was, got impl.StripBook, code, want int) {
	t.Helper()
	if code != want {
		t.Errorf("%s: code %d, want %d", what, code, want)
	}
	if want == 1 && !isNothing(got) {
		t.Errorf("%s: %v is not nothing", what, got)
	}
	if want > 1 && !sameBook(was, got) {
		t.Errorf("%s: %v is not the book as it was, %v", what, got, was)
	}
}

// sixBook is a book with the most moves, all of whom leave.
func sixBook() impl.StripBook {
	b := bookOf(0, nil)
	for i := range impl.StripMaxMoves {
		b.Moves = append(b.Moves, leaver(string(rune('b'+i)), 1, 0, 40))
		b.Ticks = append(b.Ticks, 10+i)
	}
	return b
}

// badBooks are books that are not ok, each by one thing.
func badBooks() map[string]impl.StripBook {
	good := bookOf(3, []int{10, 20}, lander("a", 1, 5, 40), leaver("b", 1, 5, 40))
	spoilt := func(spoil func(b *impl.StripBook)) impl.StripBook {
		b := deepCopy(good)
		spoil(&b)
		return b
	}
	out := map[string]impl.StripBook{
		"fewer ticks":            spoilt(func(b *impl.StripBook) { b.Ticks = b.Ticks[:1] }),
		"no ticks":               spoilt(func(b *impl.StripBook) { b.Ticks = nil }),
		"more ticks":             spoilt(func(b *impl.StripBook) { b.Ticks = append(b.Ticks, 30) }),
		"no moves":               spoilt(func(b *impl.StripBook) { b.Moves = nil }),
		"a tick alone":           {Ticks: []int{0}},
		"very many ticks":        {Ticks: make([]int, 100000)},
		"very many moves":        {Moves: make([]impl.StripMove, 100000), Ticks: make([]int, 100000)},
		"moves not by name":      spoilt(func(b *impl.StripBook) { b.Moves[0].Name = "c" }),
		"a name twice":           spoilt(func(b *impl.StripBook) { b.Moves[0].Name = "b" }),
		"a bad name":             spoilt(func(b *impl.StripBook) { b.Moves[0].Name = "\xff" }),
		"no name":                spoilt(func(b *impl.StripBook) { b.Moves[0].Name = "" }),
		"a bad wake":             spoilt(func(b *impl.StripBook) { b.Moves[1].Wake = 4 }),
		"a bad promise":          spoilt(func(b *impl.StripBook) { b.Moves[1].Promise = -2 }),
		"another promise":        spoilt(func(b *impl.StripBook) { b.Moves[1].Promise = 21 }),
		"an Est that is none":    spoilt(func(b *impl.StripBook) { b.Moves[1].Est = math.MinInt }),
		"a Late that is none":    spoilt(func(b *impl.StripBook) { b.Moves[1].Late = math.MaxInt }),
		"a tick above its Late":  spoilt(func(b *impl.StripBook) { b.Ticks[1] = 41 }),
		"a tick below its Est":   spoilt(func(b *impl.StripBook) { b.Moves[1].Est = 21 }),
		"too near":               spoilt(func(b *impl.StripBook) { b.Ticks[1] = 11 }),
		"the same tick":          spoilt(func(b *impl.StripBook) { b.Ticks[1] = 10 }),
		"below Now":              spoilt(func(b *impl.StripBook) { b.Now = 11 }),
		"near and not promised":  spoilt(func(b *impl.StripBook) { b.Now = 7 }),
		"below Now and promised": spoilt(func(b *impl.StripBook) { b.Now, b.Moves[0].Promise = 11, 10 }),
	}
	for _, n := range append([]int{-1, maxTick + 1}, farInts...) {
		out[fmt.Sprintf("Now %d", n)] = impl.StripBook{Now: n}
	}
	for _, n := range append([]int{-1, impl.StripMaxMoves + 1}, farInts...) {
		out[fmt.Sprintf("Shift %d", n)] = spoilt(func(b *impl.StripBook) { b.Shift = n })
	}
	for _, n := range farInts {
		out[fmt.Sprintf("a tick of %d", n)] = spoilt(func(b *impl.StripBook) { b.Ticks[0] = n })
		out[fmt.Sprintf("Now %d with moves", n)] = spoilt(func(b *impl.StripBook) { b.Now = n })
	}
	return out
}

func TestBookOkOfNobody(t *testing.T) {
	for _, now := range []int{0, 1, 5000, maxTick - 1, maxTick} {
		for shift := range impl.StripMaxMoves + 1 {
			b := impl.StripBook{Now: now, Shift: shift}
			if !impl.StripBookOk(b) || !impl.StripSure(b) {
				t.Errorf("Now %d, Shift %d: ok %v, sure %v", now, shift, impl.StripBookOk(b), impl.StripSure(b))
			}
			b.Moves, b.Ticks = []impl.StripMove{}, []int{}
			if !impl.StripBookOk(b) || !impl.StripSure(b) {
				t.Errorf("Now %d, Shift %d, with empty lists: not ok, or not sure", now, shift)
			}
		}
	}
}

func TestBookOkAtTicks(t *testing.T) {
	const now = 10
	cases := []struct {
		tick     int
		promised bool
		ok       bool
	}{
		{now - 1, false, false},
		{now - 1, true, false},
		{now, false, false},
		{now, true, true},
		{now + 1, false, false},
		{now + freeze - 1, false, false},
		{now + freeze - 1, true, true},
		{now + freeze, false, true},
		{now + freeze, true, true},
		{now + freeze + 1, false, true},
		{40, true, true},
		{40, false, true},
		{41, false, false},
	}
	for _, c := range cases {
		m := leaver("a", 1, 0, 40)
		if c.promised {
			m.Promise = c.tick
		}
		if got := impl.StripBookOk(bookOf(now, []int{c.tick}, m)); got != c.ok {
			t.Errorf("tick %d, promised %v: %v", c.tick, c.promised, got)
		}
		// The same for the second of two.
		first := withPromise(leaver("0", 1, 0, 40), 20)
		if got := impl.StripBookOk(bookOf(now, []int{20, c.tick}, first, m)); got != c.ok {
			t.Errorf("tick %d of the second, promised %v: %v", c.tick, c.promised, got)
		}
	}
}

func TestBookOkAtTheEnds(t *testing.T) {
	m := leaver("a", 1, 0, maxTick)
	if !impl.StripBookOk(bookOf(0, []int{0}, withPromise(m, 0))) || impl.StripBookOk(bookOf(0, []int{0}, m)) {
		t.Error("at the first tick")
	}
	if !impl.StripBookOk(bookOf(0, []int{freeze}, m)) || impl.StripBookOk(bookOf(0, []int{freeze - 1}, m)) {
		t.Error("at the first ticks that need no promise")
	}
	if !impl.StripBookOk(bookOf(maxTick, []int{maxTick}, withPromise(m, maxTick))) || impl.StripBookOk(bookOf(maxTick, []int{maxTick}, m)) {
		t.Error("at the last tick")
	}
	if !impl.StripBookOk(bookOf(maxTick-freeze, []int{maxTick}, m)) || impl.StripBookOk(bookOf(maxTick-freeze+1, []int{maxTick}, m)) {
		t.Error("at the last Now that needs no promise")
	}
}

func TestBookOkOfTheMostMovesAndOneMore(t *testing.T) {
	b := sixBook()
	if !impl.StripBookOk(b) {
		t.Error("six are not ok")
	}
	b.Moves, b.Ticks = append(b.Moves, leaver("z", 1, 0, 40)), append(b.Ticks, 30)
	if impl.StripBookOk(b) {
		t.Error("seven are ok")
	}
}

func TestBadBooks(t *testing.T) {
	for what, b := range badBooks() {
		was := deepCopy(b)
		if impl.StripBookOk(b) || impl.StripSure(b) {
			t.Errorf("%s: ok, or sure", what)
		}
		got, code := impl.StripAdd(b, leaver("c", 1, 50, 60))
		stays(t, what+": add", was, got, code, 1)
		got, code = impl.StripDrop(b, "a")
		stays(t, what+": drop", was, got, code, 1)
		got, code = impl.StripRound(b, "a")
		stays(t, what+": round", was, got, code, 1)
		got, told, code := impl.StripTick(b)
		stays(t, what+": tick", was, got, code, 1)
		if len(told) != 0 {
			t.Errorf("%s: %v are told", what, told)
		}
		// The first code is looked for first.
		got, code = impl.StripAdd(b, impl.StripMove{})
		stays(t, what+": add nothing", was, got, code, 1)
		got, code = impl.StripDrop(b, "nobody")
		stays(t, what+": drop nobody", was, got, code, 1)
		got, code = impl.StripRound(b, "nobody")
		stays(t, what+": round nobody", was, got, code, 1)
		if !sameBook(b, was) {
			t.Errorf("%s: the book was changed", what)
		}
	}
}

// The document's example, as far as it is about books.
func TestBookOfTheExample(t *testing.T) {
	b := impl.StripBook{Shift: 2}
	at := func(what string, want ...int) {
		t.Helper()
		if !slices.Equal(b.Ticks, want) {
			t.Errorf("%s: %v, want the ticks %v", what, b, want)
		}
	}
	b = added(t, b, lander("kl", 3, 5, 30), lander("ba", 1, 5, 40), leaver("lh", 2, 6, 12))
	at("three", 5, 8, 7)
	got, code := impl.StripAdd(b, lander("a", 1, 9, 10))
	stays(t, "a", b, got, code, 6)
	b = added(t, b, leaver("b", 1, 9, 16))
	at("four", 9, 5, 10, 7)
	b = later(t, b, 3)
	got, code = impl.StripRound(b, "kl")
	stays(t, "kl at 3", b, got, code, 6)
	b = later(t, b, 2)
	got, code = impl.StripRound(b, "kl")
	stays(t, "kl at 5", b, got, code, 6)
	if b, code = impl.StripRound(b, "ba"); code != 0 {
		t.Fatalf("ba: code %d", code)
	}
	at("round", 9, 14, 10, 7)
	if !impl.StripSure(b) || b.Moves[3].Promise != 7 {
		t.Errorf("%v", b)
	}
	b = added(t, b, leaver("c", 1, 9, 40))
	if b, code = impl.StripDrop(b, "lh"); code != 0 {
		t.Fatalf("lh: code %d", code)
	}
	at("dropped", 9, 11, 10, 13)
	var all []string
	for range 20 {
		next, told, code := impl.StripTick(b)
		if code != 0 {
			t.Fatalf("tick: code %d", code)
		}
		all, b = append(all, told...), next
	}
	if !slices.Equal(all, []string{"b", "c", "ba", "kl"}) || b.Now != 25 || len(b.Moves) != 0 {
		t.Errorf("%v, %v", all, b)
	}
}

// Every call of long runs is held against the document's sentences, said plainly.
func TestBookRuns(t *testing.T) {
	met := map[string]int{}
	for seed := range 400 {
		d := dice(1000 + seed)
		now := 0
		if seed%4 == 0 {
			now = maxTick - 40
		}
		for _, s := range d.run(now, 60) {
			var want impl.StripBook
			var told []string
			code := 0
			switch s.what {
			case "add":
				want, code = addPlainly(s.before, s.move)
			case "drop":
				x := dropPlainly(s.before, s.name)
				want, code = x.next, x.code
			case "round":
				want, code = roundCodePlainly(s.before, s.name)
			default:
				want, told, code = tickPlainly(s.before)
			}
			if s.code != code || !sameBook(s.after, want) || !slices.Equal(s.told, told) {
				t.Fatalf("%s %s %v of %+v: %+v, %v, code %d, want %+v, %v, code %d", s.what, s.name, s.move, s.before, s.after, s.told, s.code, want, told, code)
			}
			if !impl.StripBookOk(s.after) || impl.StripSure(s.after) != surePlainly(s.after) {
				t.Fatalf("%+v: ok %v, sure %v", s.after, impl.StripBookOk(s.after), impl.StripSure(s.after))
			}
			met[fmt.Sprint(s.what, " ", s.code)]++
		}
	}
	for _, what := range []string{"add 0", "add 2", "add 3", "add 4", "add 5", "add 6", "drop 0", "drop 3", "round 0", "round 3", "round 5", "round 6", "tick 0"} {
		if met[what] < 5 {
			t.Errorf("%q was met %d times: too few to tell", what, met[what])
		}
	}
}

// someBook is a book that need not have come from any run, ok or not: ticks far from the plan, promises far off.
func (d *dice) someBook() impl.StripBook {
	b := impl.StripBook{Now: 5, Shift: d.below(impl.StripMaxMoves + 1), Moves: d.someMoves(1 + d.below(5))}
	b.Ticks = make([]int, len(b.Moves))
	orders := eachOrder(len(b.Moves))
	tick, last := b.Now, impl.StripMove{}
	if d.below(10) == 0 {
		tick--
	}
	for _, i := range orders[d.below(len(orders))] {
		m := b.Moves[i]
		tick += between(last, m) - 1 + d.below(4)
		if d.below(5) > 0 {
			tick++
		}
		m.Est, m.Late, m.Promise = max(0, tick-d.below(9)), tick+d.below(20), -1
		if tick < b.Now+freeze && d.below(20) > 0 || d.below(4) == 0 {
			m.Promise = tick
		}
		b.Moves[i], b.Ticks[i], last = m, tick, m
	}
	return b
}

func TestBooksOfAnyKind(t *testing.T) {
	d := dice(77)
	ok, sure := 0, 0
	for range 3000 {
		b := d.someBook()
		if impl.StripBookOk(b) != bookOkPlainly(b) || impl.StripSure(b) != surePlainly(b) {
			t.Fatalf("%+v: ok %v, sure %v", b, impl.StripBookOk(b), impl.StripSure(b))
		}
		if impl.StripBookOk(b) {
			ok++
		}
		if impl.StripSure(b) {
			sure++
		}
		name := b.Moves[d.below(len(b.Moves))].Name
		if got, code := impl.StripDrop(b, name); code != dropPlainly(b, name).code || !sameBook(got, dropPlainly(b, name).next) {
			t.Fatalf("drop %s of %+v: %+v, code %d", name, b, got, code)
		}
		m := d.someMove(5)
		want, wantCode := addPlainly(b, m)
		if got, code := impl.StripAdd(b, m); code != wantCode || !sameBook(got, want) {
			t.Fatalf("add %+v to %+v: %+v, code %d, want %+v, code %d", m, b, got, code, want, wantCode)
		}
		want, wantCode = roundCodePlainly(b, name)
		if got, code := impl.StripRound(b, name); code != wantCode || !sameBook(got, want) {
			t.Fatalf("round %s of %+v: %+v, code %d, want %+v, code %d", name, b, got, code, want, wantCode)
		}
		want, wantTold, wantCode := tickPlainly(b)
		if got, told, code := impl.StripTick(b); code != wantCode || !sameBook(got, want) || !slices.Equal(told, wantTold) {
			t.Fatalf("tick of %+v: %+v, %v, code %d, want %+v, %v, code %d", b, got, told, code, want, wantTold, wantCode)
		}
	}
	if ok < 300 || ok > 2900 || sure < 300 || sure > ok-300 {
		t.Errorf("%d ok and %d sure tell too little", ok, sure)
	}
}

// upsetBook writes into all of a book's lists, their spare room too.
func upsetBook(b impl.StripBook) {
	upset(b.Ticks)
	all := b.Moves[:cap(b.Moves)]
	for i := range all {
		all[i] = impl.StripMove{Name: "upset", Wake: -12345}
	}
}

// roomy is the book with spare room behind its lists, and that room's lists with it.
func roomy(b impl.StripBook) (impl.StripBook, []impl.StripMove, []int) {
	moves := make([]impl.StripMove, 0, 12)
	ticks := make([]int, 0, 12)
	moves, ticks = append(moves, b.Moves...), append(ticks, b.Ticks...)
	for i := len(moves); i < 12; i++ {
		moves, ticks = append(moves, impl.StripMove{Name: "spare", Est: i}), append(ticks, -i)
	}
	n, k := len(b.Moves), len(b.Ticks)
	b.Moves, b.Ticks = moves[:n], ticks[:k]
	return b, moves, ticks
}

func TestBooksLeaveTheirArguments(t *testing.T) {
	books := []impl.StripBook{
		{Now: 5, Shift: 2},
		sixBook(),
		bookOf(10, []int{10, 14, 19}, withPromise(lander("a", 1, 5, 40), 10), leaver("b", 1, 5, 40), lander("c", 1, 5, 40)),
		bookOf(10, []int{10, 14}, withPromise(lander("a", 1, 5, 12), 10), leaver("b", 1, 5, 40)),
		bookOf(maxTick, []int{maxTick}, withPromise(lander("a", 1, 5, maxTick), maxTick)),
		bookOf(-1, []int{10}, leaver("a", 1, 5, 40)),
	}
	for i, given := range books {
		b, moves, ticks := roomy(given)
		movesWas, ticksWas := slices.Clone(moves), slices.Clone(ticks)
		calls := map[string]func() (impl.StripBook, int){
			"add":        func() (impl.StripBook, int) { return impl.StripAdd(b, leaver("ab", 1, 12, 60)) },
			"add bad":    func() (impl.StripBook, int) { return impl.StripAdd(b, impl.StripMove{}) },
			"add there":  func() (impl.StripBook, int) { return impl.StripAdd(b, leaver("b", 1, 12, 60)) },
			"add late":   func() (impl.StripBook, int) { return impl.StripAdd(b, leaver("ab", 1, 0, 0)) },
			"add unsure": func() (impl.StripBook, int) { return impl.StripAdd(b, lander("ab", 1, 60, 60)) },
			"drop a":     func() (impl.StripBook, int) { return impl.StripDrop(b, "a") },
			"drop b":     func() (impl.StripBook, int) { return impl.StripDrop(b, "b") },
			"drop none":  func() (impl.StripBook, int) { return impl.StripDrop(b, "none") },
			"round a":    func() (impl.StripBook, int) { return impl.StripRound(b, "a") },
			"round b":    func() (impl.StripBook, int) { return impl.StripRound(b, "b") },
			"round c":    func() (impl.StripBook, int) { return impl.StripRound(b, "c") },
			"tick": func() (impl.StripBook, int) {
				next, told, code := impl.StripTick(b)
				for k := range told[:cap(told)] {
					told[:cap(told)][k] = "upset"
				}
				return next, code
			},
		}
		impl.StripBookOk(b)
		impl.StripSure(b)
		for what, call := range calls {
			got, code := call()
			want := deepCopy(got)
			upsetBook(got)
			if !slices.Equal(moves, movesWas) || !slices.Equal(ticks, ticksWas) {
				t.Fatalf("book %d, %s: an argument, or what is behind its end, was changed", i, what)
			}
			if again, codeAgain := call(); codeAgain != code || !sameBook(again, want) {
				t.Errorf("book %d, %s: %v and %d, and then %v and %d", i, what, want, code, again, codeAgain)
			}
		}
	}
}
