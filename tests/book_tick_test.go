package tests

import (
	"slices"
	"testing"

	"loop.example/lapstrip/impl"
)

func TestTickOfNobody(t *testing.T) {
	for _, now := range []int{0, 1, 5000, maxTick - 1} {
		got, told, code := impl.StripTick(impl.StripBook{Now: now, Shift: 4})
		if code != 0 || len(told) != 0 || !sameBook(got, impl.StripBook{Now: now + 1, Shift: 4}) {
			t.Errorf("Now %d: %v, %v, code %d", now, got, told, code)
		}
	}
	b := impl.StripBook{Now: maxTick, Shift: 4}
	got, told, code := impl.StripTick(b)
	stays(t, "at the last tick", b, got, code, 2)
	if len(told) != 0 {
		t.Errorf("%v are told", told)
	}
}

func TestTickAtTheLastOneTellsNobody(t *testing.T) {
	b := bookOf(maxTick, []int{maxTick}, withPromise(leaver("a", 1, 0, maxTick), maxTick))
	got, told, code := impl.StripTick(b)
	stays(t, "at the last tick", b, got, code, 2)
	if len(told) != 0 {
		t.Errorf("%v are told", told)
	}
	b.Now--
	got, told, code = impl.StripTick(b)
	if code != 0 || len(told) != 0 || got.Now != maxTick || len(got.Moves) != 1 {
		t.Errorf("one below: %v, %v, code %d", got, told, code)
	}
}

func TestTickWhoIsGone(t *testing.T) {
	a, b := withPromise(lander("a", 1, 5, 40), 11), withPromise(leaver("b", 1, 5, 40), 10)
	book := bookOf(10, []int{11, 10}, a, b)
	got, told, code := impl.StripTick(book)
	if code != 0 || !slices.Equal(told, []string{"b"}) || !sameBook(got, bookOf(11, []int{11}, a)) {
		t.Errorf("%v, %v, code %d", got, told, code)
	}
	got, told, code = impl.StripTick(got)
	if code != 0 || !slices.Equal(told, []string{"a"}) || !sameBook(got, bookOf(12, nil)) {
		t.Errorf("%v, %v, code %d", got, told, code)
	}
	got, told, code = impl.StripTick(got)
	if code != 0 || len(told) != 0 || !sameBook(got, bookOf(13, nil)) {
		t.Errorf("%v, %v, code %d", got, told, code)
	}
}

func TestTickWhatIsPromised(t *testing.T) {
	const now = 10
	for tick := now + freeze; tick <= now+freeze+2; tick++ {
		m := leaver("a", 1, 5, 40)
		got, told, code := impl.StripTick(bookOf(now, []int{tick}, m))
		want := m
		if tick < now+1+freeze {
			want.Promise = tick
		}
		if code != 0 || len(told) != 0 || !sameBook(got, bookOf(now+1, []int{tick}, want)) {
			t.Errorf("tick %d: %v, %v, code %d", tick, got, told, code)
		}
	}
	// A promise stays, near or far.
	for _, tick := range []int{now + 1, now + freeze, 40} {
		m := withPromise(leaver("a", 1, 5, 40), tick)
		if got, _, code := impl.StripTick(bookOf(now, []int{tick}, m)); code != 0 || !sameBook(got, bookOf(now+1, []int{tick}, m)) {
			t.Errorf("promised %d: %v, code %d", tick, got, code)
		}
	}
}
