package tests

import (
	"slices"
	"strings"
	"testing"

	"loop.example/lapstrip/impl"
)

func TestDropTheOnlyOne(t *testing.T) {
	for _, m := range []impl.StripMove{lander("a", 1, 10, 40), leaver("a", 3, 10, 40)} {
		b := added(t, impl.StripBook{Now: 5, Shift: 3}, m)
		got, code := impl.StripDrop(b, "a")
		if code != 0 || !sameBook(got, impl.StripBook{Now: 5, Shift: 3}) {
			t.Errorf("%v, code %d", got, code)
		}
	}
}

func TestDropANameThatIsNotThere(t *testing.T) {
	b := added(t, impl.StripBook{Now: 5, Shift: 3}, leaver("b", 1, 10, 40), lander("d", 1, 10, 40))
	for _, name := range []string{"", "a", "c", "B", "bb", "b ", "\xff", "d\x00", strings.Repeat("b", 1000000)} {
		got, code := impl.StripDrop(b, name)
		stays(t, "a name that is not there", b, got, code, 3)
	}
	nobody := impl.StripBook{Now: 7, Shift: 1}
	got, code := impl.StripDrop(nobody, "b")
	stays(t, "nobody", nobody, got, code, 3)
}

// aheadBook has c at 5, and b and a behind it, whom c holds up.
func aheadBook(t *testing.T) impl.StripBook {
	b := added(t, impl.StripBook{}, lander("c", 3, 5, 40), leaver("b", 1, 6, 40), lander("a", 3, 7, 40))
	if !slices.Equal(b.Ticks, []int{10, 9, 5}) {
		t.Fatalf("%v", b)
	}
	return b
}

func TestDropWithWhichTheOthersComeAhead(t *testing.T) {
	b := aheadBook(t)
	got, code := impl.StripDrop(b, "c")
	want := impl.StripBook{Moves: b.Moves[:2], Ticks: []int{7, 6}}
	if code != 0 || !sameBook(got, want) {
		t.Errorf("%v, code %d", got, code)
	}
	// The plan is at Now: nobody comes ahead of what is promised.
	got, code = impl.StripDrop(later(t, added(t, impl.StripBook{}, lander("c", 3, 5, 40), leaver("b", 1, 6, 40)), 3), "c")
	if code != 0 || !slices.Equal(got.Ticks, []int{7}) || got.Moves[0].Promise != -1 || got.Now != 3 {
		t.Errorf("%v, code %d", got, code)
	}
}

// At 3 both a and b may come from 7 on, and a by its name first: b would come at 11 instead of 9.
func TestDropWithWhichSomebodyWouldBeLater(t *testing.T) {
	b := later(t, aheadBook(t), 3)
	ticks, ok := planPlainly(b.Moves[:2], 3, 0)
	if !ok || !slices.Equal(ticks, []int{7, 11}) {
		t.Fatalf("the plan is %v, %v", ticks, ok)
	}
	got, code := impl.StripDrop(b, "c")
	want := impl.StripBook{Now: 3, Moves: b.Moves[:2], Ticks: []int{10, 9}}
	if code != 0 || !sameBook(got, want) {
		t.Errorf("%v, code %d", got, code)
	}
}

// Without e, b would come at 11, where it would be promised when g goes round at 8, and in the way.
func TestDropWithWhichTheBookWouldNotBeSure(t *testing.T) {
	b := added(t, impl.StripBook{Shift: 4}, lander("g", 1, 8, 14), lander("e", 2, 10, 29), lander("b", 3, 11, 18))
	if !slices.Equal(b.Ticks, []int{12, 10, 8}) {
		t.Fatalf("%v", b)
	}
	ticks, ok := planPlainly([]impl.StripMove{b.Moves[0], b.Moves[2]}, 0, 4)
	if !ok || !slices.Equal(ticks, []int{11, 8}) {
		t.Fatalf("the plan is %v, %v", ticks, ok)
	}
	got, code := impl.StripDrop(b, "e")
	if code != 0 || !slices.Equal(got.Ticks, []int{12, 8}) || !impl.StripSure(got) {
		t.Errorf("%v, code %d", got, code)
	}
	// With time enough for g, b comes ahead.
	b = added(t, impl.StripBook{Shift: 4}, lander("g", 1, 8, 15), lander("e", 2, 10, 29), lander("b", 3, 11, 18))
	got, code = impl.StripDrop(b, "e")
	if code != 0 || !slices.Equal(got.Ticks, []int{11, 8}) || !impl.StripSure(got) {
		t.Errorf("with time enough: %v, code %d", got, code)
	}
}

// If there is no plan, all keep their ticks; so they do in a book that is not sure and stays so.
func TestDropWithoutAPlan(t *testing.T) {
	// With the Shift 0, b is to come first at 20, and d behind it.
	b := bookOf(16, []int{21, 20, 17}, lander("b", 3, 20, 38), leaver("d", 1, 16, 23), withPromise(lander("e", 2, 14, 35), 17))
	b.Shift = 0
	if _, ok := planPlainly(b.Moves[:2], 16, 0); ok {
		t.Fatal("there is a plan")
	}
	got, code := impl.StripDrop(b, "e")
	if code != 0 || !slices.Equal(got.Ticks, []int{21, 20}) || !slices.Equal(got.Moves, b.Moves[:2]) {
		t.Errorf("no plan: %v, code %d", got, code)
	}
	b = bookOf(0, []int{12, 20, 30}, lander("a", 1, 10, 13), leaver("b", 1, 10, 30), leaver("c", 1, 10, 30))
	got, code = impl.StripDrop(b, "c")
	if code != 0 || !slices.Equal(got.Ticks, []int{12, 20}) {
		t.Errorf("not sure: %v, code %d", got, code)
	}
	// Without a it is sure, and the others come ahead.
	got, code = impl.StripDrop(b, "a")
	if code != 0 || !slices.Equal(got.Ticks, []int{10, 11}) {
		t.Errorf("sure without a: %v, code %d", got, code)
	}
}

func TestDropSomebodyPromised(t *testing.T) {
	b := later(t, added(t, impl.StripBook{}, lander("a", 3, 5, 40), leaver("b", 1, 6, 40)), 5)
	if b.Moves[0].Promise != 5 || !slices.Equal(b.Ticks, []int{5, 9}) || b.Moves[1].Promise != -1 {
		t.Fatalf("%v", b)
	}
	got, code := impl.StripDrop(b, "a")
	if code != 0 || !slices.Equal(got.Ticks, []int{9}) {
		t.Errorf("%v, code %d", got, code)
	}
}
