package impl

import "testing"

// The table and the function are held against each other here, as no exported
// function tells what the table alone says.

func TestTableAndFunctionSayTheSame(t *testing.T) {
	for _, lands := range []bool{false, true} {
		for ahead := 1; ahead <= StripMaxWake; ahead++ {
			for behind := 1; behind <= StripMaxWake; behind++ {
				a, b := StripMove{Lands: lands, Wake: ahead}, StripMove{Wake: behind}
				if toldGap(a, b) != gapOf(a, b) {
					t.Errorf("lands %v, wakes %d and %d: the table says %d, the function %d", lands, ahead, behind, toldGap(a, b), gapOf(a, b))
				}
			}
		}
	}
}

func TestTableAndFunctionSayTheSameOfWakesThatAreNone(t *testing.T) {
	for _, lands := range []bool{false, true} {
		for ahead := -2; ahead <= StripMaxWake+2; ahead++ {
			for behind := -2; behind <= StripMaxWake+2; behind++ {
				a, b := StripMove{Lands: lands, Wake: ahead}, StripMove{Lands: true, Wake: behind}
				if toldGap(a, b) != gapOf(a, b) {
					t.Errorf("lands %v, wakes %d and %d: the table says %d, the function %d", lands, ahead, behind, toldGap(a, b), gapOf(a, b))
				}
			}
		}
	}
}

// The whole table, so that no place of it is left as it was ahead of start-up.
func TestTableOfGaps(t *testing.T) {
	want := [2][4][4]int{
		{{1, 1, 1, 1}, {1, 1, 1, 1}, {1, 2, 1, 1}, {1, 3, 2, 1}},
		{{2, 2, 2, 2}, {2, 2, 2, 2}, {2, 3, 2, 2}, {2, 4, 3, 2}},
	}
	if gaps != want {
		t.Errorf("the table is %v, want %v", gaps, want)
	}
}
