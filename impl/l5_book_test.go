package impl

import (
	"errors"
	"testing"
)

// What a refusal is as an error is tested here, as the exported functions tell
// nothing of it but the code.

func TestCodeOfRefusals(t *testing.T) {
	for code := refusedBook; code <= refusedUnsure; code++ {
		err := error(refusal{code: code})
		if codeOf(err) != code || codeOf(errors.Join(errors.New("around it"), err)) != code {
			t.Errorf("the code %d is not found: %d", code, codeOf(err))
		}
	}
	if codeOf(nil) != 0 {
		t.Errorf("without an error the code is %d", codeOf(nil))
	}
}

func TestTextOfRefusals(t *testing.T) {
	if text := (refusal{code: refusedName}).Error(); text != "refused with code 3" {
		t.Errorf("%q", text)
	}
}

func TestWhichChangesNeedTheBookToBeSure(t *testing.T) {
	for _, c := range []change{coming{}, going{}, rounding{}, passing{}} {
		_, needs := c.(sureChange)
		if _, comes := c.(coming); needs != comes {
			t.Errorf("%T: %v", c, needs)
		}
	}
}
