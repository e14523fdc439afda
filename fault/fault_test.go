package fault

import (
	"testing"

	"witan/api"
)

func TestTry(t *testing.T) {
	done := false
	if e := Try(func() { Give(api.OK); done = true }); e != api.OK || !done {
		t.Errorf("what did not give up: %d, %v", e, done)
	}
	done = false
	if e := Try(func() { Give(api.ErrForm); done = true }); e != api.ErrForm || done {
		t.Errorf("what gave up: %d, %v", e, done)
	}
	defer func() {
		if p := recover(); p != "other" {
			t.Errorf("another panic: %v", p)
		}
	}()
	Try(func() { panic("other") })
}
