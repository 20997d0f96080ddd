package wire

import (
	"errors"
	"testing"

	"rime/api"
)

// Only what a reader throws is caught.
func TestCaught(t *testing.T) {
	f := &Fault{Field: "sum", At: 44, Why: api.ErrSum}
	if caught(nil) != nil || caught(f) != error(f) {
		t.Fatal("a fault is not told")
	}
	other := errors.New("another")
	defer func() {
		if recover() != any(other) {
			t.Fatal("what is no reader's does not go on")
		}
	}()
	caught(other)
	t.Fatal("what is no reader's is caught")
}
