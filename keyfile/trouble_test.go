package keyfile_test

import (
	"errors"
	"math"
	"strings"
	"testing"

	"rime/api"
	"rime/keyfile"
)

func wantText(t *testing.T, err error, text string) {
	t.Helper()
	if err.Error() != text {
		t.Fatalf("%q, not %q", err.Error(), text)
	}
}

func TestTroubleText(t *testing.T) {
	wantText(t, &keyfile.Trouble{Step: "pass", Err: api.ErrPass}, "pass: rime 143")
	wantText(t, &keyfile.Trouble{Step: "armour", Line: 7, Err: api.ErrArmour}, "armour in line 7: rime 142")
	inner := &keyfile.Trouble{Step: "Salt", Line: 3, Err: api.ErrArmour}
	wantText(t, &keyfile.Trouble{Step: "headers", Line: 2, Err: inner}, "headers in line 2: Salt in line 3: rime 142")
	wantText(t, &keyfile.Trouble{Step: "other", Err: errors.New("not ours")}, "other: not ours")
	wantText(t, &keyfile.Trouble{Line: -1, Err: api.OK}, " in line -1: rime 0")
	wantText(t, &keyfile.Trouble{Step: "x", Line: math.MinInt}, "x in line -9223372036854775808: ")
	wantText(t, &keyfile.Trouble{Step: "x", Line: math.MaxInt}, "x in line 9223372036854775807: ")
}

func TestTroubleOfNothing(t *testing.T) {
	var none *keyfile.Trouble
	wantText(t, none, "")
	if none.Unwrap() != nil {
		t.Fatalf("behind a nil Trouble: %v", none.Unwrap())
	}
	wantText(t, &keyfile.Trouble{}, ": ")
	wantText(t, &keyfile.Trouble{Step: "x", Line: 1}, "x in line 1: ")
	wantText(t, &keyfile.Trouble{Step: "x", Err: none}, "x: ")
	if (&keyfile.Trouble{Step: "x"}).Unwrap() != nil {
		t.Fatal("something behind a Trouble without an Err")
	}
}

func TestTroubleUnwrap(t *testing.T) {
	inner := &keyfile.Trouble{Step: "check", Err: api.ErrTwice}
	outer := &keyfile.Trouble{Step: "keys", Err: inner}
	if outer.Unwrap() != error(inner) || inner.Unwrap() != error(api.ErrTwice) {
		t.Fatal("Unwrap is not Err")
	}
	var errno api.Errno
	var trouble *keyfile.Trouble
	if !errors.Is(outer, api.ErrTwice) || errors.Is(outer, api.ErrOrder) || !errors.As(outer, &errno) || errno != api.ErrTwice || !errors.As(outer, &trouble) || trouble != outer {
		t.Fatal("what is behind is not found")
	}
}

// throws is an error that has no text.
type throws struct{ text *string }

func (x throws) Error() string { return *x.text }

// P1: whatever stands behind it.
func TestTroubleOfPanic(t *testing.T) {
	wantText(t, &keyfile.Trouble{Step: "x", Line: 2, Err: throws{}}, "x in line 2: ")
	var none *throws
	wantText(t, &keyfile.Trouble{Step: "x", Err: none}, "x: ")
}

// P1: as deep as parts may be nested.
func TestTroubleDeep(t *testing.T) {
	var err error = api.ErrPass
	for range 1 << 16 {
		err = &keyfile.Trouble{Err: err}
	}
	wantText(t, err, strings.Repeat(": ", 1<<16)+"rime 143")
	if !errors.Is(err, api.ErrPass) {
		t.Fatal("what is behind is not found")
	}
}
