package wire

import (
	"strconv"

	"rime/api"
)

// Fault is where a message or a frame is wrong, and why.
type Fault struct {
	Field string
	At    int
	Why   api.Errno
}

// Error: its text.
func (f *Fault) Error() string {
	if f == nil {
		return ""
	}
	return f.Field + " at " + strconv.Itoa(f.At) + ": " + f.Why.Error()
}

// Unwrap: why.
func (f *Fault) Unwrap() error {
	if f == nil {
		return nil
	}
	return f.Why
}

// giveUp ends all reading at once; the face that has begun it catches the fault.
func giveUp(field string, at int, why api.Errno) { panic(&Fault{Field: field, At: at, Why: why}) }

// caught: the fault with which a reader gave up, or nil, if it did not. Whatever else was thrown is no reader's, and hiding it would hide a mistake of the program.
func caught(thrown any) error {
	switch x := thrown.(type) {
	case nil:
		return nil
	case *Fault:
		return x
	default:
		panic(x)
	}
}
