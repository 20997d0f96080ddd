package keyfile

import (
	"strconv"
	"strings"
)

// Trouble is at which step and in which line something is wrong, and what is behind it.
type Trouble struct {
	Step string
	Line int
	Err  error
}

// Error: its text. Troubles within one another are gone through in a loop, as there may be many.
func (t *Trouble) Error() string {
	var text strings.Builder
	for t != nil {
		text.WriteString(t.place() + ": ")
		within, isTrouble := t.Err.(*Trouble)
		if !isTrouble {
			text.WriteString(textOf(t.Err))
		}
		t = within
	}
	return text.String()
}

// place: the step, and the line, if it is in one.
func (t *Trouble) place() string {
	if t.Line == 0 {
		return t.Step
	}
	return t.Step + " in line " + strconv.Itoa(t.Line)
}

// Unwrap: what is behind it.
func (t *Trouble) Unwrap() error {
	if t == nil {
		return nil
	}
	return t.Err
}

// textOf: an error's own text. Anybody may put any error into a Trouble, and no call panics: one that cannot tell its text has none.
func textOf(err error) string {
	defer func() { _ = recover() }()
	if err == nil {
		return ""
	}
	return err.Error()
}

// trouble: with a line of 0 it is nowhere in the text.
func trouble(step string, line int, behind error) error {
	return &Trouble{Step: step, Line: line, Err: behind}
}
