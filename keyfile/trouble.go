package keyfile

import "strconv"

// Trouble is at which step and in which line something is wrong, and what is behind it.
type Trouble struct {
	Step string
	Line int
	Err  error
}

// Error: its text.
func (t *Trouble) Error() string {
	if t == nil {
		return ""
	}
	place := ""
	if t.Line != 0 {
		place = " in line " + strconv.Itoa(t.Line)
	}
	return t.Step + place + ": " + textOf(t.Err)
}

// Unwrap: what is behind it.
func (t *Trouble) Unwrap() error {
	if t == nil {
		return nil
	}
	return t.Err
}

// textOf: an error's own text. Anybody may put any error into a Trouble, and no call panics: one that cannot tell its text has none.
func textOf(err error) string {
	defer func() { _ = recover() }()
	if err == nil {
		return ""
	}
	return err.Error()
}

// trouble: with a line of 0 it is nowhere in the text.
func trouble(step string, line int, behind error) error {
	return &Trouble{Step: step, Line: line, Err: behind}
}
