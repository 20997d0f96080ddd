package drbg

import (
	"slices"

	"rime/api"
	"rime/scalar"
)

// mostScalars is how many scalars one call gives.
const mostScalars = 65536

// Source gives random bytes.
type Source interface {
	Random() (api.Random, api.Errno)
}

// Tape gives what was laid down ahead.
type Tape struct {
	left []api.Random
	made bool
}

// NewTape: over these.
func NewTape(l []api.Random) *Tape { return &Tape{left: slices.Clone(l), made: true} }

// Random: the next one.
func (t *Tape) Random() (api.Random, api.Errno) {
	if t == nil || !t.made {
		return api.Random{}, api.ErrMade
	}
	if len(t.left) == 0 {
		return api.Random{}, api.ErrEnd
	}
	first := t.left[0]
	t.left = t.left[1:]
	return first, api.OK
}

// Left: how many are left.
func (t *Tape) Left() int {
	if t == nil {
		return 0
	}
	return len(t.left)
}

// Scalars: n of them.
func Scalars(s Source, n int) ([]api.Scalar, api.Errno) {
	if s == nil || n < 0 || n > mostScalars {
		return nil, api.ErrArg
	}
	var out []api.Scalar
	for range n {
		a, errno := nextScalar(s)
		if errno != api.OK {
			return out, errno
		}
		out = append(out, a)
	}
	return out, api.OK
}

// nextScalar is made of twice as many bytes as it has, so that modulo L all are as likely as each other but for next to nothing.
func nextScalar(s Source) (api.Scalar, api.Errno) {
	low, errno := ask(s)
	if errno != api.OK {
		return api.Scalar{}, errno
	}
	high, errno := ask(s)
	if errno != api.OK {
		return api.Scalar{}, errno
	}
	return scalar.Reduce(slices.Concat(low[:], high[:])), api.OK
}

// ask: the next Random of a source that may be anybody's. One that panics counts as one that answers ErrArg, for those who ask must not panic, whatever they are given.
func ask(s Source) (r api.Random, errno api.Errno) {
	defer func() {
		if recover() != nil {
			errno = api.ErrArg
		}
	}()
	return s.Random()
}
