package seal

import (
	"math"

	"rime/api"
)

// numberPlace is how many bytes 0 stand ahead of the number in a nonce.
const numberPlace = 4

// Sealer never uses a nonce twice: each box has a number of its own, and the number is the nonce.
type Sealer struct {
	key  api.Key
	next uint64
	made bool
}

// New: its first box has this number.
func New(key api.Key, next uint64) *Sealer { return &Sealer{key: key, next: next, made: true} }

// Box: a text sealed, its number ahead. One that no call made has no key of anybody's: it seals nothing.
func (s *Sealer) Box(open []byte, text []byte) ([]byte, api.Errno) {
	if s == nil || !s.made {
		return nil, api.ErrMade
	}
	if s.next == math.MaxUint64 {
		return nil, api.ErrEnd
	}
	nonce := nonceOf(s.next)
	s.next++
	out := make([]byte, nonceSize+len(text)+tagSize)
	copy(out, nonce[:])
	sealInto(out[nonceSize:], s.key, nonce, open, text)
	return out, api.OK
}

// Next: the next box's number.
func (s *Sealer) Next() uint64 {
	if s == nil {
		return 0
	}
	return s.next
}

// Unbox: the text and the number of a box.
func Unbox(key api.Key, open []byte, box []byte) ([]byte, uint64, api.Errno) {
	if len(box) < nonceSize+tagSize {
		return nil, 0, api.ErrLength
	}
	nonce := api.Nonce(box[:nonceSize])
	number := long(nonce[numberPlace:])
	if nonce != nonceOf(number) {
		return nil, 0, api.ErrArg
	}
	text, errno := Open(key, nonce, open, box[nonceSize:])
	if errno != api.OK {
		return nil, 0, errno
	}
	return text, number, api.OK
}

func nonceOf(number uint64) api.Nonce {
	var nonce api.Nonce
	putLong(nonce[numberPlace:], number)
	return nonce
}
