package sha512

import "rime/api"

// tooMany is how many bytes are more than any call takes: eight times their number would outgrow 64 bits.
const tooMany = 1 << 61

// Hasher takes bytes piece by piece. The room of its tail is its own array, so that even a copy of a Hasher shares nothing with it.
type Hasher struct {
	words [8]uint64
	tail  [blockSize]byte
	taken uint64
	made  bool
}

func begun() Hasher { return Hasher{words: firstWords, made: true} }

// New: an empty one.
func New() *Hasher {
	h := begun()
	return &h
}

// Resume: one that goes on.
func Resume(m api.Midstate) (*Hasher, api.Errno) {
	if uint64(len(m.Tail)) != m.Len%blockSize || m.Len >= tooMany {
		return nil, api.ErrArg
	}
	h := &Hasher{words: m.Words, taken: m.Len, made: true}
	copy(h.tail[:], m.Tail)
	return h, api.OK
}

// Write takes some more. Whole blocks are gone through where they lie; only what begins or ends within a block is copied.
func (h *Hasher) Write(b []byte) {
	if h == nil || !h.made {
		return
	}
	filled := h.taken % blockSize
	h.taken += uint64(len(b))
	if filled > 0 {
		n := copy(h.tail[filled:], b)
		if b = b[n:]; filled+uint64(n) < blockSize {
			return
		}
		compress(&h.words, h.tail[:])
	}
	for len(b) >= blockSize {
		compress(&h.words, b[:blockSize])
		b = b[blockSize:]
	}
	copy(h.tail[:], b)
}

// Sum: the digest of all that was taken. The filling goes to a copy, so that more may be taken behind it.
func (h *Hasher) Sum() api.Digest {
	if h == nil || !h.made {
		return api.Digest{}
	}
	filled := *h
	var room [longestFilling]byte
	filled.Write(room[:fill(&room, h.taken)])
	var digest api.Digest
	for i := range filled.words {
		putWord(digest[8*i:], filled.words[i])
	}
	return digest
}

// Len: how many bytes were taken.
func (h *Hasher) Len() uint64 {
	if h == nil {
		return 0
	}
	return h.taken
}

// Reset: as at the beginning.
func (h *Hasher) Reset() {
	if h != nil && h.made {
		*h = begun()
	}
}

// State: what is laid aside, to be gone on with.
func (h *Hasher) State() api.Midstate {
	if h == nil || !h.made {
		return api.Midstate{}
	}
	tail := make([]byte, h.taken%blockSize)
	copy(tail, h.tail[:])
	return api.Midstate{Words: h.words, Tail: tail, Len: h.taken}
}
