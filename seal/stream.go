package seal

import (
	"math/bits"

	"rime/api"
)

const (
	blockSize    = 64
	counterPlace = 12
	counters     = 1 << 32
)

// state is the sixteen numbers that a block is made of.
type state [16]uint32

func begun(key api.Key, counter uint32, nonce api.Nonce) state {
	s := state{0x61707865, 0x3320646e, 0x79622d32, 0x6b206574, counterPlace: counter}
	for i := range 8 {
		s[4+i] = word(key[4*i:])
	}
	for i := range 3 {
		s[counterPlace+1+i] = word(nonce[4*i:])
	}
	return s
}

// Block: 64 bytes of ChaCha20.
func Block(key api.Key, counter uint32, nonce api.Nonce) [64]byte {
	s := begun(key, counter, nonce)
	return s.block()
}

// Stream: bytes under the blocks from a counter on.
func Stream(key api.Key, counter uint32, nonce api.Nonce, b []byte) ([]byte, api.Errno) {
	blocks := (uint64(len(b)) + blockSize - 1) / blockSize
	if uint64(counter)+blocks > counters {
		return nil, api.ErrEnd
	}
	out := make([]byte, len(b))
	mask(out, b, begun(key, counter, nonce))
	return out, api.OK
}

// mask lays b into out under the blocks from a state on.
func mask(out, b []byte, s state) {
	for len(b) > 0 {
		block := s.block()
		n := min(len(b), blockSize)
		for i := range n {
			out[i] = b[i] ^ block[i]
		}
		out, b = out[n:], b[n:]
		s[counterPlace]++
	}
}

func (s *state) block() [blockSize]byte {
	x := *s
	for range 10 {
		x.stir()
	}
	var out [blockSize]byte
	for i := range 16 {
		putWord(out[4*i:], x[i]+s[i])
	}
	return out
}

// stir takes the numbers as four rows of four: quarter rounds of the columns, then of the diagonals.
func (s *state) stir() {
	for i := range 4 {
		s[i], s[4+i], s[8+i], s[12+i] = quarter(s[i], s[4+i], s[8+i], s[12+i])
	}
	for i := range 4 {
		j, k, l := 4+(i+1)%4, 8+(i+2)%4, 12+(i+3)%4
		s[i], s[j], s[k], s[l] = quarter(s[i], s[j], s[k], s[l])
	}
}

func quarter(a, b, c, d uint32) (uint32, uint32, uint32, uint32) {
	a += b
	d = bits.RotateLeft32(d^a, 16)
	c += d
	b = bits.RotateLeft32(b^c, 12)
	a += b
	d = bits.RotateLeft32(d^a, 8)
	c += d
	b = bits.RotateLeft32(b^c, 7)
	return a, b, c, d
}

// word and putWord are written out, because the compiler makes one load and one store of them, and not of a loop.
func word(b []byte) uint32 {
	_ = b[3]
	return uint32(b[0]) | uint32(b[1])<<8 | uint32(b[2])<<16 | uint32(b[3])<<24
}

func putWord(b []byte, w uint32) {
	_ = b[3]
	b[0] = byte(w)
	b[1] = byte(w >> 8)
	b[2] = byte(w >> 16)
	b[3] = byte(w >> 24)
}

func long(b []byte) uint64 { return uint64(word(b)) | uint64(word(b[4:]))<<32 }

func putLong(b []byte, w uint64) {
	putWord(b, uint32(w))
	putWord(b[4:], uint32(w>>32))
}
