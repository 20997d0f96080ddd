package sha512

import "math/bits"

const (
	blockSize = 128
	// A filling has one byte 128, at most 127 bytes 0, and 16 bytes.
	longestFilling = 1 + 127 + 16
)

// firstWords are the first 64 bits behind the point of the square roots of the first eight primes.
var firstWords = [8]uint64{
	0x6a09e667f3bcc908, 0xbb67ae8584caa73b, 0x3c6ef372fe94f82b, 0xa54ff53a5f1d36f1,
	0x510e527fade682d1, 0x9b05688c2b3e6c1f, 0x1f83d9abfb41bd6b, 0x5be0cd19137e2179,
}

// roundWords are the first 64 bits behind the point of the cube roots of the first eighty primes.
var roundWords = [80]uint64{
	0x428a2f98d728ae22, 0x7137449123ef65cd, 0xb5c0fbcfec4d3b2f, 0xe9b5dba58189dbbc,
	0x3956c25bf348b538, 0x59f111f1b605d019, 0x923f82a4af194f9b, 0xab1c5ed5da6d8118,
	0xd807aa98a3030242, 0x12835b0145706fbe, 0x243185be4ee4b28c, 0x550c7dc3d5ffb4e2,
	0x72be5d74f27b896f, 0x80deb1fe3b1696b1, 0x9bdc06a725c71235, 0xc19bf174cf692694,
	0xe49b69c19ef14ad2, 0xefbe4786384f25e3, 0x0fc19dc68b8cd5b5, 0x240ca1cc77ac9c65,
	0x2de92c6f592b0275, 0x4a7484aa6ea6e483, 0x5cb0a9dcbd41fbd4, 0x76f988da831153b5,
	0x983e5152ee66dfab, 0xa831c66d2db43210, 0xb00327c898fb213f, 0xbf597fc7beef0ee4,
	0xc6e00bf33da88fc2, 0xd5a79147930aa725, 0x06ca6351e003826f, 0x142929670a0e6e70,
	0x27b70a8546d22ffc, 0x2e1b21385c26c926, 0x4d2c6dfc5ac42aed, 0x53380d139d95b3df,
	0x650a73548baf63de, 0x766a0abb3c77b2a8, 0x81c2c92e47edaee6, 0x92722c851482353b,
	0xa2bfe8a14cf10364, 0xa81a664bbc423001, 0xc24b8b70d0f89791, 0xc76c51a30654be30,
	0xd192e819d6ef5218, 0xd69906245565a910, 0xf40e35855771202a, 0x106aa07032bbd1b8,
	0x19a4c116b8d2d0c8, 0x1e376c085141ab53, 0x2748774cdf8eeb99, 0x34b0bcb5e19b48a8,
	0x391c0cb3c5c95a63, 0x4ed8aa4ae3418acb, 0x5b9cca4f7763e373, 0x682e6ff3d6b2b8a3,
	0x748f82ee5defb2fc, 0x78a5636f43172f60, 0x84c87814a1f0ab72, 0x8cc702081a6439ec,
	0x90befffa23631e28, 0xa4506cebde82bde9, 0xbef9a3f7b2c67915, 0xc67178f2e372532b,
	0xca273eceea26619c, 0xd186b8c721c0c207, 0xeada7dd6cde0eb1e, 0xf57d4f7fee6ed178,
	0x06f067aa72176fba, 0x0a637dc5a2c898a6, 0x113f9804bef90dae, 0x1b710b35131c471b,
	0x28db77f523047d84, 0x32caab7b40c72493, 0x3c9ebe0a15c9bebc, 0x431d67c49c100d4c,
	0x4cc5d4becb3e42b6, 0x597f299cfc657e2a, 0x5fcb6fab3ad6faec, 0x6c44198c4a475817,
}

// fill lays into room, which is 0 ahead of it, what filling lays behind n bytes, and tells how many bytes that are. That 111 - n may wrap round does no harm: 128 divides 2^64. The upper half of the length stays 0: there are fewer than 2^61 bytes.
func fill(room *[longestFilling]byte, n uint64) int {
	zeros := (111 - n) % blockSize
	room[0] = 128
	putWord(room[1+zeros+8:], 8*n)
	return int(1 + zeros + 16)
}

// word and putWord are written out, because the compiler makes one load and one store of them, and not of a loop.
func word(b []byte) uint64 {
	_ = b[7]
	return uint64(b[7]) | uint64(b[6])<<8 | uint64(b[5])<<16 | uint64(b[4])<<24 |
		uint64(b[3])<<32 | uint64(b[2])<<40 | uint64(b[1])<<48 | uint64(b[0])<<56
}

func putWord(b []byte, w uint64) {
	_ = b[7]
	b[0] = byte(w >> 56)
	b[1] = byte(w >> 48)
	b[2] = byte(w >> 40)
	b[3] = byte(w >> 32)
	b[4] = byte(w >> 24)
	b[5] = byte(w >> 16)
	b[6] = byte(w >> 8)
	b[7] = byte(w)
}

func ror(x uint64, n int) uint64 { return bits.RotateLeft64(x, -n) }

// spread sets w to the eighty words that a block of 128 bytes is spread to.
func spread(w *[80]uint64, block []byte) {
	for i := range 16 {
		w[i] = word(block[8*i:])
	}
	for i := 16; i < 80; i++ {
		x, y := w[i-15], w[i-2]
		s0 := ror(x, 1) ^ ror(x, 8) ^ x>>7
		s1 := ror(y, 19) ^ ror(y, 61) ^ y>>6
		w[i] = w[i-16] + s0 + w[i-7] + s1
	}
}

func turned(x uint64, i, j, k int) uint64 { return ror(x, i) ^ ror(x, j) ^ ror(x, k) }

func choice(e, f, g uint64) uint64 { return e&f ^ ^e&g }

func majority(a, b, c uint64) uint64 { return a&b ^ a&c ^ b&c }

// compress sets the state to that behind a block of 128 bytes.
func compress(state *[8]uint64, block []byte) {
	var w [80]uint64
	spread(&w, block)
	a, b, c, d, e, f, g, h := state[0], state[1], state[2], state[3], state[4], state[5], state[6], state[7]
	for i := range 80 {
		t1 := h + turned(e, 14, 18, 41) + choice(e, f, g) + roundWords[i] + w[i]
		t2 := turned(a, 28, 34, 39) + majority(a, b, c)
		a, b, c, d, e, f, g, h = t1+t2, a, b, c, d+t1, e, f, g
	}
	state[0] += a
	state[1] += b
	state[2] += c
	state[3] += d
	state[4] += e
	state[5] += f
	state[6] += g
	state[7] += h
}
