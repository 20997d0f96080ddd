package seal

import (
	"math/bits"

	"rime/api"
)

const (
	pieceSize = 16
	limbs     = 5
	limbBits  = 26
	limbMask  = 1<<limbBits - 1
	// fold is what 2^130 is modulo 2^130 - 5.
	fold = 5
)

// residue is a number modulo 2^130 - 5: five limbs of 26 bits, the lowest first. Between two products a limb may have some bits more.
type residue [limbs]uint64

// residueOf: the number of 17 bytes, the last of which is 0 or 1.
func residueOf(b *[pieceSize + 1]byte) residue {
	low, high, top := long(b[:]), long(b[8:]), uint64(b[16])
	return residue{
		low & limbMask,
		low >> 26 & limbMask,
		(low>>52 | high<<12) & limbMask,
		high >> 14 & limbMask,
		high>>40 | top<<24,
	}
}

func (a *residue) add(b *residue) {
	for i := range limbs {
		a[i] += b[i]
	}
}

// mul sets a to the product. While a's limbs are below 2^28 and b's below 2^26 each sum is below 2^60.
func (a *residue) mul(b *residue) {
	var sums [2*limbs - 1]uint64
	for i := range limbs {
		for j := range limbs {
			sums[i+j] += a[i] * b[j]
		}
	}
	for i := range limbs - 1 {
		sums[i] += fold * sums[limbs+i]
	}
	copy(a[:], sums[:limbs])
	over := a.carry()
	a[0] += fold * over
	a[1] += a[0] >> limbBits
	a[0] &= limbMask
}

// carry brings all limbs below 2^26, and takes off and tells what is beyond 2^130.
func (a *residue) carry() uint64 {
	var over uint64
	for i := range limbs {
		over += a[i]
		a[i] = over & limbMask
		over >>= limbBits
	}
	return over
}

// low: the lowest 128 bits of what a is modulo 2^130 - 5. What is folded at the first carry may outgrow its limb; at the second there is nothing left to fold.
func (a residue) low() (uint64, uint64) {
	over := a.carry()
	a[0] += fold * over
	a.carry()
	less := a
	less[0] += fold
	if less.carry() > 0 {
		a = less
	}
	return a[0] | a[1]<<26 | a[2]<<52, a[2]>>12 | a[3]<<14 | a[4]<<40
}

// tagger takes pieces: the sum so far, and the key's two halves.
type tagger struct {
	sum, r residue
	s      [pieceSize]byte
}

func newTagger(key api.Key) *tagger {
	var half [pieceSize + 1]byte
	copy(half[:pieceSize], key[:])
	for i := range 3 {
		half[4*i+3] &= 15
		half[4*i+4] &= 252
	}
	half[15] &= 15
	return &tagger{r: residueOf(&half), s: [pieceSize]byte(key[pieceSize:])}
}

// take takes a piece, and bytes 0 behind it up to a size.
func (t *tagger) take(piece []byte, size int) {
	var room [pieceSize + 1]byte
	copy(room[:], piece)
	room[size] = 1
	n := residueOf(&room)
	t.sum.add(&n)
	t.sum.mul(&t.r)
}

// takeFilled takes bytes piece by piece, the last one filled with bytes 0.
func (t *tagger) takeFilled(b []byte) {
	for len(b) > 0 {
		n := min(len(b), pieceSize)
		t.take(b[:n], pieceSize)
		b = b[n:]
	}
}

func (t *tagger) tag() api.Tag {
	low, high := t.sum.low()
	low, over := bits.Add64(low, long(t.s[:]), 0)
	high, _ = bits.Add64(high, long(t.s[8:]), over)
	var out api.Tag
	putLong(out[:8], low)
	putLong(out[8:], high)
	return out
}

// Mac: Poly1305's tag.
func Mac(key api.Key, b []byte) api.Tag {
	t := newTagger(key)
	whole := len(b) / pieceSize * pieceSize
	t.takeFilled(b[:whole])
	if rest := b[whole:]; len(rest) > 0 {
		t.take(rest, len(rest))
	}
	return t.tag()
}
