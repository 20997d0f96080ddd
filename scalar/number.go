package scalar

import (
	"math/bits"

	"rime/api"
)

// number is a number below L in four words, the lowest first. Every method takes numbers below L and leaves one. They work by pointers, because copies of words cost more than an addition does; an argument may be the number that is set.
type number [4]uint64

// L is 2^252 + c; c has two words, which are the lowest two of L.
const (
	order0 = 0x5812631a5cf5d3ed
	order1 = 0x14def9dea2f79cd6
	order3 = 1 << 60
)

const low60 = 1<<60 - 1

// load takes all 256 bits. Only what has bits beyond 252 is to be folded: what is below 2^252 is below L.
func (z *number) load(a *api.Scalar) {
	z[0], z[1], z[2], z[3] = word(a[0:8]), word(a[8:16]), word(a[16:24]), word(a[24:32])
	if z[3] > low60 {
		var low number
		w := wide{z[0], z[1], z[2], z[3]}
		w.fold(&low)
		z.sub(&low, &number{w[0], w[1], w[2], w[3]})
	}
}

func (z *number) bytes() (a api.Scalar) {
	putWord(a[0:8], z[0])
	putWord(a[8:16], z[1])
	putWord(a[16:24], z[2])
	putWord(a[24:32], z[3])
	return a
}

// word and putWord are written out, because the compiler makes one load and one store of them, and not of a loop.
func word(b []byte) uint64 {
	_ = b[7]
	return uint64(b[0]) | uint64(b[1])<<8 | uint64(b[2])<<16 | uint64(b[3])<<24 |
		uint64(b[4])<<32 | uint64(b[5])<<40 | uint64(b[6])<<48 | uint64(b[7])<<56
}

func putWord(b []byte, w uint64) {
	_ = b[7]
	b[0] = byte(w)
	b[1] = byte(w >> 8)
	b[2] = byte(w >> 16)
	b[3] = byte(w >> 24)
	b[4] = byte(w >> 32)
	b[5] = byte(w >> 40)
	b[6] = byte(w >> 48)
	b[7] = byte(w >> 56)
}

func (z *number) add(x, y *number) {
	w0, c := bits.Add64(x[0], y[0], 0)
	w1, c := bits.Add64(x[1], y[1], c)
	w2, c := bits.Add64(x[2], y[2], c)
	w3, _ := bits.Add64(x[3], y[3], c)
	w0, b := bits.Sub64(w0, order0, 0)
	w1, b = bits.Sub64(w1, order1, b)
	w2, b = bits.Sub64(w2, 0, b)
	w3, b = bits.Sub64(w3, order3, b)
	z.setAbove(w0, w1, w2, w3, b)
}

func (z *number) sub(x, y *number) {
	w0, b := bits.Sub64(x[0], y[0], 0)
	w1, b := bits.Sub64(x[1], y[1], b)
	w2, b := bits.Sub64(x[2], y[2], b)
	w3, b := bits.Sub64(x[3], y[3], b)
	z.setAbove(w0, w1, w2, w3, b)
}

// setAbove sets z to a difference of four words, and adds L if it has borrowed, for then it is below 0.
func (z *number) setAbove(w0, w1, w2, w3, borrowed uint64) {
	mask := -borrowed
	var c uint64
	z[0], c = bits.Add64(w0, order0&mask, 0)
	z[1], c = bits.Add64(w1, order1&mask, c)
	z[2], c = bits.Add64(w2, 0, c)
	z[3], _ = bits.Add64(w3, order3&mask, c)
}

func (z *number) mul(x, y *number) { z.mulAdd(x, y, &number{}) }

// mulAdd sets z to x times y, and a.
func (z *number) mulAdd(x, y, a *number) {
	w := wide{a[0], a[1], a[2], a[3]}
	w.addProduct(x, y)
	z.reduce(&w)
}

// wide is a number that outgrows four words: a product and one more, below L^2, and what is folded out of it.
type wide [8]uint64

// addProduct: the words of w beyond the fourth are 0 ahead of it. It is written out, as fold is, because a loop is slower.
func (w *wide) addProduct(x, y *number) {
	y0, y1, y2, y3 := y[0], y[1], y[2], y[3]
	over, w0 := step(x[0], y0, w[0], 0)
	over, w1 := step(x[0], y1, w[1], over)
	over, w2 := step(x[0], y2, w[2], over)
	w4, w3 := step(x[0], y3, w[3], over)

	over, w1 = step(x[1], y0, w1, 0)
	over, w2 = step(x[1], y1, w2, over)
	over, w3 = step(x[1], y2, w3, over)
	w5, w4 := step(x[1], y3, w4, over)

	over, w2 = step(x[2], y0, w2, 0)
	over, w3 = step(x[2], y1, w3, over)
	over, w4 = step(x[2], y2, w4, over)
	w6, w5 := step(x[2], y3, w5, over)

	over, w3 = step(x[3], y0, w3, 0)
	over, w4 = step(x[3], y1, w4, over)
	over, w5 = step(x[3], y2, w5, over)
	w7, w6 := step(x[3], y3, w6, over)
	w[0], w[1], w[2], w[3], w[4], w[5], w[6], w[7] = w0, w1, w2, w3, w4, w5, w6, w7
}

// step is x times y, and a, and b: that never outgrows two words.
func step(x, y, a, b uint64) (hi, lo uint64) {
	hi, lo = bits.Mul64(x, y)
	lo, c := bits.Add64(lo, a, 0)
	hi, _ = bits.Add64(hi, 0, c)
	lo, c = bits.Add64(lo, b, 0)
	hi, _ = bits.Add64(hi, 0, c)
	return hi, lo
}

// fold parts w, which is below 2^508, at bit 252: low is what is below, and w becomes c times what is above. Since 2^252 is -c modulo L, what w was is low less what it becomes.
func (w *wide) fold(low *number) {
	low[0], low[1], low[2], low[3] = w[0], w[1], w[2], w[3]&low60
	h0, h1, h2, h3 := w[3]>>60|w[4]<<4, w[4]>>60|w[5]<<4, w[5]>>60|w[6]<<4, w[6]>>60|w[7]<<4
	over, w0 := step(h0, order0, 0, 0)
	over, w1 := step(h1, order0, 0, over)
	over, w2 := step(h2, order0, 0, over)
	w4, w3 := step(h3, order0, 0, over)

	over, w1 = step(h0, order1, w1, 0)
	over, w2 = step(h1, order1, w2, over)
	over, w3 = step(h2, order1, w3, over)
	w5, w4 := step(h3, order1, w4, over)
	w[0], w[1], w[2], w[3], w[4], w[5], w[6], w[7] = w0, w1, w2, w3, w4, w5, 0, 0
}

// reduce sets z to w modulo L. As w is below L^2, less than 2^253 is above bit 252, and c times it is below 2^378; of that again less than 2^126 is above, and c times it is below 2^252. So each of the three parts is below L.
func (z *number) reduce(w *wide) {
	var low, middle number
	w.fold(&low)
	w.fold(&middle)
	z.sub(&low, &middle)
	z.add(z, &number{w[0], w[1], w[2], w[3]})
}

// power sets z to x to the number of these bytes.
func (z *number) power(x *number, e []byte) {
	base, out := *x, number{1}
	for i := range len(e) {
		octet := e[len(e)-1-i]
		for bit := range 8 {
			out.mul(&out, &out)
			if octet<<bit&128 != 0 {
				out.mul(&out, &base)
			}
		}
	}
	*z = out
}

// invert sets z to x to L - 2.
func (z *number) invert(x *number) {
	exponent := number{order0 - 2, order1, 0, order3}
	e := exponent.bytes()
	z.power(x, e[:])
}

// half sets z to x to (L - 1) / 2.
func (z *number) half(x *number) {
	exponent := number{(order0-1)>>1 | order1&1<<63, order1 >> 1, 0, order3 >> 1}
	e := exponent.bytes()
	z.power(x, e[:])
}
