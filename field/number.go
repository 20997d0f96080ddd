package field

import (
	"math/bits"

	"rime/api"
)

// number is a number modulo p in five limbs of some 51 bits. Its limbs are "loose", each below 2^52, wherever a method does not say that it takes any. Methods work by pointers, because copies of limbs cost more than an addition does; an argument may be the number that is set.
type number [5]uint64

const low51 = 1<<51 - 1

// load takes all 256 bits: the highest limb has 52 of them.
func (z *number) load(a *api.Fe) {
	w0, w1, w2, w3 := word(a[0:8]), word(a[8:16]), word(a[16:24]), word(a[24:32])
	z[0] = w0 & low51
	z[1] = (w0>>51 | w1<<13) & low51
	z[2] = (w1>>38 | w2<<26) & low51
	z[3] = (w2>>25 | w3<<39) & low51
	z[4] = w3 >> 12
}

// bytes takes any limbs; what it answers is canonical.
func (z *number) bytes() (a api.Fe) {
	z.reduce()
	pack(&a, z[0], z[1], z[2], z[3], z[4])
	return a
}

// store lays down the canonical bytes. Once all is carried up, a highest limb below that of p tells that the number is below p; it is seldom otherwise, and so the longer way of reduce is seldom gone.
func (z *number) store(a *api.Fe) {
	l0 := z[0]
	l1 := z[1] + l0>>51
	l2 := z[2] + l1>>51
	l3 := z[3] + l2>>51
	l4 := z[4] + l3>>51
	if l4 >= low51 {
		*a = z.bytes()
		return
	}
	pack(a, l0&low51, l1&low51, l2&low51, l3&low51, l4)
}

// pack lays limbs below 2^51 side by side.
func pack(a *api.Fe, l0, l1, l2, l3, l4 uint64) {
	putWord(a[0:8], l0|l1<<51)
	putWord(a[8:16], l1>>13|l2<<38)
	putWord(a[16:24], l2>>26|l3<<25)
	putWord(a[24:32], l3>>39|l4<<12)
}

// word and putWord are written out, because the compiler makes one load and one store of them, and not of a loop.
func word(b []byte) uint64 {
	_ = b[7]
	return uint64(b[0]) | uint64(b[1])<<8 | uint64(b[2])<<16 | uint64(b[3])<<24 |
		uint64(b[4])<<32 | uint64(b[5])<<40 | uint64(b[6])<<48 | uint64(b[7])<<56
}

func putWord(b []byte, w uint64) {
	_ = b[7]
	b[0] = byte(w)
	b[1] = byte(w >> 8)
	b[2] = byte(w >> 16)
	b[3] = byte(w >> 24)
	b[4] = byte(w >> 32)
	b[5] = byte(w >> 40)
	b[6] = byte(w >> 48)
	b[7] = byte(w >> 56)
}

// carry takes any limbs and leaves loose ones, of a number below 2p: what each has beyond 51 bits goes to the next, and from the highest, 19 times, to the lowest.
func (z *number) carry() {
	c0, c1, c2, c3, c4 := z[0]>>51, z[1]>>51, z[2]>>51, z[3]>>51, z[4]>>51
	z[0] = z[0]&low51 + c4*19
	z[1] = z[1]&low51 + c0
	z[2] = z[2]&low51 + c1
	z[3] = z[3]&low51 + c2
	z[4] = z[4]&low51 + c3
}

// reduce takes any limbs and leaves those of the canonical number. A number x below 2p is at least p just if x + 19 reaches 2^255; then x - p is x + 19 without that bit.
func (z *number) reduce() {
	z.carry()
	over := (z[0] + 19) >> 51
	over = (z[1] + over) >> 51
	over = (z[2] + over) >> 51
	over = (z[3] + over) >> 51
	over = (z[4] + over) >> 51
	l0 := z[0] + 19*over
	l1 := z[1] + l0>>51
	l2 := z[2] + l1>>51
	l3 := z[3] + l2>>51
	l4 := z[4] + l3>>51
	z[0], z[1], z[2], z[3], z[4] = l0&low51, l1&low51, l2&low51, l3&low51, l4&low51
}

func (z *number) isZero() bool {
	x := *z
	x.reduce()
	return x == number{}
}

func (z *number) add(x, y *number) {
	z[0] = x[0] + y[0]
	z[1] = x[1] + y[1]
	z[2] = x[2] + y[2]
	z[3] = x[3] + y[3]
	z[4] = x[4] + y[4]
	z.carry()
}

// sub adds 4p, whose limbs as they are written here are all above 2^52, so that no limb of the difference is below 0.
func (z *number) sub(x, y *number) {
	const lowest, other = 4 * (1<<51 - 19), 4 * (1<<51 - 1)
	z[0] = x[0] + lowest - y[0]
	z[1] = x[1] + other - y[1]
	z[2] = x[2] + other - y[2]
	z[3] = x[3] + other - y[3]
	z[4] = x[4] + other - y[4]
	z.carry()
}

// shift256 multiplies by 2^256, which is 38 modulo p.
func (z *number) shift256() {
	for i := range len(z) {
		z[i] *= 38
	}
	z.carry()
}

// wide is a sum of products of limbs, which outgrows 64 bits.
type wide struct{ hi, lo uint64 }

func product(a, b uint64) wide {
	hi, lo := bits.Mul64(a, b)
	return wide{hi, lo}
}

func (w wide) plus(a, b uint64) wide {
	hi, lo := bits.Mul64(a, b)
	lo, c := bits.Add64(w.lo, lo, 0)
	hi, _ = bits.Add64(w.hi, hi, c)
	return wide{hi, lo}
}

// over is what w has beyond 51 bits.
func (w wide) over() uint64 { return w.hi<<13 | w.lo>>51 }

// mul: what a product of two limbs gives to a place beyond the fifth comes back 19 times, five places lower. Of loose limbs each sum is below 2^111, and the highest, to which nothing comes back, below 2^107: so nothing overflows.
func (z *number) mul(x, y *number) {
	a0, a1, a2, a3, a4 := x[0], x[1], x[2], x[3], x[4]
	b0, b1, b2, b3, b4 := y[0], y[1], y[2], y[3], y[4]
	back1, back2, back3, back4 := a1*19, a2*19, a3*19, a4*19

	r0 := product(a0, b0).plus(back1, b4).plus(back2, b3).plus(back3, b2).plus(back4, b1)
	r1 := product(a0, b1).plus(a1, b0).plus(back2, b4).plus(back3, b3).plus(back4, b2)
	r2 := product(a0, b2).plus(a1, b1).plus(a2, b0).plus(back3, b4).plus(back4, b3)
	r3 := product(a0, b3).plus(a1, b2).plus(a2, b1).plus(a3, b0).plus(back4, b4)
	r4 := product(a0, b4).plus(a1, b3).plus(a2, b2).plus(a3, b1).plus(a4, b0)

	z[0] = r0.lo&low51 + r4.over()*19
	z[1] = r1.lo&low51 + r0.over()
	z[2] = r2.lo&low51 + r1.over()
	z[3] = r3.lo&low51 + r2.over()
	z[4] = r4.lo&low51 + r3.over()
	z.carry()
}

// square is mul of x and x, with the products that are there twice made once.
func (z *number) square(x *number) {
	a0, a1, a2, a3, a4 := x[0], x[1], x[2], x[3], x[4]
	twice0, twice1 := a0*2, a1*2
	back3, back4 := a3*19, a4*19

	r0 := product(a0, a0).plus(a1*38, a4).plus(a2*38, a3)
	r1 := product(twice0, a1).plus(a2*38, a4).plus(back3, a3)
	r2 := product(twice0, a2).plus(a1, a1).plus(a3*38, a4)
	r3 := product(twice0, a3).plus(twice1, a2).plus(back4, a4)
	r4 := product(twice0, a4).plus(twice1, a3).plus(a2, a2)

	z[0] = r0.lo&low51 + r4.over()*19
	z[1] = r1.lo&low51 + r0.over()
	z[2] = r2.lo&low51 + r1.over()
	z[3] = r3.lo&low51 + r2.over()
	z[4] = r4.lo&low51 + r3.over()
	z.carry()
}

// squares squares x so many times.
func (z *number) squares(x *number, count int) {
	*z = *x
	for range count {
		z.square(z)
	}
}
