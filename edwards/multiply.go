package edwards

import (
	"rime/api"
	"rime/field"
	"rime/scalar"
)

const (
	width = 5   // of the signed digits: they are odd and between -16 and 16, or 0
	half  = 128 // bits of half a factor
	batch = 64  // so many terms share their doublings; more would only take more room
)

// digits: a factor is the sum of each times 2 to the power of its place.
type digits [2*half + 1]int8

// set: chapter 2's digits are those of a number modulo L, and a factor is not reduced. So each of its halves, which are below L, has digits of its own.
func (d *digits) set(k api.Scalar) {
	carry := d.take(0, k[:16], 0)
	d[2*half] = d.take(half, k[16:], carry)
}

// take sets the digits of half a factor or less, with carry added to it, from a place on, and answers what goes beyond them, which is 0 or 1.
func (d *digits) take(at int, part []byte, carry int8) int8 {
	var k api.Scalar
	copy(k[:], part)
	naf, _ := scalar.Naf(scalar.Add(k, api.Scalar{byte(carry)}), width)
	for i := range half {
		d[at+i] = int8(naf[i])
	}
	return int8(naf[half])
}

// multiples are those by 1, 3, 5 .. 15: what a digit can ask for, but for the sign.
type multiples [1 << (width - 2)]addend

func (m *multiples) fill(p point) {
	twice := p
	twice.double()
	step := twice.addend()
	m[0] = p.addend()
	for i := range len(m) - 1 {
		p.add(&step)
		m[i+1] = p.addend()
	}
}

// term is a multiple of a point that is to be summed up.
type term struct {
	digits    digits
	multiples multiples
}

func (t *term) set(k api.Scalar, p point) {
	t.digits.set(k)
	t.multiples.fill(p)
}

// sum goes through the places of all terms at once, from the highest on, so that they share the doublings.
func sum(terms []term) point {
	out := identity()
	double, add, sub := out.double, out.add, out.sub
	for place := highest(terms); place >= 0; place-- {
		double()
		for i := range terms {
			t := &terms[i]
			switch digit := t.digits[place]; {
			case digit > 0:
				add(&t.multiples[digit/2])
			case digit < 0:
				sub(&t.multiples[-digit/2])
			}
		}
	}
	return out
}

// highest is the highest place that has a digit; -1, if none has.
func highest(terms []term) int {
	for i := range 2*half + 1 {
		place := 2*half - i
		for j := range terms {
			if terms[j].digits[place] != 0 {
				return place
			}
		}
	}
	return -1
}

func multiple(k api.Scalar, p point) point {
	var t [1]term
	t[0].set(k, p)
	return sum(t[:])
}

// bases are the base point and its multiples by 2^64, 2^128 and 2^192: with the quarters of a factor as digits they spare three quarters of the doublings.
func bases() [4]point {
	return [4]point{
		affine(
			field.Join(api.Limbs{0x62d608f25d51a, 0x412a4b4f6592a, 0x75b7171a4b31d, 0x1ff60527118fe, 0x216936d3cd6e5}),
			field.Join(api.Limbs{0x6666666666658, 0x4cccccccccccc, 0x1999999999999, 0x3333333333333, 0x6666666666666}),
		),
		affine(
			field.Join(api.Limbs{0x36b8ff4eda202, 0x7daa346bd67c1, 0x2822a5801e36d, 0x4eaea25b067da, 0x6222bd88bf2df}),
			field.Join(api.Limbs{0x6fa5782e45313, 0x117520560d1e3, 0x6df13d5042d8, 0x12eeb5ed7693, 0x325bb42ea4ed}),
		),
		affine(
			field.Join(api.Limbs{0x47ae60b7e824, 0x1385ce47cbf90, 0x538a682639a17, 0x1964a969cc270, 0x4c27afff3c45f}),
			field.Join(api.Limbs{0x2bd114bf5a66b, 0x3ca349893cb77, 0x30a70ea4342f8, 0x43ecaf88f5b13, 0x5f2c99e6526dc}),
		),
		affine(
			field.Join(api.Limbs{0x2d644c7dad28d, 0x43703afa4db6f, 0x1f85df5ea777b, 0x73e16c6821b8e, 0x1bc7af1e38185}),
			field.Join(api.Limbs{0x2f65900314833, 0x24c6364e1f95e, 0x57701247409f8, 0x797bd2f77c3bc, 0x61d909d855661}),
		),
	}
}

func baseMultiple(k api.Scalar) point {
	var terms [4]term
	for i, p := range bases() {
		terms[i].digits.take(0, k[8*i:8*i+8], 0)
		terms[i].multiples.fill(p)
	}
	return sum(terms[:])
}
