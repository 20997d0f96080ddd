// Package field is layer 1: numbers modulo p = 2^255 - 19. See shared/doc/01-field.md.
package field

import "rime/api"

// Decode: canonical bytes as a number.
func Decode(b []byte) (api.Fe, api.Errno) {
	if len(b) != len(api.Fe{}) {
		return api.Fe{}, api.ErrLength
	}
	var a api.Fe
	copy(a[:], b)
	if !Canonical(a) {
		return api.Fe{}, api.ErrField
	}
	return a, api.OK
}

// Canonical: is its number below p?
func Canonical(a api.Fe) bool { return a == canonical(a) }

func canonical(a api.Fe) api.Fe {
	var x number
	x.load(&a)
	return x.bytes()
}

// Reduce: the number of any bytes.
func Reduce(b []byte) api.Fe {
	var sum, part number
	for end := len(b); end > 0; {
		start := (end - 1) / 32 * 32
		var piece api.Fe
		copy(piece[:], b[start:end])
		part.load(&piece)
		sum.shift256()
		sum.add(&sum, &part)
		end = start
	}
	return sum.bytes()
}

// FromInt: a small number.
func FromInt(n uint64) api.Fe { return Join(api.Limbs{n}) }

// Add: the sum.
func Add(a api.Fe, b api.Fe) (out api.Fe) {
	var x, y number
	x.load(&a)
	y.load(&b)
	x.add(&x, &y)
	x.store(&out)
	return out
}

// Sub: the difference.
func Sub(a api.Fe, b api.Fe) (out api.Fe) {
	var x, y number
	x.load(&a)
	y.load(&b)
	x.sub(&x, &y)
	x.store(&out)
	return out
}

// Neg: 0 less a.
func Neg(a api.Fe) api.Fe { return Sub(api.Fe{}, a) }

// Double: twice.
func Double(a api.Fe) api.Fe { return Add(a, a) }

// Mul: the product.
func Mul(a api.Fe, b api.Fe) (out api.Fe) {
	var x, y number
	x.load(&a)
	y.load(&b)
	x.mul(&x, &y)
	x.store(&out)
	return out
}

// Square: the product with itself.
func Square(a api.Fe) (out api.Fe) {
	var x number
	x.load(&a)
	x.square(&x)
	x.store(&out)
	return out
}

// Invert: 1 / a; 0 of 0.
func Invert(a api.Fe) api.Fe {
	var x number
	x.load(&a)
	x.invert(&x)
	return x.bytes()
}

// InvertAll: of each. One inversion, of the product of all, serves the whole list; what is 0 is left out of the product, for it would spoil the others.
func InvertAll(l []api.Fe) []api.Fe {
	out := make([]api.Fe, len(l))
	var x, ahead number
	rest := number{1}
	for i := range len(l) {
		out[i] = rest.bytes()
		x.load(&l[i])
		if !x.isZero() {
			rest.mul(&rest, &x)
		}
	}
	rest.invert(&rest)
	for i := len(l) - 1; i >= 0; i-- {
		x.load(&l[i])
		if x.isZero() {
			out[i] = api.Fe{}
			continue
		}
		ahead.load(&out[i])
		ahead.mul(&ahead, &rest)
		out[i] = ahead.bytes()
		rest.mul(&rest, &x)
	}
	return out
}

// Power: a to the number of these bytes.
func Power(a api.Fe, e []byte) api.Fe {
	var x number
	x.load(&a)
	out := number{1}
	for i := len(e) - 1; i >= 0; i-- {
		for bit := 7; bit >= 0; bit-- {
			out.square(&out)
			if e[i]>>bit&1 == 1 {
				out.mul(&out, &x)
			}
		}
	}
	return out.bytes()
}

// Legendre: 0, 1 of a square, -1 of all others.
func Legendre(a api.Fe) int {
	var x number
	x.load(&a)
	x.half(&x)
	switch x.bytes() {
	case api.Fe{}:
		return 0
	case api.Fe{1}:
		return 1
	}
	return -1
}

// SqrtRatio: the root of u / v, or of SqrtM1 times it.
func SqrtRatio(u api.Fe, v api.Fe) (api.Fe, bool) {
	root := rootCandidate(u, v)
	got, opposite := Mul(v, Square(root)), Neg(u)
	if got == opposite || got == Mul(SqrtM1(), opposite) {
		root = Mul(SqrtM1(), root)
	}
	return Abs(root), got == canonical(u) || got == opposite
}

// IsNegative: is it odd?
func IsNegative(a api.Fe) bool { return canonical(a)[0]&1 == 1 }

// Abs: it, or its Neg, whichever is not negative.
func Abs(a api.Fe) api.Fe { return Select(a, Neg(a), IsNegative(a)) }

// Select: a, or b if pick.
func Select(a api.Fe, b api.Fe, pick bool) api.Fe {
	if pick {
		return canonical(b)
	}
	return canonical(a)
}

// Equal: one value?
func Equal(a api.Fe, b api.Fe) bool { return canonical(a) == canonical(b) }

// Split: the five limbs.
func Split(a api.Fe) api.Limbs {
	var x number
	x.load(&a)
	x.reduce()
	return api.Limbs(x)
}

// Join: the number of five limbs.
func Join(l api.Limbs) api.Fe {
	x := number(l)
	return x.bytes()
}

// D: the curve's constant.
func D() api.Fe {
	return api.Fe{
		0xa3, 0x78, 0x59, 0x13, 0xca, 0x4d, 0xeb, 0x75, 0xab, 0xd8, 0x41, 0x41, 0x4d, 0x0a, 0x70, 0x00,
		0x98, 0xe8, 0x79, 0x77, 0x79, 0x40, 0xc7, 0x8c, 0x73, 0xfe, 0x6f, 0x2b, 0xee, 0x6c, 0x03, 0x52,
	}
}

// SqrtM1: a root of -1.
func SqrtM1() api.Fe {
	return api.Fe{
		0xb0, 0xa0, 0x0e, 0x4a, 0x27, 0x1b, 0xee, 0xc4, 0x78, 0xe4, 0x2f, 0xad, 0x06, 0x18, 0x43, 0x2f,
		0xa7, 0xd7, 0xfb, 0x3d, 0x99, 0x00, 0x4d, 0x2b, 0x0b, 0xdf, 0xc1, 0x4f, 0x80, 0x24, 0x83, 0x2b,
	}
}
