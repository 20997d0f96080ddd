package edwards

import "rime/api"

// order is L.
func order() api.Scalar {
	return api.Scalar{
		0xed, 0xd3, 0xf5, 0x5c, 0x1a, 0x63, 0x12, 0x58, 0xd6, 0x9c, 0xf7, 0xa2, 0xde, 0xf9, 0xde, 0x14,
		31: 0x10,
	}
}

// small is T, a point of order 8.
func small() point {
	p, _ := load(api.Element{
		0x26, 0xe8, 0x95, 0x8f, 0xc2, 0xb2, 0x27, 0xb0, 0x45, 0xc3, 0xf4, 0x89, 0xf2, 0xef, 0x98, 0xf0,
		0xd5, 0xdf, 0xac, 0x05, 0xd3, 0xc6, 0x33, 0x39, 0xb1, 0x38, 0x02, 0x88, 0x6d, 0x53, 0xfc, 0x05,
	})
	return p
}

// IsPrime: is it in the prime-order subgroup?
func IsPrime(e api.Element) (bool, api.Errno) {
	x, y, errno := Coordinates(e)
	if errno != api.OK {
		return false, errno
	}
	return isEightfold(x, y), api.OK
}

// IsSmall: is its order 8 or less?
func IsSmall(e api.Element) (bool, api.Errno) {
	p, errno := load(e)
	if errno != api.OK {
		return false, errno
	}
	for range 3 {
		p.double()
	}
	return p.isIdentity(), api.OK
}

// Order8: the eight points of small order.
func Order8() []api.Element {
	p, t := identity(), small()
	step := t.addend()
	out := make([]api.Element, 8)
	for i := range len(out) {
		out[i] = p.element()
		p.add(&step)
	}
	return out
}

// Parts: its part in the prime-order subgroup, and which of the eight is the rest. L times e is k times L T, so k is how often L T can be taken from it till nothing is left.
func Parts(e api.Element) (api.Element, int, api.Errno) {
	p, errno := load(e)
	if errno != api.OK {
		return api.Element{}, 0, errno
	}
	t := small()
	rest, stepT := multiple(order(), p), t.addend()
	t.double()
	t.double()
	t.add(&stepT) // L is 5 modulo 8
	stepLT := t.addend()
	k := 0
	for ; !rest.isIdentity(); k++ {
		rest.sub(&stepLT)
		p.sub(&stepT)
	}
	return p.element(), k, api.OK
}
