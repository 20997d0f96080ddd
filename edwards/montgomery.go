package edwards

import (
	"rime/api"
	"rime/field"
)

// Montgomery: its number on the other curve. Of y = 1 it is 0, because the inverse of 0 is 0.
func Montgomery(e api.Element) (api.Fe, api.Errno) {
	_, y, errno := Coordinates(e)
	if errno != api.OK {
		return api.Fe{}, errno
	}
	return field.Mul(field.Add(one(), y), field.Invert(field.Sub(one(), y))), api.OK
}

// Ladder: RFC 7748's, without clamping.
func Ladder(k api.Scalar, u api.Fe) api.Fe {
	r := rungs{one(), api.Fe{}, u, one()}
	step, exchange := r.step, r.exchange
	for i := range 8 * len(k) {
		place := 8*len(k) - 1 - i
		bit := k[place/8]>>(place%8)&1 == 1
		exchange(bit)
		step(u)
		exchange(bit)
	}
	return field.Mul(r.x2, field.Invert(r.z2))
}

// rungs are two points of the other curve, u = x / z of each, that stay one point apart.
type rungs struct{ x2, z2, x3, z3 api.Fe }

func (r *rungs) exchange(now bool) {
	if now {
		r.x2, r.z2, r.x3, r.z3 = r.x3, r.z3, r.x2, r.z2
	}
}

// step adds the two into the second and doubles the first; u is that of their difference.
func (r *rungs) step(u api.Fe) {
	a, b := field.Add(r.x2, r.z2), field.Sub(r.x2, r.z2)
	aa, bb := field.Square(a), field.Square(b)
	e := field.Sub(aa, bb)
	da := field.Mul(field.Sub(r.x3, r.z3), a)
	cb := field.Mul(field.Add(r.x3, r.z3), b)
	r.x3 = field.Square(field.Add(da, cb))
	r.z3 = field.Mul(u, field.Square(field.Sub(da, cb)))
	r.x2 = field.Mul(aa, bb)
	r.z2 = field.Mul(e, field.Add(aa, field.Mul(field.FromInt(121665), e)))
}
