package edwards

import (
	"rime/api"
	"rime/field"
)

// slope is A of the other curve, v^2 = u (u^2 + A u + 1).
const slope = 486662

// stretch is a root of -(A + 2): v is u / x times it.
func stretch() api.Fe {
	return field.Join(api.Limbs{0x604aaff457e06, 0x2296fa350598d, 0x7f13dfb16874f, 0x35de93d846e01, 0xf26edf460a00})
}

// isEightfold: is it 8 times a point? Those points are the prime-order subgroup, and to halve thrice takes a quarter of the time of a multiplication by L.
//
// On the other curve a point is twice a point just if u is a square, w^2. Let s be u + 1 / u of its half. It is 2 (u + v / w) or 2 (u - v / w), whichever makes s + A a square; that is m^2, where m is v / u of the half. And the half is twice a point just if s + 2, which is (u + 1)^2 / u of the half, is a square; its w is then (a + b) / 2, with a^2 = s + 2 and b^2 = s - 2.
//
// Of the half's half no more is asked than whether it is twice a point, and so its sign need not be found: with the other sign s + A and s + 2 would both be squares instead of none, or none instead of squares.
func isEightfold(x, y api.Fe) bool {
	if x == (api.Fe{}) {
		return y == one()
	}
	w, twice := field.SqrtRatio(field.Add(one(), y), field.Sub(one(), y))
	if !twice {
		return false
	}
	m, sx := halfOf(x, w)
	x2 := field.Double(x)
	a, twice := field.SqrtRatio(field.Add(sx, x2), x)
	if !twice {
		return false
	}
	b, _ := field.SqrtRatio(field.Sub(sx, x2), x)
	w2 := field.Add(a, b)
	s2 := field.Mul(w2, field.Add(w2, field.Double(m)))
	return field.Legendre(field.Mul(field.Add(s2, field.FromInt(4)), field.Add(s2, field.FromInt(2*slope)))) == 1
}

// halfOf is m of the half, and its s times x: with that factor nothing must be divided, for v / w, times x, is stretch times w.
func halfOf(x, w api.Fe) (m, sx api.Fe) {
	ux, vx := field.Mul(field.Square(w), x), field.Mul(stretch(), w)
	slopeX := field.Mul(field.FromInt(slope), x)
	sx = field.Double(field.Add(ux, vx))
	m, square := field.SqrtRatio(field.Add(sx, slopeX), x)
	if !square {
		sx = field.Double(field.Sub(ux, vx))
		m, _ = field.SqrtRatio(field.Add(sx, slopeX), x)
	}
	return m, sx
}
