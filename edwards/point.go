package edwards

import (
	"rime/api"
	"rime/field"
)

// point is the point (x / xUnder, y / yUnder). Doubling and adding come out as two ratios; they are left so, because the next step wants other products of the four than the step before it could know.
type point struct{ x, xUnder, y, yUnder api.Fe }

// addend is a point (x / z, y / z) as adding it asks for it: y + x, y - x, 2 z and 2 d x y / z.
type addend struct{ plus, minus, z, t api.Fe }

func one() api.Fe { return api.Fe{1} }

func affine(x, y api.Fe) point { return point{x, one(), y, one()} }

func identity() point { return affine(api.Fe{}, one()) }

func load(e api.Element) (point, api.Errno) {
	x, y, errno := Coordinates(e)
	if errno != api.OK {
		return point{}, errno
	}
	return affine(x, y), api.OK
}

// element is the compressed form. One inversion serves both ratios.
func (p *point) element() api.Element {
	over := field.Invert(field.Mul(p.xUnder, p.yUnder))
	x := field.Mul(field.Mul(p.x, p.yUnder), over)
	y := field.Mul(field.Mul(p.y, p.xUnder), over)
	return compress(x, y)
}

// compress takes canonical coordinates.
func compress(x, y api.Fe) api.Element {
	e := api.Element(y)
	e[31] |= (x[0] & 1) << 7
	return e
}

func (p *point) isIdentity() bool { return p.x == api.Fe{} && p.y == p.yUnder }

func (p *point) negate() { p.x = field.Neg(p.x) }

// double: on the curve 1 + d x^2 y^2 is y^2 - x^2, so that the sum of (x, y) and itself is (2 x y / (y^2 - x^2), (y^2 + x^2) / (2 - (y^2 - x^2))), without d.
func (p *point) double() {
	x, y := field.Mul(p.x, p.yUnder), field.Mul(p.y, p.xUnder)
	z := field.Mul(p.xUnder, p.yUnder)
	xx, yy, zz, xy := field.Square(x), field.Square(y), field.Square(z), field.Mul(x, y)
	under := field.Sub(yy, xx)
	p.x, p.xUnder = field.Double(xy), under
	p.y, p.yUnder = field.Add(yy, xx), field.Sub(field.Double(zz), under)
}

// add takes each product of coordinates that the sum asks for twice, so that two products give all four: (y + x) (b + a) and (y - x) (b - a) have 2 (y b + x a) as their sum and 2 (y a + x b) as their difference.
func (p *point) add(q *addend) {
	x, y := field.Mul(p.x, p.yUnder), field.Mul(p.y, p.xUnder)
	z, t := field.Mul(p.xUnder, p.yUnder), field.Mul(p.x, p.y)
	high, low := field.Mul(field.Add(y, x), q.plus), field.Mul(field.Sub(y, x), q.minus)
	z, t = field.Mul(z, q.z), field.Mul(t, q.t)
	p.x, p.xUnder = field.Sub(high, low), field.Add(z, t)
	p.y, p.yUnder = field.Add(high, low), field.Sub(z, t)
}

func (p *point) sub(q *addend) {
	opposite := addend{q.minus, q.plus, q.z, field.Neg(q.t)}
	p.add(&opposite)
}

func (p *point) addend() addend {
	x, y := field.Mul(p.x, p.yUnder), field.Mul(p.y, p.xUnder)
	z, t := field.Mul(p.xUnder, p.yUnder), field.Mul(p.x, p.y)
	d2 := field.Double(field.D())
	return addend{field.Add(y, x), field.Sub(y, x), field.Double(z), field.Mul(t, d2)}
}
