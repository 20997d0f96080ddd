package field

import "rime/api"

// chain sets a11 to x to 11, and ones to x to 2^250 - 1: from these the powers that the field needs are some steps away.
func chain(x, a11, ones *number) {
	var a2, a9, ones5, ones10, ones20, ones50, ones100 number
	a2.square(x)
	a9.squares(&a2, 2)
	a9.mul(&a9, x)
	a11.mul(&a9, &a2)
	ones5.square(a11)
	ones5.mul(&ones5, &a9)
	ones10.grow(&ones5, 5, &ones5)
	ones20.grow(&ones10, 10, &ones10)
	ones.grow(&ones20, 20, &ones20)
	ones50.grow(ones, 10, &ones10)
	ones100.grow(&ones50, 50, &ones50)
	ones.grow(&ones100, 100, &ones100)
	ones.grow(ones, 50, &ones50)
}

// grow sets z to x to 2^count, times y: x's exponent, with count bits of y's behind it.
func (z *number) grow(x *number, count int, y *number) {
	var out number
	out.squares(x, count)
	z.mul(&out, y)
}

// invert sets z to x to p - 2 = 2^5 (2^250 - 1) + 11.
func (z *number) invert(x *number) {
	var a11, ones number
	chain(x, &a11, &ones)
	z.grow(&ones, 5, &a11)
}

// eighth sets z to x to (p - 5) / 8 = 2^2 (2^250 - 1) + 1.
func (z *number) eighth(x *number) {
	var a11, ones number
	chain(x, &a11, &ones)
	z.grow(&ones, 2, x)
}

// half sets z to x to (p - 1) / 2 = 2^2 (p - 5) / 8 + 2.
func (z *number) half(x *number) {
	var part, a2 number
	part.eighth(x)
	a2.square(x)
	z.grow(&part, 2, &a2)
}

// rootCandidate is u v^3 (u v^7) to (p - 5) / 8. Unless v is 0, its square times v is u times 1, -1, SqrtM1 or -SqrtM1.
func rootCandidate(u, v api.Fe) api.Fe {
	var x, y, power number
	x.load(&u)
	y.load(&v)
	for range 3 {
		x.mul(&x, &y)
	}
	y.square(&y)
	y.square(&y)
	power.mul(&x, &y)
	power.eighth(&power)
	x.mul(&x, &power)
	return x.bytes()
}
