package field_test

import (
	"bytes"
	"math/big"
	"math/rand"
	"testing"

	"rime/api"
	"rime/field"
)

// P1.1: each call answers as its chapter says, of every input.

func TestDecode(t *testing.T) {
	for _, a := range samples(500) {
		got, errno := field.Decode(a[:])
		if fromBytes(a[:]).Cmp(prime) < 0 {
			if got != a || errno != api.OK {
				t.Fatalf("Decode of %x: %x %v", a, got, errno)
			}
		} else if got != (api.Fe{}) || errno != api.ErrField {
			t.Fatalf("Decode of %x: %x %v", a, got, errno)
		}
	}
}

func TestDecodeAsksTheLengthFirst(t *testing.T) {
	for n := range 100 {
		for _, fill := range []byte{0, 1, 0xff} {
			if n == 32 {
				continue
			}
			if got, errno := field.Decode(bytes.Repeat([]byte{fill}, n)); got != (api.Fe{}) || errno != api.ErrLength {
				t.Fatalf("Decode of %d bytes %x: %x %v", n, fill, got, errno)
			}
		}
	}
	if _, errno := field.Decode(nil); errno != api.ErrLength {
		t.Fatalf("Decode of nil: %v", errno)
	}
}

func TestCanonical(t *testing.T) {
	for _, a := range samples(500) {
		if got := field.Canonical(a); got != (fromBytes(a[:]).Cmp(prime) < 0) {
			t.Fatalf("Canonical of %x: %v", a, got)
		}
	}
}

func TestReduce(t *testing.T) {
	r := rand.New(rand.NewSource(2))
	for n := range 140 {
		for _, fill := range []byte{0, 1, 0x7f, 0x80, 0xff} {
			b := bytes.Repeat([]byte{fill}, n)
			want(t, "Reduce", field.Reduce(b), fe(fromBytes(b)), b)
		}
		b := make([]byte, n)
		r.Read(b)
		want(t, "Reduce", field.Reduce(b), fe(fromBytes(b)), b)
	}
	long := make([]byte, 100003)
	r.Read(long)
	want(t, "Reduce of many", field.Reduce(long), fe(fromBytes(long)))
	want(t, "Reduce of nil", field.Reduce(nil), api.Fe{})
	for _, a := range edges() {
		want(t, "Reduce", field.Reduce(a[:]), fe(value(a)), a)
	}
}

func TestFromInt(t *testing.T) {
	for shift := range 65 {
		for _, less := range []uint64{0, 1, 2} {
			n := uint64(1)<<shift - less
			want(t, "FromInt", field.FromInt(n), fe(new(big.Int).SetUint64(n)), n)
		}
	}
}

func TestOneNumber(t *testing.T) {
	for _, a := range samples(500) {
		x := value(a)
		want(t, "Neg", field.Neg(a), fe(new(big.Int).Neg(x)), a)
		want(t, "Double", field.Double(a), fe(new(big.Int).Lsh(x, 1)), a)
		want(t, "Square", field.Square(a), fe(new(big.Int).Mul(x, x)), a)
		want(t, "Invert", field.Invert(a), inverse(x), a)
		if got := field.IsNegative(a); got != (x.Bit(0) == 1) {
			t.Fatalf("IsNegative of %x: %v", a, got)
		}
		want(t, "Abs", field.Abs(a), fe(even(x)), a)
		if got := field.Legendre(a); got != big.Jacobi(x, prime) {
			t.Fatalf("Legendre of %x: %d", a, got)
		}
	}
}

// inverse is 1 / x, or 0.
func inverse(x *big.Int) api.Fe {
	if x.Sign() == 0 {
		return api.Fe{}
	}
	return fe(new(big.Int).ModInverse(x, prime))
}

// even is x or p - x, whichever is not negative.
func even(x *big.Int) *big.Int {
	if x.Bit(0) == 1 {
		return new(big.Int).Sub(prime, x)
	}
	return x
}

func TestTwoNumbers(t *testing.T) {
	for _, a := range samples(40) {
		for _, b := range samples(40) {
			x, y := value(a), value(b)
			want(t, "Add", field.Add(a, b), fe(new(big.Int).Add(x, y)), a, b)
			want(t, "Sub", field.Sub(a, b), fe(new(big.Int).Sub(x, y)), a, b)
			want(t, "Mul", field.Mul(a, b), fe(new(big.Int).Mul(x, y)), a, b)
			want(t, "Select", field.Select(a, b, false), fe(x), a, b)
			want(t, "Select", field.Select(a, b, true), fe(y), a, b)
			if got := field.Equal(a, b); got != (x.Cmp(y) == 0) {
				t.Fatalf("Equal of %x and %x: %v", a, b, got)
			}
		}
	}
}

func TestInvertAll(t *testing.T) {
	p := raw(prime)
	lists := [][]api.Fe{nil, {}, {{}}, {p}, {{}, p, {}}, {{2}}, {{2}, {}}, {{}, {2}}, {{}, {3}, p, {5}, {}}, samples(100)}
	for _, l := range lists {
		got := field.InvertAll(l)
		if len(got) != len(l) {
			t.Fatalf("InvertAll of %d: %d", len(l), len(got))
		}
		for i, a := range l {
			want(t, "InvertAll", got[i], inverse(value(a)), i, a)
		}
	}
}

func TestPower(t *testing.T) {
	r := rand.New(rand.NewSource(3))
	long := make([]byte, 70)
	r.Read(long)
	exponents := [][]byte{nil, {}, {0}, make([]byte, 40), {1}, {2}, {255}, {0, 1}, {0, 0, 0, 1, 0, 0}, long}
	for _, more := range []int64{-2, -1, 0, 1} {
		exponents = append(exponents, littleEndian(new(big.Int).Add(prime, big.NewInt(more)), 32))
	}
	for _, a := range samples(20) {
		for _, e := range exponents {
			want(t, "Power", field.Power(a, e), fe(new(big.Int).Exp(value(a), fromBytes(e), prime)), a, e)
		}
	}
	want(t, "Power of 0 by 0", field.Power(api.Fe{}, nil), api.Fe{1})
	want(t, "Power of p by 0", field.Power(raw(prime), []byte{0, 0}), api.Fe{1})
}

func TestSqrtRatio(t *testing.T) {
	for _, u := range samples(10) {
		for _, v := range samples(10) {
			root, square := field.SqrtRatio(u, v)
			expected, isSquare := sqrtRatio(value(u), value(v))
			if root != expected || square != isSquare {
				t.Fatalf("SqrtRatio(%x, %x): %x %v, not %x %v", u, v, root, square, expected, isSquare)
			}
		}
	}
}

// sqrtRatio is what the chapter says of SqrtRatio, by math/big.
func sqrtRatio(u, v *big.Int) (api.Fe, bool) {
	if u.Sign() == 0 {
		return api.Fe{}, true
	}
	if v.Sign() == 0 {
		return api.Fe{}, false
	}
	ratio := new(big.Int).ModInverse(v, prime)
	ratio.Mul(ratio, u).Mod(ratio, prime)
	if root := new(big.Int).ModSqrt(ratio, prime); root != nil {
		return fe(even(root)), true
	}
	ratio.Mul(ratio, rootOfMinusOne()).Mod(ratio, prime)
	return fe(even(new(big.Int).ModSqrt(ratio, prime))), false
}

func rootOfMinusOne() *big.Int {
	return even(new(big.Int).ModSqrt(new(big.Int).Sub(prime, one), prime))
}

func TestSplit(t *testing.T) {
	for _, a := range samples(500) {
		l := field.Split(a)
		for i := range l {
			if l[i] >= 1<<51 {
				t.Fatalf("Split of %x: limb %d is %x", a, i, l[i])
			}
		}
		x := new(big.Int)
		for i := 4; i >= 0; i-- {
			x.Lsh(x, 51).Add(x, new(big.Int).SetUint64(l[i]))
		}
		if x.Cmp(value(a)) != 0 {
			t.Fatalf("Split of %x: %x", a, l)
		}
	}
}

// limbSamples have, in each place, each number at which a limb could overflow.
func limbSamples() []api.Limbs {
	numbers := []uint64{0, 1, 19, 1<<51 - 20, 1<<51 - 19, 1<<51 - 1, 1 << 51, 1<<52 - 1, 1 << 63, 1<<64 - 1}
	out := []api.Limbs{{}}
	for place := range 5 {
		var next []api.Limbs
		for _, l := range out {
			for _, n := range numbers {
				l[place] = n
				next = append(next, l)
			}
		}
		out = next
	}
	return out
}

func TestJoin(t *testing.T) {
	for _, l := range limbSamples() {
		want(t, "Join", field.Join(l), fe(limbsValue(l)), l)
	}
	r := rand.New(rand.NewSource(4))
	for range 2000 {
		l := api.Limbs{r.Uint64(), r.Uint64(), r.Uint64(), r.Uint64(), r.Uint64()}
		want(t, "Join", field.Join(l), fe(limbsValue(l)), l)
	}
}

func TestConstants(t *testing.T) {
	d := new(big.Int).ModInverse(big.NewInt(121666), prime)
	d.Mul(d, big.NewInt(-121665))
	want(t, "D", field.D(), fe(d))
	want(t, "SqrtM1", field.SqrtM1(), fe(rootOfMinusOne()))
	if field.IsNegative(field.SqrtM1()) {
		t.Fatal("SqrtM1 is negative")
	}
}

// The chapter's section 'Examples'.
func TestExamples(t *testing.T) {
	int2, int4, p := field.FromInt(2), field.FromInt(4), raw(prime)
	minus1 := raw(new(big.Int).Sub(prime, one))
	want(t, "Mul", field.Mul(int2, field.FromInt(3)), api.Fe{6}, 2, 3)
	want(t, "Neg", field.Neg(api.Fe{1}), minus1, 1)
	if minus1[0] != 0xec || minus1[1] != 0xff || minus1[30] != 0xff || minus1[31] != 0x7f {
		t.Fatalf("p - 1: %x", minus1)
	}
	if field.Canonical(p) || !field.Equal(p, api.Fe{}) {
		t.Fatal("p is 0, but not canonical")
	}
	if _, errno := field.Decode(p[:]); errno != api.ErrField {
		t.Fatalf("Decode of p: %v", errno)
	}
	for _, c := range []struct{ u, v, root, square uint64 }{{4, 1, 2, 1}, {1, 0, 0, 0}, {0, 0, 0, 1}} {
		root, square := field.SqrtRatio(field.FromInt(c.u), field.FromInt(c.v))
		if root != field.FromInt(c.root) || square != (c.square == 1) {
			t.Fatalf("SqrtRatio(%d, %d): %x %v", c.u, c.v, root, square)
		}
	}
	if _, square := field.SqrtRatio(int2, api.Fe{1}); square {
		t.Fatal("2 is no square")
	}
	if field.Legendre(int2) != -1 || field.Legendre(int4) != 1 {
		t.Fatal("Legendre of 2 or 4")
	}
	want(t, "Square", field.Square(field.SqrtM1()), minus1)
	want(t, "Join", field.Join(api.Limbs{1<<64 - 1}), api.Fe{255, 255, 255, 255, 255, 255, 255, 255})
	want(t, "Join", field.Join(api.Limbs{0, 0, 0, 0, 1 << 51}), api.Fe{19})
}
