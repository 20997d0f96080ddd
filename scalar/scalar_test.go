package scalar_test

import (
	"bytes"
	"math/big"
	"math/rand"
	"testing"

	"rime/api"
	"rime/scalar"
)

// P2.1: Decode, Canonical, Reduce, FromInt.

func TestDecode(t *testing.T) {
	for _, a := range samples(500) {
		got, errno := scalar.Decode(a[:])
		if fromBytes(a[:]).Cmp(order) < 0 {
			if got != a || errno != api.OK {
				t.Fatalf("Decode of %x: %x %v", a, got, errno)
			}
		} else if got != (api.Scalar{}) || errno != api.ErrScalar {
			t.Fatalf("Decode of %x: %x %v", a, got, errno)
		}
	}
}

func TestDecodeAsksTheLengthFirst(t *testing.T) {
	for n := range 100 {
		for _, fill := range []byte{0, 1, 0xff} {
			if n == 32 {
				continue
			}
			if got, errno := scalar.Decode(bytes.Repeat([]byte{fill}, n)); got != (api.Scalar{}) || errno != api.ErrLength {
				t.Fatalf("Decode of %d bytes %x: %x %v", n, fill, got, errno)
			}
		}
	}
	if _, errno := scalar.Decode(nil); errno != api.ErrLength {
		t.Fatalf("Decode of nil: %v", errno)
	}
}

func TestCanonical(t *testing.T) {
	for _, a := range samples(500) {
		if got := scalar.Canonical(a); got != (fromBytes(a[:]).Cmp(order) < 0) {
			t.Fatalf("Canonical of %x: %v", a, got)
		}
	}
}

func TestReduce(t *testing.T) {
	r := rand.New(rand.NewSource(2))
	for n := range 140 {
		for _, fill := range []byte{0, 1, 0x7f, 0x80, 0xff} {
			b := bytes.Repeat([]byte{fill}, n)
			want(t, "Reduce", scalar.Reduce(b), reduced(fromBytes(b)), b)
		}
		b := make([]byte, n)
		r.Read(b)
		want(t, "Reduce", scalar.Reduce(b), reduced(fromBytes(b)), b)
	}
	long := make([]byte, 100003)
	r.Read(long)
	want(t, "Reduce of many", scalar.Reduce(long), reduced(fromBytes(long)))
	want(t, "Reduce of nil", scalar.Reduce(nil), api.Scalar{})
	for _, a := range edges() {
		want(t, "Reduce", scalar.Reduce(a[:]), reduced(value(a)), a)
	}
}

func TestReduceOfMultiplesOfL(t *testing.T) {
	for _, a := range samples(20) {
		for _, more := range []int64{-1, 0, 1} {
			x := new(big.Int).Mul(fromBytes(a[:]), order)
			x.Add(x, big.NewInt(more))
			if x.Sign() >= 0 {
				want(t, "Reduce", scalar.Reduce(littleEndian(x, 64)), reduced(big.NewInt(more)), x)
			}
		}
	}
}

func TestFromInt(t *testing.T) {
	for shift := range 65 {
		for _, less := range []uint64{0, 1, 2} {
			n := uint64(1)<<shift - less
			want(t, "FromInt", scalar.FromInt(n), reduced(new(big.Int).SetUint64(n)), n)
		}
	}
}

// P2.2, P2.3 and P2.4, call by call, of one number, of two and of three.

func TestOneNumber(t *testing.T) {
	for _, a := range samples(300) {
		x := value(a)
		want(t, "Neg", scalar.Neg(a), reduced(new(big.Int).Neg(x)), a)
		if got := scalar.IsZero(a); got != (x.Sign() == 0) {
			t.Fatalf("IsZero of %x: %v", a, got)
		}
		if got := scalar.Legendre(a); got != big.Jacobi(x, order) {
			t.Fatalf("Legendre of %x: %d", a, got)
		}
		got, errno := scalar.Invert(a)
		if x.Sign() == 0 {
			if got != (api.Scalar{}) || errno != api.ErrZero {
				t.Fatalf("Invert of %x: %x %v", a, got, errno)
			}
			continue
		}
		want(t, "Invert", got, raw(new(big.Int).ModInverse(x, order)), a)
		if errno != api.OK {
			t.Fatalf("Invert of %x: %v", a, errno)
		}
	}
}

func TestTwoNumbers(t *testing.T) {
	for _, a := range samples(40) {
		for _, b := range samples(40) {
			x, y := value(a), value(b)
			want(t, "Add", scalar.Add(a, b), reduced(new(big.Int).Add(x, y)), a, b)
			want(t, "Sub", scalar.Sub(a, b), reduced(new(big.Int).Sub(x, y)), a, b)
			want(t, "Mul", scalar.Mul(a, b), reduced(new(big.Int).Mul(x, y)), a, b)
			if got := scalar.Compare(a, b); got != x.Cmp(y) {
				t.Fatalf("Compare of %x and %x: %d", a, b, got)
			}
		}
	}
}

func TestMulAdd(t *testing.T) {
	few := append(some(), edges()[:30]...)
	for _, a := range few {
		for _, b := range few {
			for _, c := range few {
				x := new(big.Int).Mul(value(a), value(b))
				want(t, "MulAdd", scalar.MulAdd(a, b, c), reduced(x.Add(x, value(c))), a, b, c)
			}
		}
	}
}

func TestSumProductDot(t *testing.T) {
	l := samples(60)
	turned := samples(60)
	rand.New(rand.NewSource(3)).Shuffle(len(turned), func(i, j int) { turned[i], turned[j] = turned[j], turned[i] })
	for from := 0; from < len(l); from += 7 {
		for n := range len(l) - from {
			a, b := l[from:from+n], turned[from:from+n]
			sum, product, dot := new(big.Int), big.NewInt(1), new(big.Int)
			for i, x := range values(a) {
				sum.Add(sum, x)
				product.Mul(product, x).Mod(product, order)
				dot.Add(dot, new(big.Int).Mul(x, value(b[i])))
			}
			want(t, "Sum", scalar.Sum(a), reduced(sum), a)
			want(t, "Product", scalar.Product(a), reduced(product), a)
			got, errno := scalar.Dot(a, b)
			want(t, "Dot", got, reduced(dot), a, b)
			if errno != api.OK {
				t.Fatalf("Dot of %d: %v", n, errno)
			}
		}
	}
}

// A zero among the factors would hide what the others give.
func TestProductWithoutZeros(t *testing.T) {
	l, product := drawn(300), big.NewInt(1)
	for i, a := range l {
		product.Mul(product, value(a)).Mod(product, order)
		want(t, "Product", scalar.Product(l[:i+1]), raw(product), i)
	}
}

func TestListsOfNone(t *testing.T) {
	for _, none := range [][]api.Scalar{nil, {}} {
		want(t, "Sum of none", scalar.Sum(none), api.Scalar{})
		want(t, "Product of none", scalar.Product(none), api.Scalar{1})
		for _, other := range [][]api.Scalar{nil, {}} {
			if got, errno := scalar.Dot(none, other); got != (api.Scalar{}) || errno != api.OK {
				t.Fatalf("Dot of none: %x %v", got, errno)
			}
		}
		if got, errno, at := scalar.InvertAll(none); len(got) != 0 || errno != api.OK || at != 0 {
			t.Fatalf("InvertAll of none: %x %v %d", got, errno, at)
		}
	}
}

func TestDotOfUnlikeLengths(t *testing.T) {
	l := drawn(5)
	for n := range 5 {
		for m := range 5 {
			if got, errno := scalar.Dot(l[:n], l[:m]); n != m && (got != (api.Scalar{}) || errno != api.ErrCount) {
				t.Fatalf("Dot of %d and %d: %x %v", n, m, got, errno)
			}
		}
	}
}

func TestInvertAll(t *testing.T) {
	var units []api.Scalar
	for _, a := range samples(100) {
		if value(a).Sign() != 0 {
			units = append(units, a)
		}
	}
	for n := range len(units) + 1 {
		got, errno, at := scalar.InvertAll(units[:n])
		if len(got) != n || errno != api.OK || at != 0 {
			t.Fatalf("InvertAll of %d: %d %v %d", n, len(got), errno, at)
		}
		for i := range n {
			want(t, "InvertAll", got[i], raw(new(big.Int).ModInverse(value(units[i]), order)), i, units[i])
		}
	}
}

func TestInvertAllTellsTheFirstZero(t *testing.T) {
	zeros := []api.Scalar{{}, raw(order), raw(new(big.Int).Mul(order, big.NewInt(15)))}
	for _, zero := range zeros {
		for n := 1; n < 12; n++ {
			for first := range n {
				l := drawn(n)
				l[first] = zero
				l[first+(n-first)/2] = zeros[0]
				if got, errno, at := scalar.InvertAll(l); len(got) != 0 || errno != api.ErrZero || at != first {
					t.Fatalf("InvertAll of %d with 0 in place %d: %x %v %d", n, first, got, errno, at)
				}
			}
		}
	}
}

func TestPower(t *testing.T) {
	r := rand.New(rand.NewSource(4))
	long := make([]byte, 70)
	r.Read(long)
	exponents := [][]byte{nil, {}, {0}, make([]byte, 40), {1}, {2}, {3}, {128}, {255}, {0, 1}, {0, 0, 0, 1, 0, 0}, long}
	for _, more := range []int64{-2, -1, 0, 1} {
		exponents = append(exponents, littleEndian(new(big.Int).Add(order, big.NewInt(more)), 32))
	}
	for _, a := range samples(20) {
		for _, e := range exponents {
			want(t, "Power", scalar.Power(a, e), reduced(new(big.Int).Exp(value(a), fromBytes(e), order)), a, e)
		}
	}
	want(t, "Power of 0 by 0", scalar.Power(api.Scalar{}, nil), api.Scalar{1})
	want(t, "Power of L by 0", scalar.Power(raw(order), []byte{0, 0}), api.Scalar{1})
}

// The chapter's section 'Examples', 1 to 6.
func TestExamples(t *testing.T) {
	l, less := raw(order), raw(new(big.Int).Sub(order, one))
	if got, errno := scalar.Decode(l[:]); got != (api.Scalar{}) || errno != api.ErrScalar {
		t.Fatalf("Decode of L: %x %v", got, errno)
	}
	want(t, "Reduce", scalar.Reduce(l[:]), api.Scalar{}, l)
	if got, errno := scalar.Decode(less[:]); got != less || errno != api.OK || less[0] != 0xec {
		t.Fatalf("Decode of L - 1: %x %v", got, errno)
	}
	want(t, "Neg", scalar.Neg(api.Scalar{1}), less, 1)
	want(t, "Add", scalar.Add(less, api.Scalar{1}), api.Scalar{}, less, 1)
	want(t, "Sub", scalar.Sub(api.Scalar{}, api.Scalar{1}), less, 0, 1)
	half, errno := scalar.Invert(api.Scalar{2})
	want(t, "Invert", half, api.Scalar(unhex("f7e97a2e8d31092c6bce7b51ef7c6f0a00000000000000000000000000000008")), 2)
	if errno != api.OK {
		t.Fatalf("Invert of 2: %v", errno)
	}
	if got, errno := scalar.Invert(l); got != (api.Scalar{}) || errno != api.ErrZero {
		t.Fatalf("Invert of L: %x %v", got, errno)
	}
	want(t, "Reduce of 2^256", scalar.Reduce(append(make([]byte, 32), 1)), api.Scalar(unhex("1d95988d7431ecd670cf7d73f45befc6feffffffffffffffffffffffffffff0f")))
	wantDigits(t, scalar.Digits(api.Scalar{8}), 64, -8, 1)
	wantDigits(t, scalar.Digits(api.Scalar{7}), 64, 7)
	wantDigits(t, naf(t, api.Scalar{7}, 2), 256, -1, 0, 0, 1)
	wantDigits(t, naf(t, api.Scalar{7}, 4), 256, 7)
	if got, errno := scalar.Naf(api.Scalar{1}, 9); len(got) != 0 || errno != api.ErrArg {
		t.Fatalf("Naf of 1, of width 9: %v %v", got, errno)
	}
	want(t, "Power", scalar.Power(api.Scalar{}, nil), api.Scalar{1}, 0, "no bytes")
	want(t, "Product of none", scalar.Product(nil), api.Scalar{1})
	if got, errno := scalar.Dot([]api.Scalar{{1}}, nil); got != (api.Scalar{}) || errno != api.ErrCount {
		t.Fatalf("Dot of 1 and none: %x %v", got, errno)
	}
}
