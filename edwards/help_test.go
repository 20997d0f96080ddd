package edwards_test

import (
	"encoding/hex"
	"math/big"
	"math/rand"
	"slices"
	"testing"

	"rime/api"
	"rime/edwards"
)

// The tests hold the package against the chapter's formulas, worked out by math/big.

var (
	zero  = big.NewInt(0)
	one   = big.NewInt(1)
	prime = new(big.Int).Sub(new(big.Int).Lsh(one, 255), big.NewInt(19))
	order = fromBytes(unhex("edd3f55c1a631258d69cf7a2def9de1400000000000000000000000000000010"))
	curve = modulo(new(big.Int).Mul(big.NewInt(-121665), inverse(big.NewInt(121666))))
)

func unhex(s string) []byte {
	b, err := hex.DecodeString(s)
	if err != nil {
		panic(err)
	}
	return b
}

func fromBytes(b []byte) *big.Int {
	c := slices.Clone(b)
	slices.Reverse(c)
	return new(big.Int).SetBytes(c)
}

// bytes32 is x as it is, in 32 bytes.
func bytes32(x *big.Int) [32]byte {
	b := make([]byte, 32)
	x.FillBytes(b)
	slices.Reverse(b)
	return [32]byte(b)
}

func fe(x *big.Int) api.Fe           { return bytes32(modulo(x)) }
func factor(x *big.Int) api.Scalar   { return bytes32(x) }
func modulo(x *big.Int) *big.Int     { return new(big.Int).Mod(x, prime) }
func number(k api.Scalar) *big.Int   { return fromBytes(k[:]) }
func inverse(x *big.Int) *big.Int    { return new(big.Int).ModInverse(x, prime) }
func times(a, b *big.Int) *big.Int   { return modulo(new(big.Int).Mul(a, b)) }
func plus(a, b *big.Int) *big.Int    { return modulo(new(big.Int).Add(a, b)) }
func minus(a, b *big.Int) *big.Int   { return modulo(new(big.Int).Sub(a, b)) }
func element(s string) api.Element   { return api.Element(unhex(s)) }
func sum256(a, b *big.Int) *big.Int  { return new(big.Int).Add(a, b) }
func prod256(a, b *big.Int) *big.Int { return new(big.Int).Mul(a, b) }

// place is a point by its coordinates.
type place struct{ x, y *big.Int }

func nowhere() place { return place{zero, one} }

// and is the sum, as the chapter's section 'Types' says it.
func (p place) and(q place) place {
	product := times(times(curve, times(p.x, p.y)), times(q.x, q.y))
	x := times(plus(times(p.x, q.y), times(p.y, q.x)), inverse(plus(one, product)))
	y := times(plus(times(p.y, q.y), times(p.x, q.x)), inverse(minus(one, product)))
	return place{x, y}
}

func (p place) opposite() place { return place{minus(zero, p.x), p.y} }

// by is the sum of so many p.
func (p place) by(k *big.Int) place {
	out := nowhere()
	for bit := k.BitLen() - 1; bit >= 0; bit-- {
		out = out.and(out)
		if k.Bit(bit) == 1 {
			out = out.and(p)
		}
	}
	return out
}

func (p place) element() api.Element {
	e := api.Element(bytes32(p.y))
	e[31] |= byte(p.x.Bit(0)) << 7
	return e
}

// placeOf is where e lies, if e is a point.
func placeOf(e api.Element) (place, bool) {
	odd := uint(e[31] >> 7)
	e[31] &= 0x7f
	y := fromBytes(e[:])
	if y.Cmp(prime) >= 0 {
		return place{}, false
	}
	yy := times(y, y)
	x := new(big.Int).ModSqrt(times(minus(yy, one), inverse(plus(times(curve, yy), one))), prime)
	if x == nil || x.Sign() == 0 && odd == 1 {
		return place{}, false
	}
	if x.Bit(0) != odd {
		x = minus(zero, x)
	}
	return place{x, y}, true
}

func whereIs(t *testing.T, e api.Element) place {
	t.Helper()
	p, ok := placeOf(e)
	if !ok {
		t.Fatalf("%x is no point", e)
	}
	return p
}

func smallPoint() api.Element {
	return element("26e8958fc2b227b045c3f489f2ef98f0d5dfac05d3c63339b13802886d53fc05")
}

// smalls are the eight points of small order.
func smalls() []api.Element {
	step, _ := placeOf(smallPoint())
	p := nowhere()
	var out []api.Element
	for range 8 {
		out = append(out, p.element())
		p = p.and(step)
	}
	return out
}

// drawn are so many points of all kinds, always the same ones: just one in eight is of the prime-order subgroup.
func drawn(seed int64, count int) []api.Element {
	r := rand.New(rand.NewSource(seed))
	var out []api.Element
	for len(out) < count {
		var e api.Element
		r.Read(e[:])
		if _, ok := placeOf(e); ok {
			out = append(out, e)
		}
	}
	return out
}

// primes are so many points of the prime-order subgroup.
func primes(seed int64, count int) []api.Element {
	out := drawn(seed, count)
	for i, e := range out {
		p, _ := placeOf(e)
		out[i] = p.by(big.NewInt(8)).element()
	}
	return out
}

// points are those of small order, the base point, and so many more.
func points(count int) []api.Element {
	return slices.Concat(smalls(), []api.Element{edwards.Base()}, primes(1, 2), drawn(2, count))
}

// noPoints are the kinds of bytes that are none: a y that is not below p, one that has no x, an x that is 0 and odd.
func noPoints() []api.Element {
	minus1 := api.Element(bytes32(minus(zero, one)))
	minus1[31] |= 0x80
	out := []api.Element{{2}, {0: 2, 31: 0x80}, {0: 1, 31: 0x80}, minus1}
	for more := range int64(19) {
		e := api.Element(bytes32(sum256(prime, big.NewInt(more))))
		out = append(out, e)
		e[31] |= 0x80
		out = append(out, e)
	}
	return out
}

// edgeFactors are the numbers around which digits, halves and quarters could go wrong, and the multiples of L.
func edgeFactors() []api.Scalar {
	var middles []*big.Int
	for _, n := range []uint{0, 4, 5, 8, 16, 63, 64, 65, 123, 124, 127, 128, 129, 191, 192, 251, 252, 253, 255, 256} {
		middles = append(middles, new(big.Int).Lsh(one, n))
	}
	for k := range int64(16) {
		middles = append(middles, prod256(order, big.NewInt(k)))
	}
	low := new(big.Int).Sub(new(big.Int).Lsh(one, 128), one)
	middles = append(middles, new(big.Int).Lsh(low, 128), new(big.Int).Lsh(new(big.Int).Sub(low, one), 64))
	var out []api.Scalar
	for _, middle := range middles {
		for more := int64(-2); more <= 2; more++ {
			x := sum256(middle, big.NewInt(more))
			if x.Sign() >= 0 && x.BitLen() <= 256 {
				out = append(out, factor(x))
			}
		}
	}
	return out
}

func drawnFactors(seed int64, count int) []api.Scalar {
	r := rand.New(rand.NewSource(seed))
	out := make([]api.Scalar, count)
	for i := range out {
		r.Read(out[i][:])
	}
	return out
}

// jagged are factors of long runs of one bit, which carry far.
func jagged(seed int64, count int) []api.Scalar {
	r := rand.New(rand.NewSource(seed))
	out := make([]api.Scalar, count)
	for i := range out {
		bit := r.Intn(2)
		for at := 0; at < 256; {
			for range 1 + r.Intn(70) {
				if at < 256 {
					out[i][at/8] |= byte(bit << (at % 8))
				}
				at++
			}
			bit = 1 - bit
		}
	}
	return out
}

func factors(count int) []api.Scalar {
	return slices.Concat(edgeFactors(), drawnFactors(3, count), jagged(4, count))
}

func want(t *testing.T, call string, got api.Element, errno api.Errno, expected api.Element, args ...any) {
	t.Helper()
	if errno != api.OK || got != expected {
		t.Fatalf("%s of %x: %x %v, not %x", call, args, got, errno, expected)
	}
}

// The calls, of what may not be refused.

func add(t *testing.T, a, b api.Element) api.Element {
	t.Helper()
	return taken(t)(edwards.Add(a, b))
}

func mul(t *testing.T, k api.Scalar, e api.Element) api.Element {
	t.Helper()
	return taken(t)(edwards.Mul(k, e))
}

func multi(t *testing.T, ks []api.Scalar, es []api.Element) api.Element {
	t.Helper()
	return taken(t)(edwards.Multi(ks, es))
}

func montgomery(t *testing.T, e api.Element) api.Fe {
	t.Helper()
	u, errno := edwards.Montgomery(e)
	if errno != api.OK {
		t.Fatalf("Montgomery of %x: %v", e, errno)
	}
	return u
}

func parts(t *testing.T, e api.Element) (api.Element, int) {
	t.Helper()
	p, k, errno := edwards.Parts(e)
	if errno != api.OK {
		t.Fatalf("Parts of %x: %v", e, errno)
	}
	return p, k
}

func taken(t *testing.T) func(api.Element, api.Errno) api.Element {
	return func(e api.Element, errno api.Errno) api.Element {
		t.Helper()
		if errno != api.OK {
			t.Fatalf("refused: %v", errno)
		}
		return e
	}
}

// spoil overwrites all of a list's room.
func spoil[T any](l []T, by T) {
	l = l[:cap(l)]
	for i := range l {
		l[i] = by
	}
}
