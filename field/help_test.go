package field_test

import (
	"math/big"
	"math/rand"
	"slices"
	"testing"

	"rime/api"
)

// The tests hold the package against math/big, with numbers of 256 bits of which half are not canonical.

var (
	prime = power2(255, -19)
	one   = big.NewInt(1)
)

// power2 is 2^n + more.
func power2(n uint, more int64) *big.Int {
	x := new(big.Int).Lsh(big.NewInt(1), n)
	return x.Add(x, big.NewInt(more))
}

// littleEndian is x in at least so many bytes.
func littleEndian(x *big.Int, least int) []byte {
	b := x.Bytes()
	slices.Reverse(b)
	for len(b) < least {
		b = append(b, 0)
	}
	return b
}

func fromBytes(b []byte) *big.Int {
	c := slices.Clone(b)
	slices.Reverse(c)
	return new(big.Int).SetBytes(c)
}

// raw is x as it is, not reduced.
func raw(x *big.Int) api.Fe { return api.Fe(littleEndian(x, 32)) }

// fe is x modulo p.
func fe(x *big.Int) api.Fe { return raw(new(big.Int).Mod(x, prime)) }

// value is a's number modulo p.
func value(a api.Fe) *big.Int {
	x := fromBytes(a[:])
	return x.Mod(x, prime)
}

func limbsValue(l api.Limbs) *big.Int {
	sum := new(big.Int)
	for i := range l {
		x := new(big.Int).SetUint64(l[i])
		sum.Add(sum, x.Lsh(x, uint(51*i)))
	}
	return sum.Mod(sum, prime)
}

// edges are the numbers around which a carry or the last subtraction could go wrong.
func edges() []api.Fe {
	var out []api.Fe
	for _, n := range []uint{51, 102, 153, 204, 255} {
		for _, more := range []int64{-20, -19, -18, -1, 0, 1, 18, 19, 20} {
			out = append(out, raw(power2(n, more)))
		}
	}
	for _, small := range []int64{0, 1, 2, 3, 4, 18, 19, 20, 37, 38, 121665, 121666} {
		out = append(out, raw(big.NewInt(small)))
		out = append(out, raw(new(big.Int).Sub(prime, big.NewInt(small))))
		out = append(out, raw(power2(256, -1-small)))
	}
	double := power2(256, -38)
	for _, more := range []int64{-1, 0, 1} {
		out = append(out, raw(new(big.Int).Add(double, big.NewInt(more))))
	}
	return out
}

func random(r *rand.Rand) api.Fe {
	var a api.Fe
	r.Read(a[:])
	return a
}

// samples are the edges and so many random numbers, always the same ones.
func samples(count int) []api.Fe {
	r := rand.New(rand.NewSource(1))
	out := edges()
	for range count {
		out = append(out, random(r))
	}
	return out
}

func want(t *testing.T, call string, got, expected api.Fe, args ...any) {
	t.Helper()
	if got != expected {
		t.Fatalf("%s of %x: %x, not %x", call, args, got, expected)
	}
}
