package scalar_test

import (
	"encoding/hex"
	"math/big"
	"math/rand"
	"slices"
	"testing"

	"rime/api"
)

// The tests hold the package against math/big, with numbers of 256 bits of which most are not canonical.

var (
	order = fromBytes(unhex("edd3f55c1a631258d69cf7a2def9de1400000000000000000000000000000010"))
	one   = big.NewInt(1)
)

func unhex(s string) []byte {
	b, err := hex.DecodeString(s)
	if err != nil {
		panic(err)
	}
	return b
}

// littleEndian is x in at least so many bytes.
func littleEndian(x *big.Int, least int) []byte {
	b := x.Bytes()
	slices.Reverse(b)
	for len(b) < least {
		b = append(b, 0)
	}
	return b
}

func fromBytes(b []byte) *big.Int {
	c := slices.Clone(b)
	slices.Reverse(c)
	return new(big.Int).SetBytes(c)
}

// raw is x as it is, not reduced.
func raw(x *big.Int) api.Scalar { return api.Scalar(littleEndian(x, 32)) }

// reduced is x modulo L.
func reduced(x *big.Int) api.Scalar { return raw(new(big.Int).Mod(x, order)) }

// value is a's number modulo L.
func value(a api.Scalar) *big.Int {
	x := fromBytes(a[:])
	return x.Mod(x, order)
}

func values(l []api.Scalar) []*big.Int {
	var out []*big.Int
	for _, a := range l {
		out = append(out, value(a))
	}
	return out
}

// edges are the numbers around which a carry or the last subtraction could go wrong: around the multiples of L, and around the words' ends.
func edges() []api.Scalar {
	var middles []*big.Int
	for k := range int64(16) {
		middles = append(middles, new(big.Int).Mul(order, big.NewInt(k)))
	}
	for _, n := range []uint{4, 8, 63, 64, 127, 128, 191, 192, 251, 252, 253, 254, 255, 256} {
		middles = append(middles, new(big.Int).Lsh(one, n))
	}
	middles = append(middles, new(big.Int).Rsh(order, 1))
	var out []api.Scalar
	for _, middle := range middles {
		for more := int64(-2); more <= 2; more++ {
			x := new(big.Int).Add(middle, big.NewInt(more))
			if x.Sign() >= 0 && x.BitLen() <= 256 {
				out = append(out, raw(x))
			}
		}
	}
	return out
}

func random(r *rand.Rand) api.Scalar {
	var a api.Scalar
	r.Read(a[:])
	return a
}

// drawn are so many random numbers, always the same ones; every second is below L.
func drawn(count int) []api.Scalar {
	r := rand.New(rand.NewSource(1))
	var out []api.Scalar
	for i := range count {
		a := random(r)
		if i%2 == 1 {
			a = reduced(fromBytes(a[:]))
		}
		out = append(out, a)
	}
	return out
}

func samples(count int) []api.Scalar { return append(edges(), drawn(count)...) }

// some are a few edges, for tests that take three numbers.
func some() []api.Scalar {
	out := []api.Scalar{{}, {1}, {2}, reduced(big.NewInt(-1)), raw(order), raw(new(big.Int).Add(order, one)), {31: 255}}
	return append(out, drawn(13)...)
}

func want(t *testing.T, call string, got, expected api.Scalar, args ...any) {
	t.Helper()
	if got != expected {
		t.Fatalf("%s of %x: %x, not %x", call, args, got, expected)
	}
}
