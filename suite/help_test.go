package suite_test

import (
	"bytes"
	"crypto/sha512"
	"encoding/hex"
	"math/big"
	"math/rand"
	"slices"
	"testing"

	"rime/api"
	"rime/edwards"
	"rime/suite"
)

// The tests hold the package against the chapter's words, worked out by math/big, the library's SHA-512 and layer 4's points, and against RFC 9591's vectors.

var (
	one   = big.NewInt(1)
	prime = new(big.Int).Sub(new(big.Int).Lsh(one, 255), big.NewInt(19))
	order = fromBytes(unhex("edd3f55c1a631258d69cf7a2def9de1400000000000000000000000000000010"))
)

func unhex(s string) []byte {
	b, err := hex.DecodeString(s)
	if err != nil {
		panic(err)
	}
	return b
}

func fromBytes(b []byte) *big.Int {
	c := slices.Clone(b)
	slices.Reverse(c)
	return new(big.Int).SetBytes(c)
}

// bytes32 is x as it is, in 32 bytes.
func bytes32(x *big.Int) [32]byte {
	b := x.FillBytes(make([]byte, 32))
	slices.Reverse(b)
	return [32]byte(b)
}

func element(s string) api.Element      { return api.Element(unhex(s)) }
func number(s api.Scalar) *big.Int      { return fromBytes(s[:]) }
func modL(x *big.Int) api.Scalar        { return bytes32(new(big.Int).Mod(x, order)) }
func plus(a, b *big.Int) *big.Int       { return new(big.Int).Add(a, b) }
func minus(a, b *big.Int) *big.Int      { return new(big.Int).Sub(a, b) }
func times(a, b *big.Int) *big.Int      { return new(big.Int).Mul(a, b) }
func timesL(k int64) *big.Int           { return times(order, big.NewInt(k)) }
func textOf(parts ...[]byte) [64]byte   { return sha512.Sum512(bytes.Join(parts, nil)) }
func numberOf(d [64]byte) api.Scalar    { return modL(fromBytes(d[:])) }
func drawn(seed int64) *rand.Rand       { return rand.New(rand.NewSource(seed)) }
func anyScalar(r *rand.Rand) api.Scalar { return api.Scalar(drawnBytes(r, 32)) }
func lowScalar(r *rand.Rand) api.Scalar { return bytes32(new(big.Int).Rand(r, order)) }

func drawnBytes(r *rand.Rand, count int) []byte {
	b := make([]byte, count)
	r.Read(b)
	return b
}

// edgeNumbers lie around every multiple of L that 256 bits have room for, and at both ends.
func edgeNumbers() []*big.Int {
	out := []*big.Int{big.NewInt(0), one, big.NewInt(2), big.NewInt(255), big.NewInt(256), minus(new(big.Int).Lsh(one, 256), one)}
	for k := range int64(15) {
		multiple := timesL(k + 1)
		out = append(out, minus(multiple, one), multiple, plus(multiple, one))
	}
	for _, bits := range []uint{252, 253, 255} {
		power := new(big.Int).Lsh(one, bits)
		out = append(out, minus(power, one), power, plus(power, one))
	}
	return out
}

// scalars are 32 bytes at the edges and drawn ones, most of them not below L.
func scalars(r *rand.Rand, count int) []api.Scalar {
	var out []api.Scalar
	for _, x := range edgeNumbers() {
		out = append(out, bytes32(x))
	}
	for range count {
		out = append(out, anyScalar(r), lowScalar(r))
	}
	return out
}

// member is an element of the group, drawn.
func member(r *rand.Rand) api.Element {
	k := plus(new(big.Int).Rand(r, minus(order, one)), one)
	return edwards.MulBase(bytes32(k))
}

func members(r *rand.Rand, count int) []api.Element {
	out := make([]api.Element, count)
	for i := range out {
		out[i] = member(r)
	}
	return out
}

// noPoints are the kinds of bytes that are none: a y that is not below p, one that has no x, an x that is 0 and odd.
func noPoints() []api.Element {
	minus1 := api.Element(bytes32(minus(prime, one)))
	minus1[31] |= 0x80
	out := []api.Element{{2}, {0: 2, 31: 0x80}, {0: 1, 31: 0x80}, minus1}
	for more := range int64(19) {
		e := api.Element(bytes32(plus(prime, big.NewInt(more))))
		out = append(out, e)
		e[31] |= 0x80
		out = append(out, e)
	}
	return out
}

// outsiders are points that are not in the prime-order subgroup: those of small order, and drawn ones of all seven other cosets.
func outsiders(t *testing.T, r *rand.Rand, count int) []api.Element {
	small := edwards.Order8()[1:]
	out := slices.Clone(small)
	for range count {
		for _, part := range small {
			out = append(out, add(t, member(r), part))
		}
	}
	return out
}

// errorOf is what the chapter says of PutElement: the subgroup is told by L times the point.
func errorOf(t *testing.T, e api.Element) api.Errno {
	switch {
	case edwards.Check(e) != api.OK:
		return api.ErrPoint
	case e == edwards.Identity():
		return api.ErrIdentity
	case mul(t, bytes32(order), e) != edwards.Identity():
		return api.ErrSubgroup
	}
	return api.OK
}

func add(t *testing.T, a, b api.Element) api.Element {
	t.Helper()
	sum, errno := edwards.Add(a, b)
	wantErrno(t, "Add", errno, api.OK, a, b)
	return sum
}

func mul(t *testing.T, k api.Scalar, e api.Element) api.Element {
	t.Helper()
	product, errno := edwards.Mul(k, e)
	wantErrno(t, "Mul", errno, api.OK, k, e)
	return product
}

func exp(t *testing.T, k api.Scalar) api.Element {
	t.Helper()
	e, errno := suite.Exp(k)
	wantErrno(t, "Exp", errno, api.OK, k)
	return e
}

func combine(t *testing.T, ks []api.Scalar, es []api.Element) api.Element {
	t.Helper()
	e, errno := suite.Combine(ks, es)
	wantErrno(t, "Combine", errno, api.OK, ks, es)
	return e
}

func wantErrno(t *testing.T, call string, got, expected api.Errno, args ...any) {
	t.Helper()
	if got != expected {
		t.Fatalf("%s of %x: %v, not %v", call, args, got, expected)
	}
}

// want holds an answer and its error against what they should be; beside an error the answer is zero.
func want[T ~[32]byte](t *testing.T, call string, got T, errno api.Errno, expected T, expectedErrno api.Errno, args ...any) {
	t.Helper()
	var zero T
	if expectedErrno != api.OK {
		expected = zero
	}
	if got != expected || errno != expectedErrno {
		t.Fatalf("%s of %x: %x %v, not %x %v", call, args, got, errno, expected, expectedErrno)
	}
}

// divide lays b out in parts, some of them empty or nil.
func divide(r *rand.Rand, b []byte) [][]byte {
	var out [][]byte
	for len(b) > 0 {
		n := r.Intn(len(b) + 1)
		out = append(out, b[:n:n])
		b = b[n:]
		if r.Intn(4) == 0 {
			out = append(out, nil)
		}
	}
	return out
}

// spoil overwrites all of a list's room.
func spoil[T any](l []T, by T) {
	l = l[:cap(l)]
	for i := range l {
		l[i] = by
	}
}
