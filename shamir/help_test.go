package shamir_test

import (
	"encoding/hex"
	"math"
	"math/big"
	"math/rand"
	"slices"
	"testing"

	"rime/api"
	"rime/shamir"
)

// The tests hold the package against the chapter's words, worked out by math/big, most of them with scalars that are not canonical.

var (
	one   = big.NewInt(1)
	order = fromBytes(unhex("edd3f55c1a631258d69cf7a2def9de1400000000000000000000000000000010"))
	room  = new(big.Int).Lsh(one, 256)
	line  = []api.Scalar{{5}, {7}}
)

func unhex(s string) []byte {
	b, err := hex.DecodeString(s)
	if err != nil {
		panic(err)
	}
	return b
}

func fromBytes(b []byte) *big.Int {
	c := slices.Clone(b)
	slices.Reverse(c)
	return new(big.Int).SetBytes(c)
}

// bytes32 is x as it is, in 32 bytes.
func bytes32(x *big.Int) api.Scalar {
	b := x.FillBytes(make([]byte, 32))
	slices.Reverse(b)
	return api.Scalar(b)
}

func modL(x *big.Int) api.Scalar      { return bytes32(new(big.Int).Mod(x, order)) }
func plus(a, b *big.Int) *big.Int     { return new(big.Int).Add(a, b) }
func minus(a, b *big.Int) *big.Int    { return new(big.Int).Sub(a, b) }
func times(a, b *big.Int) *big.Int    { return new(big.Int).Mul(a, b) }
func timesL(k int64) *big.Int         { return times(order, big.NewInt(k)) }
func drawn(seed int64) *rand.Rand     { return rand.New(rand.NewSource(seed)) }
func placeOf(id int) api.Scalar       { return api.Scalar{byte(id)} }
func same(a, b api.Scalar) bool       { return number(a).Cmp(number(b)) == 0 }
func low(r *rand.Rand) api.Scalar     { return bytes32(new(big.Int).Rand(r, order)) }
func number(s api.Scalar) *big.Int    { return new(big.Int).Mod(fromBytes(s[:]), order) }
func canonical(s api.Scalar) bool     { return fromBytes(s[:]).Cmp(order) < 0 }
func reduced(s api.Scalar) api.Scalar { return modL(fromBytes(s[:])) }

func anyScalar(r *rand.Rand) api.Scalar {
	var s api.Scalar
	r.Read(s[:])
	return s
}

// otherForm is the same number modulo L, as other bytes where there is room for them.
func otherForm(r *rand.Rand, s api.Scalar) api.Scalar {
	if x := plus(number(s), timesL(int64(r.Intn(16)))); x.Cmp(room) < 0 {
		return bytes32(x)
	}
	return s
}

// edges lie around the multiples of L that 256 bits have room for, and at both ends.
func edges() []api.Scalar {
	out := []api.Scalar{{}, {1}, {2}, {3}, {254}, {255}, {0, 1}, bytes32(minus(room, one))}
	for k := range int64(15) {
		multiple := timesL(k + 1)
		out = append(out, bytes32(minus(multiple, one)), bytes32(multiple), bytes32(plus(multiple, one)))
	}
	return out
}

func scalars(r *rand.Rand, count int) []api.Scalar {
	out := make([]api.Scalar, count)
	for i := range out {
		out[i] = anyScalar(r)
	}
	return out
}

func reducedAll(l []api.Scalar) []api.Scalar {
	out := make([]api.Scalar, len(l))
	for i, s := range l {
		out[i] = reduced(s)
	}
	return out
}

// someIDs are so many identifiers that may be, in any order.
func someIDs(r *rand.Rand, count int) []int {
	ids := r.Perm(api.MaxID)[:count]
	for i := range ids {
		ids[i]++
	}
	return ids
}

// wrongIDs are no identifiers, though some are one modulo a power of 2.
func wrongIDs() []int {
	return []int{0, -1, -2, -254, -255, -256, 256, 257, 511, 512, 1 << 16, 1<<16 + 1, 1 << 32, 1<<32 + 1, -1 << 32, math.MaxInt, math.MinInt, math.MinInt + 1}
}

// wrongThresholds are none.
func wrongThresholds() []int {
	return []int{0, -1, -255, 256, 257, 1 << 32, 1<<32 + 2, math.MaxInt, math.MinInt}
}

// valueAt is the polynomial's value, by powers.
func valueAt(coefs []api.Scalar, x api.Scalar) *big.Int {
	sum := new(big.Int)
	for j, c := range coefs {
		sum.Add(sum, times(number(c), new(big.Int).Exp(number(x), big.NewInt(int64(j)), order)))
	}
	return sum.Mod(sum, order)
}

// lagrange is a fraction of products, by its definition.
func lagrange(ids []int, id int, x api.Scalar) *big.Int {
	above, below := big.NewInt(1), big.NewInt(1)
	for _, other := range ids {
		if other != id {
			above.Mul(above, minus(number(x), big.NewInt(int64(other)))).Mod(above, order)
			below.Mul(below, big.NewInt(int64(id-other))).Mod(below, order)
		}
	}
	return above.Mul(above, new(big.Int).ModInverse(below, order)).Mod(above, order)
}

// throughAt is the value at x of the polynomial through the shares.
func throughAt(shares []api.Share, x api.Scalar) *big.Int {
	ids, sum := idsOf(shares), new(big.Int)
	for _, s := range shares {
		sum.Add(sum, times(lagrange(ids, s.ID, x), number(s.Value)))
	}
	return sum.Mod(sum, order)
}

// astray are the identifiers of the shares that are not on the polynomial through others, rising.
func astray(shares, others []api.Share) []int {
	var out []int
	for _, s := range shares {
		if throughAt(others, placeOf(s.ID)).Cmp(number(s.Value)) != 0 {
			out = append(out, s.ID)
		}
	}
	slices.Sort(out)
	return out
}

func idsOf(shares []api.Share) []int {
	var ids []int
	for _, s := range shares {
		ids = append(ids, s.ID)
	}
	return ids
}

// sharesOf are shares of these identifiers, of any values.
func sharesOf(r *rand.Rand, ids []int) []api.Share {
	var out []api.Share
	for _, id := range ids {
		out = append(out, api.Share{ID: id, Value: anyScalar(r)})
	}
	return out
}

func pick(r *rand.Rand, shares []api.Share, count int) []api.Share {
	var out []api.Share
	for _, i := range r.Perm(len(shares))[:count] {
		out = append(out, shares[i])
	}
	return out
}

// split is Split of what may be split, with the values in any form.
func split(t *testing.T, r *rand.Rand, coefs []api.Scalar, ids []int) []api.Share {
	t.Helper()
	shares, errno := shamir.Split(coefs, ids)
	if errno != api.OK || len(shares) != len(ids) {
		t.Fatalf("Split of %x for %v: %x %v", coefs, ids, shares, errno)
	}
	for i := range shares {
		shares[i].Value = otherForm(r, shares[i].Value)
	}
	return shares
}

// errorOf is what the chapter says of a list of identifiers.
func errorOf(ids []int) api.Errno {
	if len(ids) == 0 {
		return api.ErrCount
	}
	for i, id := range ids {
		if id < 1 || id > 255 {
			return api.ErrID
		}
		if slices.Contains(ids[:i], id) {
			return api.ErrTwice
		}
	}
	return api.OK
}

// want holds an answer against the number that it should be, in canonical form; beside an error it is zero.
func want(t *testing.T, call string, got api.Scalar, errno api.Errno, expected *big.Int, expectedErrno api.Errno, args ...any) {
	t.Helper()
	if expectedErrno != api.OK {
		expected = new(big.Int)
	}
	if got != modL(expected) || errno != expectedErrno {
		t.Fatalf("%s of %x: %x %v, not %x %v", call, args, got, errno, modL(expected), expectedErrno)
	}
}

// wantList does so of a list.
func wantList[T comparable](t *testing.T, call string, got []T, errno api.Errno, expected []T, expectedErrno api.Errno, args ...any) {
	t.Helper()
	if expectedErrno != api.OK {
		expected = nil
	}
	if !slices.Equal(got, expected) || errno != expectedErrno {
		t.Fatalf("%s of %v: %v %v, not %v %v", call, args, got, errno, expected, expectedErrno)
	}
}

// wantCorrect holds Correct against a polynomial and who is wrong.
func wantCorrect(t *testing.T, shares []api.Share, threshold int, coefs []api.Scalar, wrong []int, expected api.Errno) {
	t.Helper()
	got, ids, errno := shamir.Correct(shares, threshold)
	if errno != expected || !slices.Equal(got, coefs) || !slices.Equal(ids, wrong) {
		t.Fatalf("Correct of %x with %d: %x %v %v, not %x %v %v", shares, threshold, got, ids, errno, coefs, wrong, expected)
	}
}

// spoil overwrites all of a list's room.
func spoil[T any](l []T, by T) {
	l = l[:cap(l)]
	for i := range l {
		l[i] = by
	}
}
