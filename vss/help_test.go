package vss_test

import (
	"encoding/hex"
	"math"
	"math/big"
	"math/rand"
	"slices"
	"testing"

	"rime/api"
	"rime/edwards"
	"rime/vss"
)

// The tests hold the package against the chapter's words. Every point in them is a multiple of the base point that is known, so that sums of points are held against sums of numbers, worked out by math/big.

var (
	one   = big.NewInt(1)
	prime = minus(new(big.Int).Lsh(one, 255), big.NewInt(19))
	order = fromBytes(unhex("edd3f55c1a631258d69cf7a2def9de1400000000000000000000000000000010"))
	room  = new(big.Int).Lsh(one, 256)
)

func unhex(s string) []byte {
	b, err := hex.DecodeString(s)
	if err != nil {
		panic(err)
	}
	return b
}

func fromBytes(b []byte) *big.Int {
	c := slices.Clone(b)
	slices.Reverse(c)
	return new(big.Int).SetBytes(c)
}

// bytes32 is x as it is, in 32 bytes.
func bytes32(x *big.Int) [32]byte {
	b := x.FillBytes(make([]byte, 32))
	slices.Reverse(b)
	return [32]byte(b)
}

func modL(x *big.Int) api.Scalar      { return bytes32(new(big.Int).Mod(x, order)) }
func plus(a, b *big.Int) *big.Int     { return new(big.Int).Add(a, b) }
func minus(a, b *big.Int) *big.Int    { return new(big.Int).Sub(a, b) }
func times(a, b *big.Int) *big.Int    { return new(big.Int).Mul(a, b) }
func timesL(k int64) *big.Int         { return times(order, big.NewInt(k)) }
func drawn(seed int64) *rand.Rand     { return rand.New(rand.NewSource(seed)) }
func low(r *rand.Rand) api.Scalar     { return bytes32(new(big.Int).Rand(r, order)) }
func number(s api.Scalar) *big.Int    { return new(big.Int).Mod(fromBytes(s[:]), order) }
func exp(x *big.Int) api.Element      { return edwards.MulBase(modL(x)) }
func reduced(s api.Scalar) api.Scalar { return modL(number(s)) }

// otherForm is the same number modulo L, as other bytes where there is room for them.
func otherForm(r *rand.Rand, s api.Scalar) api.Scalar {
	if x := plus(number(s), timesL(int64(1+r.Intn(15)))); x.Cmp(room) < 0 {
		return bytes32(x)
	}
	return bytes32(plus(number(s), order))
}

// zeros are all the bytes that are 0 modulo L.
func zeros() []api.Scalar {
	var out []api.Scalar
	for k := range int64(16) {
		out = append(out, bytes32(timesL(k)))
	}
	return out
}

// polynomial has so many coefficients, none of them 0 modulo L, most of them not canonical.
func polynomial(r *rand.Rand, count int) []api.Scalar {
	out := make([]api.Scalar, count)
	for i := range out {
		out[i] = otherForm(r, modL(plus(new(big.Int).Rand(r, minus(order, one)), one)))
	}
	return out
}

// rooted is such a polynomial that is 0 at an identifier; it has at least two coefficients.
func rooted(r *rand.Rand, count, id int) []api.Scalar {
	coefs := polynomial(r, count)
	coefs[0] = modL(minus(number(coefs[0]), valueAt(coefs, id)))
	return coefs
}

// valueAt is the polynomial's value at a number, by powers.
func valueAt(coefs []api.Scalar, x int) *big.Int {
	sum := new(big.Int)
	for j, c := range coefs {
		sum.Add(sum, times(number(c), new(big.Int).Exp(big.NewInt(int64(x)), big.NewInt(int64(j)), order)))
	}
	return sum.Mod(sum, order)
}

// commitsOf are the commitments, by layer 4.
func commitsOf(coefs []api.Scalar) []api.Element {
	out := make([]api.Element, len(coefs))
	for i, c := range coefs {
		out[i] = exp(number(c))
	}
	return out
}

func sharesOf(coefs []api.Scalar, ids []int) []api.Share {
	out := make([]api.Share, len(ids))
	for i, id := range ids {
		out[i] = api.Share{ID: id, Value: modL(valueAt(coefs, id))}
	}
	return out
}

func dealOf(coefs []api.Scalar, ids []int) api.Deal {
	return api.Deal{Commits: commitsOf(coefs), Shares: sharesOf(coefs, ids)}
}

// keysOf are the keys of a polynomial, whatever its coefficients are.
func keysOf(coefs []api.Scalar, ids []int) api.GroupKeys {
	keys := api.GroupKeys{Threshold: len(coefs), Group: exp(number(coefs[0]))}
	for _, id := range ids {
		keys.Publics = append(keys.Publics, api.PublicShare{ID: id, Public: exp(valueAt(coefs, id))})
	}
	return keys
}

func cloneDeal(d api.Deal) api.Deal {
	return api.Deal{Commits: slices.Clone(d.Commits), Shares: slices.Clone(d.Shares)}
}

func cloneKeys(k api.GroupKeys) api.GroupKeys {
	k.Publics = slices.Clone(k.Publics)
	return k
}

func sameKeys(a, b api.GroupKeys) bool {
	return a.Threshold == b.Threshold && a.Group == b.Group && slices.Equal(a.Publics, b.Publics)
}

// someIDs are so many identifiers that may be, in any order.
func someIDs(r *rand.Rand, count int) []int {
	ids := r.Perm(api.MaxID)[:count]
	for i := range ids {
		ids[i]++
	}
	return ids
}

func risingIDs(r *rand.Rand, count int) []int {
	ids := someIDs(r, count)
	slices.Sort(ids)
	return ids
}

// upTo are 1 to n.
func upTo(n int) []int {
	var out []int
	for i := range n {
		out = append(out, i+1)
	}
	return out
}

// wrongIDs are no identifiers, though some are one modulo a power of 2.
func wrongIDs() []int {
	return []int{0, -1, -2, -254, -255, -256, 256, 257, 511, 512, 1 << 16, 1<<16 + 1, 1 << 32, 1<<32 + 1, -1 << 32, math.MaxInt, math.MinInt, math.MinInt + 1}
}

// wrongElements are no group elements: no points, the identity, and points of all other cosets of the prime-order subgroup, of small order and drawn.
func wrongElements(t *testing.T, r *rand.Rand) []api.Element {
	t.Helper()
	minus1 := api.Element(bytes32(minus(prime, one)))
	minus1[31] |= 0x80
	out := []api.Element{{2}, {0: 1, 31: 0x80}, minus1, bytes32(prime), bytes32(plus(prime, one)), bytes32(plus(prime, big.NewInt(18)))}
	small := edwards.Order8()
	out = append(out, small...)
	for _, part := range small[1:] {
		sum, errno := edwards.Add(exp(number(low(r))), part)
		if errno != api.OK {
			t.Fatalf("Add: %v", errno)
		}
		out = append(out, sum)
	}
	return out
}

// wrongCommits are lists that may not be, with their errors.
func wrongCommits(t *testing.T, r *rand.Rand) map[api.Errno][][]api.Element {
	t.Helper()
	right, wrong := commitsOf(polynomial(r, 4)), wrongElements(t, r)
	out := map[api.Errno][][]api.Element{
		api.ErrCount: {nil, {}, slices.Repeat(right, 64), slices.Repeat(wrong[:1], 256), slices.Repeat(right, 100)},
	}
	for i, e := range wrong {
		list := slices.Clone(right[:1+i%4])
		list[r.Intn(len(list))] = e
		out[api.ErrCommitment] = append(out[api.ErrCommitment], list)
	}
	out[api.ErrCommitment] = append(out[api.ErrCommitment], append(slices.Repeat(right, 63), right[0], right[1], wrong[0]))
	return out
}

// errorOfIDs is what chapter 7 says of a list of identifiers.
func errorOfIDs(ids []int) api.Errno {
	if len(ids) == 0 {
		return api.ErrCount
	}
	for i, id := range ids {
		if id < 1 || id > 255 {
			return api.ErrID
		}
		if slices.Contains(ids[:i], id) {
			return api.ErrTwice
		}
	}
	return api.OK
}

func wantErrno(t *testing.T, call string, got, expected api.Errno, args ...any) {
	t.Helper()
	if got != expected {
		t.Fatalf("%s of %x: %v, not %v", call, args, got, expected)
	}
}

// want holds an answer and its error against what they should be; beside an error the answer is zero.
func want[T comparable](t *testing.T, call string, got T, errno api.Errno, expected T, expectedErrno api.Errno, args ...any) {
	t.Helper()
	var zero T
	if expectedErrno != api.OK {
		expected = zero
	}
	if got != expected || errno != expectedErrno {
		t.Fatalf("%s of %x: %v %v, not %v %v", call, args, got, errno, expected, expectedErrno)
	}
}

// wantList does so of a list.
func wantList[T comparable](t *testing.T, call string, got []T, errno api.Errno, expected []T, expectedErrno api.Errno, args ...any) {
	t.Helper()
	if expectedErrno != api.OK {
		expected = nil
	}
	if !slices.Equal(got, expected) || errno != expectedErrno {
		t.Fatalf("%s of %x: %v %v, not %v %v", call, args, got, errno, expected, expectedErrno)
	}
}

// wantDeal does so of a deal.
func wantDeal(t *testing.T, coefs []api.Scalar, ids []int, expected api.Deal, expectedErrno api.Errno) {
	t.Helper()
	got, errno := vss.Deal(coefs, ids)
	wantList(t, "Deal's commitments", got.Commits, errno, expected.Commits, expectedErrno, coefs, ids)
	wantList(t, "Deal's shares", got.Shares, errno, expected.Shares, expectedErrno, coefs, ids)
}

// wantNoKeys: Keys answers an error, and zeros beside it.
func wantNoKeys(t *testing.T, deal api.Deal, expected api.Errno) {
	t.Helper()
	list, keys, errno := vss.Keys(deal)
	if errno != expected || len(list) != 0 || !sameKeys(keys, api.GroupKeys{}) {
		t.Fatalf("Keys of %x: %x %x %v, not %v", deal, list, keys, errno, expected)
	}
}

// wantKeys: Keys answers those of the polynomial of which the deal is.
func wantKeys(t *testing.T, coefs []api.Scalar, deal api.Deal) ([]api.KeyShare, api.GroupKeys) {
	t.Helper()
	var ids []int
	var expected []api.KeyShare
	for _, s := range deal.Shares {
		x := valueAt(coefs, s.ID)
		ids = append(ids, s.ID)
		expected = append(expected, api.KeyShare{ID: s.ID, Threshold: len(coefs), Secret: modL(x), Public: exp(x), Group: exp(number(coefs[0]))})
	}
	list, keys, errno := vss.Keys(deal)
	wantList(t, "Keys", list, errno, expected, api.OK, deal)
	if !sameKeys(keys, keysOf(coefs, ids)) {
		t.Fatalf("Keys of %x: %x", deal, keys)
	}
	return list, keys
}

func wantFits(t *testing.T, keys api.GroupKeys, expected bool, expectedErrno api.Errno) {
	t.Helper()
	if got, errno := vss.Fits(keys); got != expected || errno != expectedErrno {
		t.Fatalf("Fits of %x: %v %v, not %v %v", keys, got, errno, expected, expectedErrno)
	}
}

// spoil overwrites all of a list's room.
func spoil[T any](l []T, by T) {
	l = l[:cap(l)]
	for i := range l {
		l[i] = by
	}
}
