package frost_test

import (
	"crypto/sha512"
	"encoding/hex"
	"math"
	"math/big"
	"math/rand"
	"slices"
	"testing"

	"rime/api"
	"rime/edwards"
)

// The tests hold the package against the chapter's words. Every point in them is a multiple of the base point that is known, so that sums of points are held against sums of numbers, worked out by math/big; hashes are those of crypto/sha512.

var (
	one   = big.NewInt(1)
	prime = minus(new(big.Int).Lsh(one, 255), big.NewInt(19))
	order = fromBytes(unhex("edd3f55c1a631258d69cf7a2def9de1400000000000000000000000000000010"))
	room  = new(big.Int).Lsh(one, 256)
)

func unhex(s string) []byte {
	b, err := hex.DecodeString(s)
	if err != nil {
		panic(err)
	}
	return b
}

func fromBytes(b []byte) *big.Int {
	c := slices.Clone(b)
	slices.Reverse(c)
	return new(big.Int).SetBytes(c)
}

// bytes32 is x as it is, in 32 bytes.
func bytes32(x *big.Int) [32]byte {
	b := x.FillBytes(make([]byte, 32))
	slices.Reverse(b)
	return [32]byte(b)
}

func modL(x *big.Int) api.Scalar   { return bytes32(new(big.Int).Mod(x, order)) }
func plus(a, b *big.Int) *big.Int  { return new(big.Int).Add(a, b) }
func minus(a, b *big.Int) *big.Int { return new(big.Int).Sub(a, b) }
func times(a, b *big.Int) *big.Int { return new(big.Int).Mul(a, b) }
func timesL(k int64) *big.Int      { return times(order, big.NewInt(k)) }
func drawn(seed int64) *rand.Rand  { return rand.New(rand.NewSource(seed)) }
func low(r *rand.Rand) api.Scalar  { return bytes32(new(big.Int).Rand(r, order)) }
func number(s api.Scalar) *big.Int { return new(big.Int).Mod(fromBytes(s[:]), order) }
func exp(x *big.Int) api.Element   { return edwards.MulBase(modL(x)) }

// some is a scalar that is not 0 modulo L, and as often as not not canonical.
func some(r *rand.Rand) api.Scalar {
	s := modL(plus(new(big.Int).Rand(r, minus(order, one)), one))
	if r.Intn(2) == 0 {
		return otherForm(r, s)
	}
	return s
}

func someElement(r *rand.Rand) api.Element { return exp(number(some(r))) }

// otherForm is the same number modulo L, as bytes that are not canonical.
func otherForm(r *rand.Rand, s api.Scalar) api.Scalar {
	if x := plus(number(s), timesL(int64(1+r.Intn(15)))); x.Cmp(room) < 0 {
		return bytes32(x)
	}
	return bytes32(plus(number(s), order))
}

// zeros are all the bytes that are 0 modulo L.
func zeros() []api.Scalar {
	var out []api.Scalar
	for k := range int64(16) {
		out = append(out, bytes32(timesL(k)))
	}
	return out
}

func drawnBytes(r *rand.Rand, n int) []byte {
	b := make([]byte, n)
	r.Read(b)
	return b
}

func drawnRandom(r *rand.Rand) api.Random { return api.Random(drawnBytes(r, 32)) }

// hash is SHA-512 of the parts, one behind the other.
func hash(parts ...[]byte) []byte {
	sum := sha512.Sum512(slices.Concat(parts...))
	return sum[:]
}

// tagged is SHA-512 of the suite's context, a word and the parts.
func tagged(word string, parts ...[]byte) []byte {
	return hash([]byte("FROST-ED25519-SHA512-v1"), []byte(word), slices.Concat(parts...))
}

// valueAt is the polynomial's value at a number, by powers.
func valueAt(coefs []api.Scalar, x int) *big.Int {
	sum := new(big.Int)
	for j, c := range coefs {
		sum.Add(sum, times(number(c), new(big.Int).Exp(big.NewInt(int64(x)), big.NewInt(int64(j)), order)))
	}
	return sum.Mod(sum, order)
}

// risingIDs are so many identifiers that may be, rising.
func risingIDs(r *rand.Rand, count int) []int {
	ids := r.Perm(api.MaxID)[:count]
	for i := range ids {
		ids[i]++
	}
	slices.Sort(ids)
	return ids
}

// upTo are 1 to n.
func upTo(n int) []int {
	var out []int
	for i := range n {
		out = append(out, i+1)
	}
	return out
}

// otherID is an identifier that may be and is none of these.
func otherID(r *rand.Rand, ids []int) int {
	for {
		if id := 1 + r.Intn(api.MaxID); !slices.Contains(ids, id) {
			return id
		}
	}
}

// wrongIDs are no identifiers, though some are one modulo a power of 2.
func wrongIDs() []int {
	return []int{0, -1, -2, -254, -255, -256, 256, 257, 511, 512, 1 << 16, 1<<16 + 1, 1 << 32, 1<<32 + 1, -1 << 32, math.MaxInt, math.MinInt, math.MinInt + 1}
}

// wrongThresholds may not be.
func wrongThresholds() []int {
	return []int{1, 0, -1, -2, -255, 256, 257, 258, 1<<16 + 2, 1<<32 + 2, math.MaxInt, math.MinInt, math.MinInt + 2}
}

// wrongElements are no group elements: no points, the identity, and points of all other cosets of the prime-order subgroup, of small order and drawn.
func wrongElements(r *rand.Rand) []api.Element {
	minus1 := api.Element(bytes32(minus(prime, one)))
	minus1[31] |= 0x80
	out := []api.Element{{2}, {0: 1, 31: 0x80}, minus1, bytes32(prime), bytes32(plus(prime, one)), bytes32(plus(prime, big.NewInt(18)))}
	small := edwards.Order8()
	out = append(out, small...)
	for _, part := range small[1:] {
		sum, _ := edwards.Add(someElement(r), part)
		out = append(out, sum)
	}
	return out
}

// team is a group of which some sign a message, all by the chapter's words and none by package frost. No secret, nonce or coefficient need be canonical.
type team struct {
	coefs   []api.Scalar
	all     []int
	keys    api.GroupKeys
	ids     []int
	shares  []api.KeyShare
	nonces  []api.Nonces
	list    []api.Commitment
	message []byte
}

// teamOf: of all, whose threshold is how many coefficients there are, these sign.
func teamOf(r *rand.Rand, coefs []api.Scalar, all, ids []int, message []byte) team {
	group := exp(number(coefs[0]))
	a := team{coefs: coefs, all: all, ids: ids, message: message, keys: api.GroupKeys{Threshold: len(coefs), Group: group}}
	for _, id := range all {
		a.keys.Publics = append(a.keys.Publics, api.PublicShare{ID: id, Public: exp(valueAt(coefs, id))})
	}
	for _, id := range ids {
		secret := modL(valueAt(coefs, id))
		public := exp(number(secret))
		if r.Intn(2) == 0 {
			secret = otherForm(r, secret)
		}
		n := api.Nonces{Hiding: some(r), Binding: some(r)}
		a.shares = append(a.shares, api.KeyShare{ID: id, Threshold: len(coefs), Secret: secret, Public: public, Group: group})
		a.nonces = append(a.nonces, n)
		a.list = append(a.list, commitmentOf(id, n))
	}
	return a
}

func polynomial(r *rand.Rand, count int) []api.Scalar {
	out := make([]api.Scalar, count)
	for i := range out {
		out[i] = some(r)
	}
	return out
}

// drawnTeam: of n with that threshold so many sign.
func drawnTeam(r *rand.Rand, threshold, n, signers int) team {
	all := risingIDs(r, n)
	ids := slices.Clone(all)
	r.Shuffle(n, func(i, j int) { ids[i], ids[j] = ids[j], ids[i] })
	ids = ids[:signers]
	slices.Sort(ids)
	return teamOf(r, polynomial(r, threshold), all, ids, drawnBytes(r, r.Intn(200)))
}

// anyTeam is a small one of any kind.
func anyTeam(r *rand.Rand) team {
	threshold := 2 + r.Intn(4)
	n := threshold + r.Intn(4)
	return drawnTeam(r, threshold, n, threshold+r.Intn(n-threshold+1))
}

func commitmentOf(id int, n api.Nonces) api.Commitment {
	return api.Commitment{ID: id, Hiding: exp(number(n.Hiding)), Binding: exp(number(n.Binding))}
}

// byteOf is an identifier as a scalar's bytes.
func byteOf(id int) []byte { return append([]byte{byte(id)}, make([]byte, 31)...) }

func codeOf(list []api.Commitment) []byte {
	var out []byte
	for _, c := range list {
		out = slices.Concat(out, byteOf(c.ID), c.Hiding[:], c.Binding[:])
	}
	return out
}

func factorsOf(group api.Element, list []api.Commitment, message []byte) []api.Factor {
	front := slices.Concat(group[:], tagged("msg", message), tagged("com", codeOf(list)))
	var out []api.Factor
	for _, c := range list {
		out = append(out, api.Factor{ID: c.ID, Value: modL(fromBytes(tagged("rho", front, byteOf(c.ID))))})
	}
	return out
}

func challengeOf(r, group api.Element, message []byte) api.Scalar {
	return modL(fromBytes(hash(r[:], group[:], message)))
}

// weightOf is that of an identifier among rising ones.
func weightOf(ids []int, id int) *big.Int {
	above, below := big.NewInt(1), big.NewInt(1)
	for _, other := range ids {
		if other != id {
			above.Mul(above, big.NewInt(int64(other)))
			below.Mul(below, big.NewInt(int64(other-id)))
		}
	}
	return above.Mul(above, new(big.Int).ModInverse(below.Mod(below, order), order))
}

// first is the number whose multiple of the base point is the group commitment.
func (a team) first() *big.Int {
	sum := new(big.Int)
	for i, f := range factorsOf(a.keys.Group, a.list, a.message) {
		sum.Add(sum, plus(number(a.nonces[i].Hiding), times(number(a.nonces[i].Binding), number(f.Value))))
	}
	return sum
}

// right are the signers' shares.
func (a team) right() []api.SigShare {
	challenge := number(challengeOf(exp(a.first()), a.keys.Group, a.message))
	var out []api.SigShare
	for i, f := range factorsOf(a.keys.Group, a.list, a.message) {
		nonce := plus(number(a.nonces[i].Hiding), times(number(a.nonces[i].Binding), number(f.Value)))
		answer := times(times(weightOf(a.ids, f.ID), number(a.shares[i].Secret)), challenge)
		out = append(out, api.SigShare{ID: f.ID, Value: modL(plus(nonce, answer))})
	}
	return out
}

// sum is the signature whose second half is the sum of these shares.
func (a team) sum(shares []api.SigShare) api.Signature {
	first, second := exp(a.first()), new(big.Int)
	for _, s := range shares {
		second.Add(second, number(s.Value))
	}
	half := modL(second)
	return api.Signature(slices.Concat(first[:], half[:]))
}

// public is the public share of a signer.
func (a team) public(at int) api.PublicShare {
	return api.PublicShare{ID: a.ids[at], Public: a.shares[at].Public}
}

func (a team) clone() team {
	a.keys.Publics, a.shares, a.nonces = slices.Clone(a.keys.Publics), slices.Clone(a.shares), slices.Clone(a.nonces)
	a.list, a.ids, a.message = slices.Clone(a.list), slices.Clone(a.ids), slices.Clone(a.message)
	return a
}

func wantErrno(t *testing.T, call string, got, expected api.Errno, args ...any) {
	t.Helper()
	if got != expected {
		t.Fatalf("%s of %x: %v, not %v", call, args, got, expected)
	}
}

// want holds an answer and its error against what they should be; beside an error the answer is zero.
func want[T comparable](t *testing.T, call string, got T, errno api.Errno, expected T, expectedErrno api.Errno, args ...any) {
	t.Helper()
	var zero T
	if expectedErrno != api.OK {
		expected = zero
	}
	if got != expected || errno != expectedErrno {
		t.Fatalf("%s of %x: %v %v, not %v %v", call, args, got, errno, expected, expectedErrno)
	}
}

// wantList does so of a list.
func wantList[T comparable](t *testing.T, call string, got []T, errno api.Errno, expected []T, expectedErrno api.Errno, args ...any) {
	t.Helper()
	if expectedErrno != api.OK {
		expected = nil
	}
	if !slices.Equal(got, expected) || errno != expectedErrno {
		t.Fatalf("%s of %x: %v %v, not %v %v", call, args, got, errno, expected, expectedErrno)
	}
}

// spoil overwrites all of a list's room.
func spoil[T any](l []T, by T) {
	l = l[:cap(l)]
	for i := range l {
		l[i] = by
	}
}
