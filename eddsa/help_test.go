package eddsa_test

import (
	"bytes"
	"crypto/sha512"
	"encoding/hex"
	"math/big"
	"math/rand"
	"slices"
	"testing"

	"rime/api"
	"rime/eddsa"
	"rime/edwards"
)

// The tests hold the package against the chapter's section 'Words', worked out by math/big and the library's SHA-512 over layer 4's points, and against the library's Ed25519.

var (
	one   = big.NewInt(1)
	prime = new(big.Int).Sub(new(big.Int).Lsh(one, 255), big.NewInt(19))
	order = fromBytes(unhex("edd3f55c1a631258d69cf7a2def9de1400000000000000000000000000000010"))
)

func unhex(s string) []byte {
	b, err := hex.DecodeString(s)
	if err != nil {
		panic(err)
	}
	return b
}

func fromBytes(b []byte) *big.Int {
	c := slices.Clone(b)
	slices.Reverse(c)
	return new(big.Int).SetBytes(c)
}

// bytes32 is x as it is, in 32 bytes.
func bytes32(x *big.Int) [32]byte {
	b := x.FillBytes(make([]byte, 32))
	slices.Reverse(b)
	return [32]byte(b)
}

func number(s api.Scalar) *big.Int { return fromBytes(s[:]) }

func modL(x *big.Int) api.Scalar { return bytes32(new(big.Int).Mod(x, order)) }

func plus(a, b *big.Int) *big.Int { return new(big.Int).Add(a, b) }

func times(a, b *big.Int) *big.Int { return new(big.Int).Mul(a, b) }

// prefixOf is the chapter's prefix of a mode and a context.
func prefixOf(mode api.Mode, context []byte) []byte {
	if mode == api.ModePure {
		return nil
	}
	out := []byte("SigEd25519 no Ed25519 collisions")
	if mode == api.ModePrehash {
		out = append(out, 1)
	} else {
		out = append(out, 0)
	}
	return append(append(out, byte(len(context))), context...)
}

// numberOf is SHA-512(prefix, parts, what is signed), modulo L.
func numberOf(mode api.Mode, context, message []byte, parts ...[]byte) api.Scalar {
	h := sha512.New()
	h.Write(prefixOf(mode, context))
	h.Write(bytes.Join(parts, nil))
	if mode == api.ModePrehash {
		digest := sha512.Sum512(message)
		message = digest[:]
	}
	h.Write(message)
	return modL(fromBytes(h.Sum(nil)))
}

// secretOf is a seed's secret and half.
func secretOf(seed api.Seed) (*big.Int, []byte) {
	h := sha512.Sum512(seed[:])
	h[0] &= 248
	h[31] = h[31]&127 | 64
	return fromBytes(h[:32]), h[32:]
}

// signatureOf is what the chapter says under 'To sign'.
func signatureOf(seed api.Seed, mode api.Mode, context, message []byte) api.Signature {
	secret, half := secretOf(seed)
	nonce := numberOf(mode, context, message, half)
	r, public := edwards.MulBase(nonce), edwards.MulBase(bytes32(secret))
	c := numberOf(mode, context, message, r[:], public[:])
	s := modL(plus(number(nonce), times(number(c), secret)))
	return api.Signature(slices.Concat(r[:], s[:]))
}

// errorOf is what the chapter says of VerifyWith, for a mode and a context that may be.
func errorOf(t *testing.T, public api.Element, mode api.Mode, context, message []byte, sig api.Signature) api.Errno {
	r, s := api.Element(sig[:32]), api.Scalar(sig[32:])
	if edwards.Check(public) != api.OK {
		return api.ErrPublic
	}
	if edwards.Check(r) != api.OK {
		return api.ErrR
	}
	if number(s).Cmp(order) >= 0 {
		return api.ErrS
	}
	c := numberOf(mode, context, message, r[:], public[:])
	if edwards.MulBase(s) != add(t, r, mul(t, c, public)) {
		return api.ErrSignature
	}
	return api.OK
}

func add(t *testing.T, a, b api.Element) api.Element {
	t.Helper()
	sum, errno := edwards.Add(a, b)
	if errno != api.OK {
		t.Fatalf("Add of %x and %x: %v", a, b, errno)
	}
	return sum
}

func mul(t *testing.T, k api.Scalar, e api.Element) api.Element {
	t.Helper()
	product, errno := edwards.Mul(k, e)
	if errno != api.OK {
		t.Fatalf("Mul of %x and %x: %v", k, e, errno)
	}
	return product
}

// way is a mode with a context.
type way struct {
	mode    api.Mode
	context []byte
}

// ways are modes with contexts that may be; no two of them have one prefix.
func ways() []way {
	long := bytes.Repeat([]byte{0xc5}, 255)
	return []way{
		{api.ModePure, nil},
		{api.ModeContext, []byte("c")}, {api.ModeContext, []byte{0}}, {api.ModeContext, []byte("foo")}, {api.ModeContext, long[:254]}, {api.ModeContext, long},
		{api.ModePrehash, nil}, {api.ModePrehash, []byte("c")}, {api.ModePrehash, []byte{0}}, {api.ModePrehash, long[:254]}, {api.ModePrehash, long},
	}
}

func drawnBytes(r *rand.Rand, count int) []byte {
	b := make([]byte, count)
	r.Read(b)
	return b
}

func drawnSeed(r *rand.Rand) api.Seed { return api.Seed(drawnBytes(r, 32)) }

func drawnScalar(r *rand.Rand) api.Scalar { return modL(new(big.Int).Rand(r, order)) }

// drawnPoint is of any coset: just one in eight is of the prime-order subgroup.
func drawnPoint(r *rand.Rand) api.Element {
	for {
		if e, errno := edwards.Decode(drawnBytes(r, 32)); errno == api.OK {
			return e
		}
	}
}

// noPoints are the kinds of bytes that are none: a y that is not below p, one that has no x, an x that is 0 and odd.
func noPoints() []api.Element {
	minus1 := api.Element(bytes32(new(big.Int).Sub(prime, one)))
	minus1[31] |= 0x80
	out := []api.Element{{2}, {0: 2, 31: 0x80}, {0: 1, 31: 0x80}, minus1}
	for more := range int64(19) {
		e := api.Element(bytes32(plus(prime, big.NewInt(more))))
		out = append(out, e)
		e[31] |= 0x80
		out = append(out, e)
	}
	return out
}

// noScalars are numbers that are not below L.
func noScalars() []api.Scalar {
	out := []api.Scalar{api.Scalar(bytes.Repeat([]byte{0xff}, 32)), {31: 0x11}, {31: 0x80}, {31: 0x20}}
	for k := range int64(15) {
		middle := times(order, big.NewInt(k+1))
		out = append(out, bytes32(middle), bytes32(plus(middle, one)))
	}
	return out
}

// scalars are numbers below L, at the ends of their range and drawn.
func scalars(r *rand.Rand) []api.Scalar {
	last := new(big.Int).Sub(order, one)
	return []api.Scalar{{}, {1}, {2}, bytes32(last), bytes32(new(big.Int).Sub(last, one)), {31: 0x10}, drawnScalar(r), drawnScalar(r)}
}

func wantErrno(t *testing.T, call string, got, expected api.Errno, args ...any) {
	t.Helper()
	if got != expected {
		t.Fatalf("%s of %x: %v, not %v", call, args, got, expected)
	}
}

func signWith(t *testing.T, seed api.Seed, w way, message []byte) api.Signature {
	t.Helper()
	sig, errno := eddsa.SignWith(seed, w.mode, w.context, message)
	wantErrno(t, "SignWith", errno, api.OK, seed, w, message)
	return sig
}

// spoil overwrites all of a list's room.
func spoil[T any](l []T, by T) {
	l = l[:cap(l)]
	for i := range l {
		l[i] = by
	}
}
