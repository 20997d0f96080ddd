package drbg_test

import (
	"bytes"
	"crypto/hmac"
	"crypto/sha512"
	"encoding/hex"
	"math/big"
	"math/rand"
	"slices"
	"testing"

	"rime/api"
	"rime/drbg"
)

// The tests hold the package against the library's HMAC and HKDF, and against a generator that is told anew here out of the chapter's words.

func unhex(s string) []byte {
	b, err := hex.DecodeString(s)
	if err != nil {
		panic(err)
	}
	return b
}

func drawn(seed int64) *rand.Rand { return rand.New(rand.NewSource(seed)) }

func drawnBytes(r *rand.Rand, n int) []byte {
	b := make([]byte, n)
	r.Read(b)
	return b
}

// upTo are fewer than n bytes; every third time none.
func upTo(r *rand.Rand, n int) []byte {
	if r.Intn(3) == 0 {
		return nil
	}
	return drawnBytes(r, r.Intn(n))
}

func drawnRandoms(r *rand.Rand, count int) []api.Random {
	var out []api.Random
	for range count {
		out = append(out, api.Random(drawnBytes(r, 32)))
	}
	return out
}

// cutUp are the same bytes in pieces, some of them empty.
func cutUp(r *rand.Rand, b []byte) [][]byte {
	parts := [][]byte{nil}
	for len(b) > 0 {
		cut := min(len(b), r.Intn(150))
		parts, b = append(parts, b[:cut]), b[cut:]
	}
	return append(parts, []byte{})
}

func hmacOf(key, text []byte) api.Digest {
	h := hmac.New(sha512.New, key)
	h.Write(text)
	return api.Digest(h.Sum(nil))
}

// model is the generator of the chapter.
type model struct {
	k, v  []byte
	count int
}

func (m *model) mac(parts ...[]byte) []byte {
	digest := hmacOf(m.k, slices.Concat(parts...))
	return digest[:]
}

func (m *model) stir(x []byte) {
	m.k = m.mac(m.v, []byte{0}, x)
	m.v = m.mac(m.v)
	if len(x) == 0 {
		return
	}
	m.k = m.mac(m.v, []byte{1}, x)
	m.v = m.mac(m.v)
}

func (m *model) reseed(entropy, extra []byte) api.Errno {
	if len(entropy) < 32 {
		return api.ErrEntropy
	}
	m.stir(slices.Concat(entropy, extra))
	m.count = 0
	return api.OK
}

func (m *model) draw(n int, extra []byte) ([]byte, api.Errno) {
	switch {
	case n < 0:
		return nil, api.ErrArg
	case n > 65536:
		return nil, api.ErrMuch
	case m.count == 4096:
		return nil, api.ErrReseed
	}
	if len(extra) > 0 {
		m.stir(extra)
	}
	var out []byte
	for len(out) < n {
		m.v = m.mac(m.v)
		out = append(out, m.v...)
	}
	m.stir(extra)
	m.count++
	return out[:n], api.OK
}

// twin is a generator, with the model of it.
type twin struct {
	g *drbg.Generator
	m *model
}

func newTwin(t *testing.T, entropy, nonce, personal []byte) twin {
	t.Helper()
	g, errno := drbg.New(entropy, nonce, personal)
	if g == nil || errno != api.OK {
		t.Fatalf("New of %d bytes: %v %v", len(entropy), g, errno)
	}
	m := &model{k: make([]byte, 64), v: bytes.Repeat([]byte{1}, 64)}
	m.stir(slices.Concat(entropy, nonce, personal))
	return twin{g, m}
}

func drawnTwin(t *testing.T, r *rand.Rand) twin {
	t.Helper()
	return newTwin(t, drawnBytes(r, 32+r.Intn(100)), upTo(r, 40), upTo(r, 300))
}

// draw: both draw, and must agree.
func (w twin) draw(t *testing.T, n int, extra []byte) []byte {
	t.Helper()
	expected, why := w.m.draw(n, extra)
	got, errno := w.g.Draw(n, extra)
	if errno != why || !bytes.Equal(got, expected) {
		t.Fatalf("Draw(%d, %x): %x %v, not %x %v", n, cut(extra), cut(got), errno, cut(expected), why)
	}
	w.wantLeft(t)
	return got
}

func (w twin) random(t *testing.T) {
	t.Helper()
	expected, why := w.m.draw(32, nil)
	got, errno := w.g.Random()
	if errno != why || errno == api.OK && !bytes.Equal(got[:], expected) || errno != api.OK && got != (api.Random{}) {
		t.Fatalf("Random: %x %v, not %x %v", got, errno, expected, why)
	}
	w.wantLeft(t)
}

func (w twin) reseed(t *testing.T, entropy, extra []byte) {
	t.Helper()
	why := w.m.reseed(entropy, extra)
	if errno := w.g.Reseed(entropy, extra); errno != why {
		t.Fatalf("Reseed of %d bytes: %v, not %v", len(entropy), errno, why)
	}
	w.wantLeft(t)
}

func (w twin) wantLeft(t *testing.T) {
	t.Helper()
	if got := w.g.Left(); got != 4096-w.m.count {
		t.Fatalf("Left behind %d draws: %d", w.m.count, got)
	}
}

// tired: all but so many draws are gone.
func (w twin) tired(t *testing.T, left int) {
	t.Helper()
	for w.m.count < 4096-left {
		w.draw(t, 0, nil)
	}
}

// step is any call, right or wrong.
func (w twin) step(t *testing.T, r *rand.Rand) {
	t.Helper()
	switch r.Intn(8) {
	case 0:
		w.reseed(t, drawnBytes(r, 20+r.Intn(40)), upTo(r, 300))
	case 1:
		w.random(t)
	case 2:
		w.draw(t, []int{-1, 0, 65537}[r.Intn(3)], upTo(r, 50))
	default:
		w.draw(t, r.Intn(400), upTo(r, 300))
	}
}

// scalarOf is the number of two Randoms, modulo L, by math/big.
func scalarOf(low, high api.Random) api.Scalar {
	b := slices.Concat(low[:], high[:])
	slices.Reverse(b)
	order := new(big.Int).SetBytes(unhex("1000000000000000000000000000000014def9dea2f79cd65812631a5cf5d3ed"))
	x := new(big.Int).SetBytes(b)
	out := x.Mod(x, order).FillBytes(make([]byte, 32))
	slices.Reverse(out)
	return api.Scalar(out)
}

// scalarsOf are those of a list of Randoms, two and two.
func scalarsOf(l []api.Random) []api.Scalar {
	var out []api.Scalar
	for i := 0; i+1 < len(l); i += 2 {
		out = append(out, scalarOf(l[i], l[i+1]))
	}
	return out
}

func wantDigest(t *testing.T, call string, got, expected api.Digest, args ...any) {
	t.Helper()
	if got != expected {
		t.Fatalf("%s of %v: %x, not %x", call, args, got, expected)
	}
}

func wantExpanded(t *testing.T, key, info []byte, n int) []byte {
	t.Helper()
	got, errno := drbg.Expand(key, info, n)
	if errno != api.OK || len(got) != n {
		t.Fatalf("Expand of %d and %d bytes to %d: %d bytes, %v", len(key), len(info), n, len(got), errno)
	}
	return got
}

// cut is what a failure shows of long bytes.
func cut(b []byte) []byte { return b[:min(len(b), 200)] }

// spoil overwrites all of a list's room.
func spoil[T any](l []T, by T) {
	l = l[:cap(l)]
	for i := range l {
		l[i] = by
	}
}

// lent are bytes with others ahead of them, and with room behind them.
type lent struct{ whole, before []byte }

const margin = 70

func lend(r *rand.Rand, n int) lent {
	whole := drawnBytes(r, margin+n+margin)
	return lent{whole, slices.Clone(whole)}
}

func (l lent) bytes() []byte { return l.whole[margin : len(l.whole)-margin] }

func wantUnchanged(t *testing.T, call string, all ...lent) {
	t.Helper()
	for i, l := range all {
		if !bytes.Equal(l.whole, l.before) {
			t.Fatalf("%s has changed its argument %d, or what lies beside it", call, i)
		}
	}
}

// takeBack: nobody may count on these bytes any more.
func takeBack(all ...lent) {
	for _, l := range all {
		spoil(l.whole, 0xa5)
	}
}
