package drbg_test

import (
	"bytes"
	"math"
	"testing"

	"rime/api"
	"rime/drbg"
)

// P11.1: a generator, call by call.

// The first of NIST's test vectors for HMAC_DRBG with SHA-512: of two draws, the second is told.
func TestGeneratorOfNIST(t *testing.T) {
	w := newTwin(t, unhex("35049f389a33c0ecb1293238fd951f8ffd517dfde06041d32945b3e26914ba15"), unhex("f7328760be6168e6aa9fb54784989a11"), nil)
	w.draw(t, 256, nil)
	got := w.draw(t, 256, nil)
	expected := unhex("e76491b0260aacfded01ad39fbf1a66a88284caa5123368a2ad9330ee48335e3c9c9ba90e6cbc9429962d60c1a6661edcfaa31d972b8264b9d4562cf18494128a092c17a8da6f3113e8a7edfcd4427082bd390675e9662408144971717303d8dc352c9e8b95e7f35fa2ac9f549b292bc7c4bc7f01ee0a577859ef6e82d79ef23892d167c140d22aac32b64ccdfeee2730528a38763b24227f91ac3ffe47fb11538e435307e77481802b0f613f370ffb0dbeab774fe1efbb1a80d01154a9459e73ad361108bbc86b0914f095136cbe634555ce0bb263618dc5c367291ce0825518987154fe9ecb052b3f0a256fcc30cc14572531c9628973639beda456f2bddf6")
	if !bytes.Equal(got, expected) {
		t.Fatalf("Draw(256): %x", got)
	}
}

func TestNew(t *testing.T) {
	r := drawn(10)
	for _, entropy := range []int{32, 33, 64, 127, 128, 129, 500} {
		for _, nonce := range []int{0, 1, 16, 64} {
			for _, personal := range []int{0, 1, 15, 200} {
				w := newTwin(t, drawnBytes(r, entropy), drawnBytes(r, nonce), drawnBytes(r, personal))
				w.wantLeft(t)
				w.draw(t, 100, nil)
				w.draw(t, 100, nil)
			}
		}
	}
	w := newTwin(t, make([]byte, 32), []byte{}, []byte{})
	other := newTwin(t, make([]byte, 32), nil, nil)
	if !bytes.Equal(w.draw(t, 64, []byte{}), other.draw(t, 64, nil)) {
		t.Fatal("nil and empty ones are not one")
	}
}

func TestTooLittleEntropy(t *testing.T) {
	r := drawn(11)
	for n := range 32 {
		for _, more := range [][]byte{nil, drawnBytes(r, 32), drawnBytes(r, 200)} {
			if g, errno := drbg.New(drawnBytes(r, n), more, more); g != nil || errno != api.ErrEntropy {
				t.Fatalf("New of %d bytes: %v %v", n, g, errno)
			}
			w := drawnTwin(t, r)
			w.draw(t, 10, nil)
			w.reseed(t, drawnBytes(r, n), more)
			if w.g.Left() != 4095 {
				t.Fatalf("Reseed of %d bytes is counted: %d are left", n, w.g.Left())
			}
			w.draw(t, 40, nil)
		}
	}
	if g, errno := drbg.New(nil, nil, nil); g != nil || errno != api.ErrEntropy {
		t.Fatalf("New of nil: %v %v", g, errno)
	}
}

func TestReseed(t *testing.T) {
	r := drawn(12)
	for _, entropy := range []int{32, 33, 64, 200} {
		for _, extra := range []int{0, 1, 64, 300} {
			w := drawnTwin(t, r)
			w.draw(t, 70, nil)
			w.draw(t, 70, []byte("more"))
			w.reseed(t, drawnBytes(r, entropy), drawnBytes(r, extra))
			if w.g.Left() != 4096 {
				t.Fatalf("Left behind Reseed: %d", w.g.Left())
			}
			w.draw(t, 70, nil)
			w.reseed(t, drawnBytes(r, entropy), nil)
			w.reseed(t, drawnBytes(r, entropy), nil)
			w.draw(t, 70, nil)
		}
	}
}

func TestDraw(t *testing.T) {
	r := drawn(13)
	w := drawnTwin(t, r)
	sizes := []int{255, 256, 257, 1000, 4095, 4096, 65471, 65472, 65473, 65535, 65536}
	for n := range 200 {
		sizes = append(sizes, n)
	}
	for _, n := range sizes {
		for _, extra := range []int{0, 1, 64, 128, 300} {
			w.draw(t, n, drawnBytes(r, extra))
		}
	}
	w.draw(t, 64, drawnBytes(r, 100000))
	w.draw(t, 64, nil)
}

func TestDrawOfNothing(t *testing.T) {
	r := drawn(14)
	for range 20 {
		w := drawnTwin(t, r)
		w.draw(t, 0, upTo(r, 100))
		w.draw(t, 0, upTo(r, 100))
		if w.g.Left() != 4094 {
			t.Fatalf("Left behind two draws of nothing: %d", w.g.Left())
		}
		w.draw(t, 90, nil)
	}
}

func TestDrawOfWrongSizes(t *testing.T) {
	r := drawn(15)
	w := drawnTwin(t, r)
	for _, n := range []int{-1, -2, -64, -65536, math.MinInt32, math.MinInt, math.MinInt + 1, 65537, 65600, 1 << 17, math.MaxInt32, 1<<32 + 1, math.MaxInt} {
		for _, extra := range [][]byte{nil, drawnBytes(r, 50)} {
			b, errno := w.g.Draw(n, extra)
			if why := map[bool]api.Errno{true: api.ErrArg, false: api.ErrMuch}[n < 0]; len(b) != 0 || errno != why {
				t.Fatalf("Draw(%d): %d bytes, %v", n, len(b), errno)
			}
			w.wantLeft(t)
			w.draw(t, 33, nil)
		}
	}
}

func TestRandomIsADraw(t *testing.T) {
	r := drawn(16)
	w := drawnTwin(t, r)
	for range 50 {
		w.random(t)
		w.draw(t, 32, nil)
	}
}

// The last draw is the 4096th; a generator that must be seeded anew tells wrong sizes first, and does not change.
func TestSeededAnew(t *testing.T) {
	r := drawn(17)
	w := drawnTwin(t, r)
	w.tired(t, 1)
	w.draw(t, 65, []byte("the last"))
	if w.g.Left() != 0 {
		t.Fatalf("Left: %d", w.g.Left())
	}
	for range 3 {
		for n, why := range map[int]api.Errno{0: api.ErrReseed, 1: api.ErrReseed, 65536: api.ErrReseed, 65537: api.ErrMuch, -1: api.ErrArg} {
			if b, errno := w.g.Draw(n, []byte("more")); len(b) != 0 || errno != why {
				t.Fatalf("Draw(%d) behind the last: %x %v", n, b, errno)
			}
		}
		if got, errno := w.g.Random(); got != (api.Random{}) || errno != api.ErrReseed {
			t.Fatalf("Random behind the last: %x %v", got, errno)
		}
		w.reseed(t, make([]byte, 31), nil)
	}
	w.reseed(t, drawnBytes(r, 32), []byte("extra"))
	w.draw(t, 65, nil)
	w.tired(t, 1)
	w.random(t)
	w.random(t)
	if w.g.Left() != 0 {
		t.Fatalf("Left: %d", w.g.Left())
	}
}

// Random is the last draw, too, and an early Reseed gives all draws back.
func TestEarlyReseed(t *testing.T) {
	r := drawn(18)
	w := drawnTwin(t, r)
	w.tired(t, 1)
	w.reseed(t, drawnBytes(r, 40), nil)
	w.tired(t, 1)
	w.random(t)
	w.random(t)
	w.reseed(t, drawnBytes(r, 40), nil)
	w.random(t)
}

func TestNilGenerator(t *testing.T) {
	var g *drbg.Generator
	for _, n := range []int{-1, 0, 1, 65537, math.MaxInt, math.MinInt} {
		if b, errno := g.Draw(n, nil); len(b) != 0 || errno != api.ErrMade {
			t.Fatalf("Draw(%d) of nil: %x %v", n, b, errno)
		}
	}
	for _, n := range []int{0, 31, 32} {
		if errno := g.Reseed(make([]byte, n), nil); errno != api.ErrMade {
			t.Fatalf("Reseed of nil by %d bytes: %v", n, errno)
		}
	}
	if got, errno := g.Random(); got != (api.Random{}) || errno != api.ErrMade {
		t.Fatalf("Random of nil: %x %v", got, errno)
	}
	if g.Left() != 0 {
		t.Fatalf("Left of nil: %d", g.Left())
	}
}

// A generator that no call has seeded gives nothing.
func TestZeroGenerator(t *testing.T) {
	g := &drbg.Generator{}
	for range 2 {
		if b, errno := g.Draw(32, nil); len(b) != 0 || errno != api.ErrMade {
			t.Fatalf("Draw: %x %v", b, errno)
		}
		if got, errno := g.Random(); got != (api.Random{}) || errno != api.ErrMade {
			t.Fatalf("Random: %x %v", got, errno)
		}
		if g.Left() != 0 {
			t.Fatalf("Left: %d", g.Left())
		}
		if errno := g.Reseed(make([]byte, 32), nil); errno != api.ErrMade {
			t.Fatalf("Reseed: %v", errno)
		}
	}
}
