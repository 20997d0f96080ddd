package sha512_test

import (
	"bytes"
	"math/big"
	"math/rand"
	"testing"

	"rime/api"
	"rime/sha512"
)

func TestExamples(t *testing.T) {
	want(t, "Sum", sha512.Sum(nil), api.Digest(unhex("cf83e1357eefb8bdf1542850d66d8007d620e4050b5715dc83f4a921d36ce9ce47d0d13c5d85f2b0ff8318d2877eec2f63b931bd47417a81a538327af927da3e")), "no bytes")
	want(t, "Sum", sha512.Sum([]byte("abc")), api.Digest(unhex("ddaf35a193617abacc417349ae20413112e6fa4e89a97ea20a9eeee64b55d39a2192992a274fc1a836ba3c23a3feebbd454d4423643ce80e2a9ac94fa54ca49f")), "abc")
	if got := pad(t, 0); !bytes.Equal(got, append([]byte{128}, make([]byte, 127)...)) {
		t.Fatalf("Pad(0): %x", got)
	}
	if got := len(pad(t, 112)); got != 128+16 {
		t.Fatalf("Pad(112): %d bytes", got)
	}
}

// P3.1: Sum, Join, Short, Pad, Constants, Compress.

func TestSum(t *testing.T) {
	for _, n := range lengths() {
		for _, fill := range []byte{0, 0x7f, 0x80, 0xff} {
			b := bytes.Repeat([]byte{fill}, n)
			want(t, "Sum", sha512.Sum(b), digest(b), n, fill)
		}
		b := drawn(int64(n), n)
		want(t, "Sum", sha512.Sum(b), digest(b), n)
	}
	long := drawn(1, 1<<20+77)
	want(t, "Sum of many", sha512.Sum(long), digest(long))
	want(t, "Sum of empty", sha512.Sum([]byte{}), digest(nil))
}

func TestSumOfAMillion(t *testing.T) {
	want(t, "Sum", sha512.Sum(bytes.Repeat([]byte("a"), 1000000)), api.Digest(unhex("e718483d0ce769644e2e42c7bc15b4638e1f98b13b2044285632a803afa973ebde0ff244877ea60a4cb0432ce577c31beb009c5c2c49aa2e4eadb217ad8cc09b")), "a million a")
}

func TestEveryBitCounts(t *testing.T) {
	b := drawn(2, 200)
	before := sha512.Sum(b)
	for bit := range 8 * len(b) {
		b[bit/8] ^= 1 << (bit % 8)
		got := sha512.Sum(b)
		want(t, "Sum", got, digest(b), bit)
		if got == before {
			t.Fatalf("bit %d does not count", bit)
		}
		b[bit/8] ^= 1 << (bit % 8)
	}
}

func TestJoinAndShort(t *testing.T) {
	r := rand.New(rand.NewSource(3))
	for _, n := range lengths() {
		b := drawn(int64(n), n)
		var parts [][]byte
		for rest := b; len(rest) > 0; {
			cut := min(len(rest), r.Intn(150))
			parts, rest = append(parts, rest[:cut]), rest[cut:]
		}
		parts = append(parts, nil, []byte{})
		expected := digest(b)
		want(t, "Join", sha512.Join(parts...), expected, n)
		if got := sha512.Short(parts...); got != api.Hash(expected[:32]) {
			t.Fatalf("Short of %d bytes: %x", n, got)
		}
		want(t, "Join of one", sha512.Join(b), expected, n)
	}
	want(t, "Join of none", sha512.Join(), digest(nil))
	want(t, "Join of nil", sha512.Join(nil, nil), digest(nil))
	if none := digest(nil); sha512.Short() != api.Hash(none[:32]) {
		t.Fatalf("Short of none: %x", sha512.Short())
	}
}

// filling is what the document's words say: one byte, zeros till 112 modulo 128, the number of bits.
func filling(n uint64) []byte {
	out := []byte{128}
	for (n+uint64(len(out)))%128 != 112 {
		out = append(out, 0)
	}
	count := new(big.Int).Mul(new(big.Int).SetUint64(n), big.NewInt(8))
	return append(out, count.FillBytes(make([]byte, 16))...)
}

func TestPad(t *testing.T) {
	for n := range uint64(700) {
		for _, from := range []uint64{0, 1 << 20, 1<<32 - 300, 1 << 53, 1<<61 - 700} {
			if got := pad(t, from+n); !bytes.Equal(got, filling(from+n)) {
				t.Fatalf("Pad(%d): %x", from+n, got)
			}
		}
	}
	for shift := range 61 {
		if n := uint64(1) << shift; !bytes.Equal(pad(t, n), filling(n)) {
			t.Fatalf("Pad(%d): %x", n, pad(t, n))
		}
	}
}

func TestPadOfTooMany(t *testing.T) {
	for _, n := range []uint64{1 << 61, 1<<61 + 1, 1<<61 + 112, 1 << 62, 1 << 63, 1<<64 - 128, 1<<64 - 1} {
		if got, errno := sha512.Pad(n); len(got) != 0 || errno != api.ErrArg {
			t.Fatalf("Pad(%d): %x %v", n, got, errno)
		}
	}
	if got, errno := sha512.Pad(1<<61 - 1); len(got) != 1+112+16 || errno != api.OK {
		t.Fatalf("Pad(2^61 - 1): %x %v", got, errno)
	}
}

func TestConstants(t *testing.T) {
	got := sha512.Constants()
	for i, p := range primes(80) {
		if got[i] != behindPoint(p, 3) {
			t.Fatalf("constant %d: %x, not %x", i, got[i], behindPoint(p, 3))
		}
	}
	if got[0] != 0x428a2f98d728ae22 || got[79] != 0x6c44198c4a475817 {
		t.Fatalf("the first and the last: %x %x", got[0], got[79])
	}
}

func TestFirstWords(t *testing.T) {
	got := sha512.New().State().Words
	for i, p := range primes(8) {
		if got[i] != behindPoint(p, 2) {
			t.Fatalf("word %d: %x, not %x", i, got[i], behindPoint(p, 2))
		}
	}
}

func TestCompress(t *testing.T) {
	r := rand.New(rand.NewSource(4))
	var ones, grown [8]uint64
	spoil(ones[:], 1<<64-1)
	for i := range 500 {
		grown[i%8] = 1 << (i % 64)
		words := [][8]uint64{drawnWords(r), {}, ones, grown}[i%4]
		block := make([]byte, 128)
		r.Read(block)
		if i%5 == 0 {
			spoil(block, byte(i/5%2)*255)
		}
		h := resumed(api.Midstate{Words: words})
		h.Write(block)
		if got, errno := sha512.Compress(words, block); got != wordsOf(h) || errno != api.OK {
			t.Fatalf("Compress of %x, %x: %x %v, not %x", words, block, got, errno, wordsOf(h))
		}
	}
}

func TestCompressOfOtherLengths(t *testing.T) {
	for n := range 400 {
		got, errno := sha512.Compress([8]uint64{1, 2, 3}, make([]byte, n))
		if n != 128 && (got != [8]uint64{} || errno != api.ErrLength) {
			t.Fatalf("Compress of %d bytes: %x %v", n, got, errno)
		}
		if n == 128 && errno != api.OK {
			t.Fatalf("Compress of a block: %v", errno)
		}
	}
	if got, errno := sha512.Compress([8]uint64{1}, nil); got != [8]uint64{} || errno != api.ErrLength {
		t.Fatalf("Compress of nil: %x %v", got, errno)
	}
}

// P3.1: Hasher.

func TestHasherByteByByte(t *testing.T) {
	b := drawn(5, 700)
	h := sha512.New()
	for n := range len(b) {
		if h.Len() != uint64(n) {
			t.Fatalf("Len behind %d bytes: %d", n, h.Len())
		}
		want(t, "a Hasher's Sum", h.Sum(), digest(b[:n]), n)
		h.Write(b[n : n+1])
	}
	h.Write(nil)
	h.Write([]byte{})
	want(t, "a Hasher's Sum", h.Sum(), digest(b))
}

func TestReset(t *testing.T) {
	fresh := sha512.New().State()
	for _, n := range lengths() {
		h := sha512.New()
		h.Write(drawn(6, n))
		h.Reset()
		if h.Len() != 0 || h.Sum() != digest(nil) || !sameState(h.State(), fresh) {
			t.Fatalf("Reset behind %d bytes: %v", n, h.State())
		}
		b := drawn(7, n)
		h.Write(b)
		want(t, "Sum behind Reset", h.Sum(), digest(b), n)
	}
	h := resume(t, api.Midstate{Words: [8]uint64{1}, Tail: []byte{1}, Len: 129})
	h.Reset()
	if !sameState(h.State(), fresh) {
		t.Fatalf("Reset of one that goes on: %v", h.State())
	}
}

func TestState(t *testing.T) {
	for _, n := range lengths() {
		b := drawn(8, n)
		h := sha512.New()
		h.Write(b)
		reference := resumed(sha512.New().State())
		reference.Write(b)
		got := h.State()
		if got.Words != wordsOf(reference) || !bytes.Equal(got.Tail, b[n/128*128:]) || got.Len != uint64(n) {
			t.Fatalf("State behind %d bytes: %v", n, got)
		}
	}
}

func TestResume(t *testing.T) {
	r := rand.New(rand.NewSource(9))
	for i := range 1000 {
		n := []uint64{0, 128, 1 << 20, 1 << 32, 1 << 60, 1<<61 - 128}[i%6] + uint64(r.Intn(128))
		tail := make([]byte, n%128)
		r.Read(tail)
		m := api.Midstate{Words: drawnWords(r), Tail: tail, Len: n}
		h := resume(t, m)
		if h.Len() != n || !sameState(h.State(), m) {
			t.Fatalf("Resume of %v: %v", m, h.State())
		}
		reference := resumed(m)
		want(t, "Sum behind Resume", h.Sum(), api.Digest(reference.Sum(nil)), m)
		if n >= 1<<61-128 {
			continue
		}
		more := drawn(int64(i), r.Intn(400))
		h.Write(more)
		reference.Write(more)
		want(t, "Sum of more behind Resume", h.Sum(), api.Digest(reference.Sum(nil)), m, more)
	}
}

func TestResumeOfWhatMayNotBe(t *testing.T) {
	refused := func(tail int, n uint64) {
		t.Helper()
		if h, errno := sha512.Resume(api.Midstate{Tail: make([]byte, tail), Len: n}); h != nil || errno != api.ErrArg {
			t.Fatalf("Resume of %d bytes behind %d: %v", tail, n, errno)
		}
	}
	for tail := range 400 {
		for _, n := range []uint64{0, 1, 2, 127, 128, 129, 255, 256, 300, 1<<61 - 128, 1<<61 - 1} {
			if uint64(tail) == n%128 {
				resume(t, api.Midstate{Tail: make([]byte, tail), Len: n})
			} else {
				refused(tail, n)
			}
		}
	}
	for _, n := range []uint64{1 << 61, 1<<61 + 1, 1<<61 + 127, 1 << 62, 1 << 63, 1<<64 - 1} {
		refused(int(n%128), n)
		refused(0, n)
	}
	resume(t, api.Midstate{})
	resume(t, api.Midstate{Tail: []byte{}, Len: 128})
}

// A Hasher that neither New nor Resume made.
func TestUnmade(t *testing.T) {
	for _, h := range []*sha512.Hasher{nil, {}, new(sha512.Hasher)} {
		for range 2 {
			if h.Len() != 0 || h.Sum() != (api.Digest{}) || !sameState(h.State(), api.Midstate{}) {
				t.Fatalf("an unmade Hasher: %d %x %v", h.Len(), h.Sum(), h.State())
			}
			h.Write(drawn(10, 200))
			h.Write(nil)
			h.Reset()
			h.Write([]byte{1})
		}
	}
}
