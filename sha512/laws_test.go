package sha512_test

import (
	"bytes"
	"math/rand"
	"slices"
	"testing"

	"rime/api"
	"rime/sha512"
)

// P3.2: pieces, and what is laid aside and gone on with.

func TestPiecesAtEveryPlace(t *testing.T) {
	b := drawn(20, 300)
	expected := digest(b)
	for first := range 301 {
		for _, second := range []int{0, 1, 15, 16, 112, 127, 128, 129, 256} {
			if first+second > len(b) {
				continue
			}
			h := sha512.New()
			h.Write(b[:first])
			g := resume(t, h.State())
			g.Write(b[first : first+second])
			h.Write(b[first : first+second])
			f := resume(t, g.State())
			f.Write(b[first+second:])
			h.Write(b[first+second:])
			want(t, "pieces", h.Sum(), expected, first, second)
			want(t, "pieces laid aside", f.Sum(), expected, first, second)
		}
	}
}

// run takes drawn pieces, lays aside and goes on, and asks between; ask tells what is done between.
func run(t *testing.T, seed int64, ask func(h *sha512.Hasher, taken []byte) *sha512.Hasher) {
	r := rand.New(rand.NewSource(seed))
	h := sha512.New()
	var taken []byte
	for range 40 {
		if r.Intn(15) == 0 {
			h.Reset()
			taken = nil
		}
		piece := make([]byte, []int{0, 1, 127, 128, 129, r.Intn(20), r.Intn(128), r.Intn(600)}[r.Intn(8)])
		r.Read(piece)
		h.Write(piece)
		taken = append(taken, piece...)
		if r.Intn(2) == 0 {
			h = ask(h, taken)
		}
	}
	want(t, "a run's Sum", h.Sum(), digest(taken), seed)
	if h.Len() != uint64(len(taken)) {
		t.Fatalf("Len behind run %d: %d", seed, h.Len())
	}
}

func TestRuns(t *testing.T) {
	for seed := range int64(100) {
		run(t, seed, func(h *sha512.Hasher, taken []byte) *sha512.Hasher { return h })
		run(t, seed, func(h *sha512.Hasher, taken []byte) *sha512.Hasher { return resume(t, h.State()) })
		run(t, seed, func(h *sha512.Hasher, taken []byte) *sha512.Hasher {
			first, second := h.State(), h.State()
			want(t, "Sum between", h.Sum(), digest(taken), seed)
			want(t, "Sum again", h.Sum(), digest(taken), seed)
			if h.Len() != uint64(len(taken)) || !sameState(first, second) || !sameState(first, h.State()) {
				t.Fatalf("asking changes a Hasher: %v %v", first, h.State())
			}
			return h
		})
	}
}

// P3.3: Sum is Compress over the blocks of the bytes and Pad, from New's words.
func TestSumIsCompressOverBlocks(t *testing.T) {
	for _, n := range lengths() {
		b := drawn(int64(1000+n), n)
		words := sha512.New().State().Words
		for block := range slices.Chunk(slices.Concat(b, pad(t, uint64(n))), 128) {
			var errno api.Errno
			if words, errno = sha512.Compress(words, block); errno != api.OK {
				t.Fatalf("a block of %d bytes behind %d: %v", len(block), n, errno)
			}
		}
		var expected api.Digest
		for i := range expected {
			expected[i] = byte(words[i/8] >> (56 - i%8*8))
		}
		want(t, "Sum", sha512.Sum(b), expected, n)
	}
}

// P3.4: what is handed in is neither changed nor kept, spare room included; an answer is new memory.

func TestArgumentsStayAsTheyAre(t *testing.T) {
	room := drawn(21, 700)
	before := slices.Clone(room)
	h := sha512.New()
	for _, n := range []int{0, 1, 111, 112, 127, 128, 129, 200, 256, 400} {
		sha512.Sum(room[:n])
		sha512.Join(room[:n], room[n:n+30], room[:n])
		sha512.Short(room[:n], room[n:n+200])
		sha512.Compress([8]uint64{}, room[:n])
		h.Write(room[:n])
		h.Sum()
		if g, errno := sha512.Resume(api.Midstate{Tail: room[:n%128], Len: uint64(n)}); errno == api.OK {
			g.Write(make([]byte, 300))
			g.Sum()
			g.Reset()
		}
	}
	if !bytes.Equal(room, before) {
		t.Fatal("a call has changed its argument or the room behind it")
	}
}

func TestPartsStayAsTheyAre(t *testing.T) {
	room := drawn(22, 300)
	parts := [][]byte{room[:100], nil, room[100:250], room[250:]}
	sha512.Join(parts...)
	sha512.Short(parts...)
	if !bytes.Equal(slices.Concat(parts...), drawn(22, 300)) || parts[1] != nil || len(parts[0]) != 100 || len(parts[2]) != 150 {
		t.Fatal("Join or Short has changed its list")
	}
}

func TestNothingIsKept(t *testing.T) {
	for _, n := range []int{1, 100, 127, 128, 129, 300} {
		b := drawn(23, n)
		expected := digest(b)
		h := sha512.New()
		h.Write(b)
		spoil(b, 0xa5)
		want(t, "Sum of what was overwritten", h.Sum(), expected, n)

		m := h.State()
		g := resume(t, m)
		f := resume(t, m)
		spoil(m.Tail, 0xa5)
		want(t, "a Hasher whose State was overwritten", h.Sum(), expected, n)
		want(t, "one that was resumed from it", g.Sum(), expected, n)
		f.Write(drawn(24, 150))
		want(t, "one beside another", g.Sum(), expected, n)
	}
}

func TestAnswersAreNewMemory(t *testing.T) {
	for _, n := range []uint64{0, 1, 111, 112, 127, 500} {
		first, second := pad(t, n), pad(t, n)
		spoil(first, 0xa5)
		if !bytes.Equal(second, filling(n)) || !bytes.Equal(pad(t, n), filling(n)) {
			t.Fatalf("answers of Pad(%d) share memory", n)
		}
		h := sha512.New()
		h.Write(drawn(25, int(n)))
		one, two := h.State(), h.State()
		spoil(one.Tail, 0xa5)
		if !bytes.Equal(two.Tail, drawn(25, int(n))[n/128*128:]) || !sameState(two, h.State()) {
			t.Fatalf("two answers of State behind %d bytes share memory", n)
		}
	}
	k := sha512.Constants()
	spoil(k[:], 0)
	if again := sha512.Constants(); again[0] != 0x428a2f98d728ae22 || sha512.Sum(nil) != digest(nil) {
		t.Fatal("Constants gives out what the program keeps")
	}
}

func TestHashersShareNothing(t *testing.T) {
	a, b := drawn(26, 1000), drawn(27, 1000)
	h, g := sha512.New(), sha512.New()
	for at := 0; at < len(a); at += 50 {
		h.Write(a[at : at+50])
		g.Write(b[at : at+50])
		copied := *h
		copied.Write(b)
		want(t, "one of two", h.Sum(), digest(a[:at+50]), at)
		want(t, "the other of two", g.Sum(), digest(b[:at+50]), at)
	}
	h.Reset()
	want(t, "one beside another that was reset", g.Sum(), digest(b))
}
