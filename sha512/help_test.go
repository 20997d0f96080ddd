package sha512_test

import (
	std "crypto/sha512"
	"encoding"
	"encoding/binary"
	"encoding/hex"
	"hash"
	"math/big"
	"math/rand"
	"slices"
	"testing"

	"rime/api"
	"rime/sha512"
)

// The tests hold the package against the library's SHA-512, and its constants against roots by math/big.

func unhex(s string) []byte {
	b, err := hex.DecodeString(s)
	if err != nil {
		panic(err)
	}
	return b
}

// drawn are so many random bytes, always the same ones of a seed.
func drawn(seed int64, count int) []byte {
	b := make([]byte, count)
	rand.New(rand.NewSource(seed)).Read(b)
	return b
}

// lengths are all up to three blocks, and those around the ends of some more.
func lengths() []int {
	var out []int
	for n := range 3*128 + 2 {
		out = append(out, n)
	}
	for _, blocks := range []int{4, 5, 8, 16, 33} {
		for _, more := range []int{-17, -16, -1, 0, 1, 110, 111, 112, 113} {
			out = append(out, 128*blocks+more)
		}
	}
	return out
}

func digest(b []byte) api.Digest { return api.Digest(std.Sum512(b)) }

func want(t *testing.T, call string, got, expected api.Digest, args ...any) {
	t.Helper()
	if got != expected {
		t.Fatalf("%s of %v: %x, not %x", call, args, got, expected)
	}
}

// The library lays a digest on its way aside as four bytes, the words, the room of a block and the length.
const magic = "sha\x07"

// resumed is the library's digest with these words, bytes and length.
func resumed(m api.Midstate) hash.Hash {
	laid := []byte(magic)
	for _, w := range m.Words {
		laid = binary.BigEndian.AppendUint64(laid, w)
	}
	laid = append(laid, m.Tail...)
	laid = append(laid, make([]byte, 128-len(m.Tail))...)
	h := std.New()
	if err := h.(encoding.BinaryUnmarshaler).UnmarshalBinary(binary.BigEndian.AppendUint64(laid, m.Len)); err != nil {
		panic(err)
	}
	return h
}

// wordsOf are the words behind all whole blocks that the library's digest has taken.
func wordsOf(h hash.Hash) (words [8]uint64) {
	laid, err := h.(encoding.BinaryMarshaler).MarshalBinary()
	if err != nil {
		panic(err)
	}
	for i := range words {
		words[i] = binary.BigEndian.Uint64(laid[len(magic)+8*i:])
	}
	return words
}

func drawnWords(r *rand.Rand) (words [8]uint64) {
	for i := range words {
		words[i] = r.Uint64()
	}
	return words
}

// resume is Resume of what may be resumed.
func resume(t *testing.T, m api.Midstate) *sha512.Hasher {
	t.Helper()
	h, errno := sha512.Resume(m)
	if h == nil || errno != api.OK {
		t.Fatalf("Resume of %d bytes behind %d: %v", len(m.Tail), m.Len, errno)
	}
	return h
}

func pad(t *testing.T, n uint64) []byte {
	t.Helper()
	b, errno := sha512.Pad(n)
	if errno != api.OK {
		t.Fatalf("Pad(%d): %v", n, errno)
	}
	return b
}

func sameState(a, b api.Midstate) bool {
	return a.Words == b.Words && slices.Equal(a.Tail, b.Tail) && a.Len == b.Len
}

// behindPoint are the first 64 bits behind the point of the root of that degree, found bit by bit.
func behindPoint(x, degree int64) uint64 {
	scaled := new(big.Int).Lsh(big.NewInt(x), uint(64*degree))
	root := new(big.Int)
	for bit := 70; bit >= 0; bit-- {
		root.SetBit(root, bit, 1)
		if new(big.Int).Exp(root, big.NewInt(degree), nil).Cmp(scaled) > 0 {
			root.SetBit(root, bit, 0)
		}
	}
	return new(big.Int).And(root, new(big.Int).SetUint64(1<<64-1)).Uint64()
}

func primes(count int) []int64 {
	var out []int64
	for x := int64(2); len(out) < count; x++ {
		if !slices.ContainsFunc(out, func(p int64) bool { return x%p == 0 }) {
			out = append(out, x)
		}
	}
	return out
}

// spoil overwrites all of a list's room.
func spoil[T any](l []T, by T) {
	l = l[:cap(l)]
	for i := range l {
		l[i] = by
	}
}
