package seal_test

import (
	"bytes"
	"encoding/binary"
	"encoding/hex"
	"math/big"
	"math/bits"
	"math/rand"
	"slices"
	"testing"

	"rime/api"
	"rime/seal"
)

// The tests hold the package against vectors of RFC 8439, and against blocks, tags and seals that are told anew here out of the chapter's words, tags by math/big.

func unhex(s string) []byte {
	b, err := hex.DecodeString(s)
	if err != nil {
		panic(err)
	}
	return b
}

func drawn(seed int64) *rand.Rand { return rand.New(rand.NewSource(seed)) }

func drawnBytes(r *rand.Rand, n int) []byte {
	b := make([]byte, n)
	r.Read(b)
	return b
}

// upTo are fewer than n bytes; every third time none.
func upTo(r *rand.Rand, n int) []byte {
	if r.Intn(3) == 0 {
		return nil
	}
	return drawnBytes(r, r.Intn(n))
}

func drawnKey(r *rand.Rand) api.Key { return api.Key(drawnBytes(r, 32)) }

func drawnNonce(r *rand.Rand) api.Nonce { return api.Nonce(drawnBytes(r, 12)) }

// repeated is a byte, so often.
func repeated(b byte, n int) []byte { return bytes.Repeat([]byte{b}, n) }

// blockOf is the block of the chapter's words.
func blockOf(key api.Key, counter uint32, nonce api.Nonce) []byte {
	laid := slices.Concat([]byte("expand 32-byte k"), key[:], binary.LittleEndian.AppendUint32(nil, counter), nonce[:])
	var x [16]uint32
	for i := range x {
		x[i] = binary.LittleEndian.Uint32(laid[4*i:])
	}
	for range 10 {
		for _, p := range [][4]int{{0, 4, 8, 12}, {1, 5, 9, 13}, {2, 6, 10, 14}, {3, 7, 11, 15}, {0, 5, 10, 15}, {1, 6, 11, 12}, {2, 7, 8, 13}, {3, 4, 9, 14}} {
			a, b, c, d := p[0], p[1], p[2], p[3]
			for _, turn := range [][4]int{{a, b, d, 16}, {c, d, b, 12}, {a, b, d, 8}, {c, d, b, 7}} {
				x[turn[0]] += x[turn[1]]
				x[turn[2]] = bits.RotateLeft32(x[turn[2]]^x[turn[0]], turn[3])
			}
		}
	}
	var out []byte
	for i := range x {
		out = binary.LittleEndian.AppendUint32(out, x[i]+binary.LittleEndian.Uint32(laid[4*i:]))
	}
	return out
}

// streamOf asks for blocks as far as there are counters.
func streamOf(key api.Key, counter uint32, nonce api.Nonce, b []byte) ([]byte, api.Errno) {
	var out []byte
	for place := 0; place < len(b); place += 64 {
		at := uint64(counter) + uint64(place/64)
		if at > 1<<32-1 {
			return nil, api.ErrEnd
		}
		block := blockOf(key, uint32(at), nonce)
		for i, x := range b[place:min(place+64, len(b))] {
			out = append(out, x^block[i])
		}
	}
	return out, api.OK
}

func power(n uint) *big.Int { return new(big.Int).Lsh(big.NewInt(1), n) }

// prime is 2^130 - 5.
func prime() *big.Int { return new(big.Int).Sub(power(130), big.NewInt(5)) }

// numberOf is the number of bytes, the lowest first.
func numberOf(b []byte) *big.Int {
	b = slices.Clone(b)
	slices.Reverse(b)
	return new(big.Int).SetBytes(b)
}

// bytesOf are the lowest 16 bytes of a number.
func bytesOf(n *big.Int) []byte {
	b := new(big.Int).Mod(n, power(128)).FillBytes(make([]byte, 16))
	slices.Reverse(b)
	return b
}

// halves are a key's r, cleared, and s.
func halves(key api.Key) (*big.Int, *big.Int) {
	r := numberOf(key[:16])
	return r.And(r, numberOf(unhex("ffffff0ffcffff0ffcffff0ffcffff0f"))), numberOf(key[16:])
}

// valueOf is the value at r of the polynomial whose coefficients are the pieces.
func valueOf(r *big.Int, b []byte) *big.Int {
	sum, p := new(big.Int), prime()
	for piece := range slices.Chunk(b, 16) {
		sum.Add(sum, numberOf(append(slices.Clone(piece), 1)))
		sum.Mod(sum.Mul(sum, r), p)
	}
	return sum
}

func macOf(key api.Key, b []byte) api.Tag {
	r, s := halves(key)
	return api.Tag(bytesOf(s.Add(s, valueOf(r, b))))
}

// textWith is a text of from least to most whole pieces whose value at a key's r is v: the last piece is chosen for it. (With an r like 1 some values have no text of just three or four pieces.)
func textWith(d *rand.Rand, key api.Key, least, most int, v *big.Int) []byte {
	p := prime()
	r, _ := halves(key)
	sum := new(big.Int).ModInverse(r, p)
	sum.Mul(sum, v)
	for {
		ahead := drawnBytes(d, 16*(least-1+d.Intn(most-least+1)))
		last := new(big.Int).Sub(sum, valueOf(r, ahead))
		if last.Mod(last, p); last.BitLen() == 129 {
			return append(ahead, bytesOf(last)...)
		}
	}
}

// filled are the bytes, with bytes 0 up to a multiple of 16.
func filled(b []byte) []byte { return append(slices.Clone(b), make([]byte, (16-len(b)%16)%16)...) }

// tagOf is the tag of an open part and a sealed text.
func tagOf(key api.Key, nonce api.Nonce, open, sealed []byte) []byte {
	lengths := binary.LittleEndian.AppendUint64(nil, uint64(len(open)))
	lengths = binary.LittleEndian.AppendUint64(lengths, uint64(len(sealed)))
	tag := macOf(api.Key(blockOf(key, 0, nonce)[:32]), slices.Concat(filled(open), filled(sealed), lengths))
	return tag[:]
}

func sealOf(key api.Key, nonce api.Nonce, open, text []byte) []byte {
	sealed, _ := streamOf(key, 1, nonce, text)
	return append(sealed, tagOf(key, nonce, open, sealed)...)
}

// nonceOf is the nonce of a box's number.
func nonceOf(number uint64) api.Nonce {
	return api.Nonce(binary.LittleEndian.AppendUint64(make([]byte, 4), number))
}

func boxOf(key api.Key, number uint64, open, text []byte) []byte {
	nonce := nonceOf(number)
	return append(nonce[:], sealOf(key, nonce, open, text)...)
}

func wantStream(t *testing.T, key api.Key, counter uint32, nonce api.Nonce, b []byte) []byte {
	t.Helper()
	expected, why := streamOf(key, counter, nonce, b)
	got, errno := seal.Stream(key, counter, nonce, b)
	if errno != why || !bytes.Equal(got, expected) {
		t.Fatalf("Stream(%x, %d, %x) of %d bytes: %x %v, not %x %v", key, counter, nonce, len(b), cut(got), errno, cut(expected), why)
	}
	return got
}

func wantMac(t *testing.T, key api.Key, b []byte) api.Tag {
	t.Helper()
	expected := macOf(key, b)
	got := seal.Mac(key, b)
	if got != expected {
		t.Fatalf("Mac(%x) of %d bytes %x: %x, not %x", key, len(b), cut(b), got, expected)
	}
	return got
}

func wantSeal(t *testing.T, key api.Key, nonce api.Nonce, open, text []byte) []byte {
	t.Helper()
	expected := sealOf(key, nonce, open, text)
	got := seal.Seal(key, nonce, open, text)
	if !bytes.Equal(got, expected) {
		t.Fatalf("Seal(%x, %x) of %d and %d bytes: %x, not %x", key, nonce, len(open), len(text), cut(got), cut(expected))
	}
	return got
}

func wantOpen(t *testing.T, key api.Key, nonce api.Nonce, open, sealed, text []byte) []byte {
	t.Helper()
	got, errno := seal.Open(key, nonce, open, sealed)
	if errno != api.OK || !bytes.Equal(got, text) {
		t.Fatalf("Open(%x, %x) of %d and %d bytes: %x %v, not %x", key, nonce, len(open), len(sealed), cut(got), errno, cut(text))
	}
	return got
}

func wantShut(t *testing.T, what string, key api.Key, nonce api.Nonce, open, sealed []byte, why api.Errno) {
	t.Helper()
	if got, errno := seal.Open(key, nonce, open, sealed); len(got) != 0 || errno != why {
		t.Fatalf("Open, %s: %x %v, not %v", what, cut(got), errno, why)
	}
}

func wantNext(t *testing.T, s *seal.Sealer, expected uint64) {
	t.Helper()
	if got := s.Next(); got != expected {
		t.Fatalf("Next: %d, not %d", got, expected)
	}
}

// wantBox: the sealer's next box, which has that number.
func wantBox(t *testing.T, s *seal.Sealer, key api.Key, number uint64, open, text []byte) []byte {
	t.Helper()
	wantNext(t, s, number)
	expected := boxOf(key, number, open, text)
	got, errno := s.Box(open, text)
	if errno != api.OK || !bytes.Equal(got, expected) {
		t.Fatalf("Box %d of %d and %d bytes: %x %v, not %x", number, len(open), len(text), cut(got), errno, cut(expected))
	}
	wantNext(t, s, number+1)
	return got
}

func wantUnbox(t *testing.T, key api.Key, open, box, text []byte, number uint64) []byte {
	t.Helper()
	got, n, errno := seal.Unbox(key, open, box)
	if errno != api.OK || n != number || !bytes.Equal(got, text) {
		t.Fatalf("Unbox of %x: %x %d %v, not %x %d", cut(box), cut(got), n, errno, cut(text), number)
	}
	return got
}

func wantNoBox(t *testing.T, what string, key api.Key, open, box []byte, why api.Errno) {
	t.Helper()
	if got, n, errno := seal.Unbox(key, open, box); len(got) != 0 || n != 0 || errno != why {
		t.Fatalf("Unbox, %s: %x %d %v, not %v", what, cut(got), n, errno, why)
	}
}

// cut is what a failure shows of long bytes.
func cut(b []byte) []byte { return b[:min(len(b), 200)] }

// turned are the bytes with one bit of them turned.
func turned(b []byte, bit int) []byte {
	b = slices.Clone(b)
	b[bit/8] ^= 1 << (bit % 8)
	return b
}

// spoil overwrites all of a list's room.
func spoil(b []byte) {
	b = b[:cap(b)]
	for i := range b {
		b[i] = 0xa5
	}
}

// lent are bytes with others ahead of them, and with room behind them.
type lent struct{ whole, before []byte }

const margin = 70

func lend(r *rand.Rand, b []byte) lent {
	whole := slices.Concat(drawnBytes(r, margin), b, drawnBytes(r, margin))
	return lent{whole, slices.Clone(whole)}
}

func (l lent) bytes() []byte { return l.whole[margin : len(l.whole)-margin] }

func wantUnchanged(t *testing.T, call string, all ...lent) {
	t.Helper()
	for i, l := range all {
		if !bytes.Equal(l.whole, l.before) {
			t.Fatalf("%s has changed its list %d, or what lies beside it", call, i)
		}
	}
}
