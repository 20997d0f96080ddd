package seal_test

import (
	"bytes"
	"math/big"
	"slices"
	"sync"
	"testing"

	"rime/api"
	"rime/seal"
)

// P12.5: there and back.

func TestThereAndBack(t *testing.T) {
	r := drawn(30)
	for range 500 {
		key, nonce, open, text := drawnKey(r), drawnNonce(r), upTo(r, 300), upTo(r, 700)
		wantOpen(t, key, nonce, open, seal.Seal(key, nonce, open, text), text)
		s := seal.New(key, r.Uint64()>>1)
		told := s.Next()
		box, errno := s.Box(open, text)
		if errno != api.OK {
			t.Fatalf("Box: %v", errno)
		}
		wantUnbox(t, key, open, box, text, told)
	}
}

func TestStreamTwice(t *testing.T) {
	r := drawn(31)
	for range 500 {
		key, nonce, counter, b := drawnKey(r), drawnNonce(r), r.Uint32()>>1, upTo(r, 700)
		once, _ := seal.Stream(key, counter, nonce, b)
		if twice, errno := seal.Stream(key, counter, nonce, once); errno != api.OK || !bytes.Equal(twice, b) {
			t.Fatalf("Stream(%x, %d, %x) twice: %x %v, not %x", key, counter, nonce, twice, errno, b)
		}
	}
}

// P12.5: one part behind the other, the last counter among them.
func TestStreamInParts(t *testing.T) {
	r := drawn(32)
	for i := range 500 {
		first, second := r.Intn(5), r.Intn(300)
		key, nonce, counter := drawnKey(r), drawnNonce(r), r.Uint32()>>1
		if i%2 == 0 {
			counter = uint32(1<<32 - first - (second+63)/64)
		}
		b := drawnBytes(r, 64*first+second)
		whole, why := seal.Stream(key, counter, nonce, b)
		one, errno := seal.Stream(key, counter, nonce, b[:64*first])
		two, other := seal.Stream(key, counter+uint32(first), nonce, b[64*first:])
		if why != api.OK || errno != api.OK || other != api.OK || !bytes.Equal(slices.Concat(one, two), whole) {
			t.Fatalf("Stream(%x, %d, %x) of %d and %d bytes: %v %v %v", key, counter, nonce, 64*first, second, why, errno, other)
		}
	}
}

// P12.6: what Open takes is the seal of what it answers, wherever it came from.
func TestOneSealedText(t *testing.T) {
	r := drawn(33)
	for range 300 {
		key, nonce, open, anything := drawnKey(r), drawnNonce(r), upTo(r, 50), upTo(r, 300)
		sealed := slices.Concat(anything, tagOf(key, nonce, open, anything))
		text, errno := seal.Open(key, nonce, open, sealed)
		if errno != api.OK || len(text) != len(anything) {
			t.Fatalf("Open of %x: %x %v", sealed, text, errno)
		}
		if again := seal.Seal(key, nonce, open, text); !bytes.Equal(again, sealed) {
			t.Fatalf("%x, opened and sealed again: %x", sealed, again)
		}
		box, number := append(make([]byte, 4), drawnBytes(r, 8)...), api.Nonce{}
		copy(number[:], box)
		box = slices.Concat(box, anything, tagOf(key, number, open, anything))
		text, next, errno := seal.Unbox(key, open, box)
		if errno != api.OK {
			t.Fatalf("Unbox of %x: %v", box, errno)
		}
		if again, _ := seal.New(key, next).Box(open, text); !bytes.Equal(again, box) {
			t.Fatalf("%x, unboxed and boxed again: %x", box, again)
		}
	}
}

// P12.7: what is turned is told.

func TestEveryBitIsTold(t *testing.T) {
	r := drawn(34)
	for _, n := range []int{0, 1, 16, 40, 64, 100} {
		key, nonce, open, text := drawnKey(r), drawnNonce(r), drawnBytes(r, n/2), drawnBytes(r, n)
		sealed := seal.Seal(key, nonce, open, text)
		for bit := range 8 * len(sealed) {
			wantShut(t, "sealed bytes turned", key, nonce, open, turned(sealed, bit), api.ErrTag)
		}
		for bit := range 8 * len(open) {
			wantShut(t, "open turned", key, nonce, turned(open, bit), sealed, api.ErrTag)
		}
		for bit := range 96 {
			wantShut(t, "nonce turned", key, api.Nonce(turned(nonce[:], bit)), open, sealed, api.ErrTag)
		}
		for bit := range 256 {
			wantShut(t, "key turned", api.Key(turned(key[:], bit)), nonce, open, sealed, api.ErrTag)
		}
	}
}

// Bytes 0 that are more or fewer are told, and bytes that go over from the open part to the sealed text.
func TestLengthsAreTold(t *testing.T) {
	r := drawn(35)
	for range 100 {
		key, nonce := drawnKey(r), drawnNonce(r)
		open, text := append(drawnBytes(r, r.Intn(40)), 0), append(drawnBytes(r, r.Intn(40)), 0)
		sealed := seal.Seal(key, nonce, open, text)
		end := len(text)
		wantShut(t, "a byte 0 fewer", key, nonce, open[:len(open)-1], sealed, api.ErrTag)
		wantShut(t, "a byte 0 more", key, nonce, append(slices.Clone(open), 0), sealed, api.ErrTag)
		wantShut(t, "a byte 0 more in the text", key, nonce, open, slices.Insert(slices.Clone(sealed), end, 0), api.ErrTag)
		wantShut(t, "a byte fewer in the text", key, nonce, open, slices.Delete(slices.Clone(sealed), end-1, end), api.ErrTag)
		wantShut(t, "a byte gone over", key, nonce, append(slices.Clone(open), sealed[0]), sealed[1:], api.ErrTag)
		wantShut(t, "both for each other", key, nonce, sealed[:end], slices.Concat(open, sealed[end:]), api.ErrTag)
	}
	key := drawnKey(r)
	whole := repeated(0, 64)
	sealed := seal.Seal(key, api.Nonce{}, whole[:32], whole[:32])
	wantShut(t, "16 bytes gone over", key, api.Nonce{}, slices.Concat(whole[:32], sealed[:16]), sealed[16:], api.ErrTag)
}

// What is turned, with the tag of what is there, opens.
func TestTurnedWithItsTag(t *testing.T) {
	r := drawn(36)
	for range 100 {
		key, nonce, open, text := drawnKey(r), drawnNonce(r), drawnBytes(r, 30), drawnBytes(r, 1+r.Intn(100))
		bit := r.Intn(8 * len(text))
		masked := turned(seal.Seal(key, nonce, open, text)[:len(text)], bit)
		wantOpen(t, key, nonce, open, slices.Concat(masked, tagOf(key, nonce, open, masked)), turned(text, bit))
	}
}

// P12.8: Poly1305 is a polynomial.

// With s = 0 the tag is the value at r; adding s adds it.
func TestTagsAreValues(t *testing.T) {
	d := drawn(37)
	for range 500 {
		key, text := drawnKey(d), upTo(d, 200)
		plain := key
		clear(plain[16:])
		r, s := halves(key)
		v := valueOf(r, text)
		if got := seal.Mac(plain, text); got != api.Tag(bytesOf(v)) {
			t.Fatalf("Mac(%x) of %x: %x, not %x", plain, text, got, v)
		}
		without := seal.Mac(plain, text)
		if got := seal.Mac(key, text); got != api.Tag(bytesOf(s.Add(s, numberOf(without[:])))) {
			t.Fatalf("Mac(%x) of %x: %x, without s %x", key, text, got, without)
		}
	}
}

// Two texts of one length have one tag just if their values are a multiple of 2^128 apart.
func TestTagsThatMeet(t *testing.T) {
	d := drawn(38)
	for range 100 {
		key, pieces := drawnKey(d), 2+d.Intn(3)
		v := numberOf(drawnBytes(d, 16))
		tag := seal.Mac(key, textWith(d, key, pieces, pieces, v))
		for multiple := range int64(3) {
			same := new(big.Int).Mul(power(128), big.NewInt(multiple))
			same.Add(same, v)
			if got := seal.Mac(key, textWith(d, key, pieces, pieces, same)); got != tag {
				t.Fatalf("Mac(%x) with the values %x and %x: %x and %x", key, v, same, tag, got)
			}
			for _, away := range []int64{-5, -1, 1, 4, 5} {
				other := new(big.Int).Add(same, big.NewInt(away))
				if got := seal.Mac(key, textWith(d, key, pieces, pieces, other)); got == tag {
					t.Fatalf("Mac(%x) with the values %x and %x: both %x", key, v, other, tag)
				}
			}
		}
	}
}

// With r = 0 all tags are s; with r = 1 the order of whole pieces does not count.
func TestTagsOfPoorKeys(t *testing.T) {
	d := drawn(39)
	for range 50 {
		s := drawnBytes(d, 16)
		none := api.Key(append(unhex("000000f0030000f0030000f0030000f0"), s...))
		if got := seal.Mac(none, upTo(d, 200)); got != api.Tag(s) {
			t.Fatalf("Mac with r = 0: %x, not %x", got, s)
		}
		one := api.Key(append(append([]byte{1}, make([]byte, 15)...), s...))
		first, second, last := drawnBytes(d, 16), drawnBytes(d, 16), upTo(d, 16)
		if seal.Mac(one, slices.Concat(first, second, last)) != seal.Mac(one, slices.Concat(second, first, last)) {
			t.Fatalf("Mac with r = 1 of %x, %x, %x", first, second, last)
		}
	}
}

// P12.9: no nonce twice.
func TestNumbersRise(t *testing.T) {
	r := drawn(40)
	for _, first := range []uint64{0, 250, 1<<32 - 150, 1<<64 - 1 - 150, r.Uint64()} {
		key := drawnKey(r)
		s := seal.New(key, first)
		seen := map[string]bool{}
		for i := range uint64(300) {
			box, errno := s.Box(nil, []byte("the same text"))
			if first+i < first || first+i == 1<<64-1 {
				if errno != api.ErrEnd || len(box) != 0 {
					t.Fatalf("Box behind the end: %x %v", box, errno)
				}
				wantNext(t, s, 1<<64-1)
				continue
			}
			nonce := nonceOf(first + i)
			if errno != api.OK || !bytes.HasPrefix(box, nonce[:]) || seen[string(box[:12])] {
				t.Fatalf("Box %d: %x %v", first+i, box, errno)
			}
			seen[string(box[:12])] = true
			s.Next()
		}
	}
}

// P12.10: what is handed in is neither changed nor kept, and answers are new.

func TestArgumentsAreLeft(t *testing.T) {
	r := drawn(41)
	for range 100 {
		key, nonce := drawnKey(r), drawnNonce(r)
		open, text := lend(r, upTo(r, 100)), lend(r, upTo(r, 200))
		seal.Stream(key, 1, nonce, text.bytes())
		wantUnchanged(t, "Stream", text)
		seal.Mac(key, text.bytes())
		wantUnchanged(t, "Mac", text)
		sealed := lend(r, seal.Seal(key, nonce, open.bytes(), text.bytes()))
		wantUnchanged(t, "Seal", open, text)
		seal.Open(key, nonce, open.bytes(), sealed.bytes())
		wantUnchanged(t, "Open", open, sealed)
		seal.Open(key, drawnNonce(r), open.bytes(), sealed.bytes())
		wantUnchanged(t, "Open of what does not open", open, sealed)
		made, _ := seal.New(key, 9).Box(open.bytes(), text.bytes())
		wantUnchanged(t, "Box", open, text)
		box := lend(r, made)
		seal.Unbox(key, open.bytes(), box.bytes())
		seal.Unbox(drawnKey(r), open.bytes(), box.bytes())
		wantUnchanged(t, "Unbox", open, box)
	}
}

// answers are those of all calls that give bytes, of the same arguments.
func answers(key api.Key, nonce api.Nonce, open, text []byte) [][]byte {
	masked, _ := seal.Stream(key, 1, nonce, text)
	sealed := seal.Seal(key, nonce, open, text)
	opened, _ := seal.Open(key, nonce, open, sealed)
	box, _ := seal.New(key, 3).Box(open, text)
	unboxed, _, _ := seal.Unbox(key, open, box)
	return [][]byte{masked, sealed, opened, box, unboxed}
}

func TestAnswersAreNew(t *testing.T) {
	r := drawn(42)
	for range 100 {
		key, nonce := drawnKey(r), drawnNonce(r)
		open, text := lend(r, upTo(r, 100)), lend(r, drawnBytes(r, r.Intn(200)))
		all := answers(key, nonce, open.bytes(), text.bytes())
		again := answers(key, nonce, open.bytes(), text.bytes())
		for i, got := range all {
			spoil(got)
			wantUnchanged(t, "spoiling an answer", open, text)
			for _, later := range all[i+1:] {
				if bytes.Contains(later, repeated(0xa5, 16)) {
					t.Fatalf("answer %d shares memory with a later one", i)
				}
			}
			if fresh := answers(key, nonce, open.bytes(), text.bytes()); !bytes.Equal(fresh[i], again[i]) {
				t.Fatalf("answer %d is another once it was spoilt", i)
			}
		}
	}
}

// Bytes that were not asked for are not to be had out of an answer's spare room.
func TestNoSpareBytes(t *testing.T) {
	r := drawn(43)
	for n := range 70 {
		for i, got := range answers(drawnKey(r), drawnNonce(r), nil, drawnBytes(r, n)) {
			if spare := got[len(got):cap(got)]; !bytes.Equal(spare, make([]byte, len(spare))) {
				t.Fatalf("behind answer %d: %x", i, spare)
			}
		}
	}
}

// P12.10: two sealers share nothing, not even one and its copy.
func TestSealersPart(t *testing.T) {
	r := drawn(44)
	for range 30 {
		key, other := drawnKey(r), drawnKey(r)
		first := r.Uint64() >> 1
		one, two, three := seal.New(key, first), seal.New(key, first), seal.New(other, first+5)
		for i := range uint64(10) {
			open, text := upTo(r, 30), upTo(r, 60)
			wantBox(t, one, key, first+i, open, text)
			wantBox(t, three, other, first+5+i, open, text)
			wantBox(t, two, key, first+i, open, text)
		}
		copied := *one
		wantBox(t, one, key, first+10, nil, nil)
		wantBox(t, one, key, first+11, nil, nil)
		wantBox(t, &copied, key, first+10, nil, nil)
		wantNext(t, one, first+12)
	}
}

func TestSealersSideBySide(t *testing.T) {
	key := drawnKey(drawn(45))
	boxes := make([][]byte, 8)
	var all sync.WaitGroup
	for i := range boxes {
		all.Go(func() {
			s := seal.New(key, 0)
			for range 100 {
				box, _ := s.Box([]byte("open"), []byte("text"))
				boxes[i] = append(boxes[i], box...)
			}
		})
	}
	all.Wait()
	for i, got := range boxes {
		if len(got) != 3200 || !bytes.Equal(got, boxes[0]) {
			t.Fatalf("sealer %d, side by side with the others", i)
		}
	}
}
