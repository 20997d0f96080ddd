package drbg_test

import (
	"bytes"
	"slices"
	"sync"
	"testing"

	"rime/api"
	"rime/drbg"
)

// P11.1 and P11.2: whatever was called ahead, each call answers as the chapter says.

func TestDrawnCalls(t *testing.T) {
	r := drawn(40)
	for range 60 {
		w := drawnTwin(t, r)
		for range 60 {
			w.step(t, r)
		}
	}
}

// P11.2: what is asked of others in between does not count.
func TestGeneratorsInTurn(t *testing.T) {
	r := drawn(41)
	for range 20 {
		entropy := drawnBytes(r, 48)
		alike := []twin{newTwin(t, entropy, nil, nil), newTwin(t, entropy, nil, nil)}
		others := []twin{drawnTwin(t, r), drawnTwin(t, r)}
		for range 30 {
			n, extra := r.Intn(200), upTo(r, 100)
			var answers [][]byte
			for _, w := range alike {
				answers = append(answers, w.draw(t, n, extra))
				others[r.Intn(2)].step(t, r)
			}
			if !bytes.Equal(answers[0], answers[1]) {
				t.Fatalf("Draw(%d, %x) of two that were made and asked alike: %x and %x", n, extra, answers[0], answers[1])
			}
		}
	}
}

// P11.2: the bytes of a seed count one behind the other, wherever they are cut.
func TestSeedsCutElsewhere(t *testing.T) {
	r := drawn(42)
	for range 50 {
		seed := drawnBytes(r, 32+r.Intn(200))
		first := 32 + r.Intn(len(seed)-31)
		second := first + r.Intn(len(seed)-first+1)
		cutOne := newTwin(t, seed[:first], seed[first:second], seed[second:])
		whole := newTwin(t, seed, nil, nil)
		if !bytes.Equal(cutOne.draw(t, 64, nil), whole.draw(t, 64, nil)) {
			t.Fatalf("%x, cut at %d and %d", seed, first, second)
		}
		cutOne.reseed(t, seed[:first], seed[first:])
		whole.reseed(t, seed, nil)
		if !bytes.Equal(cutOne.draw(t, 64, nil), whole.draw(t, 64, nil)) {
			t.Fatalf("Reseed of %x, cut at %d", seed, first)
		}
	}
}

// P11.2: two draws are not one, though their first bytes are the same.
func TestTwoDrawsAreNotOne(t *testing.T) {
	r := drawn(43)
	for range 100 {
		entropy := drawnBytes(r, 32)
		n, m := r.Intn(300), 16+r.Intn(300)
		one, two := newTwin(t, entropy, nil, nil), newTwin(t, entropy, nil, nil)
		whole := one.draw(t, n+m, nil)
		first, second := two.draw(t, n, nil), two.draw(t, m, nil)
		if !bytes.Equal(first, whole[:n]) || bytes.Equal(second, whole[n:]) {
			t.Fatalf("Draw(%d), Draw(%d), and Draw of both", n, m)
		}
	}
}

// P11.2: each byte that was stirred in counts; so does each draw, though it gives nothing.
func TestEveryCallCounts(t *testing.T) {
	r := drawn(44)
	entropy := drawnBytes(r, 32)
	plain := newTwin(t, entropy, nil, nil).draw(t, 64, nil)
	for place := range entropy {
		turned := slices.Clone(entropy)
		turned[place] ^= 1
		if bytes.Equal(newTwin(t, turned, nil, nil).draw(t, 64, nil), plain) {
			t.Fatalf("byte %d of the entropy does not count", place)
		}
	}
	for what, w := range map[string]twin{"nonce": newTwin(t, entropy, []byte{0}, nil), "personal": newTwin(t, entropy, nil, []byte{0})} {
		if bytes.Equal(w.draw(t, 64, nil), plain) {
			t.Fatalf("a byte 0 of the %s does not count", what)
		}
	}
	if bytes.Equal(newTwin(t, entropy, nil, nil).draw(t, 64, []byte{0}), plain) {
		t.Fatal("a byte 0 that is extra does not count")
	}
	w := newTwin(t, entropy, nil, nil)
	w.draw(t, 0, nil)
	if bytes.Equal(w.draw(t, 64, nil), plain) {
		t.Fatal("a draw of nothing does not count")
	}
}

// P11.3: of more bytes the first ones are the same.
func TestExpandIsABeginning(t *testing.T) {
	r := drawn(45)
	for range 40 {
		key, info := drawnBytes(r, r.Intn(300)), upTo(r, 200)
		long := wantExpanded(t, key, info, 16320)
		for range 10 {
			n := r.Intn(16321)
			short := wantExpanded(t, key, info, n)
			if !bytes.Equal(short, long[:n]) || !bytes.Equal(wantExpanded(t, key, info, n/2), short[:n/2]) {
				t.Fatalf("Expand of %x and %x to %d", key, info, n)
			}
		}
	}
}

// P11.4: parts count as one.
func TestMACOfParts(t *testing.T) {
	r := drawn(46)
	for range 300 {
		key, text := drawnBytes(r, r.Intn(300)), drawnBytes(r, r.Intn(700))
		expected := drbg.MAC(key, text)
		wantDigest(t, "MAC", expected, hmacOf(key, text), key, text)
		wantDigest(t, "MAC of parts", drbg.MAC(key, cutUp(r, text)...), expected, key, text)
		at := r.Intn(len(text) + 1)
		wantDigest(t, "MAC of two", drbg.MAC(key, text[:at], text[at:]), expected, key, text, at)
	}
}

// P11.4: bytes 0 behind a key do not count up to 128, and count beyond.
func TestMACOfKeysWithZerosBehind(t *testing.T) {
	r := drawn(47)
	text := drawnBytes(r, 50)
	for n := range 129 {
		key := drawnBytes(r, n)
		expected := drbg.MAC(key, text)
		for _, length := range []int{n, min(n+1, 128), n + r.Intn(129-n), 127, 128} {
			longer := append(slices.Clone(key), make([]byte, max(0, length-n))...)
			wantDigest(t, "MAC", drbg.MAC(longer, text), expected, n, length)
		}
		beyond := append(slices.Clone(key), make([]byte, 129-n)...)
		if drbg.MAC(beyond, text) == expected {
			t.Fatalf("MAC of a key of %d bytes and of it with bytes 0 up to 129", n)
		}
	}
}

// P11.4: a long key stands for its digest.
func TestMACOfLongKeys(t *testing.T) {
	r := drawn(48)
	for _, n := range []int{129, 130, 255, 256, 257, 1000} {
		key, text := drawnBytes(r, n), drawnBytes(r, 50)
		wantDigest(t, "MAC", drbg.MAC(key, text), hmacOf(key, text), n)
	}
}

// P11.5: what is handed in is neither changed nor kept.

func TestDigestsLeaveTheirArguments(t *testing.T) {
	r := drawn(49)
	for range 100 {
		key, one, two := lend(r, r.Intn(200)), lend(r, r.Intn(200)), lend(r, r.Intn(200))
		parts := [][]byte{one.bytes(), two.bytes(), {1}, {2}, {3}}
		got := drbg.MAC(key.bytes(), parts[:2]...)
		wantDigest(t, "MAC", got, hmacOf(key.bytes(), slices.Concat(one.bytes(), two.bytes())))
		wantUnchanged(t, "MAC", key, one, two)
		if !bytes.Equal(slices.Concat(parts...), slices.Concat(one.bytes(), two.bytes(), []byte{1, 2, 3})) {
			t.Fatal("MAC has changed its list")
		}
		drbg.Extract(one.bytes(), two.bytes())
		wantUnchanged(t, "Extract", one, two)
		drbg.Expand(one.bytes(), two.bytes(), r.Intn(300))
		wantUnchanged(t, "Expand", one, two)
	}
}

func TestGeneratorsLeaveTheirArguments(t *testing.T) {
	r := drawn(50)
	for range 50 {
		one, two, three := lend(r, 32+r.Intn(200)), lend(r, r.Intn(200)), lend(r, r.Intn(200))
		w := newTwin(t, one.bytes(), two.bytes(), three.bytes())
		wantUnchanged(t, "New", one, two, three)
		takeBack(one, two, three)
		w.draw(t, 100, nil)
		one, two = lend(r, 32+r.Intn(200)), lend(r, r.Intn(200))
		w.reseed(t, one.bytes(), two.bytes())
		wantUnchanged(t, "Reseed", one, two)
		takeBack(one, two)
		one = lend(r, r.Intn(300))
		w.draw(t, r.Intn(200), one.bytes())
		wantUnchanged(t, "Draw", one)
		takeBack(one)
		w.draw(t, 100, nil)
		w.random(t)
	}
}

func TestTapesLeaveTheirList(t *testing.T) {
	r := drawn(51)
	for range 50 {
		whole := drawnRandoms(r, 12)
		before := slices.Clone(whole)
		tape, again := drbg.NewTape(whole[2:9]), drbg.NewTape(whole[2:9])
		wantScalars(t, tape, 2, scalarsOf(before[2:6]), api.OK)
		if !slices.Equal(whole, before) {
			t.Fatal("a tape has changed its list")
		}
		spoil(whole, api.Random{255})
		wantScalars(t, tape, 2, scalarsOf(before[6:9]), api.ErrEnd)
		wantScalars(t, again, 3, scalarsOf(before[2:8]), api.OK)
	}
}

// P11.5: an answer is new memory, its spare room too.

func TestAnswersAreNew(t *testing.T) {
	r := drawn(52)
	w := drawnTwin(t, r)
	var answers, before [][]byte
	for range 200 {
		got := w.draw(t, r.Intn(300), upTo(r, 50))
		answers, before = append(answers, got), append(before, slices.Clone(got))
	}
	for i, got := range answers {
		if !bytes.Equal(got, before[i]) {
			t.Fatalf("the answer of draw %d has changed", i)
		}
		spoil(got, 0xa5)
		w.draw(t, 64, nil)
	}
}

func TestExpandedBytesAreNew(t *testing.T) {
	r := drawn(53)
	for range 50 {
		key, info, n := drawnBytes(r, r.Intn(200)), drawnBytes(r, r.Intn(50)), r.Intn(300)
		one, two := wantExpanded(t, key, info, n), wantExpanded(t, key, info, n)
		spoil(one, 0xa5)
		if !bytes.Equal(two, expanded(t, key, info, n)) || !bytes.Equal(wantExpanded(t, key, info, n), two) {
			t.Fatalf("Expand to %d shares its answer", n)
		}
	}
}

func TestScalarsAreNew(t *testing.T) {
	r := drawn(54)
	l := drawnRandoms(r, 30)
	tape := drbg.NewTape(l)
	one := wantScalars(t, tape, 5, scalarsOf(l[:10]), api.OK)
	two := wantScalars(t, tape, 5, scalarsOf(l[10:20]), api.OK)
	spoil(one, api.Scalar{255})
	if !slices.Equal(two, scalarsOf(l[10:20])) {
		t.Fatal("two answers share memory")
	}
	spoil(two, api.Scalar{255})
	wantScalars(t, tape, 6, scalarsOf(l[20:]), api.ErrEnd)
}

// Bytes that were not asked for are not to be had out of an answer's spare room.
func TestNoSpareBytes(t *testing.T) {
	w := drawnTwin(t, drawn(55))
	for n := range 70 {
		if got := w.draw(t, n, nil); !allZero(got[n:cap(got)]) {
			t.Fatalf("behind the %d bytes of a draw: %x", n, got[n:cap(got)])
		}
		if got := wantExpanded(t, []byte("key"), nil, n); !allZero(got[n:cap(got)]) {
			t.Fatalf("behind the %d bytes of Expand: %x", n, got[n:cap(got)])
		}
	}
}

func allZero(b []byte) bool { return bytes.Equal(b, make([]byte, len(b))) }

// P11.5: two generators share nothing, not even one and its copy.
func TestCopiesPart(t *testing.T) {
	r := drawn(56)
	w := drawnTwin(t, r)
	w.draw(t, 100, nil)
	g, m := *w.g, *w.m
	for range 20 {
		w.step(t, r)
	}
	other := twin{&g, &m}
	for range 20 {
		other.step(t, r)
		w.step(t, r)
	}
}

func TestGeneratorsSideBySide(t *testing.T) {
	twins := make([]twin, 8)
	for i := range twins {
		twins[i] = drawnTwin(t, drawn(57))
	}
	answers := make([][]byte, len(twins))
	var all sync.WaitGroup
	for i, w := range twins {
		all.Go(func() {
			for range 100 {
				b, _ := w.g.Draw(100, []byte("extra"))
				answers[i] = append(answers[i], b...)
			}
		})
	}
	all.Wait()
	for i, got := range answers {
		if len(got) != 10000 || !bytes.Equal(got, answers[0]) {
			t.Fatalf("generator %d, side by side with the others", i)
		}
	}
}
