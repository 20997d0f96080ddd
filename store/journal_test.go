package store_test

import (
	"bytes"
	"math/big"
	"math/rand"
	"slices"
	"testing"

	"rime/api"
	"rime/store"
)

// P13.1: Open of every file.

// wantOpened: a disk with this file is opened as the chapter says.
func wantOpened(t *testing.T, file []byte) twin {
	t.Helper()
	w := diskWith(t, file)
	x := w.mustOpen(t)
	if w.d.Synced() != len(w.d.Bytes()) {
		t.Fatalf("behind Open: %d of %d bytes are synced", w.d.Synced(), len(w.d.Bytes()))
	}
	return x
}

// wantCut: of the file just so many records are the journal.
func wantCut(t *testing.T, what string, file []byte, records int) {
	t.Helper()
	w := wantOpened(t, file)
	if !bytes.Equal(w.d.Bytes(), file[:73*records]) {
		t.Fatalf("%s: behind Open there are %d bytes, not %d", what, len(w.d.Bytes()), 73*records)
	}
}

// someJournal: two are there, one was used in the journal, one ahead of it.
func someJournal() []byte {
	all := manyNonces(drawn(20), 4)
	return slices.Concat(
		recordOfNonces(0, all[0]),
		recordOfPair(1, 3, pairOf(all[3])),
		recordOfNonces(2, all[1]),
		recordOfPair(3, 2, pairOf(all[0])),
		recordOfNonces(4, all[2]))
}

func TestOpenOfACutJournal(t *testing.T) {
	whole := someJournal()
	for n := range len(whole) + 1 {
		wantCut(t, "a cut journal", whole[:n], n/73)
	}
	for range 80 {
		whole = append(whole, 1)
		wantCut(t, "a journal with bytes behind it", whole, 5)
	}
}

// Each bit counts, of each kind of record; what stands behind one that is spoilt is rest.
func TestOpenOfATurnedJournal(t *testing.T) {
	whole := someJournal()
	for bit := range 8 * len(whole) {
		turned := slices.Clone(whole)
		turned[bit/8] ^= 1 << (bit % 8)
		wantCut(t, "a turned journal", turned, bit/8/73)
	}
}

// A record's sum is for its place: the same record elsewhere is none.
func TestOpenOfRecordsInOtherPlaces(t *testing.T) {
	n := drawnNonces(drawn(21))
	wantCut(t, "its own place", recordOfNonces(0, n), 1)
	for place := range 300 {
		wantCut(t, "another place", recordOfNonces(place+1, n), 0)
	}
	for _, place := range []int{1 << 16, 1 << 32, 1 << 40, 1 << 62, -1} {
		wantCut(t, "another place", recordOfNonces(place, n), 0)
	}
	whole := someJournal()
	for i := range 5 {
		for j := range 5 {
			moved := slices.Clone(whole)
			copy(moved[73*i:], whole[73*j:][:73])
			if i != j {
				wantCut(t, "a record in another's place", moved, i)
			}
		}
	}
}

// The place is a number of 8 bytes, the lowest first: of long journals the second byte counts too.
func TestLongJournals(t *testing.T) {
	r := drawn(22)
	var file []byte
	for place := range 700 {
		file = append(file, recordOf(place, 3, [32]byte(drawnBytes(r, 32)), [32]byte(drawnBytes(r, 32)))...)
	}
	w := wantOpened(t, file)
	if w.s.Used() != 700 || w.s.Len() != 0 || len(w.d.Bytes()) != len(file) {
		t.Fatalf("%d were used", w.s.Used())
	}
	w.mustTake(t, w.mustPut(t, drawnNonces(r)))
	w.compact(t)
	if w.mustOpen(t).s.Used() != 701 {
		t.Fatalf("opened anew: %d were used", w.s.Used())
	}
}

func TestOpenOfOtherKinds(t *testing.T) {
	all := manyNonces(drawn(23), 2)
	first := recordOfNonces(0, all[0])
	for kind := range 256 {
		if kind < 1 || kind > 3 {
			wantCut(t, "another kind", slices.Concat(first, recordOf(1, byte(kind), pairOf(all[0]).Hiding, pairOf(all[0]).Binding)), 1)
			wantCut(t, "another kind", slices.Concat(first, recordOf(1, byte(kind), all[1].Hiding, all[1].Binding)), 1)
		}
	}
}

// Of kind 1 both nonces must be canonical and not 0.
func TestOpenOfNoncesThatMayNotBe(t *testing.T) {
	all := manyNonces(drawn(24), 2)
	first := recordOfNonces(0, all[0])
	wrong := []api.Scalar{{}, api.Scalar(bytes.Repeat([]byte{255}, 32))}
	for k := range int64(15) {
		wrong = append(wrong, above(api.Scalar{}, k+1), above(api.Scalar{1}, k+1))
	}
	for _, s := range wrong {
		wantCut(t, "a hiding nonce that may not be", slices.Concat(first, recordOf(1, 1, s, all[1].Binding)), 1)
		wantCut(t, "a binding nonce that may not be", slices.Concat(first, recordOf(1, 1, all[1].Hiding, s)), 1)
		wantCut(t, "nonces that may not be", recordOf(0, 1, s, s), 0)
	}
	less := scalarOf(new(big.Int).Sub(order(), big.NewInt(1)))
	for _, s := range []api.Scalar{{1}, less} {
		wantCut(t, "nonces at the ends", recordOf(0, 1, s, s), 1)
	}
	// the others are not looked at as nonces, nor as points
	for _, s := range append(wrong, api.Scalar{1}, less) {
		wantCut(t, "a use of any bytes", slices.Concat(first, recordOf(1, 3, s, s), recordOf(2, 3, s, [32]byte{9})), 3)
	}
}

// Each kind behind each story of a pair: what may be, and what may not.
func TestOpenOfEveryStory(t *testing.T) {
	n := drawnNonces(drawn(25))
	record := func(place, kind int) []byte {
		if kind == 1 {
			return recordOfNonces(place, n)
		}
		return recordOfPair(place, byte(kind), pairOf(n))
	}
	stories := map[string]int{
		"1": 1, "2": 0, "3": 1,
		"11": 1, "12": 2, "13": 1, "31": 1, "32": 1, "33": 1,
		"121": 2, "122": 2, "123": 2,
	}
	for story, records := range stories {
		var file []byte
		for place, kind := range story {
			file = append(file, record(place, int(kind-'0'))...)
		}
		wantCut(t, story, file, records)
		w := wantOpened(t, file)
		known := api.OK
		switch {
		case records == 0:
			known = api.ErrUnknown
		case story[:records] != "1":
			known = api.ErrUsed
		}
		wantErrno(t, story, w.has(t, pairOf(n)), known)
		behind := slices.Concat(file, recordOfNonces(len(story), drawnNonces(drawn(26))))
		if records == len(story) {
			records++
		}
		wantCut(t, story+", and another pair", behind, records)
	}
}

// A pair is the same though one of its nonces is another's too.
func TestOpenOfPairsThatShareANonce(t *testing.T) {
	a, b := api.Scalar{1}, api.Scalar{2}
	file := slices.Concat(recordOf(0, 1, a, b), recordOf(1, 1, b, a), recordOf(2, 1, a, a), recordOfPair(3, 2, pairOf(api.Nonces{Hiding: b, Binding: a})))
	wantCut(t, "pairs that share nonces", file, 4)
	wantCut(t, "and a use of what never came in", slices.Concat(file, recordOfPair(4, 2, pairOf(api.Nonces{Hiding: b, Binding: b}))), 4)
}

// A journal may have more pairs than a store takes; they are there, and no more comes in till they are fewer than that.
func TestOpenOfTooManyPairs(t *testing.T) {
	all := manyNonces(drawn(12), 1027)
	var file []byte
	for place, n := range all[:1026] {
		file = append(file, recordOfNonces(place, n)...)
	}
	d := store.NewDisk()
	d.Replace(file)
	s, errno := store.Open(d)
	if errno != api.OK || s.Len() != 1026 || len(d.Bytes()) != len(file) {
		t.Fatalf("Open: %v", errno)
	}
	for i := range 3 {
		_, errno = s.Put(all[1026])
		wantErrno(t, "Put", errno, api.ErrFull)
		c := s.Pairs()[i]
		_, errno = s.Take(c.Hiding, c.Binding)
		wantErrno(t, "Take", errno, api.OK)
	}
	_, errno = s.Put(all[1026])
	wantErrno(t, "Put", errno, api.OK)
}

// Without a rest nothing is written: no fuse burns, what is not synced stays so, and an off disk can be opened.
func TestOpenWithoutARestWritesNothing(t *testing.T) {
	for _, file := range [][]byte{nil, someJournal()} {
		w := newTwinDisk()
		w.write(t, file)
		w.fuse(t, 0)
		w.mustOpen(t)
		if w.d.Off() || w.d.Synced() != 0 {
			t.Fatalf("behind Open: off %v, %d bytes are synced", w.d.Off(), w.d.Synced())
		}
		w.sync(t)
		x := w.mustOpen(t)
		if !w.d.Off() {
			t.Fatal("the disk is on")
		}
		_, errno := x.put(t, drawnNonces(drawn(27)))
		wantErrno(t, "Put on an off disk", errno, api.ErrDown)
	}
}

// What a use lays down syncs what stood unsynced ahead of it.
func TestOpenOfATail(t *testing.T) {
	w := newTwinDisk()
	w.write(t, someJournal())
	x := w.mustOpen(t)
	n := x.s.Pairs()[0]
	x.mustTake(t, n)
	w.crash(t, 0)
	x = w.mustOpen(t)
	wantErrno(t, "Has", x.has(t, n), api.ErrUsed)
	if x.s.Len() != 1 || x.s.Used() != 3 {
		t.Fatalf("%d are there, %d were used", x.s.Len(), x.s.Used())
	}
}

// A rest is taken away by one Replace; if that fails nothing is opened, and nothing has changed.
func TestOpenWithARest(t *testing.T) {
	journal := someJournal()
	for _, rest := range [][]byte{{1}, bytes.Repeat([]byte{2}, 72), bytes.Repeat([]byte{3}, 73), bytes.Repeat([]byte{1}, 1000)} {
		for _, ahead := range [][]byte{nil, journal} {
			file := slices.Concat(ahead, rest)
			w := newTwinDisk()
			w.write(t, file)
			w.fuse(t, 0)
			for range 2 {
				if _, ok := w.open(t); ok {
					t.Fatal("opened, though the rest can't be taken away")
				}
			}
			if !w.d.Off() || !bytes.Equal(w.d.Bytes(), file) {
				t.Fatalf("behind Open: %d bytes, off %v", len(w.d.Bytes()), w.d.Off())
			}
			w.crash(t, len(file))
			w.fuse(t, 1)
			x := w.mustOpen(t)
			if !bytes.Equal(w.d.Bytes(), ahead) || w.d.Synced() != len(ahead) {
				t.Fatalf("behind Open: %d bytes, %d synced", len(w.d.Bytes()), w.d.Synced())
			}
			wantErrno(t, "the second write", x.compact(t), api.ErrDown)
		}
	}
}

// drawnRecord is any record for a place, most of them with a right sum.
func drawnRecord(r *rand.Rand, place int, all []api.Nonces) []byte {
	n := all[r.Intn(len(all))]
	c := pairOf(n)
	var out []byte
	switch r.Intn(12) {
	case 0:
		out = recordOf(place, byte(r.Intn(5)), c.Hiding, c.Binding)
	case 1:
		out = recordOf(place, 3, [32]byte(drawnBytes(r, 32)), [32]byte(drawnBytes(r, 32)))
	case 2, 3, 4, 5:
		out = recordOfPair(place, 2, c)
	case 6:
		out = recordOfPair(place, 3, c)
	default:
		out = recordOfNonces(place, n)
	}
	switch r.Intn(40) {
	case 0:
		out[r.Intn(73)] ^= byte(1 << r.Intn(8))
	case 1:
		out = out[:r.Intn(73)]
	case 2:
		s := modL(n.Hiding)
		s[31] &= 7
		out = recordOf(place, 1, above(s, int64(r.Intn(3))), n.Binding)
	}
	return out
}

func TestOpenOfDrawnFiles(t *testing.T) {
	r := drawn(28)
	all := manyNonces(r, 30)
	for range 1500 {
		var file []byte
		few := all[:2+r.Intn(len(all)-2)]
		for place := range r.Intn(40) {
			file = append(file, drawnRecord(r, place, few)...)
		}
		w := wantOpened(t, file)
		for range 5 {
			w.step(t, r, few)
		}
	}
}

func TestOpenOfBytesAtRandom(t *testing.T) {
	r := drawn(29)
	for range 500 {
		wantCut(t, "any bytes", drawnBytes(r, r.Intn(300)), 0)
	}
}
