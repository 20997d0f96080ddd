package store_test

import (
	"bytes"
	"math"
	"math/big"
	"slices"
	"testing"

	"rime/api"
	"rime/store"
)

// The chapter's examples.

func TestExample1(t *testing.T) {
	w := newTwinDisk().mustOpen(t)
	n := drawnNonces(drawn(10))
	c := w.mustPut(t, n)
	if len(w.d.Bytes()) != 73 || w.d.Synced() != 73 {
		t.Fatalf("behind Put: %d bytes, %d synced", len(w.d.Bytes()), w.d.Synced())
	}
	w.mustTake(t, c)
	if len(w.d.Bytes()) != 146 || w.d.Synced() != 146 {
		t.Fatalf("behind Take: %d bytes, %d synced", len(w.d.Bytes()), w.d.Synced())
	}
	_, errno := w.take(t, c)
	wantErrno(t, "Take again", errno, api.ErrUsed)
	_, errno = w.put(t, n)
	wantErrno(t, "Put of the same nonces", errno, api.ErrUsed)
}

func TestExample2(t *testing.T) {
	for keep, expected := range map[int]api.Errno{73: api.ErrUsed, 72: api.OK} {
		w := newTwinDisk().mustOpen(t)
		n := drawnNonces(drawn(11))
		c := w.mustPut(t, n)
		w.fuse(t, 1)
		got, errno := w.take(t, c)
		if got != (api.Nonces{}) || errno != api.ErrDown || len(w.d.Bytes()) != 146 || w.d.Synced() != 73 {
			t.Fatalf("Take: %x %v, %d bytes, %d synced", got, errno, len(w.d.Bytes()), w.d.Synced())
		}
		w.crash(t, keep)
		w = w.mustOpen(t)
		got, errno = w.take(t, c)
		if errno != expected || errno == api.OK && got != n {
			t.Fatalf("Take, %d bytes kept: %x %v", keep, got, errno)
		}
		_, errno = w.take(t, c)
		wantErrno(t, "Take once more", errno, api.ErrUsed)
	}
}

func TestExample3(t *testing.T) {
	r := drawn(12)
	d := store.NewDisk()
	s, _ := store.Open(d)
	all := manyNonces(r, 1026)
	for i, n := range all[:1024] {
		if c, errno := s.Put(n); c != pairOf(n) || errno != api.OK {
			t.Fatalf("Put %d: %x %v", i, c, errno)
		}
	}
	file := d.Bytes()
	for range 3 {
		c, errno := s.Put(all[1024])
		if c != (api.Commitment{}) || errno != api.ErrFull || s.Len() != 1024 || !bytes.Equal(d.Bytes(), file) {
			t.Fatalf("Put of one more: %x %v, %d are there", c, errno, s.Len())
		}
	}
	_, errno := s.Put(all[500]) // what is wrong with the pair goes ahead
	wantErrno(t, "Put of one that is there", errno, api.ErrUsed)
	_, errno = s.Put(api.Nonces{Hiding: api.Scalar{1}})
	wantErrno(t, "Put of a nonce 0", errno, api.ErrZero)
	wantErrno(t, "Has of the one that was refused", s.Has(pairOf(all[1024]).Hiding, pairOf(all[1024]).Binding), api.ErrUnknown)

	used := pairOf(all[700])
	if n, errno := s.Take(used.Hiding, used.Binding); n != all[700] || errno != api.OK {
		t.Fatalf("Take: %x %v", n, errno)
	}
	_, errno = s.Put(all[1024])
	wantErrno(t, "Put into the room of one that was used", errno, api.OK)
	_, errno = s.Put(all[1025])
	wantErrno(t, "Put of one more", errno, api.ErrFull)
	pairs := s.Pairs()
	wantErrno(t, "Compact", s.Compact(), api.OK)
	again, errno := store.Open(d)
	if errno != api.OK || !slices.Equal(again.Pairs(), pairs) || !slices.Equal(s.Pairs(), pairs) || again.Used() != 1 {
		t.Fatalf("opened anew: %v, %d are there, %d were used", errno, again.Len(), again.Used())
	}
	_, errno = again.Put(all[1025])
	wantErrno(t, "Put of one more, opened anew", errno, api.ErrFull)
}

// A store of 1024 that breaks is told as broken, not as full.
func TestFullGoesAheadOfDown(t *testing.T) {
	all := manyNonces(drawn(12), 1025) // as above, so that their points are known
	var file []byte
	for i, n := range all[:1024] {
		file = append(file, recordOfNonces(i, n)...)
	}
	d := store.NewDisk()
	d.Replace(file)
	s, _ := store.Open(d)
	d.Fuse(0)
	_, errno := s.Put(all[1024])
	if errno != api.ErrFull || d.Off() {
		t.Fatalf("Put: %v, off %v", errno, d.Off())
	}
	wantErrno(t, "Compact", s.Compact(), api.ErrDown)
	_, errno = s.Put(all[1024])
	wantErrno(t, "Put into a broken one", errno, api.ErrDown)
	if s.Len() != 1024 {
		t.Fatalf("%d are there", s.Len())
	}
}

// P13.1: a store, call by call.

// The record of a pair of small nonces, laid by hand.
func TestRecordsAsBytes(t *testing.T) {
	w := newTwinDisk().mustOpen(t)
	first := api.Nonces{Hiding: api.Scalar{2}, Binding: api.Scalar{3}}
	second := api.Nonces{Hiding: api.Scalar{3}, Binding: api.Scalar{2}}
	c := w.mustPut(t, first)
	w.mustPut(t, second)
	w.mustTake(t, c)
	file := w.d.Bytes()
	said := [][]byte{
		slices.Concat([]byte{1, 2}, make([]byte, 31), []byte{3}, make([]byte, 31)),
		slices.Concat([]byte{1, 3}, make([]byte, 31), []byte{2}, make([]byte, 31)),
		slices.Concat([]byte{2}, c.Hiding[:], c.Binding[:]),
	}
	for place, s := range said {
		if got := file[73*place:][:73]; !bytes.Equal(got, append(s, sumOf(place, s)...)) {
			t.Fatalf("record %d: %x", place, got)
		}
	}
	if w.compact(t) != api.OK || !bytes.Equal(w.d.Bytes(), slices.Concat(recordOfPair(0, 3, c), recordOfNonces(1, second))) {
		t.Fatalf("behind Compact: %x", w.d.Bytes())
	}
}

func TestNewStore(t *testing.T) {
	w := newTwinDisk().mustOpen(t)
	if w.s.Len() != 0 || w.s.Used() != 0 || len(w.s.Pairs()) != 0 || len(w.d.Bytes()) != 0 {
		t.Fatal("a new store has something")
	}
	for _, c := range []api.Commitment{{}, {Hiding: pointOf(api.Scalar{1})}, pairOf(api.Nonces{Hiding: api.Scalar{1}, Binding: api.Scalar{1}})} {
		_, errno := w.take(t, c)
		wantErrno(t, "Take", errno, api.ErrUnknown)
		wantErrno(t, "Has", w.has(t, c), api.ErrUnknown)
	}
	wantErrno(t, "Compact", w.compact(t), api.OK)
	if len(w.d.Bytes()) != 0 {
		t.Fatalf("behind Compact: %d bytes", len(w.d.Bytes()))
	}
}

// A nonce is 0 modulo L just if it is one of these; it is told for the hiding one as for the binding one.
func TestPutOfZeros(t *testing.T) {
	w := newTwinDisk().mustOpen(t)
	good := api.Scalar{7}
	for k := range int64(16) {
		zero := above(api.Scalar{}, k)
		for _, n := range []api.Nonces{{Hiding: zero, Binding: good}, {Hiding: good, Binding: zero}, {Hiding: zero, Binding: zero}, {Binding: zero}} {
			_, errno := w.put(t, n)
			wantErrno(t, "Put of a 0", errno, api.ErrZero)
		}
	}
	if len(w.d.Bytes()) != 0 {
		t.Fatalf("%d bytes", len(w.d.Bytes()))
	}
}

// Nonces that are the same modulo L are the same pair; the canonical ones are laid down and come out.
func TestPutIsModuloL(t *testing.T) {
	r := drawn(13)
	for k := range int64(15) {
		w := newTwinDisk().mustOpen(t)
		n := drawnNonces(r)
		n.Hiding[31] &= 7 // so that there is room for the multiples
		n.Binding[31] &= 7
		high := api.Nonces{Hiding: above(n.Hiding, k), Binding: above(n.Binding, 14-k)}
		c := w.mustPut(t, high)
		if c != pairOf(n) || !bytes.Equal(w.d.Bytes(), recordOfNonces(0, n)) {
			t.Fatalf("Put of %x: %x", high, w.d.Bytes())
		}
		for _, same := range []api.Nonces{n, high, {Hiding: high.Hiding, Binding: n.Binding}} {
			_, errno := w.put(t, same)
			wantErrno(t, "Put of the same modulo L", errno, api.ErrUsed)
		}
		if got, errno := w.take(t, c); got != n || errno != api.OK {
			t.Fatalf("Take: %x %v, not %x", got, errno, n)
		}
		_, errno := w.put(t, high)
		wantErrno(t, "Put of a used one modulo L", errno, api.ErrUsed)
	}
}

// Numbers around the ends: 1, L - 1, and what they are higher up.
func TestPutOfEnds(t *testing.T) {
	w := newTwinDisk().mustOpen(t)
	less := scalarOf(new(big.Int).Sub(order(), big.NewInt(1)))
	ends := []api.Scalar{{1}, less, above(api.Scalar{1}, 1), above(less, 1), above(less, 14), api.Scalar(bytes.Repeat([]byte{255}, 32))}
	for _, hiding := range ends {
		for _, binding := range ends {
			w.put(t, api.Nonces{Hiding: hiding, Binding: binding})
		}
	}
	if w.s.Len() != 9 { // of three numbers each
		t.Fatalf("%d are there", w.s.Len())
	}
}

// A pair is known by both of its commitments, in their order.
func TestPairsAreKnownByBoth(t *testing.T) {
	w := newTwinDisk().mustOpen(t)
	a, b, x := api.Scalar{1}, api.Scalar{2}, api.Scalar{3}
	kept := w.mustPut(t, api.Nonces{Hiding: a, Binding: b})
	for _, other := range []api.Nonces{{Hiding: b, Binding: a}, {Hiding: a, Binding: a}, {Hiding: b, Binding: b}, {Hiding: a, Binding: x}, {Hiding: x, Binding: b}} {
		_, errno := w.take(t, pairOf(other))
		wantErrno(t, "Take of another", errno, api.ErrUnknown)
		wantErrno(t, "Has of another", w.has(t, pairOf(other)), api.ErrUnknown)
		c := w.mustPut(t, other)
		w.mustTake(t, c)
		wantErrno(t, "Has of the one that is kept", w.has(t, kept), api.OK)
	}
	for bit := range 512 {
		turned := kept
		if bit < 256 {
			turned.Hiding[bit/8] ^= 1 << (bit % 8)
		} else {
			turned.Binding[bit/8-32] ^= 1 << (bit % 8)
		}
		wantErrno(t, "Has of turned commitments", w.s.Has(turned.Hiding, turned.Binding), api.ErrUnknown)
		_, errno := w.s.Take(turned.Hiding, turned.Binding)
		wantErrno(t, "Take of turned commitments", errno, api.ErrUnknown)
	}
	w.mustTake(t, kept)
}

// The nonces themselves are no name of a pair, nor are the commitments with an ID.
func TestIDsAreZero(t *testing.T) {
	w := newTwinDisk().mustOpen(t)
	for _, n := range manyNonces(drawn(14), 5) {
		if c := w.mustPut(t, n); c.ID != 0 {
			t.Fatalf("Put answers ID %d", c.ID)
		}
		_, errno := w.take(t, api.Commitment{Hiding: api.Element(n.Hiding), Binding: api.Element(n.Binding)})
		wantErrno(t, "Take by nonces", errno, api.ErrUnknown)
	}
	for _, c := range w.s.Pairs() {
		if c.ID != 0 {
			t.Fatalf("Pairs answers ID %d", c.ID)
		}
	}
}

// Pairs stand in the order in which they came in, whichever of them are taken.
func TestOrderOfPairs(t *testing.T) {
	r := drawn(15)
	all := manyNonces(r, 40)
	for range 10 {
		w := newTwinDisk().mustOpen(t)
		for i, n := range all {
			w.mustPut(t, n)
			if i%2 == 1 {
				w.mustTake(t, w.s.Pairs()[r.Intn(w.s.Len())])
			}
			if i%7 == 6 {
				w.compact(t)
			}
			if i%13 == 12 {
				w = w.mustOpen(t)
			}
		}
		for w.s.Len() > 0 {
			w.mustTake(t, w.s.Pairs()[r.Intn(w.s.Len())])
		}
		w.compact(t)
		w.mustOpen(t)
	}
}

// What each call does when a write fails, at each write.
func TestEveryWriteThatFails(t *testing.T) {
	all := manyNonces(drawn(16), 4)
	used, there := pairOf(all[0]), pairOf(all[1])
	type call struct {
		name   string
		writes int
		do     func(t *testing.T, w twin) api.Errno
	}
	calls := []call{
		{"Put", 2, func(t *testing.T, w twin) api.Errno { _, errno := w.put(t, all[2]); return errno }},
		{"Take", 2, func(t *testing.T, w twin) api.Errno { _, errno := w.take(t, there); return errno }},
		{"Compact", 1, func(t *testing.T, w twin) api.Errno { return w.compact(t) }},
	}
	for _, c := range calls {
		for fuse := range c.writes + 1 {
			w := newTwinDisk().mustOpen(t)
			w.mustPut(t, all[0])
			w.mustPut(t, all[1])
			w.mustTake(t, used)
			w.fuse(t, fuse)
			errno := c.do(t, w)
			if (errno == api.OK) != (fuse == c.writes) || errno != api.OK && errno != api.ErrDown {
				t.Fatalf("%s with a fuse of %d: %v", c.name, fuse, errno)
			}
			if errno == api.OK {
				continue
			}
			wantBroken(t, w, all)
			w.crash(t, 0) // the disk is on, the store is broken for ever
			wantBroken(t, w, all)
			w = w.mustOpen(t)
			w.mustTake(t, there)
		}
	}
}

// wantBroken: nothing can be written, and all else is as it was.
func wantBroken(t *testing.T, w twin, all []api.Nonces) {
	t.Helper()
	file := w.d.Bytes()
	for _, n := range append([]api.Nonces{{}, {Hiding: api.Scalar{1}}}, all...) {
		_, errno := w.put(t, n)
		wantErrno(t, "Put into a broken one", errno, api.ErrDown)
	}
	for _, c := range []api.Commitment{{}, pairOf(all[0]), pairOf(all[1]), pairOf(all[2])} {
		_, errno := w.take(t, c)
		wantErrno(t, "Take of a broken one", errno, api.ErrDown)
	}
	wantErrno(t, "Compact of a broken one", w.compact(t), api.ErrDown)
	wantErrno(t, "Has of a used one", w.has(t, pairOf(all[0])), api.ErrUsed)
	wantErrno(t, "Has of one that is there", w.has(t, pairOf(all[1])), api.OK)
	wantErrno(t, "Has of one that never came in", w.has(t, pairOf(all[2])), api.ErrUnknown)
	if w.s.Len() != 1 || w.s.Used() != 1 || !bytes.Equal(w.d.Bytes(), file) {
		t.Fatalf("%d are there, %d were used, %d bytes", w.s.Len(), w.s.Used(), len(w.d.Bytes()))
	}
}

// What is refused for another reason does not ask the disk.
func TestRefusalsDoNotBurnTheFuse(t *testing.T) {
	all := manyNonces(drawn(17), 3)
	w := newTwinDisk().mustOpen(t)
	w.mustPut(t, all[0])
	c := w.mustPut(t, all[1])
	w.mustTake(t, c)
	w.fuse(t, 0)
	for range 3 {
		_, errno := w.put(t, api.Nonces{})
		wantErrno(t, "Put of a 0", errno, api.ErrZero)
		_, errno = w.put(t, all[0])
		wantErrno(t, "Put of one that is there", errno, api.ErrUsed)
		_, errno = w.put(t, all[1])
		wantErrno(t, "Put of a used one", errno, api.ErrUsed)
		_, errno = w.take(t, c)
		wantErrno(t, "Take of a used one", errno, api.ErrUsed)
		_, errno = w.take(t, pairOf(all[2]))
		wantErrno(t, "Take of an unknown one", errno, api.ErrUnknown)
		w.has(t, c)
		if w.d.Off() {
			t.Fatal("the disk is off")
		}
	}
	w.fuse(t, 2)
	_, errno := w.put(t, all[2])
	wantErrno(t, "Put with a fuse of its two writes", errno, api.OK)
	wantErrno(t, "Compact with a fuse that has burnt", w.compact(t), api.ErrDown)
}

// A store that is not broken goes on behind a crash of its disk.
func TestCrashUnderAStore(t *testing.T) {
	all := manyNonces(drawn(18), 3)
	w := newTwinDisk().mustOpen(t)
	c := w.mustPut(t, all[0])
	w.fuse(t, 1)
	w.crash(t, 0)
	w.mustTake(t, c)
	w.mustPut(t, all[1])
	w.crash(t, math.MaxInt)
	w = w.mustOpen(t)
	wantErrno(t, "Has", w.has(t, pairOf(all[1])), api.OK)
}

func TestStoreThatOpenDidNotMake(t *testing.T) {
	n := api.Nonces{Hiding: api.Scalar{1}, Binding: api.Scalar{2}}
	c := pairOf(n)
	for _, s := range []*store.Store{nil, {}} {
		for range 3 {
			if got, errno := s.Put(n); got != (api.Commitment{}) || errno != api.ErrMade {
				t.Fatalf("Put: %x %v", got, errno)
			}
			if got, errno := s.Put(api.Nonces{}); got != (api.Commitment{}) || errno != api.ErrMade {
				t.Fatalf("Put of nonces 0: %x %v", got, errno)
			}
			if got, errno := s.Take(c.Hiding, c.Binding); got != (api.Nonces{}) || errno != api.ErrMade {
				t.Fatalf("Take: %x %v", got, errno)
			}
			wantErrno(t, "Has", s.Has(c.Hiding, c.Binding), api.ErrMade)
			wantErrno(t, "Compact", s.Compact(), api.ErrMade)
			if s.Len() != 0 || s.Used() != 0 || len(s.Pairs()) != 0 {
				t.Fatal("a store that no call made has something")
			}
		}
	}
}
