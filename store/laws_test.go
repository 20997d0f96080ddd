package store_test

import (
	"bytes"
	"math/rand"
	"slices"
	"sync"
	"testing"

	"rime/api"
	"rime/store"
)

// step is any call of a store, right or wrong.
func (w twin) step(t *testing.T, r *rand.Rand, all []api.Nonces) {
	t.Helper()
	n := all[r.Intn(len(all))]
	switch r.Intn(10) {
	case 0, 1, 2:
		w.put(t, n)
	case 3:
		w.put(t, api.Nonces{Hiding: above(n.Hiding, 1), Binding: above(n.Binding, 0)})
	case 4:
		w.put(t, api.Nonces{Hiding: n.Hiding, Binding: above(api.Scalar{}, int64(r.Intn(3)))})
	case 5:
		w.has(t, pairOf(n))
	case 6:
		w.compact(t)
	default:
		w.take(t, pairOf(n))
	}
}

// P13.1: whatever was called ahead, on the disk or the store, each call answers as the chapter says.

func TestDrawnCalls(t *testing.T) {
	r := drawn(40)
	all := manyNonces(r, 12)
	for range 200 {
		w := newTwinDisk().mustOpen(t)
		few := all[:1+r.Intn(len(all))]
		for range 60 {
			switch r.Intn(14) {
			case 0:
				w.fuse(t, r.Intn(12)-1)
			case 1:
				w.crash(t, r.Intn(150)-2)
				w = w.mustOpen(t)
			case 2:
				if again, ok := w.open(t); ok {
					w = again
				}
			default:
				w.step(t, r, few)
			}
		}
	}
}

// P13.2 and P13.3.

// life is what becomes of pairs over all lives of a disk.
type life struct {
	d       *store.Disk
	s       *store.Store
	out     map[api.Commitment]int      // how often the nonces came out
	put     map[api.Commitment]struct{} // Put answered OK
	touched map[api.Commitment]struct{} // a Take was begun that was not refused as unknown or used
}

func newLife(t *testing.T) *life {
	l := &life{d: store.NewDisk(), out: map[api.Commitment]int{}, put: map[api.Commitment]struct{}{}, touched: map[api.Commitment]struct{}{}}
	l.open(t)
	return l
}

func (l *life) open(t *testing.T) {
	t.Helper()
	s, errno := store.Open(l.d)
	if errno != api.OK {
		t.Fatalf("Open: %v", errno)
	}
	l.s = s
}

func (l *life) crash(t *testing.T, keep int) {
	t.Helper()
	l.d.Crash(keep)
	l.open(t)
	l.wantKept(t)
}

// wantKept: what came out is used; what was put and not touched is there.
func (l *life) wantKept(t *testing.T) {
	t.Helper()
	for c, times := range l.out {
		if times != 1 {
			t.Fatalf("%x came out %d times", c, times)
		}
		if n, errno := l.s.Take(c.Hiding, c.Binding); n != (api.Nonces{}) || errno != api.ErrUsed {
			t.Fatalf("Take of what came out: %x %v", n, errno)
		}
	}
	for c := range l.put {
		if _, ok := l.touched[c]; !ok {
			wantErrno(t, "Has of what was put", l.s.Has(c.Hiding, c.Binding), api.OK)
		}
	}
}

func (l *life) doPut(t *testing.T, n api.Nonces) {
	t.Helper()
	c, errno := l.s.Put(n)
	if errno == api.OK {
		if l.out[c] > 0 {
			t.Fatalf("%x came in again behind its coming out", c)
		}
		l.put[c] = struct{}{}
	}
}

func (l *life) doTake(t *testing.T, n api.Nonces) {
	t.Helper()
	c := pairOf(n)
	got, errno := l.s.Take(c.Hiding, c.Binding)
	switch {
	case errno == api.OK && got != n:
		t.Fatalf("Take: %x, not %x", got, n)
	case errno != api.OK && got != (api.Nonces{}):
		t.Fatalf("Take: %x beside %v", got, errno)
	case errno == api.OK:
		l.out[c]++
	}
	if errno == api.OK || errno == api.ErrDown {
		l.touched[c] = struct{}{}
	}
}

func TestLives(t *testing.T) {
	r := drawn(41)
	all := manyNonces(r, 10)
	for range 300 {
		l := newLife(t)
		few := all[:1+r.Intn(len(all))]
		for range 80 {
			n := few[r.Intn(len(few))]
			switch r.Intn(12) {
			case 0, 1, 2:
				l.doPut(t, n)
			case 3, 4, 5:
				l.doTake(t, n)
			case 6:
				l.s.Compact()
			case 7, 8:
				l.d.Fuse(r.Intn(6) - 1)
			case 9:
				l.open(t)
			default:
				l.crash(t, r.Intn(150)-2)
			}
		}
		l.crash(t, 0)
	}
}

// Each call, cut at each write, with each number of bytes kept.
func TestEveryCrash(t *testing.T) {
	r := drawn(42)
	all := manyNonces(r, 3)
	calls := []func(l *life){
		func(l *life) { l.doPut(t, all[2]) },
		func(l *life) { l.doTake(t, all[1]) },
		func(l *life) { l.s.Compact() },
	}
	for i, call := range calls {
		for fuse := range 3 {
			for keep := range 75 {
				l := newLife(t)
				l.doPut(t, all[0])
				l.doPut(t, all[1])
				l.doTake(t, all[0])
				l.d.Fuse(fuse)
				call(l)
				l.crash(t, keep)
				whole := fuse == 2 || fuse == 1 && keep >= 73
				wantErrno(t, "Has of the used one", hasOf(l.s, all[0]), api.ErrUsed)
				switch {
				case i == 0 && whole:
					wantErrno(t, "Has behind Put", hasOf(l.s, all[2]), api.OK)
				case i == 0:
					wantErrno(t, "Has behind a Put that is lost", hasOf(l.s, all[2]), api.ErrUnknown)
				case i == 1 && whole:
					wantErrno(t, "Has behind Take", hasOf(l.s, all[1]), api.ErrUsed)
				default:
					wantErrno(t, "Has behind what is lost", hasOf(l.s, all[1]), api.OK)
				}
				for _, n := range all {
					l.doTake(t, n)
				}
				l.crash(t, keep)
			}
		}
	}
}

func hasOf(s *store.Store, n api.Nonces) api.Errno {
	c := pairOf(n)
	return s.Has(c.Hiding, c.Binding)
}

// A Put that was cut may be made again; its pair comes out once all the same.
func TestPutAgainBehindACrash(t *testing.T) {
	n := drawnNonces(drawn(43))
	for keep := range 75 {
		l := newLife(t)
		l.d.Fuse(1)
		l.doPut(t, n)
		l.crash(t, keep)
		_, errno := l.s.Put(n)
		if keep >= 73 {
			wantErrno(t, "Put of what was kept", errno, api.ErrUsed)
		} else {
			wantErrno(t, "Put of what was lost", errno, api.OK)
		}
		l.doTake(t, n)
		l.doTake(t, n)
		l.crash(t, 0)
		l.doPut(t, n)
		l.doTake(t, n)
		if l.out[pairOf(n)] != 1 {
			t.Fatalf("it came out %d times", l.out[pairOf(n)])
		}
	}
}

// P13.4: the same pairs and the same uses, opened anew and compacted.

func TestOpenedAnewIsTheSame(t *testing.T) {
	r := drawn(44)
	all := manyNonces(r, 20)
	for range 200 {
		w := newTwinDisk().mustOpen(t)
		for range r.Intn(60) {
			w.step(t, r, all)
		}
		wantSame(t, w.s, reopened(t, w.d), all)
		pairs, used := w.s.Pairs(), w.s.Used()
		long := len(w.d.Bytes())
		w.compact(t)
		short := w.d.Bytes()
		if !slices.Equal(w.s.Pairs(), pairs) || w.s.Used() != used || len(short) > long || len(short) != 73*(len(pairs)+used) {
			t.Fatalf("Compact of %d there, %d used: %d there, %d used, %d bytes", len(pairs), used, w.s.Len(), w.s.Used(), len(short))
		}
		again := reopened(t, w.d)
		wantSame(t, w.s, again, all)
		w.compact(t)
		if !bytes.Equal(w.d.Bytes(), short) {
			t.Fatal("Compact twice is another journal")
		}
		wantErrno(t, "Compact, opened anew", again.Compact(), api.OK)
	}
}

// reopened is a store over another disk with the same file.
func reopened(t *testing.T, d *store.Disk) *store.Store {
	t.Helper()
	other := store.NewDisk()
	other.Replace(d.Bytes())
	s, errno := store.Open(other)
	if errno != api.OK || !bytes.Equal(other.Bytes(), d.Bytes()) {
		t.Fatalf("Open of a store's own file: %v", errno)
	}
	return s
}

func wantSame(t *testing.T, one, two *store.Store, all []api.Nonces) {
	t.Helper()
	if !slices.Equal(one.Pairs(), two.Pairs()) || one.Len() != two.Len() || one.Used() != two.Used() {
		t.Fatalf("%d are there, %d were used; opened anew %d, %d", one.Len(), one.Used(), two.Len(), two.Used())
	}
	for _, n := range all {
		wantErrno(t, "Has, opened anew", hasOf(two, n), hasOf(one, n))
	}
}

// P3: two stores that were asked alike are alike, byte by byte, though maps have no order.
func TestStoresAskedAlike(t *testing.T) {
	all := manyNonces(drawn(45), 60)
	var first []byte
	for i := range 20 {
		d := store.NewDisk()
		s, _ := store.Open(d)
		for _, n := range all {
			s.Put(n)
		}
		for _, n := range all[10:40] {
			c := pairOf(n)
			s.Take(c.Hiding, c.Binding)
		}
		s.Compact()
		file := d.Bytes()
		for _, c := range s.Pairs() {
			file = append(file, c.Hiding[:]...)
		}
		if i == 0 {
			first = file
		}
		if !bytes.Equal(file, first) {
			t.Fatal("two stores that were asked alike differ")
		}
	}
}

// P13.5: an answer is new memory, and stores share nothing but a disk.

func TestPairsAreNew(t *testing.T) {
	all := manyNonces(drawn(46), 9)
	w := newTwinDisk().mustOpen(t)
	for _, n := range all {
		w.mustPut(t, n)
		one, two := w.s.Pairs(), w.s.Pairs()
		spoil(one, api.Commitment{ID: 9})
		if !slices.Equal(two, w.model.pairs()) {
			t.Fatal("two answers share memory")
		}
		spoil(two, api.Commitment{ID: 9})
		w.wantStore(t, "spoiling what Pairs has answered")
	}
	w.compact(t)
	w.mustOpen(t)
}

// What is behind the file in memory, ahead of Open or later, is none of the store's.
func TestStoresKeepNothingOfBytes(t *testing.T) {
	w := newTwinDisk()
	journal := someJournal()
	lent := append(slices.Clone(journal), "and a rest"...)
	w.replace(t, lent)
	x := w.mustOpen(t)
	spoil(lent, 0xa5)
	spoil(w.d.Bytes(), 0xa5)
	x.wantStore(t, "spoiling what the disk was given")
	if !bytes.Equal(w.d.Bytes(), journal) {
		t.Fatal("a disk has kept its argument")
	}
	for _, c := range x.s.Pairs() {
		x.mustTake(t, c)
	}
}

func TestStoresShareNothing(t *testing.T) {
	r := drawn(47)
	all := manyNonces(r, 6)
	for range 50 {
		one, two := newTwinDisk().mustOpen(t), newTwinDisk().mustOpen(t)
		for range 40 {
			one.step(t, r, all)
			two.step(t, r, all)
			one.wantStore(t, "a call of another store")
		}
	}
}

func TestStoresSideBySide(t *testing.T) {
	all := manyNonces(drawn(48), 20)
	for _, n := range all {
		pairOf(n)
	}
	files := make([][]byte, 8)
	var side sync.WaitGroup
	for i := range files {
		side.Go(func() {
			d := store.NewDisk()
			s, _ := store.Open(d)
			for _, n := range all {
				c, _ := s.Put(n)
				if n.Hiding[0]%2 == 0 {
					s.Take(c.Hiding, c.Binding)
				}
			}
			s.Compact()
			files[i] = d.Bytes()
		})
	}
	side.Wait()
	for i, file := range files {
		if len(file) != 73*len(all) || !bytes.Equal(file, files[0]) {
			t.Fatalf("store %d, side by side with the others", i)
		}
	}
}
