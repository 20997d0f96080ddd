package store_test

import (
	"bytes"
	"math"
	"math/rand"
	"slices"
	"testing"

	"rime/api"
	"rime/store"
)

// P13.1: a disk, call by call.

func TestNewDisk(t *testing.T) {
	w := newTwinDisk()
	w.wantLook(t, "NewDisk")
	if len(w.d.Bytes()) != 0 || w.d.Synced() != 0 || w.d.Off() {
		t.Fatal("a new disk has something")
	}
	for range 1000 { // there is no fuse
		w.write(t, []byte{1})
		w.sync(t)
		w.replace(t, nil)
	}
}

func TestAppendGoesIntoTheTail(t *testing.T) {
	w := newTwinDisk()
	w.write(t, []byte("ab"))
	if string(w.d.Bytes()) != "ab" || w.d.Synced() != 0 {
		t.Fatalf("%q, %d bytes are synced", w.d.Bytes(), w.d.Synced())
	}
	w.sync(t)
	w.write(t, []byte("cde"))
	w.write(t, nil)
	w.write(t, []byte{})
	if string(w.d.Bytes()) != "abcde" || w.d.Synced() != 2 {
		t.Fatalf("%q, %d bytes are synced", w.d.Bytes(), w.d.Synced())
	}
	w.sync(t)
	if w.d.Synced() != 5 {
		t.Fatalf("%d bytes are synced", w.d.Synced())
	}
}

func TestReplaceIsSynced(t *testing.T) {
	for _, b := range []string{"", "x", "longer than what was there"} {
		w := newTwinDisk()
		w.write(t, []byte("ab"))
		w.sync(t)
		w.write(t, []byte("cd"))
		w.replace(t, []byte(b))
		if string(w.d.Bytes()) != b || w.d.Synced() != len(b) {
			t.Fatalf("%q, %d bytes are synced", w.d.Bytes(), w.d.Synced())
		}
		w.crash(t, 0)
		if string(w.d.Bytes()) != b {
			t.Fatalf("behind a crash: %q", w.d.Bytes())
		}
	}
}

// Each of the three calls asks the fuse, and a disk that is off does nothing till it crashes.
func TestFuse(t *testing.T) {
	calls := []func(w twinDisk){
		func(w twinDisk) { w.write(t, []byte("ab")) },
		func(w twinDisk) { w.sync(t) },
		func(w twinDisk) { w.replace(t, []byte("xyz")) },
	}
	for n := range 5 {
		for _, last := range calls {
			w := newTwinDisk()
			w.write(t, []byte("begun"))
			w.fuse(t, n)
			for i := range n {
				calls[i%3](w)
			}
			if w.d.Off() {
				t.Fatalf("off behind %d calls, with a fuse of as many", n)
			}
			last(w)
			if !w.d.Off() {
				t.Fatalf("on behind %d calls, with a fuse of %d", n+1, n)
			}
			for _, call := range calls {
				call(w)
			}
			w.crash(t, 3)
			for range 10 {
				for _, call := range calls {
					call(w)
				}
			}
		}
	}
}

// What the fuse is set to does not put a disk on; only a crash does.
func TestFuseOfADiskThatIsOff(t *testing.T) {
	for _, n := range []int{-1, 0, 1, 5, math.MaxInt, math.MinInt} {
		w := newTwinDisk()
		w.fuse(t, 0)
		w.sync(t)
		w.fuse(t, n)
		w.write(t, []byte("ab"))
		w.sync(t)
		w.replace(t, []byte("ab"))
		if !w.d.Off() || len(w.d.Bytes()) != 0 {
			t.Fatalf("Fuse(%d) has put the disk on", n)
		}
		w.crash(t, 0)
		for range 10 {
			w.write(t, []byte("ab"))
			w.sync(t)
		}
	}
}

// Asking nothing of a disk does not burn its fuse.
func TestFuseThatNobodyAsks(t *testing.T) {
	w := newTwinDisk()
	w.write(t, []byte("ab"))
	w.fuse(t, 0)
	for range 5 {
		w.d.Bytes()
		w.d.Synced()
		if w.d.Off() {
			t.Fatal("off, though no call has asked the fuse")
		}
	}
	w.fuse(t, -1)
	w.sync(t)
	w.write(t, []byte("cd"))
	w.fuse(t, 2)
	w.sync(t)
	w.fuse(t, 2) // set anew, not lower
	w.sync(t)
	w.sync(t)
	if w.d.Off() {
		t.Fatal("a fuse that was set anew has burnt as the old one")
	}
	w.sync(t)
	if !w.d.Off() {
		t.Fatal("a fuse that was set anew has not burnt")
	}
}

func TestFuseOfEnds(t *testing.T) {
	for _, n := range []int{-1, -2, math.MinInt, math.MinInt + 1, math.MinInt32, math.MaxInt, math.MaxInt - 1, math.MaxInt32} {
		w := newTwinDisk()
		w.fuse(t, 0)
		w.fuse(t, n)
		for range 20 {
			w.write(t, []byte("ab"))
			w.sync(t)
			w.replace(t, []byte("c"))
		}
		if w.d.Off() {
			t.Fatalf("off with a fuse of %d", n)
		}
	}
}

func TestCrash(t *testing.T) {
	kept := map[int]int{math.MinInt: 0, -100: 0, -1: 0, 0: 0, 1: 1, 2: 2, 3: 3, 4: 4, 5: 4, 6: 4, 100: 4, math.MaxInt - 1: 4, math.MaxInt: 4}
	for keep, stay := range kept {
		for _, fuse := range []int{-1, 0, 1} {
			w := newTwinDisk()
			w.write(t, []byte("firm"))
			w.sync(t)
			w.write(t, []byte("tail"))
			w.fuse(t, fuse)
			w.crash(t, keep)
			if got := string(w.d.Bytes()); got != "firm"+"tail"[:stay] || w.d.Synced() != len(got) {
				t.Fatalf("Crash(%d): %q, %d bytes are synced", keep, got, w.d.Synced())
			}
			w.crash(t, 0) // what stayed is synced, so that the next crash takes nothing
			w.write(t, []byte("more"))
			w.sync(t)
		}
	}
}

func (w twinDisk) step(t *testing.T, r *rand.Rand) {
	t.Helper()
	switch r.Intn(9) {
	case 0, 1, 2:
		w.write(t, drawnBytes(r, r.Intn(6)))
	case 3, 4:
		w.sync(t)
	case 5:
		w.replace(t, drawnBytes(r, r.Intn(10)))
	case 6:
		w.fuse(t, r.Intn(7)-2)
	default:
		w.crash(t, r.Intn(14)-2)
	}
}

func TestDrawnDisks(t *testing.T) {
	r := drawn(1)
	for range 500 {
		one, two := newTwinDisk(), newTwinDisk()
		for range 40 {
			one.step(t, r)
			two.step(t, r)
			one.wantLook(t, "a call to another disk")
		}
	}
}

func TestDiskThatNewDiskDidNotMake(t *testing.T) {
	for _, d := range []*store.Disk{nil, {}} {
		for range 3 {
			wantErrno(t, "Append", d.Append([]byte("ab")), api.ErrMade)
			wantErrno(t, "Sync", d.Sync(), api.ErrMade)
			wantErrno(t, "Replace", d.Replace([]byte("ab")), api.ErrMade)
			d.Fuse(0)
			d.Fuse(3)
			wantErrno(t, "Append", d.Append(nil), api.ErrMade)
			d.Crash(5)
			d.Crash(-5)
			if len(d.Bytes()) != 0 || d.Synced() != 0 || d.Off() {
				t.Fatal("a disk that no call made has something")
			}
			if s, errno := store.Open(d); s != nil || errno != api.ErrMade {
				t.Fatalf("Open: %v %v", s, errno)
			}
		}
	}
}

// P13.5: what a disk is given is neither changed nor kept, and what it tells is new memory.

func TestDisksLeaveTheirArguments(t *testing.T) {
	for room := range 4 {
		lent := append(make([]byte, 0, 16+room), "lent bytes"...)
		calls := []func(d *store.Disk) api.Errno{
			func(d *store.Disk) api.Errno { return d.Append(lent[2:8]) },
			func(d *store.Disk) api.Errno { return d.Replace(lent[2:8]) },
		}
		for _, call := range calls {
			copy(lent, "lent bytes")
			d := store.NewDisk()
			wantErrno(t, "a call", call(d), api.OK)
			wantErrno(t, "Append", d.Append([]byte("more")), api.OK)
			if string(lent) != "lent bytes" {
				t.Fatalf("a call has changed its argument, or what lies beside it: %q", lent)
			}
			spoil(lent, 0xa5)
			if string(d.Bytes()) != "nt bytmore" {
				t.Fatalf("a disk has kept its argument: %q", d.Bytes())
			}
		}
	}
}

func TestBytesAreNew(t *testing.T) {
	d := store.NewDisk()
	for i := range 100 {
		wantErrno(t, "Append", d.Append([]byte{byte(i)}), api.OK)
		one, two := d.Bytes(), d.Bytes()
		expected := slices.Clone(one)
		spoil(one, 0xa5)
		_ = append(two[:len(two):cap(two)], 0xa5)
		if got := d.Bytes(); !bytes.Equal(got, expected) || !bytes.Equal(two, expected) {
			t.Fatalf("Bytes shares its answer: %x, not %x", got, expected)
		}
	}
	d.Crash(50)
	long := d.Bytes()
	spoil(long[:0:cap(long)], 0xa5)
	wantErrno(t, "Append", d.Append([]byte{50}), api.OK)
	for i, b := range d.Bytes() {
		if int(b) != i {
			t.Fatalf("byte %d is %d", i, b)
		}
	}
}

// What a crash took is not to be had out of an answer's spare room.
func TestNoSpareBytes(t *testing.T) {
	d := store.NewDisk()
	wantErrno(t, "Append", d.Append(bytes.Repeat([]byte{7}, 100)), api.OK)
	d.Crash(33)
	b := d.Bytes()
	if spare := b[len(b):cap(b)]; bytes.IndexByte(spare, 7) >= 0 {
		t.Fatalf("behind the file: %x", spare)
	}
}
