package drbg_test

import (
	"math"
	"slices"
	"testing"

	"rime/api"
	"rime/drbg"
)

// P11.1: a tape, and Scalars of any source.

func TestTape(t *testing.T) {
	r := drawn(20)
	for count := range 20 {
		l := drawnRandoms(r, count)
		tape := drbg.NewTape(l)
		for i, expected := range l {
			if tape.Left() != count-i {
				t.Fatalf("Left behind %d of %d: %d", i, count, tape.Left())
			}
			if got, errno := tape.Random(); got != expected || errno != api.OK {
				t.Fatalf("Random %d of %d: %x %v, not %x", i, count, got, errno, expected)
			}
		}
		for range 3 {
			if got, errno := tape.Random(); got != (api.Random{}) || errno != api.ErrEnd || tape.Left() != 0 {
				t.Fatalf("Random behind %d: %x %v, %d are left", count, got, errno, tape.Left())
			}
		}
	}
}

func TestEmptyTape(t *testing.T) {
	for _, l := range [][]api.Random{nil, {}} {
		tape := drbg.NewTape(l)
		if got, errno := tape.Random(); got != (api.Random{}) || errno != api.ErrEnd || tape.Left() != 0 {
			t.Fatalf("Random of an empty one: %x %v, %d are left", got, errno, tape.Left())
		}
	}
}

func TestTapeThatNoCallMade(t *testing.T) {
	for _, tape := range []*drbg.Tape{nil, {}} {
		for range 2 {
			if got, errno := tape.Random(); got != (api.Random{}) || errno != api.ErrMade || tape.Left() != 0 {
				t.Fatalf("Random: %x %v, %d are left", got, errno, tape.Left())
			}
		}
	}
}

func wantScalars(t *testing.T, s drbg.Source, n int, expected []api.Scalar, why api.Errno) []api.Scalar {
	t.Helper()
	got, errno := drbg.Scalars(s, n)
	if errno != why || !slices.Equal(got, expected) {
		t.Fatalf("Scalars of %d: %d, %v, not %d, %v", n, len(got), errno, len(expected), why)
	}
	return got
}

func TestScalars(t *testing.T) {
	r := drawn(21)
	for count := range 40 {
		l := drawnRandoms(r, count)
		tape := drbg.NewTape(l)
		first := r.Intn(count/2 + 1)
		wantScalars(t, tape, first, scalarsOf(l[:2*first]), api.OK)
		if tape.Left() != count-2*first {
			t.Fatalf("%d scalars of %d: %d are left", first, count, tape.Left())
		}
		wantScalars(t, tape, count/2-first, scalarsOf(l[2*first:]), api.OK)
		wantScalars(t, tape, 0, nil, api.OK)
		if tape.Left() != count%2 {
			t.Fatalf("all scalars of %d: %d are left", count, tape.Left())
		}
	}
}

// The numbers that are reduced the most, those around L, and the least.
func TestScalarsOfEnds(t *testing.T) {
	full := api.Random(slices.Repeat([]byte{255}, 32))
	order := api.Random(unhex("edd3f55c1a631258d69cf7a2def9de1400000000000000000000000000000010"))
	less := order
	less[0]--
	l := []api.Random{full, full, {}, {}, order, {}, less, {}, {}, order, {1}, {}, {}, {1}, {}, {31: 128}}
	got := wantScalars(t, drbg.NewTape(l), len(l)/2, scalarsOf(l), api.OK)
	if got[1] != (api.Scalar{}) || got[2] != (api.Scalar{}) || got[3] != api.Scalar(less) || got[4] != (api.Scalar{}) || got[5] != (api.Scalar{1}) {
		t.Fatalf("Scalars of ends: %x", got)
	}
}

func TestScalarsOfTooShortATape(t *testing.T) {
	r := drawn(22)
	for count := range 12 {
		l := drawnRandoms(r, count)
		for n := count/2 + 1; n < 10; n++ {
			tape := drbg.NewTape(l)
			wantScalars(t, tape, n, scalarsOf(l), api.ErrEnd)
			if tape.Left() != 0 {
				t.Fatalf("%d scalars of %d: %d are left", n, count, tape.Left())
			}
		}
	}
}

func TestScalarsOfWrongCounts(t *testing.T) {
	l := drawnRandoms(drawn(23), 10)
	tape := drbg.NewTape(l)
	for _, n := range []int{-1, -2, -65536, math.MinInt32, math.MinInt, math.MinInt + 1, 65537, 65538, 1 << 17, math.MaxInt32, 1<<32 + 1, math.MaxInt} {
		wantScalars(t, tape, n, nil, api.ErrArg)
		wantScalars(t, nil, n, nil, api.ErrArg)
	}
	if tape.Left() != 10 {
		t.Fatalf("%d are left", tape.Left())
	}
	for _, n := range []int{0, 1, 65536} {
		wantScalars(t, nil, n, nil, api.ErrArg)
	}
}

func TestMostScalars(t *testing.T) {
	l := drawnRandoms(drawn(24), 2*65536)
	tape := drbg.NewTape(l)
	wantScalars(t, tape, 65536, scalarsOf(l), api.OK)
	if tape.Left() != 0 {
		t.Fatalf("%d are left", tape.Left())
	}
}

func TestScalarsOfAGenerator(t *testing.T) {
	r := drawn(25)
	w := drawnTwin(t, r)
	var l []api.Random
	for range 10 {
		b, _ := w.m.draw(32, nil)
		l = append(l, api.Random(b))
	}
	wantScalars(t, w.g, 5, scalarsOf(l), api.OK)
	w.wantLeft(t)
	w.draw(t, 50, nil)
}

// A generator gives 2048 scalars between two seeds; its last draw alone gives none, and is gone.
func TestScalarsOfATiredGenerator(t *testing.T) {
	r := drawn(26)
	w := drawnTwin(t, r)
	if got, errno := drbg.Scalars(w.g, 2049); len(got) != 2048 || errno != api.ErrReseed || w.g.Left() != 0 {
		t.Fatalf("Scalars: %d, %v, %d are left", len(got), errno, w.g.Left())
	}
	w = drawnTwin(t, r)
	w.tired(t, 1)
	wantScalars(t, w.g, 1, nil, api.ErrReseed)
	if w.g.Left() != 0 {
		t.Fatalf("%d are left", w.g.Left())
	}
}

// A nil object in an interface is a source that answers ErrMade.
func TestScalarsOfNilObjects(t *testing.T) {
	for _, s := range []drbg.Source{(*drbg.Generator)(nil), (*drbg.Tape)(nil), &drbg.Generator{}, &drbg.Tape{}} {
		wantScalars(t, s, 0, nil, api.OK)
		wantScalars(t, s, 1, nil, api.ErrMade)
		wantScalars(t, s, 65536, nil, api.ErrMade)
		wantScalars(t, s, 65537, nil, api.ErrArg)
	}
}

// fickle is a source of somebody else's: at one place it answers an error, or panics where that is OK.
type fickle struct {
	l     []api.Random
	bad   int
	errno api.Errno
	asked int
}

func (f *fickle) Random() (api.Random, api.Errno) {
	at := f.asked
	f.asked++
	if at != f.bad {
		return f.l[at], api.OK
	}
	if f.errno == api.OK {
		panic("no more")
	}
	return f.l[at], f.errno // with bytes beside it, which must not count
}

func TestScalarsOfAnErringSource(t *testing.T) {
	l := drawnRandoms(drawn(27), 20)
	for bad := range 20 {
		for _, errno := range []api.Errno{api.ErrEnd, api.ErrReseed, api.ErrMade, -1, 12345, math.MaxInt, math.MinInt} {
			f := &fickle{l: l, bad: bad, errno: errno}
			wantScalars(t, f, 10, scalarsOf(l[:bad]), errno)
			if f.asked != bad+1 {
				t.Fatalf("asked %d times, though an error came at place %d", f.asked, bad)
			}
		}
	}
	f := &fickle{l: l, bad: 20, errno: api.ErrEnd}
	wantScalars(t, f, 10, scalarsOf(l), api.OK)
	if f.asked != 20 {
		t.Fatalf("asked %d times for 10 scalars", f.asked)
	}
}

// P1: a source that panics is answered, not followed.
func TestScalarsOfAPanickingSource(t *testing.T) {
	l := drawnRandoms(drawn(28), 20)
	for bad := range 20 {
		wantScalars(t, &fickle{l: l, bad: bad}, 10, scalarsOf(l[:bad]), api.ErrArg)
	}
	wantScalars(t, (*fickle)(nil), 3, nil, api.ErrArg)
	wantScalars(t, struct{ drbg.Source }{}, 3, nil, api.ErrArg)
}
