package store_test

import (
	"bytes"
	"crypto/sha512"
	"encoding/binary"
	"math/big"
	"math/rand"
	"slices"
	"sync"
	"testing"

	"rime/api"
	"rime/edwards"
	"rime/store"
)

// The tests hold the package against a disk, a journal and a store that are told anew here out of the chapter's words, by lists and the library's SHA-512.

func drawn(seed int64) *rand.Rand { return rand.New(rand.NewSource(seed)) }

func drawnBytes(r *rand.Rand, n int) []byte {
	b := make([]byte, n)
	r.Read(b)
	return b
}

func order() *big.Int {
	l, _ := new(big.Int).SetString("1000000000000000000000000000000014def9dea2f79cd65812631a5cf5d3ed", 16)
	return l
}

func numberOf(s api.Scalar) *big.Int {
	b := slices.Clone(s[:])
	slices.Reverse(b)
	return new(big.Int).SetBytes(b)
}

func scalarOf(x *big.Int) api.Scalar {
	b := x.FillBytes(make([]byte, 32))
	slices.Reverse(b)
	return api.Scalar(b)
}

func modL(s api.Scalar) api.Scalar {
	x := numberOf(s)
	return scalarOf(x.Mod(x, order()))
}

// above is the same number modulo L, but k times L higher.
func above(s api.Scalar, k int64) api.Scalar {
	more := new(big.Int).Mul(order(), big.NewInt(k))
	return scalarOf(more.Add(more, numberOf(s)))
}

var (
	points = map[api.Scalar]api.Element{}
	atWork sync.Mutex
)

// pointOf is the base point times a number that is not 0; each is worked out once.
func pointOf(s api.Scalar) api.Element {
	s = modL(s)
	atWork.Lock()
	defer atWork.Unlock()
	if _, ok := points[s]; !ok {
		points[s] = edwards.MulBase(s)
	}
	return points[s]
}

func pairOf(n api.Nonces) api.Commitment {
	return api.Commitment{Hiding: pointOf(n.Hiding), Binding: pointOf(n.Binding)}
}

func drawnNonces(r *rand.Rand) api.Nonces {
	return api.Nonces{Hiding: modL(api.Scalar(drawnBytes(r, 32))), Binding: modL(api.Scalar(drawnBytes(r, 32)))}
}

func manyNonces(r *rand.Rand, count int) []api.Nonces {
	var out []api.Nonces
	for range count {
		out = append(out, drawnNonces(r))
	}
	return out
}

func isZero(s api.Scalar) bool { return modL(s) == api.Scalar{} }

func recordOf(place int, kind byte, a, b [32]byte) []byte {
	said := slices.Concat([]byte{kind}, a[:], b[:])
	return append(said, sumOf(place, said)...)
}

func sumOf(place int, said []byte) []byte {
	digest := sha512.Sum512(append(binary.LittleEndian.AppendUint64(nil, uint64(place)), said...))
	return digest[:8]
}

func recordOfNonces(place int, n api.Nonces) []byte { return recordOf(place, 1, n.Hiding, n.Binding) }

func recordOfPair(place int, kind byte, c api.Commitment) []byte {
	return recordOf(place, kind, c.Hiding, c.Binding)
}

// diskModel is the disk of the chapter.
type diskModel struct {
	firm, tail []byte
	fused, off bool
	fuse       int
}

func (m *diskModel) file() []byte { return slices.Concat(m.firm, m.tail) }

func (m *diskModel) step() api.Errno {
	if m.off {
		return api.ErrDown
	}
	if m.fused && m.fuse == 0 {
		m.off = true
		return api.ErrDown
	}
	if m.fused {
		m.fuse--
	}
	return api.OK
}

func (m *diskModel) write(b []byte) api.Errno {
	errno := m.step()
	if errno == api.OK {
		m.tail = slices.Concat(m.tail, b)
	}
	return errno
}

func (m *diskModel) sync() api.Errno {
	errno := m.step()
	if errno == api.OK {
		m.firm, m.tail = m.file(), nil
	}
	return errno
}

func (m *diskModel) replace(b []byte) api.Errno {
	errno := m.step()
	if errno == api.OK {
		m.firm, m.tail = slices.Clone(b), nil
	}
	return errno
}

func (m *diskModel) setFuse(n int) { m.fused, m.fuse = n >= 0, n }

func (m *diskModel) crash(keep int) {
	switch {
	case keep < 0:
		m.tail = nil
	case keep < len(m.tail):
		m.tail = m.tail[:keep]
	}
	m.firm, m.tail = m.file(), nil
	m.fused, m.off = false, false
}

// read is what the chapter says of a file: the pairs that are there, those that were used, how many bytes the journal has.
func read(file []byte) ([]api.Nonces, []api.Commitment, int) {
	var there []api.Nonces
	var used []api.Commitment
	for place := 0; ; place++ {
		left := file[73*place:]
		if len(left) < 73 || !bytes.Equal(left[65:73], sumOf(place, left[:65])) {
			return there, used, 73 * place
		}
		n := api.Nonces{Hiding: api.Scalar(left[1:33]), Binding: api.Scalar(left[33:65])}
		pair := api.Commitment{Hiding: api.Element(left[1:33]), Binding: api.Element(left[33:65])}
		if left[0] == 1 {
			if isZero(n.Hiding) || isZero(n.Binding) || modL(n.Hiding) != n.Hiding || modL(n.Binding) != n.Binding {
				return there, used, 73 * place
			}
			pair = pairOf(n)
		}
		at := slices.IndexFunc(there, func(n api.Nonces) bool { return pairOf(n) == pair })
		known := at >= 0 || slices.Contains(used, pair)
		switch {
		case left[0] == 1 && !known:
			there = append(there, n)
		case left[0] == 2 && at >= 0:
			there = slices.Delete(there, at, at+1)
			used = append(used, pair)
		case left[0] == 3 && !known:
			used = append(used, pair)
		default:
			return there, used, 73 * place
		}
	}
}

// storeModel is the store of the chapter.
type storeModel struct {
	disk   *diskModel
	there  []api.Nonces
	used   []api.Commitment
	broken bool
}

func openModel(d *diskModel) (*storeModel, api.Errno) {
	file := d.file()
	there, used, journal := read(file)
	if journal < len(file) {
		if errno := d.replace(file[:journal]); errno != api.OK {
			return nil, errno
		}
	}
	return &storeModel{disk: d, there: there, used: used}, api.OK
}

func (m *storeModel) pairs() []api.Commitment {
	var out []api.Commitment
	for _, n := range m.there {
		out = append(out, pairOf(n))
	}
	return out
}

func (m *storeModel) has(c api.Commitment) api.Errno {
	c.ID = 0
	switch {
	case slices.Contains(m.pairs(), c):
		return api.OK
	case slices.Contains(m.used, c):
		return api.ErrUsed
	}
	return api.ErrUnknown
}

func (m *storeModel) lay(kind byte, a, b [32]byte) api.Errno {
	if m.disk.write(recordOf(len(m.disk.file())/73, kind, a, b)) != api.OK || m.disk.sync() != api.OK {
		m.broken = true
		return api.ErrDown
	}
	return api.OK
}

func (m *storeModel) put(n api.Nonces) (api.Commitment, api.Errno) {
	switch {
	case m.broken:
		return api.Commitment{}, api.ErrDown
	case isZero(n.Hiding) || isZero(n.Binding):
		return api.Commitment{}, api.ErrZero
	case m.has(pairOf(n)) != api.ErrUnknown:
		return api.Commitment{}, api.ErrUsed
	case len(m.there) >= 1024:
		return api.Commitment{}, api.ErrFull
	}
	n = api.Nonces{Hiding: modL(n.Hiding), Binding: modL(n.Binding)}
	if errno := m.lay(1, n.Hiding, n.Binding); errno != api.OK {
		return api.Commitment{}, errno
	}
	m.there = append(m.there, n)
	return pairOf(n), api.OK
}

func (m *storeModel) take(c api.Commitment) (api.Nonces, api.Errno) {
	if m.broken {
		return api.Nonces{}, api.ErrDown
	}
	c.ID = 0
	if errno := m.has(c); errno != api.OK {
		return api.Nonces{}, errno
	}
	if errno := m.lay(2, c.Hiding, c.Binding); errno != api.OK {
		return api.Nonces{}, errno
	}
	at := slices.Index(m.pairs(), c)
	n := m.there[at]
	m.there = slices.Delete(m.there, at, at+1)
	m.used = append(m.used, c)
	return n, api.OK
}

func (m *storeModel) compact() api.Errno {
	if m.broken {
		return api.ErrDown
	}
	var file []byte
	for _, c := range m.used {
		file = append(file, recordOfPair(len(file)/73, 3, c)...)
	}
	for _, n := range m.there {
		file = append(file, recordOfNonces(len(file)/73, n)...)
	}
	errno := m.disk.replace(file)
	m.broken = errno != api.OK
	return errno
}

// twinDisk is a disk, with the model of it.
type twinDisk struct {
	d *store.Disk
	m *diskModel
}

func newTwinDisk() twinDisk { return twinDisk{store.NewDisk(), &diskModel{}} }

// diskWith has a file, all of it synced.
func diskWith(t *testing.T, file []byte) twinDisk {
	t.Helper()
	w := newTwinDisk()
	w.replace(t, file)
	return w
}

func (w twinDisk) want(t *testing.T, call string, got, expected api.Errno) {
	t.Helper()
	if got != expected {
		t.Fatalf("%s: %v, not %v", call, got, expected)
	}
	w.wantLook(t, call)
}

// wantLook: everything that a disk tells is as it should be.
func (w twinDisk) wantLook(t *testing.T, call string) {
	t.Helper()
	if file := w.d.Bytes(); !bytes.Equal(file, w.m.file()) {
		t.Fatalf("behind %s: the file is %x, not %x", call, cut(file), cut(w.m.file()))
	}
	if w.d.Synced() != len(w.m.firm) || w.d.Off() != w.m.off {
		t.Fatalf("behind %s: %d bytes are synced, off %v; not %d, %v", call, w.d.Synced(), w.d.Off(), len(w.m.firm), w.m.off)
	}
}

func (w twinDisk) write(t *testing.T, b []byte) {
	t.Helper()
	w.want(t, "Append", w.d.Append(b), w.m.write(b))
}

func (w twinDisk) sync(t *testing.T) {
	t.Helper()
	w.want(t, "Sync", w.d.Sync(), w.m.sync())
}

func (w twinDisk) replace(t *testing.T, b []byte) {
	t.Helper()
	w.want(t, "Replace", w.d.Replace(b), w.m.replace(b))
}

func (w twinDisk) fuse(t *testing.T, n int) {
	t.Helper()
	w.d.Fuse(n)
	w.m.setFuse(n)
	w.wantLook(t, "Fuse")
}

func (w twinDisk) crash(t *testing.T, keep int) {
	t.Helper()
	w.d.Crash(keep)
	w.m.crash(keep)
	w.wantLook(t, "Crash")
}

// twin is a store on its disk, with the models of both.
type twin struct {
	twinDisk
	s     *store.Store
	model *storeModel
}

// open: both are opened; false, if both refuse.
func (w twinDisk) open(t *testing.T) (twin, bool) {
	t.Helper()
	model, why := openModel(w.m)
	s, errno := store.Open(w.d)
	if errno != why || (s == nil) != (model == nil) {
		t.Fatalf("Open of %x: %v %v, not %v", cut(w.m.file()), s != nil, errno, why)
	}
	x := twin{w, s, model}
	if s != nil {
		x.wantStore(t, "Open")
	} else {
		w.wantLook(t, "Open")
	}
	return x, s != nil
}

func (w twinDisk) mustOpen(t *testing.T) twin {
	t.Helper()
	x, ok := w.open(t)
	if !ok {
		t.Fatal("Open is refused")
	}
	return x
}

// wantStore: everything that a store and its disk tell is as it should be.
func (w twin) wantStore(t *testing.T, call string) {
	t.Helper()
	w.wantLook(t, call)
	if w.s.Len() != len(w.model.there) || w.s.Used() != len(w.model.used) {
		t.Fatalf("behind %s: %d are there, %d were used; not %d, %d", call, w.s.Len(), w.s.Used(), len(w.model.there), len(w.model.used))
	}
	if got := w.s.Pairs(); !slices.Equal(got, w.model.pairs()) {
		t.Fatalf("behind %s: Pairs: %x, not %x", call, got, w.model.pairs())
	}
}

func (w twin) put(t *testing.T, n api.Nonces) (api.Commitment, api.Errno) {
	t.Helper()
	expected, why := w.model.put(n)
	got, errno := w.s.Put(n)
	if got != expected || errno != why {
		t.Fatalf("Put of %x: %x %v, not %x %v", n, got, errno, expected, why)
	}
	w.wantStore(t, "Put")
	return got, errno
}

func (w twin) mustPut(t *testing.T, n api.Nonces) api.Commitment {
	t.Helper()
	c, errno := w.put(t, n)
	if errno != api.OK {
		t.Fatalf("Put of %x: %v", n, errno)
	}
	return c
}

func (w twin) take(t *testing.T, c api.Commitment) (api.Nonces, api.Errno) {
	t.Helper()
	expected, why := w.model.take(c)
	got, errno := w.s.Take(c.Hiding, c.Binding)
	if got != expected || errno != why {
		t.Fatalf("Take of %x: %x %v, not %x %v", c, got, errno, expected, why)
	}
	w.wantStore(t, "Take")
	return got, errno
}

func (w twin) mustTake(t *testing.T, c api.Commitment) {
	t.Helper()
	if _, errno := w.take(t, c); errno != api.OK {
		t.Fatalf("Take of %x: %v", c, errno)
	}
}

func (w twin) has(t *testing.T, c api.Commitment) api.Errno {
	t.Helper()
	expected := w.model.has(c)
	if got := w.s.Has(c.Hiding, c.Binding); got != expected {
		t.Fatalf("Has of %x: %v, not %v", c, got, expected)
	}
	w.wantStore(t, "Has")
	return expected
}

func (w twin) compact(t *testing.T) api.Errno {
	t.Helper()
	expected := w.model.compact()
	if got := w.s.Compact(); got != expected {
		t.Fatalf("Compact: %v, not %v", got, expected)
	}
	w.wantStore(t, "Compact")
	return expected
}

func wantErrno(t *testing.T, call string, got, expected api.Errno) {
	t.Helper()
	if got != expected {
		t.Fatalf("%s: %v, not %v", call, got, expected)
	}
}

// cut is what a failure shows of long bytes.
func cut(b []byte) []byte { return b[:min(len(b), 300)] }

// spoil overwrites all of a list's room.
func spoil[T any](l []T, by T) {
	l = l[:cap(l)]
	for i := range l {
		l[i] = by
	}
}
