package participant_test

import (
	"bytes"
	"crypto/sha512"
	"encoding/binary"
	"errors"
	"math/big"
	"math/rand"
	"reflect"
	"slices"
	"testing"

	"rime/api"
	"rime/edwards"
	"rime/frost"
	"rime/participant"
	"rime/store"
	"rime/vss"
)

// The tests hold the package against a signer that is told anew here out of the chapter's words, over a disk, a store and a source of its own. The layers below have tests of their own.

const longest = 1<<20 - 1

func drawn(seed int64) *rand.Rand { return rand.New(rand.NewSource(seed)) }

func drawnBytes(r *rand.Rand, n int) []byte {
	b := make([]byte, n)
	r.Read(b)
	return b
}

func drawnRandoms(r *rand.Rand, count int) []api.Random {
	var out []api.Random
	for range count {
		out = append(out, api.Random(drawnBytes(r, 32)))
	}
	return out
}

func order() *big.Int {
	l, _ := new(big.Int).SetString("1000000000000000000000000000000014def9dea2f79cd65812631a5cf5d3ed", 16)
	return l
}

// above is the same number modulo L, but k times L higher.
func above(s api.Scalar, k int64) api.Scalar {
	b := slices.Clone(s[:])
	slices.Reverse(b)
	x := new(big.Int).SetBytes(b)
	b = x.Add(x, new(big.Int).Mul(order(), big.NewInt(k))).FillBytes(b)
	slices.Reverse(b)
	return api.Scalar(b)
}

// drawnScalar is canonical and not 0.
func drawnScalar(r *rand.Rand) api.Scalar {
	s := api.Scalar(drawnBytes(r, 32))
	s[31] &= 15
	return s
}

// dealt are the keys of a group that a dealer made.
func dealt(t *testing.T, r *rand.Rand, threshold int, ids ...int) ([]api.KeyShare, api.GroupKeys) {
	t.Helper()
	var coefs []api.Scalar
	for range threshold {
		coefs = append(coefs, drawnScalar(r))
	}
	deal, errno := vss.Deal(coefs, ids)
	wantErrno(t, "Deal", errno, api.OK)
	shares, keys, errno := vss.Keys(deal)
	wantErrno(t, "Keys", errno, api.OK)
	return shares, keys
}

// commitmentOf is a pair of somebody's.
func commitmentOf(r *rand.Rand, id int) api.Commitment {
	return api.Commitment{ID: id, Hiding: edwards.MulBase(drawnScalar(r)), Binding: edwards.MulBase(drawnScalar(r))}
}

// wrongElements are no group elements: no point, the identity, one of small order, the identity in another form, a group element with a part of small order.
func wrongElements(r *rand.Rand) []api.Element {
	small := edwards.Order8()
	sum, _ := edwards.Add(edwards.MulBase(drawnScalar(r)), small[1])
	out := append(small, api.Element{2}, api.Element{0: 1, 31: 0x80}, sum)
	return append(out, api.Element(bytes.Repeat([]byte{255}, 32)))
}

// turn is what a source does when it is asked once.
type turn struct {
	random api.Random
	errno  api.Errno
	panics bool
}

// script is a source that answers as it is told, and then that it is at its end.
type script struct {
	turns []turn
	asked int
}

func turnsOf(randoms ...api.Random) []turn {
	var out []turn
	for _, r := range randoms {
		out = append(out, turn{random: r})
	}
	return out
}

func (s *script) next() turn {
	s.asked++
	if s.asked > len(s.turns) {
		return turn{errno: api.ErrEnd}
	}
	return s.turns[s.asked-1]
}

func (s *script) Random() (api.Random, api.Errno) {
	n := s.next()
	if n.panics {
		panic("a source that panics")
	}
	return n.random, n.errno
}

// answered is that an Ask of a session was.
type answered struct {
	session api.Hash
	pair    api.Commitment
}

// paper is the signer of the chapter.
type paper struct {
	key     api.KeyShare
	d       *store.Disk
	s       *store.Store
	src     *script
	asks    []answered
	guard   func([]byte) api.Errno
	guarded int
	broken  bool
}

func (m *paper) random() (api.Random, api.Errno) {
	n := m.src.next()
	if n.panics {
		return api.Random{}, api.ErrArg
	}
	return n.random, n.errno
}

func (m *paper) ask(session api.Hash) (api.Message, api.Errno) {
	for _, a := range m.asks {
		if a.session != session {
			continue
		}
		if m.s.Has(a.pair.Hiding, a.pair.Binding) != api.OK {
			return api.Message{}, api.ErrUsed
		}
		return api.Message{Kind: api.KindCommit, Session: session, From: m.key.ID, Pair: a.pair}, api.OK
	}
	if m.broken {
		return api.Message{}, api.ErrDown
	}
	if m.s.Len() >= 1024 {
		return api.Message{}, api.ErrFull
	}
	hiding, errno := m.random()
	if errno != api.OK {
		return api.Message{}, errno
	}
	binding, errno := m.random()
	if errno != api.OK {
		return api.Message{}, errno
	}
	nonces, pair, errno := frost.Commit(m.key.ID, m.key.Secret, hiding, binding)
	if errno != api.OK {
		return api.Message{}, errno
	}
	if _, errno = m.s.Put(nonces); errno != api.OK {
		m.broken = m.broken || errno == api.ErrDown
		return api.Message{}, errno
	}
	m.asks = append(m.asks, answered{session, pair})
	return api.Message{Kind: api.KindCommit, Session: session, From: m.key.ID, Pair: pair}, api.OK
}

// refusal: why a list and a text are not signed, but for the disk; and the pair that the list names.
func (m *paper) refusal(list []api.Commitment, text []byte) (api.Commitment, api.Errno) {
	if len(text) > longest {
		return api.Commitment{}, api.ErrLong
	}
	if errno := frost.CheckList(list); errno != api.OK {
		return api.Commitment{}, errno
	}
	if len(list) < m.key.Threshold {
		return api.Commitment{}, api.ErrCount
	}
	var own api.Commitment
	for _, c := range list {
		if c.ID == m.key.ID {
			own = c
		}
	}
	if own.ID == 0 {
		return api.Commitment{}, api.ErrMissing
	}
	if errno := m.s.Has(own.Hiding, own.Binding); errno != api.OK {
		return api.Commitment{}, errno
	}
	if m.guard == nil {
		return own, api.OK
	}
	m.guarded++
	return own, m.guard(bytes.Clone(text))
}

func (m *paper) sign(session api.Hash, list []api.Commitment, text []byte) (api.Message, api.Errno) {
	own, errno := m.refusal(list, text)
	if errno != api.OK {
		return api.Message{}, errno
	}
	nonces, errno := m.s.Take(own.Hiding, own.Binding)
	if errno != api.OK {
		m.broken = m.broken || errno == api.ErrDown
		return api.Message{}, errno
	}
	share, errno := frost.Sign(m.key, nonces, list, text)
	return api.Message{Kind: api.KindShare, Session: session, From: m.key.ID, Pair: own, Bind: bindOf(list, text), Share: share.Value}, errno
}

func (m *paper) handle(a api.Message) (api.Message, api.Errno) {
	switch {
	case a.From == 0 && a.To == m.key.ID && a.Kind == api.KindAsk:
		return m.ask(a.Session)
	case a.From == 0 && a.To == m.key.ID && a.Kind == api.KindPackage:
		return m.sign(a.Session, a.List, a.Text)
	}
	return api.Message{}, api.ErrKind
}

func (m *paper) pairs() []api.Commitment {
	out := m.s.Pairs()
	for i := range out {
		out[i].ID = m.key.ID
	}
	return out
}

// bindOf is what a share for a list and a text bears.
func bindOf(list []api.Commitment, text []byte) api.Hash {
	said := binary.LittleEndian.AppendUint64([]byte("RIME-BIND-v1"), uint64(len(list)))
	for _, c := range list {
		said = slices.Concat(said, []byte{byte(c.ID)}, make([]byte, 31), c.Hiding[:], c.Binding[:])
	}
	digest := sha512.Sum512(append(said, text...))
	return api.Hash(digest[:32])
}

// twin is a participant on its disk, with the paper of it.
type twin struct {
	p       *participant.Participant
	d       *store.Disk
	src     *script
	guarded *int
	m       *paper
}

// born: a new participant over a disk with this file, all of it synced.
func born(t *testing.T, key api.KeyShare, file []byte, turns []turn) twin {
	t.Helper()
	w := twin{d: store.NewDisk(), m: &paper{d: store.NewDisk()}}
	w.d.Replace(file)
	w.m.d.Replace(file)
	w, ok := w.reborn(t, key, turns)
	if !ok {
		t.Fatal("New is refused")
	}
	return w
}

// reborn: another life on the same disk; false, if New is refused.
func (w twin) reborn(t *testing.T, key api.KeyShare, turns []turn) (twin, bool) {
	t.Helper()
	next := twin{d: w.d, src: &script{turns: turns}, guarded: new(int), m: &paper{key: key, d: w.m.d, src: &script{turns: turns}}}
	var errno api.Errno
	next.m.s, errno = store.Open(w.m.d)
	var err error
	next.p, err = participant.New(key, w.d, next.src)
	wantRefusal(t, "New", err, api.Hash{}, errno)
	wantSameDisk(t, "New", w.d, w.m.d)
	if errno != api.OK {
		if next.p != nil {
			t.Fatal("New: a participant beside an error")
		}
		return w, false
	}
	next.wantBehind(t, "New")
	return next, true
}

func wantSameDisk(t *testing.T, call string, got, expected *store.Disk) {
	t.Helper()
	if !bytes.Equal(got.Bytes(), expected.Bytes()) || got.Synced() != expected.Synced() || got.Off() != expected.Off() {
		t.Fatalf("behind %s: %d bytes, %d synced, off %v; not %d, %d, %v", call, len(got.Bytes()), got.Synced(), got.Off(), len(expected.Bytes()), expected.Synced(), expected.Off())
	}
}

// wantBehind: everything that is to be seen is as it should be.
func (w twin) wantBehind(t *testing.T, call string) {
	t.Helper()
	wantSameDisk(t, call, w.d, w.m.d)
	expected := api.SignerLook{ID: w.m.key.ID, Pairs: w.m.s.Len(), Used: w.m.s.Used(), Broken: w.m.broken}
	if got := w.p.Look(); got != expected {
		t.Fatalf("behind %s: Look: %v, not %v", call, got, expected)
	}
	if got := w.p.Pairs(); !slices.Equal(got, w.m.pairs()) {
		t.Fatalf("behind %s: Pairs: %x, not %x", call, got, w.m.pairs())
	}
	if w.src.asked != w.m.src.asked {
		t.Fatalf("behind %s: the source was asked %d times, not %d", call, w.src.asked, w.m.src.asked)
	}
	if *w.guarded != w.m.guarded {
		t.Fatalf("behind %s: the guard was asked %d times, not %d", call, *w.guarded, w.m.guarded)
	}
	wantSameDisk(t, call+" and a look", w.d, w.m.d)
}

func (w twin) want(t *testing.T, call string, m api.Message, err error, session api.Hash, expected api.Message, errno api.Errno) {
	t.Helper()
	wantRefusal(t, call, err, session, errno)
	if !reflect.DeepEqual(m, expected) {
		t.Fatalf("%s: %x, not %x", call, m, expected)
	}
	w.wantBehind(t, call)
}

func (w twin) ask(t *testing.T, session api.Hash) (api.Message, api.Errno) {
	t.Helper()
	expected, errno := w.m.ask(session)
	m, err := w.p.Ask(session)
	w.want(t, "Ask", m, err, session, expected, errno)
	return m, errno
}

// mustAsk: the pair that Ask answers.
func (w twin) mustAsk(t *testing.T, session api.Hash) api.Commitment {
	t.Helper()
	m, errno := w.ask(t, session)
	wantErrno(t, "Ask", errno, api.OK)
	return m.Pair
}

func (w twin) sign(t *testing.T, session api.Hash, list []api.Commitment, text []byte) (api.Message, api.Errno) {
	t.Helper()
	expected, errno := w.m.sign(session, list, text)
	m, err := w.p.Sign(session, list, text)
	w.want(t, "Sign", m, err, session, expected, errno)
	w.wantHolds(t, m, list, text)
	return m, errno
}

func (w twin) handle(t *testing.T, a api.Message) (api.Message, api.Errno) {
	t.Helper()
	expected, errno := w.m.handle(a)
	m, err := w.p.Handle(a)
	w.want(t, "Handle", m, err, a.Session, expected, errno)
	w.wantHolds(t, m, a.List, a.Text)
	return m, errno
}

// wantHolds: of a share, that it passes the check, and that its pair is used on the disk.
func (w twin) wantHolds(t *testing.T, m api.Message, list []api.Commitment, text []byte) {
	t.Helper()
	if m.Kind != api.KindShare {
		return
	}
	key := w.m.key
	errno := frost.Check(api.PublicShare{ID: key.ID, Public: key.Public}, api.SigShare{ID: m.From, Value: m.Share}, key.Group, list, text)
	wantErrno(t, "Check of a share", errno, api.OK)
	wantUsedOnDisk(t, w.d, m.Pair)
}

// wantUsedOnDisk: whatever a crash takes.
func wantUsedOnDisk(t *testing.T, d *store.Disk, pair api.Commitment) {
	t.Helper()
	left := store.NewDisk()
	left.Replace(d.Bytes()[:d.Synced()])
	s, errno := store.Open(left)
	wantErrno(t, "Open of what is synced", errno, api.OK)
	wantErrno(t, "Has of a pair whose share went out", s.Has(pair.Hiding, pair.Binding), api.ErrUsed)
}

func (w twin) setGuard(f func([]byte) api.Errno) {
	w.m.guard = f
	if f == nil {
		w.p.SetGuard(nil)
		return
	}
	w.p.SetGuard(func(text []byte) api.Errno {
		*w.guarded++
		errno := f(text)
		spoil(text, 0xee)
		return errno
	})
}

func (w twin) fuse(n int) {
	w.d.Fuse(n)
	w.m.d.Fuse(n)
}

func (w twin) crash(keep int) {
	w.d.Crash(keep)
	w.m.d.Crash(keep)
}

// rising is a list by rising identifiers.
func rising(list ...api.Commitment) []api.Commitment {
	slices.SortFunc(list, func(a, b api.Commitment) int { return a.ID - b.ID })
	return list
}

// wantRefusal: an error is the refusal that it should be, or there is none.
func wantRefusal(t *testing.T, call string, err error, session api.Hash, errno api.Errno) {
	t.Helper()
	if errno == api.OK {
		if err != nil {
			t.Fatalf("%s: %v", call, err)
		}
		return
	}
	r, ok := err.(*participant.Refusal)
	if !ok || r == nil || *r != (participant.Refusal{Session: session, Code: errno}) {
		t.Fatalf("%s: %v, not %v of %x", call, err, errno, session)
	}
	if !errors.Is(err, errno) || err.Error() != errno.Error() || errors.Unwrap(err) != error(errno) {
		t.Fatalf("%s: its error is not that of %v: %v", call, errno, err)
	}
}

func wantErrno(t *testing.T, call string, got, expected api.Errno) {
	t.Helper()
	if got != expected {
		t.Fatalf("%s: %v, not %v", call, got, expected)
	}
}

// spoil overwrites all of a list's room.
func spoil[T any](l []T, by T) {
	l = l[:cap(l)]
	for i := range l {
		l[i] = by
	}
}
