package participant_test

import (
	"slices"
	"sync"
	"testing"

	"rime/api"
	"rime/drbg"
	"rime/frost"
	"rime/participant"
	"rime/store"
)

// wantAsk: what Ask answers, whatever the paper says.
func wantAsk(t *testing.T, w twin, session api.Hash, expected api.Errno) api.Message {
	t.Helper()
	m, errno := w.ask(t, session)
	wantErrno(t, "Ask", errno, expected)
	if errno != api.OK {
		wantNoMessage(t, "Ask", m)
	}
	return m
}

func TestAsk(t *testing.T) {
	r := drawn(20)
	shares, _ := dealt(t, r, 2, 3, 200)
	for _, key := range shares {
		randoms := drawnRandoms(r, 12)
		w := born(t, key, nil, turnsOf(randoms...))
		for i := range 6 {
			session := api.Hash{byte(i), 31: 1}
			m := wantAsk(t, w, session, api.OK)
			_, pair, errno := frost.Commit(key.ID, key.Secret, randoms[2*i], randoms[2*i+1])
			wantErrno(t, "Commit", errno, api.OK)
			if m.Kind != api.KindCommit || m.Session != session || m.From != key.ID || m.To != 0 || m.Pair != pair {
				t.Fatalf("Ask: %v, not %x", m, pair)
			}
			if w.d.Synced() != 73*(i+1) {
				t.Fatalf("behind %d asks %d bytes are synced", i+1, w.d.Synced())
			}
		}
		wantAsk(t, w, api.Hash{7}, api.ErrEnd)
	}
}

// Hiding is of the first Random, binding of the second.
func TestRandomsHaveAnOrder(t *testing.T) {
	r := drawn(21)
	shares, _ := dealt(t, r, 2, 1, 2)
	a, b := drawnRandoms(r, 1)[0], drawnRandoms(r, 1)[0]
	first := born(t, shares[0], nil, turnsOf(a, b)).mustAsk(t, api.Hash{})
	second := born(t, shares[0], nil, turnsOf(b, a)).mustAsk(t, api.Hash{})
	if first.Hiding != second.Binding || first.Binding != second.Hiding || first.Hiding == first.Binding {
		t.Fatalf("%x and %x", first, second)
	}
}

// The same session: the same pair, as long as it is there, whatever else stands in the way of a new one.
func TestAskAgain(t *testing.T) {
	r := drawn(22)
	shares, _ := dealt(t, r, 2, 1, 2)
	w := born(t, shares[0], nil, turnsOf(drawnRandoms(r, 6)...))
	a, b := w.mustAsk(t, api.Hash{1}), w.mustAsk(t, api.Hash{2})
	if a == b {
		t.Fatal("one pair for two sessions")
	}
	for range 3 {
		if m := wantAsk(t, w, api.Hash{1}, api.OK); m.Pair != a {
			t.Fatalf("asked again: %x, not %x", m.Pair, a)
		}
		if m := wantAsk(t, w, api.Hash{2}, api.OK); m.Pair != b {
			t.Fatalf("asked again: %x, not %x", m.Pair, b)
		}
	}
	_, errno := w.sign(t, api.Hash{9}, []api.Commitment{a, commitmentOf(r, 2)}, nil) // of another session: the pair is gone all the same
	wantErrno(t, "Sign", errno, api.OK)
	for range 2 {
		wantAsk(t, w, api.Hash{1}, api.ErrUsed)
		wantAsk(t, w, api.Hash{2}, api.OK)
	}
	w.mustAsk(t, api.Hash{9})
	wantAsk(t, w, api.Hash{10}, api.ErrEnd)
	w.fuse(0)
	_, errno = w.sign(t, api.Hash{2}, []api.Commitment{b, commitmentOf(r, 2)}, nil)
	wantErrno(t, "Sign", errno, api.ErrDown)
	for range 2 { // the store is broken
		wantAsk(t, w, api.Hash{1}, api.ErrUsed)
		wantAsk(t, w, api.Hash{2}, api.OK)
		wantAsk(t, w, api.Hash{10}, api.ErrDown)
	}
}

// Sessions that differ in one bit alone are others.
func TestSessionsAreAllTheirBytes(t *testing.T) {
	r := drawn(23)
	shares, _ := dealt(t, r, 2, 1, 2)
	w := born(t, shares[0], nil, turnsOf(drawnRandoms(r, 2*257)...))
	seen := map[api.Commitment]int{w.mustAsk(t, api.Hash{}): 0}
	for bit := range 256 {
		var session api.Hash
		session[bit/8] = 1 << (bit % 8)
		m, err := w.p.Ask(session)
		wantRefusal(t, "Ask", err, session, api.OK)
		seen[m.Pair] = bit
	}
	if len(seen) != 257 || w.src.asked != 514 {
		t.Fatalf("%d pairs, %d Randoms", len(seen), w.src.asked)
	}
}

// What was asked is forgotten with the life; the pairs are not.
func TestAskInAnotherLife(t *testing.T) {
	r := drawn(24)
	shares, _ := dealt(t, r, 2, 1, 2)
	w := born(t, shares[0], nil, turnsOf(drawnRandoms(r, 4)...))
	a, b := w.mustAsk(t, api.Hash{1}), w.mustAsk(t, api.Hash{2})
	_, errno := w.sign(t, api.Hash{2}, []api.Commitment{b, commitmentOf(r, 2)}, nil)
	wantErrno(t, "Sign", errno, api.OK)
	w.crash(0)
	w, _ = w.reborn(t, shares[0], turnsOf(drawnRandoms(r, 4)...))
	for i := range 2 {
		if m := wantAsk(t, w, api.Hash{byte(i + 1)}, api.OK); m.Pair == a || m.Pair == b {
			t.Fatal("the pair of another life")
		}
	}
	_, errno = w.sign(t, api.Hash{7}, []api.Commitment{a, commitmentOf(r, 2)}, nil)
	wantErrno(t, "Sign with the pair of another life", errno, api.OK)
	_, errno = w.sign(t, api.Hash{7}, []api.Commitment{b, commitmentOf(r, 2)}, nil)
	wantErrno(t, "Sign with the used pair of another life", errno, api.ErrUsed)
}

// An error that the source answers is the Code, whatever it is; a source that panics answers ErrArg.
func TestSourcesThatFail(t *testing.T) {
	r := drawn(25)
	shares, _ := dealt(t, r, 2, 1, 2)
	fine := turnsOf(drawnRandoms(r, 4)...)
	for _, wrong := range []turn{{errno: api.ErrEnd}, {errno: api.ErrReseed}, {errno: api.ErrMade}, {errno: -7}, {errno: 1 << 40}, {errno: api.ErrUsed}, {random: fine[0].random, errno: api.ErrEnd}, {panics: true}} {
		expected := wrong.errno
		if wrong.panics {
			expected = api.ErrArg
		}
		w := born(t, shares[0], nil, []turn{wrong, fine[0], wrong, fine[1], fine[2]})
		for range 2 { // at the first Random, at the second
			wantAsk(t, w, api.Hash{1}, expected)
		}
		if m := wantAsk(t, w, api.Hash{1}, api.OK); w.src.asked != 5 || m.Pair.ID != 1 {
			t.Fatalf("%d Randoms, %v", w.src.asked, m)
		}
		_, pair, _ := frost.Commit(1, shares[0].Secret, fine[1].random, fine[2].random)
		if got := w.p.Pairs(); !slices.Equal(got, []api.Commitment{pair}) {
			t.Fatalf("Pairs: %x, not %x", got, pair)
		}
	}
}

// The sources of layer 11, and none.
func TestSources(t *testing.T) {
	shares, _ := dealt(t, drawn(26), 2, 1, 2)
	start := func(src drbg.Source) *participant.Participant {
		p, err := participant.New(shares[0], store.NewDisk(), src)
		wantRefusal(t, "New", err, api.Hash{}, api.OK)
		return p
	}
	for _, src := range []drbg.Source{(*drbg.Tape)(nil), (*drbg.Generator)(nil), &drbg.Tape{}, &drbg.Generator{}} {
		_, err := start(src).Ask(api.Hash{1})
		wantRefusal(t, "Ask", err, api.Hash{1}, api.ErrMade)
	}
	_, err := start((*script)(nil)).Ask(api.Hash{1})
	wantRefusal(t, "Ask of a source that is a nil pointer", err, api.Hash{1}, api.ErrArg)
	g, errno := drbg.New(make([]byte, 32), nil, nil)
	wantErrno(t, "New generator", errno, api.OK)
	same, _ := drbg.New(make([]byte, 32), nil, nil)
	p := start(g)
	for i := range 3 {
		a, _ := same.Random()
		b, _ := same.Random()
		_, pair, _ := frost.Commit(1, shares[0].Secret, a, b)
		m, err := p.Ask(api.Hash{byte(i)})
		wantRefusal(t, "Ask", err, api.Hash{byte(i)}, api.OK)
		if m.Pair != pair {
			t.Fatalf("Ask: %x, not %x", m.Pair, pair)
		}
	}
	for g.Left() > 1 {
		g.Draw(0, nil)
	}
	_, err = p.Ask(api.Hash{9})
	wantRefusal(t, "Ask at the generator's end", err, api.Hash{9}, api.ErrReseed)
}

// A source that repeats itself: a pair that is there or was used comes in no more.
func TestSourcesThatRepeat(t *testing.T) {
	r := drawn(27)
	shares, _ := dealt(t, r, 2, 1, 2)
	l := drawnRandoms(r, 2)
	w := born(t, shares[0], nil, turnsOf(l[0], l[1], l[0], l[1], l[0], l[1], l[1], l[0], l[0], l[0]))
	pair := w.mustAsk(t, api.Hash{1})
	wantAsk(t, w, api.Hash{2}, api.ErrUsed)
	_, errno := w.sign(t, api.Hash{1}, []api.Commitment{pair, commitmentOf(r, 2)}, nil)
	wantErrno(t, "Sign", errno, api.OK)
	wantAsk(t, w, api.Hash{2}, api.ErrUsed)
	w.mustAsk(t, api.Hash{2}) // the same two the other way round
	w.mustAsk(t, api.Hash{3}) // one of them twice
	w, _ = w.reborn(t, shares[0], turnsOf(l[0], l[1], l[1], l[0], l[0], l[0], l[1], l[1]))
	for range 3 {
		wantAsk(t, w, api.Hash{1}, api.ErrUsed)
	}
	w.mustAsk(t, api.Hash{1})
}

var full = sync.OnceValue(func() []byte {
	d := store.NewDisk()
	s, _ := store.Open(d)
	for i := range 1024 {
		s.Put(api.Nonces{Hiding: api.Scalar{byte(i), byte(i >> 8), 1}, Binding: api.Scalar{1}})
	}
	return d.Bytes()
})

// A full store: nothing is drawn; each use makes room for one.
func TestFull(t *testing.T) {
	r := drawn(28)
	shares, _ := dealt(t, r, 2, 1, 2)
	almost := full()[:73*1022]
	w := born(t, shares[0], almost, turnsOf(drawnRandoms(r, 8)...))
	w.mustAsk(t, api.Hash{1})
	pair := w.mustAsk(t, api.Hash{2})
	for range 2 {
		wantAsk(t, w, api.Hash{3}, api.ErrFull)
		wantAsk(t, w, api.Hash{1}, api.OK)
	}
	if w.src.asked != 4 || w.p.Look() != (api.SignerLook{ID: 1, Pairs: 1024}) {
		t.Fatalf("%d Randoms, %v", w.src.asked, w.p.Look())
	}
	_, errno := w.sign(t, api.Hash{2}, []api.Commitment{pair, commitmentOf(r, 2)}, nil)
	wantErrno(t, "Sign", errno, api.OK)
	w.mustAsk(t, api.Hash{3})
	wantAsk(t, w, api.Hash{4}, api.ErrFull)
	wantAsk(t, w, api.Hash{2}, api.ErrUsed)
	if w.p.Look() != (api.SignerLook{ID: 1, Pairs: 1024, Used: 1}) {
		t.Fatalf("Look: %v", w.p.Look())
	}
}

// P4: of several errors Ask answers that which its chapter names first.
func TestOrderOfAsk(t *testing.T) {
	r := drawn(29)
	shares, _ := dealt(t, r, 2, 1, 2)
	l := drawnRandoms(r, 4)
	there, _, _ := frost.Commit(1, shares[0].Secret, l[0], l[1])
	base := store.NewDisk()
	s, _ := store.Open(base)
	s.Put(there)
	for mask := range 1 << 6 {
		has := func(bit int) bool { return mask>>bit&1 == 1 }
		broken, isFull, first, second, repeats, fused := has(0), has(1), has(2), has(3), has(4), has(5)
		turns := turnsOf(l[2:]...)
		if repeats {
			turns = turnsOf(l[:2]...)
		}
		if first {
			turns[0] = turn{errno: 301}
		}
		if second {
			turns[1] = turn{errno: 302}
		}
		file := base.Bytes()
		if isFull {
			file = full()
		}
		if isFull && mask>>2 != 0 && mask>>2 != 1 && mask>>2 != 15 { // to open a full store takes its time: a few will do
			continue
		}
		w := born(t, shares[0], file, turns)
		if broken {
			w.fuse(0)
			other := w.p.Pairs()[0]
			_, errno := w.sign(t, api.Hash{}, []api.Commitment{other, commitmentOf(r, 2)}, nil)
			wantErrno(t, "Sign that breaks", errno, api.ErrDown)
		}
		if fused {
			w.fuse(0)
		}
		expected := api.OK
		for _, c := range []struct {
			is    bool
			errno api.Errno
		}{{fused, api.ErrDown}, {repeats, api.ErrUsed}, {second, 302}, {first, 301}, {isFull, api.ErrFull}, {broken, api.ErrDown}} {
			if c.is {
				expected = c.errno
			}
		}
		wantAsk(t, w, api.Hash{5}, expected)
	}
}

// A Put that fails at either of its writes breaks the store; what came onto the disk is there in the next life.
func TestAskThatBreaks(t *testing.T) {
	r := drawn(30)
	shares, _ := dealt(t, r, 2, 1, 2)
	l := turnsOf(drawnRandoms(r, 8)...)
	for fuse := range 2 {
		for _, keep := range []int{-1, 0, 1, 72, 73, 1000} {
			w := born(t, shares[0], nil, l)
			first := w.mustAsk(t, api.Hash{1})
			w.fuse(fuse)
			for range 2 {
				wantAsk(t, w, api.Hash{2}, api.ErrDown)
				wantAsk(t, w, api.Hash{1}, api.OK)
			}
			if w.src.asked != 4 || w.p.Look() != (api.SignerLook{ID: 1, Pairs: 1, Broken: true}) {
				t.Fatalf("%d Randoms, %v", w.src.asked, w.p.Look())
			}
			w.crash(keep)
			wantAsk(t, w, api.Hash{2}, api.ErrDown) // for ever in this life
			w, _ = w.reborn(t, shares[0], l[2:])
			came := fuse == 1 && keep >= 73
			_, errno := w.ask(t, api.Hash{2})
			if came != (errno == api.ErrUsed) || came != (w.p.Look().Pairs == 2 && w.src.asked == 2 && errno != api.OK) {
				t.Fatalf("a fuse of %d, %d bytes kept: %v, %v", fuse, keep, errno, w.p.Look())
			}
			if got := w.p.Pairs()[0]; got != first {
				t.Fatalf("the first pair is %x, not %x", got, first)
			}
		}
	}
}
