package participant_test

import (
	"bytes"
	"math/rand"
	"reflect"
	"slices"
	"sync"
	"testing"

	"rime/api"
	"rime/edwards"
	"rime/participant"
	"rime/store"
)

// scene is a twin in the midst of drawn calls: what it was asked, what it told in whatever life, what others' commitments there are.
type scene struct {
	r      *rand.Rand
	w      twin
	key    api.KeyShare
	told   []api.Commitment
	others []api.Commitment
	shared map[api.Commitment]int
}

func newScene(t *testing.T, r *rand.Rand) *scene {
	t.Helper()
	shares, _ := dealt(t, r, 2+r.Intn(2), 1, 3, 9, 255)
	s := &scene{r: r, key: shares[r.Intn(4)], shared: map[api.Commitment]int{}}
	for _, id := range []int{1, 2, 3, 9, 254, 255} {
		s.others = append(s.others, commitmentOf(r, id))
	}
	s.w = born(t, s.key, nil, s.turns())
	return s
}

// turns are mostly fine; some repeat what was there.
func (s *scene) turns() []turn {
	var out []turn
	for range s.r.Intn(30) {
		n := turn{random: api.Random{byte(s.r.Intn(5)), 1}}
		if s.r.Intn(2) == 0 {
			n.random = drawnRandoms(s.r, 1)[0]
		}
		if s.r.Intn(12) == 0 {
			n = turn{errno: api.Errno(1 + s.r.Intn(300))}
		}
		n.panics = s.r.Intn(40) == 0
		out = append(out, n)
	}
	return out
}

func (s *scene) session() api.Hash { return api.Hash{byte(s.r.Intn(8))} }

func (s *scene) text() []byte {
	if s.r.Intn(30) == 0 {
		return make([]byte, longest+s.r.Intn(3))
	}
	return []byte([]string{"", "a", "hi", "hello"}[s.r.Intn(4)])
}

// list is one that mostly has the own pair in it, and mostly may be.
func (s *scene) list() []api.Commitment {
	var out []api.Commitment
	for _, c := range s.others {
		if c.ID != s.key.ID && s.r.Intn(2) == 0 {
			out = append(out, c)
		}
	}
	if len(s.told) > 0 && s.r.Intn(10) > 0 {
		out = append(out, s.told[s.r.Intn(len(s.told))])
	} else if s.r.Intn(2) == 0 {
		out = append(out, commitmentOf(s.r, s.key.ID))
	}
	out = rising(out...)
	if len(out) > 0 && s.r.Intn(5) == 0 {
		s.spoil(out)
	}
	return out
}

func (s *scene) spoil(list []api.Commitment) {
	at, other := s.r.Intn(len(list)), s.r.Intn(len(list))
	switch s.r.Intn(5) {
	case 0:
		list[at], list[other] = list[other], list[at]
	case 1:
		list[at] = list[other]
	case 2:
		list[at].ID = wrongIDs()[s.r.Intn(len(wrongIDs()))]
	case 3:
		list[at].Hiding = wrongElements(s.r)[s.r.Intn(12)]
	case 4:
		list[at].Hiding, list[at].Binding = list[at].Binding, list[at].Hiding
	}
}

func (s *scene) message() api.Message {
	m := api.Message{Kind: api.KindAsk, Session: s.session(), To: s.key.ID, List: s.list(), Text: s.text()}
	if s.r.Intn(2) == 0 {
		m.Kind = api.KindPackage
	}
	switch s.r.Intn(10) {
	case 0:
		m.Kind = api.Kind(s.r.Intn(9) - 1)
	case 1:
		m.From = s.r.Intn(256)
	case 2:
		m.To = s.r.Intn(256)
	case 3:
		m.Pair, m.Code, m.Bind, m.Share = s.others[0], api.ErrArg, api.Hash{1}, api.Scalar{1}
	}
	return m
}

// note what went out: P15.2 is that no pair's share goes out twice.
func (s *scene) note(t *testing.T, m api.Message) {
	t.Helper()
	switch m.Kind {
	case api.KindCommit:
		if !slices.Contains(s.told, m.Pair) {
			s.told = append(s.told, m.Pair)
		}
	case api.KindShare:
		s.shared[m.Pair]++
		if s.shared[m.Pair] > 1 {
			t.Fatalf("two shares of %x", m.Pair)
		}
	}
}

func (s *scene) setGuard() {
	s.w.setGuard([]func([]byte) api.Errno{
		nil,
		func([]byte) api.Errno { return api.OK },
		func([]byte) api.Errno { return api.ErrDenied },
		func(text []byte) api.Errno {
			if len(text) > 1 && text[0] == 'h' {
				return api.OK
			}
			return api.Errno(len(text) + 240)
		},
	}[s.r.Intn(4)])
}

// live: another life, mostly behind a crash. (What a store over a disk that is off has in its tail, a crash takes from under it: of that the document says nothing, so behind each crash that takes something there is a new life.)
func (s *scene) live(t *testing.T) {
	t.Helper()
	if s.r.Intn(4) > 0 {
		s.w.crash(s.r.Intn(160) - 5)
	}
	if next, ok := s.w.reborn(t, s.key, s.turns()); ok {
		s.w = next
	}
	for _, c := range s.w.p.Pairs() {
		if !slices.Contains(s.told, c) {
			s.told = append(s.told, c)
		}
	}
}

func (s *scene) step(t *testing.T) {
	t.Helper()
	var m api.Message
	switch s.r.Intn(16) {
	case 0, 1, 2, 3:
		m, _ = s.w.ask(t, s.session())
	case 4, 5, 6, 7, 8, 9:
		m, _ = s.w.sign(t, s.session(), s.list(), s.text())
	case 10, 11, 12:
		m, _ = s.w.handle(t, s.message())
	case 13:
		s.setGuard()
	case 14:
		s.w.fuse(s.r.Intn(14) - 2)
	case 15:
		s.live(t)
	}
	s.note(t, m)
}

// P15.1, P15.2 and P15.4, over drawn scripts: the paper answers the same, call by call.
func TestDrawnCalls(t *testing.T) {
	var group sync.WaitGroup
	for seed := range int64(8) {
		group.Go(func() {
			r := drawn(60 + seed)
			for range 15 {
				s := newScene(t, r)
				for range 80 {
					s.step(t)
					if t.Failed() {
						return
					}
				}
			}
		})
	}
	group.Wait()
}

// P15.2: each call is cut at each write, with each number of bytes kept; whatever is asked behind it, by whatever source, a pair's share goes out at most once.
func TestOneShareAPair(t *testing.T) {
	r := drawn(70)
	shares, _ := dealt(t, r, 2, 4, 5)
	turns := turnsOf(drawnRandoms(r, 4)...)
	other := commitmentOf(r, 5)
	for fuse := range 7 {
		for _, keep := range []int{0, 1, 64, 72, 73, 74, 146, 147} {
			w := born(t, shares[0], nil, turns)
			told := map[api.Commitment]int{}
			shared := map[api.Commitment]int{}
			w.fuse(fuse)
			for life := range 4 {
				for i := range byte(3) {
					if m, errno := w.ask(t, api.Hash{i}); errno == api.OK {
						told[m.Pair] = life
					}
					for _, pair := range slices.Concat(w.p.Pairs(), keysOf(told)) {
						if m, errno := w.sign(t, api.Hash{i}, []api.Commitment{pair, other}, []byte{i, byte(life)}); errno == api.OK {
							shared[m.Pair]++
						}
					}
				}
				w.crash(keep)
				w, _ = w.reborn(t, shares[0], turns) // whose source begins anew
				if life == 1 {
					w.fuse(fuse)
				}
			}
			for pair, times := range shared {
				if times != 1 {
					t.Fatalf("a fuse of %d, %d bytes kept: %d shares of %x", fuse, keep, times, pair)
				}
			}
			if len(shared) == 0 {
				t.Fatalf("a fuse of %d, %d bytes kept: no share", fuse, keep)
			}
		}
	}
}

// keysOf are a map's keys, by their bytes.
func keysOf(m map[api.Commitment]int) []api.Commitment {
	var out []api.Commitment
	for c := range m {
		out = append(out, c)
	}
	slices.SortFunc(out, func(a, b api.Commitment) int { return bytes.Compare(a.Hiding[:], b.Hiding[:]) })
	return out
}

// P15.3: of two participants one is asked what is refused, ahead of each call of both; they answer the same, on the same disks.
func TestRefusedChangesNothing(t *testing.T) {
	r := drawn(71)
	shares, _ := dealt(t, r, 2, 4, 5)
	turns := turnsOf(drawnRandoms(r, 20)...)
	calm, bothered := born(t, shares[0], nil, turns), born(t, shares[0], nil, turns)
	other := commitmentOf(r, 5)
	var told []api.Commitment
	bother := func() {
		t.Helper()
		refused := func(session api.Hash, list []api.Commitment, text []byte) {
			t.Helper()
			for range 2 {
				if _, errno := bothered.sign(t, session, list, text); errno == api.OK {
					t.Fatal("not refused")
				}
			}
		}
		refused(api.Hash{1}, nil, nil)
		refused(api.Hash{2}, []api.Commitment{other, other}, nil)
		refused(api.Hash{3}, []api.Commitment{commitmentOf(r, 4), other}, nil)
		if pairs := bothered.p.Pairs(); len(pairs) > 0 {
			own := pairs[r.Intn(len(pairs))]
			refused(api.Hash{1}, []api.Commitment{own}, nil)
			refused(api.Hash{1}, []api.Commitment{own, other}, make([]byte, longest+1))
			bothered.setGuard(func([]byte) api.Errno { return api.ErrDenied })
			refused(api.Hash{1}, []api.Commitment{own, other}, nil)
			bothered.setGuard(nil)
		}
		for _, m := range []api.Message{{}, {Kind: api.KindAsk, Session: api.Hash{200}, To: 5}, {Kind: api.KindAsk, Session: api.Hash{200}, From: 4, To: 4}, {Kind: api.KindCommit, To: 4}} {
			wantHandle(t, bothered, m, api.ErrKind)
		}
	}
	for i := range byte(40) {
		bother()
		a, errno := calm.ask(t, api.Hash{i % 12})
		b, same := bothered.ask(t, api.Hash{i % 12})
		if !reflect.DeepEqual(a, b) || errno != same {
			t.Fatalf("Ask: %v %v, not %v %v", b, same, a, errno)
		}
		if errno == api.OK {
			told = append(told, a.Pair)
		}
		bother()
		list, text := []api.Commitment{told[r.Intn(len(told))], other}, drawnBytes(r, 5)
		a, errno = calm.sign(t, api.Hash{i}, list, text)
		b, same = bothered.sign(t, api.Hash{i}, list, text)
		if !reflect.DeepEqual(a, b) || errno != same {
			t.Fatalf("Sign: %v %v, not %v %v", b, same, a, errno)
		}
		wantSameDisk(t, "both", bothered.d, calm.d)
	}
}

// Two participants on two disks, with one key, share nothing.
func TestSideBySide(t *testing.T) {
	r := drawn(72)
	shares, _ := dealt(t, r, 2, 4, 5)
	var all []twin
	for range 4 {
		all = append(all, born(t, shares[0], nil, turnsOf(drawnRandoms(r, 40)...)))
	}
	for i := range byte(60) {
		w := all[r.Intn(len(all))]
		w.ask(t, api.Hash{i / 4})
		for _, pair := range all[r.Intn(len(all))].p.Pairs() {
			if r.Intn(4) == 0 {
				w.sign(t, api.Hash{i}, []api.Commitment{pair, commitmentOf(r, 5)}, []byte{i})
			}
		}
		for _, w := range all {
			w.wantBehind(t, "another's call")
		}
	}
}

// P2: what is handed in stays as it is, spare room too, and is not kept.
func TestArgumentsStayAsTheyAre(t *testing.T) {
	r := drawn(73)
	shares, _ := dealt(t, r, 2, 4, 5)
	w := born(t, shares[0], nil, turnsOf(drawnRandoms(r, 40)...))
	for i := range byte(10) {
		own := w.mustAsk(t, api.Hash{i})
		list := append(make([]api.Commitment, 0, 8), own, commitmentOf(r, 5))
		text := append(make([]byte, 0, 64), "a text that is handed in"...)
		room, letters := slices.Clone(list[:8]), bytes.Clone(text[:64])
		w.setGuard(func(shown []byte) api.Errno {
			spoil(shown, 'x')
			return api.Errno(i % 2)
		})
		m := api.Message{Kind: api.KindPackage, Session: api.Hash{i}, To: 4, List: list, Text: text}
		if i%4 < 2 {
			w.handle(t, m)
		} else {
			w.sign(t, api.Hash{i}, list, text)
		}
		if !slices.Equal(list[:8], room) || !bytes.Equal(text[:64], letters) {
			t.Fatalf("the arguments are %x %q", list[:8], text[:64])
		}
		spoil(list, api.Commitment{ID: 9})
		spoil(text, 'z')
		w.wantBehind(t, "spoilt arguments")
	}
}

// P2: an answer is new memory, and so is what the guard is shown.
func TestAnswersAreNewMemory(t *testing.T) {
	r := drawn(74)
	shares, _ := dealt(t, r, 2, 4, 5)
	w := born(t, shares[0], nil, turnsOf(drawnRandoms(r, 40)...))
	for i := range byte(6) {
		w.mustAsk(t, api.Hash{i})
		a, b := w.p.Pairs(), w.p.Pairs()
		kept := slices.Clone(b)
		spoil(a, api.Commitment{ID: 9})
		if !slices.Equal(b, kept) {
			t.Fatal("two answers of Pairs share memory")
		}
		spoil(b, api.Commitment{ID: 8})
		w.wantBehind(t, "spoilt answers")
	}
	var shown [][]byte
	keeps := func(text []byte) api.Errno {
		shown = append(shown, text)
		return api.ErrDenied
	}
	w.p.SetGuard(keeps)
	list := []api.Commitment{w.p.Pairs()[0], commitmentOf(r, 5)}
	text := []byte("the text")
	for range 2 {
		w.p.Sign(api.Hash{}, list, text)
	}
	spoil(text, 'x')
	if len(shown) != 2 || string(shown[0]) != "the text" || string(shown[1]) != "the text" {
		t.Fatalf("the guard was shown %q", shown)
	}
	spoil(shown[0], 'y')
	if string(shown[1]) != "the text" || string(text) != "xxxxxxxx" {
		t.Fatalf("what the guard was shown shares memory: %q %q", shown[1], text)
	}
}

// Nil and empty lists and texts are one.
func TestNilAndEmpty(t *testing.T) {
	r := drawn(75)
	shares, _ := dealt(t, r, 2, 4, 5)
	turns := turnsOf(drawnRandoms(r, 2)...)
	a, b := born(t, shares[0], nil, turns), born(t, shares[0], nil, turns)
	list := []api.Commitment{a.mustAsk(t, api.Hash{1}), commitmentOf(r, 5)}
	b.mustAsk(t, api.Hash{1})
	lengths := 0
	lets := func(text []byte) api.Errno { lengths += len(text); return api.OK }
	a.setGuard(lets)
	b.setGuard(lets)
	for _, empty := range [][]api.Commitment{nil, {}} {
		wantSign(t, a, empty, nil, api.ErrCount)
	}
	x, y := wantSign(t, a, list, nil, api.OK), wantSign(t, b, list, []byte{}, api.OK)
	if !reflect.DeepEqual(x, y) || lengths != 0 {
		t.Fatalf("%v and %v, %d", x, y, lengths)
	}
}

// The nonces of what an earlier life left, whoever laid it there, are signed with: New asks nothing of them.
func TestPairsOfTheStore(t *testing.T) {
	r := drawn(76)
	shares, _ := dealt(t, r, 2, 4, 5)
	d := store.NewDisk()
	s, errno := store.Open(d)
	wantErrno(t, "Open", errno, api.OK)
	var pairs []api.Commitment
	for range 5 {
		c, errno := s.Put(api.Nonces{Hiding: drawnScalar(r), Binding: drawnScalar(r)})
		wantErrno(t, "Put", errno, api.OK)
		c.ID = 4
		pairs = append(pairs, c)
	}
	s.Take(pairs[2].Hiding, pairs[2].Binding)
	s.Compact()
	w := born(t, shares[0], append(d.Bytes(), "a rest"...), nil)
	for i, c := range pairs {
		expected := api.OK
		if i == 2 {
			expected = api.ErrUsed
		}
		wantSign(t, w, []api.Commitment{c, commitmentOf(r, 5)}, nil, expected)
	}
	d.Append(bytes.Repeat([]byte{3}, 100))
	unlike := edwards.MulBase(api.Scalar{5})
	wantSign(t, w, []api.Commitment{{ID: 4, Hiding: unlike, Binding: unlike}, commitmentOf(r, 5)}, nil, api.ErrUnknown)
}

// A disk is one participant's at a time; a life behind another one on it goes on where that stood.
func TestLives(t *testing.T) {
	r := drawn(77)
	shares, _ := dealt(t, r, 2, 4, 5)
	w := born(t, shares[0], nil, turnsOf(drawnRandoms(r, 2)...))
	var told []api.Commitment
	for life := range byte(10) {
		told = append(told, w.mustAsk(t, api.Hash{life}))
		if life%3 == 2 {
			wantSign(t, w, []api.Commitment{told[r.Intn(len(told)-1)], commitmentOf(r, 5)}, nil, api.OK)
			told = slices.DeleteFunc(told, func(c api.Commitment) bool { return !slices.Contains(w.p.Pairs(), c) })
		}
		w, _ = w.reborn(t, shares[0], turnsOf(drawnRandoms(r, 2)...))
		if !slices.Equal(w.p.Pairs(), told) {
			t.Fatalf("in life %d: %x, not %x", life, w.p.Pairs(), told)
		}
	}
	var none *participant.Participant
	if len(none.Pairs()) != 0 {
		t.Fatal("a nil participant has pairs")
	}
}
