package participant_test

import (
	"bytes"
	"crypto/ed25519"
	"encoding/hex"
	"slices"
	"testing"

	"rime/api"
	"rime/edwards"
	"rime/frost"
)

// wantSign: what Sign answers, whatever the paper says.
func wantSign(t *testing.T, w twin, list []api.Commitment, text []byte, expected api.Errno) api.Message {
	t.Helper()
	m, errno := w.sign(t, api.Hash{0xab}, list, text)
	wantErrno(t, "Sign", errno, expected)
	if errno != api.OK {
		wantNoMessage(t, "Sign", m)
	}
	return m
}

// The chapter's examples.

func TestExamples(t *testing.T) {
	r := drawn(40)
	shares, _ := dealt(t, r, 2, 1, 2, 3)
	w := born(t, shares[0], nil, turnsOf(drawnRandoms(r, 3)...))
	asked := wantAsk(t, w, api.Hash{1}, api.OK)
	if asked.Kind != api.KindCommit {
		t.Fatalf("Ask: %v", asked)
	}
	list := []api.Commitment{asked.Pair, commitmentOf(r, 2)}
	wantSign(t, w, list[1:], nil, api.ErrCount)
	wantSign(t, w, list[:1], nil, api.ErrCount)
	wantSign(t, w, []api.Commitment{commitmentOf(r, 2), commitmentOf(r, 3)}, nil, api.ErrMissing)
	wantSign(t, w, []api.Commitment{commitmentOf(r, 1), commitmentOf(r, 3)}, nil, api.ErrUnknown)
	if m := wantSign(t, w, list, []byte("hi"), api.OK); m.Kind != api.KindShare {
		t.Fatalf("Sign: %v", m)
	}
	wantSign(t, w, list, []byte("hi"), api.ErrUsed)
	wantAsk(t, w, api.Hash{2}, api.ErrEnd) // of the tape one Random is left
}

func unhex(s string) []byte {
	b, err := hex.DecodeString(s)
	if err != nil {
		panic(err)
	}
	return b
}

// RFC 9591, appendix E.1: two of three sign "test".
func TestRFC9591(t *testing.T) {
	group := api.Element(unhex("15d21ccd7ee42959562fc8aa63224c8851fb3ec85a3faf66040d380fb9738673"))
	var signers []twin
	var list []api.Commitment
	for _, v := range [][]string{
		{"929dcc590407aae7d388761cddb0c0db6f5627aea8e217f4a033f2ec83d93509", "0fd2e39e111cdc266f6c0f4d0fd45c947761f1f5d3cb583dfcb9bbaf8d4c9fec", "69cd85f631d5f7f2721ed5e40519b1366f340a87c2f6856363dbdcda348a7501", "b5aa8ab305882a6fc69cbee9327e5a45e54c08af61ae77cb8207be3d2ce13de3"},
		{"d3cb090a075eb154e82fdb4b3cb507f110040905468bb9c46da8bdea643a9a02", "86d64a260059e495d0fb4fcc17ea3da7452391baa494d4b00321098ed2a0062f", "13e6b25afb2eba51716a9a7d44130c0dbae0004a9ef8d7b5550c8a0e07c61775", "cfbdb165bd8aad6eb79deb8d287bcc0ab6658ae57fdcc98ed12c0669e90aec91"},
	} {
		secret := api.Scalar(unhex(v[0]))
		key := api.KeyShare{ID: 2*len(list) + 1, Threshold: 2, Secret: secret, Public: edwards.MulBase(secret), Group: group}
		w := born(t, key, nil, turnsOf(api.Random(unhex(v[1])), api.Random(unhex(v[2]))))
		pair := w.mustAsk(t, api.Hash{7})
		if pair.Hiding != api.Element(unhex(v[3])) {
			t.Fatalf("Hiding of %d: %x", key.ID, pair.Hiding)
		}
		signers, list = append(signers, w), append(list, pair)
	}
	for i, share := range []string{"001719ab5a53ee1a12095cd088fd149702c0720ce5fd2f29dbecf24b7281b603", "bd86125de990acc5e1f13781d8e32c03a9bbd4c53539bbc106058bfd14326007"} {
		if m := wantSign(t, signers[i], list, []byte("test"), api.OK); m.Share != api.Scalar(unhex(share)) {
			t.Fatalf("the share of %d: %x", m.From, m.Share)
		}
	}
}

// What participants do makes a signature that the library takes.
func TestSignatures(t *testing.T) {
	r := drawn(41)
	for round := range 12 {
		threshold := 2 + r.Intn(3)
		shares, keys := dealt(t, r, threshold, 1, 2, 77, 254, 255)
		r.Shuffle(len(shares), func(i, j int) { shares[i], shares[j] = shares[j], shares[i] })
		var signers []twin
		var list []api.Commitment
		for _, key := range shares[:threshold+r.Intn(6-threshold)] {
			if r.Intn(2) == 0 {
				key.Secret = above(key.Secret, 1+r.Int63n(14))
			}
			w := born(t, key, nil, turnsOf(drawnRandoms(r, 2)...))
			signers, list = append(signers, w), append(list, w.mustAsk(t, api.Hash{1}))
		}
		list = rising(list...)
		text := drawnBytes(r, []int{0, 1, 300, longest}[round%4])
		var all []api.SigShare
		for _, w := range signers {
			m := wantSign(t, w, list, text, api.OK)
			all = append(all, api.SigShare{ID: m.From, Value: m.Share})
		}
		slices.SortFunc(all, func(a, b api.SigShare) int { return a.ID - b.ID })
		sig, wrong, errno := frost.Finish(keys, list, text, all)
		if errno != api.OK || len(wrong) != 0 || !ed25519.Verify(keys.Group[:], text, sig[:]) {
			t.Fatalf("Finish: %v %v", wrong, errno)
		}
	}
}

// A share's message: for whom it is, for which pair, list and text.
func TestShareMessage(t *testing.T) {
	r := drawn(42)
	for range 20 {
		shares, _ := dealt(t, r, 2, 5, 9)
		w := born(t, shares[0], nil, turnsOf(drawnRandoms(r, 2)...))
		list := []api.Commitment{w.mustAsk(t, api.Hash{1}), commitmentOf(r, 9)}
		text := drawnBytes(r, r.Intn(300))
		m := wantSign(t, w, list, text, api.OK)
		if m.Kind != api.KindShare || m.Session != (api.Hash{0xab}) || m.From != 5 || m.To != 0 || m.Pair != list[0] || m.Bind != bindOf(list, text) {
			t.Fatalf("Sign: %v", m)
		}
		if len(m.List) != 0 || len(m.Text) != 0 || m.Sig != (api.Signature{}) || m.Code != api.OK || m.Share == (api.Scalar{}) {
			t.Fatalf("Sign: %v", m)
		}
	}
}

// The longest list.
func TestMostSigners(t *testing.T) {
	r := drawn(43)
	shares, _ := dealt(t, r, 2, 1, 128, 255)
	for at, key := range shares {
		w := born(t, key, nil, turnsOf(drawnRandoms(r, 2)...))
		own := w.mustAsk(t, api.Hash{1})
		other := commitmentOf(r, 1)
		var list []api.Commitment
		for id := range 255 {
			other.ID = id + 1
			list = append(list, other)
		}
		list[key.ID-1] = own
		wantSign(t, w, append(slices.Clone(list), list[254]), nil, api.ErrCount)
		wantSign(t, w, slices.Delete(slices.Clone(list), key.ID-1, key.ID), nil, api.ErrMissing)
		if m := wantSign(t, w, list, []byte{byte(at)}, api.OK); m.Pair != own {
			t.Fatalf("Sign: %v", m)
		}
	}
}

// As many as the threshold and no fewer.
func TestThresholds(t *testing.T) {
	r := drawn(44)
	ids := []int{1, 2, 3, 4, 5, 6, 7}
	for threshold := 2; threshold < 8; threshold++ {
		shares, _ := dealt(t, r, threshold, ids...)
		w := born(t, shares[3], nil, turnsOf(drawnRandoms(r, 14)...))
		for count := 1; count < 8; count++ {
			own := w.mustAsk(t, api.Hash{byte(count)})
			list := []api.Commitment{own}
			for _, id := range []int{1, 7, 3, 5, 2, 6}[:count-1] {
				list = append(list, commitmentOf(r, id))
			}
			expected := api.OK
			if count < threshold {
				expected = api.ErrCount
			}
			wantSign(t, w, rising(list...), nil, expected)
		}
	}
}

// Lists that may not be, with the own pair in them.
func TestWrongLists(t *testing.T) {
	r := drawn(45)
	shares, _ := dealt(t, r, 2, 4, 5)
	w := born(t, shares[0], nil, turnsOf(drawnRandoms(r, 2)...))
	own, b, c := w.mustAsk(t, api.Hash{1}), commitmentOf(r, 5), commitmentOf(r, 6)
	under := func(id int, c api.Commitment) api.Commitment { c.ID = id; return c }
	for _, x := range []struct {
		list  []api.Commitment
		errno api.Errno
	}{
		{nil, api.ErrCount},
		{[]api.Commitment{}, api.ErrCount},
		{slices.Repeat([]api.Commitment{own}, 256), api.ErrCount},
		{slices.Repeat([]api.Commitment{own}, 255), api.ErrTwice},
		{[]api.Commitment{own, own}, api.ErrTwice},
		{[]api.Commitment{own, own, b}, api.ErrTwice},
		{[]api.Commitment{own, b, b}, api.ErrTwice},
		{[]api.Commitment{b, own}, api.ErrOrder},
		{[]api.Commitment{own, c, b}, api.ErrOrder},
		{[]api.Commitment{under(0, b), own}, api.ErrID},
		{[]api.Commitment{own, under(256, b)}, api.ErrID},
		{[]api.Commitment{own, under(-5, b)}, api.ErrID},
		{[]api.Commitment{own, under(1<<32+5, b)}, api.ErrID},
	} {
		wantSign(t, w, x.list, nil, x.errno)
	}
	for _, e := range wrongElements(r) {
		for i := range 3 {
			list := []api.Commitment{own, b, c}
			list[i].Hiding = e
			wantSign(t, w, list, nil, api.ErrCommitment)
			list = []api.Commitment{own, b, c}
			list[i].Binding = e
			wantSign(t, w, list, nil, api.ErrCommitment)
		}
	}
	for _, wrong := range []api.Commitment{{ID: 4, Hiding: own.Binding, Binding: own.Hiding}, {ID: 4, Hiding: own.Hiding, Binding: own.Hiding}, {ID: 4, Hiding: own.Hiding, Binding: b.Binding}, under(4, b)} {
		wantSign(t, w, []api.Commitment{wrong, b}, nil, api.ErrUnknown)
	}
	wantSign(t, w, []api.Commitment{under(3, own), b}, nil, api.ErrMissing) // the pair under another's identifier
	wantSign(t, w, []api.Commitment{own, b}, nil, api.OK)
}

// Another's pair under the own identifier is unknown; the own one under another's too is none's business.
func TestPairsOfOthers(t *testing.T) {
	r := drawn(46)
	shares, _ := dealt(t, r, 2, 4, 5)
	a, b := born(t, shares[0], nil, turnsOf(drawnRandoms(r, 2)...)), born(t, shares[1], nil, turnsOf(drawnRandoms(r, 2)...))
	of4, of5 := a.mustAsk(t, api.Hash{1}), b.mustAsk(t, api.Hash{1})
	crossed := []api.Commitment{{ID: 4, Hiding: of5.Hiding, Binding: of5.Binding}, {ID: 5, Hiding: of4.Hiding, Binding: of4.Binding}}
	wantSign(t, a, crossed, nil, api.ErrUnknown)
	wantSign(t, b, crossed, nil, api.ErrUnknown)
	wantSign(t, a, []api.Commitment{of4, crossed[1]}, nil, api.OK)
	wantSign(t, b, []api.Commitment{of4, of5}, nil, api.OK)
}

func TestLongTexts(t *testing.T) {
	r := drawn(47)
	shares, _ := dealt(t, r, 2, 4, 5)
	w := born(t, shares[0], nil, turnsOf(drawnRandoms(r, 2)...))
	list := []api.Commitment{w.mustAsk(t, api.Hash{1}), commitmentOf(r, 5)}
	text := drawnBytes(r, 1<<22)
	w.setGuard(func(text []byte) api.Errno { return api.OK })
	for _, count := range []int{longest + 1, longest + 2, 1 << 21, 1 << 22} {
		wantSign(t, w, list, text[:count], api.ErrLong)
		wantSign(t, w, nil, text[:count], api.ErrLong)
	}
	wantSign(t, w, list, text[:longest], api.OK)
}

// P4: of several errors Sign answers that which its chapter names first.
func TestOrderOfSign(t *testing.T) {
	r := drawn(48)
	shares, _ := dealt(t, r, 3, 1, 2, 3, 4, 5)
	key := shares[1]
	tooLong := make([]byte, longest+1)
	wrong := commitmentOf(r, 5)
	wrong.Binding = edwards.Identity()
	for mask := range 1 << 8 {
		has := func(bit int) bool { return mask>>bit&1 == 1 }
		long, badList, few, missing, used, unknown, denied, down := has(0), has(1), has(2), has(3), has(4), has(5), has(6), has(7)
		w := born(t, key, nil, turnsOf(drawnRandoms(r, 2)...))
		own := w.mustAsk(t, api.Hash{1})
		if used {
			wantSign(t, w, []api.Commitment{commitmentOf(r, 1), own, commitmentOf(r, 3)}, nil, api.OK)
		} else if unknown {
			own = commitmentOf(r, 2)
		}
		list, text := []api.Commitment{commitmentOf(r, 1), own, commitmentOf(r, 5)}, []byte("hi")
		if missing {
			list[1] = commitmentOf(r, 4)
		}
		if few {
			list = list[1:]
		}
		if badList {
			list[len(list)-1] = wrong
		}
		if long {
			text = tooLong
		}
		w.setGuard(func([]byte) api.Errno { return api.OK })
		if denied {
			w.setGuard(func([]byte) api.Errno { return api.ErrRate })
		}
		if down {
			w.fuse(0)
		}
		expected := api.OK
		for _, c := range []struct {
			is    bool
			errno api.Errno
		}{{down, api.ErrDown}, {denied, api.ErrRate}, {unknown, api.ErrUnknown}, {used, api.ErrUsed}, {missing, api.ErrMissing}, {few, api.ErrCount}, {badList, api.ErrCommitment}, {long, api.ErrLong}} {
			if c.is {
				expected = c.errno
			}
		}
		wantSign(t, w, list, text, expected)
		asked := expected == api.OK || expected == api.ErrRate || expected == api.ErrDown
		if asked != (*w.guarded == 1) {
			t.Fatalf("mask %x: the guard was asked %d times", mask, *w.guarded)
		}
	}
}

// A use that fails at either of its writes breaks the store; no share goes out, and the pair is lost or signs once in the next life.
func TestSignThatBreaks(t *testing.T) {
	r := drawn(49)
	shares, _ := dealt(t, r, 2, 4, 5)
	for fuse := range 2 {
		for _, keep := range []int{-1, 0, 1, 72, 73, 1000} {
			w := born(t, shares[0], nil, turnsOf(drawnRandoms(r, 4)...))
			list := []api.Commitment{w.mustAsk(t, api.Hash{1}), commitmentOf(r, 5)}
			w.fuse(fuse)
			for range 2 {
				wantSign(t, w, list, nil, api.ErrDown)
			}
			if w.p.Look() != (api.SignerLook{ID: 4, Pairs: 1, Broken: true}) {
				t.Fatalf("Look: %v", w.p.Look())
			}
			w.crash(keep)
			wantSign(t, w, list, nil, api.ErrDown) // for ever in this life
			w, _ = w.reborn(t, shares[0], nil)
			expected := api.OK
			if fuse == 1 && keep >= 73 {
				expected = api.ErrUsed
			}
			wantSign(t, w, list, nil, expected)
			wantSign(t, w, list, nil, api.ErrUsed)
		}
	}
}

// Handle: a message for it from the coordinator, that asks or brings a package.
func TestHandle(t *testing.T) {
	r := drawn(50)
	shares, _ := dealt(t, r, 2, 4, 5)
	w := born(t, shares[0], nil, turnsOf(drawnRandoms(r, 4)...))
	ask := api.Message{Kind: api.KindAsk, Session: api.Hash{1}, To: 4}
	m, errno := w.handle(t, ask)
	wantErrno(t, "Handle of an Ask", errno, api.OK)
	pack := api.Message{Kind: api.KindPackage, Session: api.Hash{1}, To: 4, List: []api.Commitment{m.Pair, commitmentOf(r, 5)}, Text: []byte("hi")}
	for _, good := range []api.Message{ask, pack} {
		for _, id := range append(wrongIDs()[1:], 1, 4, 5, 255) {
			wrong := good
			wrong.From = id
			wantHandle(t, w, wrong, api.ErrKind)
		}
		for _, id := range append(wrongIDs(), 1, 5, 255, 4+256, -4) {
			wrong := good
			wrong.To = id
			wantHandle(t, w, wrong, api.ErrKind)
		}
		for _, kind := range []api.Kind{0, -1, api.KindCommit, api.KindShare, api.KindRefuse, api.KindDone, 7, 1 + 256, 3 + 256, 1 + 1<<32, -3} {
			wrong := good
			wrong.Kind = kind
			wantHandle(t, w, wrong, api.ErrKind)
		}
	}
	filled := api.Message{Pair: m.Pair, Bind: api.Hash{1}, Share: api.Scalar{1}, Sig: api.Signature{1}, Code: api.ErrArg}
	filled.Kind, filled.Session, filled.To, filled.List, filled.Text = ask.Kind, ask.Session, ask.To, []api.Commitment{{}}, make([]byte, longest+1)
	if again := wantHandle(t, w, filled, api.OK); again.Pair != m.Pair { // no other field is asked
		t.Fatalf("Handle of an Ask that is filled: %v", again)
	}
	filled.Kind, filled.List, filled.Text, filled.Pair = pack.Kind, pack.List, pack.Text, api.Commitment{}
	if share := wantHandle(t, w, filled, api.OK); share.Kind != api.KindShare || share.Pair != m.Pair || share.Bind != bindOf(pack.List, pack.Text) {
		t.Fatalf("Handle of a package that is filled: %v", share)
	}
	wantHandle(t, w, pack, api.ErrUsed)
	wantHandle(t, w, ask, api.ErrUsed)
}

func wantHandle(t *testing.T, w twin, m api.Message, expected api.Errno) api.Message {
	t.Helper()
	answer, errno := w.handle(t, m)
	wantErrno(t, "Handle", errno, expected)
	if errno != api.OK {
		wantNoMessage(t, "Handle", answer)
	}
	return answer
}

// Pairs and what Ask told are the same, in the order in which they came in, under the own identifier.
func TestPairs(t *testing.T) {
	r := drawn(51)
	shares, _ := dealt(t, r, 2, 4, 5)
	w := born(t, shares[0], nil, turnsOf(drawnRandoms(r, 20)...))
	var told []api.Commitment
	for i := range 10 {
		told = append(told, w.mustAsk(t, api.Hash{byte(i)}))
	}
	for len(told) > 0 {
		if got := w.p.Pairs(); !slices.Equal(got, told) {
			t.Fatalf("Pairs: %x, not %x", got, told)
		}
		at := r.Intn(len(told))
		wantSign(t, w, []api.Commitment{told[at], commitmentOf(r, 5)}, nil, api.OK)
		told = slices.Delete(told, at, at+1)
	}
	if len(w.p.Pairs()) != 0 || w.p.Look() != (api.SignerLook{ID: 4, Used: 10}) {
		t.Fatalf("%v %v", w.p.Pairs(), w.p.Look())
	}
}

// The guard sees the text, the disk as it was, and is asked once.
func TestGuard(t *testing.T) {
	r := drawn(52)
	shares, _ := dealt(t, r, 2, 4, 5)
	w := born(t, shares[0], nil, turnsOf(drawnRandoms(r, 20)...))
	var seen [][]byte
	answer := api.ErrDenied
	guard := func(text []byte) api.Errno {
		seen = append(seen, bytes.Clone(text))
		if w.d.Synced() != 73 || w.p.Look() != (api.SignerLook{ID: 4, Pairs: 1}) {
			t.Fatalf("at the guard: %d bytes are synced, %v", w.d.Synced(), w.p.Look())
		}
		return answer
	}
	list := []api.Commitment{w.mustAsk(t, api.Hash{1}), commitmentOf(r, 5)}
	w.p.SetGuard(guard)
	for _, code := range []api.Errno{api.ErrDenied, api.ErrRate, -1, 1 << 40, api.ErrUsed, api.OK} {
		answer = code
		_, err := w.p.Sign(api.Hash{1}, list, []byte("hi"))
		wantRefusal(t, "Sign", err, api.Hash{1}, code)
	}
	if len(seen) != 6 || slices.ContainsFunc(seen, func(text []byte) bool { return string(text) != "hi" }) {
		t.Fatalf("the guard saw %q", seen)
	}
	if _, err := w.p.Sign(api.Hash{1}, list, []byte("hi")); len(seen) != 6 {
		t.Fatalf("the guard was asked about a used pair: %v", err)
	}
}

// The last guard that was set is asked; nil is none.
func TestSetGuard(t *testing.T) {
	r := drawn(53)
	shares, _ := dealt(t, r, 2, 4, 5)
	w := born(t, shares[0], nil, turnsOf(drawnRandoms(r, 20)...))
	denies := func([]byte) api.Errno { return api.ErrDenied }
	lets := func([]byte) api.Errno { return api.OK }
	list := []api.Commitment{w.mustAsk(t, api.Hash{1}), commitmentOf(r, 5)}
	w.setGuard(denies)
	wantSign(t, w, list, nil, api.ErrDenied)
	w.setGuard(lets)
	wantSign(t, w, list, nil, api.OK)
	list[0] = w.mustAsk(t, api.Hash{2})
	w.setGuard(denies)
	wantSign(t, w, list, nil, api.ErrDenied)
	wantSign(t, w, list, nil, api.ErrDenied)
	w.setGuard(nil)
	wantSign(t, w, list, nil, api.OK)
	list[0] = w.mustAsk(t, api.Hash{3})
	w.setGuard(denies)
	w, _ = w.reborn(t, shares[0], nil) // a guard does not outlive a life
	wantSign(t, w, list, nil, api.OK)
}

// A guard that panics has not allowed anything; one that asks its participant to sign, or turns what was handed in, gets no second share and no other text signed.
func TestWrongGuards(t *testing.T) {
	r := drawn(54)
	shares, _ := dealt(t, r, 2, 4, 5)
	w := born(t, shares[0], nil, turnsOf(drawnRandoms(r, 20)...))
	list := []api.Commitment{w.mustAsk(t, api.Hash{1}), commitmentOf(r, 5)}
	for _, by := range []any{"a guard that panics", api.ErrDenied, 7} {
		w.p.SetGuard(func([]byte) api.Errno { panic(by) })
		_, err := w.p.Sign(api.Hash{1}, list, nil)
		wantRefusal(t, "Sign", err, api.Hash{1}, api.ErrArg)
		w.wantBehind(t, "a guard that panics")
	}
	text := []byte("hi")
	kept := slices.Clone(list)
	w.p.SetGuard(func(shown []byte) api.Errno {
		spoil(list, api.Commitment{ID: 9})
		spoil(text, 'x')
		spoil(shown, 'y')
		return api.OK
	})
	m, err := w.p.Sign(api.Hash{1}, list, text)
	wantRefusal(t, "Sign", err, api.Hash{1}, api.OK)
	w.wantHolds(t, m, kept, []byte("hi"))
	if m.Pair != kept[0] || m.Bind != bindOf(kept, []byte("hi")) {
		t.Fatalf("Sign: %v", m)
	}
	w = born(t, shares[0], nil, turnsOf(drawnRandoms(r, 20)...))
	list = []api.Commitment{w.mustAsk(t, api.Hash{1}), commitmentOf(r, 5)}
	shared := 0
	w.p.SetGuard(func(shown []byte) api.Errno {
		w.p.SetGuard(nil)
		if _, err := w.p.Sign(api.Hash{2}, list, []byte("within")); err == nil {
			shared++
		}
		return api.OK
	})
	_, err = w.p.Sign(api.Hash{1}, list, text)
	wantRefusal(t, "Sign around a Sign", err, api.Hash{1}, api.ErrUsed)
	if shared != 1 || w.p.Look() != (api.SignerLook{ID: 4, Used: 1}) {
		t.Fatalf("%d shares, %v", shared, w.p.Look())
	}
}
