package wire_test

import (
	"bytes"
	"math/rand"
	"slices"
	"sync"
	"testing"

	"rime/api"
	"rime/wire"
)

// P10.6: one form. Each byte string is a fault, or the one frame of one message.

// wantOneForm holds Peek and Decode of any bytes against the chapter, and what is taken against Encode.
func wantOneForm(t *testing.T, b []byte) bool {
	t.Helper()
	expected, fault := judge(b)
	m, err := wire.Decode(b)
	if toldBy(t, err) != fault || !same(m, expected) || err != nil && !isZero(m) {
		t.Fatalf("Decode of %x: %x %v, not %x %v", cut(b), m, err, expected, fault)
	}
	size, peeked := judgeHead(b)
	kind, got, bad := wire.Peek(b)
	if toldBy(t, bad) != peeked || got != size || bad == nil && kind != api.Kind(b[5]) || bad != nil && kind != 0 {
		t.Fatalf("Peek of %x: %v %v %v, not %v %v", cut(b), kind, got, bad, size, peeked)
	}
	if err != nil {
		return false
	}
	again, err := wire.Encode(m)
	if err != nil || !bytes.Equal(again, b) {
		t.Fatalf("Encode of what Decode of %x tells: %x %v", cut(b), cut(again), err)
	}
	return true
}

func TestDecodeOfEncode(t *testing.T) {
	r := drawn(30)
	for range 300 {
		m := anyMessage(r)
		b, err := wire.Encode(m)
		if err != nil || !wantOneForm(t, b) {
			t.Fatalf("Encode of %x: %v", m, err)
		}
		wantDecoded(t, b, used(m))
	}
}

// turned is a body with some change of any kind.
func turned(r *rand.Rand, body []byte) []byte {
	b := slices.Clone(body)
	at := r.Intn(len(b))
	switch r.Intn(7) {
	case 0:
		return b[:at]
	case 1:
		return append(b, drawnBytes(r, 1+r.Intn(70))...)
	case 2:
		return slices.Delete(b, at, at+1)
	case 3:
		return slices.Insert(b, at, drawnBytes(r, 1+r.Intn(66))...)
	case 4:
		b[at] = 0
	case 5:
		if len(b) > 34 { // how many commitments, an identifier or a code
			b[34] = byte(r.Intn(5))
		}
	case 6:
		b[at] ^= 1 << r.Intn(8)
	}
	return b
}

// Bodies with a right sum, so that the reader sees them.
func TestOneFormOfTurnedBodies(t *testing.T) {
	r := drawn(31)
	taken := 0
	for range 6000 {
		body := bodyBytes(anyMessage(r))
		for range 1 + r.Intn(2) {
			if body = turned(r, body); len(body) == 0 {
				break
			}
		}
		if wantOneForm(t, framed(pick(r, kinds()), body)) {
			taken++
		}
	}
	if taken < 200 || taken > 5800 {
		t.Fatalf("%d were taken", taken)
	}
}

// Frames with any change, most of which the head or the sum tells.
func TestOneFormOfTurnedFrames(t *testing.T) {
	r := drawn(32)
	for range 3000 {
		b := turned(r, frameOf(anyMessage(r)))
		if r.Intn(2) == 0 && len(b) > 0 {
			b[r.Intn(min(len(b), 10))] = byte(r.Intn(8))
		}
		if r.Intn(3) == 0 && len(b) > 4 {
			b = summed(b[:len(b)-4])
		}
		wantOneForm(t, b)
	}
}

func TestOneFormOfDrawnBytes(t *testing.T) {
	r := drawn(33)
	for range 3000 {
		b := drawnBytes(r, r.Intn(120))
		copy(b, "RIME\x01"[:r.Intn(6)])
		wantOneForm(t, b)
	}
}

func FuzzDecode(f *testing.F) {
	r := drawn(34)
	for _, kind := range kinds() {
		b := frameOf(drawnMessage(r, kind))
		f.Add(b)
		f.Add(b[:len(b)-4])
	}
	f.Fuzz(func(t *testing.T, b []byte) {
		wantOneForm(t, b)
		wantOneForm(t, summed(b)) // so that the body is reached
	})
}

// P10.7: what is spoilt is told.

func TestSpoiltSums(t *testing.T) {
	r := drawn(35)
	for _, kind := range kinds() {
		b := frameOf(drawnMessage(r, kind))
		at := len(b) - 4
		for bit := range 32 {
			bad := slices.Clone(b)
			bad[at+bit/8] ^= 1 << (bit % 8)
			wantRefused(t, "a sum with a bit turned", bad, "sum", at, api.ErrSum)
		}
		for range 200 {
			bad := slices.Clone(b)
			copy(bad[at:], drawnBytes(r, 4))
			if !bytes.Equal(bad, b) {
				wantRefused(t, "another sum", bad, "sum", at, api.ErrSum)
			}
		}
		wantRefused(t, "a sum of nothing", append(slices.Clone(b[:at]), 0, 0, 0, 0), "sum", at, api.ErrSum)
	}
}

func TestSpoiltBodies(t *testing.T) {
	r := drawn(36)
	for _, kind := range kinds() {
		b := frameOf(drawnMessage(r, kind))
		for i := 10; i < len(b)-4; i++ {
			bad := slices.Clone(b)
			bad[i] ^= 1 << r.Intn(8)
			wantRefused(t, "a body with a bit turned", bad, "sum", len(b)-4, api.ErrSum)
		}
		other := slices.Clone(b)
		other[5] = other[5]%6 + 1 // another kind: the sum goes over the head, too
		wantRefused(t, "another kind", other, "sum", len(b)-4, api.ErrSum)
	}
}

func TestCutFrames(t *testing.T) {
	r := drawn(37)
	for _, kind := range kinds() {
		b := frameOf(drawnMessage(r, kind))
		for n := range b {
			wantRefused(t, "a cut frame", b[:n], "frame", n, api.ErrLength)
		}
	}
}

// unlike are messages that differ from the first in one field that the kind uses, each.
func unlike(r *rand.Rand, m api.Message) []api.Message {
	with := func(put func(*api.Message)) api.Message {
		other := m
		other.List, other.Text = slices.Clone(m.List), slices.Clone(m.Text)
		put(&other)
		return other
	}
	at, next := r.Intn(32), m.Pair.ID%255+1
	out := []api.Message{m,
		with(func(o *api.Message) { o.Session[at]++ }),
		with(func(o *api.Message) { o.From = (o.From + 1) % 256 }),
		with(func(o *api.Message) { o.To = (o.To + 1) % 256 }),
		with(func(o *api.Message) { o.Pair.ID = next }),
		with(func(o *api.Message) { o.Pair.Hiding[at]++ }),
		with(func(o *api.Message) { o.Pair.Binding[at]++ }),
		with(func(o *api.Message) { o.List = append(o.List, api.Commitment{ID: 1}) }),
		with(func(o *api.Message) { o.List = o.List[1:] }),
		with(func(o *api.Message) { o.List[0].ID = o.List[0].ID%255 + 1 }),
		with(func(o *api.Message) { o.List[1].Hiding[at]++ }),
		with(func(o *api.Message) { o.List[1].Binding[at]++ }),
		with(func(o *api.Message) { o.List[0], o.List[1] = o.List[1], o.List[0] }),
		with(func(o *api.Message) { o.Text = append(o.Text, 0) }),
		with(func(o *api.Message) { o.Text = o.Text[1:] }),
		with(func(o *api.Message) { o.Text[0]++ }),
		with(func(o *api.Message) { o.Bind[at]++ }),
		with(func(o *api.Message) { o.Share[at]++ }),
		with(func(o *api.Message) { o.Sig[at*2]++ }),
		with(func(o *api.Message) { o.Code = o.Code%65535 + 1 }),
	}
	for _, kind := range kinds() {
		if kind != m.Kind {
			out = append(out, with(func(o *api.Message) { o.Kind = kind }))
		}
	}
	return out
}

// Frames are alike just if the messages are, in what their kinds use.
func TestUnlikeMessagesHaveUnlikeFrames(t *testing.T) {
	r := drawn(38)
	for _, kind := range kinds() {
		for range 4 {
			m := drawnMessage(r, kind)
			m.List, m.Text = drawnList(r, 2), drawnBytes(r, 1+r.Intn(9))
			all := unlike(r, m)
			var frames [][]byte
			for _, one := range all {
				frames = append(frames, wantEncoded(t, one))
			}
			for i := range all {
				for j := range all {
					if bytes.Equal(frames[i], frames[j]) != same(used(all[i]), used(all[j])) {
						t.Fatalf("%x and %x: %x and %x", all[i], all[j], frames[i], frames[j])
					}
				}
			}
		}
	}
}

// P10.8, at bytes of any kind: frames, faults and what is no frame at all.
func TestStreamOfAnything(t *testing.T) {
	r := drawn(39)
	broken := 0
	for range 150 {
		var b []byte
		for range 1 + r.Intn(5) {
			frame := frameOf(anyMessage(r))
			if r.Intn(5) == 0 {
				frame = turned(r, frame)
			}
			b = append(b, frame...)
		}
		whole := judgeStream(b)
		for _, places := range cuttings(r, len(b)) {
			w := fedIn(t, b, places)
			if !slices.EqualFunc(w.told, whole.messages, same) || w.fault != whole.fault {
				t.Fatalf("%x cut at %v: %v, not %v", cut(b), places, w.fault, whole.fault)
			}
		}
		if whole.fault.field != "" {
			broken++
		}
	}
	if broken < 20 || broken > 130 {
		t.Fatalf("%d were broken", broken)
	}
}

// P10.9: what is handed in is neither changed nor kept, spare room included; an answer is new memory.

// roomy is the list with spare room behind it.
func roomy[T any](l []T, spare T) []T { return append(slices.Clone(l), spare, spare, spare)[:len(l)] }

func wholeOf[T any](l []T) []T { return slices.Clone(l[:cap(l)])[:len(l)] }

func sameWhole[T comparable](a, b []T) bool {
	return len(a) == len(b) && slices.Equal(a[:cap(a)], b[:min(cap(a), cap(b))])
}

// roomyMessage is a package with spare room behind its lists.
func roomyMessage(r *rand.Rand) api.Message {
	m := drawnMessage(r, api.KindPackage)
	m.List, m.Text = roomy(drawnList(r, 1+r.Intn(4)), api.Commitment{ID: 77}), roomy(drawnBytes(r, 1+r.Intn(90)), 77)
	return m
}

func spoilMessage(m api.Message) {
	spoil(m.List, api.Commitment{ID: 99})
	spoil(m.Text, 99)
}

func TestEncodeTakesAndGivesItsOwn(t *testing.T) {
	r := drawn(40)
	for range 20 {
		m := roomyMessage(r)
		list, text := wholeOf(m.List), wholeOf(m.Text)
		expected := frameOf(m)
		one, _ := wire.Encode(m)
		two, _ := wire.Encode(m)
		if !sameWhole(m.List, list) || !sameWhole(m.Text, text) {
			t.Fatal("Encode has changed its argument")
		}
		spoil(one, 98)
		if !sameWhole(m.List, list) || !sameWhole(m.Text, text) || !bytes.Equal(two, expected) {
			t.Fatal("Encode's answer shares memory")
		}
		spoilMessage(m)
		if !bytes.Equal(two, expected) {
			t.Fatal("Encode's answer shares memory with its argument")
		}
	}
}

func TestDecodeTakesAndGivesItsOwn(t *testing.T) {
	r := drawn(41)
	for range 20 {
		m := used(roomyMessage(r))
		b := roomy(frameOf(m), 77)
		before := wholeOf(b)
		one, _ := wire.Decode(b)
		two, _ := wire.Decode(b)
		wire.Peek(b)
		if !sameWhole(b, before) {
			t.Fatal("Decode has changed its argument")
		}
		spoil(one.List, api.Commitment{ID: 98})
		if !bytes.Equal(one.Text, m.Text) {
			t.Fatal("two lists of Decode's answer share memory")
		}
		spoilMessage(one)
		if !sameWhole(b, before) || !same(two, m) {
			t.Fatal("Decode's answer shares memory")
		}
		spoil(b, 99)
		if !same(two, m) {
			t.Fatal("Decode's answer shares memory with its argument")
		}
	}
}

// All messages that streams told stay as they are, whatever is fed, changed or told besides.
func TestStreamTakesAndGivesItsOwn(t *testing.T) {
	r := drawn(42)
	for range 20 {
		s := wire.NewStream()
		var b []byte
		var all, told []api.Message
		for range 12 {
			m := used(roomyMessage(r))
			all, b = append(all, m), append(b, frameOf(m)...)
		}
		for len(b) > 0 {
			n := min(1+r.Intn(900), len(b))
			piece := roomy(b[:n], 77)
			before := wholeOf(piece)
			l, err := s.Feed(piece)
			if err != nil || !sameWhole(piece, before) {
				t.Fatalf("Feed has changed its argument (%v)", err)
			}
			told = append(told, l...)
			spoil(piece, 99)
			spoil(l, api.Message{From: 98})
			b = b[n:]
		}
		for i := range told { // each is still itself, though those ahead of it are spoilt
			if !same(told[i], all[i]) {
				t.Fatalf("message %d has been changed", i)
			}
			spoilMessage(told[i])
		}
		if len(told) != len(all) || s.Left() != 0 {
			t.Fatalf("%d messages, %d left", len(told), s.Left())
		}
	}
}

// A fault that was told may be changed: those that are told behind it are not.
func TestFaultsAreNew(t *testing.T) {
	ask := frameOf(firstExample())
	s := wire.NewStream()
	_, first := s.Feed(append(slices.Clone(ask), "RX"...))
	spoilFault := func(err error) { *err.(*wire.Fault) = wire.Fault{Field: "x", At: 7, Why: 9} }
	for range 3 {
		_, again := s.Feed(ask)
		for _, err := range []error{first, again, s.End()} {
			wantFault(t, "a broken stream", err, "magic", 49, api.ErrMagic)
			spoilFault(err)
		}
		_, first = s.Feed(nil)
	}
	asks := map[string]func() error{
		"Encode": func() error { _, err := wire.Encode(api.Message{}); return err },
		"Decode": func() error { _, err := wire.Decode(nil); return err },
		"Peek":   func() error { _, _, err := wire.Peek([]byte("X")); return err },
		"Feed":   func() error { _, err := (*wire.Stream)(nil).Feed(nil); return err },
		"End":    func() error { return new(wire.Stream).End() },
	}
	for name, ask := range asks {
		expected := *ask().(*wire.Fault)
		spoilFault(ask())
		if got := *ask().(*wire.Fault); got != expected {
			t.Fatalf("%s: %v, not %v", name, got, expected)
		}
	}
}

// P3 of DOC.md: streams side by side, and calls in goroutines, answer as they do alone.
func TestCallsSideBySide(t *testing.T) {
	r := drawn(43)
	var all []api.Message
	var b []byte
	for range 20 {
		m := anyMessage(r)
		all, b = append(all, m), append(b, frameOf(m)...)
	}
	var wait sync.WaitGroup
	for g := range 8 {
		wait.Go(func() {
			s, told := wire.NewStream(), 0
			for i := 0; i < len(b); i += g + 1 {
				l, err := s.Feed(b[i:min(i+g+1, len(b))])
				for _, m := range l {
					frame, bad := wire.Encode(all[told])
					if again, worse := wire.Decode(frame); err != nil || bad != nil || worse != nil || !same(m, used(all[told])) || !same(again, m) {
						t.Errorf("message %d: %v %v %v", told, err, bad, worse)
					}
					told++
				}
			}
			if told != len(all) {
				t.Errorf("%d messages", told)
			}
		})
	}
	wait.Wait()
}
