package wire_test

import (
	"bytes"
	"math/rand"
	"slices"
	"testing"

	"rime/api"
	"rime/wire"
)

// watched is a stream with all the bytes that it took: behind each piece it is held against what the chapter makes of those.
type watched struct {
	stream *wire.Stream
	came   []byte
	told   []api.Message
	fault  told
	left   int
}

func newWatched() *watched { return &watched{stream: wire.NewStream()} }

// feed: the piece makes whole just those messages whose last byte it has.
func (w *watched) feed(t *testing.T, piece []byte) {
	t.Helper()
	ahead := len(w.told)
	got, err := w.stream.Feed(piece)
	if w.fault.field == "" {
		w.came = append(w.came, piece...)
		j := judgeStream(w.came)
		w.told, w.fault, w.left = j.messages, j.fault, len(w.came)-j.taken
	}
	if !slices.EqualFunc(got, w.told[ahead:], same) || toldBy(t, err) != w.fault {
		t.Fatalf("Feed of %x behind %x: %x %v, not %x %v", cut(piece), cut(w.came), got, err, w.told[ahead:], w.fault)
	}
	w.look(t)
}

func (w *watched) look(t *testing.T) {
	t.Helper()
	if got := w.stream.Left(); got != w.left {
		t.Fatalf("Left behind %x: %d, not %d", cut(w.came), got, w.left)
	}
	end := w.fault
	if end.field == "" && w.left > 0 {
		end = told{"frame", len(w.came), api.ErrLength}
	}
	if got := toldBy(t, w.stream.End()); got != end {
		t.Fatalf("End behind %x: %v, not %v", cut(w.came), got, end)
	}
}

// cuttings are places at which bytes are cut: none, all, and drawn ones.
func cuttings(r *rand.Rand, size int) [][]int {
	all := make([]int, max(size-1, 0))
	for i := range all {
		all[i] = i + 1
	}
	out := [][]int{nil, all}
	for range 4 {
		var some []int
		for range r.Intn(12) {
			some = append(some, r.Intn(size+1)) // a place may come twice: a piece of no bytes
		}
		slices.Sort(some)
		out = append(out, some)
	}
	return out
}

// fedIn: a new stream, fed with the bytes cut at these places.
func fedIn(t *testing.T, b []byte, places []int) *watched {
	t.Helper()
	w, from := newWatched(), 0
	w.look(t)
	for _, to := range append(slices.Clone(places), len(b)) {
		w.feed(t, b[from:to])
		from = to
	}
	return w
}

// P10.4 and P10.8.

func TestNewStream(t *testing.T) {
	s := wire.NewStream()
	if s == nil || s.Left() != 0 || s.End() != nil {
		t.Fatalf("%v %v", s.Left(), s.End())
	}
	for _, none := range [][]byte{nil, {}} {
		if l, err := s.Feed(none); len(l) != 0 || err != nil || s.Left() != 0 || s.End() != nil {
			t.Fatalf("%v %v %v %v", l, err, s.Left(), s.End())
		}
	}
}

func TestStreamTellsMessages(t *testing.T) {
	r := drawn(20)
	for range 30 {
		var b []byte
		var all []api.Message
		for range r.Intn(6) {
			m := anyMessage(r)
			all = append(all, used(m))
			b = append(b, frameOf(m)...)
		}
		for _, places := range cuttings(r, len(b)) {
			w := fedIn(t, b, places)
			if !slices.EqualFunc(w.told, all, same) || w.left != 0 || w.fault.field != "" {
				t.Fatalf("%x: %v left, %v", cut(b), w.left, w.fault)
			}
		}
	}
}

// Two cuts at all places.
func TestStreamCutAnywhere(t *testing.T) {
	r := drawn(21)
	short := drawnMessage(r, api.KindPackage)
	short.List, short.Text = nil, []byte("x")
	b := slices.Concat(frameOf(drawnMessage(r, api.KindAsk)), frameOf(short), frameOf(drawnMessage(r, api.KindRefuse)))
	for i := range len(b) + 1 {
		for j := i; j <= len(b); j += 1 + r.Intn(3) {
			fedIn(t, b, []int{i, j})
		}
	}
}

// wrongFrames are bytes of all faults that a stream may meet, each with what a Decode of it alone tells.
func wrongFrames(r *rand.Rand) map[string][]byte {
	m := drawnMessage(r, api.KindPackage)
	m.List = append(m.List, drawnPair(r))
	out := map[string][]byte{"magic": []byte("RIMO"), "version": []byte("RIME\x02"), "kind": []byte("RIME\x01\x07"), "length": headOf(3, api.MaxBody+1)}
	out["sum"] = frameOf(m)
	out["sum"][len(out["sum"])-1-r.Intn(4)] ^= 1 << r.Intn(8)
	out["body"] = frameOf(m)
	out["body"][10+r.Intn(len(out["body"])-14)] ^= 1 << r.Intn(8)
	body := bodyBytes(m)
	out["cut body"] = framed(m.Kind, body[:r.Intn(len(body))])
	out["tail"] = framed(m.Kind, append(slices.Clone(body), drawnBytes(r, 1+r.Intn(4))...))
	m.List[0].ID = 0
	out["list"] = frameOf(m)
	m = drawnMessage(r, api.KindRefuse)
	m.Code = 0
	out["code"] = frameOf(m)
	return out
}

// What was told ahead of a fault is the same for every cutting, and so is the fault; whatever comes behind it.
func TestStreamBreaks(t *testing.T) {
	r := drawn(22)
	for range 6 {
		for name, wrong := range wrongFrames(r) {
			var b []byte
			for range r.Intn(4) {
				b = append(b, frameOf(anyMessage(r))...)
			}
			begin := len(b)
			b = slices.Concat(b, wrong, frameOf(anyMessage(r)), drawnBytes(r, r.Intn(30)))
			whole := judgeStream(b)
			if whole.fault.field == "" || whole.taken != begin {
				t.Fatalf("%s: no fault", name)
			}
			for _, places := range cuttings(r, len(b)) {
				w := fedIn(t, b, places)
				if !slices.EqualFunc(w.told, whole.messages, same) || w.fault != whole.fault {
					t.Fatalf("%s: %x cut at %v: %v, not %v", name, cut(b), places, w.fault, whole.fault)
				}
				for range 3 { // it stays broken, and takes nothing
					w.feed(t, pick(r, [][]byte{nil, b, frameOf(anyMessage(r)), {1}}))
				}
			}
		}
	}
}

// The faults of a stream in full, so that no count is this test's own.
func TestStreamFaultsAtKnownPlaces(t *testing.T) {
	ask := frameOf(firstExample()) // 48 bytes
	refuse := frameOf(api.Message{Kind: api.KindRefuse})
	turned := slices.Clone(ask)
	turned[20] ^= 1
	for _, c := range []struct {
		wrong []byte
		told  told
	}{
		{[]byte("X"), told{"magic", 96, api.ErrMagic}},
		{[]byte("RIMX"), told{"magic", 99, api.ErrMagic}},
		{[]byte("RIME\x00"), told{"version", 100, api.ErrVersion}},
		{[]byte("RIME\x01\x00"), told{"kind", 101, api.ErrKind}},
		{[]byte("RIME\x01\x01\x7f\xff\xff\xff"), told{"length", 102, api.ErrLong}},
		{turned, told{"sum", 140, api.ErrSum}},
		{refuse, told{"code", 140, api.ErrArg}},
		{framed(api.KindAsk, nil), told{"session", 106, api.ErrLength}},
		{framed(api.KindAsk, make([]byte, 35)), told{"tail", 140, api.ErrTail}},
	} {
		s := wire.NewStream()
		l, err := s.Feed(slices.Concat(ask, ask, c.wrong, ask))
		if len(l) != 2 || toldBy(t, err) != c.told || s.Left() != len(c.wrong)+48 || toldBy(t, s.End()) != c.told {
			t.Fatalf("%v: %d messages, %v, %d left, %v", c.told, len(l), err, s.Left(), s.End())
		}
		l, err = s.Feed(ask)
		if len(l) != 0 || toldBy(t, err) != c.told || s.Left() != len(c.wrong)+48 {
			t.Fatalf("%v: %d messages, %v, %d left", c.told, len(l), err, s.Left())
		}
	}
}

// A fault shows with the first byte that makes it one, not sooner and not later.
func TestStreamBreaksAsSoonAsItShows(t *testing.T) {
	ask := frameOf(firstExample())
	spoilt := slices.Clone(ask)
	spoilt[12] = 1
	for _, c := range []struct {
		b     []byte
		shows int
	}{
		{[]byte("XIME\x01\x01"), 1}, {[]byte("RIMX\x01\x01"), 4}, {[]byte("RIME\x02\x01"), 5}, {[]byte("RIME\x01\x00\x00"), 6},
		{headOf(1, 1<<32-1), 10}, {spoilt, 48},
	} {
		s := wire.NewStream()
		for i := range c.b {
			_, err := s.Feed(c.b[i : i+1])
			if (err != nil) != (i+1 >= c.shows) {
				t.Fatalf("%x, byte %d: %v", c.b, i, err)
			}
		}
		if s.Left() != c.shows { // what was fed to a broken stream is not taken
			t.Fatalf("%x: %d left", c.b, s.Left())
		}
	}
}

func TestStreamOfLongFrames(t *testing.T) {
	r := drawn(23)
	m := drawnMessage(r, api.KindPackage)
	m.List, m.Text = drawnList(r, 255), drawnBytes(r, api.MaxMessage)
	b := slices.Concat(frameOf(m), frameOf(firstExample()), frameOf(m))
	s, told := wire.NewStream(), 0
	for len(b) > 0 {
		n := min(1+r.Intn(9000), len(b))
		l, err := s.Feed(b[:n])
		if err != nil {
			t.Fatal(err)
		}
		for _, got := range l {
			if told++; told == 2 && !same(got, firstExample()) || told != 2 && !same(got, used(m)) {
				t.Fatalf("message %d is another", told)
			}
		}
		b = b[n:]
	}
	if told != 3 || s.Left() != 0 || s.End() != nil {
		t.Fatalf("%d messages, %d left, %v", told, s.Left(), s.End())
	}
}

// Bytes one by one, of a long frame: a stream does not go through all that is left each time.
func TestStreamByteByByte(t *testing.T) {
	m := api.Message{Kind: api.KindPackage, Text: bytes.Repeat([]byte("text"), 1<<18-1)}
	b, s := frameOf(m), wire.NewStream()
	for i := range b {
		l, err := s.Feed(b[i : i+1])
		if err != nil || (len(l) == 1) != (i+1 == len(b)) {
			t.Fatalf("byte %d: %d messages, %v", i, len(l), err)
		}
	}
}

func TestStreamOfManyFrames(t *testing.T) {
	s := wire.NewStream()
	l, err := s.Feed(bytes.Repeat(frameOf(firstExample()), 20000))
	if len(l) != 20000 || err != nil || s.Left() != 0 || !same(l[19999], firstExample()) {
		t.Fatalf("%d messages, %v, %d left", len(l), err, s.Left())
	}
}

// P10.5: a stream that NewStream did not make.
func TestStreamThatNobodyMade(t *testing.T) {
	for _, s := range []*wire.Stream{nil, {}, new(wire.Stream)} {
		for _, piece := range [][]byte{nil, {1}, frameOf(firstExample())} {
			l, err := s.Feed(piece)
			wantFault(t, "Feed", err, "stream", 0, api.ErrMade)
			wantFault(t, "End", s.End(), "stream", 0, api.ErrMade)
			if len(l) != 0 || s.Left() != 0 {
				t.Fatalf("%v, %d left", l, s.Left())
			}
		}
	}
}
