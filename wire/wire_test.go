package wire_test

import (
	"bytes"
	"encoding/hex"
	"errors"
	"math"
	"slices"
	"strconv"
	"strings"
	"testing"

	"rime/api"
	"rime/wire"
)

// The chapter's examples.

func firstExample() api.Message { return api.Message{Kind: api.KindAsk, To: 3} }

func TestExample1(t *testing.T) {
	b, err := wire.Encode(firstExample())
	ahead, _ := hex.DecodeString("52494d45" + "01" + "01" + "00000022" + strings.Repeat("00", 32) + "00" + "03")
	if err != nil || len(b) != 48 || !bytes.Equal(b, summed(ahead)) {
		t.Fatalf("%x %v", b, err)
	}
	wantDecoded(t, b, firstExample())
}

func TestExample2(t *testing.T) {
	b, err := wire.Encode(api.Message{Kind: api.KindRefuse})
	wantFault(t, "a code 0", err, "code", 0, api.ErrArg)
	if len(b) != 0 || err.Error() != "code at 0: rime 1" {
		t.Fatalf("%x %v", b, err)
	}
	_, err = wire.Encode(api.Message{Kind: api.KindCommit})
	wantFault(t, "a pair with ID 0", err, "pair", 0, api.ErrID)
}

func TestExample3(t *testing.T) {
	b := wantEncoded(t, firstExample())
	wantPeekRefused(t, "RIMO..", []byte("RIMO.."), "magic", 3, api.ErrMagic)
	wantPeekRefused(t, "RI", []byte("RI"), "frame", 2, api.ErrLength)
	wantPeekRefused(t, "nil", nil, "frame", 0, api.ErrLength)
	wantPeekRefused(t, "no bytes", []byte{}, "frame", 0, api.ErrLength)
	wantRefused(t, "all but the last", b[:47], "frame", 47, api.ErrLength)
	wantRefused(t, "one more", append(slices.Clone(b), 0), "tail", 48, api.ErrTail)
	b[20] ^= 1
	wantRefused(t, "a byte turned", b, "sum", 44, api.ErrSum)
}

func TestExample4(t *testing.T) {
	b := wantEncoded(t, firstExample())
	s := wire.NewStream()
	if l, err := s.Feed(b[:47]); len(l) != 0 || err != nil || s.Left() != 47 {
		t.Fatalf("%v %v %v", l, err, s.Left())
	}
	if l, err := s.Feed(b[47:]); len(l) != 1 || err != nil || s.Left() != 0 || !same(l[0], firstExample()) {
		t.Fatalf("%v %v %v", l, err, s.Left())
	}
}

// A fault.

func TestFaultTellsItself(t *testing.T) {
	for _, f := range []wire.Fault{{"sum", 44, api.ErrSum}, {"", 0, api.OK}, {"x y", -7, -9}, {"text", math.MaxInt, math.MaxInt}, {"list", math.MinInt, api.ErrID}} {
		text := f.Field + " at " + strconv.Itoa(f.At) + ": rime " + strconv.Itoa(int(f.Why))
		if f.Error() != text || f.Unwrap() != error(f.Why) || !errors.Is(&f, f.Why) || errors.Is(&f, f.Why+1) {
			t.Fatalf("%q %v", f.Error(), f.Unwrap())
		}
	}
	if text := (&wire.Fault{Field: "sum", At: 44, Why: api.ErrSum}).Error(); text != "sum at 44: rime 103" {
		t.Fatal(text)
	}
}

func TestNilFault(t *testing.T) {
	var f *wire.Fault
	if f.Error() != "" || f.Unwrap() != nil {
		t.Fatalf("%q %v", f.Error(), f.Unwrap())
	}
}

// P10.1: Encode.

func TestEncodeOfEachKind(t *testing.T) {
	r := drawn(1)
	for range 50 {
		for _, kind := range kinds() {
			wantEncoded(t, drawnMessage(r, kind))
		}
	}
}

// A frame of each kind in full, so that no order of fields is this test's own.
func TestFramesOfKnownBytes(t *testing.T) {
	times := func(b string, n int) string { return strings.Repeat(b, n) }
	m := api.Message{From: 1, To: 254, Code: 0x1234, Text: []byte("hi")}
	for i := range 32 {
		m.Session[i], m.Bind[i], m.Share[i] = 0xa1, 0xd4, 0xe5
		m.Pair.Hiding[i], m.Pair.Binding[i] = 0xb2, 0xc3
		m.Sig[i], m.Sig[i+32] = 0xf6, 0x07
	}
	m.Pair.ID = 9
	m.List = []api.Commitment{m.Pair, {ID: 255, Hiding: m.Pair.Binding, Binding: m.Pair.Hiding}}
	front := times("a1", 32) + "01" + "fe"
	pair := "09" + times("b2", 32) + times("c3", 32)
	other := "ff" + times("c3", 32) + times("b2", 32)
	for kind, is := range map[api.Kind]string{
		api.KindAsk:     "01" + "00000022" + front,
		api.KindCommit:  "02" + "00000063" + front + pair,
		api.KindPackage: "03" + "000000ab" + front + "02" + pair + other + "00000002" + "6869",
		api.KindShare:   "04" + "000000a3" + front + pair + times("d4", 32) + times("e5", 32),
		api.KindRefuse:  "05" + "00000024" + front + "1234",
		api.KindDone:    "06" + "00000062" + front + times("f6", 32) + times("07", 32),
	} {
		m.Kind = kind
		ahead, err := hex.DecodeString("52494d4501" + is)
		b, bad := wire.Encode(m)
		if err != nil || bad != nil || !bytes.Equal(b, summed(ahead)) {
			t.Fatalf("kind %d: %x %v %v", kind, b, err, bad)
		}
		wantDecoded(t, b, used(m))
	}
}

func TestEncodeAtTheEdges(t *testing.T) {
	r := drawn(2)
	for _, party := range []int{0, 1, 254, 255} {
		for _, kind := range kinds() {
			m := drawnMessage(r, kind)
			m.From, m.To = party, 255-party
			wantDecoded(t, wantEncoded(t, m), used(m))
		}
	}
	for _, id := range []int{1, 2, 127, 128, 254, 255} {
		for _, kind := range []api.Kind{api.KindCommit, api.KindShare, api.KindPackage} {
			m := drawnMessage(r, kind)
			m.Pair.ID, m.List = id, append(m.List, api.Commitment{ID: id})
			wantDecoded(t, wantEncoded(t, m), used(m))
		}
	}
	for _, code := range []api.Errno{1, 2, 255, 256, 257, 32768, 65534, 65535} {
		m := drawnMessage(r, api.KindRefuse)
		m.Code = code
		wantDecoded(t, wantEncoded(t, m), used(m))
	}
}

func TestPackagesOfAllLengths(t *testing.T) {
	r := drawn(3)
	for _, count := range []int{0, 1, 2, 127, 128, 254, 255} {
		for _, length := range []int{0, 1, 255, 256, 65535, 65536} {
			m := drawnMessage(r, api.KindPackage)
			m.List, m.Text = drawnList(r, count), drawnBytes(r, length)
			wantDecoded(t, wantEncoded(t, m), used(m))
		}
	}
}

// The longest body is MaxBody; one more byte of text is too much, wherever it is told.
func TestLongestPackage(t *testing.T) {
	r := drawn(4)
	m := drawnMessage(r, api.KindPackage)
	m.List, m.Text = drawnList(r, 255), drawnBytes(r, api.MaxMessage)
	b := wantEncoded(t, m)
	if len(b) != api.MaxBody+14 {
		t.Fatalf("%d bytes", len(b))
	}
	wantDecoded(t, b, used(m))
	kind, size, err := wire.Peek(b)
	if kind != api.KindPackage || size != len(b) || err != nil {
		t.Fatalf("Peek: %v %v %v", kind, size, err)
	}
	m.Text = append(m.Text, 1)
	b, err = wire.Encode(m)
	wantFault(t, "a long text", err, "text", 0, api.ErrLong)
	if len(b) != 0 {
		t.Fatal("beside a fault stand bytes")
	}
	wantRefused(t, "a long text", frameOf(m), "length", 6, api.ErrLong)
	m.List = m.List[:254]
	wantRefused(t, "a long text", frameOf(m), "text", 45+254*65, api.ErrLong)
}

// Nil and empty lists are one.
func TestEmptyPackage(t *testing.T) {
	none := wantEncoded(t, api.Message{Kind: api.KindPackage})
	empty := wantEncoded(t, api.Message{Kind: api.KindPackage, List: []api.Commitment{}, Text: []byte{}})
	if !bytes.Equal(none, empty) || len(none) != 53 {
		t.Fatalf("%x, %x", none, empty)
	}
	wantDecoded(t, none, api.Message{Kind: api.KindPackage})
}

// What a kind does not use may be anything, and is nowhere to be seen.
func TestFieldsThatAreNotUsed(t *testing.T) {
	r := drawn(5)
	for _, kind := range kinds() {
		m := used(drawnMessage(r, kind))
		b := wantEncoded(t, m)
		full := api.Message{Kind: kind, Session: m.Session, From: m.From, To: m.To}
		full.Pair, full.List, full.Text = api.Commitment{ID: -1, Hiding: api.Element{1}}, make([]api.Commitment, 256), make([]byte, api.MaxMessage+1)
		full.Bind, full.Share, full.Sig, full.Code = api.Hash{1}, api.Scalar{1}, api.Signature{1}, -1
		switch kind {
		case api.KindCommit:
			full.Pair = m.Pair
		case api.KindPackage:
			full.List, full.Text = m.List, m.Text
		case api.KindShare:
			full.Pair, full.Bind, full.Share = m.Pair, m.Bind, m.Share
		case api.KindRefuse:
			full.Code = m.Code
		case api.KindDone:
			full.Sig = m.Sig
		}
		if got, err := wire.Encode(full); err != nil || !bytes.Equal(got, b) {
			t.Fatalf("kind %d: %x %v", kind, got, err)
		}
	}
}

func TestFieldsComeBackZero(t *testing.T) {
	r := drawn(6)
	for _, kind := range kinds() {
		m, err := wire.Decode(wantEncoded(t, drawnMessage(r, kind)))
		if err != nil || !same(m, used(m)) || kind != api.KindPackage && (m.List != nil || m.Text != nil) {
			t.Fatalf("kind %d: %x %v", kind, m, err)
		}
	}
}

func TestEncodeRefuses(t *testing.T) {
	r := drawn(7)
	for _, kind := range wrongKinds() {
		wantNotEncoded(t, drawnMessage(r, kind), "kind", 0, api.ErrKind)
	}
	for _, kind := range kinds() {
		for _, party := range wrongParties() {
			m := drawnMessage(r, kind)
			m.From = party
			wantNotEncoded(t, m, "from", 0, api.ErrID)
			m = drawnMessage(r, kind)
			m.To = party
			wantNotEncoded(t, m, "to", 0, api.ErrID)
		}
	}
	for _, id := range wrongIDs() {
		for _, kind := range []api.Kind{api.KindCommit, api.KindShare} {
			m := drawnMessage(r, kind)
			m.Pair.ID = id
			wantNotEncoded(t, m, "pair", 0, api.ErrID)
		}
	}
	for _, code := range wrongCodes() {
		m := drawnMessage(r, api.KindRefuse)
		m.Code = code
		wantNotEncoded(t, m, "code", 0, api.ErrArg)
	}
}

func TestEncodeRefusesPackages(t *testing.T) {
	r := drawn(8)
	for _, count := range []int{256, 257, 300, 512} {
		m := drawnMessage(r, api.KindPackage)
		m.List = drawnList(r, count)
		wantNotEncoded(t, m, "list", 0, api.ErrCount)
	}
	for _, count := range []int{1, 2, 10, 255} {
		for _, id := range wrongIDs() {
			m := drawnMessage(r, api.KindPackage)
			m.List = drawnList(r, count)
			at := r.Intn(count)
			m.List[at].ID = id
			m.List[at+r.Intn(count-at)].ID = id // the first is told
			wantNotEncoded(t, m, "list", at, api.ErrID)
		}
	}
	for _, more := range []int{1, 2, 1 << 20} {
		m := drawnMessage(r, api.KindPackage)
		m.Text = make([]byte, api.MaxMessage+more)
		wantNotEncoded(t, m, "text", 0, api.ErrLong)
	}
}

func wantNotEncoded(t *testing.T, m api.Message, field string, at int, why api.Errno) {
	t.Helper()
	b, err := wire.Encode(m)
	wantFault(t, "Encode", err, field, at, why)
	if len(b) != 0 {
		t.Fatalf("beside %v stands %x", err, cut(b))
	}
}

// P10.1 and P4 of DOC.md: of two faults the one that is named first is told.
func TestOrderOfEncode(t *testing.T) {
	r := drawn(9)
	type spoilt struct {
		told
		kinds []api.Kind
		put   func(*api.Message)
	}
	pairs, packages := []api.Kind{api.KindCommit, api.KindShare}, []api.Kind{api.KindPackage}
	faults := []spoilt{
		{told{"kind", 0, api.ErrKind}, kinds(), func(m *api.Message) { m.Kind = pick(r, wrongKinds()) }},
		{told{"from", 0, api.ErrID}, kinds(), func(m *api.Message) { m.From = pick(r, wrongParties()) }},
		{told{"to", 0, api.ErrID}, kinds(), func(m *api.Message) { m.To = pick(r, wrongParties()) }},
		{told{"pair", 0, api.ErrID}, pairs, func(m *api.Message) { m.Pair.ID = pick(r, wrongIDs()) }},
		{told{"list", 0, api.ErrCount}, packages, func(m *api.Message) { m.List = append(m.List, drawnList(r, 253)...) }},
		{told{"list", 1, api.ErrID}, packages, func(m *api.Message) { m.List[1].ID = pick(r, wrongIDs()) }},
		{told{"list", 3, api.ErrID}, packages, func(m *api.Message) { m.List[3].ID = pick(r, wrongIDs()) }},
		{told{"text", 0, api.ErrLong}, packages, func(m *api.Message) { m.Text = make([]byte, api.MaxMessage+1) }},
		{told{"code", 0, api.ErrArg}, []api.Kind{api.KindRefuse}, func(m *api.Message) { m.Code = pick(r, wrongCodes()) }},
	}
	for _, kind := range kinds() {
		for i, first := range faults {
			for _, second := range faults[i:] {
				if !slices.Contains(first.kinds, kind) || !slices.Contains(second.kinds, kind) {
					continue
				}
				m := drawnMessage(r, kind)
				m.List = drawnList(r, 4)
				second.put(&m)
				first.put(&m)
				wantNotEncoded(t, m, first.field, first.at, first.why)
			}
		}
	}
}

// P10.2: Peek.

func TestPeekOfEachKind(t *testing.T) {
	r := drawn(10)
	for range 20 {
		for _, kind := range kinds() {
			b := frameOf(drawnMessage(r, kind))
			for _, seen := range [][]byte{b, b[:10], b[:11+r.Intn(len(b)-11)], slices.Concat(b, b)} {
				if got, size, err := wire.Peek(seen); got != kind || size != len(b) || err != nil {
					t.Fatalf("Peek of %x: %v %v %v", cut(seen), got, size, err)
				}
			}
		}
	}
}

// Peek looks at nothing behind the head, and takes any length that a body may have.
func TestPeekOfLengths(t *testing.T) {
	for _, kind := range kinds() {
		for _, length := range []uint32{0, 1, 33, 34, 255, 256, 65535, 65536, 1 << 20, api.MaxBody - 1, api.MaxBody} {
			if got, size, err := wire.Peek(headOf(byte(kind), length)); got != kind || size != int(length)+14 || err != nil {
				t.Fatalf("Peek of length %d: %v %v %v", length, got, size, err)
			}
		}
		for _, length := range []uint32{api.MaxBody + 1, api.MaxBody + 2, 1 << 21, 1 << 24, 1<<31 - 1, 1 << 31, 1<<32 - 1} {
			wantPeekRefused(t, "a long body", headOf(byte(kind), length), "length", 6, api.ErrLong)
		}
	}
}

func TestPeekOfAnotherMagic(t *testing.T) {
	for i := range 4 {
		for c := range 256 {
			b := frameOf(firstExample())
			if byte(c) == b[i] {
				continue
			}
			b[i] = byte(c)
			wantPeekRefused(t, "another magic", b, "magic", i, api.ErrMagic)
			wantPeekRefused(t, "another magic, cut", b[:i+1], "magic", i, api.ErrMagic)
			b[4], b[5], b[6] = 0, 0, 255
			for j := i + 1; j < 4; j++ { // the first is told
				b[j] = 0
			}
			wantPeekRefused(t, "another magic and all else", b, "magic", i, api.ErrMagic)
		}
	}
}

func TestPeekOfAnotherVersionOrKind(t *testing.T) {
	for c := range 256 {
		b := frameOf(firstExample())
		if b[4] = byte(c); c != 1 {
			wantPeekRefused(t, "another version", b, "version", 4, api.ErrVersion)
			wantPeekRefused(t, "another version, cut", b[:5], "version", 4, api.ErrVersion)
			b[5], b[6] = 0, 255
			wantPeekRefused(t, "another version and kind", b, "version", 4, api.ErrVersion)
		}
		b = frameOf(firstExample())
		if b[5] = byte(c); c < 1 || c > 6 {
			wantPeekRefused(t, "another kind", b, "kind", 5, api.ErrKind)
			wantPeekRefused(t, "another kind, cut", b[:6], "kind", 5, api.ErrKind)
			b[6] = 255
			wantPeekRefused(t, "another kind and length", b, "kind", 5, api.ErrKind)
		}
	}
}

// Where the bytes end, that is told of the frame; a length is looked at when all four bytes are there.
func TestPeekOfCutHeads(t *testing.T) {
	for n := range 10 {
		wantPeekRefused(t, "a cut head", headOf(1, 34)[:n], "frame", n, api.ErrLength)
		wantPeekRefused(t, "a cut head of a long body", headOf(1, math.MaxUint32)[:n], "frame", n, api.ErrLength)
	}
}

// P10.3: Decode.

func TestDecodeOfEachKind(t *testing.T) {
	r := drawn(11)
	for range 50 {
		m := anyMessage(r)
		wantDecoded(t, frameOf(m), used(m))
	}
}

// A body that is cut anywhere, with a right length and sum: the field in which it ends.
func TestDecodeOfCutBodies(t *testing.T) {
	type field struct {
		name string
		end  int // in the body
	}
	front := []field{{"session", 32}, {"from", 33}, {"to", 34}}
	r := drawn(12)
	for kind, rest := range map[api.Kind][]field{
		api.KindAsk:     {},
		api.KindCommit:  {{"pair", 99}},
		api.KindPackage: {{"list", 35}, {"list", 100}, {"list", 165}, {"list", 230}, {"text", 241}},
		api.KindShare:   {{"pair", 99}, {"bind", 131}, {"share", 163}},
		api.KindRefuse:  {{"code", 36}},
		api.KindDone:    {{"sig", 98}},
	} {
		m := drawnMessage(r, kind)
		m.List, m.Text = drawnList(r, 3), drawnBytes(r, 7)
		body, begin := bodyBytes(m), 0
		for _, f := range append(slices.Clone(front), rest...) {
			for n := begin; n < f.end; n++ {
				wantRefused(t, "a cut body", framed(kind, body[:n]), f.name, 10+begin, api.ErrLength)
			}
			begin = f.end
		}
		if begin != len(body) {
			t.Fatalf("kind %d: the body has %d bytes", kind, len(body))
		}
		wantDecoded(t, framed(kind, body), used(m))
		for _, more := range [][]byte{{0}, {1}, drawnBytes(r, 65), body} {
			wantRefused(t, "a body that goes on", framed(kind, slices.Concat(body, more)), "tail", 10+begin, api.ErrTail)
		}
	}
}

func TestDecodeOfIDZero(t *testing.T) {
	r := drawn(13)
	for _, kind := range []api.Kind{api.KindCommit, api.KindShare} {
		m := drawnMessage(r, kind)
		m.Pair.ID = 0
		body := bodyBytes(m)
		wantRefused(t, "ID 0", framed(kind, body), "pair", 44, api.ErrID)
		wantRefused(t, "ID 0 and a tail", framed(kind, append(body, 1)), "pair", 44, api.ErrID)
		for n := 34; n < 99; n++ {
			wantRefused(t, "ID 0, cut", framed(kind, body[:n]), "pair", 44, api.ErrLength)
		}
		for n := 99; n < len(body); n++ {
			wantRefused(t, "ID 0, cut behind it", framed(kind, body[:n]), "pair", 44, api.ErrID)
		}
	}
	for _, count := range []int{1, 2, 5, 255} {
		for range 5 {
			m := drawnMessage(r, api.KindPackage)
			m.List = drawnList(r, count)
			at := r.Intn(count)
			m.List[at].ID = 0
			m.List[at+r.Intn(count-at)].ID = 0 // the first is told
			body, begin := bodyBytes(m), 35+65*at
			wantRefused(t, "ID 0", framed(m.Kind, body), "list", 10+begin, api.ErrID)
			wantRefused(t, "ID 0, cut", framed(m.Kind, body[:begin+64]), "list", 10+begin, api.ErrLength)
			wantRefused(t, "ID 0, cut behind it", framed(m.Kind, body[:begin+65]), "list", 10+begin, api.ErrID)
		}
	}
}

func TestDecodeOfLongTexts(t *testing.T) {
	r := drawn(14)
	m := drawnMessage(r, api.KindPackage)
	m.Text = []byte("text")
	body := bodyBytes(m)
	at := len(body) - 8
	for _, high := range [][]byte{{0, 16, 0, 0}, {0, 16, 0, 4}, {1, 0, 0, 4}, {127, 255, 255, 255}, {128, 0, 0, 4}, {255, 255, 255, 255}} {
		copy(body[at:], high)
		wantRefused(t, "a long text", framed(m.Kind, body), "text", 10+at, api.ErrLong)
		wantRefused(t, "a long text, cut", framed(m.Kind, body[:at+4]), "text", 10+at, api.ErrLong)
		wantRefused(t, "a long text's length, cut", framed(m.Kind, body[:at+3]), "text", 10+at, api.ErrLength)
	}
	for _, high := range [][]byte{{0, 15, 255, 255}, {0, 1, 0, 4}, {0, 0, 0, 5}} {
		copy(body[at:], high)
		wantRefused(t, "a text that is cut", framed(m.Kind, body), "text", 10+at, api.ErrLength)
	}
	copy(body[at:], []byte{0, 0, 0, 3})
	wantRefused(t, "a text that goes on", framed(m.Kind, body), "tail", 10+at+7, api.ErrTail)
}

func TestDecodeOfCodes(t *testing.T) {
	r := drawn(15)
	m := drawnMessage(r, api.KindRefuse)
	for code := range 65536 {
		if m.Code = api.Errno(code); code%251 == 0 && code > 0 {
			wantDecoded(t, frameOf(m), used(m))
		}
	}
	m.Code = 0
	wantRefused(t, "a code 0", frameOf(m), "code", 44, api.ErrArg)
	wantRefused(t, "a code 0 and a tail", framed(m.Kind, append(bodyBytes(m), 0)), "code", 44, api.ErrArg)
	wantRefused(t, "a code 0, cut", framed(m.Kind, bodyBytes(m)[:35]), "code", 44, api.ErrLength)
}

// Of a frame that is wrong in many ways the first fault is told: its length ahead of its sum, that ahead of its body.
func TestOrderOfDecode(t *testing.T) {
	r := drawn(16)
	m := drawnMessage(r, api.KindRefuse)
	m.Code = 0
	b := frameOf(m)
	wantRefused(t, "a wrong body", b, "code", 44, api.ErrArg)
	b[len(b)-1] ^= 1
	wantRefused(t, "a wrong sum", b, "sum", 46, api.ErrSum)
	wantRefused(t, "a cut frame", b[:49], "frame", 49, api.ErrLength)
	wantRefused(t, "a frame without its sum", b[:46], "frame", 46, api.ErrLength)
	wantRefused(t, "bytes behind a frame", append(slices.Clone(b), 7), "tail", 50, api.ErrTail)
	b[9]++
	wantRefused(t, "a length above", b, "frame", 50, api.ErrLength)
	b[9] -= 2
	wantRefused(t, "a length below", b, "tail", 49, api.ErrTail)
	b[5] = 7
	wantRefused(t, "another kind", b, "kind", 5, api.ErrKind)
	b[4] = 2
	wantRefused(t, "another version", b, "version", 4, api.ErrVersion)
	b[3] = 'F'
	wantRefused(t, "another magic", b, "magic", 3, api.ErrMagic)
}

// A frame whose body has no bytes at all.
func TestDecodeOfNoBody(t *testing.T) {
	for _, kind := range kinds() {
		wantRefused(t, "no body", framed(kind, nil), "session", 10, api.ErrLength)
	}
}
