package wire_test

import (
	"bytes"
	"crypto/sha512"
	"encoding/binary"
	"errors"
	"math"
	"math/rand"
	"slices"
	"testing"

	"rime/api"
	"rime/wire"
)

// The tests hold the package against the chapter's words, told anew here: frames are laid by encoding/binary and crypto/sha512, and read out of a table of fields.

func drawn(seed int64) *rand.Rand { return rand.New(rand.NewSource(seed)) }

func drawnBytes(r *rand.Rand, n int) []byte {
	b := make([]byte, n)
	r.Read(b)
	return b
}

func pick[T any](r *rand.Rand, l []T) T { return l[r.Intn(len(l))] }

func kinds() []api.Kind {
	return []api.Kind{api.KindAsk, api.KindCommit, api.KindPackage, api.KindShare, api.KindRefuse, api.KindDone}
}

// wrongIDs are no identifiers of a signer, and but for the first none of the coordinator, though some are one modulo a power of 2.
func wrongIDs() []int {
	return []int{0, -1, -2, -254, -255, -256, 256, 257, 511, 512, 1 << 16, 1<<16 + 1, 1 << 32, 1<<32 + 1, -1 << 32, math.MaxInt, math.MinInt, math.MinInt + 1}
}

func wrongParties() []int { return wrongIDs()[1:] }

func wrongKinds() []api.Kind {
	return []api.Kind{0, -1, -6, 7, 8, 255, 256, 257, 262, 1<<32 + 1, math.MaxInt, math.MinInt, math.MinInt + 1}
}

func wrongCodes() []api.Errno {
	return []api.Errno{0, -1, -65535, 65536, 65537, 1 << 17, 1<<32 + 1, math.MaxInt, math.MinInt, math.MinInt + 1}
}

func drawnPair(r *rand.Rand) api.Commitment {
	return api.Commitment{ID: 1 + r.Intn(api.MaxID), Hiding: api.Element(drawnBytes(r, 32)), Binding: api.Element(drawnBytes(r, 32))}
}

func drawnList(r *rand.Rand, count int) []api.Commitment {
	var list []api.Commitment
	for range count {
		list = append(list, drawnPair(r))
	}
	return list
}

// drawnMessage may be, and has all fields, also those that its kind does not use.
func drawnMessage(r *rand.Rand, kind api.Kind) api.Message {
	m := api.Message{Kind: kind, Session: api.Hash(drawnBytes(r, 32)), From: r.Intn(256), To: r.Intn(256), Pair: drawnPair(r)}
	m.List, m.Text = drawnList(r, r.Intn(5)), drawnBytes(r, r.Intn(200))
	m.Bind, m.Share, m.Sig = api.Hash(drawnBytes(r, 32)), api.Scalar(drawnBytes(r, 32)), api.Signature(drawnBytes(r, 64))
	m.Code = api.Errno(1 + r.Intn(65535))
	return m
}

func anyMessage(r *rand.Rand) api.Message { return drawnMessage(r, pick(r, kinds())) }

// used is what the message's kind uses of it.
func used(m api.Message) api.Message {
	out := api.Message{Kind: m.Kind, Session: m.Session, From: m.From, To: m.To}
	switch m.Kind {
	case api.KindCommit:
		out.Pair = m.Pair
	case api.KindPackage:
		out.List, out.Text = m.List, m.Text
	case api.KindShare:
		out.Pair, out.Bind, out.Share = m.Pair, m.Bind, m.Share
	case api.KindRefuse:
		out.Code = m.Code
	case api.KindDone:
		out.Sig = m.Sig
	}
	return out
}

// same: in all fields, nil and empty lists being one.
func same(a, b api.Message) bool {
	plain := a.Kind == b.Kind && a.Session == b.Session && a.From == b.From && a.To == b.To && a.Pair == b.Pair
	return plain && slices.Equal(a.List, b.List) && bytes.Equal(a.Text, b.Text) && a.Bind == b.Bind && a.Share == b.Share && a.Sig == b.Sig && a.Code == b.Code
}

func isZero(m api.Message) bool { return same(m, api.Message{}) && m.List == nil && m.Text == nil }

func pairBytes(c api.Commitment) []byte {
	return slices.Concat([]byte{byte(c.ID)}, c.Hiding[:], c.Binding[:])
}

// listBytes are how many there are, and each of them.
func listBytes(list []api.Commitment) []byte {
	out := []byte{byte(len(list))}
	for _, c := range list {
		out = append(out, pairBytes(c)...)
	}
	return out
}

func textBytes(text []byte) []byte {
	return append(binary.BigEndian.AppendUint32(nil, uint32(len(text))), text...)
}

// bodyBytes is the body as the chapter lays it.
func bodyBytes(m api.Message) []byte {
	front := slices.Concat(m.Session[:], []byte{byte(m.From), byte(m.To)})
	rest := map[api.Kind][]byte{
		api.KindCommit:  pairBytes(m.Pair),
		api.KindPackage: slices.Concat(listBytes(m.List), textBytes(m.Text)),
		api.KindShare:   slices.Concat(pairBytes(m.Pair), m.Bind[:], m.Share[:]),
		api.KindRefuse:  binary.BigEndian.AppendUint16(nil, uint16(m.Code)),
		api.KindDone:    m.Sig[:],
	}
	return append(front, rest[m.Kind]...)
}

// summed has the right sum behind it.
func summed(ahead []byte) []byte {
	sum := sha512.Sum512(ahead)
	return slices.Concat(ahead, sum[:4])
}

// framed is the frame of any body, right or not.
func framed(kind api.Kind, body []byte) []byte {
	head := append([]byte("RIME"), 1, byte(kind))
	return summed(slices.Concat(binary.BigEndian.AppendUint32(head, uint32(len(body))), body))
}

func frameOf(m api.Message) []byte { return framed(m.Kind, bodyBytes(m)) }

// headOf is a head that tells any length.
func headOf(kind byte, length uint32) []byte {
	return binary.BigEndian.AppendUint32(append([]byte("RIME"), 1, kind), length)
}

// told is a fault as a value: its Field is "" where there is none.
type told struct {
	field string
	at    int
	why   api.Errno
}

// toldBy: what an error tells; it must be a *wire.Fault itself, and be found by errors.Is and errors.As.
func toldBy(t *testing.T, err error) told {
	t.Helper()
	if err == nil {
		return told{}
	}
	f, ok := err.(*wire.Fault)
	if !ok || f == nil {
		t.Fatalf("%v (%T) is no fault", err, err)
	}
	var found *wire.Fault
	if !errors.As(err, &found) || *found != *f || !errors.Is(err, f.Why) {
		t.Fatalf("%v is not found", err)
	}
	return told{f.Field, f.At, f.Why}
}

func wantFault(t *testing.T, what string, err error, field string, at int, why api.Errno) {
	t.Helper()
	if got := toldBy(t, err); got != (told{field, at, why}) {
		t.Fatalf("%s: %v, not %s at %d: %v", what, err, field, at, why)
	}
}

func wantEncoded(t *testing.T, m api.Message) []byte {
	t.Helper()
	b, err := wire.Encode(m)
	if expected := frameOf(m); err != nil || !bytes.Equal(b, expected) {
		t.Fatalf("Encode of %x: %x %v, not %x", m, cut(b), err, cut(expected))
	}
	return b
}

func wantDecoded(t *testing.T, b []byte, expected api.Message) {
	t.Helper()
	if m, err := wire.Decode(b); err != nil || !same(m, expected) {
		t.Fatalf("Decode of %x: %x %v, not %x", cut(b), m, err, expected)
	}
}

// wantRefused: Decode tells that fault, and the zero message beside it.
func wantRefused(t *testing.T, what string, b []byte, field string, at int, why api.Errno) {
	t.Helper()
	m, err := wire.Decode(b)
	wantFault(t, "Decode of "+what, err, field, at, why)
	if !isZero(m) {
		t.Fatalf("Decode of %s: beside the fault stands %x", what, m)
	}
}

// wantPeekRefused: Peek tells that fault, zeroes beside it; and so does Decode.
func wantPeekRefused(t *testing.T, what string, b []byte, field string, at int, why api.Errno) {
	t.Helper()
	kind, size, err := wire.Peek(b)
	wantFault(t, "Peek of "+what, err, field, at, why)
	if kind != 0 || size != 0 {
		t.Fatalf("Peek of %s: beside the fault stand %v %v", what, kind, size)
	}
	wantRefused(t, what, b, field, at, why)
}

// cut is what a failure shows of long bytes.
func cut(b []byte) []byte { return b[:min(len(b), 300)] }

// spoil overwrites all of a list's room.
func spoil[T any](l []T, by T) {
	l = l[:cap(l)]
	for i := range l {
		l[i] = by
	}
}
