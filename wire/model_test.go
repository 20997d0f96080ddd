package wire_test

import (
	"bytes"
	"crypto/sha512"
	"encoding/binary"

	"rime/api"
)

// What the chapter says of Peek, Decode and a stream, without a reader that goes forward: places are worked out, and then looked at.

// part is a field of a body: where it begins, where it ends (as far as the body tells), and what is wrong with it, if it is whole.
type part struct {
	field string
	from  int
	to    int
	wrong api.Errno
}

// judgeHead: the whole frame's length, or the fault.
func judgeHead(b []byte) (int, told) {
	short := told{"frame", len(b), api.ErrLength}
	for i := range 4 {
		if i >= len(b) {
			return 0, short
		}
		if b[i] != "RIME"[i] {
			return 0, told{"magic", i, api.ErrMagic}
		}
	}
	switch {
	case len(b) < 5:
		return 0, short
	case b[4] != 1:
		return 0, told{"version", 4, api.ErrVersion}
	case len(b) < 6:
		return 0, short
	case b[5] < 1 || b[5] > 6:
		return 0, told{"kind", 5, api.ErrKind}
	case len(b) < 10:
		return 0, short
	}
	length := int(binary.BigEndian.Uint32(b[6:10]))
	if length > 1065189 {
		return 0, told{"length", 6, api.ErrLong}
	}
	return length + 14, told{}
}

// judge: the message, or the fault.
func judge(b []byte) (api.Message, told) {
	size, fault := judgeHead(b)
	if fault.field != "" {
		return api.Message{}, fault
	}
	if len(b) < size {
		return api.Message{}, told{"frame", len(b), api.ErrLength}
	}
	if len(b) > size {
		return api.Message{}, told{"tail", size, api.ErrTail}
	}
	if sum := sha512.Sum512(b[:size-4]); !bytes.Equal(sum[:4], b[size-4:]) {
		return api.Message{}, told{"sum", size - 4, api.ErrSum}
	}
	parts := partsOf(b[:size-4])
	end := 0
	for _, p := range parts {
		if p.to > size-4 {
			return api.Message{}, told{p.field, p.from, api.ErrLength}
		}
		if p.wrong != api.OK {
			return api.Message{}, told{p.field, p.from, p.wrong}
		}
		end = p.to
	}
	if end < size-4 {
		return api.Message{}, told{"tail", end, api.ErrTail}
	}
	return messageOf(b[:size-4], parts), told{}
}

// partsOf: the fields of a frame without its sum, the last of which may be one that is cut.
func partsOf(b []byte) []part {
	parts := []part{{"session", 10, 42, 0}, {"from", 42, 43, 0}, {"to", 43, 44, 0}}
	switch api.Kind(b[5]) {
	case api.KindCommit:
		parts = append(parts, pairPart(b, "pair", 44))
	case api.KindPackage:
		parts = append(parts, packageParts(b)...)
	case api.KindShare:
		parts = append(parts, pairPart(b, "pair", 44), part{"bind", 109, 141, 0}, part{"share", 141, 173, 0})
	case api.KindRefuse:
		code := part{"code", 44, 46, 0}
		if len(b) >= 46 && b[44] == 0 && b[45] == 0 {
			code.wrong = api.ErrArg
		}
		parts = append(parts, code)
	case api.KindDone:
		parts = append(parts, part{"sig", 44, 108, 0})
	}
	return parts
}

func pairPart(b []byte, field string, from int) part {
	p := part{field, from, from + 65, 0}
	if from < len(b) && b[from] == 0 {
		p.wrong = api.ErrID
	}
	return p
}

func packageParts(b []byte) []part {
	parts := []part{{"list", 44, 45, 0}}
	if len(b) < 45 {
		return parts
	}
	at := 45
	for range b[44] {
		parts = append(parts, pairPart(b, "list", at))
		at += 65
	}
	if len(b) < at+4 {
		return append(parts, part{"text", at, at + 4, 0})
	}
	length := int(binary.BigEndian.Uint32(b[at:]))
	if length > 1<<20-1 {
		return append(parts, part{"text", at, at + 4, api.ErrLong})
	}
	return append(parts, part{"text", at, at + 4 + length, 0})
}

// messageOf: what whole and right parts tell.
func messageOf(b []byte, parts []part) api.Message {
	m := api.Message{Kind: api.Kind(b[5])}
	for i, p := range parts {
		is := b[p.from:p.to]
		switch p.field {
		case "session":
			copy(m.Session[:], is)
		case "from":
			m.From = int(is[0])
		case "to":
			m.To = int(is[0])
		case "pair":
			m.Pair = pairOf(is)
		case "list":
			if i > 3 { // the one ahead is their number
				m.List = append(m.List, pairOf(is))
			}
		case "text":
			m.Text = bytes.Clone(is[4:])
		case "bind":
			copy(m.Bind[:], is)
		case "share":
			copy(m.Share[:], is)
		case "code":
			m.Code = api.Errno(binary.BigEndian.Uint16(is))
		case "sig":
			copy(m.Sig[:], is)
		}
	}
	return m
}

func pairOf(b []byte) api.Commitment {
	return api.Commitment{ID: int(b[0]), Hiding: api.Element(b[1:33]), Binding: api.Element(b[33:65])}
}

// judged is what a stream makes of all the bytes that came: the messages, how many bytes those were, and the fault behind them.
type judged struct {
	messages []api.Message
	taken    int
	fault    told
}

func judgeStream(b []byte) judged {
	var j judged
	for {
		left := b[j.taken:]
		size, fault := judgeHead(left)
		if fault.why == api.ErrLength {
			return j
		}
		if fault.field != "" {
			j.fault = told{fault.field, j.taken + fault.at, fault.why}
			return j
		}
		if size > len(left) {
			return j
		}
		m, fault := judge(left[:size])
		if fault.field != "" {
			j.fault = told{fault.field, j.taken + fault.at, fault.why}
			return j
		}
		j.messages = append(j.messages, m)
		j.taken += size
	}
}
