package wire

import (
	"slices"

	"rime/api"
)

// check: the first fault of a message, if it may not be.
func check(m api.Message) error {
	switch {
	case !isKind(m.Kind):
		return &Fault{Field: "kind", Why: api.ErrKind}
	case !isParty(m.From):
		return &Fault{Field: "from", Why: api.ErrID}
	case !isParty(m.To):
		return &Fault{Field: "to", Why: api.ErrID}
	}
	switch m.Kind {
	case api.KindCommit, api.KindShare:
		return checkPair(m.Pair)
	case api.KindPackage:
		return checkPackage(m.List, m.Text)
	case api.KindRefuse:
		return checkCode(m.Code)
	}
	return nil
}

func checkPair(c api.Commitment) error {
	if !isSigner(c.ID) {
		return &Fault{Field: "pair", Why: api.ErrID}
	}
	return nil
}

func checkPackage(list []api.Commitment, text []byte) error {
	if len(list) > api.MaxID {
		return &Fault{Field: "list", Why: api.ErrCount}
	}
	for i, c := range list {
		if !isSigner(c.ID) {
			return &Fault{Field: "list", At: i, Why: api.ErrID}
		}
	}
	if len(text) > api.MaxMessage {
		return &Fault{Field: "text", Why: api.ErrLong}
	}
	return nil
}

// checkCode: a code has two bytes, and 0 is no error.
func checkCode(code api.Errno) error {
	if code < 1 || code > 0xffff {
		return &Fault{Field: "code", Why: api.ErrArg}
	}
	return nil
}

func isSigner(id int) bool { return 1 <= id && id <= api.MaxID }

// isParty: a signer, or the coordinator.
func isParty(id int) bool { return id == 0 || isSigner(id) }

// bodyOf: the body of a message that may be.
func bodyOf(m api.Message) []byte {
	b := slices.Concat(m.Session[:], []byte{byte(m.From), byte(m.To)})
	switch m.Kind {
	case api.KindCommit:
		b = putPair(b, m.Pair)
	case api.KindPackage:
		b = putPackage(b, m.List, m.Text)
	case api.KindShare:
		b = putPair(b, m.Pair)
		b = append(b, m.Bind[:]...)
		b = append(b, m.Share[:]...)
	case api.KindRefuse:
		b = append(b, byte(m.Code>>8), byte(m.Code))
	case api.KindDone:
		b = append(b, m.Sig[:]...)
	}
	return b
}

func putPackage(b []byte, list []api.Commitment, text []byte) []byte {
	b = append(b, byte(len(list)))
	for _, c := range list {
		b = putPair(b, c)
	}
	return append(putLength(b, len(text)), text...)
}

func putPair(b []byte, c api.Commitment) []byte {
	b = append(b, byte(c.ID))
	b = append(b, c.Hiding[:]...)
	return append(b, c.Binding[:]...)
}

// putLength: four bytes, the highest first.
func putLength(b []byte, n int) []byte {
	return append(b, byte(n>>24), byte(n>>16), byte(n>>8), byte(n))
}
