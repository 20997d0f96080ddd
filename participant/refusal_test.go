package participant_test

import (
	"errors"
	"testing"

	"rime/api"
	"rime/participant"
)

func TestRefusals(t *testing.T) {
	for _, code := range []api.Errno{api.ErrUsed, api.ErrID, api.ErrRuns, api.OK, -1, 1 << 40} {
		for _, session := range []api.Hash{{}, {1}, {31: 255}} {
			r := &participant.Refusal{Session: session, Code: code}
			if r.Error() != code.Error() || r.Unwrap() != error(code) {
				t.Fatalf("%v of %x: %q, %v", code, session, r.Error(), r.Unwrap())
			}
			if !errors.Is(r, code) || errors.Is(r, code+1) {
				t.Fatalf("%v is not asked for by errors.Is", code)
			}
			var errno api.Errno
			if !errors.As(r, &errno) || errno != code {
				t.Fatalf("%v is not asked for by errors.As", code)
			}
			if *r != (participant.Refusal{Session: session, Code: code}) {
				t.Fatalf("%v of %x was changed: %v", code, session, *r)
			}
		}
	}
	if text := (&participant.Refusal{Code: api.ErrUsed}).Error(); text != "rime 132" {
		t.Fatalf("ErrUsed: %q", text)
	}
}

func TestRefusalThatIsNil(t *testing.T) {
	var r *participant.Refusal
	if r.Error() != "" || r.Unwrap() != nil || errors.Is(r, api.ErrUsed) {
		t.Fatalf("a nil Refusal: %q, %v", r.Error(), r.Unwrap())
	}
}

// A Refusal is its caller's: the next one is not touched by what becomes of it.
func TestRefusalsAreNew(t *testing.T) {
	shares, _ := dealt(t, drawn(10), 2, 7, 8)
	w := born(t, shares[0], nil, nil)
	calls := []func() error{
		func() error { _, err := w.p.Ask(api.Hash{1}); return err },
		func() error { _, err := w.p.Sign(api.Hash{1}, nil, nil); return err },
		func() error { _, err := w.p.Handle(api.Message{Session: api.Hash{1}}); return err },
		func() error { _, err := (*participant.Participant)(nil).Ask(api.Hash{1}); return err },
		func() error { _, err := participant.New(shares[0], w.d, nil); return err },
	}
	for _, call := range calls {
		first := call().(*participant.Refusal)
		kept := *first
		*first = participant.Refusal{Session: api.Hash{9}, Code: api.ErrRuns}
		if second := call().(*participant.Refusal); *second != kept || second == first {
			t.Fatalf("behind %v: %v", kept, *second)
		}
	}
}

// A Participant that no call made.
func TestUnmade(t *testing.T) {
	r := drawn(11)
	list := []api.Commitment{commitmentOf(r, 1), commitmentOf(r, 2)}
	for _, p := range []*participant.Participant{nil, {}} {
		for range 2 {
			session := api.Hash{3}
			m, err := p.Ask(session)
			wantUnmade(t, "Ask", m, err, session)
			m, err = p.Sign(session, list, []byte("hi"))
			wantUnmade(t, "Sign", m, err, session)
			m, err = p.Sign(session, nil, make([]byte, longest+1))
			wantUnmade(t, "Sign of too much", m, err, session)
			for kind := range api.Kind(8) {
				m, err = p.Handle(api.Message{Kind: kind, Session: session, List: list, From: int(kind) % 2})
				wantUnmade(t, "Handle", m, err, session)
			}
			p.SetGuard(func([]byte) api.Errno { t.Fatal("the guard was asked"); return api.OK })
			p.SetGuard(nil)
			if p.Look() != (api.SignerLook{}) || len(p.Pairs()) != 0 {
				t.Fatalf("%v %v", p.Look(), p.Pairs())
			}
		}
	}
}

func wantUnmade(t *testing.T, call string, m api.Message, err error, session api.Hash) {
	t.Helper()
	wantRefusal(t, call, err, session, api.ErrMade)
	wantNoMessage(t, call, m)
}

func wantNoMessage(t *testing.T, call string, m api.Message) {
	t.Helper()
	if m.Kind != 0 || m.Session != (api.Hash{}) || m.From != 0 || m.To != 0 || m.Pair != (api.Commitment{}) || len(m.List) != 0 || len(m.Text) != 0 {
		t.Fatalf("%s: a message beside an error: %v", call, m)
	}
	if m.Bind != (api.Hash{}) || m.Share != (api.Scalar{}) || m.Sig != (api.Signature{}) || m.Code != api.OK {
		t.Fatalf("%s: a message beside an error: %v", call, m)
	}
}
