package wire

import (
	"errors"

	"rime/api"
)

// Stream takes frames that are cut anywhere. Once it is broken it keeps the fault alone: the bytes that are left are of no more use.
type Stream struct {
	made  bool
	fed   int    // how many bytes ever came
	taken int    // how many of them were whole frames
	left  []byte // the others, as long as the stream is not broken
	fault Fault  // its Why is OK, as long as the stream is not broken
}

// NewStream: nothing has been fed.
func NewStream() *Stream { return &Stream{made: true} }

// Feed: a piece; the messages that it makes whole.
func (s *Stream) Feed(piece []byte) ([]api.Message, error) {
	if err := s.broken(); err != nil {
		return nil, err
	}
	s.fed += len(piece)
	s.left = append(s.left, piece...)
	messages, size, err := wholeOnes(s.left)
	s.taken += size
	if err != nil {
		s.breakOff(err)
		return messages, s.broken()
	}
	if size > 0 { // a copy, so that no more is kept than is left
		s.left = append([]byte(nil), s.left[size:]...)
	}
	return messages, nil
}

// Left: how many bytes are left.
func (s *Stream) Left() int {
	if s == nil {
		return 0
	}
	return s.fed - s.taken
}

// End: is nothing left?
func (s *Stream) End() error {
	if err := s.broken(); err != nil {
		return err
	}
	if s.Left() > 0 {
		return &Fault{Field: "frame", At: s.fed, Why: api.ErrLength}
	}
	return nil
}

// broken: why the stream takes nothing, or nil. Each time the fault is another copy, so that none who is told of it can change it for others.
func (s *Stream) broken() error {
	if s == nil || !s.made {
		return &Fault{Field: "stream", Why: api.ErrMade}
	}
	if s.fault.Why == api.OK {
		return nil
	}
	again := s.fault
	return &again
}

// breakOff: the fault, whose place is counted from what is left on, is now counted from the first byte that ever came.
func (s *Stream) breakOff(err error) {
	var f *Fault
	if errors.As(err, &f) {
		s.fault = Fault{Field: f.Field, At: s.taken + f.At, Why: f.Why}
	}
	s.left = nil
}

// wholeOnes: the messages of the whole frames that stand at the beginning, how many bytes these are, and the fault of what comes behind them, if it shows already.
func wholeOnes(b []byte) ([]api.Message, int, error) {
	var messages []api.Message
	taken := 0
	for {
		m, size, err := first(b[taken:])
		if err != nil || size == 0 {
			return messages, taken, err
		}
		messages = append(messages, m)
		taken += size
	}
}

// first: the message of the frame that stands at the beginning, and its length; 0, if it is not whole yet.
func first(b []byte) (api.Message, int, error) {
	_, size, err := Peek(b)
	if errors.Is(err, api.ErrLength) || err == nil && len(b) < size {
		return api.Message{}, 0, nil
	}
	if err != nil {
		return api.Message{}, 0, err
	}
	m, err := Decode(b[:size])
	return m, size, err
}
