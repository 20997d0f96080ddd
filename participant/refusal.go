package participant

import "rime/api"

// Refusal is why a call was refused.
type Refusal struct {
	Session api.Hash
	Code    api.Errno
}

// Error: the Code's text.
func (r *Refusal) Error() string {
	if r == nil {
		return ""
	}
	return r.Code.Error()
}

// Unwrap: the Code.
func (r *Refusal) Unwrap() error {
	if r == nil {
		return nil
	}
	return r.Code
}

func refuse(session api.Hash, errno api.Errno) (api.Message, error) {
	return api.Message{}, &Refusal{session, errno}
}

// safely: what foreign code answers. Whoever hands it in, no call of a participant panics: code that does counts as an argument that may not be.
func safely(ask func() api.Errno) (errno api.Errno) {
	defer func() {
		if recover() != nil {
			errno = api.ErrArg
		}
	}()
	return ask()
}
