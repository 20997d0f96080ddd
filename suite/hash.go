package suite

import (
	"rime/api"
	"rime/scalar"
	"rime/sha512"
)

// Context stands ahead of what is hashed.
const Context = "FROST-ED25519-SHA512-v1"

// purpose is what a hash is taken for.
type purpose int

const (
	ofFactor purpose = iota
	ofChallenge
	ofNonce
	ofMessage
	ofList
)

// ahead is what stands ahead of the parts. Ahead of a challenge stands nothing, because it must be the one that everybody works out who checks the signature (RFC 8032).
func (p purpose) ahead() string {
	texts := [...]string{
		ofFactor:    Context + "rho",
		ofChallenge: "",
		ofNonce:     Context + "nonce",
		ofMessage:   Context + "msg",
		ofList:      Context + "com",
	}
	return texts[p]
}

func (p purpose) digest(parts ...[]byte) api.Digest {
	h := sha512.New()
	h.Write([]byte(p.ahead()))
	for _, part := range parts {
		h.Write(part)
	}
	return h.Sum()
}

func (p purpose) number(parts ...[]byte) api.Scalar {
	d := p.digest(parts...)
	return scalar.Reduce(d[:])
}

// H1: for binding factors.
func H1(parts ...[]byte) api.Scalar { return ofFactor.number(parts...) }

// H2: for challenges.
func H2(parts ...[]byte) api.Scalar { return ofChallenge.number(parts...) }

// H3: for nonces.
func H3(parts ...[]byte) api.Scalar { return ofNonce.number(parts...) }

// H4: of messages.
func H4(parts ...[]byte) api.Digest { return ofMessage.digest(parts...) }

// H5: of commitment lists.
func H5(parts ...[]byte) api.Digest { return ofList.digest(parts...) }
