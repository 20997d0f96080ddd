package eddsa

import (
	"slices"

	"rime/api"
	"rime/edwards"
	"rime/scalar"
	"rime/sha512"
)

// label begins the prefix of all modes but ModePure. Its bytes are no point, so that no R of ModePure can be taken for them.
const label = "SigEd25519 no Ed25519 collisions"

// text is a message as a mode takes it: what stands ahead of all that is hashed, and what is signed.
type text struct{ prefix, signed []byte }

func pure(message []byte) text { return text{signed: message} }

// textOf is the text, or the error of its mode and context.
func textOf(mode api.Mode, context, message []byte) (text, api.Errno) {
	if errno := checkMode(mode, context); errno != api.OK {
		return text{}, errno
	}
	switch mode {
	case api.ModeContext:
		return text{prefix(0, context), message}, api.OK
	case api.ModePrehash:
		digest := sha512.Sum(message)
		return text{prefix(1, context), digest[:]}, api.OK
	}
	return pure(message), api.OK
}

func checkMode(mode api.Mode, context []byte) api.Errno {
	least, most := 0, api.MaxContext
	switch mode {
	case api.ModePure:
		most = 0
	case api.ModeContext:
		least = 1
	case api.ModePrehash:
	default:
		return api.ErrArg
	}
	if len(context) < least || len(context) > most {
		return api.ErrContext
	}
	return api.OK
}

// prefix takes a context of at most 255 bytes: its length is one byte there.
func prefix(prehash byte, context []byte) []byte {
	return slices.Concat([]byte(label), []byte{prehash, byte(len(context))}, context)
}

// number is that of the digest of the prefix, the parts and what is signed, modulo L.
func (t *text) number(parts ...[]byte) api.Scalar {
	h := sha512.New()
	h.Write(t.prefix)
	for _, part := range parts {
		h.Write(part)
	}
	h.Write(t.signed)
	digest := h.Sum()
	return scalar.Reduce(digest[:])
}

func (t *text) challenge(r, public api.Element) api.Scalar { return t.number(r[:], public[:]) }

func (t *text) sign(seed api.Seed) api.Signature {
	secret, half := Secret(seed)
	nonce := t.number(half[:])
	r := edwards.MulBase(nonce)
	c := t.challenge(r, edwards.MulBase(secret))
	return Whole(r, scalar.MulAdd(c, secret, nonce))
}

// verify asks whether B times s, less A times c, is R. It is the opposite of A that is multiplied, and not A by the opposite of c: where A is outside the prime-order subgroup, its multiple by L - c is not the opposite of that by c.
func (t *text) verify(public api.Element, sig api.Signature) api.Errno {
	opposite, errno := edwards.Neg(public)
	if errno != api.OK {
		return api.ErrPublic
	}
	r, s := Halves(sig)
	if edwards.Check(r) != api.OK {
		return api.ErrR
	}
	if !scalar.Canonical(s) {
		return api.ErrS
	}
	c := t.challenge(r, public)
	sum, _ := edwards.Multi([]api.Scalar{s, c}, []api.Element{edwards.Base(), opposite})
	if sum != r {
		return api.ErrSignature
	}
	return api.OK
}
