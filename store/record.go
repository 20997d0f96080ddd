package store

import (
	"rime/api"
	"rime/scalar"
	"rime/sha512"
	"rime/suite"
)

// kind is what a record tells of a pair.
type kind byte

const (
	cameIn   kind = iota + 1 // its nonces stand in the record
	wasUsed                  // it came in by another record
	onlyUsed                 // nothing else stands of it
)

// A record is its kind, two times 32 bytes, and a sum.
const (
	hidingAt   = 1
	bindingAt  = hidingAt + 32
	sumAt      = bindingAt + 32
	sumSize    = 8
	recordSize = sumAt + sumSize
)

// record has a pair's nonces, or its commitments, as its kind wants it.
type record struct {
	kind    kind
	hiding  [32]byte
	binding [32]byte
}

func recordOfNonces(n api.Nonces) record { return record{cameIn, n.Hiding, n.Binding} }

func recordOfUse(k kind, pair api.Commitment) record { return record{k, pair.Hiding, pair.Binding} }

// lay is the record as bytes for its place among the records.
func (r record) lay(place int) [recordSize]byte {
	var out [recordSize]byte
	out[0] = byte(r.kind)
	copy(out[hidingAt:], r.hiding[:])
	copy(out[bindingAt:], r.binding[:])
	sum := sumOf(place, out[:sumAt])
	copy(out[sumAt:], sum[:])
	return out
}

// layAll lays records one behind the other, from place 0 on.
func layAll(records []record) []byte {
	out := make([]byte, len(records)*recordSize)
	for place, r := range records {
		laid := r.lay(place)
		copy(out[place*recordSize:], laid[:])
	}
	return out
}

// readRecord: the record of as many bytes as one has, if its sum is right for that place.
func readRecord(place int, b []byte) (record, bool) {
	r := record{kind: kind(b[0])}
	copy(r.hiding[:], b[hidingAt:])
	copy(r.binding[:], b[bindingAt:])
	return r, sumOf(place, b[:sumAt]) == [sumSize]byte(b[sumAt:recordSize])
}

// sumOf has the place in it, so that a record counts where it was laid and nowhere else.
func sumOf(place int, b []byte) [sumSize]byte {
	var at [8]byte
	for i := range at {
		at[i] = byte(uint64(place) >> (8 * i))
	}
	digest := sha512.Join(at[:], b)
	return [sumSize]byte(digest[:sumSize])
}

// pair: the commitments (their ID is 0) that the record is about; false, if it has nonces that may not be.
func (r record) pair() (api.Commitment, bool) {
	if r.kind != cameIn {
		return api.Commitment{Hiding: r.hiding, Binding: r.binding}, true
	}
	if !scalar.Canonical(r.hiding) || !scalar.Canonical(r.binding) {
		return api.Commitment{}, false
	}
	pair, errno := commit(r.nonces())
	return pair, errno == api.OK
}

func (r record) nonces() api.Nonces { return api.Nonces{Hiding: r.hiding, Binding: r.binding} }

// commit: the commitments of nonces (their ID is 0), or ErrZero.
func commit(n api.Nonces) (api.Commitment, api.Errno) {
	hiding, errno := suite.Exp(n.Hiding)
	if errno != api.OK {
		return api.Commitment{}, errno
	}
	binding, errno := suite.Exp(n.Binding)
	if errno != api.OK {
		return api.Commitment{}, errno
	}
	return api.Commitment{Hiding: hiding, Binding: binding}, api.OK
}

func canonical(n api.Nonces) api.Nonces {
	return api.Nonces{Hiding: scalar.Reduce(n.Hiding[:]), Binding: scalar.Reduce(n.Binding[:])}
}
