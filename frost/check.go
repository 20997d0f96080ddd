package frost

import (
	"slices"

	"rime/api"
	"rime/scalar"
	"rime/suite"
)

func isID(id int) bool { return id >= 1 && id <= api.MaxID }

func isThreshold(t int) bool { return t >= api.MinSigners && t <= api.MaxID }

func isElement(e api.Element) bool {
	_, errno := suite.GetElement(e[:])
	return errno == api.OK
}

// checkNext: may an identifier stand behind the one ahead of it? Ahead of the first stands 0.
func checkNext(id, ahead int) api.Errno {
	switch {
	case !isID(id):
		return api.ErrID
	case id == ahead:
		return api.ErrTwice
	case id < ahead:
		return api.ErrOrder
	}
	return api.OK
}

// checkAsked: may these be signed together?
func checkAsked(group api.Element, list []api.Commitment, message []byte) api.Errno {
	switch {
	case len(message) > api.MaxMessage:
		return api.ErrLong
	case !isElement(group):
		return api.ErrPublic
	}
	return CheckList(list)
}

// checkSigner: may this key sign these, if it is among the list's?
func checkSigner(key api.KeyShare, list []api.Commitment, message []byte) api.Errno {
	switch {
	case !isID(key.ID):
		return api.ErrID
	case !isThreshold(key.Threshold):
		return api.ErrThreshold
	}
	if errno := checkAsked(key.Group, list, message); errno != api.OK {
		return errno
	}
	if len(list) < key.Threshold {
		return api.ErrCount
	}
	return api.OK
}

// checkSigners: are those of a list, which may be, enough, and all of the group?
func checkSigners(threshold int, publics map[int]api.PublicShare, list []api.Commitment) api.Errno {
	if len(list) < threshold {
		return api.ErrCount
	}
	for _, c := range list {
		if _, ok := publics[c.ID]; !ok {
			return api.ErrMissing
		}
	}
	return api.OK
}

// checkFactors: are there as many as commitments, each in its place?
func checkFactors(list []api.Commitment, factors []api.Factor) api.Errno {
	if !slices.EqualFunc(list, factors, func(c api.Commitment, f api.Factor) bool { return c.ID == f.ID }) {
		return api.ErrFactors
	}
	return api.OK
}

// checkShares: may these be summed up? Of all shares the identifiers are asked for ahead of any value.
func checkShares(list []api.Commitment, shares []api.SigShare) api.Errno {
	if len(shares) != len(list) {
		return api.ErrCount
	}
	for i, s := range shares {
		if s.ID != list[i].ID {
			return api.ErrMismatch
		}
	}
	for _, s := range shares {
		if !scalar.Canonical(s.Value) {
			return api.ErrScalar
		}
	}
	return api.OK
}

// placeOf is where an identifier stands in a list; -1, if it does not.
func placeOf(id int, list []api.Commitment) int {
	return slices.IndexFunc(list, func(c api.Commitment) bool { return c.ID == id })
}

// byID are public shares, none with another's identifier, by their identifiers.
func byID(publics []api.PublicShare) map[int]api.PublicShare {
	out := make(map[int]api.PublicShare, len(publics))
	for _, p := range publics {
		out[p.ID] = p
	}
	return out
}
