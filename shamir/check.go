package shamir

import (
	"rime/api"
	"rime/scalar"
)

func isID(id int) bool { return id >= 1 && id <= api.MaxID }

func isThreshold(t int) bool { return t >= 1 && t <= api.MaxID }

// place is the scalar of an identifier's number.
func place(id int) api.Scalar { return scalar.FromInt(uint64(id)) }

// known are the identifiers that a list has had so far.
type known [api.MaxID + 1]bool

func (k *known) take(id int) api.Errno {
	switch {
	case !isID(id):
		return api.ErrID
	case k[id]:
		return api.ErrTwice
	}
	k[id] = true
	return api.OK
}

func checkIDs(ids []int) api.Errno {
	if len(ids) == 0 {
		return api.ErrCount
	}
	var k known
	for _, id := range ids {
		if errno := k.take(id); errno != api.OK {
			return errno
		}
	}
	return api.OK
}

func checkShares(shares []api.Share) api.Errno {
	if len(shares) == 0 {
		return api.ErrCount
	}
	var k known
	for _, s := range shares {
		if errno := k.take(s.ID); errno != api.OK {
			return errno
		}
	}
	return api.OK
}

// checkEnough: a threshold that may be, and as many shares, at least, that may be.
func checkEnough(shares []api.Share, t int) api.Errno {
	switch {
	case !isThreshold(t):
		return api.ErrThreshold
	case len(shares) < t:
		return api.ErrCount
	}
	return checkShares(shares)
}

func idsOf(shares []api.Share) []int {
	ids := make([]int, len(shares))
	for i, s := range shares {
		ids[i] = s.ID
	}
	return ids
}
