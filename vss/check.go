package vss

import (
	"rime/api"
	"rime/edwards"
	"rime/scalar"
	"rime/suite"
)

func isID(id int) bool { return id >= 1 && id <= api.MaxID }

// isCount: may there be so many commitments, or coefficients?
func isCount(n int) bool { return n >= 1 && n <= api.MaxID }

func isElement(e api.Element) bool {
	_, errno := suite.GetElement(e[:])
	return errno == api.OK
}

// checkNext: may an identifier stand behind the one ahead of it? Ahead of the first stands 0.
func checkNext(id, ahead int) api.Errno {
	switch {
	case !isID(id):
		return api.ErrID
	case id == ahead:
		return api.ErrTwice
	case id < ahead:
		return api.ErrOrder
	}
	return api.OK
}

// checkValue: does a share, whose identifier may be, fit? Then the point is that of its value, too.
func checkValue(commits []api.Element, share api.Share) (api.Element, api.Errno) {
	if !scalar.Canonical(share.Value) {
		return api.Element{}, api.ErrScalar
	}
	point := pointAt(commits, share.ID)
	if edwards.MulBase(share.Value) != point {
		return api.Element{}, api.ErrShare
	}
	return point, api.OK
}

// checkLists: may these be added?
func checkLists(lists [][]api.Element) api.Errno {
	if len(lists) == 0 {
		return api.ErrCount
	}
	for _, l := range lists {
		if errno := CheckCommits(l); errno != api.OK {
			return errno
		}
	}
	for _, l := range lists {
		if len(l) != len(lists[0]) {
			return api.ErrCount
		}
	}
	return api.OK
}

// checkDeal: may keys be made of it, whatever the shares' values are?
func checkDeal(deal api.Deal) api.Errno {
	if errno := CheckCommits(deal.Commits); errno != api.OK {
		return errno
	}
	switch threshold, count := len(deal.Commits), len(deal.Shares); {
	case threshold < api.MinSigners:
		return api.ErrThreshold
	case count < threshold || count > api.MaxID:
		return api.ErrCount
	}
	ahead := 0
	for _, s := range deal.Shares {
		if errno := checkNext(s.ID, ahead); errno != api.OK {
			return errno
		}
		ahead = s.ID
	}
	return api.OK
}

// checkKeys: may these be, whether they fit together or not?
func checkKeys(keys api.GroupKeys) api.Errno {
	switch count := len(keys.Publics); {
	case keys.Threshold < api.MinSigners || keys.Threshold > api.MaxID:
		return api.ErrThreshold
	case count < keys.Threshold || count > api.MaxID:
		return api.ErrCount
	}
	ahead := 0
	for _, p := range keys.Publics {
		if errno := checkNext(p.ID, ahead); errno != api.OK {
			return errno
		}
		if !isElement(p.Public) {
			return api.ErrPublic
		}
		ahead = p.ID
	}
	if !isElement(keys.Group) {
		return api.ErrPublic
	}
	return api.OK
}
