package vss

import (
	"rime/api"
	"rime/edwards"
	"rime/scalar"
	"rime/shamir"
)

// pointAt is the point of commitments that may be, at an identifier. It is reckoned from the highest coefficient down, so that no factor is above an identifier.
func pointAt(commits []api.Element, id int) api.Element {
	x, last := scalar.FromInt(uint64(id)), len(commits)-1
	point := commits[last]
	for i := range last {
		point, _ = edwards.Mul(x, point)
		point, _ = edwards.Add(point, commits[last-1-i])
	}
	return point
}

// through is the value at x, in the exponent, of the polynomial through public shares that may be.
func through(publics []api.PublicShare, x api.Scalar) api.Element {
	ids := make([]int, len(publics))
	for i, p := range publics {
		ids[i] = p.ID
	}
	factors, points := make([]api.Scalar, len(publics)), make([]api.Element, len(publics))
	for i, p := range publics {
		factors[i], _ = shamir.Lagrange(ids, p.ID, x)
		points[i] = p.Public
	}
	sum, _ := edwards.Multi(factors, points)
	return sum
}

// publicShares are those of a deal's shares, whose identifiers may be. That a value is 0 is told only once all fit.
func publicShares(deal api.Deal) ([]api.PublicShare, api.Errno) {
	publics := make([]api.PublicShare, len(deal.Shares))
	for i, s := range deal.Shares {
		point, errno := checkValue(deal.Commits, s)
		if errno != api.OK {
			return nil, errno
		}
		publics[i] = api.PublicShare{ID: s.ID, Public: point}
	}
	for _, s := range deal.Shares {
		if s.Value == (api.Scalar{}) {
			return nil, api.ErrZero
		}
	}
	return publics, api.OK
}
