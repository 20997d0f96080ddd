package shamir

import (
	"rime/api"
	"rime/scalar"
)

// nobody is no identifier.
const nobody = 0

// distances are those of x from the places of all identifiers but one.
func distances(x api.Scalar, ids []int, but int) []api.Scalar {
	out := make([]api.Scalar, 0, len(ids))
	for _, id := range ids {
		if id != but {
			out = append(out, scalar.Sub(x, place(id)))
		}
	}
	return out
}

// weightsAt has for each identifier its Lagrange at x. The identifiers may be.
func weightsAt(ids []int, x api.Scalar) map[int]api.Scalar {
	above, below := withoutEach(distances(x, ids, nobody)), inverseGaps(ids)
	weights := make(map[int]api.Scalar, len(ids))
	for i, id := range ids {
		weights[id] = scalar.Mul(above[i], below[i])
	}
	return weights
}

// withoutEach has for each place the product of the others. It does not divide, because x may be at a place, and its distance 0.
func withoutEach(l []api.Scalar) []api.Scalar {
	out := make([]api.Scalar, len(l))
	ahead := api.Scalar{1}
	for i := range l {
		out[i] = ahead
		ahead = scalar.Mul(ahead, l[i])
	}
	behind := api.Scalar{1}
	for i := len(l) - 1; i >= 0; i-- {
		out[i] = scalar.Mul(out[i], behind)
		behind = scalar.Mul(behind, l[i])
	}
	return out
}

// inverseGaps has for each identifier the inverse of the product of its distances from all others; none of these is 0, as no identifier is there twice.
func inverseGaps(ids []int) []api.Scalar {
	gaps := make([]api.Scalar, len(ids))
	for i, id := range ids {
		gaps[i] = scalar.Product(distances(place(id), ids, id))
	}
	inverses, _, _ := scalar.InvertAll(gaps)
	return inverses
}

// withZero is a polynomial times (X - x): it is 0 at x, too.
func withZero(coefs []api.Scalar, x api.Scalar) []api.Scalar {
	out := make([]api.Scalar, len(coefs)+1)
	minus := scalar.Neg(x)
	for i, c := range coefs {
		out[i] = scalar.MulAdd(minus, c, out[i])
		out[i+1] = c
	}
	return out
}

// throughShares is the polynomial through shares that may be, with as many coefficients.
func throughShares(shares []api.Share) []api.Scalar {
	points := make([]api.Point, len(shares))
	for i, s := range shares {
		points[i] = api.Point{X: place(s.ID), Y: s.Value}
	}
	coefs, _ := Through(points)
	return coefs
}

// strays are the identifiers of the shares that do not lie on the polynomial.
func strays(coefs []api.Scalar, shares []api.Share) []int {
	var out []int
	for _, s := range shares {
		if scalar.Compare(Eval(coefs, place(s.ID)), s.Value) != 0 {
			out = append(out, s.ID)
		}
	}
	return out
}
