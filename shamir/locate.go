package shamir

import (
	"slices"

	"rime/api"
	"rime/scalar"
)

// A locator (Berlekamp and Welch) of n shares with threshold t, of which at most e may be wrong, is a polynomial of at most e + 1 coefficients, not all of them 0, whose values times those of the shares lie on one polynomial of t + e coefficients.
//
// If all but e of the shares lie on a polynomial f of t coefficients, there is a locator: the product of (X - x) over the places x of the wrong ones. And every locator is 0 at all of these: the polynomial of t + e coefficients and f times the locator are one at n - e places, which are no fewer than t + e, so they are one everywhere; where a share is not f's value, the locator must be 0. So the shares where it is not 0 lie on f; they are at least n - e, since it has at most e zeros.

// locate is a locator of the shares; found is whether there is one.
//
// That values lie on one polynomial of t + e coefficients is said by n - t - e equations. In the polynomial of n coefficients through all of them the highest is the sum of each value times its inverse gap. It is 0 for the values times x to the powers 0 to k just if the k + 1 highest coefficients are. With the moments of the shares these equations have the locator's coefficients alone as unknowns: the sum of each times the moment so many places on is 0.
func locate(shares []api.Share, t, most int) (locator []api.Scalar, found bool) {
	moments := momentsOf(shares, len(shares)-t)
	rows := make([][]api.Scalar, len(moments)-most)
	for i := range rows {
		rows[i] = slices.Clone(moments[i : i+most+1])
	}
	free := eliminate(rows, most+1)
	if free > most {
		return nil, false
	}
	locator = make([]api.Scalar, free+1)
	for i := range free {
		locator[i] = scalar.Neg(rows[i][free])
	}
	locator[free] = api.Scalar{1}
	return locator, true
}

// momentsOf are, for powers from 0 on, the sums of each share's Value times its inverse gap, times its place to that power.
func momentsOf(shares []api.Share, count int) []api.Scalar {
	parts := inverseGaps(idsOf(shares))
	for i, s := range shares {
		parts[i] = scalar.Mul(parts[i], s.Value)
	}
	moments := make([]api.Scalar, count)
	for power := range moments {
		moments[power] = scalar.Sum(parts)
		for i, s := range shares {
			parts[i] = scalar.Mul(parts[i], place(s.ID))
		}
	}
	return moments
}

// eliminate turns rows, so that they say the same and each column ahead of the one that is answered has a 1 in the row of its number, and 0 in all others. The column that is answered is the first that does not get a row (width, if all get one): what it has in these rows tells how those ahead make it up.
func eliminate(rows [][]api.Scalar, width int) int {
	column := 0
elimination:
	for ; column < width; column++ {
		for row := column; ; row++ {
			if row == len(rows) {
				break elimination
			}
			if !scalar.IsZero(rows[row][column]) {
				rows[column], rows[row] = rows[row], rows[column]
				break
			}
		}
		clearColumn(rows, column)
	}
	return column
}

// clearColumn gives a column its row: there it has a 1, in all others 0. Ahead of the column the row has 0 already.
func clearColumn(rows [][]api.Scalar, column int) {
	own := rows[column][column:]
	inverse, _ := scalar.Invert(own[0])
	for i := range own {
		own[i] = scalar.Mul(own[i], inverse)
	}
	for i, row := range rows {
		if i == column {
			continue
		}
		rest := row[column:]
		factor := scalar.Neg(rest[0])
		for j := range rest {
			rest[j] = scalar.MulAdd(factor, own[j], rest[j])
		}
	}
}

// cleared are the shares at whose places the locator is not 0.
func cleared(shares []api.Share, locator []api.Scalar) []api.Share {
	var out []api.Share
	for _, s := range shares {
		if !scalar.IsZero(Eval(locator, place(s.ID))) {
			out = append(out, s)
		}
	}
	return out
}
