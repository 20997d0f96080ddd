package shamir_test

import (
	"math/big"
	"math/rand"
	"slices"
	"testing"

	"rime/api"
	"rime/shamir"
)

// The chapter's examples.

func TestExampleSplit(t *testing.T) {
	shares, errno := shamir.Split(line, []int{1, 2, 3})
	wantList(t, "Split", shares, errno, []api.Share{{ID: 1, Value: api.Scalar{12}}, {ID: 2, Value: api.Scalar{19}}, {ID: 3, Value: api.Scalar{26}}}, api.OK)
	got, errno := shamir.Recover(shares[1:], 2)
	want(t, "Recover", got, errno, big.NewInt(5), api.OK)
	got, errno = shamir.Recover(shares[1:], 3)
	want(t, "Recover", got, errno, nil, api.ErrCount)
}

func TestExampleWeights(t *testing.T) {
	got, errno := shamir.Lagrange([]int{1, 2}, 1, api.Scalar{})
	want(t, "Lagrange", got, errno, big.NewInt(2), api.OK)
	weights, errno := shamir.Weights([]int{1, 2})
	wantList(t, "Weights", weights, errno, []api.Scalar{{2}, modL(big.NewInt(-1))}, api.OK)
	weights, errno = shamir.Weights([]int{1, 1})
	wantList(t, "Weights", weights, errno, nil, api.ErrTwice)
}

func numbered(values ...byte) []api.Share {
	var out []api.Share
	for i, v := range values {
		out = append(out, api.Share{ID: i + 1, Value: api.Scalar{v}})
	}
	return out
}

func TestExampleCorrect(t *testing.T) {
	wantCorrect(t, numbered(12, 20, 26), 2, nil, nil, api.ErrCorrect)
	wantCorrect(t, numbered(12, 20, 26, 33), 2, line, []int{2}, api.OK)
}

func TestExampleConsistent(t *testing.T) {
	if fits, errno := shamir.Consistent(numbered(12, 19, 27), 2); fits || errno != api.OK {
		t.Fatalf("Consistent with 2: %v %v", fits, errno)
	}
	if fits, errno := shamir.Consistent(numbered(12, 19, 27), 3); !fits || errno != api.OK {
		t.Fatalf("Consistent with 3: %v %v", fits, errno)
	}
}

// P7.1: each call answers as said.

func TestEval(t *testing.T) {
	r := drawn(1)
	for n := range 12 {
		coefs := scalars(r, n)
		for _, x := range append(edges(), scalars(r, 10)...) {
			want(t, "Eval", shamir.Eval(coefs, x), api.OK, valueAt(coefs, x), api.OK, coefs, x)
		}
	}
	for _, c := range edges() {
		for _, coefs := range [][]api.Scalar{{c}, {c, c}, {{}, c}, {c, {}}, {c, {}, {}, c}} {
			for _, x := range edges() {
				want(t, "Eval", shamir.Eval(coefs, x), api.OK, valueAt(coefs, x), api.OK, coefs, x)
			}
		}
	}
}

func TestEvalOfNone(t *testing.T) {
	for _, x := range edges() {
		want(t, "Eval of none", shamir.Eval(nil, x), api.OK, new(big.Int), api.OK, x)
		want(t, "Eval of none", shamir.Eval([]api.Scalar{}, x), api.OK, new(big.Int), api.OK, x)
	}
}

// A polynomial may have more coefficients than there are identifiers.
func TestEvalOfMany(t *testing.T) {
	r := drawn(2)
	coefs := scalars(r, 1000)
	x := anyScalar(r)
	want(t, "Eval", shamir.Eval(coefs, x), api.OK, valueAt(coefs, x), api.OK, x)
	got, errno := shamir.At(coefs, 255)
	want(t, "At", got, errno, valueAt(coefs, api.Scalar{255}), api.OK)
	shares := split(t, r, coefs, []int{7})
	want(t, "Split", reduced(shares[0].Value), api.OK, valueAt(coefs, api.Scalar{7}), api.OK)
}

func TestAt(t *testing.T) {
	r := drawn(3)
	for id := 1; id <= 255; id++ {
		coefs := scalars(r, id%5)
		got, errno := shamir.At(coefs, id)
		want(t, "At", got, errno, valueAt(coefs, placeOf(id)), api.OK, coefs, id)
	}
	for _, id := range wrongIDs() {
		got, errno := shamir.At(line, id)
		want(t, "At", got, errno, nil, api.ErrID, id)
		got, errno = shamir.At(nil, id)
		want(t, "At", got, errno, nil, api.ErrID, id)
	}
}

func TestSplit(t *testing.T) {
	r := drawn(4)
	for n := 1; n <= 255; n += 1 + n/4 {
		ids, coefs := someIDs(r, n), scalars(r, r.Intn(6))
		shares, errno := shamir.Split(coefs, ids)
		var expected []api.Share
		for _, id := range ids {
			expected = append(expected, api.Share{ID: id, Value: modL(valueAt(coefs, placeOf(id)))})
		}
		wantList(t, "Split", shares, errno, expected, api.OK, coefs, ids)
	}
}

// listsOfIDs are such as may be and such as may not, with the fault in any place and another one behind it.
func listsOfIDs(r *rand.Rand) [][]int {
	out := [][]int{nil, {}, {1}, {255}, {1, 255}, {255, 1}, {1, 1}, {255, 255}, {1, 2, 1}, {0, 0}, {1, 1, 0}, {1, 0, 1}, {0, 1, 1}, {256, 256}}
	for _, id := range wrongIDs() {
		out = append(out, []int{id}, []int{1, id}, []int{id, 1}, []int{1, id, 1}, []int{1, 1, id})
	}
	all := someIDs(r, 255)
	out = append(out, all, append(slices.Clone(all), all[0]), append(slices.Clone(all), all[254]), append(slices.Clone(all), 0), append(slices.Clone(all), 256))
	for range 200 {
		ids := someIDs(r, 2+r.Intn(20))
		for range r.Intn(3) {
			switch at := r.Intn(len(ids)); r.Intn(2) {
			case 0:
				ids[at] = wrongIDs()[r.Intn(len(wrongIDs()))]
			case 1:
				ids[at] = ids[r.Intn(len(ids))]
			}
		}
		out = append(out, ids)
	}
	return out
}

func TestErrorsOfIDs(t *testing.T) {
	r := drawn(5)
	seen := map[api.Errno]int{}
	for _, ids := range listsOfIDs(r) {
		expected := errorOf(ids)
		if seen[expected]++; expected == api.OK {
			continue
		}
		shares, errno := shamir.Split(line, ids)
		wantList(t, "Split", shares, errno, nil, expected, ids)
		weights, errno := shamir.Weights(ids)
		wantList(t, "Weights", weights, errno, nil, expected, ids)
		for _, id := range append([]int{1, 77, 0, 256}, ids...) {
			got, errno := shamir.Lagrange(ids, id, api.Scalar{3})
			want(t, "Lagrange", got, errno, nil, expected, ids, id)
		}
		got, errno := shamir.Interpolate(sharesOf(r, ids), api.Scalar{3})
		want(t, "Interpolate", got, errno, nil, expected, ids)
	}
	if seen[api.OK] < 30 || seen[api.ErrCount] != 2 || seen[api.ErrID] < 30 || seen[api.ErrTwice] < 30 {
		t.Fatalf("which errors there were: %v", seen)
	}
}

// The threshold is told ahead of the count, the count ahead of the identifiers, and these ahead of what the shares are.
func TestErrorsOfThresholds(t *testing.T) {
	r := drawn(6)
	for _, ids := range listsOfIDs(r) {
		shares := sharesOf(r, ids)
		for _, threshold := range append(wrongThresholds(), 1, 2, len(ids)-1, len(ids), len(ids)+1, 254, 255) {
			few, any := errorOf(ids), errorOf(ids)
			if len(ids) < threshold {
				few = api.ErrCount
			}
			if threshold < 1 || threshold > 255 {
				few, any = api.ErrThreshold, api.ErrThreshold
			}
			if few != api.OK {
				got, errno := shamir.Recover(shares, threshold)
				want(t, "Recover", got, errno, nil, few, ids, threshold)
				wantCorrect(t, shares, threshold, nil, nil, few)
			}
			if fits, errno := shamir.Consistent(shares, threshold); errno != any || fits && any != api.OK {
				t.Fatalf("Consistent of %v with %d: %v %v, not %v", ids, threshold, fits, errno, any)
			}
		}
	}
}

func TestLagrange(t *testing.T) {
	r := drawn(7)
	for n := 1; n <= 255; n += 1 + n/3 {
		ids := someIDs(r, n)
		for _, x := range append(scalars(r, 2), api.Scalar{}, bytes32(order), placeOf(ids[r.Intn(n)]), otherForm(r, placeOf(ids[0]))) {
			for _, id := range []int{ids[0], ids[n-1], ids[r.Intn(n)]} {
				got, errno := shamir.Lagrange(ids, id, x)
				want(t, "Lagrange", got, errno, lagrange(ids, id, x), api.OK, ids, id, x)
			}
		}
	}
}

// It is 1 at its place and 0 at all others.
func TestLagrangeAtPlaces(t *testing.T) {
	r := drawn(8)
	for n := 1; n <= 12; n++ {
		ids := someIDs(r, n)
		for _, id := range ids {
			for _, at := range ids {
				expected := new(big.Int)
				if at == id {
					expected = one
				}
				got, errno := shamir.Lagrange(ids, id, otherForm(r, placeOf(at)))
				want(t, "Lagrange", got, errno, expected, api.OK, ids, id, at)
			}
		}
	}
}

func TestLagrangeOfMissing(t *testing.T) {
	r := drawn(9)
	for n := 1; n <= 255; n += 1 + n/3 {
		ids := someIDs(r, n)
		for _, id := range append(wrongIDs(), 1, 2, 77, 255) {
			if slices.Contains(ids, id) {
				continue
			}
			got, errno := shamir.Lagrange(ids, id, anyScalar(r))
			want(t, "Lagrange", got, errno, nil, api.ErrMissing, ids, id)
		}
	}
}

func TestWeights(t *testing.T) {
	r := drawn(10)
	for n := 1; n <= 255; n += 1 + n/3 {
		ids := someIDs(r, n)
		var expected []api.Scalar
		for _, id := range ids {
			expected = append(expected, modL(lagrange(ids, id, api.Scalar{})))
		}
		got, errno := shamir.Weights(ids)
		wantList(t, "Weights", got, errno, expected, api.OK, ids)
	}
}

func TestInterpolate(t *testing.T) {
	r := drawn(11)
	for n := 1; n <= 60; n += 1 + n/3 {
		shares := sharesOf(r, someIDs(r, n))
		for _, x := range append(scalars(r, 2), api.Scalar{}, bytes32(order), placeOf(shares[0].ID), otherForm(r, placeOf(shares[n-1].ID))) {
			got, errno := shamir.Interpolate(shares, x)
			want(t, "Interpolate", got, errno, throughAt(shares, x), api.OK, shares, x)
		}
	}
}

func TestInterpolateAtPlaces(t *testing.T) {
	r := drawn(12)
	for _, n := range []int{1, 2, 3, 20, 255} {
		shares := sharesOf(r, someIDs(r, n))
		for _, s := range pick(r, shares, min(n, 5)) {
			got, errno := shamir.Interpolate(shares, placeOf(s.ID))
			want(t, "Interpolate", got, errno, number(s.Value), api.OK, s)
		}
	}
}

// Recover and Consistent: one share that is not on the polynomial is enough, wherever it stands.
func TestOneStray(t *testing.T) {
	r := drawn(13)
	for n := 2; n <= 9; n++ {
		for threshold := 1; threshold < n; threshold++ {
			coefs := scalars(r, threshold)
			for place := range n {
				shares := split(t, r, coefs, someIDs(r, n))
				wantRecovered(t, shares, threshold, coefs[0])
				before := number(shares[place].Value)
				shares[place].Value = modL(plus(before, one))
				if wantStray(t, shares, threshold); place%2 == 0 {
					shares[place].Value = modL(new(big.Int).Neg(before))
					wantStray(t, shares, threshold)
				}
			}
		}
	}
}

func wantRecovered(t *testing.T, shares []api.Share, threshold int, secret api.Scalar) {
	t.Helper()
	got, errno := shamir.Recover(shares, threshold)
	want(t, "Recover", got, errno, number(secret), api.OK, shares, threshold)
	if fits, errno := shamir.Consistent(shares, threshold); !fits || errno != api.OK {
		t.Fatalf("Consistent of %x with %d: %v %v", shares, threshold, fits, errno)
	}
}

func wantStray(t *testing.T, shares []api.Share, threshold int) {
	t.Helper()
	got, errno := shamir.Recover(shares, threshold)
	want(t, "Recover", got, errno, nil, api.ErrShares, shares, threshold)
	if fits, errno := shamir.Consistent(shares, threshold); fits || errno != api.OK {
		t.Fatalf("Consistent of %x with %d: %v %v", shares, threshold, fits, errno)
	}
}

// Up to t shares lie on a polynomial of t coefficients, whatever they are.
func TestFewSharesAreConsistent(t *testing.T) {
	r := drawn(14)
	for n := 1; n <= 10; n++ {
		shares := sharesOf(r, someIDs(r, n))
		for _, threshold := range []int{n, n + 1, n + 5, 254, 255} {
			if fits, errno := shamir.Consistent(shares, threshold); !fits || errno != api.OK {
				t.Fatalf("Consistent of %x with %d: %v %v", shares, threshold, fits, errno)
			}
		}
		got, errno := shamir.Recover(shares, n)
		want(t, "Recover", got, errno, throughAt(shares, api.Scalar{}), api.OK, shares)
	}
}

// A polynomial of fewer coefficients is one of more, of fewer it is none.
func TestOtherThresholds(t *testing.T) {
	r := drawn(15)
	for threshold := 2; threshold <= 8; threshold++ {
		coefs := scalars(r, threshold)
		shares := split(t, r, coefs, someIDs(r, 10))
		for other := 1; other <= 10; other++ {
			if other < threshold {
				wantStray(t, shares, other)
			} else {
				wantRecovered(t, shares, other, coefs[0])
			}
		}
	}
}

func TestThrough(t *testing.T) {
	r := drawn(16)
	for n := 1; n <= 255; n += 1 + n/3 {
		points := make([]api.Point, n)
		for i := range points {
			points[i] = api.Point{X: anyScalar(r), Y: anyScalar(r)}
		}
		coefs, errno := shamir.Through(points)
		if errno != api.OK || len(coefs) != n {
			t.Fatalf("Through %x: %x %v", points, coefs, errno)
		}
		for i, c := range coefs {
			if !canonical(c) {
				t.Fatalf("coefficient %d of Through %x is %x", i, points, c)
			}
		}
		for i := 0; i < n; i += 1 + n/20 {
			if valueAt(coefs, points[i].X).Cmp(number(points[i].Y)) != 0 {
				t.Fatalf("Through %x is not %x at %x", points, points[i].Y, points[i].X)
			}
		}
	}
}

// Coefficients that are 0 are answered, too: there are as many as points.
func TestThroughOfLowPolynomials(t *testing.T) {
	r := drawn(17)
	for few := range 5 {
		coefs := scalars(r, few)
		points := make([]api.Point, 7)
		for i := range points {
			x := anyScalar(r)
			points[i] = api.Point{X: x, Y: otherForm(r, modL(valueAt(coefs, x)))}
		}
		got, errno := shamir.Through(points)
		wantList(t, "Through", got, errno, append(reducedAll(coefs), make([]api.Scalar, 7-few)...), api.OK, points)
	}
}

func TestThroughCounts(t *testing.T) {
	r := drawn(18)
	points := make([]api.Point, 300)
	for i := range points {
		points[i].X = anyScalar(r)
	}
	for _, n := range []int{0, 256, 257, 300} {
		got, errno := shamir.Through(points[:n])
		wantList(t, "Through", got, errno, nil, api.ErrCount, n)
		got, errno = shamir.Through(make([]api.Point, n)) // the count is told ahead of points at one place
		wantList(t, "Through", got, errno, nil, api.ErrCount, n)
	}
	got, errno := shamir.Through(nil)
	wantList(t, "Through", got, errno, nil, api.ErrCount)
	got, errno = shamir.Through(points[:255])
	wantList(t, "Through", got, errno, make([]api.Scalar, 255), api.OK)
}

func TestThroughTwice(t *testing.T) {
	r := drawn(19)
	for _, n := range []int{2, 3, 10, 255} {
		for range 5 {
			points := make([]api.Point, n)
			for i := range points {
				points[i] = api.Point{X: anyScalar(r), Y: anyScalar(r)}
			}
			places := r.Perm(n)[:2]
			points[places[0]].X = otherForm(r, points[places[1]].X)
			points[places[0]].Y = points[places[1]].Y
			got, errno := shamir.Through(points)
			wantList(t, "Through", got, errno, nil, api.ErrTwice, n, places)
		}
	}
	for k := range int64(16) {
		got, errno := shamir.Through([]api.Point{{}, {X: api.Scalar{1}}, {X: bytes32(timesL(k))}})
		wantList(t, "Through", got, errno, nil, api.ErrTwice, k)
	}
}
