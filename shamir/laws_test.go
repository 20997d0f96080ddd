package shamir_test

import (
	"math/big"
	"math/rand"
	"slices"
	"testing"

	"rime/api"
	"rime/scalar"
	"rime/shamir"
)

// P7.2: there and back.

func TestThereAndBack(t *testing.T) {
	r := drawn(30)
	for _, size := range [][2]int{{1, 1}, {1, 5}, {2, 2}, {2, 3}, {3, 7}, {5, 9}, {8, 8}, {20, 30}, {127, 255}, {254, 255}, {255, 255}} {
		threshold, n := size[0], size[1]
		coefs := scalars(r, threshold)
		shares := split(t, r, coefs, someIDs(r, n))
		wantRecovered(t, shares, threshold, coefs[0])
		for range 3 {
			some := pick(r, shares, threshold+r.Intn(n-threshold+1))
			wantRecovered(t, some, threshold, coefs[0])
			x := anyScalar(r)
			got, errno := shamir.Interpolate(some[:threshold], x)
			want(t, "Interpolate", got, errno, valueAt(coefs, x), api.OK, some, x)
		}
	}
}

// subsets are all lists of so many of the shares.
func subsets(shares []api.Share, count int) [][]api.Share {
	if count == 0 {
		return [][]api.Share{nil}
	}
	var out [][]api.Share
	for i := range shares {
		for _, rest := range subsets(shares[i+1:], count-1) {
			out = append(out, append([]api.Share{shares[i]}, rest...))
		}
	}
	return out
}

func TestAnyOfThem(t *testing.T) {
	r := drawn(31)
	for threshold := 1; threshold <= 6; threshold++ {
		coefs := scalars(r, threshold)
		shares := split(t, r, coefs, someIDs(r, 6))
		for _, some := range subsets(shares, threshold) {
			wantRecovered(t, some, threshold, coefs[0])
			for _, s := range shares {
				got, errno := shamir.Interpolate(some, placeOf(s.ID))
				want(t, "Interpolate", got, errno, number(s.Value), api.OK, some, s.ID)
			}
		}
	}
}

// P7.3: the secret is safe.

func TestTheSecretIsSafe(t *testing.T) {
	r := drawn(32)
	for _, threshold := range []int{1, 2, 3, 4, 7, 20, 255} {
		known := split(t, r, scalars(r, threshold), someIDs(r, threshold))[1:]
		for _, secret := range []api.Scalar{{}, {1}, modL(big.NewInt(-1)), bytes32(order), anyScalar(r), anyScalar(r)} {
			points := []api.Point{{Y: secret}}
			for _, s := range known {
				points = append(points, api.Point{X: placeOf(s.ID), Y: s.Value})
			}
			coefs, errno := shamir.Through(points)
			if errno != api.OK || len(coefs) != threshold || coefs[0] != reduced(secret) {
				t.Fatalf("Through the secret %x and %d shares: %v", secret, len(known), errno)
			}
			wantSharesOn(t, coefs, known)
			r.Shuffle(len(points), func(i, j int) { points[i], points[j] = points[j], points[i] })
			again, errno := shamir.Through(points)
			wantList(t, "Through, in another order", again, errno, coefs, api.OK, secret)
		}
	}
}

func wantSharesOn(t *testing.T, coefs []api.Scalar, shares []api.Share) {
	t.Helper()
	for _, s := range shares {
		if got, errno := shamir.At(coefs, s.ID); errno != api.OK || !same(got, s.Value) {
			t.Fatalf("%x at %d is %x %v, not %x", coefs, s.ID, got, errno, s.Value)
		}
	}
}

// The one polynomial is the one that was split: of its own secret it comes back whole.
func TestThroughGivesThePolynomialBack(t *testing.T) {
	r := drawn(33)
	for threshold := 1; threshold <= 30; threshold++ {
		coefs := scalars(r, threshold)
		points := []api.Point{{X: bytes32(order), Y: coefs[0]}}
		if threshold > 1 {
			for _, s := range split(t, r, coefs, someIDs(r, threshold-1)) {
				points = append(points, api.Point{X: otherForm(r, placeOf(s.ID)), Y: s.Value})
			}
		}
		got, errno := shamir.Through(points)
		wantList(t, "Through", got, errno, reducedAll(coefs), api.OK, points)
	}
}

// P7.4: weights.

func TestWeightsAddUp(t *testing.T) {
	r := drawn(34)
	for n := 1; n <= 255; n += 1 + n/5 {
		coefs := scalars(r, 1+r.Intn(n))
		shares := split(t, r, coefs, someIDs(r, n))
		weights, errno := shamir.Weights(idsOf(shares))
		want(t, "the sum of Weights", scalar.Sum(weights), errno, one, api.OK, n)
		var sum api.Scalar
		for i, s := range shares {
			sum = scalar.MulAdd(weights[i], s.Value, sum)
		}
		want(t, "the weighted sum", sum, errno, number(coefs[0]), api.OK, n)
	}
}

// At every x they add up to 1, and Interpolate is the sum of shares so weighted.
func TestLagrangesAddUp(t *testing.T) {
	r := drawn(35)
	for n := 1; n <= 20; n++ {
		shares, x := sharesOf(r, someIDs(r, n)), anyScalar(r)
		ids := idsOf(shares)
		var sum, total api.Scalar
		for _, s := range shares {
			weight, errno := shamir.Lagrange(ids, s.ID, x)
			want(t, "Lagrange", weight, errno, lagrange(ids, s.ID, x), api.OK, ids, s.ID, x)
			total, sum = scalar.Add(total, weight), scalar.MulAdd(weight, s.Value, sum)
		}
		want(t, "the sum of Lagranges", total, api.OK, one, api.OK, ids)
		got, errno := shamir.Interpolate(shares, x)
		want(t, "Interpolate", got, errno, number(sum), api.OK, shares, x)
	}
}

// P7.5: Correct.

// turn makes so many shares wrong, and tells which.
func turn(r *rand.Rand, shares []api.Share, count int) []int {
	var wrong []int
	for _, i := range r.Perm(len(shares))[:count] {
		more := []*big.Int{one, big.NewInt(-1), new(big.Int).Rsh(order, 1), plus(new(big.Int).Rand(r, minus(order, one)), one)}[r.Intn(4)]
		shares[i].Value = otherForm(r, modL(plus(number(shares[i].Value), more)))
		wrong = append(wrong, shares[i].ID)
	}
	slices.Sort(wrong)
	return wrong
}

func TestCorrect(t *testing.T) {
	r := drawn(36)
	for n := 1; n <= 16; n++ {
		for threshold := 1; threshold <= n; threshold++ {
			for count := range (n-threshold)/2 + 1 {
				coefs := scalars(r, threshold)
				shares := split(t, r, coefs, someIDs(r, n))
				wrong := turn(r, shares, count)
				wantCorrect(t, shares, threshold, reducedAll(coefs), wrong, api.OK)
			}
		}
	}
}

// Polynomials whose highest coefficients are 0 are of t coefficients all the same, and so is the one that is 0 everywhere.
func TestCorrectOfLowPolynomials(t *testing.T) {
	r := drawn(37)
	for few := range 5 {
		coefs := append(scalars(r, few), make([]api.Scalar, 5-few)...)
		for count := range 5 {
			shares := split(t, r, coefs, someIDs(r, 13))
			wrong := turn(r, shares, count)
			wantCorrect(t, shares, 5, reducedAll(coefs), wrong, api.OK)
		}
	}
}

// What is added to the wrong shares lies, with the zeros that are added to the right ones, on a polynomial of as few coefficients as it can: so little of it shows that rows of the elimination begin with zeros and must be exchanged.
func TestCorrectOfHiddenErrors(t *testing.T) {
	r := drawn(46)
	for _, threshold := range []int{1, 2, 5} {
		for n := threshold + 2; n <= threshold+13; n++ {
			for count := 1; count <= (n-threshold)/2; count++ {
				coefs := scalars(r, threshold)
				shares := split(t, r, coefs, someIDs(r, n))
				for i := range count {
					more := big.NewInt(int64(1 + n))
					for _, right := range shares[count:] {
						more.Mul(more, big.NewInt(int64(shares[i].ID-right.ID)))
					}
					shares[i].Value = modL(plus(number(shares[i].Value), more))
				}
				wrong := sorted(idsOf(shares[:count]))
				r.Shuffle(n, func(i, j int) { shares[i], shares[j] = shares[j], shares[i] })
				wantCorrect(t, shares, threshold, reducedAll(coefs), wrong, api.OK)
			}
		}
	}
}

// All identifiers, as many wrong as can be put right, and one more.
func TestCorrectOfAll(t *testing.T) {
	r := drawn(38)
	for _, threshold := range []int{1, 2, 3, 86, 127, 128, 252, 253, 254, 255} {
		most := (255 - threshold) / 2
		coefs := scalars(r, threshold)
		shares := split(t, r, coefs, someIDs(r, 255))
		wantCorrect(t, shares, threshold, reducedAll(coefs), nil, api.OK)
		if threshold >= 254 {
			continue
		}
		wrong := turn(r, shares, most)
		wantCorrect(t, shares, threshold, reducedAll(coefs), wrong, api.OK)
		right := slices.IndexFunc(shares, func(s api.Share) bool { return !slices.Contains(wrong, s.ID) })
		shares[right].Value = anyScalar(r) // drawn: with a chosen one, another polynomial might be met by all but so many
		wantCorrect(t, shares, threshold, nil, nil, api.ErrCorrect)
	}
}

// Shares that are turned into the same number in other bytes are not wrong.
func TestOtherFormsAreNotWrong(t *testing.T) {
	r := drawn(39)
	coefs := []api.Scalar{{9}, {}, bytes32(timesL(3)), bytes32(plus(timesL(15), one))}
	shares := split(t, r, coefs, someIDs(r, 12))
	for i := range shares {
		shares[i].Value = otherForm(r, shares[i].Value)
	}
	wantCorrect(t, shares, 4, reducedAll(coefs), nil, api.OK)
}

// muddled are shares of which each lies on one of a few polynomials that cross each other, or on none, so that thresholds are met by others than the first, or by none.
func muddled(t *testing.T, r *rand.Rand, n, threshold int) []api.Share {
	ids := someIDs(r, n)
	first := split(t, r, scalars(r, threshold), ids)
	lists := [][]api.Share{first, first}
	for range 2 {
		knots := pick(r, first, r.Intn(threshold))
		var points []api.Point
		for _, s := range knots {
			points = append(points, api.Point{X: placeOf(s.ID), Y: s.Value})
		}
		for len(points) < threshold {
			points = append(points, api.Point{X: anyScalar(r), Y: anyScalar(r)})
		}
		coefs, errno := shamir.Through(points)
		if errno != api.OK {
			t.Fatalf("Through %x: %v", points, errno)
		}
		lists = append(lists, split(t, r, coefs, ids))
	}
	lists = append(lists, sharesOf(r, ids))
	out := make([]api.Share, n)
	kinds := 1 + r.Intn(len(lists))
	for i := range out {
		out[i] = lists[r.Intn(kinds)][i]
	}
	return out
}

// corrected is what the chapter says of Correct, by trying all.
func corrected(shares []api.Share, threshold int) (on []api.Share, wrong []int, errno api.Errno) {
	for _, some := range subsets(shares, threshold) {
		if wrong := astray(shares, some); len(wrong) <= (len(shares)-threshold)/2 {
			return some, wrong, api.OK
		}
	}
	return nil, nil, api.ErrCorrect
}

func TestCorrectByTryingAll(t *testing.T) {
	r := drawn(40)
	seen := map[api.Errno]int{}
	for range 40 {
		for n := 1; n <= 7; n++ {
			threshold := 1 + r.Intn(n)
			shares := muddled(t, r, n, threshold)
			on, wrong, expected := corrected(shares, threshold)
			if seen[expected]++; expected != api.OK {
				wantCorrect(t, shares, threshold, nil, nil, expected)
				continue
			}
			coefs, got, errno := shamir.Correct(shares, threshold)
			wantList(t, "who is wrong, by Correct,", got, errno, wrong, api.OK, shares, threshold)
			if len(coefs) != threshold {
				t.Fatalf("Correct of %x with %d: %x", shares, threshold, coefs)
			}
			wantSharesOn(t, reducedAll(coefs), on)
		}
	}
	if seen[api.OK] < 50 || seen[api.ErrCorrect] < 50 {
		t.Fatalf("which errors there were: %v", seen)
	}
}

// Where so many have been turned that another polynomial is met by all but e, that one is answered; where each of two has half, none is.
func TestAnotherPolynomialWins(t *testing.T) {
	r := drawn(41)
	for threshold := 1; threshold <= 4; threshold++ {
		const n = 10
		most := (n - threshold) / 2
		ours, theirs, ids := scalars(r, threshold), scalars(r, threshold), someIDs(r, n)
		first, second := split(t, r, ours, ids), split(t, r, theirs, ids)
		for count := range n + 1 {
			shares := slices.Concat(first[:count], second[count:])
			switch {
			case n-count <= most:
				wantCorrect(t, shares, threshold, reducedAll(ours), sorted(ids[count:]), api.OK)
			case count <= most:
				wantCorrect(t, shares, threshold, reducedAll(theirs), sorted(ids[:count]), api.OK)
			default:
				wantCorrect(t, shares, threshold, nil, nil, api.ErrCorrect)
			}
		}
	}
}

func sorted(ids []int) []int {
	out := slices.Clone(ids)
	slices.Sort(out)
	return out
}

func TestCorrectInAnyOrder(t *testing.T) {
	r := drawn(42)
	coefs := scalars(r, 4)
	shares := split(t, r, coefs, someIDs(r, 11))
	wrong := turn(r, shares, 3)
	for range 20 {
		r.Shuffle(len(shares), func(i, j int) { shares[i], shares[j] = shares[j], shares[i] })
		wantCorrect(t, shares, 4, reducedAll(coefs), wrong, api.OK)
	}
}

// P7.6: what is handed in is neither changed nor kept, spare room included; an answer is new memory.

func TestArgumentsStayAsTheyAre(t *testing.T) {
	r := drawn(43)
	coefs, ids, points := scalars(r, 12), someIDs(r, 20), make([]api.Point, 20)
	for i := range points {
		points[i] = api.Point{X: anyScalar(r), Y: anyScalar(r)}
	}
	shares := split(t, r, coefs[:4], ids)
	turn(r, shares[:12], 3)
	keptCoefs, keptIDs, keptPoints, keptShares := slices.Clone(coefs), slices.Clone(ids), slices.Clone(points), slices.Clone(shares)
	for n := range 13 {
		shamir.Eval(coefs[:n], points[0].X)
		shamir.At(coefs[:n], 3)
		shamir.Split(coefs[:n], ids[:n])
		shamir.Lagrange(ids[:n], ids[0], points[0].X)
		shamir.Weights(ids[:n])
		shamir.Interpolate(shares[:n], points[0].X)
		shamir.Through(points[:n])
		for threshold := range n + 2 {
			shamir.Recover(shares[:n], threshold)
			shamir.Consistent(shares[:n], threshold)
			shamir.Correct(shares[:n], threshold)
		}
	}
	if !slices.Equal(coefs, keptCoefs) || !slices.Equal(ids, keptIDs) || !slices.Equal(points, keptPoints) || !slices.Equal(shares, keptShares) {
		t.Fatal("a call has changed its arguments")
	}
}

// answers are all lists that calls answer, of the same arguments.
type answers struct {
	shares                  []api.Share
	weights, through, coefs []api.Scalar
	wrong                   []int
}

func ask(coefs []api.Scalar, ids []int, points []api.Point, shares []api.Share) (a answers) {
	a.shares, _ = shamir.Split(coefs, ids)
	a.weights, _ = shamir.Weights(ids)
	a.through, _ = shamir.Through(points)
	a.coefs, a.wrong, _ = shamir.Correct(shares, 4)
	return a
}

func (a answers) equal(b answers) bool {
	return slices.Equal(a.shares, b.shares) && slices.Equal(a.weights, b.weights) && slices.Equal(a.through, b.through) && slices.Equal(a.coefs, b.coefs) && slices.Equal(a.wrong, b.wrong)
}

func TestAnswersAreNewMemory(t *testing.T) {
	r := drawn(44)
	for _, count := range []int{0, 1, 4} {
		coefs, ids, points := scalars(r, 4), someIDs(r, 12), []api.Point{{X: anyScalar(r), Y: anyScalar(r)}, {Y: anyScalar(r)}}
		shares := split(t, r, coefs, ids)
		turn(r, shares, count)
		kept := ask(coefs, ids, points, shares)
		expected := ask(slices.Clone(coefs), slices.Clone(ids), slices.Clone(points), slices.Clone(shares))
		if len(expected.wrong) != count || !kept.equal(expected) {
			t.Fatalf("two answers of the same: %x %x", kept, expected)
		}
		spoiled := ask(coefs, ids, points, shares)
		spoil(spoiled.shares, api.Share{ID: 99})
		spoil(spoiled.weights, api.Scalar{99})
		spoil(spoiled.through, api.Scalar{99})
		spoil(spoiled.coefs, api.Scalar{99})
		spoil(spoiled.wrong, 99)
		if again := ask(coefs, ids, points, shares); !again.equal(expected) {
			t.Fatal("answers share memory with arguments, or with what is kept")
		}
		spoil(coefs, api.Scalar{99})
		spoil(ids, 99)
		spoil(points, api.Point{X: api.Scalar{99}})
		spoil(shares, api.Share{ID: 99})
		if !kept.equal(expected) {
			t.Fatal("an answer has changed with its arguments, or with another answer")
		}
	}
}

// P3 of DOC.md: the same arguments have the same answers, whoever asks beside.
func TestNothingElse(t *testing.T) {
	r := drawn(45)
	coefs, ids, points := scalars(r, 4), someIDs(r, 12), []api.Point{{X: anyScalar(r), Y: anyScalar(r)}, {Y: anyScalar(r)}}
	shares := split(t, r, coefs, ids)
	turn(r, shares, 4)
	expected := ask(coefs, ids, points, shares)
	same := make(chan bool)
	for i := range 16 {
		go func() {
			shamir.Correct(shares[:i%12], 2)
			same <- ask(coefs, ids, points, shares).equal(expected)
		}()
	}
	for range 16 {
		if !<-same {
			t.Fatal("other answers of the same arguments")
		}
	}
}
