package vss_test

import (
	"math"
	"math/big"
	"slices"
	"testing"

	"rime/api"
	"rime/edwards"
	"rime/vss"
)

// The chapter's examples.

func TestExampleChecks(t *testing.T) {
	base := edwards.Base()
	commits, errno := vss.Commit([]api.Scalar{{1}, {1}})
	wantList(t, "Commit", commits, errno, []api.Element{base, base}, api.OK)
	got, errno := vss.Public(commits, 1)
	want(t, "Public", got, errno, exp(big.NewInt(2)), api.OK)
	got, errno = vss.Public(commits, 2)
	want(t, "Public", got, errno, exp(big.NewInt(3)), api.OK)
	wantErrno(t, "Check", vss.Check(commits, api.Share{ID: 2, Value: api.Scalar{3}}), api.OK)
	wantErrno(t, "Check", vss.Check(commits, api.Share{ID: 2, Value: api.Scalar{4}}), api.ErrShare)
	wantErrno(t, "Check", vss.Check(commits, api.Share{ID: 0, Value: api.Scalar{1}}), api.ErrID)
	wantErrno(t, "Check", vss.Check(commits, api.Share{ID: 2, Value: bytes32(order)}), api.ErrScalar)
}

func TestExampleDeal(t *testing.T) {
	commits, errno := vss.Commit([]api.Scalar{{1}, {}})
	wantList(t, "Commit", commits, errno, nil, api.ErrZero)
	commits, errno = vss.Commit(nil)
	wantList(t, "Commit", commits, errno, nil, api.ErrCount)
	shares := []api.Share{{ID: 1, Value: api.Scalar{12}}, {ID: 2, Value: api.Scalar{19}}, {ID: 3, Value: api.Scalar{26}}}
	wantDeal(t, []api.Scalar{{5}, {7}}, []int{1, 2, 3}, api.Deal{Commits: []api.Element{exp(big.NewInt(5)), exp(big.NewInt(7))}, Shares: shares}, api.OK)
}

func TestExampleIdentity(t *testing.T) {
	coefs := []api.Scalar{{1}, modL(big.NewInt(-1))}
	commits, errno := vss.Commit(coefs)
	wantErrno(t, "Commit", errno, api.OK)
	got, errno := vss.Public(commits, 1)
	want(t, "Public", got, errno, api.Element{}, api.ErrIdentity)
	wantErrno(t, "Check", vss.Check(commits, api.Share{ID: 1}), api.OK)
	deal, errno := vss.Deal(coefs, []int{1, 2})
	wantErrno(t, "Deal", errno, api.OK)
	wantNoKeys(t, deal, api.ErrZero)
}

func TestExampleAdd(t *testing.T) {
	base, opposite := edwards.Base(), exp(big.NewInt(-1))
	got, errno := vss.Add([]api.Element{base}, []api.Element{base, base})
	wantList(t, "Add", got, errno, nil, api.ErrCount)
	got, errno = vss.Add([]api.Element{base}, []api.Element{opposite})
	wantList(t, "Add", got, errno, nil, api.ErrIdentity)
	got, errno = vss.Add([]api.Element{base})
	wantList(t, "Add", got, errno, []api.Element{base}, api.OK)
}

func TestExampleFits(t *testing.T) {
	deal, errno := vss.Deal([]api.Scalar{{5}, {7}}, []int{1, 2, 3})
	wantErrno(t, "Deal", errno, api.OK)
	_, keys := wantKeys(t, []api.Scalar{{5}, {7}}, deal)
	wantFits(t, keys, true, api.OK)
	for i := range 3 {
		turned := cloneKeys(keys)
		turned.Publics[i].Public, turned.Publics[(i+1)%3].Public = turned.Publics[(i+1)%3].Public, turned.Publics[i].Public
		wantFits(t, turned, false, api.OK)
	}
}

// P8.1: commitments.

func TestCommit(t *testing.T) {
	r := drawn(1)
	for _, n := range []int{1, 2, 3, 10, 254, 255} {
		coefs := polynomial(r, n)
		got, errno := vss.Commit(coefs)
		wantList(t, "Commit", got, errno, commitsOf(coefs), api.OK, coefs)
	}
	for k := range int64(15) { // around the multiples of L
		coefs := []api.Scalar{bytes32(plus(timesL(k), one)), bytes32(minus(timesL(k+1), one)), bytes32(plus(timesL(15), one)), bytes32(minus(room, one))}
		got, errno := vss.Commit(coefs)
		wantList(t, "Commit", got, errno, commitsOf(coefs), api.OK, coefs)
	}
}

func TestCommitRefuses(t *testing.T) {
	r := drawn(2)
	for _, zero := range zeros() {
		for n := 1; n <= 5; n++ {
			for place := range n {
				coefs := polynomial(r, n)
				coefs[place] = zero
				got, errno := vss.Commit(coefs)
				wantList(t, "Commit", got, errno, nil, api.ErrZero, coefs)
			}
		}
	}
	last := append(polynomial(r, 254), api.Scalar{})
	got, errno := vss.Commit(last)
	wantList(t, "Commit", got, errno, nil, api.ErrZero)
	for _, coefs := range [][]api.Scalar{nil, {}, polynomial(r, 256), polynomial(r, 1000), make([]api.Scalar, 256)} {
		got, errno := vss.Commit(coefs)
		wantList(t, "Commit", got, errno, nil, api.ErrCount, len(coefs))
	}
}

func TestCheckCommits(t *testing.T) {
	r := drawn(3)
	right := commitsOf(polynomial(r, 255))
	for _, n := range []int{1, 2, 3, 64, 254, 255} {
		wantErrno(t, "CheckCommits", vss.CheckCommits(right[:n]), api.OK, n)
	}
	for i, e := range wrongElements(t, r) {
		n := []int{1, 2, 5, 255}[i%4]
		for _, place := range []int{0, n / 2, n - 1} {
			list := slices.Clone(right[:n])
			list[place] = e
			wantErrno(t, "CheckCommits", vss.CheckCommits(list), api.ErrCommitment, n, place, e)
		}
	}
}

// Every call that takes commitments answers their errors, ahead of all that is wrong with other arguments.
func TestCommitsAreAskedFirst(t *testing.T) {
	r := drawn(4)
	for expected, lists := range wrongCommits(t, r) {
		for i, commits := range lists {
			wantErrno(t, "CheckCommits", vss.CheckCommits(commits), expected, i)
			group, errno := vss.Group(commits)
			want(t, "Group", group, errno, api.Element{}, expected, i)
			for _, id := range []int{1, 255, 0, -1, 256} {
				point, errno := vss.Public(commits, id)
				want(t, "Public", point, errno, api.Element{}, expected, i, id)
				for _, value := range []api.Scalar{{}, {1}, bytes32(order)} {
					wantErrno(t, "Check", vss.Check(commits, api.Share{ID: id, Value: value}), expected, i, id, value)
				}
				place, errno := vss.All(commits, []api.Share{{ID: 1, Value: api.Scalar{1}}, {ID: id}})
				want(t, "All", place, errno, 0, expected, i, id)
				wantNoKeys(t, api.Deal{Commits: commits, Shares: []api.Share{{ID: id}}}, expected)
			}
			place, errno := vss.All(commits, nil)
			want(t, "All", place, errno, 0, expected, i)
			wantNoKeys(t, api.Deal{Commits: commits}, expected)
			sums, errno := vss.Add(commits)
			wantList(t, "Add", sums, errno, nil, expected, i)
		}
	}
}

// P8.2: a dealer.

func TestDeal(t *testing.T) {
	r := drawn(5)
	for _, size := range [][2]int{{1, 1}, {1, 5}, {2, 1}, {2, 3}, {3, 3}, {5, 2}, {7, 12}, {3, 255}, {255, 3}, {60, 60}} {
		coefs, ids := polynomial(r, size[0]), someIDs(r, size[1])
		wantDeal(t, coefs, ids, dealOf(coefs, ids), api.OK)
	}
	for id := 1; id <= 255; id += 1 + id/8 { // a share may be 0
		coefs := rooted(r, 3, id)
		wantDeal(t, coefs, []int{id}, api.Deal{Commits: commitsOf(coefs), Shares: []api.Share{{ID: id}}}, api.OK)
	}
}

func TestDealRefuses(t *testing.T) {
	r := drawn(6)
	lists := [][]int{nil, {}, {1}, {1, 2, 1}, {255, 255}, {1, 1, 0}, {1, 0, 1}, {0, 0}, upTo(255), upTo(256), append(upTo(255), 7), slices.Repeat([]int{256}, 300)}
	for _, id := range wrongIDs() {
		lists = append(lists, []int{id}, []int{3, id}, []int{3, 3, id}, []int{id, 3, 3})
	}
	coefs := polynomial(r, 3)
	for _, ids := range lists {
		expected := errorOfIDs(ids)
		wantDeal(t, coefs, ids, dealOf(coefs, ids), expected)
		wantDeal(t, nil, ids, api.Deal{}, api.ErrCount)
		wantDeal(t, make([]api.Scalar, 256), ids, api.Deal{}, api.ErrCount)
		wantDeal(t, []api.Scalar{{1}, bytes32(timesL(7)), {1}}, ids, api.Deal{}, api.ErrZero)
	}
}

// P8.3: points and shares.

func TestPublic(t *testing.T) {
	r := drawn(7)
	coefs := polynomial(r, 4)
	commits := commitsOf(coefs)
	for id := 1; id <= 255; id++ {
		got, errno := vss.Public(commits, id)
		want(t, "Public", got, errno, exp(valueAt(coefs, id)), api.OK, coefs, id)
	}
	for _, n := range []int{1, 2, 3, 9, 254, 255} {
		coefs := polynomial(r, n)
		for _, id := range []int{1, 2, 128, 254, 255} {
			got, errno := vss.Public(commitsOf(coefs), id)
			want(t, "Public", got, errno, exp(valueAt(coefs, id)), api.OK, n, id)
		}
	}
	for _, id := range wrongIDs() {
		got, errno := vss.Public(commits, id)
		want(t, "Public", got, errno, api.Element{}, api.ErrID, id)
	}
}

func TestPublicOfRoots(t *testing.T) {
	r := drawn(8)
	for id := 1; id <= 255; id += 1 + id/6 {
		coefs := rooted(r, 2+id%4, id)
		got, errno := vss.Public(commitsOf(coefs), id)
		want(t, "Public", got, errno, api.Element{}, api.ErrIdentity, coefs, id)
		other := 1 + id%255
		got, errno = vss.Public(commitsOf(coefs), other)
		want(t, "Public", got, errno, exp(valueAt(coefs, other)), api.OK, coefs, other)
	}
}

// On the way down a sum may be the identity, though the point is not: so it is of 1 + 2 x + (x - id) x^2.
func TestPublicThroughTheIdentity(t *testing.T) {
	for id := 1; id <= 255; id += 1 + id/6 {
		coefs := []api.Scalar{{1}, {2}, modL(big.NewInt(int64(-id))), {1}}
		got, errno := vss.Public(commitsOf(coefs), id)
		want(t, "Public", got, errno, exp(big.NewInt(int64(1+2*id))), api.OK, id)
		wantErrno(t, "Check", vss.Check(commitsOf(coefs), api.Share{ID: id, Value: modL(big.NewInt(int64(1 + 2*id)))}), api.OK, id)
	}
}

func TestGroup(t *testing.T) {
	r := drawn(9)
	for _, n := range []int{1, 2, 3, 255} {
		commits := commitsOf(polynomial(r, n))
		got, errno := vss.Group(commits)
		want(t, "Group", got, errno, commits[0], api.OK, n)
	}
}

func TestCheck(t *testing.T) {
	r := drawn(10)
	coefs := polynomial(r, 3)
	commits := commitsOf(coefs)
	for id := 1; id <= 255; id++ {
		right := sharesOf(coefs, []int{id})[0]
		wantErrno(t, "Check", vss.Check(commits, right), api.OK, right)
		right.ID = 1 + id%255
		wantErrno(t, "Check of another's", vss.Check(commits, right), api.ErrShare, right)
	}
	for _, id := range wrongIDs() {
		for _, value := range []api.Scalar{{}, {1}, modL(valueAt(coefs, id&0xff)), bytes32(order)} {
			wantErrno(t, "Check", vss.Check(commits, api.Share{ID: id, Value: value}), api.ErrID, id, value)
		}
	}
}

// Values that are not canonical are refused, be they the right number or not.
func TestCheckOfOtherForms(t *testing.T) {
	r := drawn(11)
	coefs := rooted(r, 3, 7)
	commits := commitsOf(coefs)
	for _, id := range []int{1, 2, 7, 255} {
		x := valueAt(coefs, id)
		for k := int64(1); k <= 15; k++ {
			for _, y := range []*big.Int{plus(x, timesL(k)), plus(plus(x, one), timesL(k)), timesL(k)} {
				if y.Cmp(room) < 0 {
					wantErrno(t, "Check", vss.Check(commits, api.Share{ID: id, Value: bytes32(y)}), api.ErrScalar, id, k)
				}
			}
		}
		wantErrno(t, "Check", vss.Check(commits, api.Share{ID: id, Value: bytes32(minus(room, one))}), api.ErrScalar, id)
	}
}

func TestCheckOfZero(t *testing.T) {
	r := drawn(12)
	for id := 1; id <= 255; id += 1 + id/5 {
		coefs := rooted(r, 2+id%3, id)
		wantErrno(t, "Check of 0", vss.Check(commitsOf(coefs), api.Share{ID: id}), api.OK, coefs, id)
		wantErrno(t, "Check of 1", vss.Check(commitsOf(coefs), api.Share{ID: id, Value: api.Scalar{1}}), api.ErrShare, coefs, id)
		wantErrno(t, "Check of 0", vss.Check(commitsOf(coefs), api.Share{ID: 1 + id%255}), api.ErrShare, coefs, id)
	}
}

func TestAll(t *testing.T) {
	r := drawn(13)
	for _, size := range [][2]int{{1, 1}, {2, 1}, {2, 5}, {4, 9}, {3, 60}, {2, 255}} {
		coefs, n := polynomial(r, size[0]), size[1]
		deal := dealOf(coefs, someIDs(r, n))
		place, errno := vss.All(deal.Commits, deal.Shares)
		want(t, "All", place, errno, n, api.OK, deal)
	}
	commits := commitsOf(polynomial(r, 2))
	for _, none := range [][]api.Share{nil, {}} {
		place, errno := vss.All(commits, none)
		want(t, "All of none", place, errno, 0, api.OK)
	}
}

// Shares need not rise, and may be there twice and more often than there are identifiers: each is asked for itself.
func TestAllOfMany(t *testing.T) {
	r := drawn(14)
	deal := dealOf(polynomial(r, 2), []int{9, 3, 200})
	many := slices.Repeat(deal.Shares, 100)
	place, errno := vss.All(deal.Commits, many)
	want(t, "All", place, errno, 300, api.OK)
	many[299].Value = deal.Shares[0].Value
	if place, errno := vss.All(deal.Commits, many); place != 299 || errno != api.ErrShare {
		t.Fatalf("All with the last one wrong: %d %v", place, errno)
	}
}

// All tells the first share that is wrong, whatever is wrong with those behind it.
func TestAllTellsTheFirst(t *testing.T) {
	r := drawn(15)
	spoilt := []func(*api.Share) api.Errno{
		func(s *api.Share) api.Errno { s.ID = wrongIDs()[r.Intn(len(wrongIDs()))]; return api.ErrID },
		func(s *api.Share) api.Errno { s.Value = otherForm(r, s.Value); return api.ErrScalar },
		func(s *api.Share) api.Errno { s.Value = modL(plus(number(s.Value), one)); return api.ErrShare },
		func(s *api.Share) api.Errno {
			s.ID, s.Value = 0, otherForm(r, s.Value)
			return api.ErrID
		},
		func(s *api.Share) api.Errno {
			s.Value = otherForm(r, modL(plus(number(s.Value), one)))
			return api.ErrScalar
		},
	}
	for round := range 60 {
		n := 1 + r.Intn(8)
		deal := dealOf(polynomial(r, 1+r.Intn(4)), someIDs(r, n))
		first := r.Intn(n)
		expected := spoilt[round%len(spoilt)](&deal.Shares[first])
		for i := first + 1; i < n; i++ {
			spoilt[r.Intn(len(spoilt))](&deal.Shares[i])
		}
		if place, errno := vss.All(deal.Commits, deal.Shares); place != first || errno != expected {
			t.Fatalf("All of %x: %d %v, not %d %v", deal, place, errno, first, expected)
		}
		wantErrno(t, "Check", vss.Check(deal.Commits, deal.Shares[first]), expected, deal, first)
	}
}

// P8.4: sums.

func TestAdd(t *testing.T) {
	r := drawn(16)
	for _, size := range [][2]int{{1, 1}, {1, 4}, {2, 1}, {2, 2}, {3, 7}, {20, 2}, {5, 255}, {300, 1}} {
		var lists [][]api.Element
		sums := make([]api.Scalar, size[1])
		for range size[0] {
			coefs := polynomial(r, size[1])
			lists = append(lists, commitsOf(coefs))
			for i, c := range coefs {
				sums[i] = modL(plus(number(sums[i]), number(c)))
			}
		}
		got, errno := vss.Add(lists...)
		wantList(t, "Add", got, errno, commitsOf(sums), api.OK, size)
	}
}

func TestAddOfNone(t *testing.T) {
	got, errno := vss.Add()
	wantList(t, "Add", got, errno, nil, api.ErrCount)
	got, errno = vss.Add([][]api.Element{}...)
	wantList(t, "Add", got, errno, nil, api.ErrCount)
}

// The first list that may not be is told, ahead of unlike lengths; these ahead of sums.
func TestAddRefuses(t *testing.T) {
	r := drawn(17)
	base, opposite, wrong := edwards.Base(), exp(big.NewInt(-1)), wrongElements(t, r)
	right := []api.Element{base}
	for _, e := range wrong {
		bad := []api.Element{base, e}
		for _, c := range []struct {
			lists    [][]api.Element
			expected api.Errno
		}{
			{[][]api.Element{right, {base, base}, bad}, api.ErrCommitment},
			{[][]api.Element{right, bad}, api.ErrCommitment},
			{[][]api.Element{bad, right}, api.ErrCommitment},
			{[][]api.Element{bad, nil}, api.ErrCommitment},
			{[][]api.Element{nil, bad}, api.ErrCount},
			{[][]api.Element{right, nil, bad}, api.ErrCount},
			{[][]api.Element{right, bad, slices.Repeat(right, 256)}, api.ErrCommitment},
			{[][]api.Element{right, slices.Repeat(right, 256), bad}, api.ErrCount},
		} {
			got, errno := vss.Add(c.lists...)
			wantList(t, "Add", got, errno, nil, c.expected, c.lists)
		}
	}
	for _, lists := range [][][]api.Element{
		{right, {opposite, base}},
		{{base, base}, right},
		{right, right, {base, base}},
		{{base, base}, {base, base}, right},
		{right, nil},
		{{base, base}, {opposite, opposite}, {}},
	} {
		got, errno := vss.Add(lists...)
		wantList(t, "Add", got, errno, nil, api.ErrCount, lists)
	}
}

func TestAddToTheIdentity(t *testing.T) {
	r := drawn(18)
	for n := 1; n <= 6; n++ {
		for place := range n {
			first, second := polynomial(r, n), polynomial(r, n)
			third := polynomial(r, n)
			third[place] = modL(new(big.Int).Neg(plus(number(first[place]), number(second[place]))))
			got, errno := vss.Add(commitsOf(first), commitsOf(second), commitsOf(third))
			wantList(t, "Add", got, errno, nil, api.ErrIdentity, first, second, third)
		}
	}
	base, opposite := []api.Element{edwards.Base()}, []api.Element{exp(big.NewInt(-1))}
	got, errno := vss.Add(base, opposite, base) // the identity on the way is no error
	wantList(t, "Add", got, errno, base, api.OK)
	got, errno = vss.Add(base, opposite, opposite, base, base, base)
	wantList(t, "Add", got, errno, []api.Element{exp(big.NewInt(2))}, api.OK)
}

// P8.5: keys.

func TestKeys(t *testing.T) {
	r := drawn(19)
	for _, size := range [][2]int{{2, 2}, {2, 3}, {3, 3}, {3, 8}, {9, 12}, {2, 255}, {70, 71}} {
		coefs := polynomial(r, size[0])
		wantKeys(t, coefs, dealOf(coefs, risingIDs(r, size[1])))
	}
}

func TestKeysRefuses(t *testing.T) {
	r := drawn(20)
	coefs := polynomial(r, 3)
	whole := dealOf(coefs, upTo(6))
	ones := func(ids []int) api.Deal {
		d := api.Deal{Commits: whole.Commits}
		for _, id := range ids {
			d.Shares = append(d.Shares, api.Share{ID: id, Value: bytes32(order)}) // the values are asked only behind the identifiers
		}
		return d
	}
	for n := range 3 {
		wantNoKeys(t, api.Deal{Commits: whole.Commits, Shares: whole.Shares[:n]}, api.ErrCount)
	}
	wantKeys(t, coefs, api.Deal{Commits: whole.Commits, Shares: whole.Shares[:3]})
	for _, shares := range [][]api.Share{nil, whole.Shares, {{ID: 0}}} { // one commitment is no threshold
		wantNoKeys(t, api.Deal{Commits: whole.Commits[:1], Shares: shares}, api.ErrThreshold)
	}
	wantNoKeys(t, ones(upTo(256)), api.ErrCount)
	wantNoKeys(t, ones(slices.Repeat([]int{0}, 1000)), api.ErrCount)
	wantNoKeys(t, ones([]int{0, 0}), api.ErrCount)
	for _, id := range wrongIDs() {
		wantNoKeys(t, ones([]int{id, 2, 3}), api.ErrID)
		wantNoKeys(t, ones([]int{1, 2, id}), api.ErrID)
		wantNoKeys(t, ones([]int{1, id, id}), api.ErrID)
		wantNoKeys(t, ones([]int{id, 1, 1}), api.ErrID)
		wantNoKeys(t, ones([]int{2, 2, id}), api.ErrTwice)
		wantNoKeys(t, ones([]int{2, 1, id}), api.ErrOrder)
	}
	wantNoKeys(t, ones([]int{2, 2, 1}), api.ErrTwice)
	wantNoKeys(t, ones([]int{2, 1, 1}), api.ErrOrder)
	wantNoKeys(t, ones([]int{1, 3, 1}), api.ErrOrder)
	wantNoKeys(t, ones([]int{255, 255, 255}), api.ErrTwice)
	wantNoKeys(t, ones([]int{255, 254, 253}), api.ErrOrder)
	wantNoKeys(t, ones([]int{1, 2, 3}), api.ErrScalar)
}

// Of the values the first that does not fit is told; a value 0 only where all fit, wherever it stands.
func TestKeysAsksTheValues(t *testing.T) {
	r := drawn(21)
	for zero := range 5 {
		coefs := rooted(r, 3, zero+1)
		whole := dealOf(coefs, upTo(5))
		wantNoKeys(t, whole, api.ErrZero)
		for place := range 5 {
			form, other := cloneDeal(whole), cloneDeal(whole)
			form.Shares[place].Value = otherForm(r, form.Shares[place].Value)
			wantNoKeys(t, form, api.ErrScalar)
			other.Shares[place].Value = modL(plus(number(other.Shares[place].Value), one))
			wantNoKeys(t, other, api.ErrShare)
			if place < 4 {
				form.Shares[place+1].Value = modL(plus(number(form.Shares[place+1].Value), one))
				wantNoKeys(t, form, api.ErrScalar)
				other.Shares[place+1].Value = bytes32(order)
				wantNoKeys(t, other, api.ErrShare)
			}
		}
		rest := cloneDeal(whole) // without that share it is a deal like others
		rest.Shares = slices.Delete(rest.Shares, zero, zero+1)
		wantKeys(t, coefs, rest)
	}
}

// P8.6: do keys fit?

func TestFits(t *testing.T) {
	r := drawn(22)
	for _, size := range [][2]int{{2, 2}, {2, 3}, {3, 3}, {3, 7}, {10, 13}, {2, 255}, {40, 43}, {255, 255}} {
		keys := keysOf(polynomial(r, size[0]), risingIDs(r, size[1]))
		wantFits(t, keys, true, api.OK)
		turned := cloneKeys(keys)
		turned.Group = exp(number(low(r)))
		wantFits(t, turned, false, api.OK)
		for _, place := range []int{0, size[0] - 1, size[1] - 1} {
			turned := cloneKeys(keys)
			turned.Publics[place].Public = exp(number(low(r)))
			wantFits(t, turned, false, api.OK)
		}
	}
}

// Each of the publics and the group's key counts, also where all others fit.
func TestFitsAsksAll(t *testing.T) {
	r := drawn(23)
	keys := keysOf(polynomial(r, 3), risingIDs(r, 9))
	for place := range keys.Publics {
		turned := cloneKeys(keys)
		sum, errno := edwards.Add(turned.Publics[place].Public, edwards.Base())
		wantErrno(t, "Add", errno, api.OK)
		turned.Publics[place].Public = sum
		wantFits(t, turned, false, api.OK)
		turned = cloneKeys(keys)
		turned.Publics[place].Public, errno = edwards.Neg(turned.Publics[place].Public)
		wantErrno(t, "Neg", errno, api.OK)
		wantFits(t, turned, false, api.OK)
	}
	turned := cloneKeys(keys)
	turned.Group = keys.Publics[0].Public
	wantFits(t, turned, false, api.OK)
}

// A threshold below the polynomial's is too few coefficients; one above it leaves room for them.
func TestFitsAsksTheThreshold(t *testing.T) {
	r := drawn(24)
	keys := keysOf(polynomial(r, 5), risingIDs(r, 9))
	for threshold := 2; threshold <= 9; threshold++ {
		keys.Threshold = threshold
		wantFits(t, keys, threshold >= 5, api.OK)
	}
}

func TestFitsRefuses(t *testing.T) {
	r := drawn(25)
	whole := keysOf(polynomial(r, 3), upTo(5))
	wrong := wrongElements(t, r)
	with := func(threshold int, group api.Element, ids ...int) api.GroupKeys {
		k := api.GroupKeys{Threshold: threshold, Group: group}
		for _, id := range ids {
			k.Publics = append(k.Publics, api.PublicShare{ID: id, Public: edwards.Base()})
		}
		return k
	}
	wantFits(t, api.GroupKeys{}, false, api.ErrThreshold)
	for _, threshold := range []int{1, 0, -1, -255, 256, 257, 1 << 32, 1<<32 + 3, math.MaxInt, math.MinInt} {
		wantFits(t, with(threshold, whole.Group, 1, 2, 3), false, api.ErrThreshold)
		wantFits(t, with(threshold, wrong[0]), false, api.ErrThreshold)
	}
	for n := range 3 {
		wantFits(t, with(3, wrong[0], make([]int, n)...), false, api.ErrCount)
	}
	wantFits(t, with(255, whole.Group, upTo(254)...), false, api.ErrCount)
	wantFits(t, with(3, wrong[0], upTo(256)...), false, api.ErrCount)
	wantFits(t, with(3, wrong[0], make([]int, 1000)...), false, api.ErrCount)
	for _, id := range wrongIDs() {
		wantFits(t, with(3, wrong[0], id, 1, 1), false, api.ErrID)
		wantFits(t, with(3, wrong[0], 1, 2, id), false, api.ErrID)
		wantFits(t, with(3, wrong[0], 2, 2, id), false, api.ErrTwice)
		wantFits(t, with(3, wrong[0], 2, 1, id), false, api.ErrOrder)
	}
	wantFits(t, with(2, wrong[0], 1, 3, 1), false, api.ErrOrder)
	wantFits(t, with(2, wrong[0], 1, 255, 255), false, api.ErrTwice)
}

// Publics are gone through one by one, each one's identifier ahead of its point; the group's key comes last.
func TestFitsAsksPoints(t *testing.T) {
	r := drawn(26)
	for i, e := range wrongElements(t, r) {
		whole := keysOf(polynomial(r, 3), upTo(5))
		group := cloneKeys(whole)
		group.Group = e
		wantFits(t, group, false, api.ErrPublic)
		place := i % 5
		keys := cloneKeys(whole)
		keys.Publics[place].Public = e
		wantFits(t, keys, false, api.ErrPublic)
		keys.Publics[place].ID = 300
		wantFits(t, keys, false, api.ErrID)
		keys.Publics[place].ID = place
		if place > 0 {
			wantFits(t, keys, false, api.ErrTwice)
			keys.Publics[place-1].ID, keys.Publics[place].ID = place+1, place
			wantFits(t, keys, false, api.ErrOrder)
		}
		if place < 4 {
			keys = cloneKeys(whole)
			keys.Publics[place].Public, keys.Publics[place+1].ID, keys.Group = e, 0, e
			wantFits(t, keys, false, api.ErrPublic)
			keys.Publics[place].Public = whole.Publics[place].Public
			wantFits(t, keys, false, api.ErrID)
		}
	}
}
