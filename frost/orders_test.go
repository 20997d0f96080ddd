package frost_test

import (
	"math/rand"
	"slices"
	"testing"

	"rime/api"
	"rime/edwards"
	"rime/frost"
)

// P9.1 and P4 of DOC.md: a call answers the first error that the chapter names. For each call stand all its faults in the chapter's order; each alone, and each with any that comes behind it, must be answered by its own error.

// asking is what the calls are asked with.
type asking struct {
	team
	key     api.KeyShare
	own     api.Nonces
	member  api.PublicShare
	share   api.SigShare
	factors []api.Factor
	given   []api.SigShare
}

func drawnAsking(r *rand.Rand) *asking {
	a := drawnTeam(r, 2, 6, 4)
	for a.all[0] < 3 || a.all[5] == api.MaxID { // so that there are identifiers below the first and above the last
		a = drawnTeam(r, 2, 6, 4)
	}
	given := a.right()
	return &asking{team: a, key: a.shares[2], own: a.nonces[2], member: a.public(2), share: given[2], factors: factorsOf(a.keys.Group, a.list, a.message), given: given}
}

type fault struct {
	errno api.Errno
	put   func(*asking)
}

// call answers the error, and whether beside it all was zero.
type call func(*asking) (api.Errno, bool)

func outside(r *rand.Rand) api.Element { return pick(r, wrongElements(r)) }

func pick[T any](r *rand.Rand, l []T) T { return l[r.Intn(len(l))] }

func longMessage(r *rand.Rand) fault {
	return fault{api.ErrLong, func(a *asking) { a.message = make([]byte, api.MaxMessage+1+r.Intn(2)) }}
}

func wrongGroup(r *rand.Rand) fault {
	return fault{api.ErrPublic, func(a *asking) { a.keys.Group, a.key.Group = outside(r), outside(r) }}
}

// wrongLists are a list's faults: those of the second commitment alone, so that they come in the order of one commitment.
func wrongLists(r *rand.Rand) []fault {
	return []fault{
		{api.ErrCount, func(a *asking) { a.list = nil }},
		{api.ErrCount, func(a *asking) { a.list = make([]api.Commitment, 256) }},
		{api.ErrID, func(a *asking) { a.list[1].ID = pick(r, wrongIDs()) }},
		{api.ErrTwice, func(a *asking) { a.list[1].ID = a.list[0].ID }},
		{api.ErrOrder, func(a *asking) { a.list[1].ID = a.list[0].ID - 1 - r.Intn(2) }},
		{api.ErrCommitment, func(a *asking) { a.list[1].Hiding = outside(r) }},
		{api.ErrCommitment, func(a *asking) { a.list[1].Binding = outside(r) }},
	}
}

// wrongKeys are the faults of keys: those of the second public share alone, and of the group's key.
func wrongKeys(r *rand.Rand) []fault {
	return []fault{
		{api.ErrThreshold, func(a *asking) { a.keys.Threshold = pick(r, wrongThresholds()) }},
		{api.ErrCount, func(a *asking) { a.keys.Publics = a.keys.Publics[:a.keys.Threshold-1] }},
		{api.ErrCount, func(a *asking) { a.keys.Publics = make([]api.PublicShare, 256) }},
		{api.ErrID, func(a *asking) { a.keys.Publics[1].ID = pick(r, wrongIDs()) }},
		{api.ErrTwice, func(a *asking) { a.keys.Publics[1].ID = a.keys.Publics[0].ID }},
		{api.ErrOrder, func(a *asking) { a.keys.Publics[1].ID = a.keys.Publics[0].ID - 1 }},
		{api.ErrPublic, func(a *asking) { a.keys.Publics[1].Public = outside(r) }},
		{api.ErrPublic, func(a *asking) { a.keys.Group = outside(r) }},
	}
}

// wrongShares are the faults of shares to be summed up.
func wrongShares(r *rand.Rand) []fault {
	return []fault{
		{api.ErrCount, func(a *asking) { a.given = a.given[:3] }},
		{api.ErrCount, func(a *asking) { a.given = append(a.given, a.given[0]) }},
		{api.ErrMismatch, func(a *asking) { a.given[2].ID = otherID(r, a.ids) }},
		{api.ErrScalar, func(a *asking) { a.given[0].Value = otherForm(r, a.given[0].Value) }},
	}
}

func (a *asking) copied() *asking {
	b := *a
	b.team, b.factors, b.given = a.team.clone(), slices.Clone(a.factors), slices.Clone(a.given)
	return &b
}

// wantOrder: nothing wrong gives OK; of two faults the one that is named first is answered.
func wantOrder(t *testing.T, name string, r *rand.Rand, ask call, faults ...fault) {
	t.Helper()
	for range 3 {
		right := drawnAsking(r)
		if errno, _ := ask(right.copied()); errno != api.OK {
			t.Fatalf("%s of what is right: %v", name, errno)
		}
		for i, first := range faults {
			for j := i; j < len(faults); j++ {
				a := right.copied()
				if j != i {
					faults[j].put(a)
				}
				first.put(a)
				if errno, zero := ask(a); errno != first.errno || !zero {
					t.Fatalf("%s with faults %d (%v) and %d (%v): %v, else zero: %v", name, i, first.errno, j, faults[j].errno, errno, zero)
				}
			}
		}
	}
}

func TestOrderOfEncodeList(t *testing.T) {
	r := drawn(60)
	wantOrder(t, "CheckList", r, func(a *asking) (api.Errno, bool) { return frost.CheckList(a.list), true }, wrongLists(r)...)
	wantOrder(t, "EncodeList", r, func(a *asking) (api.Errno, bool) {
		code, errno := frost.EncodeList(a.list)
		return errno, len(code) == 0
	}, wrongLists(r)...)
}

func TestOrderOfCheckKeys(t *testing.T) {
	r := drawn(61)
	wantOrder(t, "CheckKeys", r, func(a *asking) (api.Errno, bool) { return frost.CheckKeys(a.keys), true }, wrongKeys(r)...)
}

func TestOrderOfFactors(t *testing.T) {
	r := drawn(62)
	faults := append([]fault{longMessage(r), wrongGroup(r)}, wrongLists(r)...)
	wantOrder(t, "Factors", r, func(a *asking) (api.Errno, bool) {
		factors, errno := frost.Factors(a.keys.Group, a.list, a.message)
		return errno, len(factors) == 0
	}, faults...)
}

func TestOrderOfGroupCommitment(t *testing.T) {
	r := drawn(63)
	faults := append(wrongLists(r),
		fault{api.ErrFactors, func(a *asking) { a.factors = a.factors[:3] }},
		fault{api.ErrFactors, func(a *asking) { a.factors[3].ID = otherID(r, a.ids) }},
		fault{api.ErrIdentity, func(a *asking) {
			for i := range a.list { // each Hiding and Binding is the other's opposite, so that the factor 1 makes nothing of them
				a.list[i].Binding, _ = edwards.Neg(a.list[i].Hiding)
				a.factors[i].Value = api.Scalar{1}
			}
		}},
	)
	wantOrder(t, "GroupCommitment", r, func(a *asking) (api.Errno, bool) {
		e, errno := frost.GroupCommitment(a.list, a.factors)
		return errno, e == (api.Element{})
	}, faults...)
}

func TestOrderOfSign(t *testing.T) {
	r := drawn(64)
	faults := []fault{
		{api.ErrID, func(a *asking) { a.key.ID = pick(r, wrongIDs()) }},
		{api.ErrThreshold, func(a *asking) { a.key.Threshold = pick(r, wrongThresholds()) }},
		longMessage(r), wrongGroup(r),
	}
	faults = append(append(faults, wrongLists(r)...),
		fault{api.ErrCount, func(a *asking) { a.key.Threshold = len(a.list) + 1 }},
		fault{api.ErrMissing, func(a *asking) { a.key.ID = otherID(r, a.ids) }},
		fault{api.ErrZero, func(a *asking) { a.own.Hiding = pick(r, zeros()) }},
		fault{api.ErrZero, func(a *asking) { a.own.Binding = pick(r, zeros()) }},
		fault{api.ErrMismatch, func(a *asking) { a.own.Hiding = some(r) }},
		fault{api.ErrMismatch, func(a *asking) { a.own.Binding = some(r) }},
		fault{api.ErrMismatch, func(a *asking) { a.list[2].Hiding, a.list[2].Binding = a.list[2].Binding, a.list[2].Hiding }},
	)
	wantOrder(t, "Sign", r, func(a *asking) (api.Errno, bool) {
		s, errno := frost.Sign(a.key, a.own, a.list, a.message)
		return errno, s == (api.SigShare{})
	}, faults...)
}

func TestOrderOfCheck(t *testing.T) {
	r := drawn(65)
	faults := append([]fault{longMessage(r), wrongGroup(r)}, wrongLists(r)...)
	faults = append(faults,
		fault{api.ErrMissing, func(a *asking) { a.share.ID = otherID(r, a.ids) }},
		fault{api.ErrMissing, func(a *asking) { a.share.ID = pick(r, wrongIDs()) }},
		fault{api.ErrMismatch, func(a *asking) { a.member.ID = otherID(r, a.ids) }},
		fault{api.ErrMismatch, func(a *asking) { a.member.ID = a.ids[1] }},
		fault{api.ErrMismatch, func(a *asking) { a.member.ID = a.ids[2] + 256 }},
		fault{api.ErrPublic, func(a *asking) { a.member.Public = outside(r) }},
		fault{api.ErrScalar, func(a *asking) { a.share.Value = otherForm(r, a.share.Value) }},
		fault{api.ErrBad, func(a *asking) { a.share.Value = low(r) }},
		fault{api.ErrBad, func(a *asking) { a.member.Public = someElement(r) }},
	)
	wantOrder(t, "Check", r, func(a *asking) (api.Errno, bool) {
		return frost.Check(a.member, a.share, a.keys.Group, a.list, a.message), true
	}, faults...)
}

func TestOrderOfAggregate(t *testing.T) {
	r := drawn(66)
	faults := append([]fault{longMessage(r), wrongGroup(r)}, wrongLists(r)...)
	wantOrder(t, "Aggregate", r, func(a *asking) (api.Errno, bool) {
		sig, errno := frost.Aggregate(a.keys.Group, a.list, a.message, a.given)
		return errno, sig == (api.Signature{})
	}, append(faults, wrongShares(r)...)...)
}

func TestOrderOfFinish(t *testing.T) {
	r := drawn(67)
	faults := append(append(wrongKeys(r), longMessage(r)), wrongLists(r)...)
	faults = append(faults,
		fault{api.ErrCount, func(a *asking) { a.keys.Threshold = 5 + r.Intn(2) }},
		fault{api.ErrMissing, func(a *asking) {
			at := slices.IndexFunc(a.keys.Publics, func(p api.PublicShare) bool { return p.ID == a.ids[3] })
			a.keys.Publics = slices.Delete(a.keys.Publics, at, at+1)
		}},
		fault{api.ErrMissing, func(a *asking) {
			a.list[3] = commitmentOf(a.ids[3], api.Nonces{Hiding: some(r), Binding: some(r)})
			a.list[3].ID = a.all[5] + 1
		}},
	)
	wantOrder(t, "Finish", r, func(a *asking) (api.Errno, bool) {
		sig, wrong, errno := frost.Finish(a.keys, a.list, a.message, a.given)
		return errno, sig == (api.Signature{}) && len(wrong) == 0
	}, append(faults, wrongShares(r)...)...)
}

// A share that is not right is looked at last of all.
func TestOrderOfErrBad(t *testing.T) {
	r := drawn(68)
	faults := append(append(wrongKeys(r), longMessage(r)), wrongLists(r)...)
	for _, f := range append(faults, wrongShares(r)...) {
		a := drawnAsking(r)
		for i := range a.given {
			a.given[i].Value = low(r)
		}
		wantBlamed(t, a.keys, a.list, a.message, a.given, a.ids)
		f.put(a)
		sig, wrong, errno := frost.Finish(a.keys, a.list, a.message, a.given)
		want(t, "Finish", sig, errno, api.Signature{}, f.errno)
		wantList(t, "Finish", wrong, errno, nil, f.errno)
	}
}

// The commitments and the public shares are gone through one by one: a later one's fault waits, whatever it is.
func TestCommitmentByCommitment(t *testing.T) {
	r := drawn(69)
	first, last := drawnAsking(r), drawnAsking(r)
	first.list[0].Binding, first.list[2].ID = edwards.Identity(), 0
	wantErrno(t, "CheckList", frost.CheckList(first.list), api.ErrCommitment)
	last.list[0].ID, last.list[2].Hiding = 0, edwards.Identity()
	wantErrno(t, "CheckList", frost.CheckList(last.list), api.ErrID)
	first.keys.Publics[0].Public, first.keys.Publics[2].ID = edwards.Identity(), 0
	wantErrno(t, "CheckKeys", frost.CheckKeys(first.keys), api.ErrPublic)
	last.keys.Publics[1].ID, last.keys.Publics[2].Public = last.keys.Publics[0].ID, edwards.Identity()
	wantErrno(t, "CheckKeys", frost.CheckKeys(last.keys), api.ErrTwice)
}
