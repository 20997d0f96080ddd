package vss_test

import (
	"math/big"
	"math/rand"
	"slices"
	"testing"

	"rime/api"
	"rime/edwards"
	"rime/scalar"
	"rime/shamir"
	"rime/vss"
)

func dealt(t *testing.T, coefs []api.Scalar, ids []int) api.Deal {
	t.Helper()
	deal, errno := vss.Deal(coefs, ids)
	wantErrno(t, "Deal", errno, api.OK, coefs, ids)
	return deal
}

// P8.7: what is dealt fits.

func TestWhatIsDealtFits(t *testing.T) {
	r := drawn(40)
	for round := range 40 {
		threshold := 2 + r.Intn(8)
		n := threshold + r.Intn(8)
		coefs, ids := polynomial(r, threshold), risingIDs(r, n)
		if round%4 == 0 {
			coefs = rooted(r, threshold, ids[r.Intn(n)])
		}
		deal := dealt(t, coefs, ids)
		for _, s := range deal.Shares {
			wantErrno(t, "Check", vss.Check(deal.Commits, s), api.OK, deal, s)
		}
		place, errno := vss.All(deal.Commits, deal.Shares)
		want(t, "All", place, errno, n, api.OK, deal)
		deal.Shares = slices.DeleteFunc(deal.Shares, func(s api.Share) bool { return scalar.IsZero(s.Value) })
		if len(deal.Shares) >= threshold {
			wantKeysThatFit(t, deal)
		}
	}
}

// wantKeysThatFit: each key is of its share, and the group's keys are the same keys, seen from outside.
func wantKeysThatFit(t *testing.T, deal api.Deal) {
	t.Helper()
	list, keys, errno := vss.Keys(deal)
	if errno != api.OK || len(list) != len(deal.Shares) || len(keys.Publics) != len(list) || keys.Threshold != len(deal.Commits) {
		t.Fatalf("Keys of %x: %x %x %v", deal, list, keys, errno)
	}
	group, errno := vss.Group(deal.Commits)
	want(t, "Group", group, errno, keys.Group, api.OK, deal)
	for i, k := range list {
		s := deal.Shares[i]
		if k != (api.KeyShare{ID: s.ID, Threshold: keys.Threshold, Secret: s.Value, Public: edwards.MulBase(k.Secret), Group: group}) {
			t.Fatalf("the key share %x of %x", k, s)
		}
		if keys.Publics[i] != (api.PublicShare{ID: s.ID, Public: k.Public}) {
			t.Fatalf("the public share %x of %x", keys.Publics[i], s)
		}
		if i%20 == 0 || i < 20 { // of large deals each takes long
			public, errno := vss.Public(deal.Commits, s.ID)
			want(t, "Public", public, errno, k.Public, api.OK, s)
		}
	}
	wantFits(t, keys, true, api.OK)
}

func TestWhatIsDealtToAllFits(t *testing.T) {
	r := drawn(41)
	for _, threshold := range []int{2, 255} {
		wantKeysThatFit(t, dealt(t, polynomial(r, threshold), upTo(255)))
	}
}

// P8.8: one polynomial.

func TestOneValueIsTaken(t *testing.T) {
	r := drawn(42)
	for range 25 {
		coefs, id := polynomial(r, 1+r.Intn(5)), 1+r.Intn(255)
		commits, x := commitsOf(coefs), valueAt(coefs, id)
		wantErrno(t, "Check", vss.Check(commits, api.Share{ID: id, Value: modL(x)}), api.OK, coefs, id)
		others := []*big.Int{new(big.Int), one, big.NewInt(-1), plus(x, one), minus(x, one), new(big.Int).Neg(x), times(x, big.NewInt(2)), times(x, big.NewInt(8)), valueAt(coefs, id%255+1), number(coefs[0]), number(low(r)), number(low(r))}
		for _, y := range others {
			if modL(y) != modL(x) {
				wantErrno(t, "Check", vss.Check(commits, api.Share{ID: id, Value: modL(y)}), api.ErrShare, coefs, id, y)
			}
		}
	}
}

// taken are the shares that Check takes, of many that are right or wrong in any way.
func taken(r *rand.Rand, coefs []api.Scalar, ids []int) []api.Share {
	commits := commitsOf(coefs)
	var out []api.Share
	for _, s := range sharesOf(coefs, ids) {
		values := []api.Scalar{s.Value, modL(plus(number(s.Value), one)), low(r), otherForm(r, s.Value), {}}
		r.Shuffle(len(values), func(i, j int) { values[i], values[j] = values[j], values[i] })
		for _, v := range values {
			if share := (api.Share{ID: s.ID, Value: v}); vss.Check(commits, share) == api.OK {
				out = append(out, share)
			}
		}
	}
	return out
}

func TestTakenSharesGiveOneSecret(t *testing.T) {
	r := drawn(43)
	for threshold := 1; threshold <= 6; threshold++ {
		coefs := polynomial(r, threshold)
		shares := taken(r, coefs, someIDs(r, threshold+5))
		if len(shares) != threshold+5 {
			t.Fatalf("Check has taken %d shares of %d identifiers", len(shares), threshold+5)
		}
		group, errno := vss.Group(commitsOf(coefs))
		wantErrno(t, "Group", errno, api.OK)
		for range 20 {
			r.Shuffle(len(shares), func(i, j int) { shares[i], shares[j] = shares[j], shares[i] })
			secret, errno := shamir.Interpolate(shares[:threshold], api.Scalar{})
			want(t, "Interpolate", secret, errno, reduced(coefs[0]), api.OK, shares, threshold)
			if edwards.MulBase(secret) != group {
				t.Fatalf("the secret %x is not of the group %x", secret, group)
			}
		}
		secret, errno := shamir.Recover(shares, threshold)
		want(t, "Recover", secret, errno, reduced(coefs[0]), api.OK, shares, threshold)
	}
}

// P8.9: sums.

func TestSums(t *testing.T) {
	r := drawn(44)
	for range 15 {
		count, n := 1+r.Intn(5), 1+r.Intn(5)
		ids := someIDs(r, 4)
		sums, shares := make([]api.Scalar, n), make([]api.Share, len(ids))
		points := slices.Repeat([]api.Element{edwards.Identity()}, len(ids))
		var lists [][]api.Element
		for range count {
			coefs := polynomial(r, n)
			deal := dealt(t, coefs, ids)
			lists = append(lists, deal.Commits)
			for i, c := range coefs {
				sums[i] = scalar.Add(sums[i], c)
			}
			for i, s := range deal.Shares {
				shares[i] = api.Share{ID: s.ID, Value: scalar.Add(shares[i].Value, s.Value)}
				point, errno := vss.Public(deal.Commits, s.ID)
				wantErrno(t, "Public", errno, api.OK)
				points[i], _ = edwards.Add(points[i], point)
			}
		}
		commits, errno := vss.Commit(sums)
		wantErrno(t, "Commit", errno, api.OK, sums)
		added, errno := vss.Add(lists...)
		wantList(t, "Add", added, errno, commits, api.OK, lists)
		for i, s := range shares {
			point, errno := vss.Public(added, s.ID)
			want(t, "Public of Add", point, errno, points[i], api.OK, lists, s.ID)
			wantErrno(t, "Check of a sum", vss.Check(added, s), api.OK, lists, s)
		}
	}
}

// P8.10: Fits is Feldman's, seen from outside.

// lieOn: is there a polynomial of so many coefficients, any of which may be 0, through the numbers and, at 0, the secret? It is the one through the first ones.
func lieOn(t *testing.T, threshold int, secret api.Scalar, shares []api.Share) bool {
	t.Helper()
	var points []api.Point
	for _, s := range shares[:threshold] {
		points = append(points, api.Point{X: api.Scalar{byte(s.ID)}, Y: s.Value})
	}
	coefs, errno := shamir.Through(points)
	wantErrno(t, "Through", errno, api.OK)
	fits := coefs[0] == secret
	for _, s := range shares {
		fits = fits && modL(valueAt(coefs, s.ID)) == s.Value
	}
	return fits
}

// seenFrom are the keys whose points are of these numbers.
func seenFrom(threshold int, secret api.Scalar, shares []api.Share) api.GroupKeys {
	keys := api.GroupKeys{Threshold: threshold, Group: exp(number(secret))}
	for _, s := range shares {
		keys.Publics = append(keys.Publics, api.PublicShare{ID: s.ID, Public: exp(number(s.Value))})
	}
	return keys
}

func TestFitsIsFeldmans(t *testing.T) {
	r := drawn(45)
	seen := map[bool]int{}
	for range 150 {
		threshold := 2 + r.Intn(4)
		n := threshold + r.Intn(4)
		coefs := polynomial(r, max(1, threshold+r.Intn(4)-2)) // of fewer coefficients, as many, or one more
		secret, shares := reduced(coefs[0]), sharesOf(coefs, risingIDs(r, n))
		switch r.Intn(6) {
		case 0:
			secret = modL(plus(number(secret), one))
		case 1:
			at := r.Intn(n)
			shares[at].Value = modL(plus(number(shares[at].Value), one))
		case 2:
			at, other := r.Intn(n), r.Intn(n)
			shares[at].Value, shares[other].Value = shares[other].Value, shares[at].Value
		}
		if slices.ContainsFunc(shares, func(s api.Share) bool { return scalar.IsZero(s.Value) }) || scalar.IsZero(secret) {
			continue
		}
		expected := lieOn(t, threshold, secret, shares)
		wantFits(t, seenFrom(threshold, secret, shares), expected, api.OK)
		seen[expected]++
	}
	if seen[true] < 40 || seen[false] < 40 {
		t.Fatalf("how often keys fit: %v", seen)
	}
}

// Commitments need not be group elements for keys to fit: coefficients may be 0, but for the first one.
func TestFitsOfZeroCoefficients(t *testing.T) {
	r := drawn(46)
	for threshold := 2; threshold <= 5; threshold++ {
		for zero := range 1 << (threshold - 1) {
			coefs := polynomial(r, threshold)
			for i := 1; i < threshold; i++ {
				if zero>>(i-1)&1 == 1 {
					coefs[i] = zeros()[r.Intn(16)]
				}
			}
			keys := keysOf(coefs, risingIDs(r, threshold+3))
			wantFits(t, keys, true, api.OK)
			keys.Publics[threshold+2].Public = exp(number(low(r)))
			wantFits(t, keys, false, api.OK)
		}
	}
}

// Keys whose polynomial has one coefficient too many, so chosen that all publics but one, or the group's key, lie on a lower one.
func TestFitsOfNearMisses(t *testing.T) {
	r := drawn(47)
	for threshold := 2; threshold <= 4; threshold++ {
		ids := risingIDs(r, threshold+2)
		for miss := range len(ids) + 1 {
			coefs := polynomial(r, threshold)
			secret, shares := reduced(coefs[0]), sharesOf(coefs, ids)
			if miss < len(ids) {
				shares[miss].Value = low(r)
			} else {
				secret = low(r)
			}
			wantFits(t, seenFrom(threshold, secret, shares), false, api.OK)
		}
	}
}

// P8.11: what is handed in is neither changed nor kept, spare room included; an answer is new memory.

// world is what the calls below are asked with.
type world struct {
	coefs []api.Scalar
	ids   []int
	lists [][]api.Element
	deal  api.Deal
	keys  api.GroupKeys
}

// drawnWorld has lists with spare room behind them.
func drawnWorld(r *rand.Rand) world {
	coefs, ids := polynomial(r, 6), risingIDs(r, 9)
	w := world{coefs: coefs[:3], ids: ids[:6], deal: dealOf(coefs[:3], ids), keys: keysOf(coefs[:3], ids)}
	for range 3 {
		w.lists = append(w.lists, commitsOf(polynomial(r, 6))[:3])
	}
	w.deal.Shares, w.keys.Publics = w.deal.Shares[:6], w.keys.Publics[:6]
	return w
}

// clone copies the spare room, too.
func (w world) clone() world {
	w.coefs, w.ids, w.lists = wholeOf(w.coefs), wholeOf(w.ids), wholeOf(w.lists)
	for i, l := range w.lists {
		w.lists[i] = wholeOf(l)
	}
	w.deal = api.Deal{Commits: wholeOf(w.deal.Commits), Shares: wholeOf(w.deal.Shares)}
	w.keys.Publics = wholeOf(w.keys.Publics)
	return w
}

func wholeOf[T any](l []T) []T { return slices.Clone(l[:cap(l)])[:len(l)] }

func sameWhole[T comparable](a, b []T) bool {
	return len(a) == len(b) && slices.Equal(a[:cap(a)], b[:min(cap(a), cap(b))])
}

func (w world) equal(v world) bool {
	same := sameWhole(w.coefs, v.coefs) && sameWhole(w.ids, v.ids) && len(w.lists) == len(v.lists)
	for i := range w.lists {
		same = same && sameWhole(w.lists[i], v.lists[i])
	}
	same = same && sameWhole(w.deal.Commits, v.deal.Commits) && sameWhole(w.deal.Shares, v.deal.Shares)
	return same && w.keys.Threshold == v.keys.Threshold && w.keys.Group == v.keys.Group && sameWhole(w.keys.Publics, v.keys.Publics)
}

// spoil overwrites all that the calls were asked with.
func (w world) spoil() {
	spoil(w.coefs, api.Scalar{99})
	spoil(w.ids, 99)
	for _, l := range w.lists {
		spoil(l, api.Element{99})
	}
	spoil(w.deal.Commits, api.Element{99})
	spoil(w.deal.Shares, api.Share{ID: 99})
	spoil(w.keys.Publics, api.PublicShare{ID: 99})
}

// answers are all that calls answer, of the same arguments.
type answers struct {
	commits, sums, alone []api.Element
	deal                 api.Deal
	list                 []api.KeyShare
	keys                 api.GroupKeys
	public, group        api.Element
	all                  int
	check                api.Errno
	fits                 bool
}

func (w world) ask() (a answers) {
	a.commits, _ = vss.Commit(w.coefs)
	a.sums, _ = vss.Add(w.lists...)
	a.alone, _ = vss.Add(w.lists[0])
	a.deal, _ = vss.Deal(w.coefs, w.ids)
	a.list, a.keys, _ = vss.Keys(w.deal)
	a.public, _ = vss.Public(w.deal.Commits, 77)
	a.group, _ = vss.Group(w.deal.Commits)
	a.all, _ = vss.All(w.deal.Commits, w.deal.Shares)
	a.check = vss.Check(w.deal.Commits, w.deal.Shares[0])
	a.fits, _ = vss.Fits(w.keys)
	return a
}

func (a answers) equal(b answers) bool {
	return slices.Equal(a.commits, b.commits) && slices.Equal(a.sums, b.sums) && slices.Equal(a.alone, b.alone) &&
		slices.Equal(a.deal.Commits, b.deal.Commits) && slices.Equal(a.deal.Shares, b.deal.Shares) &&
		slices.Equal(a.list, b.list) && sameKeys(a.keys, b.keys) &&
		a.public == b.public && a.group == b.group && a.all == b.all && a.check == b.check && a.fits == b.fits
}

// whole: no call has answered an error.
func (a answers) whole() bool {
	return len(a.commits) == 3 && len(a.sums) == 3 && len(a.alone) == 3 && len(a.deal.Commits) == 3 && len(a.deal.Shares) == 6 &&
		len(a.list) == 6 && len(a.keys.Publics) == 6 && a.public != (api.Element{}) && a.group != (api.Element{}) && a.all == 6 && a.check == api.OK && a.fits
}

func (a answers) spoil() {
	spoil(a.commits, api.Element{98})
	spoil(a.sums, api.Element{98})
	spoil(a.alone, api.Element{98})
	spoil(a.deal.Commits, api.Element{98})
	spoil(a.deal.Shares, api.Share{ID: 98})
	spoil(a.list, api.KeyShare{ID: 98})
	spoil(a.keys.Publics, api.PublicShare{ID: 98})
}

func TestArgumentsStayAsTheyAre(t *testing.T) {
	r := drawn(48)
	for range 3 {
		w := drawnWorld(r)
		before := w.clone()
		if !w.ask().whole() {
			t.Fatal("a call has answered an error")
		}
		for n := range 7 { // and where there are errors
			vss.Commit(w.coefs[:n%4])
			vss.Deal(w.coefs[:n%4], w.ids[:n])
			vss.Keys(api.Deal{Commits: w.deal.Commits[:n%4], Shares: w.deal.Shares[:n]})
			vss.All(w.deal.Commits[:n%4], w.deal.Shares[:n])
			vss.Fits(api.GroupKeys{Threshold: n % 4, Group: w.keys.Group, Publics: w.keys.Publics[:n]})
			vss.Add(w.lists[0], w.lists[1][:n%4])
		}
		if !w.equal(before) {
			t.Fatal("a call has changed its arguments")
		}
	}
}

func TestAnswersAreNewMemory(t *testing.T) {
	r := drawn(49)
	for range 3 {
		w := drawnWorld(r)
		kept, expected := w.ask(), w.clone().ask()
		if !kept.equal(expected) {
			t.Fatal("two answers of the same arguments differ")
		}
		w.ask().spoil()
		if !w.ask().equal(expected) {
			t.Fatal("answers share memory with arguments, or with what is kept")
		}
		w.spoil()
		if !kept.equal(expected) {
			t.Fatal("an answer has changed with its arguments, or with another answer")
		}
	}
}

// Two lists of one answer share none either.
func TestListsOfAnAnswerShareNothing(t *testing.T) {
	w := drawnWorld(drawn(50))
	expected := w.ask()
	deal, _ := vss.Deal(w.coefs, w.ids)
	spoil(deal.Commits, api.Element{98})
	if !slices.Equal(deal.Shares, expected.deal.Shares) {
		t.Fatal("lists of a deal share memory")
	}
	list, keys, _ := vss.Keys(w.deal)
	spoil(list, api.KeyShare{ID: 98})
	if !sameKeys(keys, expected.keys) {
		t.Fatal("lists of keys share memory")
	}
}

// P1 of DOC.md: nil and empty lists are one to every call.
func TestNilAndEmptyAreOne(t *testing.T) {
	for _, none := range []api.Deal{{}, {Commits: []api.Element{}, Shares: []api.Share{}}} {
		wantErrno(t, "CheckCommits", vss.CheckCommits(none.Commits), api.ErrCount)
		wantErrno(t, "Check", vss.Check(none.Commits, api.Share{}), api.ErrCount)
		place, errno := vss.All(none.Commits, none.Shares)
		want(t, "All", place, errno, 0, api.ErrCount)
		point, errno := vss.Public(none.Commits, 0)
		want(t, "Public", point, errno, api.Element{}, api.ErrCount)
		group, errno := vss.Group(none.Commits)
		want(t, "Group", group, errno, api.Element{}, api.ErrCount)
		sums, errno := vss.Add(none.Commits, none.Commits)
		wantList(t, "Add", sums, errno, nil, api.ErrCount)
		wantNoKeys(t, none, api.ErrCount)
	}
	wantDeal(t, []api.Scalar{}, []int{}, api.Deal{}, api.ErrCount)
	wantDeal(t, []api.Scalar{{1}}, []int{}, api.Deal{}, api.ErrCount)
	wantFits(t, api.GroupKeys{Threshold: 2, Publics: []api.PublicShare{}}, false, api.ErrCount)
}

// P3 of DOC.md: the same arguments have the same answers, whoever asks beside.
func TestNothingElse(t *testing.T) {
	w := drawnWorld(drawn(51))
	expected := w.ask()
	same := make(chan bool)
	for i := range 8 {
		go func() {
			vss.Keys(api.Deal{Commits: w.deal.Commits, Shares: w.deal.Shares[:i%7]})
			same <- w.ask().equal(expected)
		}()
	}
	for range 8 {
		if !<-same {
			t.Fatal("other answers of the same arguments")
		}
	}
}
