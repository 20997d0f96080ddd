package frost_test

import (
	"bytes"
	"crypto/ed25519"
	"math/big"
	"math/rand"
	"slices"
	"sync"
	"testing"

	"rime/api"
	"rime/eddsa"
	"rime/frost"
	"rime/vss"
)

// dealt is a group of package vss, of which some have made their pairs by Commit.
func dealt(t *testing.T, r *rand.Rand, threshold, n, signers int) team {
	t.Helper()
	a := team{all: risingIDs(r, n), coefs: polynomial(r, threshold), message: drawnBytes(r, r.Intn(300))}
	deal, errno := vss.Deal(a.coefs, a.all)
	wantErrno(t, "Deal", errno, api.OK)
	own, keys, errno := vss.Keys(deal)
	wantErrno(t, "Keys", errno, api.OK)
	a.keys = keys
	r.Shuffle(n, func(i, j int) { own[i], own[j] = own[j], own[i] })
	own = own[:signers]
	slices.SortFunc(own, func(a, b api.KeyShare) int { return a.ID - b.ID })
	for _, k := range own {
		pair, c, errno := frost.Commit(k.ID, k.Secret, drawnRandom(r), drawnRandom(r))
		wantErrno(t, "Commit", errno, api.OK)
		a.ids, a.shares, a.nonces, a.list = append(a.ids, k.ID), append(a.shares, k), append(a.nonces, pair), append(a.list, c)
	}
	return a
}

func (a team) sign(t *testing.T) []api.SigShare {
	t.Helper()
	return signed(t, a.shares, a.nonces, a.list, a.message)
}

func (a team) finish(shares []api.SigShare) (api.Signature, []int, api.Errno) {
	return frost.Finish(a.keys, a.list, a.message, shares)
}

// P9.2: the signature holds.

func wantSigned(t *testing.T, a team) {
	t.Helper()
	sig := wantFinished(t, a.keys, a.list, a.message, a.sign(t))
	wantErrno(t, "Verify", eddsa.Verify(a.keys.Group, a.message, sig), api.OK, a)
	if !ed25519.Verify(a.keys.Group[:], a.message, sig[:]) {
		t.Fatalf("nobody else takes the signature of %x", a)
	}
}

func TestTheSignatureHolds(t *testing.T) {
	r := drawn(80)
	for range 40 {
		threshold := 2 + r.Intn(7)
		n := threshold + r.Intn(7)
		wantSigned(t, dealt(t, r, threshold, n, threshold+r.Intn(n-threshold+1)))
	}
}

func TestEverySetOfSignersSigns(t *testing.T) {
	r := drawn(81)
	for threshold := 2; threshold <= 4; threshold++ {
		all := dealt(t, r, threshold, 4, 4)
		for set := range 1 << 4 {
			a := all
			a.ids, a.shares, a.nonces, a.list = nil, nil, nil, nil
			for i := range 4 {
				if set>>i&1 == 1 {
					a.ids, a.shares = append(a.ids, all.ids[i]), append(a.shares, all.shares[i])
					a.nonces, a.list = append(a.nonces, all.nonces[i]), append(a.list, all.list[i])
				}
			}
			if len(a.ids) >= threshold {
				wantSigned(t, a)
			}
		}
	}
}

func TestManySign(t *testing.T) {
	r := drawn(82)
	wantSigned(t, dealt(t, r, 2, 255, 60))
	wantSigned(t, dealt(t, r, 30, 60, 30))
}

// A group's polynomial may have a lower degree than its threshold lets it have, and secrets that are 0.
func TestKeysOfZeroCoefficientsSign(t *testing.T) {
	r := drawn(83)
	for _, coefs := range [][]api.Scalar{{some(r), {}}, {some(r), {}, {}}, {some(r), {}, some(r)}} {
		wantSigned(t, teamOf(r, coefs, upTo(5), []int{1, 3, 5}, []byte("zero")))
	}
}

// P9.3: no honest one is blamed.

// lie turns a value into another, or not.
func lie(r *rand.Rand, shares []api.SigShare, at int) api.Scalar {
	x := number(shares[at].Value)
	switch r.Intn(7) {
	case 0:
		return modL(plus(x, one))
	case 1:
		return modL(new(big.Int).Neg(x))
	case 2:
		return shares[r.Intn(len(shares))].Value
	case 3:
		return api.Scalar{}
	case 4:
		return shares[at].Value
	case 5:
		return modL(minus(number(shares[r.Intn(len(shares))].Value), x))
	}
	return low(r)
}

func TestNoHonestOneIsBlamed(t *testing.T) {
	r := drawn(84)
	bad := 0
	for round := range 150 {
		a := anyTeam(r)
		shares, honest := a.sign(t), []int{}
		for i := range shares {
			if r.Intn(2) == 0 {
				honest = append(honest, a.ids[i])
				continue
			}
			shares[i].Value = lie(r, shares, i)
			if round%3 == 0 { // and a wrong public share, of one that is not honest
				at := slices.Index(a.all, a.ids[i])
				a.keys.Publics[at].Public = someElement(r)
			}
		}
		_, wrong, errno := a.finish(shares)
		if errno != api.OK && errno != api.ErrBad {
			t.Fatalf("Finish of %x: %v", a, errno)
		}
		for _, id := range wrong {
			if slices.Contains(honest, id) {
				t.Fatalf("Finish of %x %x blames %d, who is honest", a, shares, id)
			}
		}
		if errno == api.ErrBad {
			bad++
		}
	}
	if bad < 75 {
		t.Fatalf("only %d did not hold", bad)
	}
}

// A group's key of which nobody has a share: the honest are honest, though no signature comes about.
func TestNoHonestOneIsBlamedForTheKey(t *testing.T) {
	r := drawn(85)
	for range 10 {
		a := anyTeam(r)
		a.keys.Group = someElement(r)
		for i := range a.shares {
			a.shares[i].Group = a.keys.Group
		}
		wantBlamed(t, a.keys, a.list, a.message, a.sign(t), nil)
	}
}

// Who has signed another message, or for another list or group, has not signed this.
func TestSharesOfElsewhereAreBlamed(t *testing.T) {
	r := drawn(86)
	for range 10 {
		a := drawnTeam(r, 2, 5, 3)
		shares := a.sign(t)
		other := a.clone()
		other.message = append(other.message, 1)
		shares[0] = other.sign(t)[0]
		wantBlamed(t, a.keys, a.list, a.message, shares, a.ids[:1])
		other = a.clone()
		other.nonces[2] = api.Nonces{Hiding: some(r), Binding: some(r)}
		other.list[2] = commitmentOf(other.ids[2], other.nonces[2])
		shares = a.sign(t)
		shares[1] = other.sign(t)[1]
		wantBlamed(t, a.keys, a.list, a.message, shares, a.ids[1:2])
	}
}

// P9.4: somebody is blamed; and just those that have not told the one value.

func TestSomebodyIsBlamed(t *testing.T) {
	r := drawn(87)
	seen := map[api.Errno]int{}
	for range 150 {
		a := anyTeam(r)
		right := a.right()
		shares := slices.Clone(right)
		for range 1 + r.Intn(2) {
			at := r.Intn(len(shares))
			shares[at].Value = lie(r, shares, at)
		}
		var liars []int
		for i := range shares {
			if shares[i] != right[i] {
				liars = append(liars, shares[i].ID)
			}
		}
		sig, wrong, errno := a.finish(shares)
		seen[errno]++
		switch errno {
		case api.OK:
			wantErrno(t, "Verify", eddsa.Verify(a.keys.Group, a.message, sig), api.OK)
		case api.ErrBad:
			if len(wrong) == 0 || !slices.Equal(wrong, liars) {
				t.Fatalf("Finish of %x %x blames %v, not %v", a, shares, wrong, liars)
			}
		default:
			t.Fatalf("Finish of %x %x: %v", a, shares, errno)
		}
	}
	if seen[api.OK] < 10 || seen[api.ErrBad] < 75 {
		t.Fatalf("what Finish answered: %v", seen)
	}
}

// P9.5: a share that Check takes is the one.

func TestOneValueIsTaken(t *testing.T) {
	r := drawn(88)
	for range 25 {
		a := anyTeam(r)
		at := r.Intn(len(a.ids))
		x := number(a.right()[at].Value)
		n := a.nonces[at]
		taken := 0
		for _, y := range []*big.Int{x, new(big.Int), one, plus(x, one), minus(x, one), new(big.Int).Neg(x), times(x, big.NewInt(2)), times(x, big.NewInt(8)), number(n.Hiding), number(n.Binding), plus(number(n.Hiding), number(n.Binding)), number(a.shares[at].Secret), plus(x, new(big.Int).Lsh(one, 251)), number(low(r))} {
			if frost.Check(a.public(at), api.SigShare{ID: a.ids[at], Value: modL(y)}, a.keys.Group, a.list, a.message) == api.OK {
				taken++
			}
		}
		if taken != 1 {
			t.Fatalf("%d values are taken of %x", taken, a)
		}
		for k := int64(1); k < 15; k++ { // the same number as other bytes
			wantErrno(t, "Check", frost.Check(a.public(at), api.SigShare{ID: a.ids[at], Value: bytes32(plus(x, timesL(k)))}, a.keys.Group, a.list, a.message), api.ErrScalar, k)
		}
	}
}

// P9.6: what Sign answers Check takes, of any secret that has a public share.

func TestWhatIsSignedIsTaken(t *testing.T) {
	r := drawn(89)
	for range 40 {
		a := anyTeam(r)
		at := r.Intn(len(a.ids))
		key := a.shares[at]
		if r.Intn(2) == 0 { // whether it lies on the group's polynomial or not
			key.Secret = some(r)
		}
		s, errno := frost.Sign(key, a.nonces[at], a.list, a.message)
		wantErrno(t, "Sign", errno, api.OK, a)
		public := api.PublicShare{ID: key.ID, Public: exp(number(key.Secret))}
		wantErrno(t, "Check", frost.Check(public, s, key.Group, a.list, a.message), api.OK, a, key)
	}
}

// Numbers are taken modulo L: other bytes of the same secret and nonces give the same share.
func TestOtherFormsSignAlike(t *testing.T) {
	r := drawn(90)
	for range 20 {
		a := anyTeam(r)
		b := a.clone()
		for i := range b.shares {
			b.shares[i].Secret = otherForm(r, b.shares[i].Secret)
			b.nonces[i] = api.Nonces{Hiding: otherForm(r, b.nonces[i].Hiding), Binding: otherForm(r, b.nonces[i].Binding)}
		}
		if !slices.Equal(a.sign(t), b.sign(t)) {
			t.Fatalf("other forms of %x sign otherwise", a)
		}
	}
}

// The calls are made of each other: the group commitment of Factors is the signature's first half, and so on.
func TestCallsFitTogether(t *testing.T) {
	r := drawn(91)
	for range 15 {
		a := anyTeam(r)
		factors, errno := frost.Factors(a.keys.Group, a.list, a.message)
		wantErrno(t, "Factors", errno, api.OK)
		first, errno := frost.GroupCommitment(a.list, factors)
		wantErrno(t, "GroupCommitment", errno, api.OK)
		sig, errno := frost.Aggregate(a.keys.Group, a.list, a.message, a.sign(t))
		wantErrno(t, "Aggregate", errno, api.OK)
		if half, _ := eddsa.Halves(sig); half != first {
			t.Fatalf("the first half of %x: %x", sig, first)
		}
		if got := frost.Challenge(first, a.keys.Group, a.message); got != eddsa.Challenge(first, a.keys.Group, a.message) {
			t.Fatalf("the challenge: %x", got)
		}
		if got := wantFinished(t, a.keys, a.list, a.message, a.sign(t)); got != sig {
			t.Fatalf("Finish: %x, Aggregate: %x", got, sig)
		}
	}
}

// P9.7: what is handed in is neither changed nor kept, spare room included; an answer is new memory.

// world is what the calls below are asked with; bad are shares of which two are wrong.
type world struct {
	publics   []api.PublicShare
	list      []api.Commitment
	message   []byte
	factors   []api.Factor
	good, bad []api.SigShare

	group  api.Element
	key    api.KeyShare
	nonces api.Nonces
}

// roomy is the list with spare room behind it.
func roomy[T any](l []T, spare T) []T { return append(slices.Clone(l), spare, spare, spare)[:len(l)] }

func drawnWorld(r *rand.Rand) world {
	a := drawnTeam(r, 3, 6, 4)
	w := world{publics: roomy(a.keys.Publics, api.PublicShare{ID: 77}), list: roomy(a.list, api.Commitment{ID: 77}), message: roomy(a.message, 77)}
	w.factors = roomy(factorsOf(a.keys.Group, a.list, a.message), api.Factor{ID: 77})
	w.good, w.bad = roomy(a.right(), api.SigShare{ID: 77}), roomy(a.right(), api.SigShare{ID: 77})
	w.bad[1].Value, w.bad[3].Value = low(r), low(r)
	w.group, w.key, w.nonces = a.keys.Group, a.shares[2], a.nonces[2]
	return w
}

func wholeOf[T any](l []T) []T { return slices.Clone(l[:cap(l)])[:len(l)] }

func sameWhole[T comparable](a, b []T) bool {
	return len(a) == len(b) && slices.Equal(a[:cap(a)], b[:min(cap(a), cap(b))])
}

// clone copies the spare room, too.
func (w world) clone() world {
	w.publics, w.list, w.message, w.factors = wholeOf(w.publics), wholeOf(w.list), wholeOf(w.message), wholeOf(w.factors)
	w.good, w.bad = wholeOf(w.good), wholeOf(w.bad)
	return w
}

func (w world) equal(v world) bool {
	return sameWhole(w.publics, v.publics) && sameWhole(w.list, v.list) && sameWhole(w.message, v.message) &&
		sameWhole(w.factors, v.factors) && sameWhole(w.good, v.good) && sameWhole(w.bad, v.bad)
}

func (w world) spoil() {
	spoil(w.publics, api.PublicShare{ID: 99})
	spoil(w.list, api.Commitment{ID: 99})
	spoil(w.message, 99)
	spoil(w.factors, api.Factor{ID: 99})
	spoil(w.good, api.SigShare{ID: 99})
	spoil(w.bad, api.SigShare{ID: 99})
}

// answers are all that calls answer, of the same arguments.
type answers struct {
	code         []byte
	factors      []api.Factor
	wrong        []int
	first        api.Element
	challenge    api.Scalar
	share        api.SigShare
	sum, sig     api.Signature
	list, keys   api.Errno
	check, other api.Errno
	nonces       api.Nonces
	pair         api.Commitment
}

func (w world) ask() (a answers) {
	keys := api.GroupKeys{Threshold: 3, Group: w.group, Publics: w.publics}
	public := api.PublicShare{ID: w.key.ID, Public: w.key.Public}
	a.list, a.keys = frost.CheckList(w.list), frost.CheckKeys(keys)
	a.code, _ = frost.EncodeList(w.list)
	a.factors, _ = frost.Factors(w.group, w.list, w.message)
	a.first, _ = frost.GroupCommitment(w.list, w.factors)
	a.challenge = frost.Challenge(a.first, w.group, w.message)
	a.share, _ = frost.Sign(w.key, w.nonces, w.list, w.message)
	a.check = frost.Check(public, a.share, w.group, w.list, w.message)
	a.sum, _ = frost.Aggregate(w.group, w.list, w.message, w.good)
	a.sig, _, _ = frost.Finish(keys, w.list, w.message, w.good)
	_, a.wrong, a.other = frost.Finish(keys, w.list, w.message, w.bad)
	a.nonces, a.pair, _ = frost.Commit(w.key.ID, w.key.Secret, api.Random{1}, api.Random{2})
	return a
}

func (a answers) equal(b answers) bool {
	same := bytes.Equal(a.code, b.code) && slices.Equal(a.factors, b.factors) && slices.Equal(a.wrong, b.wrong)
	same = same && a.first == b.first && a.challenge == b.challenge && a.share == b.share && a.sum == b.sum && a.sig == b.sig
	return same && a.list == b.list && a.keys == b.keys && a.check == b.check && a.other == b.other && a.nonces == b.nonces && a.pair == b.pair
}

// whole: no call has answered an error, but for the wrong shares.
func (a answers) whole() bool {
	return len(a.code) == 4*96 && len(a.factors) == 4 && len(a.wrong) == 2 && a.first != (api.Element{}) && a.share != (api.SigShare{}) &&
		a.sum != (api.Signature{}) && a.sig == a.sum && a.list == api.OK && a.keys == api.OK && a.check == api.OK && a.other == api.ErrBad && a.pair.ID != 0
}

func (a answers) spoil() {
	spoil(a.code, 98)
	spoil(a.factors, api.Factor{ID: 98})
	spoil(a.wrong, 98)
}

func TestArgumentsStayAsTheyAre(t *testing.T) {
	r := drawn(92)
	for range 3 {
		w := drawnWorld(r)
		before := w.clone()
		if !w.ask().whole() {
			t.Fatal("a call has answered an error")
		}
		for n := range 5 { // and where there are errors
			keys := api.GroupKeys{Threshold: 3, Group: w.group, Publics: w.publics[:n]}
			frost.CheckKeys(keys)
			frost.EncodeList(w.list[:n])
			frost.GroupCommitment(w.list[:n], w.factors)
			frost.Sign(w.key, w.nonces, w.list[:n], w.message)
			frost.Aggregate(w.group, w.list[:n], w.message, w.good)
			frost.Finish(keys, w.list[:n], w.message, w.bad)
		}
		if !w.equal(before) {
			t.Fatal("a call has changed its arguments")
		}
	}
}

func TestAnswersAreNewMemory(t *testing.T) {
	r := drawn(93)
	for range 3 {
		w := drawnWorld(r)
		kept, expected := w.ask(), w.clone().ask()
		if !kept.equal(expected) {
			t.Fatal("two answers of the same arguments differ")
		}
		w.ask().spoil()
		if !w.ask().equal(expected) {
			t.Fatal("answers share memory with arguments, or with what is kept")
		}
		w.spoil()
		if !kept.equal(expected) {
			t.Fatal("an answer has changed with its arguments, or with another answer")
		}
	}
}

// P3 of DOC.md: what else runs makes no difference.
func TestSideBySide(t *testing.T) {
	w := drawnWorld(drawn(94))
	expected := w.ask()
	var wait sync.WaitGroup
	differ := make([]bool, 8)
	for i := range differ {
		wait.Go(func() { differ[i] = !w.ask().equal(expected) })
	}
	wait.Wait()
	if slices.Contains(differ, true) {
		t.Fatal("side by side the calls answer otherwise")
	}
}

// P1 of DOC.md: nil and empty lists are one, and zero values do no harm.
func TestNothingAtAll(t *testing.T) {
	a := drawnTeam(drawn(95), 2, 3, 2)
	for _, none := range [][]byte{nil, {}} {
		got, errno := frost.Factors(a.keys.Group, a.list, none)
		wantList(t, "Factors", got, errno, factorsOf(a.keys.Group, a.list, []byte{}), api.OK)
		a.message = none
		wantSigned(t, a)
	}
	for _, list := range [][]api.Commitment{nil, {}} {
		_, errno := frost.EncodeList(list)
		wantErrno(t, "EncodeList", errno, api.ErrCount)
		_, errno = frost.GroupCommitment(list, nil)
		wantErrno(t, "GroupCommitment", errno, api.ErrCount)
	}
	_, errno := frost.Factors(api.Element{}, nil, nil)
	wantErrno(t, "Factors", errno, api.ErrPublic)
	_, errno = frost.Sign(api.KeyShare{}, api.Nonces{}, nil, nil)
	wantErrno(t, "Sign", errno, api.ErrID)
	wantErrno(t, "Check", frost.Check(api.PublicShare{}, api.SigShare{}, api.Element{}, nil, nil), api.ErrPublic)
	_, errno = frost.Aggregate(api.Element{}, nil, nil, nil)
	wantErrno(t, "Aggregate", errno, api.ErrPublic)
	_, _, errno = frost.Finish(api.GroupKeys{}, nil, nil, nil)
	wantErrno(t, "Finish", errno, api.ErrThreshold)
	if got := frost.Challenge(api.Element{}, api.Element{}, nil); got != challengeOf(api.Element{}, api.Element{}, nil) {
		t.Fatalf("Challenge of nothing: %x", got)
	}
	got, errno := frost.Nonce(api.Random{}, api.Scalar{})
	want(t, "Nonce", got, errno, modL(fromBytes(tagged("nonce", make([]byte, 64)))), api.OK)
}
