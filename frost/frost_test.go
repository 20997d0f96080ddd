package frost_test

import (
	"bytes"
	"math/big"
	"math/rand"
	"slices"
	"testing"

	"rime/api"
	"rime/eddsa"
	"rime/edwards"
	"rime/frost"
	"rime/suite"
	"rime/vss"
)

// The chapter's examples.

func TestExampleLists(t *testing.T) {
	r := drawn(1)
	one, two := commitmentOf(1, api.Nonces{Hiding: some(r), Binding: some(r)}), commitmentOf(2, api.Nonces{Hiding: some(r), Binding: some(r)})
	wantErrno(t, "CheckList", frost.CheckList([]api.Commitment{two, one}), api.ErrOrder)
	wantErrno(t, "CheckList", frost.CheckList([]api.Commitment{one, one}), api.ErrTwice)
	wantErrno(t, "CheckList", frost.CheckList(nil), api.ErrCount)
	wantErrno(t, "CheckList", frost.CheckList([]api.Commitment{}), api.ErrCount)
	wantErrno(t, "CheckList", frost.CheckList([]api.Commitment{one, two}), api.OK)
}

// dealtTeam: of 1, 2 and 3 any two sign; those of ids have made their pairs.
func dealtTeam(t *testing.T, ids ...int) ([]api.KeyShare, api.GroupKeys, []api.Nonces, []api.Commitment) {
	t.Helper()
	deal, errno := vss.Deal([]api.Scalar{{5}, {7}}, []int{1, 2, 3})
	wantErrno(t, "Deal", errno, api.OK)
	all, keys, errno := vss.Keys(deal)
	wantErrno(t, "Keys", errno, api.OK)
	var own []api.KeyShare
	var nonces []api.Nonces
	var list []api.Commitment
	for _, id := range ids {
		key := all[id-1]
		n, c, errno := frost.Commit(id, key.Secret, api.Random{byte(id), 1}, api.Random{byte(id), 2})
		wantErrno(t, "Commit", errno, api.OK, id)
		own, nonces, list = append(own, key), append(nonces, n), append(list, c)
	}
	return own, keys, nonces, list
}

// signed are the shares that Sign answers.
func signed(t *testing.T, keys []api.KeyShare, nonces []api.Nonces, list []api.Commitment, message []byte) []api.SigShare {
	t.Helper()
	var out []api.SigShare
	for i, k := range keys {
		s, errno := frost.Sign(k, nonces[i], list, message)
		wantErrno(t, "Sign", errno, api.OK, k, list)
		out = append(out, s)
	}
	return out
}

func TestExampleSignature(t *testing.T) {
	for _, ids := range [][]int{{1, 2}, {1, 3}, {2, 3}, {1, 2, 3}} {
		own, keys, nonces, list := dealtTeam(t, ids...)
		for _, message := range [][]byte{nil, {}, []byte("hi")} {
			shares := signed(t, own, nonces, list, message)
			sig := wantFinished(t, keys, list, message, shares)
			wantErrno(t, "Verify", eddsa.Verify(keys.Group, message, sig), api.OK, ids)
		}
	}
}

// wantFinished: Finish answers a signature.
func wantFinished(t *testing.T, keys api.GroupKeys, list []api.Commitment, message []byte, shares []api.SigShare) api.Signature {
	t.Helper()
	sig, wrong, errno := frost.Finish(keys, list, message, shares)
	if errno != api.OK || len(wrong) != 0 {
		t.Fatalf("Finish of %x %x %x %x: %v %v", keys, list, message, shares, wrong, errno)
	}
	return sig
}

// wantBlamed: Finish answers ErrBad, and names just these.
func wantBlamed(t *testing.T, keys api.GroupKeys, list []api.Commitment, message []byte, shares []api.SigShare, expected []int) {
	t.Helper()
	sig, wrong, errno := frost.Finish(keys, list, message, shares)
	if errno != api.ErrBad || sig != (api.Signature{}) || !slices.Equal(wrong, expected) {
		t.Fatalf("Finish of %x %x %x %x: %x %v %v, not %v", keys, list, message, shares, sig, wrong, errno, expected)
	}
}

func TestExampleSignRefuses(t *testing.T) {
	own, _, nonces, list := dealtTeam(t, 1, 2, 3)
	got, errno := frost.Sign(own[1], nonces[1], []api.Commitment{list[0], list[2]}, nil)
	want(t, "Sign", got, errno, api.SigShare{}, api.ErrMissing)
	other := list[0]
	other.ID = 2
	got, errno = frost.Sign(own[1], nonces[1], []api.Commitment{list[0], other}, nil)
	want(t, "Sign", got, errno, api.SigShare{}, api.ErrMismatch)
}

func TestExampleWrongShare(t *testing.T) {
	own, keys, nonces, list := dealtTeam(t, 1, 3)
	shares := signed(t, own, nonces, list, []byte("hi"))
	for i, s := range shares {
		wrong := slices.Clone(shares)
		wrong[i].Value = modL(plus(number(s.Value), one))
		wantBlamed(t, keys, list, []byte("hi"), wrong, []int{s.ID})
	}
}

// RFC 9591, appendix E.1: all that is told there of two of three.

type vector struct {
	id                                                                     int
	secret, hidingRandom, bindingRandom, hiding, binding, d, e, rho, share string
}

func vectors() []vector {
	return []vector{
		{
			1, "929dcc590407aae7d388761cddb0c0db6f5627aea8e217f4a033f2ec83d93509",
			"0fd2e39e111cdc266f6c0f4d0fd45c947761f1f5d3cb583dfcb9bbaf8d4c9fec", "69cd85f631d5f7f2721ed5e40519b1366f340a87c2f6856363dbdcda348a7501",
			"812d6104142944d5a55924de6d49940956206909f2acaeedecda2b726e630407", "b1110165fc2334149750b28dd813a39244f315cff14d4e89e6142f262ed83301",
			"b5aa8ab305882a6fc69cbee9327e5a45e54c08af61ae77cb8207be3d2ce13de3", "67e98ab55aa310c3120418e5050c9cf76cf387cb20ac9e4b6fdb6f82a469f932",
			"f2cb9d7dd9beff688da6fcc83fa89046b3479417f47f55600b106760eb3b5603", "001719ab5a53ee1a12095cd088fd149702c0720ce5fd2f29dbecf24b7281b603",
		},
		{
			3, "d3cb090a075eb154e82fdb4b3cb507f110040905468bb9c46da8bdea643a9a02",
			"86d64a260059e495d0fb4fcc17ea3da7452391baa494d4b00321098ed2a0062f", "13e6b25afb2eba51716a9a7d44130c0dbae0004a9ef8d7b5550c8a0e07c61775",
			"c256de65476204095ebdc01bd11dc10e57b36bc96284595b8215222374f99c0e", "243d71944d929063bc51205714ae3c2218bd3451d0214dfb5aeec2a90c35180d",
			"cfbdb165bd8aad6eb79deb8d287bcc0ab6658ae57fdcc98ed12c0669e90aec91", "7487bc41a6e712eea2f2af24681b58b1cf1da278ea11fe4e8b78398965f13552",
			"b087686bf35a13f3dc78e780a34b0fe8a77fef1b9938c563f5573d71d8d7890f", "bd86125de990acc5e1f13781d8e32c03a9bbd4c53539bbc106058bfd14326007",
		},
	}
}

func (v vector) nonces() api.Nonces {
	return api.Nonces{Hiding: api.Scalar(unhex(v.hiding)), Binding: api.Scalar(unhex(v.binding))}
}

func (v vector) commitment() api.Commitment {
	return api.Commitment{ID: v.id, Hiding: api.Element(unhex(v.d)), Binding: api.Element(unhex(v.e))}
}

func TestRFC9591(t *testing.T) {
	group, message := api.Element(unhex("15d21ccd7ee42959562fc8aa63224c8851fb3ec85a3faf66040d380fb9738673")), []byte("test")
	r, sum := unhex("36282629c383bb820a88b71cae937d41f2f2adfcc3d02e55507e2fb9e2dd3cbe"), unhex("bd9d2b0844e49ae0f3fa935161e1419aab7b47d21a37ebeae1f17d4987b3160b")
	var list []api.Commitment
	var factors []api.Factor
	for _, v := range vectors() {
		n, c, errno := frost.Commit(v.id, api.Scalar(unhex(v.secret)), api.Random(unhex(v.hidingRandom)), api.Random(unhex(v.bindingRandom)))
		want(t, "Commit's nonces", n, errno, v.nonces(), api.OK)
		want(t, "Commit's pair", c, errno, v.commitment(), api.OK)
		list, factors = append(list, c), append(factors, api.Factor{ID: v.id, Value: api.Scalar(unhex(v.rho))})
	}
	got, errno := frost.Factors(group, list, message)
	wantList(t, "Factors", got, errno, factors, api.OK)
	first, errno := frost.GroupCommitment(list, factors)
	want(t, "GroupCommitment", first, errno, api.Element(r), api.OK)
	keys := api.GroupKeys{Threshold: 2, Group: group}
	var shares []api.SigShare
	for _, v := range vectors() {
		key := api.KeyShare{ID: v.id, Threshold: 2, Secret: api.Scalar(unhex(v.secret)), Group: group}
		s, errno := frost.Sign(key, v.nonces(), list, message)
		want(t, "Sign", s, errno, api.SigShare{ID: v.id, Value: api.Scalar(unhex(v.share))}, api.OK)
		public := api.PublicShare{ID: v.id, Public: exp(number(key.Secret))}
		wantErrno(t, "Check", frost.Check(public, s, group, list, message), api.OK)
		shares, keys.Publics = append(shares, s), append(keys.Publics, public)
	}
	expected := api.Signature(slices.Concat(r, sum))
	sig, errno := frost.Aggregate(group, list, message, shares)
	want(t, "Aggregate", sig, errno, expected, api.OK)
	if sig = wantFinished(t, keys, list, message, shares); sig != expected {
		t.Fatalf("Finish: %x", sig)
	}
}

// P9.1: nonces and pairs.

func TestNonce(t *testing.T) {
	r := drawn(2)
	for range 100 {
		random, secret := drawnRandom(r), some(r)
		low := modL(number(secret))
		expected := modL(fromBytes(tagged("nonce", random[:], low[:])))
		for _, s := range []api.Scalar{secret, low, otherForm(r, secret)} {
			got, errno := frost.Nonce(random, s)
			want(t, "Nonce", got, errno, expected, api.OK, random, s)
		}
	}
	var none [32]byte
	for _, zero := range zeros() { // a secret may be 0
		got, errno := frost.Nonce(api.Random{}, zero)
		want(t, "Nonce", got, errno, modL(fromBytes(tagged("nonce", none[:], none[:]))), api.OK, zero)
	}
}

func TestPair(t *testing.T) {
	r := drawn(3)
	for id := 1; id <= api.MaxID; id++ {
		n := api.Nonces{Hiding: some(r), Binding: some(r)}
		got, errno := frost.Pair(id, n)
		want(t, "Pair", got, errno, commitmentOf(id, n), api.OK, id, n)
	}
	small := api.Nonces{Hiding: api.Scalar{1}, Binding: modL(big.NewInt(-1))}
	got, errno := frost.Pair(9, small)
	minus, _ := edwards.Neg(edwards.Base())
	want(t, "Pair", got, errno, api.Commitment{ID: 9, Hiding: edwards.Base(), Binding: minus}, api.OK)
}

func TestPairRefuses(t *testing.T) {
	r := drawn(4)
	for _, zero := range zeros() {
		for _, n := range []api.Nonces{{Hiding: zero, Binding: some(r)}, {Hiding: some(r), Binding: zero}, {Hiding: zero, Binding: zero}} {
			got, errno := frost.Pair(1, n)
			want(t, "Pair", got, errno, api.Commitment{}, api.ErrZero, n)
			got, errno = frost.Pair(256, n)
			want(t, "Pair", got, errno, api.Commitment{}, api.ErrID, n)
		}
	}
	for _, id := range wrongIDs() {
		got, errno := frost.Pair(id, api.Nonces{Hiding: some(r), Binding: some(r)})
		want(t, "Pair", got, errno, api.Commitment{}, api.ErrID, id)
		n, got, errno := frost.Commit(id, some(r), drawnRandom(r), drawnRandom(r))
		want(t, "Commit's nonces", n, errno, api.Nonces{}, api.ErrID, id)
		want(t, "Commit's pair", got, errno, api.Commitment{}, api.ErrID, id)
	}
}

func TestCommit(t *testing.T) {
	r := drawn(5)
	for round := range 60 {
		id, secret, hiding, binding := 1+r.Intn(255), some(r), drawnRandom(r), drawnRandom(r)
		if round%10 == 0 {
			secret, binding = api.Scalar{}, hiding
		}
		reduced := modL(number(secret))
		expected := api.Nonces{Hiding: modL(fromBytes(tagged("nonce", hiding[:], reduced[:]))), Binding: modL(fromBytes(tagged("nonce", binding[:], reduced[:])))}
		n, c, errno := frost.Commit(id, secret, hiding, binding)
		want(t, "Commit's nonces", n, errno, expected, api.OK, id, secret, hiding, binding)
		want(t, "Commit's pair", c, errno, commitmentOf(id, expected), api.OK, id, secret, hiding, binding)
	}
}

// P9.1: lists and keys.

func TestCheckListOfAll(t *testing.T) {
	r := drawn(6)
	full := drawnTeam(r, 2, 255, 255).list
	wantErrno(t, "CheckList", frost.CheckList(full), api.OK)
	wantErrno(t, "CheckList", frost.CheckList(full[254:]), api.OK)
	wantErrno(t, "CheckList", frost.CheckList(full[:1]), api.OK)
	wantErrno(t, "CheckList", frost.CheckList(append(slices.Clone(full), full[254])), api.ErrCount)
	wantErrno(t, "CheckList", frost.CheckList(make([]api.Commitment, 256)), api.ErrCount)
	wantErrno(t, "CheckList", frost.CheckList(slices.Repeat(full, 3)), api.ErrCount)
	for at := range full[:5] { // the last is asked like the first
		wrong := slices.Clone(full)
		wrong[254-at].Binding = edwards.Identity()
		wantErrno(t, "CheckList", frost.CheckList(wrong), api.ErrCommitment, at)
	}
}

// errorOf is the chapter's, of a list whose wrong elements are known.
func errorOf(list []api.Commitment, wrong []api.Element) api.Errno {
	for i, c := range list {
		switch {
		case c.ID < 1 || c.ID > 255:
			return api.ErrID
		case i > 0 && c.ID == list[i-1].ID:
			return api.ErrTwice
		case i > 0 && c.ID < list[i-1].ID:
			return api.ErrOrder
		case slices.Contains(wrong, c.Hiding) || slices.Contains(wrong, c.Binding):
			return api.ErrCommitment
		}
	}
	return api.OK
}

func TestCheckListOfAnyFaults(t *testing.T) {
	r := drawn(7)
	wrong, ids := wrongElements(r), wrongIDs()
	seen := map[api.Errno]int{}
	for range 800 {
		list := drawnTeam(r, 2, 6, 2+r.Intn(5)).list
		for range r.Intn(4) {
			at := r.Intn(len(list))
			switch r.Intn(5) {
			case 0:
				list[at].ID = ids[r.Intn(len(ids))]
			case 1:
				list[at].ID = list[r.Intn(len(list))].ID
			case 2:
				list[at].Hiding = wrong[r.Intn(len(wrong))]
			case 3:
				list[at].Binding = wrong[r.Intn(len(wrong))]
			case 4:
				list[at].ID = 1 + r.Intn(255)
			}
		}
		expected := errorOf(list, wrong)
		wantErrno(t, "CheckList", frost.CheckList(list), expected, list)
		seen[expected]++
	}
	for _, errno := range []api.Errno{api.OK, api.ErrID, api.ErrTwice, api.ErrOrder, api.ErrCommitment} {
		if seen[errno] < 25 {
			t.Fatalf("%v came %d times", errno, seen[errno])
		}
	}
}

func TestCheckListOfWrongElements(t *testing.T) {
	r := drawn(8)
	list := drawnTeam(r, 2, 3, 3).list
	for _, e := range wrongElements(r) {
		for at := range list {
			hiding, binding := slices.Clone(list), slices.Clone(list)
			hiding[at].Hiding, binding[at].Binding = e, e
			wantErrno(t, "CheckList", frost.CheckList(hiding), api.ErrCommitment, e)
			wantErrno(t, "CheckList", frost.CheckList(binding), api.ErrCommitment, e)
		}
	}
}

// errorOfKeys is the chapter's, of keys whose wrong elements are known.
func errorOfKeys(keys api.GroupKeys, wrong []api.Element) api.Errno {
	if keys.Threshold < 2 || keys.Threshold > 255 {
		return api.ErrThreshold
	}
	if len(keys.Publics) < keys.Threshold || len(keys.Publics) > 255 {
		return api.ErrCount
	}
	for i, p := range keys.Publics {
		switch {
		case p.ID < 1 || p.ID > 255:
			return api.ErrID
		case i > 0 && p.ID == keys.Publics[i-1].ID:
			return api.ErrTwice
		case i > 0 && p.ID < keys.Publics[i-1].ID:
			return api.ErrOrder
		case slices.Contains(wrong, p.Public):
			return api.ErrPublic
		}
	}
	if slices.Contains(wrong, keys.Group) {
		return api.ErrPublic
	}
	return api.OK
}

// spoiledKeys: keys in which a few things are wrong, or not.
func spoiledKeys(r *rand.Rand, keys api.GroupKeys, wrong []api.Element) api.GroupKeys {
	ids, thresholds := wrongIDs(), wrongThresholds()
	for range r.Intn(4) {
		at := r.Intn(len(keys.Publics))
		switch r.Intn(7) {
		case 0:
			keys.Publics[at].ID = ids[r.Intn(len(ids))]
		case 1:
			keys.Publics[at].ID = keys.Publics[r.Intn(len(keys.Publics))].ID
		case 2:
			keys.Publics[at].ID = 1 + r.Intn(255)
		case 3:
			keys.Publics[at].Public = wrong[r.Intn(len(wrong))]
		case 4:
			keys.Group = wrong[r.Intn(len(wrong))]
		case 5:
			keys.Threshold = thresholds[r.Intn(len(thresholds))]
		case 6:
			keys.Threshold = len(keys.Publics) + r.Intn(3)
		}
	}
	return keys
}

func TestCheckKeys(t *testing.T) {
	r := drawn(9)
	wrong := wrongElements(r)
	seen := map[api.Errno]int{}
	for range 800 {
		keys := spoiledKeys(r, anyTeam(r).keys, wrong)
		expected := errorOfKeys(keys, wrong)
		wantErrno(t, "CheckKeys", frost.CheckKeys(keys), expected, keys)
		seen[expected]++
	}
	for _, errno := range []api.Errno{api.OK, api.ErrThreshold, api.ErrCount, api.ErrID, api.ErrTwice, api.ErrOrder, api.ErrPublic} {
		if seen[errno] < 25 {
			t.Fatalf("%v came %d times", errno, seen[errno])
		}
	}
}

func TestCheckKeysOfAll(t *testing.T) {
	r := drawn(10)
	keys := drawnTeam(r, 2, 255, 2).keys
	for _, threshold := range []int{2, 3, 254, 255} {
		keys.Threshold = threshold
		wantErrno(t, "CheckKeys", frost.CheckKeys(keys), api.OK, threshold)
	}
	few := keys
	few.Publics = keys.Publics[:254]
	wantErrno(t, "CheckKeys", frost.CheckKeys(few), api.ErrCount)
	for _, threshold := range wrongThresholds() {
		few.Threshold = threshold
		wantErrno(t, "CheckKeys", frost.CheckKeys(few), api.ErrThreshold, threshold)
	}
	for _, n := range []int{256, 257, 512} {
		many := keys
		many.Publics = slices.Repeat(keys.Publics, 3)[:n]
		many.Threshold = 2
		wantErrno(t, "CheckKeys", frost.CheckKeys(many), api.ErrCount, n)
	}
	wantErrno(t, "CheckKeys", frost.CheckKeys(api.GroupKeys{}), api.ErrThreshold)
	wantErrno(t, "CheckKeys", frost.CheckKeys(api.GroupKeys{Threshold: 2}), api.ErrCount)
}

func TestCheckKeysOfWrongElements(t *testing.T) {
	r := drawn(11)
	right := drawnTeam(r, 2, 3, 2)
	for _, e := range wrongElements(r) {
		keys := right.clone().keys
		keys.Group = e
		wantErrno(t, "CheckKeys", frost.CheckKeys(keys), api.ErrPublic, e)
		for at := range right.keys.Publics {
			keys := right.clone().keys
			keys.Publics[at].Public = e
			wantErrno(t, "CheckKeys", frost.CheckKeys(keys), api.ErrPublic, e)
		}
	}
}

// Keys need not fit together to be taken.
func TestCheckKeysDoesNotAskWhetherTheyFit(t *testing.T) {
	r := drawn(12)
	keys := drawnTeam(r, 3, 5, 3).keys
	keys.Group = someElement(r)
	for i := range keys.Publics {
		keys.Publics[i].Public = keys.Group
	}
	wantErrno(t, "CheckKeys", frost.CheckKeys(keys), api.OK)
}

// P9.1: the code, the factors, the group commitment, the challenge.

func TestEncodeList(t *testing.T) {
	r := drawn(13)
	for _, n := range []int{1, 2, 3, 10, 255} {
		list := drawnTeam(r, 2, 255, n).list
		got, errno := frost.EncodeList(list)
		if errno != api.OK || len(got) != 96*n || !bytes.Equal(got, codeOf(list)) {
			t.Fatalf("EncodeList of %x: %x %v", list, got, errno)
		}
	}
}

func TestFactors(t *testing.T) {
	r := drawn(14)
	for round := range 40 {
		a := anyTeam(r)
		if round%8 == 0 {
			a.list = a.list[:1] // of one signer there are factors, too
		}
		got, errno := frost.Factors(a.keys.Group, a.list, a.message)
		wantList(t, "Factors", got, errno, factorsOf(a.keys.Group, a.list, a.message), api.OK, a)
	}
	all := drawnTeam(r, 2, 255, 255)
	got, errno := frost.Factors(all.keys.Group, all.list, all.message)
	wantList(t, "Factors", got, errno, factorsOf(all.keys.Group, all.list, all.message), api.OK)
}

func TestLongestMessage(t *testing.T) {
	r := drawn(15)
	a := drawnTeam(r, 2, 3, 2)
	a.message = drawnBytes(r, api.MaxMessage)
	got, errno := frost.Factors(a.keys.Group, a.list, a.message)
	wantList(t, "Factors", got, errno, factorsOf(a.keys.Group, a.list, a.message), api.OK)
	shares := signed(t, a.shares, a.nonces, a.list, a.message)
	wantErrno(t, "Check", frost.Check(a.public(0), shares[0], a.keys.Group, a.list, a.message), api.OK)
	sig, errno := frost.Aggregate(a.keys.Group, a.list, a.message, shares)
	want(t, "Aggregate", sig, errno, a.sum(a.right()), api.OK)
	wantFinished(t, a.keys, a.list, a.message, shares)
}

// drawnFactors fit the list, and need not be its binding factors.
func drawnFactors(r *rand.Rand, list []api.Commitment) []api.Factor {
	var out []api.Factor
	for _, c := range list {
		out = append(out, api.Factor{ID: c.ID, Value: some(r)})
	}
	return out
}

func TestGroupCommitment(t *testing.T) {
	r := drawn(16)
	for range 40 {
		a := anyTeam(r)
		factors := drawnFactors(r, a.list)
		if r.Intn(3) == 0 {
			factors[r.Intn(len(factors))].Value = zeros()[r.Intn(16)]
		}
		sum := new(big.Int)
		for i, f := range factors {
			sum.Add(sum, plus(number(a.nonces[i].Hiding), times(number(a.nonces[i].Binding), number(f.Value))))
		}
		got, errno := frost.GroupCommitment(a.list, factors)
		want(t, "GroupCommitment", got, errno, exp(sum), api.OK, a.list, factors)
	}
	a := drawnTeam(r, 2, 255, 255)
	got, errno := frost.GroupCommitment(a.list, factorsOf(a.keys.Group, a.list, a.message))
	want(t, "GroupCommitment", got, errno, exp(a.first()), api.OK)
}

func TestGroupCommitmentOfIdentity(t *testing.T) {
	r := drawn(17)
	for range 20 {
		a := anyTeam(r)
		factors := drawnFactors(r, a.list)
		at := r.Intn(len(factors))
		sum := number(a.nonces[at].Hiding)
		for i, f := range factors {
			if i != at {
				sum = plus(sum, plus(number(a.nonces[i].Hiding), times(number(a.nonces[i].Binding), number(f.Value))))
			}
		}
		inverse := new(big.Int).ModInverse(number(a.nonces[at].Binding), order)
		factors[at].Value = modL(times(new(big.Int).Neg(sum), inverse))
		got, errno := frost.GroupCommitment(a.list, factors)
		want(t, "GroupCommitment", got, errno, api.Element{}, api.ErrIdentity, a.list, factors)
		factors[at].Value = otherForm(r, factors[at].Value)
		got, errno = frost.GroupCommitment(a.list, factors)
		want(t, "GroupCommitment", got, errno, api.Element{}, api.ErrIdentity, a.list, factors)
	}
}

func TestGroupCommitmentRefusesFactors(t *testing.T) {
	r := drawn(18)
	for range 10 {
		a := anyTeam(r)
		right := drawnFactors(r, a.list)
		lists := [][]api.Factor{nil, {}, right[:len(right)-1], right[1:], append(slices.Clone(right), right[len(right)-1])}
		for at := range right {
			wrong := slices.Clone(right)
			wrong[at].ID = otherID(r, a.ids)
			lists = append(lists, wrong)
			wrong = slices.Clone(right)
			wrong[at].ID += 256
			lists = append(lists, wrong)
		}
		backwards := slices.Clone(right)
		slices.Reverse(backwards)
		for _, factors := range append(lists, backwards) {
			got, errno := frost.GroupCommitment(a.list, factors)
			want(t, "GroupCommitment", got, errno, api.Element{}, api.ErrFactors, a.list, factors)
			got, errno = frost.GroupCommitment(nil, factors)
			want(t, "GroupCommitment", got, errno, api.Element{}, api.ErrCount, factors)
		}
	}
}

func TestChallenge(t *testing.T) {
	r := drawn(19)
	for _, n := range []int{0, 1, 31, 32, 64, 127, 128, 1000, api.MaxMessage, api.MaxMessage + 1, 1 << 21} {
		first, group, message := api.Element(drawnBytes(r, 32)), api.Element(drawnBytes(r, 32)), drawnBytes(r, n)
		if got := frost.Challenge(first, group, message); got != challengeOf(first, group, message) || got != suite.H2(first[:], group[:], message) {
			t.Fatalf("Challenge of %d bytes: %x", n, got)
		}
	}
	for _, e := range wrongElements(r) { // of any bytes
		if got := frost.Challenge(e, e, nil); got != challengeOf(e, e, []byte{}) {
			t.Fatalf("Challenge of %x: %x", e, got)
		}
	}
}

// P9.1: signing, checking, summing up.

func TestSign(t *testing.T) {
	r := drawn(20)
	for range 40 {
		a := anyTeam(r)
		for i, s := range a.right() {
			got, errno := frost.Sign(a.shares[i], a.nonces[i], a.list, a.message)
			want(t, "Sign", got, errno, s, api.OK, a)
		}
	}
}

// Neither the secret nor the public share of the key is asked; the secret may be 0, and need not be of the group.
func TestSignAsksNeitherSecretNorPublic(t *testing.T) {
	r := drawn(21)
	for _, secret := range append(zeros(), some(r), some(r)) {
		a := drawnTeam(r, 2, 4, 3)
		a.shares[1].Secret, a.shares[1].Public = secret, api.Element(drawnBytes(r, 32))
		got, errno := frost.Sign(a.shares[1], a.nonces[1], a.list, a.message)
		want(t, "Sign", got, errno, a.right()[1], api.OK, a)
	}
}

// The threshold is only held against the list.
func TestSignOfAnyThreshold(t *testing.T) {
	r := drawn(22)
	a := drawnTeam(r, 2, 6, 5)
	for threshold := 2; threshold <= 5; threshold++ {
		a.shares[2].Threshold = threshold
		got, errno := frost.Sign(a.shares[2], a.nonces[2], a.list, a.message)
		want(t, "Sign", got, errno, a.right()[2], api.OK, threshold)
	}
	for _, threshold := range []int{6, 7, 255} {
		a.shares[2].Threshold = threshold
		got, errno := frost.Sign(a.shares[2], a.nonces[2], a.list, a.message)
		want(t, "Sign", got, errno, api.SigShare{}, api.ErrCount, threshold)
	}
}

func TestSignHoldsBothNoncesAgainstTheList(t *testing.T) {
	r := drawn(23)
	a := drawnTeam(r, 2, 4, 3)
	n := a.nonces[1]
	for _, other := range []api.Nonces{{Hiding: some(r), Binding: n.Binding}, {Hiding: n.Hiding, Binding: some(r)}, {Hiding: n.Binding, Binding: n.Hiding}, a.nonces[0], {Hiding: modL(new(big.Int).Neg(number(n.Hiding))), Binding: n.Binding}} {
		got, errno := frost.Sign(a.shares[1], other, a.list, a.message)
		want(t, "Sign", got, errno, api.SigShare{}, api.ErrMismatch, other)
	}
	for _, zero := range zeros() {
		for _, other := range []api.Nonces{{Hiding: zero, Binding: n.Binding}, {Hiding: n.Hiding, Binding: zero}} {
			got, errno := frost.Sign(a.shares[1], other, a.list, a.message)
			want(t, "Sign", got, errno, api.SigShare{}, api.ErrZero, other)
		}
	}
}

func TestCheck(t *testing.T) {
	r := drawn(24)
	for range 30 {
		a := anyTeam(r)
		shares := a.right()
		at := r.Intn(len(shares))
		public, s := a.public(at), shares[at]
		check := func(public api.PublicShare, s api.SigShare, expected api.Errno) {
			t.Helper()
			wantErrno(t, "Check", frost.Check(public, s, a.keys.Group, a.list, a.message), expected, public, s, a)
		}
		check(public, s, api.OK)
		check(public, api.SigShare{ID: s.ID, Value: modL(plus(number(s.Value), one))}, api.ErrBad)
		check(public, api.SigShare{ID: s.ID, Value: otherForm(r, s.Value)}, api.ErrScalar)
		check(public, api.SigShare{ID: s.ID, Value: bytes32(order)}, api.ErrScalar)
		check(public, api.SigShare{ID: s.ID}, api.ErrBad)
		check(api.PublicShare{ID: s.ID, Public: someElement(r)}, s, api.ErrBad)
		for i, other := range shares {
			if i != at {
				check(public, api.SigShare{ID: s.ID, Value: other.Value}, api.ErrBad)
				check(public, other, api.ErrMismatch)
				check(api.PublicShare{ID: s.ID, Public: a.shares[i].Public}, s, api.ErrBad)
			}
		}
	}
}

// A share is of one group, one list and one message.
func TestCheckOfAnotherPackage(t *testing.T) {
	r := drawn(25)
	for range 10 {
		a := drawnTeam(r, 2, 5, 3)
		s, public := a.right()[1], a.public(1)
		wantErrno(t, "Check", frost.Check(public, s, someElement(r), a.list, a.message), api.ErrBad)
		wantErrno(t, "Check", frost.Check(public, s, a.keys.Group, a.list, append(a.message, 0)), api.ErrBad)
		wantErrno(t, "Check", frost.Check(public, s, a.keys.Group, a.list[:2], a.message), api.ErrBad)
		for at := range a.list {
			list := slices.Clone(a.list)
			list[at].Hiding = someElement(r)
			wantErrno(t, "Check", frost.Check(public, s, a.keys.Group, list, a.message), api.ErrBad)
			list = slices.Clone(a.list)
			list[at].Binding = someElement(r)
			wantErrno(t, "Check", frost.Check(public, s, a.keys.Group, list, a.message), api.ErrBad)
		}
	}
}

// The list need not have as many as any threshold.
func TestCheckOfOne(t *testing.T) {
	r := drawn(26)
	a := drawnTeam(r, 2, 3, 2)
	a.ids, a.list, a.nonces, a.shares = a.ids[:1], a.list[:1], a.nonces[:1], a.shares[:1]
	wantErrno(t, "Check", frost.Check(a.public(0), a.right()[0], a.keys.Group, a.list, a.message), api.OK)
	sig, errno := frost.Aggregate(a.keys.Group, a.list, a.message, a.right())
	want(t, "Aggregate", sig, errno, a.sum(a.right()), api.OK)
}

func TestCheckOfWrongElements(t *testing.T) {
	r := drawn(27)
	a := drawnTeam(r, 2, 3, 2)
	s := a.right()[0]
	for _, e := range wrongElements(r) {
		wantErrno(t, "Check", frost.Check(a.public(0), s, e, a.list, a.message), api.ErrPublic, e)
		wantErrno(t, "Check", frost.Check(api.PublicShare{ID: s.ID, Public: e}, s, a.keys.Group, a.list, a.message), api.ErrPublic, e)
		factors, errno := frost.Factors(e, a.list, a.message)
		wantList(t, "Factors", factors, errno, nil, api.ErrPublic, e)
		sig, errno := frost.Aggregate(e, a.list, a.message, a.right())
		want(t, "Aggregate", sig, errno, api.Signature{}, api.ErrPublic, e)
		key := a.shares[0]
		key.Group = e
		got, errno := frost.Sign(key, a.nonces[0], a.list, a.message)
		want(t, "Sign", got, errno, api.SigShare{}, api.ErrPublic, e)
	}
}

// Whether the sum holds is not looked at.
func TestAggregate(t *testing.T) {
	r := drawn(28)
	for range 30 {
		a := anyTeam(r)
		shares := a.right()
		sig, errno := frost.Aggregate(a.keys.Group, a.list, a.message, shares)
		want(t, "Aggregate", sig, errno, a.sum(shares), api.OK, a)
		wantErrno(t, "Verify", eddsa.Verify(a.keys.Group, a.message, sig), api.OK, a)
		for i := range shares {
			shares[i].Value = []api.Scalar{low(r), {}, modL(big.NewInt(-1))}[r.Intn(3)]
		}
		sig, errno = frost.Aggregate(a.keys.Group, a.list, a.message, shares)
		want(t, "Aggregate", sig, errno, a.sum(shares), api.OK, a)
	}
}

func TestAggregateRefusesShares(t *testing.T) {
	r := drawn(29)
	a := drawnTeam(r, 3, 6, 4)
	right := a.right()
	refused := func(shares []api.SigShare, expected api.Errno) {
		t.Helper()
		sig, errno := frost.Aggregate(a.keys.Group, a.list, a.message, shares)
		want(t, "Aggregate", sig, errno, api.Signature{}, expected, shares)
		sig, wrong, errno := frost.Finish(a.keys, a.list, a.message, shares)
		want(t, "Finish", sig, errno, api.Signature{}, expected, shares)
		wantList(t, "Finish", wrong, errno, nil, expected, shares)
	}
	refused(nil, api.ErrCount)
	refused(right[:3], api.ErrCount)
	refused(right[1:], api.ErrCount)
	refused(append(slices.Clone(right), right[3]), api.ErrCount)
	for at := range right {
		wrong := slices.Clone(right)
		wrong[at].ID = otherID(r, a.ids)
		refused(wrong, api.ErrMismatch)
		wrong[at].ID = a.ids[at] + 256
		refused(wrong, api.ErrMismatch)
		wrong = slices.Clone(right)
		wrong[at].Value = otherForm(r, wrong[at].Value)
		refused(wrong, api.ErrScalar)
		wrong[3-at].ID = 0 // wherever it stands, an identifier is asked for ahead of a value
		refused(wrong, api.ErrMismatch)
	}
	swapped := slices.Clone(right)
	swapped[0], swapped[1] = swapped[1], swapped[0]
	refused(swapped, api.ErrMismatch)
	for k := int64(1); k < 16; k++ {
		wrong := slices.Clone(right)
		wrong[2].Value = bytes32(timesL(k))
		refused(wrong, api.ErrScalar)
	}
}

// P9.1: Finish.

func TestFinish(t *testing.T) {
	r := drawn(30)
	for range 30 {
		a := anyTeam(r)
		shares := a.right()
		if sig := wantFinished(t, a.keys, a.list, a.message, shares); sig != a.sum(shares) {
			t.Fatalf("Finish of %x: %x", a, sig)
		}
		var blamed []int
		for i := range shares {
			if r.Intn(2) == 0 {
				shares[i].Value = modL(plus(number(shares[i].Value), big.NewInt(int64(1+r.Intn(5)))))
				blamed = append(blamed, a.ids[i])
			}
		}
		if len(blamed) > 0 {
			wantBlamed(t, a.keys, a.list, a.message, shares, blamed)
		}
	}
}

// What is wrong in two shares may go out in the sum: then it holds, and nobody is looked at.
func TestFinishOfFaultsThatGoOut(t *testing.T) {
	r := drawn(31)
	for range 10 {
		a := drawnTeam(r, 2, 5, 3)
		shares := a.right()
		fault := number(some(r))
		shares[0].Value, shares[2].Value = modL(plus(number(shares[0].Value), fault)), modL(minus(number(shares[2].Value), fault))
		if sig := wantFinished(t, a.keys, a.list, a.message, shares); sig != a.sum(a.right()) {
			t.Fatalf("Finish of %x: %x", a, sig)
		}
		shares[1].Value = low(r)
		wantBlamed(t, a.keys, a.list, a.message, shares, a.ids)
	}
}

// Who is to blame is asked of keys that do not fit together, too: each share is held against its own public share.
func TestFinishOfKeysThatDoNotFit(t *testing.T) {
	r := drawn(32)
	for range 10 {
		a := drawnTeam(r, 2, 5, 3)
		keys := a.clone().keys
		at := slices.Index(a.all, a.ids[1])
		keys.Publics[at].Public = someElement(r)
		shares := a.right()
		wantFinished(t, keys, a.list, a.message, shares) // the sum holds all the same
		shares[0].Value = low(r)
		wantBlamed(t, keys, a.list, a.message, shares, a.ids[:2])

		b := a.clone()
		b.keys.Group = someElement(r) // a key of which nobody has a share
		wantBlamed(t, b.keys, b.list, b.message, b.right(), nil)
	}
}

func TestFinishAsksForEnoughSignersOfTheGroup(t *testing.T) {
	r := drawn(33)
	refused := func(a team, keys api.GroupKeys, expected api.Errno) {
		t.Helper()
		sig, wrong, errno := frost.Finish(keys, a.list, a.message, a.right())
		want(t, "Finish", sig, errno, api.Signature{}, expected, a, keys)
		wantList(t, "Finish", wrong, errno, nil, expected, a, keys)
	}
	for range 5 {
		a := drawnTeam(r, 2, 6, 3)
		keys := a.clone().keys
		keys.Threshold = 3
		wantFinished(t, keys, a.list, a.message, a.right()) // the threshold is only held against how many there are
		for _, threshold := range []int{4, 5, 6} {
			keys.Threshold = threshold
			refused(a, keys, api.ErrCount)
		}
		keys.Threshold = 7
		refused(a, keys, api.ErrCount)
		for _, id := range a.ids {
			keys := a.clone().keys
			keys.Publics = slices.DeleteFunc(keys.Publics, func(p api.PublicShare) bool { return p.ID == id })
			refused(a, keys, api.ErrMissing)
		}
		for _, id := range a.all {
			if !slices.Contains(a.ids, id) { // who does not sign may be left out
				keys := a.clone().keys
				keys.Publics = slices.DeleteFunc(keys.Publics, func(p api.PublicShare) bool { return p.ID == id })
				wantFinished(t, keys, a.list, a.message, a.right())
			}
		}
	}
}

func TestFinishOfAll(t *testing.T) {
	r := drawn(34)
	a := drawnTeam(r, 255, 255, 255)
	shares := signed(t, a.shares[:3], a.nonces[:3], a.list, a.message)
	right := a.right()
	if !slices.Equal(shares, right[:3]) {
		t.Fatal("Sign of 255")
	}
	wantFinished(t, a.keys, a.list, a.message, right)
	for _, at := range []int{0, 100, 254} {
		right[at].Value = low(r)
		wantErrno(t, "Check", frost.Check(a.public(at), right[at], a.keys.Group, a.list, a.message), api.ErrBad)
	}
	wantBlamed(t, a.keys, a.list, a.message, right, []int{1, 101, 255})
}
