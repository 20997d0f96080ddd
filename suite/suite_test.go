package suite_test

import (
	"bytes"
	"encoding/hex"
	"math"
	"math/big"
	"slices"
	"strings"
	"testing"

	"rime/api"
	"rime/edwards"
	"rime/suite"
)

// The chapter's section 'Examples'.

func TestExampleHashes(t *testing.T) {
	abc := []byte("abc")
	for i, c := range []struct {
		got      api.Scalar
		expected string
	}{
		{suite.H1(abc), "9d7978bfcbfb2430d74c136f28834953997d053ac13986acdab27553972b1b0f"},
		{suite.H1([]byte("a"), []byte(""), []byte("bc")), "9d7978bfcbfb2430d74c136f28834953997d053ac13986acdab27553972b1b0f"},
		{suite.H2(abc), "d15dbef29abf1ff29f9cf91c4b75ee0bb1012cb031d9605d684e841df034de0b"},
		{suite.H3(abc), "ae0c0fdd04fab615431adf50d1a9630c6c7f55b41f4339bc1cfd7557e2bdd005"},
	} {
		if hex.EncodeToString(c.got[:]) != c.expected {
			t.Errorf("hash %d: %x, not %s", i, c.got, c.expected)
		}
	}
	four, five := suite.H4(abc), suite.H5(abc)
	if !strings.HasPrefix(hex.EncodeToString(four[:]), "9d216f03c8adfbab64ed60e9a8100219") {
		t.Errorf("H4: %x", four)
	}
	if !strings.HasPrefix(hex.EncodeToString(five[:]), "0d5708e9a9857e97c589e441dc6324a4") {
		t.Errorf("H5: %x", five)
	}
}

func TestExampleElements(t *testing.T) {
	for _, c := range []struct {
		b        []byte
		expected api.Errno
	}{
		{append([]byte{1}, make([]byte, 31)...), api.ErrIdentity},
		{make([]byte, 32), api.ErrSubgroup},
		{append([]byte{2}, make([]byte, 31)...), api.ErrPoint},
		{make([]byte, 31), api.ErrLength},
	} {
		got, errno := suite.GetElement(c.b)
		want(t, "GetElement", got, errno, api.Element{}, c.expected, c.b)
	}
}

func TestExampleZeros(t *testing.T) {
	got, errno := suite.Exp(api.Scalar{1})
	want(t, "Exp", got, errno, edwards.Base(), api.OK, 1)
	got, errno = suite.Exp(bytes32(order))
	want(t, "Exp", got, errno, api.Element{}, api.ErrZero, "L")
	k, errno := suite.Random(make([]byte, 64))
	want(t, "Random", k, errno, api.Scalar{}, api.ErrZero, "64 bytes 00")
}

func TestExampleCombine(t *testing.T) {
	got, errno := suite.Combine([]api.Scalar{{1}, bytes32(minus(order, one))}, []api.Element{edwards.Base(), edwards.Base()})
	want(t, "Combine", got, errno, edwards.Identity(), api.OK)
}

// RFC 9591, appendix E.1: nonces, their commitments, and the binding factors of participants 1 and 3, which take all hashes but H2.
func TestRFC9591(t *testing.T) {
	group := exp(t, api.Scalar(unhex("7b1c33d3f5291d85de664833beb1ad469f7fb6025a0ec78b3a790c6e13a98304")))
	if group != element("15d21ccd7ee42959562fc8aa63224c8851fb3ec85a3faf66040d380fb9738673") {
		t.Fatalf("the group's key: %x", group)
	}
	signers := []struct {
		id                                                             int
		share, hidingRandom, bindingRandom, hiding, binding, d, e, rho string
	}{
		{
			1, "929dcc590407aae7d388761cddb0c0db6f5627aea8e217f4a033f2ec83d93509",
			"0fd2e39e111cdc266f6c0f4d0fd45c947761f1f5d3cb583dfcb9bbaf8d4c9fec", "69cd85f631d5f7f2721ed5e40519b1366f340a87c2f6856363dbdcda348a7501",
			"812d6104142944d5a55924de6d49940956206909f2acaeedecda2b726e630407", "b1110165fc2334149750b28dd813a39244f315cff14d4e89e6142f262ed83301",
			"b5aa8ab305882a6fc69cbee9327e5a45e54c08af61ae77cb8207be3d2ce13de3", "67e98ab55aa310c3120418e5050c9cf76cf387cb20ac9e4b6fdb6f82a469f932",
			"f2cb9d7dd9beff688da6fcc83fa89046b3479417f47f55600b106760eb3b5603",
		},
		{
			3, "d3cb090a075eb154e82fdb4b3cb507f110040905468bb9c46da8bdea643a9a02",
			"86d64a260059e495d0fb4fcc17ea3da7452391baa494d4b00321098ed2a0062f", "13e6b25afb2eba51716a9a7d44130c0dbae0004a9ef8d7b5550c8a0e07c61775",
			"c256de65476204095ebdc01bd11dc10e57b36bc96284595b8215222374f99c0e", "243d71944d929063bc51205714ae3c2218bd3451d0214dfb5aeec2a90c35180d",
			"cfbdb165bd8aad6eb79deb8d287bcc0ab6658ae57fdcc98ed12c0669e90aec91", "7487bc41a6e712eea2f2af24681b58b1cf1da278ea11fe4e8b78398965f13552",
			"b087686bf35a13f3dc78e780a34b0fe8a77fef1b9938c563f5573d71d8d7890f",
		},
	}
	var list [][]byte
	for _, s := range signers {
		hiding, binding := suite.H3(unhex(s.hidingRandom), unhex(s.share)), suite.H3(unhex(s.bindingRandom), unhex(s.share))
		if hiding != api.Scalar(unhex(s.hiding)) || binding != api.Scalar(unhex(s.binding)) {
			t.Fatalf("the nonces of %d: %x %x", s.id, hiding, binding)
		}
		d, e := exp(t, hiding), exp(t, binding)
		if d != element(s.d) || e != element(s.e) {
			t.Fatalf("the commitments of %d: %x %x", s.id, d, e)
		}
		id, _ := suite.ID(s.id)
		list = append(list, id[:], d[:], e[:])
	}
	message, commitments := suite.H4([]byte("test")), suite.H5(list...)
	for _, s := range signers {
		id, _ := suite.ID(s.id)
		if rho := suite.H1(group[:], message[:], commitments[:], id[:]); rho != api.Scalar(unhex(s.rho)) {
			t.Fatalf("the binding factor of %d: %x", s.id, rho)
		}
	}
}

// The signature of the same vectors holds with H2 as the challenge: B times s is R + A times c.
func TestRFC9591Challenge(t *testing.T) {
	r, a := element("36282629c383bb820a88b71cae937d41f2f2adfcc3d02e55507e2fb9e2dd3cbe"), element("15d21ccd7ee42959562fc8aa63224c8851fb3ec85a3faf66040d380fb9738673")
	s := api.Scalar(unhex("bd9d2b0844e49ae0f3fa935161e1419aab7b47d21a37ebeae1f17d4987b3160b"))
	c := suite.H2(r[:], a[:], []byte("test"))
	if got := combine(t, []api.Scalar{{1}, c}, []api.Element{r, a}); got != exp(t, s) {
		t.Fatalf("R + c A: %x", got)
	}
}

// P6.1: the hashes.

func TestContext(t *testing.T) {
	if suite.Context != "FROST-ED25519-SHA512-v1" || len(suite.Context) != 23 {
		t.Fatalf("the context: %q", suite.Context)
	}
}

func TestHashes(t *testing.T) {
	r := drawn(1)
	lengths := []int{0, 1, 2, 1000, 4096, api.MaxMessage}
	for n := 60; n <= 260; n++ { // blocks end within these, whatever stands ahead
		lengths = append(lengths, n)
	}
	for _, n := range lengths {
		m := drawnBytes(r, n)
		for _, parts := range [][][]byte{{m}, divide(r, m)} {
			context := []byte(suite.Context)
			if got := suite.H1(parts...); got != numberOf(textOf(context, []byte("rho"), m)) {
				t.Fatalf("H1 of %d bytes: %x", n, got)
			}
			if got := suite.H2(parts...); got != numberOf(textOf(m)) {
				t.Fatalf("H2 of %d bytes: %x", n, got)
			}
			if got := suite.H3(parts...); got != numberOf(textOf(context, []byte("nonce"), m)) {
				t.Fatalf("H3 of %d bytes: %x", n, got)
			}
			if got := suite.H4(parts...); got != textOf(context, []byte("msg"), m) {
				t.Fatalf("H4 of %d bytes: %x", n, got)
			}
			if got := suite.H5(parts...); got != textOf(context, []byte("com"), m) {
				t.Fatalf("H5 of %d bytes: %x", n, got)
			}
		}
	}
}

// P6.2: scalars.

func TestPutScalar(t *testing.T) {
	for _, s := range scalars(drawn(2), 200) {
		expected := modL(number(s))
		if got := suite.PutScalar(s); !bytes.Equal(got, expected[:]) {
			t.Fatalf("PutScalar of %x: %x", s, got)
		}
	}
}

func TestGetScalar(t *testing.T) {
	for _, s := range scalars(drawn(3), 200) {
		expected := api.OK
		if number(s).Cmp(order) >= 0 {
			expected = api.ErrScalar
		}
		got, errno := suite.GetScalar(s[:])
		want(t, "GetScalar", got, errno, s, expected, s)
	}
}

func TestGetAsksTheLengthFirst(t *testing.T) {
	for n := range 100 {
		for _, fill := range []byte{0, 1, 2, 0x66, 0xff} {
			if n == 32 {
				continue
			}
			b := bytes.Repeat([]byte{fill}, n)
			s, errno := suite.GetScalar(b)
			want(t, "GetScalar", s, errno, api.Scalar{}, api.ErrLength, b)
			e, errno := suite.GetElement(b)
			want(t, "GetElement", e, errno, api.Element{}, api.ErrLength, b)
		}
	}
	s, errno := suite.GetScalar(nil)
	want(t, "GetScalar", s, errno, api.Scalar{}, api.ErrLength, nil)
	e, errno := suite.GetElement(nil)
	want(t, "GetElement", e, errno, api.Element{}, api.ErrLength, nil)
}

// P6.3: elements.

func TestElements(t *testing.T) {
	r := drawn(4)
	all := slices.Concat(noPoints(), edwards.Order8(), outsiders(t, r, 20), members(r, 40), []api.Element{edwards.Base()})
	for range 300 {
		all = append(all, api.Element(drawnBytes(r, 32)))
	}
	seen := map[api.Errno]int{}
	for _, e := range all {
		expected := errorOf(t, e)
		seen[expected]++
		got, errno := suite.GetElement(e[:])
		want(t, "GetElement", got, errno, e, expected, e)
		b, errno := suite.PutElement(e)
		if wantErrno(t, "PutElement", errno, expected, e); expected != api.OK && len(b) != 0 || expected == api.OK && !bytes.Equal(b, e[:]) {
			t.Fatalf("PutElement of %x: %x %v", e, b, errno)
		}
	}
	if seen[api.ErrPoint] < 100 || seen[api.ErrIdentity] != 1 || seen[api.ErrSubgroup] < 200 || seen[api.OK] < 40 {
		t.Fatalf("which errors there were: %v", seen)
	}
}

// P6.4: identifiers, random scalars, Exp, Combine.

func TestID(t *testing.T) {
	for _, id := range []int{0, -1, -255, 256, 257, 511, 1 << 16, 1 << 32, 1<<32 + 1, math.MaxInt, math.MinInt, math.MinInt + 1} {
		got, errno := suite.ID(id)
		want(t, "ID", got, errno, api.Scalar{}, api.ErrID, id)
	}
	for id := 1; id <= 255; id++ {
		got, errno := suite.ID(id)
		want(t, "ID", got, errno, api.Scalar{byte(id)}, api.OK, id)
	}
}

func bytes64(x *big.Int) []byte {
	b := x.FillBytes(make([]byte, 64))
	slices.Reverse(b)
	return b
}

func TestRandom(t *testing.T) {
	r := drawn(5)
	most := minus(new(big.Int).Lsh(one, 512), one)
	factors := []*big.Int{big.NewInt(0), one, big.NewInt(15), order, new(big.Int).Rand(r, order), new(big.Int).Div(most, order)}
	for _, k := range factors {
		multiple := times(k, order)
		got, errno := suite.Random(bytes64(multiple))
		want(t, "Random", got, errno, api.Scalar{}, api.ErrZero, k)
		if plus(multiple, one).Cmp(most) <= 0 {
			got, errno = suite.Random(bytes64(plus(multiple, one)))
			want(t, "Random", got, errno, api.Scalar{1}, api.OK, k)
		}
	}
	for range 300 {
		b := drawnBytes(r, 64)
		got, errno := suite.Random(b)
		want(t, "Random", got, errno, modL(fromBytes(b)), api.OK, b)
	}
	got, errno := suite.Random(bytes64(most))
	want(t, "Random", got, errno, modL(most), api.OK, "64 bytes ff")
}

func TestRandomAsksTheLengthFirst(t *testing.T) {
	for n := range 200 {
		for _, fill := range []byte{0, 1, 0xff} {
			if n == 64 {
				continue
			}
			got, errno := suite.Random(bytes.Repeat([]byte{fill}, n))
			want(t, "Random", got, errno, api.Scalar{}, api.ErrLength, n, fill)
		}
	}
	got, errno := suite.Random(nil)
	want(t, "Random", got, errno, api.Scalar{}, api.ErrLength, nil)
}

func TestExp(t *testing.T) {
	for _, k := range scalars(drawn(6), 60) {
		reduced, expected := modL(number(k)), api.OK
		if reduced == (api.Scalar{}) {
			expected = api.ErrZero
		}
		got, errno := suite.Exp(k)
		want(t, "Exp", got, errno, mul(t, reduced, edwards.Base()), expected, k)
	}
}

func TestCombine(t *testing.T) {
	r := drawn(7)
	ks := scalars(r, 20)
	es := members(r, len(ks))
	expected := edwards.Identity()
	for n := range len(ks) + 1 {
		got, errno := suite.Combine(ks[:n], es[:n])
		want(t, "Combine", got, errno, expected, api.OK, n)
		if n < len(ks) {
			expected = add(t, expected, mul(t, modL(number(ks[n])), es[n]))
		}
	}
}

func TestCombineOfNone(t *testing.T) {
	for _, ks := range [][]api.Scalar{nil, {}} {
		for _, es := range [][]api.Element{nil, {}} {
			got, errno := suite.Combine(ks, es)
			want(t, "Combine", got, errno, edwards.Identity(), api.OK)
		}
	}
}

func TestCombineOfMany(t *testing.T) {
	const n = 1000
	r := drawn(8)
	ks, es, sum := make([]api.Scalar, n), make([]api.Element, n), new(big.Int)
	for i := range n {
		k := lowScalar(r)
		ks[i], es[i] = anyScalar(r), edwards.MulBase(k)
		sum.Add(sum, times(number(ks[i]), number(k)))
	}
	got, errno := suite.Combine(ks, es)
	want(t, "Combine", got, errno, edwards.MulBase(modL(sum)), api.OK, n)
}

// P6.4: unlike lengths are told ahead of elements that may not be.
func TestCombineAsksTheCountFirst(t *testing.T) {
	for n := range 4 {
		for m := range 4 {
			if n == m {
				continue
			}
			for _, e := range []api.Element{edwards.Base(), edwards.Identity(), {}, {2}} {
				got, errno := suite.Combine(make([]api.Scalar, n), slices.Repeat([]api.Element{e}, m))
				want(t, "Combine", got, errno, api.Element{}, api.ErrCount, n, m, e)
			}
		}
	}
}

// P6.4: of elements that may not be the first is told, whatever comes behind it and whatever its factor is.
func TestCombineTellsTheFirstError(t *testing.T) {
	r := drawn(9)
	bad := slices.Concat(noPoints(), edwards.Order8(), outsiders(t, r, 3))
	const n = 70
	for i, e := range bad {
		first := []int{0, 1, 2, 63, 64, 65, 68, 69}[i%8]
		es := members(r, n)
		for j := first + 1; j < n; j++ {
			es[j] = bad[r.Intn(len(bad))]
		}
		es[first] = e
		for _, k := range []api.Scalar{{}, bytes32(order), {8}, anyScalar(r)} {
			got, errno := suite.Combine(slices.Repeat([]api.Scalar{k}, n), es)
			want(t, "Combine", got, errno, api.Element{}, errorOf(t, e), first, e, k)
		}
	}
}
