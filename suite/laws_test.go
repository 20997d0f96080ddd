package suite_test

import (
	"bytes"
	"math/rand"
	"slices"
	"testing"

	"rime/api"
	"rime/edwards"
	"rime/scalar"
	"rime/suite"
)

// P6.5: there and back.

func TestElementsThereAndBack(t *testing.T) {
	r := drawn(20)
	for _, e := range append(members(r, 100), edwards.Base()) {
		b, errno := suite.PutElement(e)
		wantErrno(t, "PutElement", errno, api.OK, e)
		got, errno := suite.GetElement(b)
		want(t, "GetElement of PutElement", got, errno, e, api.OK, e)
		again, errno := suite.PutElement(got)
		if errno != api.OK || len(again) != 32 || !bytes.Equal(again, b) {
			t.Fatalf("PutElement of GetElement of %x: %x %v", b, again, errno)
		}
	}
}

// GetElement takes just the bytes of elements of the group: of those around one that is, none but what is one too.
func TestNeighboursOfElements(t *testing.T) {
	r := drawn(21)
	for range 3 {
		e := member(r)
		for bit := range 256 {
			turned := e
			turned[bit/8] ^= 1 << (bit % 8)
			got, errno := suite.GetElement(turned[:])
			want(t, "GetElement", got, errno, turned, errorOf(t, turned), turned)
		}
	}
}

func TestScalarsThereAndBack(t *testing.T) {
	r := drawn(22)
	for _, s := range scalars(r, 200) {
		got, errno := suite.GetScalar(suite.PutScalar(s))
		want(t, "GetScalar of PutScalar", got, errno, modL(number(s)), api.OK, s)
		if s, errno := suite.GetScalar(s[:]); errno == api.OK && !bytes.Equal(suite.PutScalar(s), s[:]) {
			t.Fatalf("PutScalar of GetScalar of %x: %x", s, suite.PutScalar(s))
		}
	}
}

// No two elements have the same bytes: Exp of k and of j are the same just if k and j are, modulo L.
func TestOneFormOfElements(t *testing.T) {
	r := drawn(23)
	seen := map[string]api.Scalar{}
	for _, k := range scalars(r, 100) {
		k = modL(number(k))
		if k == (api.Scalar{}) {
			continue
		}
		b, errno := suite.PutElement(exp(t, k))
		wantErrno(t, "PutElement", errno, api.OK, k)
		if other, there := seen[string(b)]; there && other != k {
			t.Fatalf("%x and %x have the same element %x", other, k, b)
		}
		seen[string(b)] = k
	}
}

// P6.6: in the group.

func manyScalars(r *rand.Rand, count int) []api.Scalar {
	out := make([]api.Scalar, count)
	for i := range out {
		out[i] = anyScalar(r)
	}
	return out
}

func TestCombineIsLinear(t *testing.T) {
	r := drawn(24)
	for n := range 12 {
		es, ks, js, sums := members(r, n), manyScalars(r, n), manyScalars(r, n), make([]api.Scalar, n)
		for i := range n {
			sums[i] = scalar.Add(ks[i], js[i])
		}
		got := add(t, combine(t, ks, es), combine(t, js, es))
		if expected := combine(t, sums, es); got != expected {
			t.Fatalf("Combine of sums of %d: %x, not %x", n, expected, got)
		}
	}
}

func TestOppositesCombineToTheIdentity(t *testing.T) {
	r := drawn(25)
	for n := range 6 {
		es, ks := members(r, n), manyScalars(r, n)
		for i := range n {
			es, ks = append(es, es[i]), append(ks, scalar.Neg(ks[i]))
		}
		if got := combine(t, ks, es); got != edwards.Identity() {
			t.Fatalf("Combine of opposites of %d: %x", n, got)
		}
	}
}

func TestFactorZeroLeavesOut(t *testing.T) {
	r := drawn(26)
	for place := range 8 {
		es, ks := members(r, 8), manyScalars(r, 8)
		expected := combine(t, slices.Concat(ks[:place], ks[place+1:]), slices.Concat(es[:place], es[place+1:]))
		for multiple := range int64(16) { // the zeros that 32 bytes have room for
			ks[place] = bytes32(timesL(multiple))
			if got := combine(t, ks, es); got != expected {
				t.Fatalf("Combine with %d times L in place %d: %x, not %x", multiple, place, got, expected)
			}
		}
	}
}

func TestCombineOfExpsIsExpOfDot(t *testing.T) {
	r := drawn(27)
	for n := range 12 {
		ks, js, es := manyScalars(r, n), manyScalars(r, n), make([]api.Element, n)
		for i := range n {
			es[i] = exp(t, js[i])
		}
		for range 2 {
			got, errno := suite.Combine(ks, es)
			wantErrno(t, "Combine", errno, api.OK, ks, es)
			dot, _ := scalar.Dot(ks, js)
			expected, errno := suite.Exp(dot)
			if errno == api.ErrZero {
				expected = edwards.Identity()
			}
			if got != expected {
				t.Fatalf("Combine of %d Exps: %x, not %x", n, got, expected)
			}
			ks, js, es = append(ks, scalar.Neg(dot)), append(js, api.Scalar{1}), append(es, edwards.Base()) // the Dot is 0 then
		}
		if dot, _ := scalar.Dot(ks[:n+1], js[:n+1]); !scalar.IsZero(dot) {
			t.Fatalf("the Dot is %x, not 0", dot)
		}
	}
}

func TestCombineInAnyOrder(t *testing.T) {
	r := drawn(28)
	ks, es := manyScalars(r, 9), members(r, 9)
	expected := combine(t, ks, es)
	for range 5 {
		r.Shuffle(len(ks), func(i, j int) {
			ks[i], ks[j] = ks[j], ks[i]
			es[i], es[j] = es[j], es[i]
		})
		if got := combine(t, ks, es); got != expected {
			t.Fatalf("Combine in another order: %x, not %x", got, expected)
		}
	}
}

func TestExpOfSumsAndProducts(t *testing.T) {
	r := drawn(29)
	for range 20 {
		j, k := lowScalar(r), anyScalar(r)
		if got := add(t, exp(t, j), exp(t, k)); got != exp(t, scalar.Add(j, k)) {
			t.Fatalf("Exp of %x + %x", j, k)
		}
		if got := combine(t, []api.Scalar{j}, []api.Element{exp(t, k)}); got != exp(t, scalar.Mul(j, k)) {
			t.Fatalf("Exp of %x times %x", j, k)
		}
	}
}

// P6.7: domains.

func TestDomains(t *testing.T) {
	r := drawn(30)
	for n := range 150 {
		parts := divide(r, drawnBytes(r, n))
		four, five := suite.H4(parts...), suite.H5(parts...)
		all := []api.Scalar{suite.H1(parts...), suite.H2(parts...), suite.H3(parts...), numberOf(four), numberOf(five)}
		for i := range all {
			if slices.Contains(all[i+1:], all[i]) {
				t.Fatalf("two of the hashes of %x are the same: %x", parts, all)
			}
		}
	}
}

// Each hash is of the context, its word and the parts: H2, which has nothing ahead, takes these as parts.
func TestWordsStandAhead(t *testing.T) {
	r := drawn(31)
	for n := range 150 {
		parts := divide(r, drawnBytes(r, n))
		ahead := func(word string) api.Scalar {
			return suite.H2(slices.Concat([][]byte{[]byte(suite.Context), []byte(word)}, parts)...)
		}
		four, five := suite.H4(parts...), suite.H5(parts...)
		for word, got := range map[string]api.Scalar{"rho": suite.H1(parts...), "nonce": suite.H3(parts...), "msg": numberOf(four), "com": numberOf(five)} {
			if got != ahead(word) {
				t.Fatalf("the hash of %q and %x: %x", word, parts, got)
			}
		}
	}
}

func TestDivisionsAreOne(t *testing.T) {
	r := drawn(32)
	for n := range 100 {
		whole := drawnBytes(r, n)
		for range 5 {
			parts := divide(r, whole)
			if suite.H1(parts...) != suite.H1(whole) || suite.H2(parts...) != suite.H2(whole) || suite.H3(parts...) != suite.H3(whole) ||
				suite.H4(parts...) != suite.H4(whole) || suite.H5(parts...) != suite.H5(whole) {
				t.Fatalf("a hash of %x in the parts %x is another", whole, parts)
			}
		}
	}
}

// No parts, and parts that are nil or empty, are one.
func TestNoParts(t *testing.T) {
	for _, parts := range [][][]byte{nil, {}, {nil}, {{}}, {nil, {}, nil}} {
		if suite.H1(parts...) != suite.H1() || suite.H2(parts...) != suite.H2() || suite.H3(parts...) != suite.H3() ||
			suite.H4(parts...) != suite.H4() || suite.H5(parts...) != suite.H5() {
			t.Fatalf("a hash of %v is not that of nothing", parts)
		}
	}
	if suite.H2() != numberOf(textOf()) || suite.H4() != textOf([]byte(suite.Context), []byte("msg")) {
		t.Fatalf("the hashes of nothing: %x %x", suite.H2(), suite.H4())
	}
}

// P6.8: what is handed in is neither changed nor kept, spare room included; an answer is new memory.

func TestPartsStayAsTheyAre(t *testing.T) {
	r := drawn(33)
	room := drawnBytes(r, 700)
	before := slices.Clone(room)
	lists := make([][]byte, 8)
	for i := range lists {
		lists[i] = room[40*i : 90*i]
	}
	kept := slices.Clone(lists)
	for n := range len(lists) + 1 {
		suite.H1(lists[:n]...)
		suite.H2(lists[:n]...)
		suite.H3(lists[:n]...)
		suite.H4(lists[:n]...)
		suite.H5(lists[:n]...)
	}
	for i := range lists {
		if len(lists[i]) != len(kept[i]) || len(lists[i]) > 0 && &lists[i][0] != &kept[i][0] {
			t.Fatalf("part %d is another", i)
		}
	}
	if !bytes.Equal(room, before) {
		t.Fatal("a hash has changed its parts")
	}
}

func TestBytesStayAsTheyAre(t *testing.T) {
	r := drawn(34)
	room := drawnBytes(r, 200)
	base := edwards.Base()
	copy(room, base[:])
	before := slices.Clone(room)
	for n := range 100 {
		suite.GetElement(room[:n])
		suite.GetScalar(room[:n])
		suite.Random(room[:n])
		suite.GetElement(room[50 : 50+n])
		suite.GetScalar(room[50 : 50+n])
	}
	if !bytes.Equal(room, before) {
		t.Fatal("bytes have changed")
	}
}

func TestListsStayAsTheyAre(t *testing.T) {
	r := drawn(35)
	ks, es := manyScalars(r, 100), append(members(r, 99), api.Element{2})
	keptKs, keptEs := slices.Clone(ks), slices.Clone(es)
	for _, n := range []int{0, 1, 2, 63, 64, 65, 99, 100} {
		suite.Combine(ks[:n], es[:n])
		suite.Combine(ks[:n], es[:n/2])
	}
	if !slices.Equal(ks, keptKs) || !slices.Equal(es, keptEs) {
		t.Fatal("Combine has changed its arguments")
	}
}

func TestArgumentsAreNotKept(t *testing.T) {
	r := drawn(36)
	e, k := member(r), lowScalar(r)
	lentE, lentK, lentR := slices.Clone(e[:]), slices.Clone(k[:]), drawnBytes(r, 64)
	expected := modL(fromBytes(lentR))
	gotE, _ := suite.GetElement(lentE)
	gotK, _ := suite.GetScalar(lentK)
	gotR, _ := suite.Random(lentR)
	digest := suite.H4(lentE)
	spoil(lentE, 0xa5)
	spoil(lentK, 0xa5)
	spoil(lentR, 0xa5)
	if gotE != e || gotK != k || gotR != expected || digest != suite.H4(e[:]) {
		t.Fatal("an answer has changed with its argument")
	}
}

func TestAnswersAreNewMemory(t *testing.T) {
	r := drawn(37)
	e, k := edwards.Base(), lowScalar(r)
	for range 3 {
		first, errno := suite.PutElement(e)
		second, _ := suite.PutElement(e)
		spoil(first, 0xa5)
		if wantErrno(t, "PutElement", errno, api.OK, e); !bytes.Equal(second, e[:]) || e != edwards.Base() {
			t.Fatal("answers of PutElement share memory")
		}
		before := k
		one, other := suite.PutScalar(k), suite.PutScalar(k)
		spoil(one, 0xa5)
		if !bytes.Equal(other, k[:]) || k != before {
			t.Fatal("answers of PutScalar share memory")
		}
	}
}

// P3 of DOC.md: the same arguments have the same answers, whatever was asked between and whoever asks beside.
func TestNothingElse(t *testing.T) {
	r := drawn(38)
	ks, es, text := manyScalars(r, 3), members(r, 3), drawnBytes(r, 300)
	hash, sum := suite.H1(text), combine(t, ks, es)
	type answer struct {
		hash api.Scalar
		sum  api.Element
	}
	answers := make(chan answer)
	for i := range 16 {
		go func() {
			suite.H3([]byte{byte(i)}, text)
			suite.Combine(ks[:i%4], es[:i%4])
			got, _ := suite.Combine(ks, es)
			answers <- answer{suite.H1(text[:i], text[i:]), got}
		}()
	}
	for range 16 {
		if got := <-answers; got != (answer{hash, sum}) {
			t.Fatalf("H1 and Combine again: %x", got)
		}
	}
}
