package edwards_test

import (
	"bytes"
	"crypto/ecdh"
	"crypto/ed25519"
	"crypto/sha512"
	"math/big"
	"math/rand"
	"slices"
	"testing"

	"rime/api"
	"rime/edwards"
)

// The chapter's section 'Examples'.
func TestExamples(t *testing.T) {
	base := append([]byte{0x58}, bytes.Repeat([]byte{0x66}, 31)...)
	if edwards.Base() != api.Element(base) || edwards.Identity() != (api.Element{1}) {
		t.Fatalf("Base: %x, Identity: %x", edwards.Base(), edwards.Identity())
	}
	two := edwards.MulBase(api.Scalar{2})
	want(t, "MulBase", two, api.OK, element("c9a3f86aae465f0e56513864510f3997561fa2c9e85ea21dc2292309f3cd6022"), 2)
	want(t, "MulBase", edwards.MulBase(factor(order)), api.OK, edwards.Identity(), "L")
	base[31] = 0xe6
	want(t, "MulBase", edwards.MulBase(factor(new(big.Int).Sub(order, one))), api.OK, api.Element(base), "L - 1")
	neg, errno := edwards.Neg(edwards.Base())
	want(t, "Neg", neg, errno, api.Element(base), "Base")

	bt := add(t, edwards.Base(), smallPoint())
	want(t, "Add", bt, api.OK, element("da99e28ba529cdde35a25fba9059e78ecaee239f99755b9b1aa4f65df00803e2"), "Base, T")
	if p, k := parts(t, bt); p != edwards.Base() || k != 1 {
		t.Fatalf("Parts of Base + T: %x %d", p, k)
	}
	if is, errno := edwards.IsPrime(bt); is || errno != api.OK {
		t.Fatalf("IsPrime of Base + T: %v %v", is, errno)
	}
	want(t, "Mul", mul(t, factor(order), bt), api.OK, element("c7176a703d4dd84fba3c0b760d10670f2a2053fa2c39ccc64ec7fd7792ac03fa"), "L, Base + T")
	if u := montgomery(t, edwards.Base()); u != (api.Fe{9}) || edwards.Ladder(api.Scalar{2}, u) != montgomery(t, two) {
		t.Fatalf("Montgomery of Base: %x", u)
	}
	if u := montgomery(t, edwards.Identity()); u != (api.Fe{}) {
		t.Fatalf("Montgomery of Identity: %x", u)
	}
}

func TestExampleOrder8(t *testing.T) {
	expected := []string{
		"0100000000000000000000000000000000000000000000000000000000000000",
		"26e8958fc2b227b045c3f489f2ef98f0d5dfac05d3c63339b13802886d53fc05",
		"0000000000000000000000000000000000000000000000000000000000000000",
		"c7176a703d4dd84fba3c0b760d10670f2a2053fa2c39ccc64ec7fd7792ac037a",
		"ecffffffffffffffffffffffffffffffffffffffffffffffffffffffffffff7f",
		"c7176a703d4dd84fba3c0b760d10670f2a2053fa2c39ccc64ec7fd7792ac03fa",
		"0000000000000000000000000000000000000000000000000000000000000080",
		"26e8958fc2b227b045c3f489f2ef98f0d5dfac05d3c63339b13802886d53fc85",
	}
	got := edwards.Order8()
	if len(got) != 8 || !slices.Equal(got, smalls()) {
		t.Fatalf("Order8: %x", got)
	}
	for i, s := range expected {
		want(t, "Order8", got[i], api.OK, element(s), i)
	}
}

func TestExamplesOfNoPoints(t *testing.T) {
	for _, s := range []string{
		"0100000000000000000000000000000000000000000000000000000000000080",
		"edffffffffffffffffffffffffffffffffffffffffffffffffffffffffffff7f",
		"0200000000000000000000000000000000000000000000000000000000000000",
	} {
		if got, errno := edwards.Decode(unhex(s)); errno != api.ErrPoint || got != (api.Element{}) {
			t.Fatalf("Decode of %s: %x %v", s, got, errno)
		}
	}
}

// bytesOfAllKinds are points, none, ys around both ends of those that are below p, with either sign, and random ones.
func bytesOfAllKinds() []api.Element {
	out := slices.Concat(points(20), noPoints())
	for more := int64(-40); more < 40; more++ {
		e := api.Element(fe(big.NewInt(more)))
		out = append(out, e)
		e[31] |= 0x80
		out = append(out, e)
	}
	r := rand.New(rand.NewSource(5))
	for range 500 {
		var e api.Element
		r.Read(e[:])
		out = append(out, e)
	}
	return out
}

// P4.1: which bytes are points, and where they lie.
func TestWhatIsAPoint(t *testing.T) {
	for _, e := range bytesOfAllKinds() {
		expected, x, y, p := api.ErrPoint, api.Fe{}, api.Fe{}, api.Element{}
		if at, ok := placeOf(e); ok {
			expected, x, y, p = api.OK, fe(at.x), fe(at.y), e
		}
		if got, errno := edwards.Decode(e[:]); got != p || errno != expected {
			t.Fatalf("Decode of %x: %x %v", e, got, errno)
		}
		if errno := edwards.Check(e); errno != expected {
			t.Fatalf("Check of %x: %v", e, errno)
		}
		if gotX, gotY, errno := edwards.Coordinates(e); gotX != x || gotY != y || errno != expected {
			t.Fatalf("Coordinates of %x: %x %x %v", e, gotX, gotY, errno)
		}
	}
}

func TestDecodeAsksTheLengthFirst(t *testing.T) {
	for n := range 100 {
		for _, fill := range []byte{0, 1, 0x66, 0xff} {
			if n == 32 {
				continue
			}
			if got, errno := edwards.Decode(bytes.Repeat([]byte{fill}, n)); got != (api.Element{}) || errno != api.ErrLength {
				t.Fatalf("Decode of %d bytes %x: %x %v", n, fill, got, errno)
			}
		}
	}
	if _, errno := edwards.Decode(nil); errno != api.ErrLength {
		t.Fatalf("Decode of nil: %v", errno)
	}
}

func TestFromCoordinates(t *testing.T) {
	for _, e := range points(20) {
		p := whereIs(t, e)
		for _, x := range formsOf(p.x) {
			for _, y := range formsOf(p.y) {
				got, errno := edwards.FromCoordinates(x, y)
				want(t, "FromCoordinates", got, errno, e, x, y)
			}
		}
		off := [][2]*big.Int{{p.x, plus(p.y, one)}, {plus(p.x, one), p.y}, {minus(p.x, one), p.y}, {zero, zero}, {p.x, zero}}
		for _, c := range off {
			x, y := fe(c[0]), fe(c[1])
			onCurve := minus(times(c[1], c[1]), times(c[0], c[0])).Cmp(plus(one, times(curve, times(times(c[0], c[0]), times(c[1], c[1]))))) == 0
			got, errno := edwards.FromCoordinates(x, y)
			if onCurve != (errno == api.OK) || !onCurve && (errno != api.ErrPoint || got != api.Element{}) {
				t.Fatalf("FromCoordinates of %x %x: %x %v", x, y, got, errno)
			}
		}
	}
}

// formsOf are all 32 bytes whose number is x modulo p.
func formsOf(x *big.Int) []api.Fe {
	var out []api.Fe
	for x.BitLen() <= 256 {
		out = append(out, bytes32(x))
		x = sum256(x, prime)
	}
	return out
}

func TestSwappedCoordinatesAreOffTheCurve(t *testing.T) {
	x, y, _ := edwards.Coordinates(edwards.Base())
	if got, errno := edwards.FromCoordinates(y, x); errno != api.ErrPoint || got != (api.Element{}) {
		t.Fatalf("FromCoordinates of y and x: %x %v", got, errno)
	}
}

// P4.1: all calls refuse what is no point, in every place, and answer nothing else beside.
func TestNoPointsAreRefused(t *testing.T) {
	good := edwards.Base()
	for _, bad := range noPoints() {
		calls := map[string]func() (api.Element, api.Errno){
			"Add, first":   func() (api.Element, api.Errno) { return edwards.Add(bad, good) },
			"Add, second":  func() (api.Element, api.Errno) { return edwards.Add(good, bad) },
			"Sub, first":   func() (api.Element, api.Errno) { return edwards.Sub(bad, good) },
			"Sub, second":  func() (api.Element, api.Errno) { return edwards.Sub(good, bad) },
			"Neg":          func() (api.Element, api.Errno) { return edwards.Neg(bad) },
			"Double":       func() (api.Element, api.Errno) { return edwards.Double(bad) },
			"Mul":          func() (api.Element, api.Errno) { return edwards.Mul(api.Scalar{}, bad) },
			"Multi":        func() (api.Element, api.Errno) { return edwards.Multi([]api.Scalar{{}}, []api.Element{bad}) },
			"Cofactor":     func() (api.Element, api.Errno) { return edwards.Cofactor(bad) },
			"Parts":        func() (api.Element, api.Errno) { p, k, errno := edwards.Parts(bad); p[0] |= byte(k); return p, errno },
			"Montgomery":   func() (api.Element, api.Errno) { u, errno := edwards.Montgomery(bad); return api.Element(u), errno },
			"IsPrime":      func() (api.Element, api.Errno) { is, errno := edwards.IsPrime(bad); return told(is), errno },
			"IsSmall":      func() (api.Element, api.Errno) { is, errno := edwards.IsSmall(bad); return told(is), errno },
			"both of them": func() (api.Element, api.Errno) { return edwards.Add(bad, bad) },
		}
		for name, call := range calls {
			if got, errno := call(); got != (api.Element{}) || errno != api.ErrPoint {
				t.Fatalf("%s of %x: %x %v", name, bad, got, errno)
			}
		}
	}
}

func told(is bool) (e api.Element) {
	if is {
		e[0] = 1
	}
	return e
}

// P4.2: sums and multiples.

func TestSums(t *testing.T) {
	for _, a := range points(8) {
		p := whereIs(t, a)
		got, errno := edwards.Neg(a)
		want(t, "Neg", got, errno, p.opposite().element(), a)
		got, errno = edwards.Double(a)
		want(t, "Double", got, errno, p.and(p).element(), a)
		got, errno = edwards.Cofactor(a)
		want(t, "Cofactor", got, errno, p.by(big.NewInt(8)).element(), a)
		for _, b := range append(points(8), p.opposite().element(), p.and(p).element()) {
			q := whereIs(t, b)
			got, errno = edwards.Add(a, b)
			want(t, "Add", got, errno, p.and(q).element(), a, b)
			got, errno = edwards.Sub(a, b)
			want(t, "Sub", got, errno, p.and(q.opposite()).element(), a, b)
		}
	}
}

func TestMul(t *testing.T) {
	for _, e := range drawn(6, 2) {
		p := whereIs(t, e)
		for _, k := range factors(30) {
			want(t, "Mul", mul(t, k, e), api.OK, p.by(number(k)).element(), k, e)
		}
	}
	for _, e := range points(3) {
		p := whereIs(t, e)
		for _, k := range slices.Concat([]api.Scalar{{}, {1}, {2}, {3}, {8}, {255}, factor(order)}, drawnFactors(7, 1)) {
			want(t, "Mul", mul(t, k, e), api.OK, p.by(number(k)).element(), k, e)
		}
	}
}

func TestMulBase(t *testing.T) {
	base := whereIs(t, edwards.Base())
	for _, k := range factors(30) {
		want(t, "MulBase", edwards.MulBase(k), api.OK, base.by(number(k)).element(), k)
	}
}

// The library's public keys are multiples of the base point.
func TestMulBaseIsEd25519(t *testing.T) {
	for i := range 50 {
		seed := bytes.Repeat([]byte{byte(i)}, 32)
		h := sha512.Sum512(seed)
		h[0], h[31] = h[0]&248, h[31]&63|64
		expected := api.Element(ed25519.NewKeyFromSeed(seed)[32:])
		want(t, "MulBase", edwards.MulBase(api.Scalar(h[:32])), api.OK, expected, seed)
	}
}

func TestMulti(t *testing.T) {
	want(t, "Multi", multi(t, nil, nil), api.OK, edwards.Identity())
	want(t, "Multi", multi(t, []api.Scalar{}, nil), api.OK, edwards.Identity())
	ks, es := drawnFactors(8, 40), points(40)
	expected := nowhere()
	for n := range 20 {
		want(t, "Multi", multi(t, ks[:n], es[:n]), api.OK, expected.element(), n)
		expected = expected.and(whereIs(t, es[n]).by(number(ks[n])))
	}
}

func TestMultiOfEdges(t *testing.T) {
	ks := edgeFactors()
	es := drawn(9, len(ks))
	expected := nowhere()
	for i := range ks {
		expected = expected.and(whereIs(t, es[i]).by(number(ks[i])))
	}
	want(t, "Multi", multi(t, ks, es), api.OK, expected.element(), len(ks))
}

func TestMultiOfMany(t *testing.T) {
	for _, n := range []int{63, 64, 65, 66, 127, 128, 129, 300} {
		ks, es := make([]api.Scalar, n), make([]api.Element, n)
		sum := new(big.Int)
		for i := range n {
			ks[i], es[i] = api.Scalar{byte(i), 1}, edwards.MulBase(api.Scalar{byte(7 * i), 3})
			sum.Add(sum, prod256(number(ks[i]), number(api.Scalar{byte(7 * i), 3})))
		}
		want(t, "Multi", multi(t, ks, es), api.OK, edwards.MulBase(factor(sum)), n)
	}
}

func TestMultiAsksTheCountFirst(t *testing.T) {
	none := []api.Element{{2}, {2}, {2}}
	for n := range 3 {
		for m := range 3 {
			got, errno := edwards.Multi(make([]api.Scalar, n), none[:m])
			expected := api.ErrPoint
			if n != m {
				expected = api.ErrCount
			} else if n == 0 {
				continue
			}
			if got != (api.Element{}) || errno != expected {
				t.Fatalf("Multi of %d and %d: %x %v", n, m, got, errno)
			}
		}
	}
}

func TestMultiRefusesNoPointsInAllPlaces(t *testing.T) {
	const n = 130
	for _, place := range []int{0, 1, 62, 63, 64, 65, 127, 128, 129} {
		es := slices.Repeat([]api.Element{edwards.Base()}, n)
		es[place] = api.Element{2}
		if got, errno := edwards.Multi(make([]api.Scalar, n), es); got != (api.Element{}) || errno != api.ErrPoint {
			t.Fatalf("Multi with none in place %d: %x %v", place, got, errno)
		}
	}
}

// cosets are points with all eight numbers, and their parts.
func cosets(t *testing.T) (out, prime []api.Element, ks []int) {
	eight := smalls()
	for _, p := range slices.Concat([]api.Element{edwards.Identity(), edwards.Base()}, primes(10, 20)) {
		for k, small := range eight {
			out = append(out, whereIs(t, p).and(whereIs(t, small)).element())
			prime = append(prime, p)
			ks = append(ks, k)
		}
	}
	return out, prime, ks
}

// P4.3: IsPrime, IsSmall, Parts.
func TestCosets(t *testing.T) {
	es, primes, ks := cosets(t)
	for i, e := range es {
		if p, k := parts(t, e); p != primes[i] || k != ks[i] {
			t.Fatalf("Parts of %x: %x %d, not %x %d", e, p, k, primes[i], ks[i])
		}
		if is, errno := edwards.IsPrime(e); is != (ks[i] == 0) || errno != api.OK {
			t.Fatalf("IsPrime of %x with %d: %v %v", e, ks[i], is, errno)
		}
		if is, errno := edwards.IsSmall(e); is != (primes[i] == edwards.Identity()) || errno != api.OK {
			t.Fatalf("IsSmall of %x: %v %v", e, is, errno)
		}
	}
}

// P4.3: IsPrime is told by L times the point.
func TestIsPrimeOfMany(t *testing.T) {
	for _, e := range slices.Concat(points(400), primes(11, 50)) {
		is, errno := edwards.IsPrime(e)
		if is != (mul(t, factor(order), e) == edwards.Identity()) || errno != api.OK {
			t.Fatalf("IsPrime of %x: %v %v", e, is, errno)
		}
	}
}

// P4.4: Montgomery and Ladder.

func TestMontgomery(t *testing.T) {
	for _, e := range points(100) {
		p := whereIs(t, e)
		expected := zero
		if p.y.Cmp(one) != 0 {
			expected = times(plus(one, p.y), inverse(minus(one, p.y)))
		}
		if got := montgomery(t, e); got != fe(expected) {
			t.Fatalf("Montgomery of %x: %x, not %x", e, got, fe(expected))
		}
	}
}

// ladder is the chapter's text, by math/big.
func ladder(k, u *big.Int) *big.Int {
	x2, z2, x3, z3 := one, zero, u, one
	for bit := 255; bit >= 0; bit-- {
		if k.Bit(bit) == 1 {
			x2, z2, x3, z3 = x3, z3, x2, z2
		}
		a, b, c, d := plus(x2, z2), minus(x2, z2), plus(x3, z3), minus(x3, z3)
		aa, bb := times(a, a), times(b, b)
		e, da, cb := minus(aa, bb), times(d, a), times(c, b)
		x3, z3 = times(plus(da, cb), plus(da, cb)), times(u, times(minus(da, cb), minus(da, cb)))
		x2, z2 = times(aa, bb), times(e, plus(aa, times(big.NewInt(121665), e)))
		if k.Bit(bit) == 1 {
			x2, z2, x3, z3 = x3, z3, x2, z2
		}
	}
	if z2.Sign() == 0 {
		return zero
	}
	return times(x2, inverse(z2))
}

func TestLadder(t *testing.T) {
	us := []api.Fe{{}, {1}, {2}, {9}, fe(big.NewInt(-1)), fe(big.NewInt(-2)), bytes32(prime), bytes32(sum256(prime, one)), {31: 0x80}, {0: 9, 31: 0x80}}
	us = append(us, api.Fe(bytes.Repeat([]byte{255}, 32)))
	for _, k := range drawnFactors(12, 10) {
		us = append(us, api.Fe(k))
	}
	for _, u := range us {
		for _, k := range slices.Concat(drawnFactors(13, 3), jagged(14, 2), []api.Scalar{{}, {1}, {2}, {8}, {31: 0x80}, factor(order), api.Scalar(bytes.Repeat([]byte{255}, 32))}) {
			if got, expected := edwards.Ladder(k, u), fe(ladder(number(k), fromBytes(u[:]))); got != expected {
				t.Fatalf("Ladder of %x and %x: %x, not %x", k, u, got, expected)
			}
		}
	}
	for _, k := range edgeFactors() {
		if got, expected := edwards.Ladder(k, api.Fe{9}), fe(ladder(number(k), big.NewInt(9))); got != expected {
			t.Fatalf("Ladder of %x and 9: %x, not %x", k, got, expected)
		}
	}
}

// The library's X25519 is the ladder with the factor's bits clamped and the highest bit of u left out.
func TestLadderIsX25519(t *testing.T) {
	for i, k := range drawnFactors(15, 40) {
		u := api.Fe(drawnFactors(int64(100+i), 1)[0])
		u[31] &= 0x7f
		private, err := ecdh.X25519().NewPrivateKey(k[:])
		if err != nil {
			t.Fatal(err)
		}
		public, err := ecdh.X25519().NewPublicKey(u[:])
		if err != nil {
			t.Fatal(err)
		}
		expected, err := private.ECDH(public)
		if err != nil {
			t.Fatal(err)
		}
		k[0], k[31] = k[0]&248, k[31]&63|64
		if got := edwards.Ladder(k, u); !bytes.Equal(got[:], expected) {
			t.Fatalf("Ladder of %x and %x: %x, not %x", k, u, got, expected)
		}
	}
}

// RFC 7748, 5.2.
func TestLadderOfTheRFC(t *testing.T) {
	k := api.Scalar(unhex("a546e36bf0527c9d3b16154b82465edd62144c0ac1fc5a18506a2244ba449ac4"))
	k[0], k[31] = k[0]&248, k[31]&63|64
	u := api.Fe(unhex("e6db6867583030db3594c1a424b15f7c726624ec26b3353b10a903a6d0ab1c4c"))
	if got := edwards.Ladder(k, u); got != api.Fe(unhex("c3da55379de9c6908e94ea4df28d084f32eccf03491c71f754b4075577a28552")) {
		t.Fatalf("Ladder: %x", got)
	}
}
