package edwards_test

import (
	"math/big"
	"math/rand"
	"slices"
	"testing"

	"rime/api"
	"rime/edwards"
)

// P4.5: a group.
func TestGroupLaws(t *testing.T) {
	some := slices.Concat(smalls()[:4], primes(20, 2), drawn(21, 4))
	for _, a := range some {
		want(t, "Add of the identity", add(t, a, edwards.Identity()), api.OK, a, a)
		neg := taken(t)(edwards.Neg(a))
		want(t, "Add of the opposite", add(t, a, neg), api.OK, edwards.Identity(), a)
		for _, b := range some {
			ab := add(t, a, b)
			want(t, "Add turned", add(t, b, a), api.OK, ab, a, b)
			want(t, "Sub of Add", taken(t)(edwards.Sub(ab, b)), api.OK, a, a, b)
			for _, c := range some {
				want(t, "Add grouped", add(t, ab, c), api.OK, add(t, a, add(t, b, c)), a, b, c)
			}
		}
	}
}

func TestMulLaws(t *testing.T) {
	r := rand.New(rand.NewSource(22))
	for _, e := range slices.Concat(smalls(), primes(23, 3), drawn(24, 20)) {
		a, b := e, drawn(r.Int63(), 1)[0]
		bits := uint(1 + r.Intn(255))
		j, k := new(big.Int).Rand(r, new(big.Int).Lsh(one, bits)), new(big.Int).Rand(r, new(big.Int).Lsh(one, 256-bits))
		je, ke := mul(t, factor(j), e), mul(t, factor(k), e)
		if sum := sum256(j, k); sum.BitLen() <= 256 {
			want(t, "Mul by a sum", mul(t, factor(sum), e), api.OK, add(t, je, ke), j, k, e)
		}
		want(t, "Mul by a product", mul(t, factor(prod256(j, k)), e), api.OK, mul(t, factor(j), ke), j, k, e)
		ka, kb := mul(t, factor(k), a), mul(t, factor(k), b)
		want(t, "Mul of a sum", mul(t, factor(k), add(t, a, b)), api.OK, add(t, ka, kb), k, a, b)
	}
}

func TestEightL(t *testing.T) {
	eightL := factor(prod256(order, big.NewInt(8)))
	for _, e := range points(60) {
		want(t, "Mul by 8 L", mul(t, eightL, e), api.OK, edwards.Identity(), e)
	}
}

// P4.6: two parts.
func TestPartsAdd(t *testing.T) {
	eight := edwards.Order8()
	some := slices.Concat(eight, primes(25, 3), drawn(26, 20))
	for i, a := range some {
		p, k := parts(t, a)
		want(t, "the parts' sum", add(t, p, eight[k]), api.OK, a, a)
		if own, none := parts(t, p); own != p || none != 0 {
			t.Fatalf("Parts of the part %x: %x %d", p, own, none)
		}
		prime, _ := edwards.IsPrime(a)
		small, _ := edwards.IsSmall(a)
		if prime != (k == 0) || small != (p == edwards.Identity()) {
			t.Fatalf("%x: IsPrime %v, IsSmall %v, Parts %x %d", a, prime, small, p, k)
		}
		b := some[(7*i+3)%len(some)]
		q, j := parts(t, b)
		if sum, number := parts(t, add(t, a, b)); sum != add(t, p, q) || number != (k+j)%8 {
			t.Fatalf("Parts of %x and %x do not add: %x %d", a, b, sum, number)
		}
	}
}

func TestFactorsModuloL(t *testing.T) {
	for i, k := range slices.Concat(drawnFactors(27, 20), []api.Scalar{factor(order), factor(sum256(order, one))}) {
		reduced := factor(new(big.Int).Mod(number(k), order))
		for _, e := range primes(int64(28+i), 2) {
			want(t, "Mul", mul(t, reduced, e), api.OK, mul(t, k, e), k, e)
		}
	}
	for _, e := range points(50) {
		prime, _ := edwards.IsPrime(e)
		if same := mul(t, factor(order), e) == mul(t, api.Scalar{}, e); same != prime {
			t.Fatalf("Mul by L and by 0 of %x: %v, IsPrime: %v", e, same, prime)
		}
	}
}

// P4.7: one form.
func TestThereAndBack(t *testing.T) {
	seen := map[[2]api.Fe]api.Element{}
	for _, e := range points(300) {
		x, y, errno := edwards.Coordinates(e)
		if errno != api.OK {
			t.Fatalf("Coordinates of %x: %v", e, errno)
		}
		if other, there := seen[[2]api.Fe{x, y}]; there && other != e {
			t.Fatalf("%x and %x lie in one place", other, e)
		}
		seen[[2]api.Fe{x, y}] = e
		back, errno := edwards.FromCoordinates(x, y)
		want(t, "FromCoordinates", back, errno, e, x, y)
		againX, againY, errno := edwards.Coordinates(back)
		if againX != x || againY != y || errno != api.OK {
			t.Fatalf("Coordinates of %x: %x %x %v", back, againX, againY, errno)
		}
	}
}

func TestDecodeTakesWhatIsAnswered(t *testing.T) {
	some := slices.Concat(smalls(), drawn(50, 12))
	var answers []api.Element
	for i, a := range some {
		b := some[(5*i+1)%len(some)]
		k := drawnFactors(int64(51+i), 1)[0]
		answers = append(answers, add(t, a, b), taken(t)(edwards.Sub(a, b)), taken(t)(edwards.Neg(a)), taken(t)(edwards.Double(a)))
		answers = append(answers, mul(t, k, a), edwards.MulBase(k), multi(t, []api.Scalar{k, k}, []api.Element{a, b}), taken(t)(edwards.Cofactor(a)))
		p, _ := parts(t, a)
		answers = append(answers, p)
	}
	for _, e := range slices.Concat(answers, edwards.Order8(), []api.Element{edwards.Identity(), edwards.Base()}) {
		got, errno := edwards.Decode(e[:])
		want(t, "Decode of an answer", got, errno, e)
	}
}

// P4.8: Multi is the sum of Muls, in any order.
func TestMultiIsTheSum(t *testing.T) {
	r := rand.New(rand.NewSource(29))
	for _, n := range []int{1, 2, 3, 10, 70} {
		ks, es := drawnFactors(30, n), drawn(31, n)
		sum := edwards.Identity()
		for i := range n {
			sum = add(t, sum, mul(t, ks[i], es[i]))
		}
		for range 3 {
			want(t, "Multi", multi(t, ks, es), api.OK, sum, n)
			r.Shuffle(n, func(i, j int) {
				ks[i], ks[j] = ks[j], ks[i]
				es[i], es[j] = es[j], es[i]
			})
		}
	}
}

func TestMultiOfOnePointTwice(t *testing.T) {
	for _, e := range points(5) {
		k := drawnFactors(32, 1)[0]
		got := multi(t, []api.Scalar{k, k, {1}}, []api.Element{e, e, e})
		ke := mul(t, k, e)
		want(t, "Multi", got, api.OK, add(t, add(t, ke, ke), e), k, e)
		opposite := taken(t)(edwards.Neg(e))
		want(t, "Multi", multi(t, []api.Scalar{k, k}, []api.Element{e, opposite}), api.OK, edwards.Identity(), k, e)
	}
}

func TestMulBaseIsMulOfBase(t *testing.T) {
	for _, k := range factors(100) {
		want(t, "MulBase", edwards.MulBase(k), api.OK, mul(t, k, edwards.Base()), k)
	}
}

// P4.9: RFC 7748.
func TestLadderIsMul(t *testing.T) {
	for _, e := range slices.Concat(smalls(), drawn(33, 4)) {
		u := montgomery(t, e)
		for _, k := range slices.Concat(drawnFactors(34, 4), []api.Scalar{{}, {1}, {2}, {3}, {4}, {8}, {31: 0x80}, factor(order)}) {
			if got, expected := edwards.Ladder(k, u), montgomery(t, mul(t, k, e)); got != expected {
				t.Fatalf("Ladder of %x and Montgomery of %x: %x, not %x", k, e, got, expected)
			}
		}
	}
}

func TestOneMontgomeryNumber(t *testing.T) {
	some := points(10)
	for _, e := range points(10) {
		some = append(some, taken(t)(edwards.Neg(e)))
	}
	for _, a := range some {
		for _, b := range some {
			expected := a == b || taken(t)(edwards.Neg(a)) == b || onAxis(a) && onAxis(b)
			if same := montgomery(t, a) == montgomery(t, b); same != expected {
				t.Fatalf("Montgomery of %x and %x are the same: %v", a, b, same)
			}
		}
	}
}

// onAxis: is x 0?
func onAxis(e api.Element) bool {
	x, _, _ := edwards.Coordinates(e)
	return x == api.Fe{}
}

// P4.10: what is handed in is neither changed nor kept, spare room included; an answer is new memory.
func TestArgumentsStayAsTheyAre(t *testing.T) {
	room := make([]byte, 96)
	base := edwards.Base()
	copy(room, base[:])
	before := slices.Clone(room)
	for _, n := range []int{0, 31, 32, 33, 64} {
		edwards.Decode(room[:n])
	}
	if !slices.Equal(room, before) {
		t.Fatal("Decode has changed its argument")
	}
	ks, es := drawnFactors(35, 150), drawn(36, 150)
	es[149] = api.Element{2}
	keptKs, keptEs := slices.Clone(ks), slices.Clone(es)
	for _, n := range []int{0, 1, 2, 63, 64, 65, 140, 150} {
		edwards.Multi(ks[:n], es[:n])
		edwards.Multi(ks[:n], es[:n/2])
	}
	if !slices.Equal(ks, keptKs) || !slices.Equal(es, keptEs) {
		t.Fatal("Multi has changed its arguments")
	}
}

func TestArgumentsAreNotKept(t *testing.T) {
	ks, es := drawnFactors(37, 5), drawn(38, 5)
	first := multi(t, ks, es)
	keptKs, keptEs := slices.Clone(ks), slices.Clone(es)
	spoil(ks, api.Scalar{0xa5})
	spoil(es, edwards.Base())
	want(t, "Multi again", multi(t, keptKs, keptEs), api.OK, first)
	b := slices.Clone(keptEs[0][:])
	got, _ := edwards.Decode(b)
	spoil(b, 0xa5)
	want(t, "Decode of bytes that have changed since", got, api.OK, keptEs[0])
}

func TestOrder8IsNewMemory(t *testing.T) {
	first, second := edwards.Order8(), edwards.Order8()
	spoil(first, api.Element{0xa5})
	if expected := smalls(); !slices.Equal(second, expected) || !slices.Equal(edwards.Order8(), expected) {
		t.Fatal("answers of Order8 share memory")
	}
}
