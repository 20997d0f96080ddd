package scalar_test

import (
	"bytes"
	"math/big"
	"math/rand"
	"slices"
	"testing"

	"rime/api"
	"rime/scalar"
)

// P2.7: a field.
func TestFieldLaws(t *testing.T) {
	for _, a := range some() {
		want(t, "0 and it", scalar.Add(a, api.Scalar{}), scalar.Reduce(a[:]), a)
		want(t, "1 times it", scalar.Mul(a, api.Scalar{1}), scalar.Reduce(a[:]), a)
		for _, b := range some() {
			want(t, "Add turned", scalar.Add(a, b), scalar.Add(b, a), a, b)
			want(t, "Mul turned", scalar.Mul(a, b), scalar.Mul(b, a), a, b)
			want(t, "Sub", scalar.Sub(a, b), scalar.Add(a, scalar.Neg(b)), a, b)
			for _, c := range some() {
				want(t, "Add grouped", scalar.Add(scalar.Add(a, b), c), scalar.Add(a, scalar.Add(b, c)), a, b, c)
				want(t, "Mul grouped", scalar.Mul(scalar.Mul(a, b), c), scalar.Mul(a, scalar.Mul(b, c)), a, b, c)
				want(t, "Mul spread", scalar.Mul(a, scalar.Add(b, c)), scalar.Add(scalar.Mul(a, b), scalar.Mul(a, c)), a, b, c)
			}
		}
	}
}

func TestOppositesAndInverses(t *testing.T) {
	for _, a := range samples(300) {
		want(t, "it and its Neg", scalar.Add(a, scalar.Neg(a)), api.Scalar{}, a)
		inverse, errno := scalar.Invert(a)
		if scalar.IsZero(a) != (errno == api.ErrZero) {
			t.Fatalf("Invert of %x: %v", a, errno)
		}
		if errno == api.OK {
			want(t, "it times its Invert", scalar.Mul(a, inverse), api.Scalar{1}, a)
		}
	}
}

// P2.8: Fermat and Euler.
func TestFermat(t *testing.T) {
	byLess := littleEndian(new(big.Int).Sub(order, one), 32)
	byLess2 := littleEndian(new(big.Int).Sub(order, big.NewInt(2)), 32)
	byHalf := littleEndian(new(big.Int).Rsh(order, 1), 32)
	legendre := map[api.Scalar]int{{}: 0, {1}: 1, scalar.Neg(api.Scalar{1}): -1}
	for _, a := range samples(200) {
		if euler, ok := legendre[scalar.Power(a, byHalf)]; !ok || scalar.Legendre(a) != euler {
			t.Fatalf("Legendre of %x: %d", a, scalar.Legendre(a))
		}
		if scalar.IsZero(a) {
			want(t, "Power of 0 by L - 1", scalar.Power(a, byLess), api.Scalar{}, a)
			continue
		}
		want(t, "Power by L - 1", scalar.Power(a, byLess), api.Scalar{1}, a)
		inverse, _ := scalar.Invert(a)
		want(t, "Power by L - 2", scalar.Power(a, byLess2), inverse, a)
	}
}

func TestLegendreOfProducts(t *testing.T) {
	for _, a := range some() {
		for _, b := range some() {
			if scalar.Legendre(scalar.Mul(a, b)) != scalar.Legendre(a)*scalar.Legendre(b) {
				t.Fatalf("Legendre of the product of %x and %x", a, b)
			}
		}
	}
	for _, a := range drawn(50) {
		if got := scalar.Legendre(scalar.Mul(a, a)); got != 1 {
			t.Fatalf("Legendre of the square of %x: %d", a, got)
		}
	}
}

func TestPowersAddAndMultiply(t *testing.T) {
	r := rand.New(rand.NewSource(5))
	for _, a := range some() {
		for range 8 {
			e, f := make([]byte, r.Intn(40)), make([]byte, r.Intn(40))
			r.Read(e)
			r.Read(f)
			x, y := fromBytes(e), fromBytes(f)
			sum, product := littleEndian(new(big.Int).Add(x, y), 0), littleEndian(new(big.Int).Mul(x, y), 0)
			want(t, "Power by a sum", scalar.Power(a, sum), scalar.Mul(scalar.Power(a, e), scalar.Power(a, f)), a, e, f)
			want(t, "Power by a product", scalar.Power(a, product), scalar.Power(scalar.Power(a, e), f), a, e, f)
		}
	}
}

// P2.9: Reduce keeps sums and products.
func TestReduceOfBytesBehindBytes(t *testing.T) {
	r := rand.New(rand.NewSource(6))
	for range 500 {
		b, c := make([]byte, r.Intn(100)), make([]byte, r.Intn(100))
		r.Read(b)
		r.Read(c)
		shift := scalar.Power(api.Scalar{0, 1}, littleEndian(big.NewInt(int64(len(b))), 1))
		expected := scalar.Add(scalar.Reduce(b), scalar.Mul(scalar.Reduce(c), shift))
		want(t, "Reduce", scalar.Reduce(slices.Concat(b, c)), expected, b, c)
		want(t, "Reduce of bytes with 0 behind them", scalar.Reduce(append(slices.Clone(b), make([]byte, len(c))...)), scalar.Reduce(b), b)
	}
}

func TestDecodeTakesWhatReduceAnswers(t *testing.T) {
	for _, a := range samples(500) {
		answer := scalar.Reduce(a[:])
		if got, errno := scalar.Decode(answer[:]); got != answer || errno != api.OK || !scalar.Canonical(answer) {
			t.Fatalf("Decode of Reduce of %x: %x %v", a, got, errno)
		}
		if got, errno := scalar.Decode(a[:]); errno == api.OK && got != answer {
			t.Fatalf("Decode takes %x, and Reduce of it is another", a)
		}
	}
}

// P2.11: what is handed in is neither changed nor kept, spare room included; an answer is new memory.
func TestArgumentsStayAsTheyAre(t *testing.T) {
	room := make([]byte, 96)
	rand.New(rand.NewSource(7)).Read(room)
	before := slices.Clone(room)
	for _, n := range []int{0, 31, 32, 33, 64, 90} {
		scalar.Decode(room[:n])
		scalar.Reduce(room[:n])
		scalar.Power(api.Scalar{3}, room[:n])
	}
	if !bytes.Equal(room, before) {
		t.Fatal("Decode, Reduce or Power has changed its argument")
	}
	list := append(drawn(10), samples(10)...)
	kept := slices.Clone(list)
	for n := range len(list) {
		scalar.InvertAll(list[:n])
		scalar.Sum(list[:n])
		scalar.Product(list[:n])
		scalar.Dot(list[:n], list[:n])
		scalar.Dot(list[:n], list[1:n+1])
	}
	if !slices.Equal(list, kept) {
		t.Fatal("InvertAll, Sum, Product or Dot has changed its argument")
	}
}

func TestInversesAreNewMemory(t *testing.T) {
	list := drawn(10)
	kept := slices.Clone(list)
	first, _, _ := scalar.InvertAll(list)
	second, _, _ := scalar.InvertAll(list)
	expected := slices.Clone(second)
	spoil(first, api.Scalar{0xa5})
	if !slices.Equal(list, kept) || !slices.Equal(second, expected) {
		t.Fatal("an answer of InvertAll shares memory with its argument or with another answer")
	}
	spoil(list, api.Scalar{0xa5})
	if !slices.Equal(second, expected) {
		t.Fatal("an answer of InvertAll shares memory with its argument")
	}
	if third, _, _ := scalar.InvertAll(kept); !slices.Equal(third, expected) {
		t.Fatal("InvertAll keeps what it answered or what it was given")
	}
}

func TestNoneIsNewMemoryToo(t *testing.T) {
	list := drawn(3)
	kept := slices.Clone(list)
	none, _, _ := scalar.InvertAll(list[:0])
	spoil(none, api.Scalar{0xa5})
	zero, _, _ := scalar.InvertAll([]api.Scalar{{1}, {}})
	spoil(zero, api.Scalar{0xa5})
	if !slices.Equal(list, kept) {
		t.Fatal("InvertAll of none gives out its argument's room")
	}
}

func TestDigitsAreNewMemory(t *testing.T) {
	for _, a := range some() {
		first, second := scalar.Digits(a), scalar.Digits(a)
		expected := slices.Clone(second)
		spoil(first, 99)
		if !slices.Equal(second, expected) || !slices.Equal(scalar.Digits(a), expected) {
			t.Fatalf("answers of Digits of %x share memory", a)
		}
		first, second = naf(t, a, 4), naf(t, a, 4)
		expected = slices.Clone(second)
		spoil(first, 99)
		if !slices.Equal(second, expected) || !slices.Equal(naf(t, a, 4), expected) {
			t.Fatalf("answers of Naf of %x share memory", a)
		}
	}
}

// spoil overwrites all of a list's room.
func spoil[T any](l []T, by T) {
	l = l[:cap(l)]
	for i := range l {
		l[i] = by
	}
}
