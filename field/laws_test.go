package field_test

import (
	"bytes"
	"math/big"
	"math/rand"
	"slices"
	"testing"

	"rime/api"
	"rime/field"
)

// P1.2: a field.
func TestFieldLaws(t *testing.T) {
	some := edges()[:20]
	some = append(some, samples(20)[len(edges()):]...)
	for _, a := range some {
		for _, b := range some {
			want(t, "Add turned", field.Add(a, b), field.Add(b, a), a, b)
			want(t, "Mul turned", field.Mul(a, b), field.Mul(b, a), a, b)
			want(t, "Sub of Add", field.Sub(field.Add(a, b), b), field.Reduce(a[:]), a, b)
			for _, c := range some {
				want(t, "Add grouped", field.Add(field.Add(a, b), c), field.Add(a, field.Add(b, c)), a, b, c)
				want(t, "Mul grouped", field.Mul(field.Mul(a, b), c), field.Mul(a, field.Mul(b, c)), a, b, c)
				want(t, "Mul spread", field.Mul(a, field.Add(b, c)), field.Add(field.Mul(a, b), field.Mul(a, c)), a, b, c)
			}
		}
	}
}

func TestInverseLaw(t *testing.T) {
	for _, a := range samples(300) {
		product := field.Mul(a, field.Invert(a))
		if field.Equal(a, api.Fe{}) {
			want(t, "0 times its Invert", product, api.Fe{}, a)
		} else {
			want(t, "a number times its Invert", product, api.Fe{1}, a)
		}
		want(t, "0 and it", field.Add(a, field.Neg(a)), api.Fe{}, a)
	}
}

// P1.3: Fermat.
func TestFermat(t *testing.T) {
	byP := littleEndian(prime, 32)
	byHalf := littleEndian(new(big.Int).Rsh(prime, 1), 32)
	minus1 := field.Neg(api.Fe{1})
	for _, a := range samples(200) {
		want(t, "Power by p", field.Power(a, byP), field.Reduce(a[:]), a)
		expected := 0
		switch field.Power(a, byHalf) {
		case api.Fe{1}:
			expected = 1
		case minus1:
			expected = -1
		}
		if got := field.Legendre(a); got != expected {
			t.Fatalf("Legendre of %x: %d", a, got)
		}
	}
}

func TestLegendreOfProducts(t *testing.T) {
	for _, a := range samples(10) {
		for _, b := range samples(10) {
			if field.Legendre(field.Mul(a, b)) != field.Legendre(a)*field.Legendre(b) {
				t.Fatalf("Legendre of the product of %x and %x", a, b)
			}
		}
	}
}

// P1.4: a root is one. That it is told of the right ratio, TestSqrtRatio asks.
func TestRootsAreRoots(t *testing.T) {
	for _, u := range samples(20) {
		for _, v := range samples(20) {
			if field.Equal(v, api.Fe{}) {
				continue
			}
			root, square := field.SqrtRatio(u, v)
			expected := field.Reduce(u[:])
			if !square {
				expected = field.Mul(field.SqrtM1(), u)
			}
			want(t, "the root's square times v", field.Mul(v, field.Square(root)), expected, u, v)
			if field.IsNegative(root) || !field.Canonical(root) {
				t.Fatalf("SqrtRatio(%x, %x): %x", u, v, root)
			}
		}
	}
}

// P1.5: Split and Join undo each other; Decode takes just what Reduce answers.
func TestSplitAndJoin(t *testing.T) {
	for _, a := range samples(500) {
		want(t, "Join of Split", field.Join(field.Split(a)), field.Reduce(a[:]), a)
	}
	r := rand.New(rand.NewSource(5))
	for range 2000 {
		l := api.Limbs{r.Uint64() >> 13, r.Uint64() >> 13, r.Uint64() >> 13, r.Uint64() >> 13, r.Uint64() >> 13}
		if limbs := field.Split(field.Join(l)); limbs != l {
			t.Fatalf("Split of Join of %x: %x", l, limbs)
		}
	}
}

func TestDecodeTakesWhatReduceAnswers(t *testing.T) {
	for _, a := range samples(500) {
		reduced := field.Reduce(a[:])
		if got, errno := field.Decode(reduced[:]); got != reduced || errno != api.OK {
			t.Fatalf("Decode of Reduce of %x: %x %v", a, got, errno)
		}
		if got, errno := field.Decode(a[:]); errno == api.OK && got != reduced {
			t.Fatalf("Decode takes %x, and Reduce of it is another", a)
		}
	}
}

// P1.6: what is handed in is neither changed nor kept, spare room included; an answer is new memory.
func TestArgumentsStayAsTheyAre(t *testing.T) {
	room := make([]byte, 96)
	rand.New(rand.NewSource(6)).Read(room)
	before := slices.Clone(room)
	for _, n := range []int{0, 31, 32, 33, 64, 90} {
		field.Decode(room[:n])
		field.Reduce(room[:n])
		field.Power(api.Fe{3}, room[:n])
	}
	if !bytes.Equal(room, before) {
		t.Fatal("Decode, Reduce or Power has changed its argument")
	}
	list := samples(10)
	kept := slices.Clone(list)
	for n := range len(list) {
		field.InvertAll(list[:n])
	}
	if !slices.Equal(list, kept) {
		t.Fatal("InvertAll has changed its argument")
	}
}

func TestAnswersAreNewMemory(t *testing.T) {
	list := samples(10)
	kept := slices.Clone(list)
	first, second := field.InvertAll(list), field.InvertAll(list)
	expected := slices.Clone(second)
	spoil(first)
	if !slices.Equal(list, kept) || !slices.Equal(second, expected) {
		t.Fatal("an answer of InvertAll shares memory with its argument or with another answer")
	}
	spoil(list)
	if !slices.Equal(second, expected) {
		t.Fatal("an answer of InvertAll shares memory with its argument")
	}
	if third := field.InvertAll(kept); !slices.Equal(third, expected) {
		t.Fatal("InvertAll keeps what it answered or what it was given")
	}
}

func TestNoneIsNewMemoryToo(t *testing.T) {
	list := samples(1)
	kept := slices.Clone(list)
	spoil(field.InvertAll(list[:0]))
	if !slices.Equal(list, kept) {
		t.Fatal("InvertAll of none gives out its argument's room")
	}
	if got := field.InvertAll(nil); len(got) != 0 {
		t.Fatalf("InvertAll of nil: %d", len(got))
	}
}

// spoil overwrites all of a list's room.
func spoil(l []api.Fe) {
	l = l[:cap(l)]
	for i := range l {
		l[i] = api.Fe{0xa5}
	}
}
