package scalar_test

import (
	"math"
	"math/big"
	"math/bits"
	"slices"
	"testing"

	"rime/api"
	"rime/scalar"
)

// naf is Naf of a width that may be.
func naf(t *testing.T, a api.Scalar, width int) []int {
	t.Helper()
	digits, errno := scalar.Naf(a, width)
	if errno != api.OK {
		t.Fatalf("Naf of %x, of width %d: %v", a, width, errno)
	}
	return digits
}

// wantDigits: are they these, and zeros behind them?
func wantDigits(t *testing.T, got []int, length int, first ...int) {
	t.Helper()
	if expected := append(first, make([]int, length-len(first))...); !slices.Equal(got, expected) {
		t.Fatalf("digits %v, not %v", got, expected)
	}
}

// sumOfDigits is the sum of each digit times 2^shift to the power of its place.
func sumOfDigits(digits []int, shift uint) *big.Int {
	sum := new(big.Int)
	for i := len(digits) - 1; i >= 0; i-- {
		sum.Lsh(sum, shift).Add(sum, big.NewInt(int64(digits[i])))
	}
	return sum
}

// P2.5 and P2.10: what Digits answers is one of the digits' lists that may be, and comes back to the number; there is just one.
func TestDigits(t *testing.T) {
	for _, a := range samples(2000) {
		digits := scalar.Digits(a)
		if len(digits) != 64 {
			t.Fatalf("Digits of %x: %d", a, len(digits))
		}
		for _, d := range digits[:63] {
			if d < -8 || d > 7 {
				t.Fatalf("Digits of %x: %d", a, d)
			}
		}
		if digits[63] < 0 || digits[63] > 2 {
			t.Fatalf("the last of Digits of %x: %d", a, digits[63])
		}
		if sumOfDigits(digits, 4).Cmp(value(a)) != 0 {
			t.Fatalf("Digits of %x: %v", a, digits)
		}
	}
}

// digitEdges have in every place the digits at which a carry begins or goes on.
func digitEdges() []api.Scalar {
	var out []api.Scalar
	for _, octet := range []byte{0x00, 0x07, 0x08, 0x0f, 0x70, 0x77, 0x78, 0x7f, 0x80, 0x87, 0x88, 0x8f, 0xf0, 0xf7, 0xf8, 0xff} {
		var a api.Scalar
		for i := range 31 {
			a[i] = octet
		}
		for _, last := range []byte{0x00, 0x07, 0x08, 0x0f} {
			a[31] = last
			out = append(out, a)
		}
	}
	return out
}

func TestDigitsThatCarry(t *testing.T) {
	for _, a := range digitEdges() {
		if digits := scalar.Digits(a); sumOfDigits(digits, 4).Cmp(value(a)) != 0 || slices.Min(digits) < -8 || slices.Max(digits) > 7 {
			t.Fatalf("Digits of %x: %v", a, digits)
		}
		for width := 2; width <= 8; width++ {
			if digits := naf(t, a, width); sumOfDigits(digits, 1).Cmp(value(a)) != 0 {
				t.Fatalf("Naf of %x, of width %d: %v", a, width, digits)
			}
		}
	}
}

// P2.6: the same of Naf.
func TestNaf(t *testing.T) {
	for _, a := range samples(500) {
		for width := 2; width <= 8; width++ {
			digits := naf(t, a, width)
			if len(digits) != 256 || sumOfDigits(digits, 1).Cmp(value(a)) != 0 {
				t.Fatalf("Naf of %x, of width %d: %v", a, width, digits)
			}
			checkNaf(t, digits, width)
		}
	}
}

// checkNaf: is each digit 0 or odd, small enough, and alone among those that stand around it?
func checkNaf(t *testing.T, digits []int, width int) {
	t.Helper()
	last := -width
	for i, d := range digits {
		if d == 0 {
			continue
		}
		if d%2 == 0 || d <= -(1<<(width-1)) || d >= 1<<(width-1) || i-last < width {
			t.Fatalf("width %d: digit %d in place %d: %v", width, d, i, digits)
		}
		last = i
	}
}

func TestNafOfWrongWidths(t *testing.T) {
	for _, width := range []int{math.MinInt, -2, -1, 0, 1, 9, 10, 63, 64, 65, math.MaxInt} {
		if got, errno := scalar.Naf(api.Scalar{5}, width); len(got) != 0 || errno != api.ErrArg {
			t.Fatalf("Naf of width %d: %v %v", width, got, errno)
		}
	}
}

// P2.10: few digits of Naf are not 0.
func TestNafIsSparse(t *testing.T) {
	for _, a := range samples(500) {
		ones := 0
		for _, octet := range littleEndian(value(a), 32) {
			ones += bits.OnesCount8(octet)
		}
		for width := 2; width <= 8; width++ {
			weight := 0
			for _, d := range naf(t, a, width) {
				if d != 0 {
					weight++
				}
			}
			if weight > 256/width+1 || width == 2 && weight > ones {
				t.Fatalf("Naf of %x, of width %d: %d digits are not 0", a, width, weight)
			}
		}
	}
}

// P2.10: other numbers have other digits, and one number has the same, whatever its bytes.
func TestDigitsTellNumbersApart(t *testing.T) {
	l := samples(40)
	for _, a := range l {
		for _, b := range l {
			same := value(a).Cmp(value(b)) == 0
			if slices.Equal(scalar.Digits(a), scalar.Digits(b)) != same {
				t.Fatalf("Digits of %x and of %x", a, b)
			}
		}
	}
	for _, a := range edges() {
		for _, b := range edges() {
			same := value(a).Cmp(value(b)) == 0
			if slices.Equal(naf(t, a, 5), naf(t, b, 5)) != same {
				t.Fatalf("Naf of %x and of %x", a, b)
			}
		}
	}
}
