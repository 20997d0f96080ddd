package scalar

import "rime/api"

// Digits: 64 signed digits of radix 16.
func Digits(a api.Scalar) []int {
	var x number
	x.load(&a)
	out := make([]int, 64)
	carry := 0
	for i := range 63 {
		digit := x.window(4*i, 4) + carry
		carry = (digit + 8) >> 4
		out[i] = digit - carry<<4
	}
	out[63] = x.window(4*63, 4) + carry
	return out
}

// Naf: 256 signed digits, few of them not 0.
func Naf(a api.Scalar, width int) ([]int, api.Errno) {
	if width < 2 || width > 8 {
		return nil, api.ErrArg
	}
	var x number
	x.load(&a)
	return x.naf(width), api.OK
}

// naf goes up by the bits: where what is left is odd, a digit takes up as many bits as it is wide; if it is below 0, 1 is carried to the bit behind them.
func (z *number) naf(width int) []int {
	out := make([]int, 256)
	carry := 0
	for at := 0; at < len(out); {
		digit := z.window(at, width) + carry
		if digit&1 == 0 {
			at++
			continue
		}
		carry = digit >> (width - 1)
		out[at] = digit - carry<<width
		at += width
	}
	return out
}

// window is the number of so many bits, 8 at most, from bit at on; bits beyond 255 are 0.
func (z *number) window(at, width int) int {
	place, shift := at/64, at%64
	w := z[place] >> shift
	if place < 3 {
		w |= z[place+1] << (64 - shift)
	}
	return int(w & (1<<width - 1))
}
