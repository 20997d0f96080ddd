package keyfile

import (
	"strconv"
	"strings"
)

const (
	base64Letters = "ABCDEFGHIJKLMNOPQRSTUVWXYZabcdefghijklmnopqrstuvwxyz0123456789+/"
	filling       = "="
	hexLetters    = "0123456789abcdef"
)

// base64: three bytes are four letters; the filling brings the last ones to four.
func base64(b []byte) string {
	fours := (len(b) + 2) / 3
	out := make([]byte, 0, 4*fours)
	for i := range fours {
		out = append(out, four(b[3*i:min(3*i+3, len(b))])...)
	}
	return string(out)
}

// four: one to three bytes as letters.
func four(b []byte) string {
	bits := 0
	for i := range 3 {
		bits <<= 8
		if i < len(b) {
			bits |= int(b[i])
		}
	}
	out := make([]byte, 0, 4)
	for i := range len(b) + 1 {
		out = append(out, base64Letters[bits>>(18-6*i)&63])
	}
	return string(out) + strings.Repeat(filling, 3-len(b))
}

// bytesOf: the bytes that have this form in base64, if there are any. Written again they show whether it is theirs: filling elsewhere than at the end, bits that are left over, a length that is no multiple of four do not come back.
func bytesOf(letters string) ([]byte, bool) {
	bits, count := 0, 0
	var out []byte
	bare := strings.TrimRight(letters, filling)
	for i := range len(bare) {
		value := strings.IndexByte(base64Letters, bare[i])
		if value < 0 {
			return nil, false
		}
		bits = bits<<6 | value // what was taken falls out at the top
		count += 6
		if count >= 8 {
			count -= 8
			out = append(out, byte(bits>>count))
		}
	}
	return out, base64(out) == letters
}

// hexadecimal: a byte is two letters.
func hexadecimal(b []byte) string {
	out := make([]byte, 0, 2*len(b))
	for i := range len(b) {
		out = append(out, hexLetters[b[i]>>4], hexLetters[b[i]&15])
	}
	return string(out)
}

// unhex: fills b with what the letters stand for, if they are just as many as b asks for.
func unhex(b []byte, letters string) bool {
	if len(letters) != 2*len(b) {
		return false
	}
	for i := range len(b) {
		high, low := strings.IndexByte(hexLetters, letters[2*i]), strings.IndexByte(hexLetters, letters[2*i+1])
		if high < 0 || low < 0 {
			return false
		}
		b[i] = byte(high<<4 | low)
	}
	return true
}

// roundsOf: a number of rounds that is written in the one way that there is.
func roundsOf(letters string) (int, bool) {
	rounds, err := strconv.Atoi(letters)
	return rounds, err == nil && isRounds(rounds) && strconv.Itoa(rounds) == letters
}
