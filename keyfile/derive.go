package keyfile

import (
	"rime/api"
	"rime/drbg"
	"rime/sha512"
)

// longestPass is how long a passphrase may be for MAC to take it as it is.
const longestPass = 128

// Derive: bytes out of a passphrase.
func Derive(pass []byte, salt []byte, rounds int, size int) ([]byte, api.Errno) {
	if !isRounds(rounds) || size < 0 {
		return nil, api.ErrArg
	}
	if size > api.MaxExpand {
		return nil, api.ErrMuch
	}
	pass = shortened(pass)
	out := make([]byte, size)
	for place := 1; size > 0; place++ { // there are at most 255 places
		digest := piece(pass, salt, rounds, byte(place))
		size -= copy(out[len(out)-size:], digest[:])
	}
	return out, api.OK
}

func isRounds(rounds int) bool { return 1 <= rounds && rounds <= api.MaxRounds }

// shortened: a passphrase for which MAC answers the same. A long one stands for its digest there; so it is gone through once, not in each round.
func shortened(pass []byte) []byte {
	if len(pass) <= longestPass {
		return pass
	}
	digest := sha512.Sum(pass)
	return digest[:]
}

// piece: the exclusive or of what all rounds answer.
func piece(pass []byte, salt []byte, rounds int, place byte) api.Digest {
	u := drbg.MAC(pass, salt, []byte{0, 0, 0, place})
	sum := u
	for range rounds - 1 {
		u = drbg.MAC(pass, u[:])
		for i := range len(sum) {
			sum[i] ^= u[i]
		}
	}
	return sum
}
