package eddsa_test

import (
	"bytes"
	"crypto"
	"crypto/ed25519"
	"crypto/sha512"
	"math"
	"math/rand"
	"slices"
	"testing"

	"rime/api"
	"rime/eddsa"
	"rime/edwards"
)

// The chapter's section 'Examples'.

func TestExamplePublic(t *testing.T) {
	if got := eddsa.Public(api.Seed{}); got != api.Element(unhex("3b6a27bcceb6a42d62a3a8d02a6f0d73653215771de243a63ac048a18b59da29")) {
		t.Fatalf("Public of 32 bytes 0: %x", got)
	}
}

func TestExampleTurnedBits(t *testing.T) {
	seed, message := api.Seed{1, 2, 3}, []byte("a message")
	public, sig := eddsa.Public(seed), eddsa.Sign(seed, message)
	wantErrno(t, "Verify", eddsa.Verify(public, message, sig), api.OK)
	seen := map[api.Errno]int{}
	for bit := range 256 {
		turned := sig
		turned[32+bit/8] ^= 1 << (bit % 8)
		errno := eddsa.Verify(public, message, turned)
		wantErrno(t, "Verify", errno, errorOf(t, public, api.ModePure, nil, message, turned), bit)
		seen[errno]++
	}
	if seen[api.ErrSignature]+seen[api.ErrS] != 256 || seen[api.ErrSignature] < 250 || seen[api.ErrS] < 3 {
		t.Fatalf("Verify with a bit of the second half turned: %v", seen)
	}
}

func TestExampleRefused(t *testing.T) {
	seed, message := api.Seed{4}, []byte("m")
	public, sig := eddsa.Public(seed), eddsa.Sign(seed, message)
	above := api.Element(append(append([]byte{0xee}, bytes.Repeat([]byte{0xff}, 30)...), 0x7f))
	wantErrno(t, "Verify", eddsa.Verify(above, message, sig), api.ErrPublic, above)
	orderBytes := bytes32(order)
	copy(sig[32:], orderBytes[:])
	wantErrno(t, "Verify", eddsa.Verify(public, message, sig), api.ErrS, "s = L")
}

func TestExampleIdentity(t *testing.T) {
	identity := api.Element{1}
	sig := api.Signature{1}
	r := rand.New(rand.NewSource(1))
	for n := range 200 {
		message := drawnBytes(r, n)
		wantErrno(t, "Verify", eddsa.Verify(identity, message, sig), api.OK, message)
		for _, w := range ways() {
			wantErrno(t, "VerifyWith", eddsa.VerifyWith(identity, w.mode, w.context, message, sig), api.OK, w, message)
		}
	}
	wantErrno(t, "Verify", eddsa.Verify(identity, nil, api.Signature{0: 1, 32: 1}), api.ErrSignature, "s = 1")
}

func TestExampleNoContext(t *testing.T) {
	for _, none := range [][]byte{nil, {}} {
		sig, errno := eddsa.SignWith(api.Seed{5}, api.ModeContext, none, []byte("m"))
		if sig != (api.Signature{}) || errno != api.ErrContext {
			t.Fatalf("SignWith without a context: %x %v", sig, errno)
		}
	}
}

// RFC 8032, section 7.
func TestRFC8032(t *testing.T) {
	for _, c := range []struct {
		seed, public, message string
		mode                  api.Mode
		context, sig          string
	}{
		{
			"9d61b19deffd5a60ba844af492ec2cc44449c5697b326919703bac031cae7f60",
			"d75a980182b10ab7d54bfed3c964073a0ee172f3daa62325af021a68f707511a", "", api.ModePure, "",
			"e5564300c360ac729086e2cc806e828a84877f1eb8e5d974d873e065224901555fb8821590a33bacc61e39701cf9b46bd25bf5f0595bbe24655141438e7a100b",
		},
		{
			"4ccd089b28ff96da9db6c346ec114e0f5b8a319f35aba624da8cf6ed4fb8a6fb",
			"3d4017c3e843895a92b70aa74d1b7ebc9c982ccf2ec4968cc0cd55f12af4660c", "72", api.ModePure, "",
			"92a009a9f0d4cab8720e820b5f642540a2b27b5416503f8fb3762223ebdb69da085ac1e43e15996e458f3613d0f11d8c387b2eaeb4302aeeb00d291612bb0c00",
		},
		{
			"c5aa8df43f9f837bedb7442f31dcb7b166d38535076f094b85ce3a2e0b4458f7",
			"fc51cd8e6218a1a38da47ed00230f0580816ed13ba3303ac5deb911548908025", "af82", api.ModePure, "",
			"6291d657deec24024827e69c3abe01a30ce548a284743a445e3680d7db5ac3ac18ff9b538d16f290ae67f760984dc6594a7c15e9716ed28dc027beceea1ec40a",
		},
		{
			"0305334e381af78f141cb666f6199f57bc3495335a256a95bd2a55bf546663f6",
			"dfc9425e4f968f7f0c29f0259cf5f9aed6851c2bb4ad8bfb860cfee0ab248292", "f726936d19c800494e3fdaff20b276a8", api.ModeContext, "666f6f",
			"55a4cc2f70a54e04288c5f4cd1e45a7bb520b36292911876cada7323198dd87a8b36950b95130022907a7fb7c4e9b2d5f6cca685a587b4b21f4b888e4e7edb0d",
		},
		{
			"833fe62409237b9d62ec77587520911e9a759cec1d19755b7da901b96dca3d42",
			"ec172b93ad5e563bf4932c70e1245034c35467ef2efd4d64ebf819683467e2bf", "616263", api.ModePrehash, "",
			"98a70222f0b8121aa9d30f813d683f809e462b469c7ff87639499bb94e6dae4131f85042463c2a355a2003d062adf5aaa10b8c61e636062aaad11c2a26083406",
		},
	} {
		seed, public, message := api.Seed(unhex(c.seed)), api.Element(unhex(c.public)), unhex(c.message)
		if got := eddsa.Public(seed); got != public {
			t.Fatalf("Public of %s: %x", c.seed, got)
		}
		w := way{c.mode, unhex(c.context)}
		if got := signWith(t, seed, w, message); got != api.Signature(unhex(c.sig)) {
			t.Fatalf("SignWith of %s: %x", c.seed, got)
		}
		wantErrno(t, "VerifyWith", eddsa.VerifyWith(public, w.mode, w.context, message, api.Signature(unhex(c.sig))), api.OK, c.seed)
	}
}

// P5.1: keys.

func TestKeys(t *testing.T) {
	r := rand.New(rand.NewSource(2))
	seeds := []api.Seed{{}, {31: 0xff}, api.Seed(bytes.Repeat([]byte{0xff}, 32))}
	for range 100 {
		seeds = append(seeds, drawnSeed(r))
	}
	for _, seed := range seeds {
		number, half := secretOf(seed)
		gotSecret, gotHalf := eddsa.Secret(seed)
		if gotSecret != bytes32(number) || gotHalf != api.Hash(half) {
			t.Fatalf("Secret of %x: %x %x", seed, gotSecret, gotHalf)
		}
		if gotSecret[0]&7 != 0 || gotSecret[31]>>6 != 1 {
			t.Fatalf("Secret of %x: %x has other bits set or cleared", seed, gotSecret)
		}
		if got := eddsa.Public(seed); got != api.Element(ed25519.NewKeyFromSeed(seed[:])[32:]) {
			t.Fatalf("Public of %x: %x", seed, got)
		}
	}
}

// libraryOptions are the library's for a mode and a context.
func libraryOptions(w way) *ed25519.Options {
	o := &ed25519.Options{Context: string(w.context)}
	if w.mode == api.ModePrehash {
		o.Hash = crypto.SHA512
	}
	return o
}

// libraryMessage is what the library asks for: of ModePrehash the digest.
func libraryMessage(w way, message []byte) []byte {
	if w.mode == api.ModePrehash {
		digest := sha512.Sum512(message)
		return digest[:]
	}
	return message
}

// P5.1: what is signed is what the chapter says, and what the library signs.
func TestSignatures(t *testing.T) {
	r := rand.New(rand.NewSource(3))
	for n := range 40 {
		seed, message := drawnSeed(r), drawnBytes(r, []int{n, 63 + n, 127 * n, r.Intn(1000)}[n%4])
		if got := eddsa.Sign(seed, message); got != signatureOf(seed, api.ModePure, nil, message) {
			t.Fatalf("Sign of %x and %x: %x", seed, message, got)
		}
		for _, w := range ways() {
			got := signWith(t, seed, w, message)
			if got != signatureOf(seed, w.mode, w.context, message) {
				t.Fatalf("SignWith of %x, %v and %x: %x", seed, w, message, got)
			}
			expected, err := ed25519.NewKeyFromSeed(seed[:]).Sign(nil, libraryMessage(w, message), libraryOptions(w))
			if err != nil || !bytes.Equal(got[:], expected) {
				t.Fatalf("SignWith of %x, %v and %x: %x, and the library's: %x %v", seed, w, message, got, expected, err)
			}
		}
	}
}

func TestLongMessages(t *testing.T) {
	seed := api.Seed{6}
	public := eddsa.Public(seed)
	for _, n := range []int{api.MaxMessage, api.MaxMessage + 1, 3*api.MaxMessage + 5} {
		message := drawnBytes(rand.New(rand.NewSource(int64(n))), n)
		for _, w := range ways() {
			sig := signWith(t, seed, w, message)
			if sig != signatureOf(seed, w.mode, w.context, message) {
				t.Fatalf("SignWith of %d bytes, %v: %x", n, w, sig)
			}
			wantErrno(t, "VerifyWith", eddsa.VerifyWith(public, w.mode, w.context, message, sig), api.OK, n, w)
			message[n-1]++
			wantErrno(t, "VerifyWith", eddsa.VerifyWith(public, w.mode, w.context, message, sig), api.ErrSignature, n, w)
		}
	}
}

// P5.1: Challenge takes any bytes, points or not.
func TestChallenge(t *testing.T) {
	r := rand.New(rand.NewSource(4))
	for n := range 200 {
		a, b, message := api.Element(drawnBytes(r, 32)), api.Element(drawnBytes(r, 32)), drawnBytes(r, n)
		if got := eddsa.Challenge(a, b, message); got != numberOf(api.ModePure, nil, message, a[:], b[:]) {
			t.Fatalf("Challenge of %x, %x and %x: %x", a, b, message, got)
		}
	}
	if eddsa.Challenge(api.Element{2}, api.Element{3}, nil) != eddsa.Challenge(api.Element{2}, api.Element{3}, []byte{}) {
		t.Fatal("Challenge tells no bytes from nil")
	}
}

// P5.1: which modes and contexts may be, ahead of all else that is asked.
func TestModesAndContexts(t *testing.T) {
	modes := []api.Mode{api.ModePure, api.ModeContext, api.ModePrehash, 3, 4, -1, math.MaxInt, math.MinInt}
	seed, none := api.Seed{7}, api.Element{2}
	for _, mode := range modes {
		for _, n := range []int{0, 1, 2, 254, 255, 256, 257, 511, 512, 1000, 1 << 17} {
			expected := api.OK
			switch {
			case mode < 0 || mode > 2:
				expected = api.ErrArg
			case n > 255 || mode == api.ModePure && n > 0 || mode == api.ModeContext && n == 0:
				expected = api.ErrContext
			}
			context := make([]byte, n)
			sig, errno := eddsa.SignWith(seed, mode, context, []byte("m"))
			wantErrno(t, "SignWith", errno, expected, int(mode), n)
			if (sig == api.Signature{}) != (expected != api.OK) {
				t.Fatalf("SignWith of mode %d with %d bytes: %x", mode, n, sig)
			}
			wantErrno(t, "VerifyWith", eddsa.VerifyWith(eddsa.Public(seed), mode, context, []byte("m"), sig), expected, int(mode), n)
			if expected == api.OK {
				expected = api.ErrPublic
			}
			wantErrno(t, "VerifyWith", eddsa.VerifyWith(none, mode, context, []byte("m"), api.Signature{}), expected, int(mode), n)
		}
	}
}

// P5.1: of several faults the first is told.
func TestOrderOfErrors(t *testing.T) {
	r := rand.New(rand.NewSource(5))
	good, others := eddsa.Public(api.Seed{8}), []byte("m")
	ss := noScalars()
	for i, bad := range noPoints() {
		for _, w := range ways()[:7] {
			for _, c := range []struct {
				public, r api.Element
				s         api.Scalar
				expected  api.Errno
			}{
				{bad, bad, ss[i%len(ss)], api.ErrPublic},
				{bad, good, ss[i%len(ss)], api.ErrPublic},
				{bad, bad, drawnScalar(r), api.ErrPublic},
				{bad, good, drawnScalar(r), api.ErrPublic},
				{good, bad, ss[i%len(ss)], api.ErrR},
				{good, bad, drawnScalar(r), api.ErrR},
				{good, good, ss[i%len(ss)], api.ErrS},
				{good, good, drawnScalar(r), api.ErrSignature},
			} {
				sig := eddsa.Whole(c.r, c.s)
				wantErrno(t, "VerifyWith", eddsa.VerifyWith(c.public, w.mode, w.context, others, sig), c.expected, c.public, sig, w)
				if w.mode == api.ModePure {
					wantErrno(t, "Verify", eddsa.Verify(c.public, others, sig), c.expected, c.public, sig)
				}
			}
		}
	}
}

// P5.1: Verify of public keys and halves of all kinds is what the chapter says under 'It holds'.
func TestVerifyOfAllKinds(t *testing.T) {
	r := rand.New(rand.NewSource(6))
	points := slices.Concat(edwards.Order8(), noPoints()[:6], []api.Element{edwards.Base(), drawnPoint(r), drawnPoint(r), eddsa.Public(api.Seed{9})})
	numbers := slices.Concat(scalars(r), noScalars()[:6])
	seen := map[api.Errno]int{}
	for _, public := range points {
		for _, first := range points {
			for i, s := range numbers {
				w := ways()[i%len(ways())]
				message, sig := drawnBytes(r, i), eddsa.Whole(first, s)
				expected := errorOf(t, public, w.mode, w.context, message, sig)
				wantErrno(t, "VerifyWith", eddsa.VerifyWith(public, w.mode, w.context, message, sig), expected, public, sig, w, message)
				expected = errorOf(t, public, api.ModePure, nil, message, sig)
				wantErrno(t, "Verify", eddsa.Verify(public, message, sig), expected, public, sig, message)
				seen[expected]++
			}
		}
	}
	for _, errno := range []api.Errno{api.OK, api.ErrPublic, api.ErrR, api.ErrS, api.ErrSignature} {
		if seen[errno] == 0 {
			t.Fatalf("nothing was answered with %v", errno)
		}
	}
}

// P5.1: no point is multiplied by 8, and c is the number below L. With A = B times a + k T, and R = B times r + j T, all but the parts in T fits for s = r + c a; these fit just if j + c k is 0 modulo 8.
func TestSmallParts(t *testing.T) {
	r := rand.New(rand.NewSource(7))
	small := edwards.Order8()
	held := 0
	for round := range 4 {
		a, nonce := drawnScalar(r), drawnScalar(r)
		for k, part := range small {
			public := add(t, edwards.MulBase(a), part)
			for j, other := range small {
				first := add(t, edwards.MulBase(nonce), other)
				w := ways()[(8*k+j+round)%len(ways())]
				message := drawnBytes(r, 20)
				c := numberOf(w.mode, w.context, message, first[:], public[:])
				sig := eddsa.Whole(first, modL(plus(number(nonce), times(number(c), number(a)))))
				expected := api.ErrSignature
				if (j+int(c[0])*k)%8 == 0 {
					expected = api.OK
					held++
				}
				wantErrno(t, "VerifyWith", eddsa.VerifyWith(public, w.mode, w.context, message, sig), expected, k, j, public, sig)
			}
		}
	}
	if held < 20 {
		t.Fatalf("only %d held", held)
	}
}

// P5.1: where the public key is a point text, the library's check is the chapter's.
func TestVerifyIsTheLibrarys(t *testing.T) {
	r := rand.New(rand.NewSource(8))
	for n := range 300 {
		seed, message := drawnSeed(r), drawnBytes(r, n)
		w := ways()[n%len(ways())]
		public, sig := eddsa.Public(seed), signWith(t, seed, w, message)
		switch r.Intn(4) {
		case 0:
			sig[r.Intn(64)] ^= 1 << r.Intn(8)
		case 1:
			public = drawnPoint(r)
		case 2:
			message = append(message, 0)
		}
		holds := ed25519.VerifyWithOptions(public[:], libraryMessage(w, message), sig[:], libraryOptions(w)) == nil
		if errno := eddsa.VerifyWith(public, w.mode, w.context, message, sig); (errno == api.OK) != holds {
			t.Fatalf("VerifyWith of %x, %v, %x and %x: %v, but the library: %v", public, w, message, sig, errno, holds)
		}
	}
}

// P5.1: halves, and back.
func TestHalvesAndWhole(t *testing.T) {
	r := rand.New(rand.NewSource(9))
	for range 100 {
		sig := api.Signature(drawnBytes(r, 64))
		first, second := eddsa.Halves(sig)
		if first != api.Element(sig[:32]) || second != api.Scalar(sig[32:]) {
			t.Fatalf("Halves of %x: %x %x", sig, first, second)
		}
		if back := eddsa.Whole(first, second); back != sig {
			t.Fatalf("Whole of %x and %x: %x", first, second, back)
		}
	}
}
