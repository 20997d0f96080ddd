package eddsa_test

import (
	"bytes"
	"math/big"
	"math/rand"
	"slices"
	"testing"

	"rime/api"
	"rime/eddsa"
	"rime/edwards"
)

// P5.2: what is signed holds, and nothing beside it.
func TestSignedHolds(t *testing.T) {
	r := rand.New(rand.NewSource(20))
	for n := range 60 {
		seed, message := drawnSeed(r), drawnBytes(r, n*n%301)
		public := eddsa.Public(seed)
		wantErrno(t, "Verify of Sign", eddsa.Verify(public, message, eddsa.Sign(seed, message)), api.OK, seed, message)
		for _, w := range ways() {
			sig := signWith(t, seed, w, message)
			wantErrno(t, "VerifyWith of SignWith", eddsa.VerifyWith(public, w.mode, w.context, message, sig), api.OK, seed, w, message)
			other := append(slices.Clone(message), 1)
			wantErrno(t, "VerifyWith of another message", eddsa.VerifyWith(public, w.mode, w.context, other, sig), api.ErrSignature, seed, w)
			wantErrno(t, "VerifyWith of another's key", eddsa.VerifyWith(eddsa.Public(drawnSeed(r)), w.mode, w.context, message, sig), api.ErrSignature, seed, w)
		}
	}
}

func TestSignIsSignWithOfModePure(t *testing.T) {
	r := rand.New(rand.NewSource(21))
	for n := range 50 {
		seed, message := drawnSeed(r), drawnBytes(r, n)
		for _, none := range [][]byte{nil, {}} {
			if eddsa.Sign(seed, message) != signWith(t, seed, way{api.ModePure, none}, message) {
				t.Fatalf("Sign and SignWith of %x and %x are not the same", seed, message)
			}
		}
	}
}

func TestNilAndEmptyAreOne(t *testing.T) {
	seed := api.Seed{10}
	public := eddsa.Public(seed)
	for _, w := range ways() {
		sig := signWith(t, seed, w, nil)
		if sig != signWith(t, seed, w, []byte{}) {
			t.Fatalf("SignWith of %v tells no bytes from nil", w)
		}
		wantErrno(t, "VerifyWith", eddsa.VerifyWith(public, w.mode, w.context, []byte{}, sig), api.OK, w)
		wantErrno(t, "VerifyWith", eddsa.VerifyWith(public, w.mode, w.context, nil, sig), api.OK, w)
	}
	if signWith(t, seed, way{api.ModePrehash, nil}, nil) != signWith(t, seed, way{api.ModePrehash, []byte{}}, nil) {
		t.Fatal("SignWith tells no context from nil")
	}
}

// P5.3: one second half. Of a signature that holds all others are refused: those below L, and the same number with L added as often as it goes.
func TestOneSecondHalf(t *testing.T) {
	r := rand.New(rand.NewSource(22))
	for n := range 20 {
		seed, message := drawnSeed(r), drawnBytes(r, n)
		w := ways()[n%len(ways())]
		public := eddsa.Public(seed)
		first, s := eddsa.Halves(signWith(t, seed, w, message))
		for k := int64(1); ; k++ {
			same := plus(number(s), times(order, big.NewInt(k)))
			if same.BitLen() > 256 {
				break
			}
			errno := eddsa.VerifyWith(public, w.mode, w.context, message, eddsa.Whole(first, bytes32(same)))
			wantErrno(t, "VerifyWith of s and a multiple of L", errno, api.ErrS, k, s)
		}
		for _, more := range append(scalars(r), eddsa.Challenge(first, public, message)) {
			expected := api.ErrSignature
			if more == (api.Scalar{}) {
				expected = api.OK
			}
			for _, other := range []*big.Int{plus(number(s), number(more)), new(big.Int).Sub(number(s), number(more))} {
				errno := eddsa.VerifyWith(public, w.mode, w.context, message, eddsa.Whole(first, modL(other)))
				wantErrno(t, "VerifyWith of another s", errno, expected, more, s)
			}
		}
	}
}

func TestOneSecondHalfOfSmallOrder(t *testing.T) {
	r := rand.New(rand.NewSource(23))
	for _, public := range edwards.Order8() {
		for _, first := range edwards.Order8() {
			for _, s := range scalars(r)[1:] {
				errno := eddsa.Verify(public, []byte("m"), eddsa.Whole(first, s))
				wantErrno(t, "Verify", errno, api.ErrSignature, public, first, s)
			}
		}
	}
}

// P5.3: what holds in one mode and context does not hold in another, whoever made it.
func TestOneModeAndContext(t *testing.T) {
	r := rand.New(rand.NewSource(24))
	for range 4 {
		seed, message := drawnSeed(r), drawnBytes(r, 30)
		public := eddsa.Public(seed)
		for i, w := range ways() {
			sig := signWith(t, seed, w, message)
			for j, v := range ways() {
				expected := api.ErrSignature
				if i == j {
					expected = api.OK
				}
				wantErrno(t, "VerifyWith", eddsa.VerifyWith(public, v.mode, v.context, message, sig), expected, seed, w, v)
			}
		}
	}
}

func TestContextIsNoMessage(t *testing.T) {
	seed := api.Seed{11}
	public := eddsa.Public(seed)
	sig := signWith(t, seed, way{api.ModeContext, []byte("ab")}, []byte("cd"))
	for _, c := range [][2]string{{"a", "bcd"}, {"abc", "d"}, {"abcd", ""}} {
		errno := eddsa.VerifyWith(public, api.ModeContext, []byte(c[0]), []byte(c[1]), sig)
		wantErrno(t, "VerifyWith", errno, api.ErrSignature, c[0], c[1])
	}
	prehashed := signWith(t, seed, way{api.ModePrehash, nil}, []byte("cd"))
	for _, message := range []string{"cd", "SigEd25519 no Ed25519 collisions\x01\x00cd"} {
		wantErrno(t, "Verify", eddsa.Verify(public, []byte(message), prehashed), api.ErrSignature, message)
	}
}

// The prefix's first bytes can't be an R.
func TestPrefixIsNoPoint(t *testing.T) {
	wantErrno(t, "Check", edwards.Check(api.Element([]byte("SigEd25519 no Ed25519 collisions"))), api.ErrPoint)
}

// drawnClaim holds, or fails in one of five ways.
func drawnClaim(r *rand.Rand, fault int) api.Claim {
	seed, message := drawnSeed(r), drawnBytes(r, r.Intn(40))
	c := api.Claim{Public: eddsa.Public(seed), Message: message, Sig: eddsa.Sign(seed, message)}
	switch fault {
	case 1:
		c.Public = noPoints()[r.Intn(len(noPoints()))]
	case 2:
		copy(c.Sig[:32], bytes.Repeat([]byte{0xff}, 32))
	case 3:
		copy(c.Sig[32:], bytes.Repeat([]byte{0xff}, 32))
	case 4:
		c.Message = append(c.Message, 0)
	case 5:
		c.Sig[32] ^= 1
	}
	return c
}

// P5.4: All is Verify, claim by claim.
func TestAllIsVerify(t *testing.T) {
	r := rand.New(rand.NewSource(25))
	for range 80 {
		claims := make([]api.Claim, r.Intn(8))
		for i := range claims {
			claims[i] = drawnClaim(r, max(0, r.Intn(16)-10))
		}
		place, expected := len(claims), api.OK
		for i, c := range claims {
			if expected = eddsa.Verify(c.Public, c.Message, c.Sig); expected != api.OK {
				place = i
				break
			}
		}
		if got, errno := eddsa.All(claims); got != place || errno != expected {
			t.Fatalf("All of %x: %d %v, not %d %v", claims, got, errno, place, expected)
		}
	}
}

func TestAllTellsTheFirst(t *testing.T) {
	r := rand.New(rand.NewSource(26))
	errors := []api.Errno{api.OK, api.ErrPublic, api.ErrR, api.ErrS, api.ErrSignature, api.ErrSignature}
	for place := range 6 {
		for first := 1; first <= 5; first++ {
			claims := make([]api.Claim, 6)
			for i := range claims {
				claims[i] = drawnClaim(r, 0)
			}
			if got, errno := eddsa.All(claims); got != 6 || errno != api.OK {
				t.Fatalf("All of six that hold: %d %v", got, errno)
			}
			claims[5] = drawnClaim(r, 6-first)
			claims[place] = drawnClaim(r, first)
			if got, errno := eddsa.All(claims); got != place || errno != errors[first] {
				t.Fatalf("All with fault %d in place %d: %d %v", first, place, got, errno)
			}
		}
	}
}

func TestAllOfNone(t *testing.T) {
	for _, none := range [][]api.Claim{nil, {}} {
		if got, errno := eddsa.All(none); got != 0 || errno != api.OK {
			t.Fatalf("All of none: %d %v", got, errno)
		}
	}
}

// Two that do not hold, but whose equations added up do, are refused all the same.
func TestAllAddsNothingUp(t *testing.T) {
	seed, message := api.Seed{12}, []byte("m")
	public := eddsa.Public(seed)
	first, s := eddsa.Halves(eddsa.Sign(seed, message))
	var claims []api.Claim
	for _, more := range []int64{1, -1} {
		sig := eddsa.Whole(first, modL(plus(number(s), big.NewInt(more))))
		claims = append(claims, api.Claim{Public: public, Message: message, Sig: sig})
	}
	if got, errno := eddsa.All(claims); got != 0 || errno != api.ErrSignature {
		t.Fatalf("All: %d %v", got, errno)
	}
}

// P5.5: what is handed in is neither changed nor kept, spare room included.

func TestArgumentsStayAsTheyAre(t *testing.T) {
	r := rand.New(rand.NewSource(27))
	messages, contexts := drawnBytes(r, 600), drawnBytes(r, 600)
	messagesBefore, contextsBefore := slices.Clone(messages), slices.Clone(contexts)
	seed := api.Seed{13}
	public := eddsa.Public(seed)
	for _, n := range []int{0, 1, 64, 128, 255, 256, 500} {
		message := messages[:n]
		sig := eddsa.Sign(seed, message)
		eddsa.Verify(public, message, sig)
		eddsa.Challenge(public, public, message)
		for mode := api.Mode(-1); mode <= 3; mode++ {
			for _, m := range []int{0, 1, 255, 256} {
				eddsa.SignWith(seed, mode, contexts[:m], message)
				eddsa.VerifyWith(public, mode, contexts[:m], message, sig)
			}
		}
	}
	if !bytes.Equal(messages, messagesBefore) || !bytes.Equal(contexts, contextsBefore) {
		t.Fatal("a message or a context has changed")
	}
}

func TestClaimsStayAsTheyAre(t *testing.T) {
	r := rand.New(rand.NewSource(28))
	var claims, before []api.Claim
	for i := range 12 {
		c := drawnClaim(r, i/2)
		claims = append(claims, c)
		c.Message = slices.Clone(c.Message)
		before = append(before, c)
	}
	for n := range 13 {
		eddsa.All(claims[:n])
		eddsa.All(claims[n:])
	}
	for i, c := range claims {
		if c.Public != before[i].Public || c.Sig != before[i].Sig || !bytes.Equal(c.Message, before[i].Message) {
			t.Fatalf("All has changed claim %d", i)
		}
	}
}

func TestArgumentsAreNotKept(t *testing.T) {
	r := rand.New(rand.NewSource(29))
	seed, message, context := drawnSeed(r), drawnBytes(r, 100), drawnBytes(r, 20)
	public := eddsa.Public(seed)
	for _, mode := range []api.Mode{api.ModeContext, api.ModePrehash} {
		lent, lentContext := slices.Clone(message), slices.Clone(context)
		sig := signWith(t, seed, way{mode, lentContext}, lent)
		spoil(lent, 0xa5)
		spoil(lentContext, 0xa5)
		wantErrno(t, "VerifyWith", eddsa.VerifyWith(public, mode, lentContext, lent, sig), api.ErrSignature, "spoilt")
		wantErrno(t, "VerifyWith", eddsa.VerifyWith(public, mode, context, message, sig), api.OK)
		if sig != signatureOf(seed, mode, context, message) {
			t.Fatal("a signature has changed with its arguments")
		}
	}
}

// P3 of DOC.md: the same arguments have the same answers, whatever was asked between and whoever asks beside.
func TestNothingElse(t *testing.T) {
	seed, message := api.Seed{14}, []byte("m")
	expected := eddsa.Sign(seed, message)
	answers := make(chan api.Signature)
	for i := range 16 {
		go func() {
			eddsa.Sign(api.Seed{byte(i)}, []byte{byte(i)})
			eddsa.SignWith(seed, api.Mode(i%4), []byte{byte(i)}, message)
			answers <- eddsa.Sign(seed, message)
		}()
	}
	for range 16 {
		if got := <-answers; got != expected {
			t.Fatalf("Sign again: %x", got)
		}
	}
}
