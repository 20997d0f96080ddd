package keyfile_test

import (
	"bytes"
	"crypto/pbkdf2"
	"crypto/sha512"
	"encoding/hex"
	"math"
	"slices"
	"testing"

	"rime/api"
	"rime/drbg"
	"rime/keyfile"
)

func wantDerive(t *testing.T, pass []byte, salt []byte, rounds int, size int, want []byte) {
	t.Helper()
	got, errno := keyfile.Derive(pass, salt, rounds, size)
	if errno != api.OK || !bytes.Equal(got, want) {
		t.Fatalf("Derive(%x, %x, %d, %d): %x %v, not %x", pass, salt, rounds, size, got, errno, want)
	}
}

// Example 1, and other keys of the same passphrase that are known.
func TestDeriveKnown(t *testing.T) {
	for rounds, want := range map[int]string{
		1:    "867f70cf1ade02cff3752599a3a53dc4af34c7a669815ae5d513554e1c8cf252c02d470a285a0501bad999bfe943c08f050235d7d68b1da55e63f73b60a57fce",
		2:    "e1d9c16aa681708a45f5c7c4e215ceb66e011a2e9f0040713f18aefdb866d53cf76cab2868a39b9f7840edce4fef5a82be67335c77a6068e04112754f27ccf4e",
		4096: "d197b1b33db0143e018b12f3d1d1479e6cdebdcc97c5c0f87f6902e072f457b5143f30602641b3d55cd335988cb36b84376060ecd532e039b742a239434af2d5",
	} {
		b, _ := hex.DecodeString(want)
		wantDerive(t, []byte("password"), []byte("salt"), rounds, 64, b)
	}
}

// P14.1, at drawn inputs: passphrases at the ends of a block, sizes at the ends of pieces.
func TestDeriveDrawn(t *testing.T) {
	r := drawn(1)
	for range 400 {
		pass, salt := drawnBytes(r, pick(r, 0, 1, r.Intn(100), 127, 128, 129, 128+r.Intn(400))), upTo(r, 200)
		rounds, size := pick(r, 1, 2, 1+r.Intn(20)), pick(r, 0, 1, 63, 64, 65, 128, r.Intn(700))
		wantDerive(t, pass, salt, rounds, size, modelDerive(pass, salt, rounds, size))
		library, err := pbkdf2.Key(sha512.New, string(pass), salt, rounds, size)
		if err == nil {
			wantDerive(t, pass, salt, rounds, size, library)
		}
	}
}

func TestDeriveMost(t *testing.T) {
	pass, salt := []byte("pass"), []byte("salt")
	wantDerive(t, pass, salt, 2, api.MaxExpand, modelDerive(pass, salt, 2, api.MaxExpand))
	wantDerive(t, pass, salt, 1, api.MaxExpand-1, modelDerive(pass, salt, 1, api.MaxExpand-1))
	wantDerive(t, pass, salt, api.MaxRounds, 65, modelDerive(pass, salt, api.MaxRounds, 65))
	wantDerive(t, nil, nil, 1, 0, nil)
	wantDerive(t, nil, nil, 1, 1, modelDerive(nil, nil, 1, 1))
	wantDerive(t, []byte{}, []byte{}, 3, 64, modelDerive(nil, nil, 3, 64))
}

// A long passphrase is gone through once: else this takes minutes.
func TestDeriveLong(t *testing.T) {
	pass := make([]byte, 1<<24)
	digest := sha512.Sum512(pass)
	wantDerive(t, pass, []byte("salt"), api.MaxRounds, 64, modelDerive(digest[:], []byte("salt"), api.MaxRounds, 64))
}

func TestDeriveWrong(t *testing.T) {
	want := func(rounds, size int, why api.Errno) {
		t.Helper()
		if b, errno := keyfile.Derive([]byte("password"), []byte("salt"), rounds, size); errno != why || len(b) != 0 {
			t.Fatalf("Derive, %d rounds, %d bytes: %x %v, not %v", rounds, size, b, errno, why)
		}
	}
	for _, rounds := range []int{math.MinInt, -1, 0, api.MaxRounds + 1, math.MaxInt} {
		for _, size := range []int{math.MinInt, -1, 0, 64, api.MaxExpand, api.MaxExpand + 1, math.MaxInt} {
			want(rounds, size, api.ErrArg)
		}
	}
	for _, rounds := range []int{1, 2, api.MaxRounds} {
		want(rounds, math.MinInt, api.ErrArg)
		want(rounds, -1, api.ErrArg)
		want(rounds, api.MaxExpand+1, api.ErrMuch)
		want(rounds, math.MaxInt, api.ErrMuch)
	}
}

// P14.8.
func TestDeriveBeginning(t *testing.T) {
	r := drawn(2)
	for range 100 {
		pass, salt, rounds, size := upTo(r, 200), upTo(r, 100), 1+r.Intn(4), r.Intn(400)
		greater, _ := keyfile.Derive(pass, salt, rounds, size+r.Intn(200))
		wantDerive(t, pass, salt, rounds, size, greater[:size])
	}
}

func TestDeriveOfOneRound(t *testing.T) {
	r := drawn(3)
	for range 50 {
		pass, salt := upTo(r, 200), upTo(r, 100)
		var macs []byte
		for i := range byte(4) {
			mac := drbg.MAC(pass, salt, []byte{0, 0, 0, i + 1})
			macs = slices.Concat(macs, mac[:])
		}
		wantDerive(t, pass, salt, 1, len(macs), macs)
	}
}
