package drbg_test

import (
	"bytes"
	"crypto/hkdf"
	"crypto/sha512"
	"math"
	"slices"
	"testing"

	"rime/api"
	"rime/drbg"
)

func TestExamples(t *testing.T) {
	fox := drbg.MAC([]byte("key"), []byte("The quick brown fox jumps over the lazy dog"))
	if !bytes.HasPrefix(fox[:], unhex("b42af09057bac1e2")) {
		t.Fatalf("MAC: %x", fox)
	}
	if g, errno := drbg.New(make([]byte, 31), nil, nil); g != nil || errno != api.ErrEntropy {
		t.Fatalf("New of 31 bytes: %v %v", g, errno)
	}
	g, _ := drbg.New(make([]byte, 32), nil, nil)
	if b, errno := g.Draw(65537, nil); len(b) != 0 || errno != api.ErrMuch {
		t.Fatalf("Draw(65537): %d bytes, %v", len(b), errno)
	}
	if b, errno := drbg.Expand([]byte("k"), nil, 16321); len(b) != 0 || errno != api.ErrMuch {
		t.Fatalf("Expand to 16321: %d bytes, %v", len(b), errno)
	}
	tape := drbg.NewTape([]api.Random{{7}})
	if got, errno := tape.Random(); got != (api.Random{7}) || errno != api.OK {
		t.Fatalf("the one of a tape: %x %v", got, errno)
	}
	if got, errno := tape.Random(); got != (api.Random{}) || errno != api.ErrEnd {
		t.Fatalf("behind it: %x %v", got, errno)
	}
}

// P11.1: MAC, Extract, Expand.

// RFC 4231: its test cases 1 to 4, 6 and 7.
func TestMACOfRFC4231(t *testing.T) {
	for _, c := range []struct{ key, text, digest []byte }{
		{bytes.Repeat([]byte{0x0b}, 20), []byte("Hi There"), unhex("87aa7cdea5ef619d4ff0b4241a1d6cb02379f4e2ce4ec2787ad0b30545e17cdedaa833b7d6b8a702038b274eaea3f4e4be9d914eeb61f1702e696c203a126854")},
		{[]byte("Jefe"), []byte("what do ya want for nothing?"), unhex("164b7a7bfcf819e2e395fbe73b56e0a387bd64222e831fd610270cd7ea2505549758bf75c05a994a6d034f65f8f0e6fdcaeab1a34d4a6b4b636e070a38bce737")},
		{bytes.Repeat([]byte{0xaa}, 20), bytes.Repeat([]byte{0xdd}, 50), unhex("fa73b0089d56a284efb0f0756c890be9b1b5dbdd8ee81a3655f83e33b2279d39bf3e848279a722c806b485a47e67c807b946a337bee8942674278859e13292fb")},
		{unhex("0102030405060708090a0b0c0d0e0f10111213141516171819"), bytes.Repeat([]byte{0xcd}, 50), unhex("b0ba465637458c6990e5a8c5f61d4af7e576d97ff94b872de76f8050361ee3dba91ca5c11aa25eb4d679275cc5788063a5f19741120c4f2de2adebeb10a298dd")},
		{bytes.Repeat([]byte{0xaa}, 131), []byte("Test Using Larger Than Block-Size Key - Hash Key First"), unhex("80b24263c7c1a3ebb71493c1dd7be8b49b46d1f41b4aeec1121b013783f8f3526b56d037e05f2598bd0fd2215d6a1e5295e64f73f63f0aec8b915a985d786598")},
		{bytes.Repeat([]byte{0xaa}, 131), []byte("This is a test using a larger than block-size key and a larger than block-size data. The key needs to be hashed before being used by the HMAC algorithm."), unhex("e37b6a775dc87dbaa4dfa9f96e5e3ffddebd71f8867289865df5a32d20cdc944b6022cac3c4982b10d5eeb55c3e4de15134676fb6de0446065c97440fa8c6a58")},
	} {
		wantDigest(t, "MAC", drbg.MAC(c.key, c.text), api.Digest(c.digest), c.key)
	}
}

func TestMACOfAllKeyLengths(t *testing.T) {
	r := drawn(1)
	for n := range 3*128 + 2 {
		key := drawnBytes(r, n)
		for _, length := range []int{0, 1, 63, 64, 111, 112, 127, 128, 129, 500} {
			text := drawnBytes(r, length)
			wantDigest(t, "MAC", drbg.MAC(key, text), hmacOf(key, text), n, length)
			wantDigest(t, "Extract", drbg.Extract(key, text), hmacOf(key, text), n, length)
		}
	}
	long := drawnBytes(r, 100000)
	wantDigest(t, "MAC", drbg.MAC(long, long), hmacOf(long, long), "long ones")
}

func TestMACOfNothing(t *testing.T) {
	none := hmacOf(nil, nil)
	wantDigest(t, "MAC", drbg.MAC(nil), none, "no parts")
	wantDigest(t, "MAC", drbg.MAC([]byte{}, nil, []byte{}), none, "empty parts")
	wantDigest(t, "MAC", drbg.MAC(nil, [][]byte{}...), none, "an empty list")
	wantDigest(t, "Extract", drbg.Extract(nil, nil), none, "nothing")
	wantDigest(t, "Extract", drbg.Extract([]byte("salt"), []byte("key")), hmacOf([]byte("salt"), []byte("key")), "salt and key")
}

func TestEveryBitOfAKeyCounts(t *testing.T) {
	r := drawn(2)
	for _, n := range []int{1, 64, 127, 128, 129, 200} {
		key := drawnBytes(r, n)
		before := drbg.MAC(key, []byte("text"))
		for bit := range 8 * n {
			key[bit/8] ^= 1 << (bit % 8)
			got := drbg.MAC(key, []byte("text"))
			wantDigest(t, "MAC", got, hmacOf(key, []byte("text")), n, bit)
			if got == before {
				t.Fatalf("bit %d of %d bytes does not count", bit, n)
			}
			key[bit/8] ^= 1 << (bit % 8)
		}
	}
}

// expanded is what the library expands to.
func expanded(t *testing.T, key, info []byte, n int) []byte {
	t.Helper()
	if n == 0 {
		return nil
	}
	b, err := hkdf.Expand(sha512.New, key, string(info), n)
	if err != nil {
		t.Fatal(err)
	}
	return b
}

func TestExpand(t *testing.T) {
	r := drawn(3)
	sizes := []int{191, 192, 193, 255, 256, 257, 1000, 64 * 128, 64*254 - 1, 64 * 254, 64*254 + 1, 16319, 16320}
	for n := range 140 {
		sizes = append(sizes, n)
	}
	for _, n := range sizes {
		for _, length := range []int{0, 1, 64, 128, 129, 300} {
			key, info := drawnBytes(r, length), upTo(r, 200)
			if got := wantExpanded(t, key, info, n); !bytes.Equal(got, expanded(t, key, info, n)) {
				t.Fatalf("Expand of %x and %x to %d: %x", key, info, n, cut(got))
			}
		}
	}
}

func TestExpandOfAnExtract(t *testing.T) {
	r := drawn(4)
	for range 50 {
		salt, key, info := upTo(r, 300), drawnBytes(r, r.Intn(300)), upTo(r, 100)
		n := 1 + r.Intn(500)
		expected, err := hkdf.Key(sha512.New, key, salt, string(info), n)
		if err != nil {
			t.Fatal(err)
		}
		drawnOut := drbg.Extract(salt, key)
		if got := wantExpanded(t, drawnOut[:], info, n); !bytes.Equal(got, expected) {
			t.Fatalf("Expand of Extract(%x, %x): %x", salt, key, got)
		}
	}
}

func TestExpandToNothingOrTooMuch(t *testing.T) {
	for _, key := range [][]byte{nil, {}, []byte("k"), make([]byte, 200)} {
		for _, n := range []int{-1, -2, -64, -16320, math.MinInt32, math.MinInt, math.MinInt + 1} {
			if b, errno := drbg.Expand(key, nil, n); len(b) != 0 || errno != api.ErrArg {
				t.Fatalf("Expand to %d: %d bytes, %v", n, len(b), errno)
			}
		}
		for _, n := range []int{16321, 16384, 65536, math.MaxInt32, 1<<32 + 1, math.MaxInt} {
			if b, errno := drbg.Expand(key, nil, n); len(b) != 0 || errno != api.ErrMuch {
				t.Fatalf("Expand to %d: %d bytes, %v", n, len(b), errno)
			}
		}
		wantExpanded(t, key, nil, 0)
		wantExpanded(t, key, nil, 16320)
	}
}

// Of nil and of empty lists the answers are the same.
func TestExpandOfNil(t *testing.T) {
	if !slices.Equal(wantExpanded(t, nil, nil, 100), wantExpanded(t, []byte{}, []byte{}, 100)) {
		t.Fatal("Expand of nil and of empty ones")
	}
}
