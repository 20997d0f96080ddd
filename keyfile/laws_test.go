package keyfile_test

import (
	"bytes"
	"crypto/sha512"
	"slices"
	"sync"
	"testing"

	"rime/api"
	"rime/keyfile"
	"rime/seal"
	"rime/vss"
)

// P14.6: there and back.

func TestArmourThereAndBack(t *testing.T) {
	r := drawn(50)
	for range 1000 {
		label, headers, b := drawnLabel(r), drawnHeaders(r, 16), drawnBody(r)
		text, errno := keyfile.Armour(label, headers, b)
		if errno != api.OK {
			t.Fatalf("Armour(%q, %q, %x): %v", label, headers, b, errno)
		}
		l, hs, bs, errno, line := keyfile.Parse(text)
		if l != label || !slices.Equal(hs, headers) || !bytes.Equal(bs, b) || errno != api.OK || line != 0 {
			t.Fatalf("Parse(%q): %q %q %x %v in line %d", text, l, hs, bs, errno, line)
		}
	}
}

// What Parse takes, though it was turned, is the armour of what it tells.
func TestParseTakesArmours(t *testing.T) {
	taken := 0
	for _, text := range samples() {
		for at := range len(text) {
			for c := range 256 {
				other := text[:at] + string([]byte{byte(c)}) + text[at+1:]
				label, headers, b, errno, _ := keyfile.Parse(other)
				if errno != api.OK {
					continue
				}
				taken++
				if again, errno := keyfile.Armour(label, headers, b); errno != api.OK || again != other {
					t.Fatalf("Parse takes %q, which is not %q: %v", other, again, errno)
				}
			}
		}
	}
	if taken < 1000 {
		t.Fatalf("only %d were taken", taken)
	}
}

func TestPackThereAndBack(t *testing.T) {
	r := drawn(51)
	for range 100 {
		key, h := drawnShare(r), drawnHow(r)
		text, err := h.pack(key)
		if err != nil {
			t.Fatal(err)
		}
		wantUnpack(t, text, h.pass, key)
	}
}

// What a dealer gives goes there and back, of every participant.
func TestDealThereAndBack(t *testing.T) {
	deal, _ := vss.Deal([]api.Scalar{small(5), small(7)}, []int{1, 2, 255})
	shares, keys, errno := vss.Keys(deal)
	if errno != api.OK {
		t.Fatal(errno)
	}
	for _, key := range shares {
		h := drawnHow(drawn(int64(key.ID)))
		text, err := h.pack(key)
		if err != nil {
			t.Fatal(err)
		}
		wantUnpack(t, text, h.pass, key)
	}
	wantGroup(t, keys)
}

// P14.7: another passphrase, or another header, does not open, unless seal.Open with its key does.
func TestAnotherPassphrase(t *testing.T) {
	r := drawn(52)
	for range 100 {
		key, h := drawnShare(r), drawnHow(r)
		text, _ := h.pack(key)
		for _, pass := range [][]byte{upTo(r, 100), append(slices.Clone(h.pass), 1), append([]byte{0}, h.pass...), nil} {
			other := h
			other.pass = pass
			derived, _ := keyfile.Derive(pass, h.salt[:], h.rounds, 32)
			_, _, sealed, _, _ := keyfile.Parse(text)
			if _, errno := seal.Open(api.Key(derived), h.nonce, []byte(openOf(h)), sealed); errno == api.OK {
				wantUnpack(t, text, pass, key)
				continue
			}
			wantUnpackTrouble(t, text, pass, api.ErrPass, place{"pass", 0})
		}
	}
}

func openOf(h how) string {
	open := ""
	for _, header := range h.headers() {
		open += header.Name + ": " + header.Value + "\n"
	}
	return open
}

// Passphrases for which MAC is the same have the same keys: with bytes 0 behind, or a long one and its digest.
func TestSamePassphrase(t *testing.T) {
	key := shareWith(small(9))
	for _, pass := range [][]byte{{}, []byte("pass"), make([]byte, 100), drawnBytes(drawn(53), 127)} {
		text, _ := how{pass: pass, rounds: 2}.pack(key)
		wantUnpack(t, text, append(slices.Clone(pass), 0), key)
		wantUnpack(t, text, append(slices.Clone(pass), make([]byte, 128-len(pass))...), key)
		wantUnpackTrouble(t, text, append(slices.Clone(pass), make([]byte, 129-len(pass))...), api.ErrPass, place{"pass", 0})
	}
	long := drawnBytes(drawn(54), 129)
	digest := sha512.Sum512(long)
	text, _ := how{pass: long, rounds: 2}.pack(key)
	wantUnpack(t, text, digest[:], key)
	wantUnpackTrouble(t, text, long[:128], api.ErrPass, place{"pass", 0})
}

func TestTurnedHeader(t *testing.T) {
	r := drawn(55)
	for range 10 {
		key, h := drawnShare(r), drawnHow(r)
		sealed := h.sealed(bodyOf(key))
		turn := func(change func(*how)) {
			other := h
			change(&other)
			wantUnpackTrouble(t, modelArmour(shareLabel, other.headers(), sealed), h.pass, api.ErrPass, place{"pass", 0})
		}
		for i := range h.salt {
			turn(func(o *how) { o.salt[i] ^= 1 << r.Intn(8) })
		}
		for i := range h.nonce {
			turn(func(o *how) { o.nonce[i] ^= 1 << r.Intn(8) })
		}
		turn(func(o *how) { o.rounds++ })
		turn(func(o *how) { o.rounds += 9 })
	}
}

// Sealed with the key of the headers, but with something else open beside it.
func TestHeadersAreOpen(t *testing.T) {
	h := how{pass: []byte("pass"), rounds: 1}
	key := api.Key(modelDerive(h.pass, h.salt[:], 1, 32))
	body := bodyOf(shareWith(small(9)))
	for _, open := range []string{"", "Rounds: 1\n", openOf(h)[:len(openOf(h))-1], openOf(h) + "\n", "Rounds: 2" + openOf(h)[9:]} {
		text := modelArmour(shareLabel, h.headers(), seal.Seal(key, h.nonce, []byte(open), body))
		wantUnpackTrouble(t, text, h.pass, api.ErrPass, place{"pass", 0})
	}
	wantUnpack(t, modelArmour(shareLabel, h.headers(), seal.Seal(key, h.nonce, []byte(openOf(h)), body)), h.pass, shareWith(small(9)))
}

// P14.9: what is handed in is not changed, and its spare room not either; what is answered shares nothing.

func TestDeriveMemory(t *testing.T) {
	r := drawn(56)
	for _, n := range []int{0, 5, 128, 129, 300} {
		pass, salt := cut(drawnBytes(r, n)), cut(drawnBytes(r, n))
		p, s := slices.Clone(pass[:cap(pass)]), slices.Clone(salt[:cap(salt)])
		for _, size := range []int{0, 1, 64, 100} {
			want := modelDerive(pass, salt, 2, size)
			one, _ := keyfile.Derive(pass, salt, 2, size)
			two, _ := keyfile.Derive(pass, salt, 2, size)
			spoil(one)
			if !bytes.Equal(two, want) || !bytes.Equal(pass[:cap(pass)], p) || !bytes.Equal(salt[:cap(salt)], s) {
				t.Fatalf("Derive of %d bytes shares memory", n)
			}
		}
		other, _ := keyfile.Derive(pass, salt, 2, 64)
		want := slices.Clone(other)
		spoil(pass)
		spoil(salt)
		if !bytes.Equal(other, want) {
			t.Fatalf("Derive of %d bytes keeps what it was given", n)
		}
	}
}

func TestArmourMemory(t *testing.T) {
	r := drawn(57)
	for range 100 {
		headers, b := drawnHeaders(r, 5), cut(drawnBody(r))
		headers = append(headers, sixteen()...)[:len(headers)]
		all, room := slices.Clone(headers[:cap(headers)]), slices.Clone(b[:cap(b)])
		want := modelArmour("A", headers, b)
		text, errno := keyfile.Armour("A", headers, b)
		if errno != api.OK || !slices.Equal(headers[:cap(headers)], all) || !bytes.Equal(b[:cap(b)], room) {
			t.Fatalf("Armour changes what it is given, or %v", errno)
		}
		spoil(b)
		for i := range headers {
			headers[i] = api.Header{}
		}
		if text != want {
			t.Fatalf("Armour: %q, not %q", text, want)
		}
	}
}

func TestParseMemory(t *testing.T) {
	r := drawn(58)
	for range 100 {
		text := modelArmour("A", drawnHeaders(r, 16), drawnBody(r))
		_, headers, b, _, _ := keyfile.Parse(text)
		spoil(b)
		headers = headers[:cap(headers)]
		for i := range headers {
			headers[i] = api.Header{Name: "spoilt"}
		}
		wantParse(t, text)
	}
}

func TestPackMemory(t *testing.T) {
	for _, n := range []int{0, 4, 128, 200} {
		h := how{pass: cut(drawnBytes(drawn(59), n)), rounds: 1}
		room := slices.Clone(h.pass[:cap(h.pass)])
		key := shareWith(small(9))
		text, err := h.pack(key)
		if err != nil || text != h.text(bodyOf(key)) {
			t.Fatalf("Pack: %q %v", text, err)
		}
		wantUnpack(t, text, h.pass, key)
		if !bytes.Equal(h.pass[:cap(h.pass)], room) {
			t.Fatal("the passphrase was changed")
		}
	}
}

func TestGroupMemory(t *testing.T) {
	keys := group()
	keys.Publics = append(keys.Publics, keys.Publics...)[:3]
	room := slices.Clone(keys.Publics[:cap(keys.Publics)])
	text, err := keyfile.PackGroup(keys)
	if err != nil || !slices.Equal(keys.Publics[:cap(keys.Publics)], room) {
		t.Fatalf("PackGroup changes what it is given, or %v", err)
	}
	got, err := keyfile.UnpackGroup(text)
	if err != nil || !sameKeys(got, group()) {
		t.Fatalf("UnpackGroup: %v %v", got, err)
	}
	all := got.Publics[:cap(got.Publics)]
	for i := range all {
		all[i] = api.PublicShare{}
	}
	if again, err := keyfile.UnpackGroup(text); err != nil || !sameKeys(again, group()) || !sameKeys(keys, group()) {
		t.Fatalf("UnpackGroup shares memory: %v %v", again, err)
	}
}

// Errors are new, too: who changes one changes no other.
func TestTroubleMemory(t *testing.T) {
	faults := []func() error{
		func() error { _, err := keyfile.Unpack("", nil); return err },
		func() error { _, err := keyfile.Pack(api.KeyShare{}, nil, api.Random{}, api.Nonce{}, 0); return err },
		func() error { _, err := keyfile.PackGroup(api.GroupKeys{}); return err },
		func() error { _, err := keyfile.UnpackGroup(modelArmour(groupLabel, sixteen(), nil)); return err },
	}
	for _, fault := range faults {
		one := fault()
		want := one.Error()
		x := one.(*keyfile.Trouble)
		if inner, ok := x.Err.(*keyfile.Trouble); ok {
			*inner = keyfile.Trouble{}
		}
		*x = keyfile.Trouble{}
		wantText(t, fault(), want)
	}
}

// P3: side by side the calls answer the same.
func TestSideBySide(t *testing.T) {
	r := drawn(60)
	var all sync.WaitGroup
	for range 8 {
		key, h, b := drawnShare(r), drawnHow(r), drawnBody(r)
		all.Go(func() {
			for range 10 {
				text, err := h.pack(key)
				if err != nil || text != h.text(bodyOf(key)) {
					t.Errorf("Pack: %q %v", text, err)
				}
				if got, err := keyfile.Unpack(text, h.pass); err != nil || got != key {
					t.Errorf("Unpack: %v %v", got, err)
				}
				if text, errno := keyfile.Armour("A", h.headers(), b); errno != api.OK || text != modelArmour("A", h.headers(), b) {
					t.Errorf("Armour: %q %v", text, errno)
				}
			}
		})
	}
	all.Wait()
}

// Texts that another program wrote after the chapter.
const (
	otherShare = `-----BEGIN RIME KEY SHARE-----
Rounds: 10
Salt: 000102030405060708090a0b0c0d0e0f101112131415161718191a1b1c1d1e1f
Nonce: 6465666768696a6b6c6d6e6f

VxZVjNTUjIRxxHet3q/6L8J92NB+nPJAdePBlEekMukETMaZiJHBler1SHuuWah9
bVxkng6unRpDielE2aKMCm9alkOjzyUEsWVFrWZezXE0/UzUkrUlc43y3vJusqpC
HxHbaXeNDJy/Jwmoc5UVQ98k
=mzBf
-----END RIME KEY SHARE-----
`
	otherGroup = `-----BEGIN RIME GROUP KEYS-----

Au3IdtaDH9IQXQtDicouKDFmRpKJFG4s4G+u/piyJUjfAwH55C0u3IHSM2eWc1K0
fkhWuCV4Y05sHecigM6LYM5wwAK5VR1pAmH+gzBfQz+CMBgu9FzW3bZbfCJHQ1rZ
k1oYPwMMGvqhr+nfEbA+1reAk3DJ5daRTaCAoenJz7Dq6Odm7A==
=yXuD
-----END RIME GROUP KEYS-----
`
)

func TestAnotherProgram(t *testing.T) {
	h := how{pass: []byte("a passphrase"), rounds: 10}
	for i := range h.salt {
		h.salt[i] = byte(i)
	}
	for i := range h.nonce {
		h.nonce[i] = byte(100 + i)
	}
	wantPack(t, shareWith(small(9)), h, otherShare)
	wantUnpack(t, otherShare, h.pass, shareWith(small(9)))
	deal, _ := vss.Deal([]api.Scalar{small(5), small(7)}, []int{1, 2, 3})
	_, keys, _ := vss.Keys(deal)
	if text, err := keyfile.PackGroup(keys); err != nil || text != otherGroup {
		t.Fatalf("PackGroup: %q %v", text, err)
	}
}
