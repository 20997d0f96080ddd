package keyfile_test

import (
	"fmt"
	"math"
	"math/big"
	"slices"
	"strings"
	"testing"

	"rime/api"
	"rime/edwards"
	"rime/keyfile"
)

func wantPack(t *testing.T, key api.KeyShare, h how, want string) {
	t.Helper()
	if text, err := h.pack(key); err != nil || text != want {
		t.Fatalf("Pack(%v, %v): %q %v, not %q", key, h, text, err, want)
	}
}

func wantPackTrouble(t *testing.T, key api.KeyShare, rounds int, why api.Errno, step string) {
	t.Helper()
	text, err := keyfile.Pack(key, []byte("pass"), api.Random{}, api.Nonce{}, rounds)
	if text != "" {
		t.Fatalf("Pack(%v), %d rounds: %q beside %v", key, rounds, text, err)
	}
	wantTrouble(t, fmt.Sprintf("Pack(%v), %d rounds", key, rounds), err, why, place{step, 0})
}

// keysThatMayNotBe: each is wrong in one thing.
func keysThatMayNotBe() map[string]api.KeyShare {
	out := map[string]api.KeyShare{"no key": {}}
	add := func(what string, change func(*api.KeyShare)) {
		key := shareWith(small(9))
		change(&key)
		out[what] = key
	}
	for _, id := range []int{math.MinInt, -1, 0, 256, 257, 259, math.MaxInt} {
		add(fmt.Sprint("ID ", id), func(k *api.KeyShare) { k.ID = id })
	}
	for _, threshold := range []int{math.MinInt, -1, 0, 1, 256, 258, math.MaxInt} {
		add(fmt.Sprint("Threshold ", threshold), func(k *api.KeyShare) { k.Threshold = threshold })
	}
	identity := edwards.Identity()
	add("Secret 0", func(k *api.KeyShare) { k.Secret = api.Scalar{} })
	add("Secret 0, Public the identity", func(k *api.KeyShare) { k.Secret, k.Public = api.Scalar{}, identity })
	add("Secret L", func(k *api.KeyShare) { k.Secret, k.Public = scalarOf(order()), identity })
	add("Secret above L", func(k *api.KeyShare) { k.Secret = scalarOf(new(big.Int).Add(order(), big.NewInt(9))) })
	add("Secret 2^256 - 1", func(k *api.KeyShare) {
		k.Secret = api.Scalar(slices.Repeat([]byte{0xff}, 32))
		k.Public = pointOf(k.Secret)
	})
	add("another Secret", func(k *api.KeyShare) { k.Secret = small(8) })
	add("another Public", func(k *api.KeyShare) { k.Public = pointOf(small(8)) })
	add("Public turned", func(k *api.KeyShare) { k.Public[31] ^= 0x80 })
	add("no Public", func(k *api.KeyShare) { k.Public = api.Element{} })
	add("Group the identity", func(k *api.KeyShare) { k.Group = identity })
	add("Group of small order", func(k *api.KeyShare) { k.Group = api.Element{} })
	add("Group no point", func(k *api.KeyShare) { k.Group = api.Element{2} })
	add("Group not canonical", func(k *api.KeyShare) { k.Group = api.Element(slices.Repeat([]byte{0xff}, 32)) })
	for i, e := range edwards.Order8() {
		mixed, _ := edwards.Add(pointOf(small(5)), e)
		if mixed != pointOf(small(5)) {
			add(fmt.Sprint("Group outside the subgroup ", i), func(k *api.KeyShare) { k.Group = mixed })
		}
	}
	return out
}

// keysThatMayBe are at the ends of what may be.
func keysThatMayBe() []api.KeyShare {
	out := []api.KeyShare{shareWith(small(1)), shareWith(lessThanOrder(1)), shareWith(small(9)), shareWith(lessThanOrder(2))}
	out[0].ID, out[0].Threshold = 1, api.MinSigners
	out[1].ID, out[1].Threshold = api.MaxID, api.MaxID
	out[2].ID, out[2].Threshold = 1, api.MaxID
	out[3].Group = out[3].Public
	return out
}

// P14.3, each byte of the text.
func TestPackDrawn(t *testing.T) {
	r := drawn(30)
	for range 60 {
		key, h := drawnShare(r), drawnHow(r)
		wantPack(t, key, h, h.text(bodyOf(key)))
		wantUnpack(t, h.text(bodyOf(key)), h.pass, key)
	}
	for _, key := range keysThatMayBe() {
		for _, rounds := range []int{1, 2, 9, 10, 99, 100, 1000, api.MaxRounds} {
			h := how{pass: []byte("pass"), rounds: rounds}
			wantPack(t, key, h, h.text(bodyOf(key)))
			wantUnpack(t, h.text(bodyOf(key)), h.pass, key)
		}
	}
}

func TestPackLines(t *testing.T) {
	h := how{pass: []byte("pass"), salt: api.Random{1, 0xab}, nonce: api.Nonce{2, 0xcd}, rounds: 3}
	text, err := h.pack(shareWith(small(9)))
	if err != nil {
		t.Fatal(err)
	}
	lines := strings.Split(text, "\n")
	want := []string{"-----BEGIN RIME KEY SHARE-----", "Rounds: 3", "Salt: 01ab" + strings.Repeat("0", 60), "Nonce: 02cd" + strings.Repeat("0", 20), ""}
	if !slices.Equal(lines[:5], want) || lines[len(lines)-2] != "-----END RIME KEY SHARE-----" || len(lines) != 11 {
		t.Fatalf("%q", lines)
	}
}

func TestPackWrong(t *testing.T) {
	for _, rounds := range []int{math.MinInt, -1, 0, api.MaxRounds + 1, math.MaxInt} {
		wantPackTrouble(t, shareWith(small(9)), rounds, api.ErrArg, "rounds")
		wantPackTrouble(t, api.KeyShare{}, rounds, api.ErrArg, "rounds")
	}
	for _, key := range keysThatMayNotBe() {
		wantPackTrouble(t, key, 1, api.ErrKeys, "key")
		wantPackTrouble(t, key, api.MaxRounds, api.ErrKeys, "key")
	}
	_, err := keyfile.Pack(api.KeyShare{}, nil, api.Random{}, api.Nonce{}, 1)
	wantText(t, err, "key: rime 144")
	_, err = keyfile.Pack(api.KeyShare{}, nil, api.Random{}, api.Nonce{}, 0)
	wantText(t, err, "rounds: rime 1")
}

// P14.4: what is no armour, an armour of something else.
func TestUnpackArmour(t *testing.T) {
	h := how{pass: []byte("pass"), rounds: 1}
	text := h.text(bodyOf(shareWith(small(9))))
	for n := range len(text) {
		wantUnpackTrouble(t, text[:n], h.pass, api.ErrArmour, place{"armour", strings.Count(text[:n], "\n") + 1})
	}
	wantUnpackTrouble(t, text+"x", h.pass, api.ErrArmour, place{"armour", 11})
	wantUnpackTrouble(t, strings.Repeat("\n", api.MaxText+1), h.pass, api.ErrText, place{"armour", 0})
	wantUnpackTrouble(t, modelArmour("RIME GROUP KEYS", nil, []byte("x")), h.pass, api.ErrArmour, place{"label", 1})
	wantUnpackTrouble(t, strings.ReplaceAll(text, "RIME KEY SHARE", "RIME KEY SHARES"), h.pass, api.ErrArmour, place{"label", 1})
	wantUnpackTrouble(t, strings.ReplaceAll(text, "RIME KEY SHARE", "A"), h.pass, api.ErrArmour, place{"label", 1})
	for _, label := range []string{shareLabel, "A"} {
		tooMuch := modelArmour(label, h.headers(), make([]byte, mostBytes+1))
		wantUnpackTrouble(t, tooMuch, h.pass, api.ErrArmour, place{"armour", firstTooMuch + 3})
	}
	_, err := keyfile.Unpack("", nil)
	wantText(t, err, "armour in line 1: rime 142")
	_, err = keyfile.Unpack(modelArmour("A", nil, nil), nil)
	wantText(t, err, "label in line 1: rime 142")
	_, err = keyfile.Unpack(strings.Repeat("\n", api.MaxText+1), nil)
	wantText(t, err, "armour: rime 272")
}

func wantHeaderTrouble(t *testing.T, headers []api.Header, name string, line int) {
	t.Helper()
	h := how{pass: []byte("pass"), rounds: 1}
	text := modelArmour(shareLabel, headers, h.sealed(bodyOf(shareWith(small(9)))))
	wantUnpackTrouble(t, text, h.pass, api.ErrArmour, place{"headers", 2}, place{name, line})
}

// P14.4: headers of another form, each in its place.
func TestUnpackHeaderForms(t *testing.T) {
	zeros, short := strings.Repeat("0", 64), strings.Repeat("0", 24)
	bad := [][]string{
		{"", "0", "01", "00", "-1", "+1", "4097", "10000", "99999999999999999999999", "18446744073709551617", "1.0", "0x1", "1_0", "1 1", "a", "x1", strings.Repeat("1", 200)},
		{"", zeros[:63], zeros + "0", zeros[:62], zeros + "00", zeros[:63] + "A", "F" + zeros[:63], zeros[:63] + "g", zeros[:31] + " " + zeros[:32], zeros[:63] + "/", ":" + zeros[:63], "0x" + zeros[:62], "`" + zeros[:63], short},
		{"", short[:23], short + "0", short[:22], short + "00", short[:23] + "A", "F" + short[:23], short[:23] + "g", short[:12] + " " + short[:11], "@" + short[:23], zeros},
	}
	for i, values := range bad {
		for _, value := range values {
			headers := how{rounds: 1}.headers()
			headers[i].Value = value
			wantHeaderTrouble(t, headers, headers[i].Name, i+2)
			if i < 2 { // the first is told, whatever comes behind it
				headers[2].Value = ""
				wantHeaderTrouble(t, headers, headers[i].Name, i+2)
				wantHeaderTrouble(t, headers[:i+1], headers[i].Name, i+2)
			}
		}
	}
}

// Every order, every choice of headers, with doubles left out, as no armour has them.
func TestUnpackHeaderOrders(t *testing.T) {
	right := how{rounds: 1}.headers()
	all := append(slices.Clone(right), api.Header{Name: "Other", Value: "1"}, api.Header{Name: "rounds", Value: "1"})
	var grow func(taken []api.Header)
	grow = func(taken []api.Header) {
		if !slices.Equal(taken, right) {
			name, line := firstWrong(taken, right)
			wantHeaderTrouble(t, taken, name, line)
		}
		for _, h := range all {
			if !slices.Contains(taken, h) {
				grow(append(slices.Clone(taken), h))
			}
		}
	}
	grow(nil)
	_, err := keyfile.Unpack(modelArmour(shareLabel, right[:1], nil), nil)
	wantText(t, err, "headers in line 2: Salt in line 3: rime 142")
	_, err = keyfile.Unpack(modelArmour(shareLabel, append(slices.Clone(right), api.Header{Name: "X"}), nil), nil)
	wantText(t, err, "headers in line 2: X in line 5: rime 142")
	wantHeaderTrouble(t, append(slices.Clone(right), sixteen()[:13]...), "a", 5)
}

func firstWrong(taken []api.Header, right []api.Header) (string, int) {
	for i, h := range taken {
		if i >= len(right) || h != right[i] {
			return h.Name, i + 2
		}
	}
	return right[len(taken)].Name, len(taken) + 2
}

// P14.4: what does not open, whatever seal.Open says of it.
func TestUnpackPass(t *testing.T) {
	h := how{pass: []byte("pass"), salt: api.Random{1}, nonce: api.Nonce{2}, rounds: 2}
	key := shareWith(small(9))
	sealed := h.sealed(bodyOf(key))
	wantUnpack(t, modelArmour(shareLabel, h.headers(), sealed), h.pass, key)
	for n := range len(sealed) {
		wantUnpackTrouble(t, modelArmour(shareLabel, h.headers(), sealed[:n]), h.pass, api.ErrPass, place{"pass", 0})
		other := slices.Clone(sealed)
		other[n] ^= 1 << (n % 8)
		wantUnpackTrouble(t, modelArmour(shareLabel, h.headers(), other), h.pass, api.ErrPass, place{"pass", 0})
	}
	wantUnpackTrouble(t, modelArmour(shareLabel, h.headers(), append(sealed, 0)), h.pass, api.ErrPass, place{"pass", 0})
	_, err := keyfile.Unpack(h.text(bodyOf(key)), []byte("word"))
	wantText(t, err, "pass: rime 143")
}

// P14.4: what opens, but is no key share.
func TestUnpackBody(t *testing.T) {
	h := how{pass: []byte("pass"), rounds: 1}
	body := bodyOf(shareWith(small(9)))
	for n := range len(body) {
		wantUnpackTrouble(t, h.text(body[:n]), h.pass, api.ErrKeys, place{"body", 0})
	}
	for _, more := range []int{1, 2, 98, 1000} {
		wantUnpackTrouble(t, h.text(append(slices.Clone(body), make([]byte, more)...)), h.pass, api.ErrKeys, place{"body", 0})
	}
	for what, key := range keysThatMayNotBe() {
		if strings.HasPrefix(what, "ID") && key.ID != 0 || strings.HasPrefix(what, "Threshold") && key.Threshold&0xff > 1 {
			continue // no byte says so
		}
		wantUnpackTrouble(t, h.text(bodyOf(key)), h.pass, api.ErrKeys, place{"body", 0})
	}
	for i, b := range body {
		other := slices.Clone(body)
		other[i] = b ^ 0x40
		if i < 2 {
			continue // another ID, another Threshold: they may be
		}
		if i >= 66 {
			if _, errno := edwards.Decode(other[66:]); errno == api.OK {
				continue // another group
			}
		}
		wantUnpackTrouble(t, h.text(other), h.pass, api.ErrKeys, place{"body", 0})
	}
	_, err := keyfile.Unpack(h.text(nil), h.pass)
	wantText(t, err, "body: rime 144")
}

// The order of faults: each of them hides those behind it.
func TestUnpackOrder(t *testing.T) {
	h := how{pass: []byte("pass"), rounds: 1}
	sealed := h.sealed(nil)
	wrong := []api.Header{{Name: "X"}}
	text := modelArmour("A", wrong, sealed)
	wantUnpackTrouble(t, text[1:], nil, api.ErrArmour, place{"armour", 1})
	wantUnpackTrouble(t, text, nil, api.ErrArmour, place{"label", 1})
	wantUnpackTrouble(t, modelArmour(shareLabel, wrong, sealed), nil, api.ErrArmour, place{"headers", 2}, place{"X", 2})
	wantUnpackTrouble(t, modelArmour(shareLabel, h.headers(), sealed), nil, api.ErrPass, place{"pass", 0})
	wantUnpackTrouble(t, modelArmour(shareLabel, h.headers(), sealed), h.pass, api.ErrKeys, place{"body", 0})
}
