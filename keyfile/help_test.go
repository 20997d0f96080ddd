package keyfile_test

import (
	"bytes"
	"crypto/hmac"
	"crypto/sha512"
	"encoding/base64"
	"encoding/binary"
	"encoding/hex"
	"errors"
	"math/big"
	"math/rand"
	"regexp"
	"slices"
	"strconv"
	"strings"
	"sync"
	"testing"

	"rime/api"
	"rime/edwards"
	"rime/keyfile"
	"rime/seal"
)

// The tests hold the package against keys, armours and a reader that are told anew here out of the chapter's words, by the library's HMAC, SHA-512, base64 and regular expressions.

func drawn(seed int64) *rand.Rand { return rand.New(rand.NewSource(seed)) }

func drawnBytes(r *rand.Rand, n int) []byte {
	b := make([]byte, n)
	r.Read(b)
	return b
}

func upTo(r *rand.Rand, n int) []byte { return drawnBytes(r, r.Intn(n+1)) }

// pick is one of the values.
func pick[T any](r *rand.Rand, values ...T) T { return values[r.Intn(len(values))] }

// drawnText has so many of the letters.
func drawnText(r *rand.Rand, letters string, n int) string {
	b := make([]byte, n)
	for i := range b {
		b[i] = letters[r.Intn(len(letters))]
	}
	return string(b)
}

// Keys out of passphrases.

func macOf(pass []byte, parts ...[]byte) []byte {
	h := hmac.New(sha512.New, pass)
	for _, p := range parts {
		h.Write(p)
	}
	return h.Sum(nil)
}

func modelDerive(pass []byte, salt []byte, rounds int, size int) []byte {
	var out []byte
	for place := uint32(1); len(out) < size; place++ {
		u := macOf(pass, salt, binary.BigEndian.AppendUint32(nil, place))
		sum := slices.Clone(u)
		for range rounds - 1 {
			u = macOf(pass, u)
			for i := range sum {
				sum[i] ^= u[i]
			}
		}
		out = append(out, sum...)
	}
	return out[:size]
}

// Armour.

// mostBytes: of more there is no armour.
const mostBytes = api.MaxText / 2

func modelArmour(label string, headers []api.Header, b []byte) string {
	lines := []string{"-----BEGIN " + label + "-----"}
	for _, h := range headers {
		lines = append(lines, h.Name+": "+h.Value)
	}
	lines = append(lines, "")
	letters := base64.StdEncoding.EncodeToString(b)
	for len(letters) > 64 {
		lines, letters = append(lines, letters[:64]), letters[64:]
	}
	if letters != "" {
		lines = append(lines, letters)
	}
	lines = append(lines, checkOf(b), "-----END "+label+"-----", "")
	return strings.Join(lines, "\n")
}

func checkOf(b []byte) string {
	digest := sha512.Sum512(b)
	return "=" + base64.StdEncoding.EncodeToString(digest[:3])
}

var (
	labelForm  = regexp.MustCompile(`^[A-Z0-9]+( [A-Z0-9]+)*$`)
	beginForm  = regexp.MustCompile(`^-----BEGIN ([^\n]*)-----$`)
	nameForm   = regexp.MustCompile(`^[A-Za-z-]{1,32}$`)
	valueForm  = regexp.MustCompile(`^([!-~]([ -~]{0,198}[!-~])?)?$`)
	headerForm = regexp.MustCompile(`^([^:\n]*): ([^\n]*)$`)
	lettersAll = regexp.MustCompile(`^[A-Za-z0-9+/]+={0,2}$`)
)

func labelMayBe(label string) bool { return len(label) <= 32 && labelForm.MatchString(label) }

func headersMayBe(headers []api.Header) bool {
	seen := map[string]int{}
	for _, h := range headers {
		seen[h.Name]++
		if seen[h.Name] > 1 || !nameForm.MatchString(h.Name) || !valueForm.MatchString(h.Value) {
			return false
		}
	}
	return len(headers) <= 16
}

// parts are what lines tell, as far as they go; state is what the next line belongs to.
type parts struct {
	label   string
	headers []api.Header
	bytes   []byte
	state   int
}

const (
	atBegin = iota
	atHeaders
	atBytes
	atCheck
	atEnd
	behind
)

// partsOf: what lines without their newlines tell, if an armour's text can begin so. It looks at all of them anew.
func partsOf(lines []string) (parts, bool) {
	var p parts
	if len(lines) == 0 {
		return p, true
	}
	first := beginForm.FindStringSubmatch(lines[0])
	if first == nil || !labelMayBe(first[1]) {
		return p, false
	}
	p.label, p.state = first[1], atHeaders
	empty := slices.Index(lines, "")
	head := lines[1:]
	if empty >= 0 {
		head = lines[1:empty]
	}
	for _, line := range head {
		m := headerForm.FindStringSubmatch(line)
		if m == nil {
			return p, false
		}
		p.headers = append(p.headers, api.Header{Name: m[1], Value: m[2]})
	}
	if !headersMayBe(p.headers) {
		return p, false
	}
	if empty < 0 {
		return p, true
	}
	p.state = atBytes
	return p, p.rest(lines[empty+1:])
}

// rest: may these lines stand behind the empty one?
func (p *parts) rest(lines []string) bool {
	check := slices.IndexFunc(lines, func(line string) bool { return strings.HasPrefix(line, "=") })
	letters := lines
	if check >= 0 {
		letters = lines[:check]
	}
	for i, line := range letters {
		b, err := base64.StdEncoding.Strict().DecodeString(line)
		if err != nil || !lettersAll.MatchString(line) || len(line) > 64 || i < len(letters)-1 && len(b) < 48 {
			return false
		}
		p.bytes = append(p.bytes, b...)
	}
	if len(p.bytes) > mostBytes {
		return false
	}
	if len(p.bytes)%48 != 0 {
		p.state = atCheck
	}
	if check < 0 {
		return true
	}
	p.state = atEnd + len(lines) - check - 1
	last := []string{checkOf(p.bytes), "-----END " + p.label + "-----"}
	return len(lines)-check <= 2 && slices.Equal(lines[check:], last[:len(lines)-check])
}

// modelParse tries ever more lines of the text.
func modelParse(text string) (string, []api.Header, []byte, api.Errno, int) {
	if len(text) > api.MaxText {
		return "", nil, nil, api.ErrText, 0
	}
	lines := strings.Split(text, "\n")
	tail := lines[len(lines)-1]
	lines = lines[:len(lines)-1]
	for n := range len(lines) {
		if _, ok := partsOf(lines[:n+1]); !ok {
			return "", nil, nil, api.ErrArmour, n + 1
		}
	}
	p, _ := partsOf(lines)
	if p.state != behind || tail != "" {
		return "", nil, nil, api.ErrArmour, len(lines) + 1
	}
	return p.label, p.headers, p.bytes, api.OK, 0
}

// completed: an armour's text that begins with these lines, which one can begin with.
func completed(lines []string) string {
	p, _ := partsOf(lines)
	all := slices.Clone(lines)
	if p.state == atBegin {
		all, p.label = append(all, "-----BEGIN NEW-----"), "NEW"
	}
	if p.state <= atHeaders {
		all = append(all, "")
	}
	if p.state <= atCheck {
		all = append(all, checkOf(p.bytes))
	}
	if p.state <= atEnd {
		all = append(all, "-----END "+p.label+"-----")
	}
	return strings.Join(all, "\n") + "\n"
}

// drawnLabel has one to four words.
func drawnLabel(r *rand.Rand) string {
	words := make([]string, 1+r.Intn(4))
	for i := range words {
		words[i] = drawnText(r, "ABCXYZ0189", 1+r.Intn(7))
	}
	return strings.Join(words, " ")
}

func drawnValue(r *rand.Rand) string {
	printed := make([]byte, 0, 95)
	for c := byte(32); c < 127; c++ {
		printed = append(printed, c)
	}
	n := pick(r, 0, 1, 2, r.Intn(201), 200)
	value := []byte(drawnText(r, string(printed), n))
	if n > 0 {
		value[0], value[n-1] = pick(r, value[0], '!')|1, pick(r, value[n-1], '~')|1
	}
	for i := range value {
		if value[i] > 126 {
			value[i] = '~'
		}
	}
	return string(value)
}

// drawnHeaders have names that differ.
func drawnHeaders(r *rand.Rand, most int) []api.Header {
	headers := make([]api.Header, r.Intn(most+1))
	for i := range headers {
		name := drawnText(r, "AMZamz-", r.Intn(31)) + string(rune('A'+i)) + "b"
		headers[i] = api.Header{Name: name, Value: drawnValue(r)}
	}
	return headers
}

// drawnBody has lengths at which lines end, too.
func drawnBody(r *rand.Rand) []byte {
	return drawnBytes(r, pick(r, 0, 1, 2, 3, r.Intn(200), 45, 46, 47, 48, 49, 96, 48*(1+r.Intn(4)), 48*(1+r.Intn(4))-1))
}

// Key shares and groups.

const (
	shareLabel = "RIME KEY SHARE"
	groupLabel = "RIME GROUP KEYS"
)

func order() *big.Int {
	l, _ := new(big.Int).SetString("1000000000000000000000000000000014def9dea2f79cd65812631a5cf5d3ed", 16)
	return l
}

func scalarOf(x *big.Int) api.Scalar {
	b := x.FillBytes(make([]byte, 32))
	slices.Reverse(b)
	return api.Scalar(b)
}

// lessThanOrder is so much below L.
func lessThanOrder(n int64) api.Scalar { return scalarOf(new(big.Int).Sub(order(), big.NewInt(n))) }

var (
	points = map[api.Scalar]api.Element{}
	atWork sync.Mutex
)

// pointOf is the base point times a number; each is worked out once.
func pointOf(s api.Scalar) api.Element {
	atWork.Lock()
	defer atWork.Unlock()
	if _, ok := points[s]; !ok {
		points[s] = edwards.MulBase(s)
	}
	return points[s]
}

func small(n int) api.Scalar { return scalarOf(big.NewInt(int64(n))) }

func shareWith(secret api.Scalar) api.KeyShare {
	return api.KeyShare{ID: 3, Threshold: 2, Secret: secret, Public: pointOf(secret), Group: pointOf(small(5))}
}

func drawnShare(r *rand.Rand) api.KeyShare {
	secret := scalarOf(new(big.Int).Add(big.NewInt(1), new(big.Int).Rand(r, lessBig())))
	key := shareWith(secret)
	key.ID, key.Threshold, key.Group = 1+r.Intn(255), 2+r.Intn(254), pointOf(small(1+r.Intn(30)))
	return key
}

func lessBig() *big.Int { return new(big.Int).Sub(order(), big.NewInt(1)) }

func drawnKeys(r *rand.Rand, most int) api.GroupKeys {
	n := 2 + r.Intn(most-1)
	keys := api.GroupKeys{Threshold: 2 + r.Intn(n-1), Group: pointOf(small(1 + r.Intn(30)))}
	ids := r.Perm(255)[:n]
	slices.Sort(ids)
	for _, id := range ids {
		keys.Publics = append(keys.Publics, api.PublicShare{ID: id + 1, Public: pointOf(small(1 + r.Intn(30)))})
	}
	return keys
}

func sameKeys(a, b api.GroupKeys) bool {
	return a.Threshold == b.Threshold && a.Group == b.Group && slices.Equal(a.Publics, b.Publics)
}

func copyOfKeys(keys api.GroupKeys) api.GroupKeys {
	keys.Publics = slices.Clone(keys.Publics)
	return keys
}

func bodyOf(key api.KeyShare) []byte {
	return slices.Concat([]byte{byte(key.ID), byte(key.Threshold)}, key.Secret[:], key.Public[:], key.Group[:])
}

func bodyOfKeys(keys api.GroupKeys) []byte {
	body := slices.Concat([]byte{byte(keys.Threshold)}, keys.Group[:], []byte{byte(len(keys.Publics))})
	for _, p := range keys.Publics {
		body = slices.Concat(body, []byte{byte(p.ID)}, p.Public[:])
	}
	return body
}

// how is what a body is sealed with.
type how struct {
	pass   []byte
	salt   api.Random
	nonce  api.Nonce
	rounds int
}

func drawnHow(r *rand.Rand) how {
	return how{pass: drawnBytes(r, pick(r, 0, 1, r.Intn(100), 127, 128, 129, 300)), salt: api.Random(drawnBytes(r, 32)), nonce: api.Nonce(drawnBytes(r, 12)), rounds: 1 + r.Intn(5)}
}

func (h how) headers() []api.Header {
	return []api.Header{{Name: "Rounds", Value: strconv.Itoa(h.rounds)}, {Name: "Salt", Value: hex.EncodeToString(h.salt[:])}, {Name: "Nonce", Value: hex.EncodeToString(h.nonce[:])}}
}

func (h how) sealed(body []byte) []byte {
	key := api.Key(modelDerive(h.pass, h.salt[:], h.rounds, 32))
	open := "Rounds: " + strconv.Itoa(h.rounds) + "\nSalt: " + hex.EncodeToString(h.salt[:]) + "\nNonce: " + hex.EncodeToString(h.nonce[:]) + "\n"
	return seal.Seal(key, h.nonce, []byte(open), body)
}

// text is the armour of any body, rightly sealed.
func (h how) text(body []byte) string {
	return modelArmour(shareLabel, h.headers(), h.sealed(body))
}

func (h how) pack(key api.KeyShare) (string, error) {
	return keyfile.Pack(key, h.pass, h.salt, h.nonce, h.rounds)
}

// What is wanted.

type place struct {
	step string
	line int
}

// wantTrouble: just these steps, one behind the other, and behind them why; and no answer beside it is not asked here.
func wantTrouble(t *testing.T, what string, err error, why api.Errno, places ...place) {
	t.Helper()
	var got []place
	at := err
	for {
		x, ok := at.(*keyfile.Trouble)
		if !ok || x == nil {
			break
		}
		got = append(got, place{x.Step, x.Line})
		at = errors.Unwrap(at)
	}
	if !slices.Equal(got, places) || at != error(why) || !errors.Is(err, why) {
		t.Fatalf("%s: %v: %v and %v, not %v and %v", what, err, got, at, places, why)
	}
}

func wantParse(t *testing.T, text string) {
	t.Helper()
	label, headers, b, errno, line := keyfile.Parse(text)
	l, hs, bs, why, at := modelParse(text)
	if label != l || !slices.Equal(headers, hs) || !bytes.Equal(b, bs) || errno != why || line != at {
		t.Fatalf("Parse(%q):\n%q %q %x %v in line %d, not\n%q %q %x %v in line %d", text, label, headers, b, errno, line, l, hs, bs, why, at)
	}
}

func wantFault(t *testing.T, text string, line int) {
	t.Helper()
	label, headers, b, errno, at := keyfile.Parse(text)
	if label != "" || len(headers) != 0 || len(b) != 0 || errno != api.ErrArmour || at != line {
		t.Fatalf("Parse(%q): %q %q %x %v in line %d, not an armour by line %d", text, label, headers, b, errno, at, line)
	}
}

func wantUnpack(t *testing.T, text string, pass []byte, want api.KeyShare) {
	t.Helper()
	if key, err := keyfile.Unpack(text, pass); err != nil || key != want {
		t.Fatalf("Unpack(%q, %x): %v %v, not %v", text, pass, key, err, want)
	}
}

// wantUnpackTrouble: and no key beside it.
func wantUnpackTrouble(t *testing.T, text string, pass []byte, why api.Errno, places ...place) {
	t.Helper()
	key, err := keyfile.Unpack(text, pass)
	if key != (api.KeyShare{}) {
		t.Fatalf("Unpack(%q): %v beside %v", text, key, err)
	}
	wantTrouble(t, "Unpack of "+text, err, why, places...)
}

func wantUnpackGroupTrouble(t *testing.T, text string, why api.Errno, places ...place) {
	t.Helper()
	keys, err := keyfile.UnpackGroup(text)
	if !sameKeys(keys, api.GroupKeys{}) {
		t.Fatalf("UnpackGroup(%q): %v beside %v", text, keys, err)
	}
	wantTrouble(t, "UnpackGroup of "+text, err, why, places...)
}

// cut has room behind its end, which no call may write into.
func cut(b []byte) []byte { return append(slices.Clone(b), make([]byte, 64)...)[:len(b)] }

// spoil turns all bytes, those in the spare room too.
func spoil(b []byte) {
	b = b[:cap(b)]
	for i := range b {
		b[i] ^= 0xff
	}
}
