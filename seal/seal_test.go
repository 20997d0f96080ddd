package seal_test

import (
	"bytes"
	"math/big"
	"slices"
	"testing"

	"rime/api"
	"rime/seal"
)

func countedKey(from byte) api.Key {
	var key api.Key
	for i := range key {
		key[i] = from + byte(i)
	}
	return key
}

func TestExamples(t *testing.T) {
	key := countedKey(0)
	block := seal.Block(key, 1, api.Nonce{3: 9, 7: 0x4a})
	if !bytes.HasPrefix(block[:], unhex("10f1e7e4d13b5915500fdd1fa32071c4")) {
		t.Fatalf("Block: %x", block)
	}
	tag := seal.Mac(api.Key(unhex("85d6be7857556d337f4452fe42d506a80103808afb0db2fd4abff6af4149f51b")), []byte("Cryptographic Forum Research Group"))
	if tag != api.Tag(unhex("a8061dc1305136c6c22b8baf0c0127a9")) {
		t.Fatalf("Mac: %x", tag)
	}
	none := seal.Seal(key, api.Nonce{}, nil, nil)
	if len(none) != 16 {
		t.Fatalf("Seal of nothing: %x", none)
	}
	wantShut(t, "15 bytes", key, api.Nonce{}, nil, none[:15], api.ErrLength)
	if b, errno := seal.Stream(key, 1<<32-1, api.Nonce{}, make([]byte, 1)); len(b) != 1 || errno != api.OK {
		t.Fatalf("Stream of one byte at the last counter: %x %v", b, errno)
	}
	if b, errno := seal.Stream(key, 1<<32-1, api.Nonce{}, make([]byte, 65)); len(b) != 0 || errno != api.ErrEnd {
		t.Fatalf("Stream of 65 bytes at the last counter: %x %v", b, errno)
	}
	if box, errno := seal.New(key, 7).Box(nil, nil); errno != api.OK || !bytes.HasPrefix(box, unhex("000000000700000000000000")) {
		t.Fatalf("Box 7: %x %v", box, errno)
	}
	if box, errno := seal.New(key, 1<<64-1).Box(nil, nil); len(box) != 0 || errno != api.ErrEnd {
		t.Fatalf("Box at the end: %x %v", box, errno)
	}
}

// P12.1: Block, Stream, Mac.

// RFC 8439: 2.3.2, and the appendix A.1.
func TestBlockOfRFC8439(t *testing.T) {
	for _, c := range []struct {
		key     api.Key
		counter uint32
		nonce   api.Nonce
		block   string
	}{
		{countedKey(0), 1, api.Nonce{3: 9, 7: 0x4a}, "10f1e7e4d13b5915500fdd1fa32071c4c7d1f4c733c068030422aa9ac3d46c4ed2826446079faa0914c2d705d98b02a2b5129cd1de164eb9cbd083e8a2503c4e"},
		{api.Key{}, 0, api.Nonce{}, "76b8e0ada0f13d90405d6ae55386bd28bdd219b8a08ded1aa836efcc8b770dc7da41597c5157488d7724e03fb8d84a376a43b8f41518a11cc387b669b2ee6586"},
		{api.Key{}, 1, api.Nonce{}, "9f07e7be5551387a98ba977c732d080dcb0f29a048e3656912c6533e32ee7aed29b721769ce64e43d57133b074d839d531ed1f28510afb45ace10a1f4b794d6f"},
		{api.Key{31: 1}, 1, api.Nonce{}, "3aeb5224ecf849929b9d828db1ced4dd832025e8018b8160b82284f3c949aa5a8eca00bbb4a73bdad192b5c42f73f2fd4e273644c8b36125a64addeb006c13a0"},
		{api.Key{1: 0xff}, 2, api.Nonce{}, "72d54dfbf12ec44b362692df94137f328fea8da73990265ec1bbbea1ae9af0ca13b25aa26cb4a648cb9b9d1be65b2c0924a66c54d545ec1b7374f4872e99f096"},
		{api.Key{}, 0, api.Nonce{11: 2}, "c2c64d378cd536374ae204b9ef933fcd1a8b2288b3dfa49672ab765b54ee27c78a970e0e955c14f3a88e741b97c286f75f8fc299e8148362fa198a39531bed6d"},
	} {
		if got := seal.Block(c.key, c.counter, c.nonce); !bytes.Equal(got[:], unhex(c.block)) {
			t.Fatalf("Block(%x, %d, %x): %x", c.key, c.counter, c.nonce, got)
		}
	}
}

func TestBlock(t *testing.T) {
	r := drawn(1)
	counters := []uint32{0, 1, 2, 255, 256, 1 << 16, 1<<31 - 1, 1 << 31, 1<<32 - 2, 1<<32 - 1}
	for i := range 500 {
		key, nonce, counter := drawnKey(r), drawnNonce(r), r.Uint32()
		if i < len(counters) {
			counter = counters[i]
		}
		if got := seal.Block(key, counter, nonce); !bytes.Equal(got[:], blockOf(key, counter, nonce)) {
			t.Fatalf("Block(%x, %d, %x): %x", key, counter, nonce, got)
		}
	}
	full := api.Key(repeated(255, 32))
	if got := seal.Block(full, 1<<32-1, api.Nonce(repeated(255, 12))); !bytes.Equal(got[:], blockOf(full, 1<<32-1, api.Nonce(repeated(255, 12)))) {
		t.Fatalf("Block of all ones: %x", got)
	}
}

// RFC 8439, 2.4.2.
func TestStreamOfRFC8439(t *testing.T) {
	text := []byte("Ladies and Gentlemen of the class of '99: If I could offer you only one tip for the future, sunscreen would be it.")
	got, errno := seal.Stream(countedKey(0), 1, api.Nonce{7: 0x4a}, text)
	if errno != api.OK || !bytes.Equal(got, unhex("6e2e359a2568f98041ba0728dd0d6981e97e7aec1d4360c20a27afccfd9fae0bf91b65c5524733ab8f593dabcd62b3571639d624e65152ab8f530c359f0861d807ca0dbf500d6a6156a38e088a22b65e52bc514d16ccf806818ce91ab77937365af90bbf74a35be6b40b8eedf2785e42874d")) {
		t.Fatalf("Stream: %x %v", got, errno)
	}
}

func TestStream(t *testing.T) {
	r := drawn(2)
	for n := range 4*64 + 2 {
		wantStream(t, drawnKey(r), uint32(r.Intn(1<<20)), drawnNonce(r), drawnBytes(r, n))
	}
	for range 30 {
		wantStream(t, drawnKey(r), r.Uint32()>>1, drawnNonce(r), drawnBytes(r, r.Intn(5000)))
	}
	wantStream(t, drawnKey(r), 0, drawnNonce(r), drawnBytes(r, 1<<20+5))
	wantStream(t, drawnKey(r), 0xfffe, drawnNonce(r), drawnBytes(r, 300))
	wantStream(t, drawnKey(r), 1<<31-2, drawnNonce(r), drawnBytes(r, 300))
}

// Up to the last counter, and beyond.
func TestStreamAtTheEnd(t *testing.T) {
	r := drawn(3)
	key, nonce := drawnKey(r), drawnNonce(r)
	for left := range 6 {
		counter := uint32(1<<32 - 1 - left)
		for _, n := range []int{0, 1, 63, 64, 65, 127, 128, 129, 191, 192, 193, 255, 256, 257, 319, 320, 321, 383, 384, 385, 1 << 16} {
			got, errno := seal.Stream(key, counter, nonce, drawnBytes(r, n))
			if fits := n <= 64*(left+1); fits != (errno == api.OK) || !fits && (errno != api.ErrEnd || len(got) != 0) {
				t.Fatalf("Stream of %d bytes from %d: %d bytes, %v", n, counter, len(got), errno)
			}
			wantStream(t, key, counter, nonce, drawnBytes(r, n))
		}
	}
	for _, none := range [][]byte{nil, {}} {
		if got, errno := seal.Stream(key, 1<<32-1, nonce, none); len(got) != 0 || errno != api.OK {
			t.Fatalf("Stream of nothing: %x %v", got, errno)
		}
	}
}

// RFC 8439: 2.5.2, the appendix A.3 from its case 7 on, and tags at the ends of what is modulo 2^130 - 5.
func TestMacOfRFC8439(t *testing.T) {
	for _, c := range []struct{ key, text, tag string }{
		{"85d6be7857556d337f4452fe42d506a80103808afb0db2fd4abff6af4149f51b", "43727970746f6772617068696320466f72756d2052657365617263682047726f7570", "a8061dc1305136c6c22b8baf0c0127a9"},
		{"0200000000000000000000000000000000000000000000000000000000000000", "ffffffffffffffffffffffffffffffff", "03000000000000000000000000000000"},
		{"02000000000000000000000000000000ffffffffffffffffffffffffffffffff", "02000000000000000000000000000000", "03000000000000000000000000000000"},
		{"0100000000000000000000000000000000000000000000000000000000000000", "fffffffffffffffffffffffffffffffff0ffffffffffffffffffffffffffffff11000000000000000000000000000000", "05000000000000000000000000000000"},
		{"0100000000000000000000000000000000000000000000000000000000000000", "fffffffffffffffffffffffffffffffffbfefefefefefefefefefefefefefefe01010101010101010101010101010101", "00000000000000000000000000000000"},
		{"0200000000000000000000000000000000000000000000000000000000000000", "fdffffffffffffffffffffffffffffff", "faffffffffffffffffffffffffffffff"},
		{"0100000000000000040000000000000000000000000000000000000000000000", "e33594d7505e43b900000000000000003394d7505e4379cd01000000000000000000000000000000000000000000000001000000000000000000000000000000", "14000000000000005500000000000000"},
		{"0100000000000000040000000000000000000000000000000000000000000000", "e33594d7505e43b900000000000000003394d7505e4379cd010000000000000000000000000000000000000000000000", "13000000000000000000000000000000"},
	} {
		if got := wantMac(t, api.Key(unhex(c.key)), unhex(c.text)); got != api.Tag(unhex(c.tag)) {
			t.Fatalf("Mac(%s) of %s: %x", c.key, c.text, got)
		}
	}
}

func TestMac(t *testing.T) {
	r := drawn(4)
	for n := range 200 {
		for range 5 {
			wantMac(t, drawnKey(r), drawnBytes(r, n))
		}
		wantMac(t, drawnKey(r), make([]byte, n))
		wantMac(t, drawnKey(r), repeated(255, n))
		wantMac(t, api.Key(repeated(255, 32)), repeated(255, n))
		wantMac(t, api.Key(repeated(255, 32)), drawnBytes(r, n))
	}
	wantMac(t, drawnKey(r), drawnBytes(r, 100003))
	wantMac(t, api.Key(repeated(255, 32)), repeated(255, 100003))
}

// Of nothing the tag is s.
func TestMacOfNothing(t *testing.T) {
	key := drawnKey(drawn(5))
	for _, none := range [][]byte{nil, {}} {
		if got := seal.Mac(key, none); got != api.Tag(key[16:]) {
			t.Fatalf("Mac of nothing: %x", got)
		}
	}
}

// Every bit of s counts; of r those that are not cleared.
func TestEveryBitOfAMacsKey(t *testing.T) {
	r := drawn(6)
	cleared := unhex("000000f0030000f0030000f0030000f0")
	for range 4 {
		key, text := drawnKey(r), drawnBytes(r, 50)
		before := wantMac(t, key, text)
		for bit := range 256 {
			same := bit < 128 && cleared[bit/8]>>(bit%8)&1 == 1
			if got := wantMac(t, api.Key(turned(key[:], bit)), text); same != (got == before) {
				t.Fatalf("Mac(%x) with the bit %d turned: %x", key, bit, got)
			}
		}
	}
}

// edges are values at which carries and the last reduction go through all their ways.
func edges() []*big.Int {
	var out []*big.Int
	p := prime()
	for _, n := range []uint{0, 26, 27, 28, 29, 30, 31, 32, 52, 64, 78, 104, 127, 128, 129, 130} {
		for _, factor := range []int64{1, 3, 7} {
			for away := int64(-7); away <= 7; away++ {
				v := new(big.Int).Mul(power(n), big.NewInt(factor))
				out = append(out, v.Mod(v.Add(v, big.NewInt(away)), p))
			}
		}
	}
	return out
}

func TestMacAtTheEdges(t *testing.T) {
	r := drawn(7)
	keys := []api.Key{{0: 1}, {0: 1, 16: 255}, {0: 2}, {15: 8}, api.Key(repeated(255, 32)), drawnKey(r), drawnKey(r), drawnKey(r), drawnKey(r)}
	for _, key := range keys {
		for _, v := range edges() {
			_, s := halves(key)
			text := textWith(r, key, 2, 7, v)
			if got := seal.Mac(key, text); got != api.Tag(bytesOf(s.Add(s, v))) {
				t.Fatalf("Mac(%x) of %x: %x, with the value %x", key, text, got, v)
			}
			wantMac(t, key, append(text, repeated(255, 16+r.Intn(20))...))
			wantMac(t, key, append(text, make([]byte, 1+r.Intn(20))...))
		}
	}
}

// P12.2: Seal and Open.

// RFC 8439: 2.6.2 and 2.8.2.
func TestSealOfRFC8439(t *testing.T) {
	key := countedKey(0x80)
	if got := seal.Block(key, 0, api.Nonce(unhex("000000000001020304050607"))); !bytes.HasPrefix(got[:], unhex("8ad5a08b905f81cc815040274ab29471a833b637e3fd0da508dbb8e2fdd1a646")) {
		t.Fatalf("the key of a tag: %x", got[:32])
	}
	nonce, open := api.Nonce(unhex("070000004041424344454647")), unhex("50515253c0c1c2c3c4c5c6c7")
	text := []byte("Ladies and Gentlemen of the class of '99: If I could offer you only one tip for the future, sunscreen would be it.")
	got := seal.Seal(key, nonce, open, text)
	if !bytes.Equal(got, unhex("d31a8d34648e60db7b86afbc53ef7ec2a4aded51296e08fea9e2b5a736ee62d63dbea45e8ca9671282fafb69da92728b1a71de0a9e060b2905d6a5b67ecd3b3692ddbd7f2d778b8c9803aee328091b58fab324e4fad675945585808b4831d7bc3ff4def08e4b7a9de576d26586cec64b61161ae10b594f09e26a7e902ecbd0600691")) {
		t.Fatalf("Seal: %x", got)
	}
	wantOpen(t, key, nonce, open, got, text)
}

func TestSealAndOpen(t *testing.T) {
	r := drawn(8)
	for _, n := range []int{0, 1, 15, 16, 17, 31, 32, 33, 100} {
		for m := range 131 {
			key, nonce, open, text := drawnKey(r), drawnNonce(r), drawnBytes(r, n), drawnBytes(r, m)
			wantOpen(t, key, nonce, open, wantSeal(t, key, nonce, open, text), text)
			key, nonce, open, text = drawnKey(r), drawnNonce(r), drawnBytes(r, m), drawnBytes(r, n)
			wantOpen(t, key, nonce, open, wantSeal(t, key, nonce, open, text), text)
		}
	}
	key, nonce, long := drawnKey(r), drawnNonce(r), drawnBytes(r, 1<<20+3)
	wantOpen(t, key, nonce, long[:70001], wantSeal(t, key, nonce, long[:70001], long), long)
}

// Nil and empty ones are one.
func TestSealOfNothing(t *testing.T) {
	key, nonce := drawnKey(drawn(9)), drawnNonce(drawn(10))
	sealed := wantSeal(t, key, nonce, nil, nil)
	for _, none := range [][]byte{nil, {}} {
		for _, other := range [][]byte{nil, {}} {
			if got := wantSeal(t, key, nonce, none, other); !bytes.Equal(got, sealed) {
				t.Fatalf("Seal of nothing: %x and %x", got, sealed)
			}
		}
		wantOpen(t, key, nonce, none, sealed, nil)
		wantShut(t, "nothing", key, nonce, none, none, api.ErrLength)
	}
}

func TestOpenOfTooFew(t *testing.T) {
	r := drawn(11)
	for range 20 {
		key, nonce, open := drawnKey(r), drawnNonce(r), upTo(r, 40)
		sealed := wantSeal(t, key, nonce, open, drawnBytes(r, r.Intn(100)))
		for n := range len(sealed) {
			why := api.ErrTag
			if n < 16 {
				why = api.ErrLength
			}
			wantShut(t, "cut", key, nonce, open, sealed[:n], why)
			wantShut(t, "cut ahead", key, nonce, open, sealed[len(sealed)-n:], why)
		}
		wantShut(t, "with more behind", key, nonce, open, append(slices.Clone(sealed), 0), api.ErrTag)
	}
}

// P12.3: a sealer.

func TestBoxAndUnbox(t *testing.T) {
	r := drawn(12)
	for _, first := range []uint64{0, 1, 7, 254, 255, 65534, 1<<32 - 2, 1<<32 - 1, 1 << 40, 1<<63 - 1, 1<<64 - 9, r.Uint64() >> 1} {
		key := drawnKey(r)
		s := seal.New(key, first)
		for i := range uint64(8) {
			open, text := upTo(r, 50), upTo(r, 200)
			wantUnbox(t, key, open, wantBox(t, s, key, first+i, open, text), text, first+i)
		}
	}
}

func TestBoxAtTheEnd(t *testing.T) {
	r := drawn(13)
	for left := range uint64(5) {
		key, first := drawnKey(r), 1<<64-1-left
		s := seal.New(key, first)
		for i := range left {
			wantBox(t, s, key, first+i, nil, []byte("text"))
		}
		for range 3 {
			if box, errno := s.Box([]byte("open"), []byte("text")); len(box) != 0 || errno != api.ErrEnd {
				t.Fatalf("Box behind the end: %x %v", box, errno)
			}
			wantNext(t, s, 1<<64-1)
		}
	}
}

// A box of the last number comes from no sealer, but Unbox takes it.
func TestUnboxOfTheLastNumber(t *testing.T) {
	key := drawnKey(drawn(14))
	wantUnbox(t, key, []byte("open"), boxOf(key, 1<<64-1, []byte("open"), []byte("text")), []byte("text"), 1<<64-1)
}

func TestUnboxOfTooFew(t *testing.T) {
	r := drawn(15)
	key := drawnKey(r)
	box := boxOf(key, 3, nil, nil)
	for n := range 28 {
		wantNoBox(t, "cut", key, nil, box[:n], api.ErrLength)
		wantNoBox(t, "any bytes", key, nil, repeated(1, n), api.ErrLength)
	}
	wantNoBox(t, "nil", key, nil, nil, api.ErrLength)
	wantUnbox(t, key, nil, box, nil, 3)
	wantUnbox(t, key, []byte{}, box, nil, 3)
}

// A byte that is not 0 ahead of the number goes ahead of a wrong tag; and it does, though the tag is right.
func TestUnboxOfANumberThatIsNone(t *testing.T) {
	r := drawn(16)
	for bit := range 32 {
		key, text := drawnKey(r), drawnBytes(r, 20)
		wantNoBox(t, "with a wrong tag", key, nil, turned(boxOf(key, 5, nil, text), bit), api.ErrArg)
		nonce := api.Nonce(turned(make([]byte, 12), bit))
		wantNoBox(t, "with a right tag", key, nil, append(nonce[:], sealOf(key, nonce, nil, text)...), api.ErrArg)
	}
}

func TestUnboxOfTurned(t *testing.T) {
	r := drawn(17)
	key, open, text := drawnKey(r), drawnBytes(r, 20), drawnBytes(r, 50)
	box := boxOf(key, 77, open, text)
	for bit := 32; bit < 8*len(box); bit++ {
		wantNoBox(t, "turned", key, open, turned(box, bit), api.ErrTag)
	}
	for bit := range 8 * len(open) {
		wantNoBox(t, "with a turned open part", key, turned(open, bit), box, api.ErrTag)
	}
	for bit := range 256 {
		wantNoBox(t, "with a turned key", api.Key(turned(key[:], bit)), open, box, api.ErrTag)
	}
	wantNoBox(t, "cut", key, open, box[:len(box)-1], api.ErrTag)
	wantNoBox(t, "without an open part", key, nil, box, api.ErrTag)
	wantUnbox(t, key, open, box, text, 77)
}

// P12.4: objects that no call made.
func TestNoSealer(t *testing.T) {
	var none *seal.Sealer
	for _, b := range [][]byte{nil, {}, []byte("text")} {
		if box, errno := none.Box(b, b); len(box) != 0 || errno != api.ErrMade {
			t.Fatalf("Box of a nil Sealer: %x %v", box, errno)
		}
		wantNext(t, none, 0)
	}
	var zero seal.Sealer
	if box, errno := zero.Box([]byte("open"), []byte("text")); len(box) != 0 || errno != api.ErrMade {
		t.Fatalf("Box of a Sealer that no call made: %x %v", box, errno)
	}
	wantNext(t, &zero, 0)
}
