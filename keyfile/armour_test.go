package keyfile_test

import (
	"strings"
	"testing"

	"rime/api"
	"rime/keyfile"
)

func wantArmour(t *testing.T, label string, headers []api.Header, b []byte, want string) {
	t.Helper()
	if text, errno := keyfile.Armour(label, headers, b); errno != api.OK || text != want {
		t.Fatalf("Armour(%q, %q, %x): %q %v, not %q", label, headers, b, text, errno, want)
	}
}

func wantNoArmour(t *testing.T, label string, headers []api.Header, b []byte, why api.Errno) {
	t.Helper()
	if text, errno := keyfile.Armour(label, headers, b); errno != why || text != "" {
		t.Fatalf("Armour(%q, %q) of %d bytes: %q %v, not %v", label, headers, len(b), text, errno, why)
	}
}

// Example 2, and others of which each byte is said.
func TestArmourKnown(t *testing.T) {
	wantArmour(t, "A", nil, []byte("hi"), "-----BEGIN A-----\n\naGk=\n=FQoU\n-----END A-----\n")
	wantArmour(t, "A", []api.Header{}, nil, "-----BEGIN A-----\n\n=z4Ph\n-----END A-----\n")
	headers := []api.Header{{Name: "b", Value: ""}, {Name: "B-", Value: "x: y"}}
	wantArmour(t, "A 1", headers, []byte{0, 16, 131}, "-----BEGIN A 1-----\nb: \nB-: x: y\n\nABCD\n"+checkOf([]byte{0, 16, 131})+"\n-----END A 1-----\n")
	full := strings.Repeat("A", 64)
	wantArmour(t, "A", nil, make([]byte, 48), "-----BEGIN A-----\n\n"+full+"\n"+checkOf(make([]byte, 48))+"\n-----END A-----\n")
	wantArmour(t, "A", nil, make([]byte, 49), "-----BEGIN A-----\n\n"+full+"\nAA==\n"+checkOf(make([]byte, 49))+"\n-----END A-----\n")
}

func TestArmourDrawn(t *testing.T) {
	r := drawn(10)
	for range 2000 {
		label, headers, b := drawnLabel(r), drawnHeaders(r, 16), drawnBody(r)
		wantArmour(t, label, headers, b, modelArmour(label, headers, b))
	}
}

// Every byte alone, every pair of a few: all letters of base64 are met.
func TestArmourBytes(t *testing.T) {
	for first := range 256 {
		b := []byte{byte(first)}
		wantArmour(t, "A", nil, b, modelArmour("A", nil, b))
		for _, second := range []byte{0, 1, 15, 16, 240, 255} {
			for _, b := range [][]byte{{byte(first), second}, {second, byte(first)}, {second, byte(first), second}, {second, second, byte(first)}} {
				wantArmour(t, "A", nil, b, modelArmour("A", nil, b))
			}
		}
	}
}

func TestArmourLength(t *testing.T) {
	for n := range 300 {
		b := drawnBytes(drawn(int64(n)), n)
		wantArmour(t, "LENGTH", nil, b, modelArmour("LENGTH", nil, b))
	}
}

func TestArmourLabel(t *testing.T) {
	long := strings.Repeat("A", 32)
	for _, label := range []string{"A", "Z", "0", "9", "A B", "A B C", "0 0", long, long[:30] + " 9"} {
		wantArmour(t, label, nil, nil, modelArmour(label, nil, nil))
	}
	for _, label := range []string{"", " ", "  ", " A", "A ", "A  B", "A   B", long + "A", long[:31] + " ", strings.Repeat("A ", 17) + "A", "a", "z", "A-B", "-", "A\tB", "A\nB", "É", "A\x00", "A\xff", "A:"} {
		wantNoArmour(t, label, nil, nil, api.ErrLabel)
	}
}

// Of each byte it is asked whether it may stand in a label, in a name, in a value: alone, in the middle, at the ends.
func TestArmourEachByte(t *testing.T) {
	for c := range 256 {
		x := string([]byte{byte(c)})
		for _, text := range []string{x, "A" + x + "B", x + "A", "A" + x} {
			if labelMayBe(text) {
				wantArmour(t, text, nil, nil, modelArmour(text, nil, nil))
			} else {
				wantNoArmour(t, text, nil, nil, api.ErrLabel)
			}
			for _, headers := range [][]api.Header{{{Name: text, Value: "v"}}, {{Name: "n", Value: text}}} {
				if headersMayBe(headers) {
					wantArmour(t, "A", headers, nil, modelArmour("A", headers, nil))
				} else {
					wantNoArmour(t, "A", headers, nil, api.ErrLabel)
				}
			}
		}
	}
}

func sixteen() []api.Header {
	var headers []api.Header
	for i := range 16 {
		headers = append(headers, api.Header{Name: string(rune('a' + i)), Value: "same"})
	}
	return headers
}

func TestArmourHeaders(t *testing.T) {
	long, value := strings.Repeat("n", 32), strings.Repeat("v", 200)
	for _, headers := range [][]api.Header{{{Name: long, Value: value}}, {{Name: "a"}, {Name: "A"}}, {{Name: "a", Value: "  x"[2:]}}, {{Name: "-", Value: "a  b"}}, sixteen()} {
		wantArmour(t, "A", headers, []byte{1}, modelArmour("A", headers, []byte{1}))
	}
	for _, headers := range [][]api.Header{
		{{}}, {{Value: "v"}}, {{Name: long + "n"}}, {{Name: "a", Value: value + "v"}}, {{Name: "a", Value: " "}}, {{Name: "a", Value: " v"}}, {{Name: "a", Value: "v "}},
		{{Name: "a b"}}, {{Name: "a:"}}, {{Name: "a1"}}, {{Name: "a", Value: "v\n"}}, {{Name: "a", Value: "\x7f"}}, {{Name: "a", Value: "é"}},
		{{Name: "a", Value: "v"}, {Name: "a", Value: "w"}}, {{Name: "a"}, {Name: "b"}, {Name: "a"}}, {{Name: "a"}, {Name: "b"}, {Name: "b"}},
		append(sixteen(), api.Header{Name: "q"}), append(sixteen(), sixteen()...), make([]api.Header, 17),
	} {
		wantNoArmour(t, "A", headers, []byte{1}, api.ErrLabel)
	}
	for i := range 16 {
		headers := sixteen()
		headers[i].Name = ""
		wantNoArmour(t, "A", headers, nil, api.ErrLabel)
	}
}

func TestArmourLong(t *testing.T) {
	b := drawnBytes(drawn(11), api.MaxText/2+1)
	most := b[:api.MaxText/2]
	text, errno := keyfile.Armour("A", nil, most)
	if errno != api.OK || text != modelArmour("A", nil, most) {
		t.Fatalf("Armour of %d bytes: %d bytes, %v", len(most), len(text), errno)
	}
	wantNoArmour(t, "A", nil, b, api.ErrLong)
	wantNoArmour(t, "A", sixteen(), b, api.ErrLong)
	wantNoArmour(t, "a", nil, b, api.ErrLabel)
	wantNoArmour(t, "A", []api.Header{{}}, b, api.ErrLabel)
	wantNoArmour(t, "A", append(sixteen(), api.Header{Name: "q"}), b, api.ErrLabel)
}
