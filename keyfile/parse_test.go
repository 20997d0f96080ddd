package keyfile_test

import (
	"slices"
	"strings"
	"testing"

	"rime/api"
	"rime/keyfile"
)

// turned are the bytes that one is turned into: some that may stand somewhere, some that may stand nowhere.
const turned = "\n\r\t :=-+/AZaz09BR~\x00\x1f\x7f\x80\xff"

func linesOf(text string) []string { return strings.SplitAfter(text, "\n") }

// samples are armours of all shapes; not too long, as everything is done to each of them.
func samples() []string {
	r := drawn(20)
	body := func(n int) []byte { return drawnBytes(r, n) }
	two := []api.Header{{Name: "Rounds", Value: ""}, {Name: "x-Y", Value: "v: w"}}
	return []string{
		modelArmour("A", nil, nil),
		modelArmour("A B9", nil, []byte("hi")),
		modelArmour("A", two, []byte("a")),
		modelArmour("AB", two[:1], body(47)),
		modelArmour("AB", two[1:], body(48)),
		modelArmour("AB", nil, body(49)),
		modelArmour("AB", two, body(96)),
		modelArmour("AB", two, body(100)),
	}
}

func TestParseDrawn(t *testing.T) {
	r := drawn(21)
	for range 1000 {
		wantParse(t, modelArmour(drawnLabel(r), drawnHeaders(r, 16), drawnBody(r)))
	}
	for _, text := range samples() {
		wantParse(t, text)
	}
}

// Example 3, and each line's faults, by their numbers.
func TestParseFaults(t *testing.T) {
	wantFault(t, "-----BEGIN a-----\n", 1)
	wantFault(t, "", 1)
	full := strings.Repeat("A", 64)
	head := "-----BEGIN A-----\n"
	for text, line := range map[string]int{
		"\n": 1, "\n\n\n": 1, "x": 1, "x\n" + head: 1, " " + head: 1, "-----BEGIN A-----": 1, "-----BEGIN A----- \n": 1, "-----BEGIN A-----\r\n": 1, "-----BEGIN A----\n": 1, "----BEGIN A-----\n": 1,
		"-----BEGIN -----\n": 1, "-----BEGIN  A-----\n": 1, "-----BEGIN A -----\n": 1, "-----BEGIN-----\n": 1, "-----BEGIN A  B-----\n": 1, "-----begin A-----\n": 1, "-----END A-----\n": 1,
		"-----BEGIN A------\n": 1, "-----BEGIN " + strings.Repeat("A", 33) + "-----\n": 1, "-----BEGIN " + strings.Repeat("A", 32) + "-----\n": 2,

		head: 2, head + "a": 2, head + "a\n": 2, head + "a:\n": 2, head + "a:b\n": 2, head + "a: ": 2, head + "a: \n": 3, head + "a:  b\n": 2, head + "a: b \n": 2, head + ": b\n": 2, head + " a: b\n": 2, head + "a : b\n": 2,
		head + "a1: b\n": 2, head + "a: b\r\n": 2, head + "a:: b\n": 2, head + "a: : b\n": 3, head + "a: b\na: c\n": 3, head + "a: b\nA: b\n": 4, head + "a: b\nb: b\nb: b\n": 4, head + " \n": 2, head + "\r\n": 2, head + head: 2,
		head + "aGk=\n": 2, head + "=z4Ph\n": 2,

		head + "\n": 3, head + "\n\n": 3, head + "\n \n": 3, head + "\na: b\n": 3, head + "\nA\n": 3, head + "\nAA\n": 3, head + "\nAAA\n": 3, head + "\nAAAA": 3, head + "\nAAAA\n": 4, head + "\nAAAAA\n": 3, head + "\n" + full + "\n": 4, head + "\n" + full + "AAAA\n": 3,
		head + "\nAA==\n": 4, head + "\nAAA=\n": 4, head + "\nAA=\n": 3, head + "\nAA=A\n": 3, head + "\nA===\n": 3, head + "\n====\n": 3, head + "\nAA==AAAA\n": 3, head + "\nAAA=AA==\n": 3, head + "\nAAAA=\n": 3, head + "\nAAAA====\n": 3,
		head + "\nAB==\n": 3, head + "\nAP==\n": 3, head + "\nAQ==\n": 4, head + "\nAAB=\n": 3, head + "\nAAD=\n": 3, head + "\nAAE=\n": 4, head + "\nAA-_\n": 3, head + "\nAA A\n": 3, head + "\nAAAA \n": 3, head + "\nAAAA\r\n": 3, head + "\n-----END A-----\n": 3,
		head + "\nAAAA\nAAAA\n": 4, head + "\nAAAA\n\n": 4, head + "\n" + full + "\n\n": 4, head + "\n" + full + "\nAAAA\n": 5, head + "\n" + full[:60] + "\nAAAA\n": 4, head + "\n" + full[:62] + "==\nAAAA\n": 4, head + "\n" + full[:63] + "=\nAAAA\n": 4, head + "\n" + full[:63] + "=\n": 4,

		head + "\n=": 3, head + "\n=z4Ph": 3, head + "\n=z4Ph\n": 4, head + "\n=z4P\n": 3, head + "\n=z4Pha\n": 3, head + "\n=z4Ph \n": 3, head + "\n=z4Pi\n": 3, head + "\n==z4Ph\n": 3, head + "\nz4Ph\n": 4, head + "\n=FQoU\n": 3, head + "\naGk=\n=FQoU\n": 5, head + "\naGk=\n=fQoU\n": 4, head + "\naGk=\nFQoU\n": 4, head + "\naGk=\n=z4Ph\n": 4,

		head + "\n=z4Ph\n\n": 4, head + "\n=z4Ph\n-----END A-----": 4, head + "\n=z4Ph\n-----END B-----\n": 4, head + "\n=z4Ph\n-----END A----- \n": 4, head + "\n=z4Ph\n-----END AA-----\n": 4, head + "\n=z4Ph\n-----BEGIN A-----\n": 4, head + "\n=z4Ph\n=z4Ph\n": 4,
		head + "\n=z4Ph\n-----END A-----\n\n": 5, head + "\n=z4Ph\n-----END A-----\nx": 5, head + "\n=z4Ph\n-----END A-----\nx\n": 5, head + "\n=z4Ph\n-----END A-----\n" + head: 5, head + "\n=z4Ph\n-----END A-----\n ": 5,
	} {
		wantFault(t, text, line)
		wantParse(t, text)
	}
}

func TestParseHeaders(t *testing.T) {
	var lines []string
	for _, h := range sixteen() {
		lines = append(lines, h.Name+": "+h.Value+"\n")
	}
	head := "-----BEGIN A-----\n" + strings.Join(lines, "")
	wantFault(t, head, 18)
	wantFault(t, head+"q: same\n", 18)
	wantFault(t, head+"q", 18)
	wantFault(t, head+"\n", 19)
	wantParse(t, head+"\n=z4Ph\n-----END A-----\n")
	value := strings.Repeat("v", 200)
	wantParse(t, "-----BEGIN A-----\nn: "+value+"\n\n=z4Ph\n-----END A-----\n")
	wantFault(t, "-----BEGIN A-----\nn: "+value+"v\n\n=z4Ph\n-----END A-----\n", 2)
	name := strings.Repeat("n", 32)
	wantParse(t, "-----BEGIN A-----\n"+name+": v\n\n=z4Ph\n-----END A-----\n")
	wantFault(t, "-----BEGIN A-----\n"+name+"n: v\n\n=z4Ph\n-----END A-----\n", 2)
}

// Cut anywhere: the line in which the text ends is the first that is missing.
func TestParseCut(t *testing.T) {
	for _, text := range samples() {
		for n := range len(text) {
			wantFault(t, text[:n], strings.Count(text[:n], "\n")+1)
			wantParse(t, text[:n])
		}
	}
}

func TestParseTurned(t *testing.T) {
	for _, text := range samples() {
		for at := range len(text) {
			for i := range len(turned) {
				x := turned[i : i+1]
				wantParse(t, text[:at]+x+text[at+1:])
				wantParse(t, text[:at]+x+text[at:])
			}
			wantParse(t, text[:at]+text[at+1:])
		}
	}
}

// Lines taken away, doubled, brought from elsewhere, put in another order.
func TestParseLines(t *testing.T) {
	for _, text := range samples() {
		lines := linesOf(text)
		for i := range lines {
			wantParse(t, strings.Join(slices.Delete(slices.Clone(lines), i, i+1), ""))
			for j := range lines {
				wantParse(t, strings.Join(slices.Insert(slices.Clone(lines), j, lines[i]), ""))
				other := slices.Clone(lines)
				other[i], other[j] = other[j], other[i]
				wantParse(t, strings.Join(other, ""))
			}
		}
	}
}

// Several things turned at once, of drawn armours.
func TestParseTurnedOften(t *testing.T) {
	r := drawn(22)
	for range 3000 {
		b := []byte(modelArmour(drawnLabel(r), drawnHeaders(r, 4), drawnBody(r)))
		for range 1 + r.Intn(3) {
			at := r.Intn(len(b))
			switch r.Intn(3) {
			case 0:
				b[at] = turned[r.Intn(len(turned))]
			case 1:
				b = slices.Insert(b, at, turned[r.Intn(len(turned))])
			default:
				b = slices.Delete(b, at, min(len(b), at+1+r.Intn(3)))
			}
		}
		wantParse(t, string(b))
	}
}

// The line that is told is the first with which no armour's text can begin so: those ahead of it can be gone on with, and are an armour then.
func TestParseFirstLine(t *testing.T) {
	r := drawn(23)
	for range 2000 {
		b := []byte(modelArmour(drawnLabel(r), drawnHeaders(r, 3), drawnBody(r)))
		b[r.Intn(len(b))] = turned[r.Intn(len(turned))]
		_, _, _, errno, line := keyfile.Parse(string(b))
		if errno == api.OK {
			continue
		}
		ahead := strings.Split(string(b), "\n")[:line-1]
		whole := completed(ahead)
		if _, _, _, errno, at := keyfile.Parse(whole); errno != api.OK || !strings.HasPrefix(whole, strings.Join(ahead, "\n")) {
			t.Fatalf("Parse(%q): line %d, but of %q: %v in line %d", b, line, whole, errno, at)
		}
	}
}

func TestParseAnything(t *testing.T) {
	r := drawn(24)
	for range 2000 {
		wantParse(t, string(upTo(r, 300)))
		wantParse(t, drawnText(r, turned, r.Intn(100)))
	}
}

// A text of MaxText bytes is read; one byte more is too much, whatever it is.
func TestParseLong(t *testing.T) {
	most := strings.Repeat("\n", api.MaxText)
	wantFault(t, most, 1)
	for _, text := range []string{most + "\n", modelArmour("A", nil, nil) + most} {
		if label, headers, b, errno, line := keyfile.Parse(text); label != "" || len(headers) != 0 || len(b) != 0 || errno != api.ErrText || line != 0 {
			t.Fatalf("Parse of %d bytes: %q %q %d bytes %v in line %d", len(text), label, headers, len(b), errno, line)
		}
	}
	full := strings.Repeat(strings.Repeat("A", 64)+"\n", (api.MaxText-19)/65)
	text := "-----BEGIN A-----\n\n" + full
	text += strings.Repeat("x", api.MaxText-len(text))
	wantFault(t, text, firstTooMuch)
}

// firstTooMuch is the line by which the bytes come to be too many, of an armour without headers: the two lines ahead of the bytes, the full lines of as many as there may be, and it.
const firstTooMuch = 2 + mostBytes/48 + 1

// wantTaken: Parse takes the text of these, and Armour writes it.
func wantTaken(t *testing.T, label string, headers []api.Header, b []byte) {
	t.Helper()
	text := modelArmour(label, headers, b)
	l, hs, got, errno, line := keyfile.Parse(text)
	if l != label || !slices.Equal(hs, headers) || string(got) != string(b) || errno != api.OK || line != 0 {
		t.Fatalf("Parse of the armour of %d bytes: %q %q %d bytes %v in line %d", len(b), l, hs, len(got), errno, line)
	}
	if again, errno := keyfile.Armour(l, hs, got); errno != api.OK || again != text {
		t.Fatalf("Armour of %d bytes: %d letters, %v", len(b), len(again), errno)
	}
}

// The texts of the most bytes that Armour takes, and of fewer, whose last lines end anyhow.
func TestParseMost(t *testing.T) {
	b := drawnBytes(drawn(25), mostBytes)
	for _, n := range []int{mostBytes, mostBytes - 1, mostBytes - 2, mostBytes - mostBytes%48, mostBytes - mostBytes%48 - 1} {
		wantTaken(t, "A", nil, b[:n])
	}
	var headers []api.Header
	for i := range 16 {
		headers = append(headers, api.Header{Name: strings.Repeat("n", 31) + string(rune('A'+i)), Value: strings.Repeat("v", 200)})
	}
	wantTaken(t, strings.Repeat("A", 32), headers, b)
}

// P14.6: what Armour refuses to write is no text that Parse takes.
func TestParseTooMuch(t *testing.T) {
	b := drawnBytes(drawn(26), api.MaxText*3/4)
	for _, n := range []int{mostBytes + 1, mostBytes + 2, mostBytes + 3, mostBytes + 15, mostBytes + 16, mostBytes + 17, mostBytes + 64, mostBytes + 4800, api.MaxText*3/4 - api.MaxText/64} {
		text := modelArmour("A", nil, b[:n])
		if len(text) > api.MaxText {
			t.Fatalf("the text of %d bytes is too long", n)
		}
		wantNoArmour(t, "A", nil, b[:n], api.ErrLong)
		wantFault(t, text, firstTooMuch)
		wantFault(t, modelArmour("A", sixteen(), b[:n]), firstTooMuch+16)
	}
}

// A fault ahead of the line by which the bytes are too many goes ahead of it; one in it or behind it changes nothing.
func TestParseTooMuchTurned(t *testing.T) {
	text := modelArmour("A", nil, drawnBytes(drawn(27), mostBytes+200))
	lines := linesOf(text)
	turn := func(line int, to string) string {
		other := slices.Clone(lines)
		other[line-1] = to
		return strings.Join(other, "")
	}
	for line, told := range map[int]int{1: 1, 2: 2, 3: 3, firstTooMuch - 1: firstTooMuch - 1, firstTooMuch: firstTooMuch, firstTooMuch + 1: firstTooMuch, len(lines) - 1: firstTooMuch, len(lines): firstTooMuch} {
		wantFault(t, turn(line, "~\n"), told)
	}
	ahead := strings.Join(lines[:firstTooMuch-1], "")
	wantFault(t, ahead, firstTooMuch)
	wantFault(t, ahead+lines[firstTooMuch-1][:64], firstTooMuch)
	wantFault(t, ahead+lines[firstTooMuch-1], firstTooMuch)
	wantFault(t, ahead+"=\n", firstTooMuch)
	for last, told := range map[string]int{"AA==": 1, "AAA=": 1, "AAE=": 1, "AAB=": 0, "AAAA": 0, "AAAAAA==": 0} {
		wantFault(t, ahead+strings.Repeat("A", 40)+last+"\n", firstTooMuch+told)
	}
}
