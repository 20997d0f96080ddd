package keyfile

import (
	"strings"

	"rime/api"
)

// Parse: what a text is the armour of; else the error and the line.
func Parse(text string) (string, []api.Header, []byte, api.Errno, int) {
	if len(text) > api.MaxText {
		return "", nil, nil, api.ErrText, 0
	}
	r := newReader()
	if line := r.read(linesOf(text)); line != 0 {
		return "", nil, nil, api.ErrArmour, line
	}
	return r.label, r.headers, r.bytes, api.OK, 0
}

// linesOf tells a text's lines, one at each call; behind the last newline it tells what is left, which is no whole line.
func linesOf(text string) func() (string, bool) {
	return func() (string, bool) {
		line, rest, whole := strings.Cut(text, "\n")
		text = rest
		return line, whole
	}
}

// reader has what an armour's lines have told so far, and what the next one must be (nil: there must be none).
type reader struct {
	label   string
	headers []api.Header
	bytes   []byte
	next    func(line string) bool
}

func newReader() *reader {
	r := &reader{}
	r.next = r.begin
	return r
}

// read: the number of the first line that is not what it must be; 0, if there is none.
func (r *reader) read(tell func() (string, bool)) int {
	number := 1
	for ; r.next != nil; number++ {
		line, whole := tell()
		if !whole || !r.next(line) {
			return number
		}
	}
	if line, whole := tell(); whole || line != "" {
		return number
	}
	return 0
}

func (r *reader) begin(line string) bool {
	line, begins := strings.CutPrefix(line, beginning)
	label, ends := strings.CutSuffix(line, dashes)
	r.label, r.next = strings.Clone(label), r.head
	return begins && ends && isLabel(label)
}

// head: a header, or the empty line behind them.
func (r *reader) head(line string) bool {
	if line == "" {
		r.next = r.body
		return true
	}
	name, value, parted := strings.Cut(line, between)
	h := api.Header{Name: strings.Clone(name), Value: strings.Clone(value)}
	if !parted || !isNext(r.headers, h) {
		return false
	}
	r.headers = append(r.headers, h)
	return true
}

// body: bytes, or what checks them. Behind a line that is not full no more bytes can come; of more bytes than Armour takes no text is the armour.
func (r *reader) body(line string) bool {
	if strings.HasPrefix(line, filling) {
		return r.check(line)
	}
	if line == "" || len(line) > lineLetters {
		return false
	}
	b, ok := bytesOf(line)
	r.bytes = append(r.bytes, b...)
	if len(b) < lineLetters/4*3 {
		r.next = r.check
	}
	return ok && len(r.bytes) <= longestBytes
}

func (r *reader) check(line string) bool {
	r.next = r.end
	return line == checkLine(r.bytes)
}

func (r *reader) end(line string) bool {
	r.next = nil
	return line == endLine(r.label)
}
