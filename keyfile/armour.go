package keyfile

import (
	"slices"
	"strings"

	"rime/api"
	"rime/sha512"
)

const (
	longestLabel = 32
	mostHeaders  = 16
	longestName  = 32
	longestValue = 200
	longestBytes = api.MaxText / 2
	lineLetters  = 64
	checkBytes   = 3

	beginning = "-----BEGIN "
	ending    = "-----END "
	dashes    = "-----"
	between   = ": "
)

// Armour: bytes as a text.
func Armour(label string, headers []api.Header, b []byte) (string, api.Errno) {
	if !isLabel(label) || !areHeaders(headers) {
		return "", api.ErrLabel
	}
	if len(b) > longestBytes {
		return "", api.ErrLong
	}
	var text strings.Builder
	text.WriteString(beginning + label + dashes + "\n")
	text.WriteString(headLines(headers))
	text.WriteString("\n")
	letters := base64(b)
	for len(letters) > 0 {
		line := letters[:min(lineLetters, len(letters))]
		text.WriteString(line + "\n")
		letters = letters[len(line):]
	}
	text.WriteString(checkLine(b) + "\n")
	text.WriteString(endLine(label) + "\n")
	return text.String(), api.OK
}

// headLines: the headers as lines.
func headLines(headers []api.Header) string {
	lines := ""
	for i := range len(headers) {
		lines += headers[i].Name + between + headers[i].Value + "\n"
	}
	return lines
}

func checkLine(b []byte) string {
	digest := sha512.Sum(b)
	return filling + base64(digest[:checkBytes])
}

func endLine(label string) string { return ending + label + dashes }

func isLabel(label string) bool {
	return 1 <= len(label) && len(label) <= longestLabel &&
		only(label, isOfLabel) && isTrimmed(label) && !strings.Contains(label, "  ")
}

func areHeaders(headers []api.Header) bool {
	for i := range len(headers) {
		if !isNext(headers[:i], headers[i]) {
			return false
		}
	}
	return true
}

// isNext: may the header stand behind these?
func isNext(ahead []api.Header, h api.Header) bool {
	return len(ahead) < mostHeaders && isName(h.Name) && isValue(h.Value) &&
		!slices.ContainsFunc(ahead, func(other api.Header) bool { return other.Name == h.Name })
}

func isName(name string) bool {
	return 1 <= len(name) && len(name) <= longestName && only(name, isOfName)
}

func isValue(value string) bool {
	return len(value) <= longestValue && only(value, isOfValue) && isTrimmed(value)
}

// isTrimmed: no blank stands at its ends.
func isTrimmed(text string) bool { return strings.Trim(text, " ") == text }

// only: are all bytes of the text of a kind?
func only(text string, kind func(c byte) bool) bool {
	for i := range len(text) {
		if !kind(text[i]) {
			return false
		}
	}
	return true
}

func isOfLabel(c byte) bool { return isCapital(c) || '0' <= c && c <= '9' || c == ' ' }

func isOfName(c byte) bool { return isCapital(c) || 'a' <= c && c <= 'z' || c == '-' }

func isOfValue(c byte) bool { return 32 <= c && c <= 126 }

func isCapital(c byte) bool { return 'A' <= c && c <= 'Z' }
