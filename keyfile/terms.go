package keyfile

import (
	"strconv"

	"rime/api"
	"rime/seal"
)

// terms are what a key share is sealed with, beside the passphrase; its headers tell them to everybody.
type terms struct {
	rounds int
	salt   api.Random
	nonce  api.Nonce
}

// names are the headers of a key share, in their order.
var names = [3]string{"Rounds", "Salt", "Nonce"}

func (m terms) headers() []api.Header {
	values := [len(names)]string{strconv.Itoa(m.rounds), hexadecimal(m.salt[:]), hexadecimal(m.nonce[:])}
	headers := make([]api.Header, len(names))
	for i := range len(names) {
		headers[i] = api.Header{Name: names[i], Value: values[i]}
	}
	return headers
}

// termsOf: what the headers tell, or the first that is not what it must be.
func termsOf(headers []api.Header) (terms, error) {
	var m terms
	for i := range len(names) {
		if i == len(headers) {
			return terms{}, troubleOfHeader(names[i], i)
		}
		if headers[i].Name != names[i] || !m.take(i, headers[i].Value) {
			return terms{}, troubleOfHeader(headers[i].Name, i)
		}
	}
	if err := noneBehind(headers, len(names)); err != nil {
		return terms{}, err
	}
	return m, nil
}

// take: is it of the form of the header in that place?
func (m *terms) take(place int, value string) bool {
	switch place {
	case 0:
		rounds, ok := roundsOf(value)
		m.rounds = rounds
		return ok
	case 1:
		return unhex(m.salt[:], value)
	default:
		return unhex(m.nonce[:], value)
	}
}

// noneBehind: so many headers there may be; the first one too many is told.
func noneBehind(headers []api.Header, most int) error {
	if len(headers) > most {
		return troubleOfHeader(headers[most].Name, most)
	}
	return nil
}

// troubleOfHeader: the first header, in place 0, stands in line 2.
func troubleOfHeader(name string, place int) error {
	return trouble("headers", 2, trouble(name, 2+place, api.ErrArmour))
}

// open is what stands openly beside the sealed body: the headers' lines.
func (m terms) open() []byte { return []byte(headLines(m.headers())) }

func (m terms) seal(pass []byte, body []byte) []byte {
	return seal.Seal(m.key(pass), m.nonce, m.open(), body)
}

func (m terms) unseal(pass []byte, sealed []byte) ([]byte, api.Errno) {
	return seal.Open(m.key(pass), m.nonce, m.open(), sealed)
}

// key: only of terms whose rounds may be, so that there is one.
func (m terms) key(pass []byte) api.Key {
	key, _ := Derive(pass, m.salt[:], m.rounds, len(api.Key{}))
	return api.Key(key)
}
