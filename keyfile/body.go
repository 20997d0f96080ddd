package keyfile

import (
	"rime/api"
	"rime/frost"
	"rime/scalar"
	"rime/suite"
)

const (
	shareBytes  = 1 + 1 + 3*32
	groupBytes  = 1 + 32 + 1
	publicBytes = 1 + 32
)

// bodyOfShare: only of a key share that may be, so that its numbers are bytes.
func bodyOfShare(key api.KeyShare) []byte {
	body := []byte{byte(key.ID), byte(key.Threshold)}
	body = append(body, key.Secret[:]...)
	body = append(body, key.Public[:]...)
	return append(body, key.Group[:]...)
}

func shareOf(body []byte) (api.KeyShare, bool) {
	if len(body) != shareBytes {
		return api.KeyShare{}, false
	}
	key := api.KeyShare{
		ID:        int(body[0]),
		Threshold: int(body[1]),
		Secret:    api.Scalar(body[2:34]),
		Public:    api.Element(body[34:66]),
		Group:     api.Element(body[66:]),
	}
	return key, mayBe(key)
}

// mayBe: may a key share be?
func mayBe(key api.KeyShare) bool {
	if key.ID < 1 || key.ID > api.MaxID || key.Threshold < api.MinSigners || key.Threshold > api.MaxID || !scalar.Canonical(key.Secret) {
		return false
	}
	public, isZero := suite.Exp(key.Secret)
	_, isNone := suite.GetElement(key.Group[:])
	return isZero == api.OK && isNone == api.OK && public == key.Public
}

// bodyOfGroup: only of keys that may be.
func bodyOfGroup(keys api.GroupKeys) []byte {
	body := append([]byte{byte(keys.Threshold)}, keys.Group[:]...)
	body = append(body, byte(len(keys.Publics)))
	for i := range len(keys.Publics) {
		body = append(body, byte(keys.Publics[i].ID))
		body = append(body, keys.Publics[i].Public[:]...)
	}
	return body
}

// groupOf: whatever keys the body tells, unless it is too short or too long for them.
func groupOf(body []byte) (api.GroupKeys, bool) {
	if len(body) < groupBytes || len(body) != groupBytes+publicBytes*int(body[groupBytes-1]) {
		return api.GroupKeys{}, false
	}
	keys := api.GroupKeys{Threshold: int(body[0]), Group: api.Element(body[1:33])}
	for i := range int(body[groupBytes-1]) {
		at := groupBytes + publicBytes*i
		keys.Publics = append(keys.Publics, api.PublicShare{ID: int(body[at]), Public: api.Element(body[at+1 : at+publicBytes])})
	}
	return keys, true
}

// troubleOf: what CheckKeys says of a group's keys.
func troubleOf(keys api.GroupKeys) error {
	if errno := frost.CheckKeys(keys); errno != api.OK {
		return trouble("keys", 0, trouble("check", 0, errno))
	}
	return nil
}
