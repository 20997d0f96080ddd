package keyfile_test

import (
	"slices"
	"strings"
	"testing"

	"rime/api"
	"rime/edwards"
	"rime/keyfile"
)

func group() api.GroupKeys {
	return api.GroupKeys{Threshold: 2, Group: pointOf(small(5)), Publics: []api.PublicShare{
		{ID: 1, Public: pointOf(small(12))}, {ID: 2, Public: pointOf(small(19))}, {ID: 255, Public: pointOf(small(26))},
	}}
}

func wantPackGroupTrouble(t *testing.T, keys api.GroupKeys, why api.Errno) {
	t.Helper()
	text, err := keyfile.PackGroup(keys)
	if text != "" {
		t.Fatalf("PackGroup(%v): %q beside %v", keys, text, err)
	}
	wantTrouble(t, "PackGroup", err, why, place{"keys", 0}, place{"check", 0})
}

func wantGroup(t *testing.T, keys api.GroupKeys) {
	t.Helper()
	want := modelArmour(groupLabel, nil, bodyOfKeys(keys))
	if text, err := keyfile.PackGroup(keys); err != nil || text != want {
		t.Fatalf("PackGroup(%v): %q %v, not %q", keys, text, err, want)
	}
	if got, err := keyfile.UnpackGroup(want); err != nil || !sameKeys(got, keys) {
		t.Fatalf("UnpackGroup(%q): %v %v, not %v", want, got, err, keys)
	}
}

// P14.5, each byte of the text; keys that do not fit together may be, too.
func TestGroupDrawn(t *testing.T) {
	r := drawn(40)
	for range 100 {
		wantGroup(t, drawnKeys(r, 12))
	}
	wantGroup(t, group())
	wantGroup(t, drawnKeys(r, 2))
	all := api.GroupKeys{Threshold: 255, Group: pointOf(small(1))}
	for id := range 255 {
		all.Publics = append(all.Publics, api.PublicShare{ID: id + 1, Public: pointOf(small(id%30 + 1))})
	}
	wantGroup(t, all)
}

// groupsThatMayNotBe: what CheckKeys says of each; those of which a body can tell.
func groupsThatMayNotBe() map[api.Errno][]api.GroupKeys {
	out := map[api.Errno][]api.GroupKeys{}
	add := func(why api.Errno, change func(*api.GroupKeys)) {
		keys := copyOfKeys(group())
		change(&keys)
		out[why] = append(out[why], keys)
	}
	for _, threshold := range []int{0, 1} {
		add(api.ErrThreshold, func(k *api.GroupKeys) { k.Threshold = threshold })
	}
	add(api.ErrCount, func(k *api.GroupKeys) { k.Threshold = 4 })
	add(api.ErrCount, func(k *api.GroupKeys) { k.Threshold = 255 })
	add(api.ErrCount, func(k *api.GroupKeys) { k.Publics = nil })
	add(api.ErrID, func(k *api.GroupKeys) { k.Publics[0].ID = 0 })
	add(api.ErrTwice, func(k *api.GroupKeys) { k.Publics[1].ID = 1 })
	add(api.ErrOrder, func(k *api.GroupKeys) { k.Publics[2].ID = 1 })
	identity, small := edwards.Identity(), api.Element{}
	for _, e := range []api.Element{identity, small, {2}} {
		add(api.ErrPublic, func(k *api.GroupKeys) { k.Group = e })
		add(api.ErrPublic, func(k *api.GroupKeys) { k.Publics[2].Public = e })
	}
	return out
}

func TestPackGroupWrong(t *testing.T) {
	for why, groups := range groupsThatMayNotBe() {
		for _, keys := range groups {
			wantPackGroupTrouble(t, keys, why)
		}
	}
	wantPackGroupTrouble(t, api.GroupKeys{}, api.ErrThreshold)
	for _, threshold := range []int{-1, 256, 258} {
		keys := group()
		keys.Threshold = threshold
		wantPackGroupTrouble(t, keys, api.ErrThreshold)
	}
	for _, id := range []int{-1, 256, 258} {
		keys := group()
		keys.Publics[1].ID = id
		wantPackGroupTrouble(t, keys, api.ErrID)
	}
	many := group()
	for range 253 {
		many.Publics = append(many.Publics, many.Publics[2])
	}
	wantPackGroupTrouble(t, many, api.ErrCount)
	keys := group()
	keys.Publics[1].ID = 1
	_, err := keyfile.PackGroup(keys)
	wantText(t, err, "keys: check: rime 5")
}

func TestUnpackGroupWrong(t *testing.T) {
	for why, groups := range groupsThatMayNotBe() {
		for _, keys := range groups {
			wantUnpackGroupTrouble(t, modelArmour(groupLabel, nil, bodyOfKeys(keys)), why, place{"keys", 0}, place{"check", 0})
		}
	}
	body := bodyOfKeys(group())
	for n := range len(body) {
		wantUnpackGroupTrouble(t, modelArmour(groupLabel, nil, body[:n]), api.ErrKeys, place{"body", 0})
	}
	for _, more := range []int{1, 33, 66} {
		wantUnpackGroupTrouble(t, modelArmour(groupLabel, nil, append(slices.Clone(body), make([]byte, more)...)), api.ErrKeys, place{"body", 0})
	}
	for count := range 256 {
		other := slices.Clone(body)
		other[33] = byte(count)
		if count != 3 {
			wantUnpackGroupTrouble(t, modelArmour(groupLabel, nil, other), api.ErrKeys, place{"body", 0})
		}
	}
}

func TestUnpackGroupArmour(t *testing.T) {
	text, _ := keyfile.PackGroup(group())
	for n := range len(text) {
		wantUnpackGroupTrouble(t, text[:n], api.ErrArmour, place{"armour", strings.Count(text[:n], "\n") + 1})
	}
	wantUnpackGroupTrouble(t, strings.Repeat("\n", api.MaxText+1), api.ErrText, place{"armour", 0})
	wantUnpackGroupTrouble(t, modelArmour(groupLabel, nil, make([]byte, mostBytes+1)), api.ErrArmour, place{"armour", firstTooMuch})
	body := bodyOfKeys(group())
	for _, label := range []string{"A", shareLabel, "RIME GROUP KEY", "RIME GROUP KEYS 2"} {
		wantUnpackGroupTrouble(t, modelArmour(label, nil, body), api.ErrArmour, place{"label", 1})
	}
	for _, headers := range [][]api.Header{{{Name: "X"}}, {{Name: "Y", Value: "v"}, {Name: "X"}}, sixteen(), how{rounds: 1}.headers()} {
		wantUnpackGroupTrouble(t, modelArmour(groupLabel, headers, body), api.ErrArmour, place{"headers", 2}, place{headers[0].Name, 2})
	}
	_, err := keyfile.UnpackGroup(modelArmour(groupLabel, []api.Header{{Name: "X"}}, body))
	wantText(t, err, "headers in line 2: X in line 2: rime 142")
}

// The order of faults: each of them hides those behind it.
func TestUnpackGroupOrder(t *testing.T) {
	wrong := []api.Header{{Name: "X"}}
	zeros := make([]byte, 35)
	wantUnpackGroupTrouble(t, modelArmour("A", wrong, zeros)[1:], api.ErrArmour, place{"armour", 1})
	wantUnpackGroupTrouble(t, modelArmour("A", wrong, zeros), api.ErrArmour, place{"label", 1})
	wantUnpackGroupTrouble(t, modelArmour(groupLabel, wrong, zeros), api.ErrArmour, place{"headers", 2}, place{"X", 2})
	wantUnpackGroupTrouble(t, modelArmour(groupLabel, nil, zeros), api.ErrKeys, place{"body", 0})
	wantUnpackGroupTrouble(t, modelArmour(groupLabel, nil, zeros[:34]), api.ErrThreshold, place{"keys", 0}, place{"check", 0})
}
