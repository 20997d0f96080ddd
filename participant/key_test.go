package participant_test

import (
	"math"
	"testing"

	"rime/api"
	"rime/drbg"
	"rime/edwards"
	"rime/participant"
	"rime/store"
)

func wrongIDs() []int {
	return []int{0, -1, -2, -255, 256, 257, 511, 1 << 16, 1<<16 + 1, 1<<32 + 1, -1 << 32, math.MaxInt, math.MinInt, math.MinInt + 1}
}

func wrongThresholds() []int {
	return []int{1, 0, -1, -2, 256, 257, 258, 1<<16 + 2, 1<<32 + 2, math.MaxInt, math.MinInt, math.MinInt + 2}
}

// wantKey: CheckKey, and New, which answers the same ahead of everything else.
func wantKey(t *testing.T, key api.KeyShare, expected api.Errno) {
	t.Helper()
	if got := participant.CheckKey(key); got != expected {
		t.Fatalf("CheckKey of %x: %v, not %v", key, got, expected)
	}
	disk := store.NewDisk()
	disk.Append([]byte("a rest"))
	p, err := participant.New(key, disk, drbg.NewTape(nil))
	wantRefusal(t, "New", err, api.Hash{}, expected)
	if expected == api.OK {
		if p == nil || p.Look() != (api.SignerLook{ID: key.ID}) || len(disk.Bytes()) != 0 {
			t.Fatalf("New of %x: %v, %d bytes", key, p.Look(), len(disk.Bytes()))
		}
		return
	}
	if p != nil || len(disk.Bytes()) != 6 {
		t.Fatalf("New, refused: %v, %d bytes", p, len(disk.Bytes()))
	}
	_, err = participant.New(key, nil, nil)
	wantRefusal(t, "New of nothing", err, api.Hash{}, expected)
}

func TestKeys(t *testing.T) {
	r := drawn(1)
	for threshold := 2; threshold < 6; threshold++ {
		shares, _ := dealt(t, r, threshold, 1, 2, 3, 100, 254, 255)
		for _, k := range shares {
			wantKey(t, k, api.OK)
			k.Threshold = 255 // more than there are shares: nobody asks
			wantKey(t, k, api.OK)
			k.Secret = above(k.Secret, 1+r.Int63n(14))
			wantKey(t, k, api.OK)
			k.Group = edwards.MulBase(drawnScalar(r)) // another group's: that doesn't show in a share
			wantKey(t, k, api.OK)
		}
	}
}

func TestWrongKeys(t *testing.T) {
	r := drawn(2)
	shares, _ := dealt(t, r, 2, 7, 8)
	key := shares[0]
	for _, id := range wrongIDs() {
		k := key
		k.ID = id
		wantKey(t, k, api.ErrID)
	}
	for _, threshold := range wrongThresholds() {
		k := key
		k.Threshold = threshold
		wantKey(t, k, api.ErrThreshold)
	}
	for n := range int64(16) {
		k := key
		k.Secret = above(api.Scalar{}, n)
		wantKey(t, k, api.ErrZero)
		k.Public = edwards.Identity() // which would be its Exp
		wantKey(t, k, api.ErrZero)
	}
	for _, e := range wrongElements(r) {
		k := key
		k.Group = e
		wantKey(t, k, api.ErrPublic)
		k = key
		k.Public = e
		wantKey(t, k, api.ErrMismatch)
	}
	for bit := range 256 {
		k := key
		k.Public[bit/8] ^= 1 << (bit % 8)
		wantKey(t, k, api.ErrMismatch)
		k = key
		k.Secret[bit/8] ^= 1 << (bit % 8)
		wantKey(t, k, api.ErrMismatch)
	}
	for _, e := range []api.Element{key.Group, shares[1].Public, {}} {
		k := key
		k.Public = e
		wantKey(t, k, api.ErrMismatch)
	}
}

// The least and the greatest that may be.
func TestKeysOfEnds(t *testing.T) {
	r := drawn(3)
	less := above(api.Scalar{}, 1)
	less[0]--
	for _, secret := range []api.Scalar{{1}, {2}, less, above(api.Scalar{1}, 15)} {
		for _, id := range []int{1, 255} {
			for _, threshold := range []int{2, 255} {
				key := api.KeyShare{ID: id, Threshold: threshold, Secret: secret, Public: edwards.MulBase(secret), Group: edwards.MulBase(drawnScalar(r))}
				if secret == above(api.Scalar{1}, 15) {
					key.Public = edwards.MulBase(api.Scalar{1})
				}
				wantKey(t, key, api.OK)
				key.Group = key.Public
				wantKey(t, key, api.OK)
			}
		}
	}
}

// P4: of several errors New answers that which its chapter names first.
func TestOrderOfNew(t *testing.T) {
	r := drawn(4)
	shares, _ := dealt(t, r, 2, 7, 8)
	spoils := []struct {
		errno api.Errno
		spoil func(k *api.KeyShare)
	}{
		{api.ErrID, func(k *api.KeyShare) { k.ID = 256 }},
		{api.ErrThreshold, func(k *api.KeyShare) { k.Threshold = 1 }},
		{api.ErrZero, func(k *api.KeyShare) { k.Secret = above(api.Scalar{}, 2) }},
		{api.ErrPublic, func(k *api.KeyShare) { k.Group = edwards.Identity() }},
		{api.ErrMismatch, func(k *api.KeyShare) { k.Public = shares[1].Public }},
	}
	for mask := range 1 << len(spoils) {
		key, expected := shares[0], api.OK
		for i := len(spoils) - 1; i >= 0; i-- {
			if mask>>i&1 == 1 {
				spoils[i].spoil(&key)
				expected = spoils[i].errno
			}
		}
		wantKey(t, key, expected)
	}
}

func TestNewOverNothing(t *testing.T) {
	shares, _ := dealt(t, drawn(5), 2, 7, 8)
	down := store.NewDisk()
	down.Append([]byte("a rest"))
	down.Fuse(0)
	for _, d := range []*store.Disk{nil, {}, down, store.NewDisk()} {
		p, err := participant.New(shares[0], d, nil)
		wantRefusal(t, "New without a source", err, api.Hash{}, api.ErrArg)
		if p != nil || d.Off() {
			t.Fatal("New without a source: a participant, or its disk was written to")
		}
	}
	for range 2 {
		for _, d := range []*store.Disk{nil, {}} {
			p, err := participant.New(shares[0], d, drbg.NewTape(nil))
			wantRefusal(t, "New without a disk", err, api.Hash{}, api.ErrMade)
			if p != nil {
				t.Fatal("New without a disk: a participant")
			}
		}
		p, err := participant.New(shares[0], down, drbg.NewTape(nil))
		wantRefusal(t, "New over a disk whose rest stays", err, api.Hash{}, api.ErrDown)
		if p != nil || !down.Off() {
			t.Fatal("New over a disk whose rest stays: a participant")
		}
	}
	down.Crash(6)
	p, err := participant.New(shares[0], down, drbg.NewTape(nil))
	wantRefusal(t, "New over a disk with a rest", err, api.Hash{}, api.OK)
	if p.Look() != (api.SignerLook{ID: 7}) || len(down.Bytes()) != 0 {
		t.Fatalf("New over a disk with a rest: %v, %d bytes", p.Look(), len(down.Bytes()))
	}
}

// A disk that is off, and has no rest, is not written to by New.
func TestNewOverADiskThatIsOff(t *testing.T) {
	r := drawn(6)
	shares, _ := dealt(t, r, 2, 7, 8)
	w := born(t, shares[0], nil, turnsOf(drawnRandoms(r, 4)...))
	pair := w.mustAsk(t, api.Hash{1})
	w.fuse(0)
	_, errno := w.ask(t, api.Hash{2})
	wantErrno(t, "Ask", errno, api.ErrDown)
	w, ok := w.reborn(t, shares[0], turnsOf(drawnRandoms(r, 4)...))
	if !ok || w.p.Look() != (api.SignerLook{ID: 7, Pairs: 1}) {
		t.Fatalf("New over a disk that is off: %v", w.p.Look())
	}
	_, errno = w.sign(t, api.Hash{1}, []api.Commitment{pair, commitmentOf(r, 8)}, nil)
	wantErrno(t, "Sign", errno, api.ErrDown)
}
