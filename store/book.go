package store

import (
	"cmp"
	"slices"

	"rime/api"
)

// held is a pair that is there.
type held struct {
	pair   api.Commitment
	nonces api.Nonces
	place  int // among all that came in, so that those that are left can be put in their order
}

// book is what a journal comes to: each pair by its commitments (their ID is 0).
type book struct {
	there map[api.Commitment]held
	used  map[api.Commitment]int // the place of each among them, by use
	came  int                    // how many came in
}

func newBook() book {
	return book{there: map[api.Commitment]held{}, used: map[api.Commitment]int{}}
}

// has: OK, ErrUsed or ErrUnknown.
func (b *book) has(pair api.Commitment) api.Errno {
	if _, ok := b.there[pair]; ok {
		return api.OK
	}
	if _, ok := b.used[pair]; ok {
		return api.ErrUsed
	}
	return api.ErrUnknown
}

// bring in a pair that is unknown.
func (b *book) bring(pair api.Commitment, nonces api.Nonces) {
	b.there[pair] = held{pair, nonces, b.came}
	b.came++
}

// use a pair that is not used yet.
func (b *book) use(pair api.Commitment) {
	delete(b.there, pair)
	b.used[pair] = len(b.used)
}

// read a file's records; it answers how many bytes the journal has. The rest begins there.
func (b *book) read(file []byte) int {
	records := len(file) / recordSize
	for place := range records {
		at := place * recordSize
		r, ok := readRecord(place, file[at:at+recordSize])
		if !ok || !b.follow(r) {
			return at
		}
	}
	return records * recordSize
}

// follow a record; false, if it may not be.
func (b *book) follow(r record) bool {
	pair, ok := r.pair()
	if !ok {
		return false
	}
	known := b.has(pair)
	switch {
	case r.kind == cameIn && known == api.ErrUnknown:
		b.bring(pair, r.nonces())
	case r.kind == wasUsed && known == api.OK:
		b.use(pair)
	case r.kind == onlyUsed && known == api.ErrUnknown:
		b.use(pair)
	default:
		return false
	}
	return true
}

// inOrder: the pairs that are there, in the order in which they came in.
func (b *book) inOrder() []held {
	var out []held
	for _, h := range b.there {
		out = append(out, h)
	}
	slices.SortFunc(out, func(x, y held) int { return cmp.Compare(x.place, y.place) })
	return out
}

// uses: the pairs that were used, in the order in which they were.
func (b *book) uses() []api.Commitment {
	out := make([]api.Commitment, len(b.used))
	for pair, place := range b.used {
		out[place] = pair
	}
	return out
}

// shortest: the fewest records that come to this book.
func (b *book) shortest() []record {
	var out []record
	for _, pair := range b.uses() {
		out = append(out, recordOfUse(onlyUsed, pair))
	}
	for _, h := range b.inOrder() {
		out = append(out, recordOfNonces(h.nonces))
	}
	return out
}
