package participant

import (
	"rime/api"
	"rime/frost"
)

// pairFor: the pair of a session, the same as long as it is there. A session that has used it gets no other one.
func (p *Participant) pairFor(session api.Hash) (api.Commitment, api.Errno) {
	pair, ok := p.asked[session]
	if !ok {
		return p.firstFor(session)
	}
	if p.pairs.Has(pair.Hiding, pair.Binding) != api.OK {
		return api.Commitment{}, api.ErrUsed
	}
	return pair, api.OK
}

// firstFor: a new pair, which the session then has.
func (p *Participant) firstFor(session api.Hash) (api.Commitment, api.Errno) {
	pair, errno := p.newPair()
	if errno != api.OK {
		return api.Commitment{}, errno
	}
	p.asked[session] = pair
	return pair, api.OK
}

// newPair: its nonces are in the store ahead of its commitment's going out. Nothing is drawn for a store that would not take them.
func (p *Participant) newPair() (api.Commitment, api.Errno) {
	switch {
	case p.isBroken():
		return api.Commitment{}, api.ErrDown
	case p.pairs.Len() >= api.MaxStore:
		return api.Commitment{}, api.ErrFull
	}
	nonces, pair, errno := p.draw()
	if errno != api.OK {
		return api.Commitment{}, errno
	}
	if _, errno := p.pairs.Put(nonces); errno != api.OK {
		return api.Commitment{}, errno
	}
	return pair, api.OK
}

// draw: nonces out of the source, and their commitment.
func (p *Participant) draw() (api.Nonces, api.Commitment, api.Errno) {
	hiding, errno := p.random()
	if errno != api.OK {
		return api.Nonces{}, api.Commitment{}, errno
	}
	binding, errno := p.random()
	if errno != api.OK {
		return api.Nonces{}, api.Commitment{}, errno
	}
	return frost.Commit(p.key.ID, p.key.Secret, hiding, binding)
}

// random: the source's next one.
func (p *Participant) random() (api.Random, api.Errno) {
	var r api.Random
	errno := safely(func() (errno api.Errno) {
		r, errno = p.source.Random()
		return errno
	})
	return r, errno
}

// isBroken: a store that is not broken has another reason to refuse nonces of 0, and nothing changes by asking.
func (p *Participant) isBroken() bool {
	_, errno := p.pairs.Put(api.Nonces{})
	return errno == api.ErrDown
}
