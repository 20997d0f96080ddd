package participant

import (
	"bytes"
	"slices"

	"rime/api"
	"rime/frost"
	"rime/sha512"
)

// bindLabel stands ahead of what a share says that it is for.
const bindLabel = "RIME-BIND-v1"

// sign: a share, as a message to be sent.
func (p *Participant) sign(list []api.Commitment, text []byte) (api.Message, api.Errno) {
	bind, errno := bindOf(list, text)
	if errno != api.OK {
		return api.Message{}, errno
	}
	// Copies: a guard that has its hands on what was handed in can't turn it behind the checks.
	list, text = slices.Clone(list), bytes.Clone(text)
	pair, errno := p.ownOf(list)
	if errno != api.OK {
		return api.Message{}, errno
	}
	if errno := p.allow(list, text); errno != api.OK {
		return api.Message{}, errno
	}
	share, errno := p.use(pair, list, text)
	if errno != api.OK {
		return api.Message{}, errno
	}
	return api.Message{Kind: api.KindShare, Pair: pair, Bind: bind, Share: share}, api.OK
}

// bindOf: what a share for these bears, or why they may not be, whoever signs.
func bindOf(list []api.Commitment, text []byte) (api.Hash, api.Errno) {
	if len(text) > api.MaxMessage {
		return api.Hash{}, api.ErrLong
	}
	code, errno := frost.EncodeList(list)
	if errno != api.OK {
		return api.Hash{}, errno
	}
	var count [8]byte
	count[0] = byte(len(list)) // the others stay 0, as a list has at most MaxID
	return sha512.Short([]byte(bindLabel), count[:], code, text), api.OK
}

// ownOf: the commitment under its ID, whose pair is there, in a list that may be.
func (p *Participant) ownOf(list []api.Commitment) (api.Commitment, api.Errno) {
	if len(list) < p.key.Threshold {
		return api.Commitment{}, api.ErrCount
	}
	at := slices.IndexFunc(list, func(c api.Commitment) bool { return c.ID == p.key.ID })
	if at < 0 {
		return api.Commitment{}, api.ErrMissing
	}
	own := list[at]
	if errno := p.pairs.Has(own.Hiding, own.Binding); errno != api.OK {
		return api.Commitment{}, errno
	}
	return own, api.OK
}

// allow: why these are not signed though the pair is there, or OK. All that could hinder a share is asked here, ahead of the pair's use.
func (p *Participant) allow(list []api.Commitment, text []byte) api.Errno {
	factors, errno := frost.Factors(p.key.Group, list, text)
	if errno != api.OK {
		return errno
	}
	if _, errno := frost.GroupCommitment(list, factors); errno != api.OK {
		return errno
	}
	if p.guard == nil {
		return api.OK
	}
	return safely(func() api.Errno { return p.guard(bytes.Clone(text)) })
}

// use: the share's value. The pair is used first: what goes wrong behind that costs the pair, never a second share.
func (p *Participant) use(pair api.Commitment, list []api.Commitment, text []byte) (api.Scalar, api.Errno) {
	nonces, errno := p.pairs.Take(pair.Hiding, pair.Binding)
	if errno != api.OK {
		return api.Scalar{}, errno
	}
	share, errno := frost.Sign(p.key, nonces, list, text)
	return share.Value, errno
}
