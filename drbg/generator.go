package drbg

import (
	"slices"

	"rime/api"
)

const leastEntropy = 32

// pool is what the bytes come out of. It is made of arrays, so that even a copy of a generator shares nothing with it.
type pool struct {
	k, v api.Digest
}

func freshPool() pool {
	var p pool
	for i := range p.v {
		p.v[i] = 1
	}
	return p
}

// stirIn: the parts, one behind the other, now have to do with all that comes.
func (p *pool) stirIn(parts ...[]byte) {
	p.stirMarked(0, parts)
	if slices.ContainsFunc(parts, hasBytes) {
		p.stirMarked(1, parts)
	}
}

func (p *pool) stirMarked(mark byte, parts [][]byte) {
	ahead := [][]byte{p.v[:], {mark}}
	p.k = MAC(p.k[:], append(ahead, parts...)...)
	p.next()
}

// next: the next V.
func (p *pool) next() api.Digest {
	p.v = MAC(p.k[:], p.v[:])
	return p.v
}

func hasBytes(part []byte) bool { return len(part) > 0 }

// Generator draws bytes: a pool, and how often it was drawn from since it was seeded.
type Generator struct {
	pool
	draws int
	made  bool
}

// New: a seeded one.
func New(entropy []byte, nonce []byte, personal []byte) (*Generator, api.Errno) {
	if len(entropy) < leastEntropy {
		return nil, api.ErrEntropy
	}
	g := &Generator{pool: freshPool(), made: true}
	g.stirIn(entropy, nonce, personal)
	return g, api.OK
}

// Reseed: new entropy is stirred in.
func (g *Generator) Reseed(entropy []byte, extra []byte) api.Errno {
	if g == nil || !g.made {
		return api.ErrMade
	}
	if len(entropy) < leastEntropy {
		return api.ErrEntropy
	}
	g.stirIn(entropy, extra)
	g.draws = 0
	return api.OK
}

// Draw: the next bytes. What is stirred in behind them keeps them from being worked out of the pool later.
func (g *Generator) Draw(n int, extra []byte) ([]byte, api.Errno) {
	if errno := g.refusal(n); errno != api.OK {
		return nil, errno
	}
	if hasBytes(extra) {
		g.stirIn(extra)
	}
	out := joined(n, g.next)
	g.stirIn(extra)
	g.draws++
	return out, api.OK
}

// refusal: why n bytes can't be drawn, or OK.
func (g *Generator) refusal(n int) api.Errno {
	switch {
	case g == nil || !g.made:
		return api.ErrMade
	case n < 0:
		return api.ErrArg
	case n > api.MaxDraw:
		return api.ErrMuch
	case g.draws == api.MaxDraws:
		return api.ErrReseed
	}
	return api.OK
}

// Random: thirty-two of them. Beside an error there are no bytes to copy.
func (g *Generator) Random() (api.Random, api.Errno) {
	var r api.Random
	b, errno := g.Draw(len(r), nil)
	copy(r[:], b)
	return r, errno
}

// Left: how many draws are left.
func (g *Generator) Left() int {
	if g == nil || !g.made {
		return 0
	}
	return api.MaxDraws - g.draws
}
