package frost

import (
	"rime/api"
	"rime/eddsa"
	"rime/edwards"
	"rime/scalar"
	"rime/shamir"
	"rime/suite"
)

// round is what a group's key, a list and a message come to, for all its signers alike.
type round struct {
	list      []api.Commitment
	factors   []api.Factor
	sum       api.Element
	challenge api.Scalar
}

// open reckons a round, of a key, a list and a message that may be.
func open(group api.Element, list []api.Commitment, message []byte) (round, api.Errno) {
	factors := factorsOf(group, list, message)
	sum, errno := sumOf(list, factors)
	if errno != api.OK {
		return round{}, errno
	}
	return round{list: list, factors: factors, sum: sum, challenge: Challenge(sum, group, message)}, api.OK
}

// codeOf is the code of a list that may be.
func codeOf(list []api.Commitment) []byte {
	var code []byte
	for _, c := range list {
		id := scalar.FromInt(uint64(c.ID))
		code = append(code, id[:]...)
		code = append(code, c.Hiding[:]...)
		code = append(code, c.Binding[:]...)
	}
	return code
}

// binder answers what gives an identifier its factor. Message and list may be long, so they are hashed once for all.
func binder(group api.Element, list []api.Commitment, message []byte) func(int) api.Scalar {
	text, code := suite.H4(message), suite.H5(codeOf(list))
	return func(id int) api.Scalar {
		place := scalar.FromInt(uint64(id))
		return suite.H1(group[:], text[:], code[:], place[:])
	}
}

// factorsOf are the factors of a list that may be.
func factorsOf(group api.Element, list []api.Commitment, message []byte) []api.Factor {
	factorOf := binder(group, list, message)
	factors := make([]api.Factor, len(list))
	for i, c := range list {
		factors[i] = api.Factor{ID: c.ID, Value: factorOf(c.ID)}
	}
	return factors
}

// sumOf is the group commitment of a list that may be and factors that fit it.
func sumOf(list []api.Commitment, factors []api.Factor) (api.Element, api.Errno) {
	var ks []api.Scalar
	var es []api.Element
	for i, c := range list {
		ks = append(ks, scalar.FromInt(1), factors[i].Value)
		es = append(es, c.Hiding, c.Binding)
	}
	sum, _ := edwards.Multi(ks, es)
	if sum == edwards.Identity() {
		return api.Element{}, api.ErrIdentity
	}
	return sum, api.OK
}

// ids are those of the list.
func (r round) ids() []int {
	out := make([]int, len(r.list))
	for i, c := range r.list {
		out[i] = c.ID
	}
	return out
}

// asked is how many times its secret a signer of the list answers: its weight times the challenge.
func (r round) asked(id int) api.Scalar {
	weight, _ := shamir.Lagrange(r.ids(), id, api.Scalar{})
	return scalar.Mul(weight, r.challenge)
}

// holds: does a value answer for the signer in that place of the list?
func (r round) holds(at int, public api.Element, asked, value api.Scalar) bool {
	c := r.list[at]
	ks := []api.Scalar{scalar.FromInt(1), r.factors[at].Value, asked}
	right, _ := edwards.Multi(ks, []api.Element{c.Hiding, c.Binding, public})
	return edwards.MulBase(value) == right
}

// signature is the sum of shares, with the round that it is of.
func signature(group api.Element, list []api.Commitment, message []byte, shares []api.SigShare) (api.Signature, round, api.Errno) {
	if errno := checkShares(list, shares); errno != api.OK {
		return api.Signature{}, round{}, errno
	}
	r, errno := open(group, list, message)
	if errno != api.OK {
		return api.Signature{}, round{}, errno
	}
	var second api.Scalar
	for _, s := range shares {
		second = scalar.Add(second, s.Value)
	}
	return eddsa.Whole(r.sum, second), r, api.OK
}

// culprits are those, rising as the list does, whose shares do not hold. All weights are reckoned at once: that takes one inversion.
func (r round) culprits(publics map[int]api.PublicShare, shares []api.SigShare) []int {
	weights, _ := shamir.Weights(r.ids())
	var out []int
	for i, s := range shares {
		if !r.holds(i, publics[s.ID].Public, scalar.Mul(weights[i], r.challenge), s.Value) {
			out = append(out, s.ID)
		}
	}
	return out
}
