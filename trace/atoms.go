package trace

import (
	"slices"

	"signet/api"
)

// Atoms (P13.1). A lasting or fresh one is that of who begins; the other one's is one more.
const (
	common  = 0
	lasting = 1
	fresh   = 3
	psks    = 10
	texts   = 20
	besides = 100
)

func atom(n int) api.Term { return api.Term{Kind: api.Atom, Id: n} }

func pub(n int) api.Term { return api.Term{Kind: api.Pub, Id: n} }

func kdf(which int, chain, mixed api.Term) api.Term {
	return api.Term{Kind: api.Kdf, Id: which, Args: []api.Term{chain, mixed}}
}

func lock(key, beside, text api.Term) api.Term {
	return api.Term{Kind: api.Lock, Args: []api.Term{key, beside, text}}
}

// agreed answers the Dh of a token that mixes two keys: its first letter's of who begins, its second one's of the
// other one.
func agreed(token int) api.Term {
	first, other := lasting, lasting+1
	if token == api.EE || token == api.ES {
		first = fresh
	}
	if token == api.EE || token == api.SE {
		other = fresh + 1
	}
	return api.Term{Kind: api.Dh, Id: min(first, other), Other: max(first, other)}
}

// early answers the Pub of each E that is known ahead.
func early(p api.Pattern) []api.Term {
	var l []api.Term
	for side, ahead := range p.Pre {
		if slices.Contains(ahead, api.E) {
			l = append(l, pub(fresh+side))
		}
	}
	return l
}

// public answers what all know who look on, beside what is told.
func public(p api.Pattern) []api.Term {
	return append([]api.Term{atom(common), pub(lasting), pub(lasting + 1)}, early(p)...)
}

func atoms(numbers []int) []api.Term {
	var l []api.Term
	for _, n := range numbers {
		l = append(l, atom(n))
	}
	return l
}
