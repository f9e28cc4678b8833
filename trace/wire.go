package trace

import "signet/api"

// wire: what went over it so far, and what both sides have mixed in.
type wire struct {
	secured bool // the pattern has psks: each E is mixed in, too
	told    []api.Term
	mixed   []api.Term
	used    int // how many of those mixed in are psks
}

// toldBy answers all that a pattern that may be tells.
func toldBy(p api.Pattern) []api.Term {
	w := wire{secured: len(p.Psks) > 0}
	if w.secured {
		w.mixed = early(p)
	}
	side := 0
	if p.Late {
		side = 1
	}
	for turn, tokens := range p.Turns {
		for _, token := range tokens {
			w.say(side, token)
		}
		w.tell(atom(texts + turn))
		side = 1 - side
	}
	return w.told
}

// say takes a token of a side's turn.
func (w *wire) say(side, token int) {
	switch token {
	case api.E:
		w.show(pub(fresh + side))
	case api.S:
		w.tell(pub(lasting + side))
	case api.Psk:
		w.mix(atom(psks + w.used))
		w.used++
	default:
		w.mix(agreed(token))
	}
}

// show tells a fresh key as it is.
func (w *wire) show(t api.Term) {
	w.told = append(w.told, t)
	if w.secured {
		w.mix(t)
	}
}

// tell tells a term, locked if there is a key.
func (w *wire) tell(t api.Term) {
	if len(w.mixed) > 0 {
		t = lock(keyOf(w.mixed), atom(besides+len(w.told)), t)
	}
	w.told = append(w.told, t)
}

func (w *wire) mix(t api.Term) { w.mixed = append(w.mixed, t) }

// keyOf answers the key behind some terms, one at least, that were mixed in. It is made anew for each Lock: no two
// lists of what is told share memory.
func keyOf(mixed []api.Term) api.Term {
	chain, last := atom(common), len(mixed)-1
	for _, t := range mixed[:last] {
		chain = kdf(1, chain, t)
	}
	return kdf(2, chain, mixed[last])
}
