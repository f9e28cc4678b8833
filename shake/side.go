package shake

import (
	"slices"

	"signet/api"
	"signet/ladder"
	"signet/pattern"
	"signet/symm"
)

// copied answers the same side in memory of its own.
func copied(h api.Shake) api.Shake {
	h.Psks = slices.Clone(h.Psks)
	h.Pattern.Psks = slices.Clone(h.Pattern.Psks)
	for i, l := range h.Pattern.Pre {
		h.Pattern.Pre[i] = slices.Clone(l)
	}
	h.Pattern.Turns = slices.Clone(h.Pattern.Turns)
	for i, l := range h.Pattern.Turns {
		h.Pattern.Turns[i] = slices.Clone(l)
	}
	return h
}

// ahead answers a side that has mixed in what is known ahead.
func ahead(h api.Shake, early api.Key) (api.Shake, api.Errno) {
	for side, l := range h.Pattern.Pre {
		mine := h.First == (side == 0)
		for _, token := range l {
			if token == api.S && !mine && !h.Knows {
				return api.Shake{}, api.ErrNone
			}
			h = knowing(h, token, mine, early)
		}
	}
	return h, api.OK
}

// knowing answers a side that has mixed in one key that is known ahead.
func knowing(h api.Shake, token int, mine bool, early api.Key) api.Shake {
	switch {
	case token == api.S && mine:
		h.Sym = hashed(h.Sym, ladder.Base(h.Own))
	case token == api.S:
		h.Sym = hashed(h.Sym, h.Their)
	case mine:
		h, _ = fresh(h, early)
	default:
		h = newest(h, early)
	}
	return h
}

// mayTurn asks whether a turn may be done, and is the one of who begins, or not.
func mayTurn(h api.Shake, first bool) bool {
	if h.Dead || h.Used < 0 || h.Turn < 0 || h.Turn >= len(h.Pattern.Turns) {
		return false
	}
	even := h.Turn%2 == 0
	return first == (even != h.Pattern.Late) && pattern.Check(h.Pattern) == api.OK
}

// over answers the side behind a turn, or, if that was refused, the one ahead of
// it, which is dead then.
func over(was, next api.Shake, b []byte, e api.Errno) (api.Shake, []byte, api.Errno) {
	if e != api.OK {
		was.Dead = true
		return was, nil, e
	}
	next.Turn++
	return next, b, api.OK
}

// hashed answers what is known when a public key was seen.
func hashed(s api.Sym, public api.Key) api.Sym { return symm.Hash(s, public[:]) }

// shown answers a side that has mixed in a fresh public key.
func shown(h api.Shake, public api.Key) api.Shake {
	h.Sym = hashed(h.Sym, public)
	// A psk is the same one in many handshakes: what makes a key of it fresh is this.
	if len(h.Psks) > 0 {
		h.Sym = symm.Key(h.Sym, public[:])
	}
	return h
}

// fresh answers a side whose fresh secret this is, and its public key.
func fresh(h api.Shake, secret api.Key) (api.Shake, api.Key) {
	h.Fresh, h.Has = secret, true
	public := ladder.Base(secret)
	return shown(h, public), public
}

// newest answers a side that has seen the other one's fresh public key.
func newest(h api.Shake, public api.Key) api.Shake {
	h.Newest, h.Saw = public, true
	return shown(h, public)
}
