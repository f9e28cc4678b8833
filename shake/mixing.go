package shake

import (
	"signet/api"
	"signet/ladder"
	"signet/symm"
)

// mix answers a side that has mixed in what no wire tells: a psk, or what two keys
// make together.
func mix(h api.Shake, token int) (api.Shake, api.Errno) {
	if token == api.Psk {
		return mixPsk(h)
	}
	return mixKeys(h, token)
}

func mixPsk(h api.Shake) (api.Shake, api.Errno) {
	if h.Used >= len(h.Psks) {
		return h, api.ErrNone
	}
	psk := h.Psks[h.Used]
	h.Sym = symm.Both(h.Sym, psk[:])
	h.Used++
	return h, api.OK
}

func mixKeys(h api.Shake, token int) (api.Shake, api.Errno) {
	mine, theirs := letters(token)
	if !h.First {
		mine, theirs = theirs, mine
	}
	secret, has := secretOf(h, mine)
	public, knows := publicOf(h, theirs)
	if !has || !knows {
		return h, api.ErrNone
	}
	both, tells := ladder.Mult(secret, public)
	if !tells {
		return h, api.ErrZero
	}
	h.Sym = symm.Key(h.Sym, both[:])
	return h, api.OK
}

// letters answers which key of who begins is meant, and which one of the other one.
func letters(token int) (int, int) {
	switch token {
	case api.EE:
		return api.E, api.E
	case api.ES:
		return api.E, api.S
	case api.SE:
		return api.S, api.E
	}
	return api.S, api.S
}

// secretOf answers a secret of the side's own, and whether it is there.
func secretOf(h api.Shake, key int) (api.Key, bool) {
	if key == api.E {
		return h.Fresh, h.Has
	}
	return h.Own, true
}

// publicOf answers a public key of the other one, and whether it is known.
func publicOf(h api.Shake, key int) (api.Key, bool) {
	if key == api.E {
		return h.Newest, h.Saw
	}
	return h.Their, h.Knows
}
