package shake

import (
	"signet/api"
	"signet/ladder"
	"signet/symm"
)

// The bytes of a public key on the wire, as it is and with a tag.
const (
	openKey   = 32
	lockedKey = 48
)

// written answers a side that has told the next turn, and what it told.
func written(h api.Shake, secret api.Key, text []byte) (api.Shake, []byte, api.Errno) {
	var wire []byte
	for _, token := range h.Pattern.Turns[h.Turn] {
		var told []byte
		var e api.Errno
		h, told, e = tell(h, token, secret)
		if e != api.OK {
			return h, nil, e
		}
		wire = append(wire, told...)
	}
	h, told, e := seal(h, text)
	return h, append(wire, told...), e
}

// tell answers a side that has done one token of its own turn, and what it told.
func tell(h api.Shake, token int, secret api.Key) (api.Shake, []byte, api.Errno) {
	switch token {
	case api.E:
		next, public := fresh(h, secret)
		return next, public[:], api.OK
	case api.S:
		public := ladder.Base(h.Own)
		return seal(h, public[:])
	}
	next, e := mix(h, token)
	return next, nil, e
}

func seal(h api.Shake, text []byte) (api.Shake, []byte, api.Errno) {
	next, told, e := symm.Seal(h.Sym, text)
	h.Sym = next
	return h, told, e
}

// heard answers a side that has heard the other one's turn, and the text of it.
func heard(h api.Shake, b []byte) (api.Shake, []byte, api.Errno) {
	for _, token := range h.Pattern.Turns[h.Turn] {
		var e api.Errno
		h, b, e = hear(h, token, b)
		if e != api.OK {
			return h, nil, e
		}
	}
	return open(h, b)
}

// hear answers a side that has done one token of the other one's turn, and the
// bytes behind it.
func hear(h api.Shake, token int, b []byte) (api.Shake, []byte, api.Errno) {
	switch token {
	case api.E:
		if len(b) < openKey {
			return h, nil, api.ErrShort
		}
		return newest(h, api.Key(b[:openKey])), b[openKey:], api.OK
	case api.S:
		return hearLasting(h, b)
	}
	next, e := mix(h, token)
	return next, b, e
}

// hearLasting answers a side that knows the other one's lasting public key, and
// the bytes behind it.
func hearLasting(h api.Shake, b []byte) (api.Shake, []byte, api.Errno) {
	n := openKey
	if h.Sym.Cipher.Has {
		n = lockedKey
	}
	if len(b) < n {
		return h, nil, api.ErrShort
	}
	h, public, e := open(h, b[:n])
	if e != api.OK {
		return h, nil, e
	}
	h.Their, h.Knows = api.Key(public), true
	return h, b[n:], api.OK
}

func open(h api.Shake, b []byte) (api.Shake, []byte, api.Errno) {
	next, text, e := symm.Open(h.Sym, b)
	h.Sym = next
	return h, text, e
}
