package shake

import (
	"bytes"
	"slices"

	"signet/api"
	"signet/ladder"
	"signet/pattern"
	"signet/symm"
)

// The book: what the chapter says, in its own order, by the packages below alone.

const (
	mostText    = 400 // bytes of a text
	mostAd      = 200 // bytes of a prologue
	mostMessage = 800 // bytes of a turn
)

// begun is what Begin is handed.
type begun struct {
	name       string
	first      bool
	prologue   []byte
	own, their api.Key
	knows      bool
	early      api.Key
	psks       []api.Key
}

func (c begun) begin() (api.Shake, api.Errno) {
	return Begin(c.name, c.first, c.prologue, c.own, c.their, c.knows, c.early, c.psks)
}

// bookBegin answers what the chapter says of Begin (P11.2).
func bookBegin(c begun) (api.Shake, api.Errno) {
	none := api.Shake{}
	p, e := pattern.Parse(c.name)
	if e != api.OK {
		return none, e
	}
	if len(c.prologue) > mostAd || len(c.psks) != len(p.Psks) {
		return none, api.ErrSize
	}
	if !c.knows && c.their != (api.Key{}) {
		return none, api.ErrForm
	}
	mine, others := p.Pre[1], p.Pre[0]
	if c.first {
		mine, others = p.Pre[0], p.Pre[1]
	}
	if slices.Contains(others, api.S) && !c.knows {
		return none, api.ErrNone
	}
	h := api.Shake{Pattern: p, First: c.first, Own: c.own, Their: c.their, Knows: c.knows, Psks: bytesApart(c.psks)}
	if slices.Contains(mine, api.E) {
		h.Fresh, h.Has = c.early, true
	}
	if slices.Contains(others, api.E) {
		h.Newest, h.Saw = c.early, true
	}
	s := symm.Hash(symm.Begin(c.name), c.prologue)
	for side, l := range p.Pre {
		own := c.first && side == 0 || !c.first && side == 1
		for _, token := range l {
			k := c.early
			if token == api.S {
				k = c.their
			}
			if own && token == api.S {
				k = ladder.Base(c.own)
			}
			if own && token == api.E {
				k = ladder.Base(c.early)
			}
			s = symm.Hash(s, k[:])
			if token == api.E && len(c.psks) > 0 {
				s = symm.Key(s, k[:])
			}
		}
	}
	h.Sym = s
	return h, api.OK
}

func bytesApart(l []api.Key) []api.Key {
	var m []api.Key
	for _, k := range l {
		m = append(m, k)
	}
	return m
}

// bookTurner asks whose turn it is: that of who begins? Each turn is the other one's.
func bookTurner(p api.Pattern, turn int) bool {
	first := !p.Late
	for range turn {
		first = !first
	}
	return first
}

// bookMay asks whether a side may do a turn of its own, or hear one (P11.4, P11.5).
func bookMay(h api.Shake, own bool) bool {
	switch {
	case h.Dead, h.Turn < 0, h.Turn >= len(h.Pattern.Turns), h.Used < 0:
		return false
	case pattern.Check(h.Pattern) != api.OK:
		return false
	}
	isOwn := bookTurner(h.Pattern, h.Turn) == h.First
	return isOwn == own
}

// bookMix does a token that tells nothing (P11.4).
func bookMix(h *api.Shake, token int) api.Errno {
	if token == api.Psk {
		if h.Used >= len(h.Psks) {
			return api.ErrNone
		}
		k := h.Psks[h.Used]
		h.Used++
		h.Sym = symm.Both(h.Sym, k[:])
		return api.OK
	}
	var k, u api.Key
	there := true
	switch {
	case token == api.EE:
		k, u, there = h.Fresh, h.Newest, h.Has && h.Saw
	case token == api.SS:
		k, u, there = h.Own, h.Their, h.Knows
	case token == api.ES && h.First, token == api.SE && !h.First:
		k, u, there = h.Fresh, h.Their, h.Has && h.Knows
	default:
		k, u, there = h.Own, h.Newest, h.Saw
	}
	if !there {
		return api.ErrNone
	}
	both, tells := ladder.Mult(k, u)
	if !tells {
		return api.ErrZero
	}
	h.Sym = symm.Key(h.Sym, both[:])
	return api.OK
}

// bookE mixes in a fresh public key.
func bookE(h *api.Shake, k api.Key) {
	h.Sym = symm.Hash(h.Sym, k[:])
	if len(h.Psks) > 0 {
		h.Sym = symm.Key(h.Sym, k[:])
	}
}

// bookSeal seals, or tells the error.
func bookSeal(h *api.Shake, text []byte) ([]byte, api.Errno) {
	s, b, e := symm.Seal(h.Sym, text)
	if e == api.OK {
		h.Sym = s
	}
	return b, e
}

func dead(h api.Shake) api.Shake {
	h.Dead = true
	return h
}

// bookWrite answers what the chapter says of Write (P11.4).
func bookWrite(h api.Shake, secret api.Key, text []byte) (api.Shake, []byte, api.Errno) {
	if !bookMay(h, true) {
		return h, nil, api.ErrState
	}
	if len(text) > mostText {
		return h, nil, api.ErrSize
	}
	was, out := h, []byte{}
	for _, token := range h.Pattern.Turns[h.Turn] {
		var b []byte
		var e api.Errno
		switch token {
		case api.E:
			h.Fresh, h.Has = secret, true
			k := ladder.Base(secret)
			bookE(&h, k)
			b = k[:]
		case api.S:
			k := ladder.Base(h.Own)
			b, e = bookSeal(&h, k[:])
		default:
			e = bookMix(&h, token)
		}
		if e != api.OK {
			return dead(was), nil, e
		}
		out = append(out, b...)
	}
	b, e := bookSeal(&h, text)
	if e != api.OK {
		return dead(was), nil, e
	}
	h.Turn++
	return h, append(out, b...), api.OK
}

// bookRead answers what the chapter says of Read (P11.5).
func bookRead(h api.Shake, b []byte) (api.Shake, []byte, api.Errno) {
	if !bookMay(h, false) {
		return h, nil, api.ErrState
	}
	if len(b) > mostMessage {
		return h, nil, api.ErrSize
	}
	was, in := h, bytes.NewReader(bytes.Clone(b))
	next := func(n int) ([]byte, api.Errno) {
		l := make([]byte, n)
		if in.Len() < n {
			return nil, api.ErrShort
		}
		in.Read(l)
		return l, api.OK
	}
	opened := func(n int) ([]byte, api.Errno) {
		l, e := next(n)
		if e != api.OK {
			return nil, e
		}
		s, text, e := symm.Open(h.Sym, l)
		if e == api.OK {
			h.Sym = s
		}
		return text, e
	}
	for _, token := range h.Pattern.Turns[h.Turn] {
		var l []byte
		var e api.Errno
		switch token {
		case api.E:
			if l, e = next(32); e == api.OK {
				h.Newest, h.Saw = api.Key(l), true
				bookE(&h, h.Newest)
			}
		case api.S:
			n := 32
			if h.Sym.Cipher.Has {
				n += 16
			}
			if l, e = opened(n); e == api.OK {
				h.Their, h.Knows = api.Key(l), true
			}
		default:
			e = bookMix(&h, token)
		}
		if e != api.OK {
			return dead(was), nil, e
		}
	}
	text, e := opened(in.Len())
	if e != api.OK {
		return dead(was), nil, e
	}
	h.Turn++
	return h, text, api.OK
}

// forged answers bytes that this side hears as a turn of the other one, whose public
// keys and text these are: both know alike what they seal with. What is refused is
// left out.
func forged(h api.Shake, newest, lasting api.Key, text []byte) []byte {
	out := []byte{}
	if !bookMay(h, false) {
		return out
	}
	for _, token := range h.Pattern.Turns[h.Turn] {
		switch token {
		case api.E:
			h.Newest, h.Saw = newest, true
			bookE(&h, newest)
			out = append(out, newest[:]...)
		case api.S:
			b, _ := bookSeal(&h, lasting[:])
			h.Their, h.Knows = lasting, true
			out = append(out, b...)
		default:
			bookMix(&h, token)
		}
	}
	b, _ := bookSeal(&h, text)
	return append(out, b...)
}
