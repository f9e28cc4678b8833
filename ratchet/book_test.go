package ratchet

import (
	"crypto/ecdh"
	"slices"

	"signet/api"
	keys "signet/kdf"
	"signet/ladder"
	"signet/seal"
)

// A second reckoning, by the chapter's words, one after the other.

func bookKey(chain api.Key) api.Key    { return keys.Mac(chain[:], []byte{1}) }
func bookBehind(chain api.Key) api.Key { return keys.Mac(chain[:], []byte{2}) }

// bookTurn turns a root in its place and answers the chain. What both keys make is Go's own X25519.
func bookTurn(root *api.Key, secret, public api.Key) (api.Key, api.Errno) {
	own, err := ecdh.X25519().NewPrivateKey(secret[:])
	if err != nil {
		panic(err)
	}
	their, err := ecdh.X25519().NewPublicKey(public[:])
	if err != nil {
		panic(err)
	}
	both, err := own.ECDH(their)
	if err != nil {
		return api.Key{}, api.ErrZero
	}
	two := keys.Two(*root, both)
	*root = two[0]
	return two[1], api.OK
}

func bookCheck(r api.Ratchet) api.Errno {
	numbers := []int{r.Out, r.In, r.Last}
	for _, k := range r.Kept {
		numbers = append(numbers, k.N)
	}
	for _, n := range numbers {
		if n < 0 || n > 1073741824 {
			return api.ErrState
		}
	}
	if len(r.Kept) > 12 {
		return api.ErrState
	}
	for i, k := range r.Kept {
		for j, m := range r.Kept {
			if i != j && k.Peer == m.Peer && k.N == m.N {
				return api.ErrState
			}
		}
	}
	return api.OK
}

func bookFirst(root, own, peer api.Key) (api.Ratchet, api.Errno) {
	send, e := bookTurn(&root, own, peer)
	if e != api.OK {
		return api.Ratchet{}, e
	}
	return api.Ratchet{Root: root, Own: own, Peer: peer, Send: send, Can: true}, api.OK
}

func bookBytes(h api.Head) ([]byte, api.Errno) {
	b := slices.Clone(h.Key[:])
	for _, n := range []int{h.Last, h.N} {
		if n < 0 || n > 1073741824 {
			return nil, api.ErrRange
		}
		for part := range 4 {
			b = append(b, byte(n/[]int{16777216, 65536, 256, 1}[part]%256))
		}
	}
	return b, api.OK
}

// bookBeside answers ad and the head's bytes. The head is one that may be.
func bookBeside(ad []byte, h api.Head) []byte {
	b, _ := bookBytes(h)
	return append(slices.Clone(ad), b...)
}

func bookSeal(r api.Ratchet, ad, text []byte) (api.Ratchet, api.Head, []byte, api.Errno) {
	e := bookCheck(r)
	if e == api.OK && !r.Can {
		e = api.ErrState
	}
	if e == api.OK && (len(text) > 400 || len(ad) > 160) {
		e = api.ErrSize
	}
	if e == api.OK && r.Out == 1073741824 {
		e = api.ErrOver
	}
	if e != api.OK {
		return api.Ratchet{}, api.Head{}, nil, e
	}
	h := api.Head{Key: ladder.Base(r.Own), Last: r.Last, N: r.Out}
	b, e := seal.Seal(bookKey(r.Send), [12]byte{}, bookBeside(ad, h), text)
	r.Kept = slices.Clone(r.Kept)
	r.Send, r.Out = bookBehind(r.Send), r.Out+1
	return r, h, b, e
}

func bookSkip(r *api.Ratchet, to int) api.Errno {
	if !r.Hear || r.In >= to {
		return api.OK
	}
	if to-r.In > 8 {
		return api.ErrRange
	}
	for ; r.In < to; r.In++ {
		r.Kept = append(r.Kept, api.Kept{Peer: r.Peer, N: r.In, Key: bookKey(r.Recv)})
		r.Recv = bookBehind(r.Recv)
		if len(r.Kept) > 12 {
			r.Kept = r.Kept[1:]
		}
	}
	return api.OK
}

func bookTurnSide(r *api.Ratchet, secret api.Key, h api.Head) api.Errno {
	e := bookSkip(r, h.Last)
	if e != api.OK {
		return e
	}
	if r.Recv, e = bookTurn(&r.Root, r.Own, h.Key); e != api.OK {
		return e
	}
	r.Own = secret
	if r.Send, e = bookTurn(&r.Root, r.Own, h.Key); e != api.OK {
		return e
	}
	r.Last = r.Out
	r.Out, r.In = 0, 0
	r.Peer = h.Key
	r.Can, r.Hear = true, true
	return api.OK
}

// bookTake answers the key that opens a text, of a side that is its own copy.
func bookTake(r *api.Ratchet, secret api.Key, h api.Head) (api.Key, api.Errno) {
	for i, k := range r.Kept {
		if k.Peer == h.Key && k.N == h.N {
			r.Kept = append(r.Kept[:i], r.Kept[i+1:]...)
			return k.Key, api.OK
		}
	}
	if !r.Hear || h.Key != r.Peer {
		if e := bookTurnSide(r, secret, h); e != api.OK {
			return api.Key{}, e
		}
	}
	if h.N < r.In {
		return api.Key{}, api.ErrLate
	}
	if h.N == 1073741824 {
		return api.Key{}, api.ErrOver
	}
	if e := bookSkip(r, h.N); e != api.OK {
		return api.Key{}, e
	}
	k := bookKey(r.Recv)
	r.Recv, r.In = bookBehind(r.Recv), r.In+1
	return k, api.OK
}

func bookOpen(r api.Ratchet, secret api.Key, ad []byte, h api.Head, b []byte) (api.Ratchet, []byte, api.Errno) {
	if e := bookCheck(r); e != api.OK {
		return api.Ratchet{}, nil, e
	}
	if _, e := bookBytes(h); e != api.OK {
		return api.Ratchet{}, nil, e
	}
	if len(ad) > 160 {
		return api.Ratchet{}, nil, api.ErrSize
	}
	r.Kept = slices.Clone(r.Kept)
	k, e := bookTake(&r, secret, h)
	if e != api.OK {
		return api.Ratchet{}, nil, e
	}
	text, e := seal.Open(k, [12]byte{}, bookBeside(ad, h), b)
	if e != api.OK {
		return api.Ratchet{}, nil, e
	}
	return r, text, api.OK
}

// forged answers a text as the one would have sealed it whom a side opens by this head; if there is none, some bytes.
func forged(r api.Ratchet, secret api.Key, ad []byte, h api.Head, text []byte) []byte {
	none := make([]byte, 16+len(text))
	if _, e := bookBytes(h); e != api.OK || bookCheck(r) != api.OK {
		return none
	}
	r.Kept = slices.Clone(r.Kept)
	k, e := bookTake(&r, secret, h)
	if e != api.OK {
		return none
	}
	b, e := seal.Seal(k, [12]byte{}, bookBeside(ad, h), text)
	if e != api.OK {
		return none
	}
	return b
}
