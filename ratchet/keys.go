package ratchet

import (
	"slices"

	"signet/api"
)

// Each function here that answers a side changes what is Kept of the one it is handed: that is a copy already.

// taken answers a side that has taken the key of a text, and that key.
func taken(r api.Ratchet, secret api.Key, h api.Head) (api.Ratchet, api.Key, api.Errno) {
	if i := placeOf(r.Kept, h.Key, h.N); i >= 0 {
		key := r.Kept[i].Key
		r.Kept = slices.Delete(r.Kept, i, i+1)
		return r, key, api.OK
	}
	if !r.Hear || h.Key != r.Peer {
		var e api.Errno
		if r, e = turnedTo(r, secret, h); e != api.OK {
			return r, api.Key{}, e
		}
	}
	return reached(r, h.N)
}

// placeOf answers where a key is kept, or -1.
func placeOf(l []api.Kept, peer api.Key, n int) int {
	return slices.IndexFunc(l, func(k api.Kept) bool { return k.Peer == peer && k.N == n })
}

// turnedTo answers a side that has turned, as the other one has a new key.
func turnedTo(r api.Ratchet, secret api.Key, h api.Head) (api.Ratchet, api.Errno) {
	r, e := skipped(r, h.Last)
	if e != api.OK {
		return r, e
	}
	r.Root, r.Recv, e = turned(r.Root, r.Own, h.Key)
	if e != api.OK {
		return r, e
	}
	r.Own, r.Peer = secret, h.Key
	r.Root, r.Send, e = turned(r.Root, r.Own, r.Peer)
	r.Last, r.Out, r.In = r.Out, 0, 0
	r.Can, r.Hear = true, true
	return r, e
}

// reached answers a side that has gone on to a text of the chain that it opens, and the key of that text.
func reached(r api.Ratchet, n int) (api.Ratchet, api.Key, api.Errno) {
	if n < r.In {
		return r, api.Key{}, api.ErrLate
	}
	if n == api.MaxNumber {
		return r, api.Key{}, api.ErrOver
	}
	r, e := skipped(r, n)
	if e != api.OK {
		return r, api.Key{}, e
	}
	r, key := next(r)
	return r, key, api.OK
}

// skipped answers a side that has kept the keys of the chain that it opens up to a number.
func skipped(r api.Ratchet, n int) (api.Ratchet, api.Errno) {
	if !r.Hear {
		return r, api.OK
	}
	if n-r.In > api.MaxSkip {
		return r, api.ErrRange
	}
	for r.In < n {
		k := api.Kept{Peer: r.Peer, N: r.In}
		r, k.Key = next(r)
		r.Kept = append(r.Kept, k)
	}
	r.Kept = slices.Delete(r.Kept, 0, max(0, len(r.Kept)-api.MaxKept))
	return r, api.OK
}

// next answers a side that has gone on by one text of the chain that it opens, and the key of that text.
func next(r api.Ratchet) (api.Ratchet, api.Key) {
	key := keyOf(r.Recv)
	r.Recv = behind(r.Recv)
	r.In++
	return r, key
}
