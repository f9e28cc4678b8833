package blake

import "signet/api"

// mayBe tells whether a sum may be. H is not asked: it may be any words.
func mayBe(s api.Hash) bool {
	if s.N < 0 || s.N > len(s.Held) || s.Len < s.N || s.Len > api.MaxNumber {
		return false
	}
	if (s.Len-s.N)%len(s.Held) != 0 {
		return false
	}
	// A block is held until a byte comes behind it: once there were bytes, some are held.
	if s.N == 0 && s.Len != 0 {
		return false
	}
	for _, x := range s.Held[s.N:] {
		if x != 0 {
			return false
		}
	}
	return true
}

// added answers a sum that may be with these bytes behind it, however many.
func added(s api.Hash, b []byte) api.Hash {
	for len(b) > 0 {
		// Only now it is known that the block that is held is not the last one.
		if s.N == len(s.Held) {
			s.H = squeezed(s, false)
			s.Held, s.N = [64]byte{}, 0
		}
		n := copy(s.Held[s.N:], b)
		s.N += n
		s.Len += n
		b = b[n:]
	}
	return s
}

// ended answers the 32 bytes of a sum that may be.
func ended(s api.Hash) api.Key {
	h := squeezed(s, true)
	var k api.Key
	for i := range k {
		k[i] = byte(h[i/4] >> (i % 4 * 8))
	}
	return k
}
