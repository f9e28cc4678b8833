package symm

import (
	"slices"

	"signet/api"
	"signet/blake"
)

// fitted answers a name as 32 bytes.
func fitted(name string) api.Key {
	var k api.Key
	if len(name) > len(k) {
		return blake.Sum([]byte(name))
	}
	copy(k[:], name)
	return k
}

// behind answers the sum of a sum with bytes behind it.
func behind(sum api.Key, b []byte) api.Key {
	return blake.Sum(slices.Concat(sum[:], b))
}

// told answers what is known when the cipher has gone on and these bytes were on
// the wire. Those are mixed in, not the text: both sides have them alike.
func told(s api.Sym, next api.Cipher, wire []byte) api.Sym {
	s.Cipher = next
	return Hash(s, wire)
}
