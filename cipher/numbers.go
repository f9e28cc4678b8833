package cipher

import (
	"signet/api"
	"signet/seal"
)

// lastNumber is no text's: a new key is made with it, and whoever saw a text
// sealed with it could learn that key.
const lastNumber = 1<<64 - 1

// use is what is done with a key and a nonce: to seal, or to open.
type use func(key api.Key, nonce [12]byte, ad, b []byte) ([]byte, api.Errno)

// used answers the cipher behind one more use, and what that made of the bytes.
func used(c api.Cipher, ad, b []byte, do use) (api.Cipher, []byte, api.Errno) {
	if e := Check(c); e != api.OK {
		return api.Cipher{}, nil, e
	}
	if !c.Has {
		return plain(c, b)
	}
	if c.N == lastNumber {
		return api.Cipher{}, nil, api.ErrOver
	}
	made, e := do(c.Key, nonceOf(c.N), ad, b)
	if e != api.OK {
		return api.Cipher{}, nil, e
	}
	c.N++
	return c, made, api.OK
}

// plain answers the bytes as they are: ahead of the first key of a handshake
// nothing is sealed yet. What is beside them is not asked: nothing vouches for it.
func plain(c api.Cipher, b []byte) (api.Cipher, []byte, api.Errno) {
	if len(b) > api.MaxMessage {
		return api.Cipher{}, nil, api.ErrSize
	}
	return c, append([]byte{}, b...), api.OK
}

// nonceOf answers four noughts and the eight bytes of a number.
func nonceOf(n uint64) [12]byte {
	var nonce [12]byte
	for i := range 8 {
		nonce[4+i] = byte(n >> (8 * i))
	}
	return nonce
}

// following answers the key that is made of a key.
func following(key api.Key) api.Key {
	var noughts api.Key
	// With 32 bytes, and nothing beside them, no length is refused.
	sealed, _ := seal.Seal(key, nonceOf(lastNumber), nil, noughts[:])
	var next api.Key
	copy(next[:], sealed)
	return next
}
