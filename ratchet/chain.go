package ratchet

import (
	"signet/api"
	"signet/kdf"
	"signet/ladder"
)

// keyOf answers the key of a chain.
func keyOf(chain api.Key) api.Key { return kdf.Mac(chain[:], []byte{1}) }

// behind answers the chain behind another one. No key tells it, nor it the chain that was: what was said
// stays hidden from who comes to know it.
func behind(chain api.Key) api.Key { return kdf.Mac(chain[:], []byte{2}) }

// turned answers a root, turned by a secret and a public key, and the chain that comes of it.
func turned(root, secret, public api.Key) (api.Key, api.Key, api.Errno) {
	both, tells := ladder.Mult(secret, public)
	if !tells {
		return api.Key{}, api.Key{}, api.ErrZero
	}
	keys := kdf.Two(root, both[:])
	return keys[0], keys[1], api.OK
}
