package kdf

import "signet/blake"

// block: a key as long as the blocks of the sum, whose first block it is to be.
type block [64]byte

// fitted answers a key of any length as a block.
func fitted(key []byte) block {
	var k block
	if len(key) > len(k) {
		sum := blake.Sum(key)
		key = sum[:]
	}
	copy(k[:], key)
	return k
}

// turned answers the bytes of a key, each with the bits of x turned.
func turned(k block, x byte) []byte {
	for i := range k {
		k[i] ^= x
	}
	return k[:]
}

// joined answers lists behind one another. It begins with no list, not with the
// first one: whose spare room that is, nothing is to be written there.
func joined(lists ...[]byte) []byte {
	var all []byte
	for _, l := range lists {
		all = append(all, l...)
	}
	return all
}
