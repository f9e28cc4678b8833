package chacha

import (
	"math/bits"

	"signet/api"
)

// words are the sixteen of a block: four that are always the same, eight of the
// key, the counter, three of the nonce. Seen as a square, four stand in a row.
type words [16]uint32

// start answers the words of a block ahead of its rounds. The first four are
// the bytes of "expand 32-byte k".
func start(key api.Key, counter uint32, nonce [12]byte) words {
	w := words{0x61707865, 0x3320646e, 0x79622d32, 0x6b206574, 12: counter}
	for i, x := range key {
		w[4+i/4] |= uint32(x) << (i % 4 * 8)
	}
	for i, x := range nonce {
		w[13+i/4] |= uint32(x) << (i % 4 * 8)
	}
	return w
}

// rounds answers the words after all twenty: ten times one down the columns of
// the square and one down its slanting lines.
func rounds(w words) words {
	quarter := func(a, b, c, d int) {
		w[a] += w[b]
		w[d] = bits.RotateLeft32(w[d]^w[a], 16)
		w[c] += w[d]
		w[b] = bits.RotateLeft32(w[b]^w[c], 12)
		w[a] += w[b]
		w[d] = bits.RotateLeft32(w[d]^w[a], 8)
		w[c] += w[d]
		w[b] = bits.RotateLeft32(w[b]^w[c], 7)
	}
	for range 10 {
		for i := range 4 {
			quarter(i, 4+i, 8+i, 12+i)
		}
		for i := range 4 {
			quarter(i, 4+(i+1)%4, 8+(i+2)%4, 12+(i+3)%4)
		}
	}
	return w
}

// blocks answers how many are needed for so many bytes.
func blocks(n int) uint64 { return (uint64(n) + 63) / 64 }
