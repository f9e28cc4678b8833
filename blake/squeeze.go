package blake

import (
	"math/bits"

	"signet/api"
)

// orders says for each round which words of a block are mixed in, one behind the
// other (SIGMA of RFC 7693).
var orders = [10][16]int{
	{0, 1, 2, 3, 4, 5, 6, 7, 8, 9, 10, 11, 12, 13, 14, 15},
	{14, 10, 4, 8, 9, 15, 13, 6, 1, 12, 0, 2, 11, 7, 5, 3},
	{11, 8, 12, 0, 5, 2, 15, 13, 10, 14, 3, 6, 7, 1, 9, 4},
	{7, 9, 3, 1, 13, 12, 11, 14, 2, 6, 5, 10, 4, 0, 15, 8},
	{9, 0, 5, 7, 2, 4, 10, 15, 14, 1, 11, 12, 6, 8, 3, 13},
	{2, 12, 6, 10, 0, 11, 8, 3, 4, 13, 7, 5, 15, 14, 1, 9},
	{12, 5, 1, 15, 14, 13, 4, 10, 0, 7, 6, 3, 9, 2, 8, 11},
	{13, 11, 7, 14, 12, 1, 3, 9, 5, 0, 15, 4, 8, 6, 2, 10},
	{6, 15, 14, 9, 11, 3, 0, 8, 12, 2, 13, 7, 1, 4, 10, 5},
	{10, 2, 8, 4, 7, 6, 1, 5, 15, 11, 9, 14, 3, 12, 13, 0},
}

// iv answers IV: the first 32 bits behind the point of the square roots of the
// first eight primes.
func iv() [8]uint32 {
	return [8]uint32{
		0x6a09e667, 0xbb67ae85, 0x3c6ef372, 0xa54ff53a,
		0x510e527f, 0x9b05688c, 0x1f83d9ab, 0x5be0cd19,
	}
}

// squeezed answers H with the held block in it.
func squeezed(s api.Hash, last bool) [8]uint32 {
	v := rounds(spread(s, last), words(s.Held))
	for i := range s.H {
		s.H[i] ^= v[i] ^ v[8+i]
	}
	return s.H
}

// spread answers the words that are mixed: those of H, then those of IV. Into
// these goes whether the block is the last one, and, in two words, how many bytes
// there were: else bytes would have one sum with and without noughts behind them.
func spread(s api.Hash, last bool) [16]uint32 {
	var v [16]uint32
	for i, x := range iv() {
		v[i], v[8+i] = s.H[i], x
	}
	v[12] ^= uint32(s.Len)
	v[13] ^= uint32(s.Len >> 32)
	if last {
		v[14] = ^v[14]
	}
	return v
}

// words answers those of a block, the lowest byte of each first.
func words(block [64]byte) [16]uint32 {
	var m [16]uint32
	for i, x := range block {
		m[i/4] |= uint32(x) << (i % 4 * 8)
	}
	return m
}

// rounds answers the words after all ten rounds. Seen as a square, four words
// stand in a row: each round goes down its columns, then down its slanting lines.
func rounds(v, m [16]uint32) [16]uint32 {
	// By numbers below 0 words are turned to the right.
	mix := func(a, b, c, d int, x, y uint32) {
		v[a] += v[b] + x
		v[d] = bits.RotateLeft32(v[d]^v[a], -16)
		v[c] += v[d]
		v[b] = bits.RotateLeft32(v[b]^v[c], -12)
		v[a] += v[b] + y
		v[d] = bits.RotateLeft32(v[d]^v[a], -8)
		v[c] += v[d]
		v[b] = bits.RotateLeft32(v[b]^v[c], -7)
	}
	for r := range orders {
		for i := range 4 {
			mix(i, 4+i, 8+i, 12+i, m[orders[r][2*i]], m[orders[r][2*i+1]])
		}
		for i := range 4 {
			mix(i, 4+(i+1)%4, 8+(i+2)%4, 12+(i+3)%4, m[orders[r][8+2*i]], m[orders[r][9+2*i]])
		}
	}
	return v
}
