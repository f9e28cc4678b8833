package seal

import (
	"slices"

	"signet/api"
	"signet/chacha"
	"signet/poly"
)

// tagSize: the bytes of a tag.
const tagSize = 16

// tagOf answers the tag of what is beside a text and of the text as it was
// turned.
func tagOf(key api.Key, nonce [12]byte, ad, turned []byte) [tagSize]byte {
	block := chacha.Block(key, 0, nonce)
	return poly.Tag(api.Key(block[:32]), summed(ad, turned))
}

// summed answers the bytes that the tag is of. Their lengths stand at the end,
// as without these a byte could go over from one to the other unseen, or a
// nought be put behind either.
func summed(ad, turned []byte) []byte {
	return slices.Concat(ad, fill(len(ad)), turned, fill(len(turned)), eight(len(ad)), eight(len(turned)))
}

// fill answers the noughts that are missing to a multiple of 16.
func fill(n int) []byte { return make([]byte, (16-n%16)%16) }

// eight answers the bytes of a number, the lowest one first.
func eight(n int) []byte {
	b := make([]byte, 8)
	for i := range b {
		b[i] = byte(n >> (8 * i))
	}
	return b
}

// same asks all bytes, whichever differ: how long it takes is not to tell how
// much of a tag was guessed.
func same(a, b [tagSize]byte) bool {
	var differ byte
	for i := range a {
		differ |= a[i] ^ b[i]
	}
	return differ == 0
}
