package poly

import (
	"math/bits"

	"signet/api"
)

// Numbers stand here in arrays of parts of 64 bits, the lowest one first. No
// step that takes bytes in hangs on what they or the key are: how long a call
// takes is not to tell anything of these.

// number has room for what is below twice the prime 2^130 - 5, and for more.
type number [3]uint64

// left130 is what each 2^130 leaves by the prime.
const left130 = 5

func prime() number { return number{1<<64 - 5, 1<<64 - 1, 3} }

// pair answers the number of 16 bytes.
func pair(b [16]byte) [2]uint64 {
	var a [2]uint64
	for i, x := range b {
		a[i/8] |= uint64(x) << (i % 8 * 8)
	}
	return a
}

// clamped answers the number without the bits that R may not have.
func clamped(r [2]uint64) [2]uint64 {
	return [2]uint64{r[0] & 0x0ffffffc0fffffff, r[1] & 0x0ffffffc0ffffffc}
}

func plus(a, b number) number {
	var sum number
	var carry uint64
	for i := range sum {
		sum[i], carry = bits.Add64(a[i], b[i], carry)
	}
	return sum
}

// minus answers the difference by 2^192, and 1 if it went round.
func minus(a, b number) (number, uint64) {
	var rest number
	var borrow uint64
	for i := range rest {
		rest[i], borrow = bits.Sub64(a[i], b[i], borrow)
	}
	return rest, borrow
}

func below(a number) bool {
	_, borrow := minus(a, prime())
	return borrow == 1
}

// times answers the number once (n is 1) or not at all (n is 0).
func times(a number, n uint64) number {
	for i := range a {
		a[i] &= -n
	}
	return a
}

// step answers a*b + c + d, the lower part first. Two parts are room enough:
// at their highest these come to 2^128 - 1.
func step(a, b, c, d uint64) (uint64, uint64) {
	high, low := bits.Mul64(a, b)
	low, carry := bits.Add64(low, c, 0)
	high += carry
	low, carry = bits.Add64(low, d, 0)
	return low, high + carry
}

// wide answers the product as it is, in five parts.
func wide(a number, r [2]uint64) [5]uint64 {
	var w [5]uint64
	for i := range a {
		var over uint64
		for j := range r {
			w[i+j], over = step(a[i], r[j], w[i+j], over)
		}
		w[i+2] = over
	}
	return w
}

// product answers what is left by the prime. R is below 2^124 and a below
// 2^131, so that the fifth part is always 0, and what is folded stays below
// twice the prime: taking the prime off once is enough.
func product(a number, r [2]uint64) number {
	w := wide(a, r)
	high := [2]uint64{w[2]>>2 | w[3]<<62, w[3] >> 2}
	sum := number{w[0], w[1], w[2] & 3}
	var over uint64
	for i := range high {
		sum[i], over = step(high[i], left130, sum[i], over)
	}
	sum[2] += over
	rest, borrow := minus(sum, prime())
	return plus(rest, times(prime(), borrow))
}

// takeIn answers the sum with what is held taken in, the byte 1 behind it too:
// by that byte bytes that end in zeros differ from those without them.
func takeIn(p api.Poly) api.Poly {
	low := pair(p.Held)
	held := number{low[0], low[1], 0}
	held[p.N/8] |= 1 << (p.N % 8 * 8)
	p.Acc = product(plus(p.Acc, held), p.R)
	p.Held, p.N = [16]byte{}, 0
	return p
}

// padded answers the 16 bytes of Acc and Pad, by 2^128.
func padded(p api.Poly) [16]byte {
	sum := plus(p.Acc, number{p.Pad[0], p.Pad[1], 0})
	var b [16]byte
	for i := range b {
		b[i] = byte(sum[i/8] >> (i % 8 * 8))
	}
	return b
}
