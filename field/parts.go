package field

import (
	"math/bits"

	"signet/api"
)

// No step here hangs on what the numbers are: secrets go through them, and how
// long a call takes is not to tell anything of these.

// low63 has all bits set but the highest one.
const low63 = 1<<63 - 1

// Each 2^255 leaves 19 by the prime, so each 2^256 leaves 38.
const (
	left255 = 19
	left256 = 38
)

func prime() api.Fe {
	return api.Fe{1<<64 - 19, 1<<64 - 1, 1<<64 - 1, low63}
}

func below(a api.Fe) bool {
	_, borrow := minus(a, prime())
	return borrow == 1
}

// plus answers the sum by 2^256, and 1 if it went round.
func plus(a, b api.Fe) (api.Fe, uint64) {
	var sum api.Fe
	var carry uint64
	for i := range sum {
		sum[i], carry = bits.Add64(a[i], b[i], carry)
	}
	return sum, carry
}

// minus answers the difference by 2^256, and 1 if it went round.
func minus(a, b api.Fe) (api.Fe, uint64) {
	var rest api.Fe
	var borrow uint64
	for i := range rest {
		rest[i], borrow = bits.Sub64(a[i], b[i], borrow)
	}
	return rest, borrow
}

// times answers the number once (n is 1) or not at all (n is 0).
func times(a api.Fe, n uint64) api.Fe {
	for i := range a {
		a[i] &= -n
	}
	return a
}

// fold answers what is left by the prime of a and over times 2^256. While over
// is below 2^50, what is folded stays below twice the prime, so that taking the
// prime off once is enough.
func fold(a api.Fe, over uint64) api.Fe {
	over = over<<1 | a[3]>>63
	a[3] &= low63
	a, _ = plus(a, api.Fe{over * left255})
	rest, borrow := minus(a, prime())
	rest, _ = plus(rest, times(prime(), borrow))
	return rest
}

// step answers a*b + c + d, the lower part first. Two parts are room enough:
// at their highest these come to 2^128 - 1.
func step(a, b, c, d uint64) (uint64, uint64) {
	high, low := bits.Mul64(a, b)
	low, carry := bits.Add64(low, c, 0)
	high += carry
	low, carry = bits.Add64(low, d, 0)
	return low, high + carry
}

// wide answers the product as it is, in eight parts.
func wide(a, b api.Fe) [8]uint64 {
	var w [8]uint64
	for i := range a {
		var over uint64
		for j := range b {
			w[i+j], over = step(a[i], b[j], w[i+j], over)
		}
		w[i+4] = over
	}
	return w
}

// product answers what is left by the prime of the product.
func product(a, b api.Fe) api.Fe {
	w := wide(a, b)
	var low api.Fe
	var over uint64
	for i := range low {
		low[i], over = step(w[i+4], left256, w[i], over)
	}
	return fold(low, over)
}

// inverse takes a to the power of the prime less 2, which is what Fermat's
// little theorem asks for; of 0 that is 0. In that power, 2^255 - 21, all of
// the 255 bits are set but those of 4 and 16.
func inverse(a api.Fe) api.Fe {
	power := api.Fe{1}
	for i := 254; i >= 0; i-- {
		power = product(power, power)
		if i != 2 && i != 4 {
			power = product(power, a)
		}
	}
	return power
}
