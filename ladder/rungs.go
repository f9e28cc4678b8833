package ladder

import (
	"signet/api"
	"signet/field"
)

// No step here hangs on what the secret is: how long a call takes, and where it
// looks, is not to tell anything of it.

// point is the first number of a point as a fraction, what is above the line
// first: so nothing is divided before the end. The far point has 0 below it.
type point [2]api.Fe

// rungs are two points whose difference is always the point that was given:
// this is what lets them be added without their second numbers.
type rungs [2]point

// quarter is (486662 - 2) / 4, of the curve's number 486662 (a24 in RFC 7748).
const quarter = 121665

// climb answers the point so often as k says, and once more.
func climb(k api.Key, first api.Fe) rungs {
	r := rungs{{{1}, {}}, {first, {1}}}
	for i := 254; i >= 0; i-- {
		bit := uint64(k[i/8]>>(i%8)) & 1
		r = swap(r, bit)
		r = rungs{twice(r[0]), sum(r, first)}
		r = swap(r, bit)
	}
	return r
}

// swap changes the places of both if bit is 1, and does the same work if it is 0.
func swap(r rungs, bit uint64) rungs {
	for i := range r[0] {
		for j := range r[0][i] {
			other := (r[0][i][j] ^ r[1][i][j]) & -bit
			r[0][i][j] ^= other
			r[1][i][j] ^= other
		}
	}
	return r
}

// twice answers the point added to itself.
func twice(p point) point {
	plus := square(add(p[0], p[1]))
	minus := square(sub(p[0], p[1]))
	rest := sub(plus, minus)
	return point{
		mul(plus, minus),
		mul(rest, add(plus, mul(api.Fe{quarter}, rest))),
	}
}

// sum answers both points added to each other; first belongs to their difference.
func sum(r rungs, first api.Fe) point {
	a := mul(sub(r[1][0], r[1][1]), add(r[0][0], r[0][1]))
	b := mul(add(r[1][0], r[1][1]), sub(r[0][0], r[0][1]))
	return point{
		square(add(a, b)),
		mul(first, square(sub(a, b))),
	}
}

// value answers the bytes of the fraction. As the inverse of 0 is 0, those of
// the far point are 0.
func value(p point) api.Key {
	below, _ := field.Inv(p[1])
	b, _ := field.Bytes(mul(p[0], below))
	return b
}

func tells(k api.Key) bool {
	var seen byte
	for _, b := range k {
		seen |= b
	}
	return seen != 0
}

// What field answers is below its prime, so nothing that is handed back to it
// is refused: the errors are left out from here on.

func add(a, b api.Fe) api.Fe {
	c, _ := field.Add(a, b)
	return c
}

func sub(a, b api.Fe) api.Fe {
	c, _ := field.Sub(a, b)
	return c
}

func mul(a, b api.Fe) api.Fe {
	c, _ := field.Mul(a, b)
	return c
}

func square(a api.Fe) api.Fe { return mul(a, a) }
