// Package field: numbers by 2^255 - 19.
package field

import "signet/api"

// Add two numbers (P1.1).
func Add(a, b api.Fe) (api.Fe, api.Errno) {
	if !below(a) || !below(b) {
		return api.Fe{}, api.ErrRange
	}
	// Two numbers below the prime come to less than 2^256: nothing is carried.
	sum, _ := plus(a, b)
	return fold(sum, 0), api.OK
}

// Sub one number from another (P1.1).
func Sub(a, b api.Fe) (api.Fe, api.Errno) {
	if !below(a) || !below(b) {
		return api.Fe{}, api.ErrRange
	}
	rest, borrow := minus(a, b)
	// A difference below 0 stands 2^256 too high; with the prime it goes round to its place.
	rest, _ = plus(rest, times(prime(), borrow))
	return rest, api.OK
}

// Mul two numbers (P1.1).
func Mul(a, b api.Fe) (api.Fe, api.Errno) {
	if !below(a) || !below(b) {
		return api.Fe{}, api.ErrRange
	}
	return product(a, b), api.OK
}

// Inv: what a number is to be taken times to come to one (P1.2).
func Inv(a api.Fe) (api.Fe, api.Errno) {
	if !below(a) {
		return api.Fe{}, api.ErrRange
	}
	return inverse(a), api.OK
}

// From bytes a number (P1.3).
func From(b [32]byte) api.Fe {
	var a api.Fe
	for i := range b {
		a[i/8] |= uint64(b[i]) << (i % 8 * 8)
	}
	a[3] &= low63
	return fold(a, 0)
}

// Bytes of a number (P1.3).
func Bytes(a api.Fe) ([32]byte, api.Errno) {
	if !below(a) {
		return [32]byte{}, api.ErrRange
	}
	var b [32]byte
	for i := range b {
		b[i] = byte(a[i/8] >> (i % 8 * 8))
	}
	return b, api.OK
}
