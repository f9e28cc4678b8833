package ratchet

import "signet/api"

// maxBeside: how many bytes there may be beside a text, as those of the head stand there, too.
const maxBeside = api.MaxAd - 40

// upTo answers who asks whether a number is from 0 to the highest one.
func upTo(highest int) func(int) bool {
	return func(n int) bool { return 0 <= n && n <= highest }
}

// maySeal: what is wrong with sealing a text?
func maySeal(r api.Ratchet, ad, text []byte) api.Errno {
	if e := Check(r); e != api.OK {
		return e
	}
	switch {
	case !r.Can:
		return api.ErrState
	case len(text) > api.MaxText || len(ad) > maxBeside:
		return api.ErrSize
	case r.Out == api.MaxNumber:
		return api.ErrOver
	}
	return api.OK
}

// four answers the bytes of a number, the highest one first.
func four(n int) []byte {
	return []byte{byte(n >> 24), byte(n >> 16), byte(n >> 8), byte(n)}
}
