package cipher

import (
	"bytes"
	"encoding/binary"
	"encoding/hex"
	"math/rand"
	"slices"
	"testing"

	"signet/api"
	"signet/seal"
)

const (
	mostAd   = 200 // bytes that may be beside a text
	mostText = 800 // bytes of the longest text
	mostB    = 816 // bytes of the longest that may be opened
	last     = ^uint64(0)
)

func unhex(t *testing.T, s string) []byte {
	t.Helper()
	b, err := hex.DecodeString(s)
	if err != nil {
		t.Fatalf("no bytes: %s", s)
	}
	return b
}

// of answers a byte so often.
func of(x byte, n int) []byte { return bytes.Repeat([]byte{x}, n) }

// rising answers so many bytes, each one more than the one ahead of it.
func rising(from byte, n int) []byte {
	b := make([]byte, n)
	for i := range b {
		b[i] = from + byte(i)
	}
	return b
}

func drawBytes(r *rand.Rand, n int) []byte {
	b := make([]byte, n)
	r.Read(b)
	return b
}

func drawKey(r *rand.Rand) api.Key { return api.Key(drawBytes(r, 32)) }

// at answers a cipher that was used so often.
func at(k api.Key, n uint64) api.Cipher { return api.Cipher{Has: true, Key: k, N: n} }

// numbers that may be used, about the ends of their bytes.
func numbers() []uint64 {
	l := []uint64{0, 1, 2, 255, 256, 257, 65535, 65536, 1<<32 - 1, 1 << 32, 1<<32 + 1}
	return append(l, 1<<56-1, 1<<56, 1<<63-1, 1<<63, 1<<63+1, last-2, last-1, 0x0807060504030201)
}

// bookNonce answers the nonce by the words of the chapter.
func bookNonce(n uint64) [12]byte {
	return [12]byte(binary.LittleEndian.AppendUint64(make([]byte, 4), n))
}

// bookSeal answers what package seal makes of a text, with a key and a number.
func bookSeal(t *testing.T, k api.Key, n uint64, ad, text []byte) []byte {
	t.Helper()
	b, e := seal.Seal(k, bookNonce(n), ad, text)
	if e != api.OK {
		t.Fatalf("seal.Seal of %d bytes beside %d: error %d", len(text), len(ad), e)
	}
	return b
}

// bookRekey answers the key that Rekey ought to.
func bookRekey(t *testing.T, k api.Key) api.Key {
	t.Helper()
	return api.Key(bookSeal(t, k, last, nil, make([]byte, 32))[:32])
}

// call is Seal or Open.
type call func(api.Cipher, []byte, []byte) (api.Cipher, []byte, api.Errno)

// try asks one call for its bytes and its cipher.
func try(t *testing.T, do call, c api.Cipher, ad, b []byte, then api.Cipher, want []byte) {
	t.Helper()
	d, got, e := do(c, ad, b)
	if e != api.OK || d != then || !bytes.Equal(got, want) {
		t.Fatalf("%v, %x, %x: %v %x %d, want %v %x", c, ad, b, d, got, e, then, want)
	}
}

// trySeal seals, and opens what was sealed.
func trySeal(t *testing.T, k api.Key, n uint64, ad, text, want []byte) {
	t.Helper()
	try(t, Seal, at(k, n), ad, text, at(k, n+1), want)
	try(t, Open, at(k, n), ad, want, at(k, n+1), text)
}

// tryRefused asks one call for its error, with which all else is nothing.
func tryRefused(t *testing.T, do call, c api.Cipher, ad, b []byte, want api.Errno) {
	t.Helper()
	d, got, e := do(c, ad, b)
	if e != want || d != (api.Cipher{}) || len(got) != 0 {
		t.Fatalf("%v, %d bytes beside %d: %v, %d bytes and error %d, want none and error %d", c, len(b), len(ad), d, len(got), e, want)
	}
}

func tryRekey(t *testing.T, c api.Cipher, want api.Key) api.Cipher {
	t.Helper()
	d, e := Rekey(c)
	if e != api.OK || d != at(want, c.N) {
		t.Fatalf("Rekey(%v): %v %d, want the key %x", c, d, e, want)
	}
	return d
}

func tryRekeyRefused(t *testing.T, c api.Cipher) {
	t.Helper()
	if d, e := Rekey(c); e != api.ErrState || d != (api.Cipher{}) {
		t.Fatalf("Rekey(%v): %v %d, want none and error %d", c, d, e, api.ErrState)
	}
}

// turnEach turns each bit by itself, does what is to be done, and turns it back.
func turnEach(b []byte, do func()) {
	for i := range 8 * len(b) {
		b[i/8] ^= 1 << (i % 8)
		do()
		b[i/8] ^= 1 << (i % 8)
	}
}

// bad answers ciphers that may not be: without a key, but not all zero.
func bad() []api.Cipher {
	l := []api.Cipher{
		{N: 1}, {N: 256}, {N: 1 << 32}, {N: 1 << 63}, {N: last - 1}, {N: last},
		{Key: api.Key(of(255, 32))}, {Key: api.Key(rising(1, 32)), N: 7}, {Key: api.Key{1}, N: last},
	}
	for i := range 256 {
		var k api.Key
		k[i/8] = 1 << (i % 8)
		l = append(l, api.Cipher{Key: k})
	}
	for i := range 64 {
		l = append(l, api.Cipher{N: 1 << i})
	}
	return l
}

// P8.1: the key is there, each byte of it, also if it is all zero; the number is 0.
func TestBegin(t *testing.T) {
	for _, k := range []api.Key{{}, {1}, {31: 1}, api.Key(rising(1, 32)), api.Key(of(255, 32))} {
		c := Begin(k)
		if !c.Has || c.Key != k || c.N != 0 {
			t.Errorf("Begin(%x): %v", k, c)
		}
		if e := Check(c); e != api.OK {
			t.Errorf("Check(Begin(%x)): error %d", k, e)
		}
		trySeal(t, k, 0, nil, []byte("abc"), bookSeal(t, k, 0, nil, []byte("abc")))
	}
}

// P8.2: with a key any key and any number may be, and all zero may be.
func TestCheckMayBe(t *testing.T) {
	if e := Check(api.Cipher{}); e != api.OK {
		t.Errorf("all zero: error %d", e)
	}
	for _, k := range []api.Key{{}, {1}, {31: 128}, api.Key(rising(1, 32)), api.Key(of(255, 32))} {
		for _, n := range append(numbers(), last) {
			if e := Check(at(k, n)); e != api.OK {
				t.Errorf("key %x, number %d: error %d", k, n, e)
			}
		}
	}
}

// P8.2: without a key each bit of a key and of a number is refused.
func TestCheckMayNotBe(t *testing.T) {
	for _, c := range bad() {
		if e := Check(c); e != api.ErrState {
			t.Errorf("Check(%v): error %d, want %d", c, e, api.ErrState)
		}
		c.Has = true
		if e := Check(c); e != api.OK {
			t.Errorf("Check(%v): error %d", c, e)
		}
	}
}

// P8.3: numbers about the ends of their bytes, as another program (the
// ChaCha20Poly1305 of Python's cryptography) seals with their nonces.
func TestWritten(t *testing.T) {
	k, ad := api.Key(rising(1, 32)), rising(101, 20)
	text := []byte("a text of some bytes, more than one block of the stream is long.!")
	for _, c := range []struct {
		n    uint64
		want string
	}{
		{0, "02aaa3731fb68956fd6b453ffabb8d5a82a8ea8a75e401635bc7a678a8d9ddf1a5b832b049e3ff61" +
			"9072e7e999ff5c50b237d342c5e0ff8f1e68dd959399f0116621eda4b14feecbeab847bf86a6351b0a"},
		{1, "01f534006bf0e967525000b532aab0336a95d77f2de72ff1b2b2976a12ac91f9088a926f818ff587" +
			"4f2d205e6906e31bc1ecf56e5ff80555fcef7d038309eb1549d7c243bc18bcb4327e0e32cf9ade26f5"},
		{255, "fea4fd62fac63b44f00210ac593b2ac4384238276cf50097055c0cdbfc921cfc2ccbcbdd33828669" +
			"5aa091d1d23102b0cbd8d48fe71291415a111a3134a97bacdd5306cfafe18e2cc8793abc114f0bfaba"},
		{256, "69dfec302e5425ef0ae1a7abb9c674e5fdbd84cc6c539974751fae0acabb837b9a99f5b2b285112e" +
			"5177226e8e4f661d7e87cb34536a41503d5995ebc5daf52723a3e7edb8764a7c811f0c8aaedd48b164"},
		{1<<32 - 1, "299410b646991829b0f78b94227205c668cb4afc2437d071911c9e71fee65b5aa8eedf41c949dc8d" +
			"344558a2ea096e2cbd120facaf20ca7103362e530c7402c6ff141e5d876f08678c0836d2551e2bc4a9"},
		{1 << 32, "232339c1792cd3218e2628cde0c45f9fab1fdda88d84d9dcb9a2f36f1df44b5233db45e554d992e6" +
			"cad134ea4b388ef278dbc929d72c28da4b8d3ae3cac16e089fd8a598f37abbf16ac7a720729a8c96d1"},
		{1 << 63, "981ba92dc6541424cf71b6c91be088425d1057b6ad81100610dff5ca7a0381c4513302113a7354b9" +
			"5c730b48767b1c04af45cfd948087c87afaae1f2d5b6c8907e7bfcc5c8d862a66b3d69f4026cb15af5"},
		{last - 1, "c5a33258adfbab5472e136122a1d65c538fd0046c1260fb11cb53c95510a27697b161ba4fd83e2b3" +
			"d528f88dda4e051134d71ad713940937b04ec2c5303e72d9204bb2e8c45e88a14feb8cb834b0c7114a"},
	} {
		trySeal(t, k, c.n, ad, text, unhex(t, c.want))
	}
}

// P8.3: numbers, and each bit of them by itself, by the answers of package seal;
// the number is one more then, and the key stays.
func TestNumbers(t *testing.T) {
	r := rand.New(rand.NewSource(1))
	l := numbers()
	for i := range 64 {
		l = append(l, 1<<i, last^1<<i)
	}
	for range 100 {
		l = append(l, r.Uint64()>>1)
	}
	for _, n := range l {
		for _, k := range []api.Key{{}, drawKey(r)} {
			ad, text := drawBytes(r, r.Intn(mostAd+1)), drawBytes(r, r.Intn(mostText+1))
			trySeal(t, k, n, ad, text, bookSeal(t, k, n, ad, text))
		}
	}
}

// P8.3: texts and what lies beside them, of lengths up to the longest ones.
func TestLengths(t *testing.T) {
	r := rand.New(rand.NewSource(2))
	for _, a := range []int{0, 1, 15, 16, 17, 32, mostAd - 1, mostAd} {
		for _, size := range []int{0, 1, 15, 16, 17, 32, 63, 64, 65, 400, mostText - 1, mostText} {
			k, n := drawKey(r), r.Uint64()>>1
			ad, text := drawBytes(r, a), drawBytes(r, size)
			trySeal(t, k, n, ad, text, bookSeal(t, k, n, ad, text))
		}
	}
}

// P8.3: each number up to 600 is used once, one behind the other, and no two seal
// one text alike.
func TestCounts(t *testing.T) {
	c, k := Begin(api.Key{5}), api.Key{5}
	seen := map[string]int{}
	for i := range 600 {
		d, b, e := Seal(c, []byte{6}, []byte("the same"))
		if e != api.OK || d != at(k, uint64(i)+1) || !bytes.Equal(b, bookSeal(t, k, uint64(i), []byte{6}, []byte("the same"))) {
			t.Fatalf("use %d: %v %x %d", i, d, b, e)
		}
		if was, ok := seen[string(b)]; ok {
			t.Fatalf("uses %d and %d seal alike", was, i)
		}
		seen[string(b)] = i
		c = d
	}
}

// P8.3: the last number is refused, whatever else is wrong; the one ahead of it is
// used, and then it is over.
func TestOver(t *testing.T) {
	k := api.Key{9}
	for _, a := range []int{0, 1, mostAd, mostAd + 1, 1 << 16} {
		for _, size := range []int{0, 1, 15, 16, 17, mostText, mostText + 1, mostB, mostB + 1, 1 << 16} {
			tryRefused(t, Seal, at(k, last), of(1, a), of(2, size), api.ErrOver)
			tryRefused(t, Open, at(k, last), of(1, a), of(2, size), api.ErrOver)
		}
	}
	right := bookSeal(t, k, last, []byte("ad"), []byte("abc"))
	tryRefused(t, Open, at(k, last), []byte("ad"), right, api.ErrOver)
	c, b, e := Seal(at(k, last-1), nil, []byte("abc"))
	if e != api.OK || c != at(k, last) || !bytes.Equal(b, bookSeal(t, k, last-1, nil, []byte("abc"))) {
		t.Fatalf("the last number but one: %v %x %d", c, b, e)
	}
	tryRefused(t, Seal, c, nil, []byte("abc"), api.ErrOver)
	d, _, e := Open(at(k, last-1), nil, b)
	if e != api.OK || d != c {
		t.Fatalf("the last number but one: %v %d", d, e)
	}
	tryRefused(t, Open, d, nil, b, api.ErrOver)
}

// P8.3: without a key bytes are told as they are, up to the longest text, and the
// cipher stays; what lies beside them is not asked, however long it is.
func TestPlain(t *testing.T) {
	none := api.Cipher{}
	for _, do := range []call{Seal, Open} {
		for _, a := range []int{0, 1, mostAd, mostAd + 1, 1 << 16} {
			for _, size := range []int{0, 1, 2, 15, 16, 17, 400, mostText - 1, mostText} {
				try(t, do, none, of(3, a), rising(1, size), none, rising(1, size))
			}
			for _, size := range []int{mostText + 1, mostB - 1, mostB, mostB + 1, 2 * mostText, 1 << 20} {
				tryRefused(t, do, none, of(3, a), rising(1, size), api.ErrSize)
			}
		}
		for _, b := range [][]byte{nil, {}, rising(1, 9)[:0]} {
			try(t, do, none, nil, b, none, nil)
		}
	}
}

// P8.3: what was sealed is told as it is without a key, too, not opened.
func TestPlainOfSealed(t *testing.T) {
	sealed := bookSeal(t, api.Key{}, 0, []byte("ad"), []byte("abc"))
	try(t, Open, api.Cipher{}, []byte("ad"), sealed, api.Cipher{}, sealed)
}

// P8.3, P8.4: a cipher that may not be is refused ahead of all else.
func TestMayNotBe(t *testing.T) {
	for _, c := range bad() {
		for _, a := range []int{0, mostAd + 1} {
			for _, size := range []int{0, 1, 16, mostText, mostText + 1, mostB + 1} {
				tryRefused(t, Seal, c, of(1, a), of(2, size), api.ErrState)
				tryRefused(t, Open, c, of(1, a), of(2, size), api.ErrState)
			}
		}
		right := bookSeal(t, c.Key, c.N, nil, []byte("abc"))
		tryRefused(t, Open, c, nil, right, api.ErrState)
		tryRekeyRefused(t, c)
	}
}

// P8.3: what seal refuses as too long; the longest is not.
func TestSealTooLong(t *testing.T) {
	k := api.Key{4}
	for _, n := range []uint64{0, 1, 1 << 32, last - 1} {
		for _, a := range []int{0, mostAd, mostAd + 1, 1 << 16} {
			for _, size := range []int{0, mostText, mostText + 1, mostB, 1 << 16} {
				if a > mostAd || size > mostText {
					tryRefused(t, Seal, at(k, n), of(1, a), of(2, size), api.ErrSize)
				} else {
					trySeal(t, k, n, of(1, a), of(2, size), bookSeal(t, k, n, of(1, a), of(2, size)))
				}
			}
		}
	}
}

// P8.3: what seal refuses to open: which error comes, where more than one is due.
func TestOpenErrors(t *testing.T) {
	for _, n := range []uint64{0, 1, 1 << 32, last - 1} {
		for _, a := range []int{0, 1, mostAd, mostAd + 1, 1 << 16} {
			for _, size := range []int{0, 1, 15, 16, 17, mostText, mostText + 1, mostB, mostB + 1, 1 << 16} {
				want := api.ErrAuth
				if a > mostAd || size > mostB {
					want = api.ErrSize
				} else if size < 16 {
					want = api.ErrShort
				}
				tryRefused(t, Open, at(api.Key{4}, n), of(1, a), of(2, size), want)
			}
		}
	}
}

// P8.3: one bit of what was sealed, of what lies beside it, of the key or of the
// number is another one: ErrAuth; and the cipher that was handed in still opens
// what was sealed.
func TestOpenOneBit(t *testing.T) {
	r := rand.New(rand.NewSource(3))
	for _, a := range []int{0, 1, 17, mostAd} {
		for _, size := range []int{0, 1, 17, 65} {
			c := at(drawKey(r), r.Uint64()>>1)
			ad, text := drawBytes(r, a), drawBytes(r, size)
			sealed := bookSeal(t, c.Key, c.N, ad, text)
			for _, part := range [][]byte{sealed, ad, c.Key[:]} {
				turnEach(part, func() { tryRefused(t, Open, c, ad, sealed, api.ErrAuth) })
			}
			for i := range 64 {
				tryRefused(t, Open, at(c.Key, c.N^1<<i), ad, sealed, api.ErrAuth)
			}
			try(t, Open, c, ad, sealed, at(c.Key, c.N+1), text)
		}
	}
}

// P8.3: of what was sealed no piece opens, nor what is longer by a byte.
func TestOpenPieces(t *testing.T) {
	c, ad := at(api.Key{8}, 300), of(1, 20)
	sealed := bookSeal(t, c.Key, c.N, ad, rising(3, 40))
	for i := range sealed {
		want := api.ErrAuth
		if i < 16 {
			want = api.ErrShort
		}
		tryRefused(t, Open, c, ad, sealed[:i], want)
	}
	tryRefused(t, Open, c, ad, append(slices.Clone(sealed), 0), api.ErrAuth)
	tryRefused(t, Open, c, ad[:19], sealed, api.ErrAuth)
	tryRefused(t, Open, c, append(of(1, 20), 0), sealed, api.ErrAuth)
}

// P8.4: the first, the second and the hundredth key of a key, as another program
// (the ChaCha20Poly1305 of Python's cryptography) makes them.
func TestRekeyWritten(t *testing.T) {
	for _, l := range []struct {
		key  []byte
		want [3]string
	}{
		{of(0, 32), [3]string{
			"25ce5d37df19f3783185f2ffd5ab17fa3397c212f02d62fb1733e0b875b74c58",
			"d1e632dbd6a7b804e9081d223e165e115256a9d13b11d90e7b707790362ff2e0",
			"71664f95ca0a2681677755c76a1bcb8f070df409b2da7c4229fa8554845fe83a"}},
		{of(255, 32), [3]string{
			"5bac2acd86a836c5dc98c116c1217ec31d3a63a9451319f097f3b4d6dab07787",
			"3bc92e63c05a0c6ededf3ee0ee19a28f784a750754cc20a7d1e270c312f9fd10",
			"5152f15c42a22e1381d88aaf2d39a397b0d4cca21b5306f209eb14184b308c9e"}},
		{rising(1, 32), [3]string{
			"7f637be6f9d22510eccc1e8a598740cec00b4bb7657d85fe79833cfa50d09601",
			"93d0d21c1df51e932c4f17b1e1cb344fcae90c5cac50c9cefe37c196c38844cc",
			"82603e8c62efe5a0ba7392ca37dfbd8208da633aad8931fcd71dbb1d3b84b979"}},
	} {
		c := at(api.Key(l.key), 3)
		c = tryRekey(t, c, api.Key(unhex(t, l.want[0])))
		c = tryRekey(t, c, api.Key(unhex(t, l.want[1])))
		for range 97 {
			c, _ = Rekey(c)
		}
		tryRekey(t, c, api.Key(unhex(t, l.want[2])))
	}
}

// P8.4: by the answers of package seal: the number stays, whichever it is, also
// the last one, and has no part in the key.
func TestRekey(t *testing.T) {
	r := rand.New(rand.NewSource(4))
	for _, n := range append(numbers(), last) {
		for _, k := range []api.Key{{}, api.Key(of(255, 32)), drawKey(r), drawKey(r)} {
			tryRekey(t, at(k, n), bookRekey(t, k))
		}
	}
	tryRefused(t, Seal, tryRekey(t, at(api.Key{1}, last), bookRekey(t, api.Key{1})), nil, nil, api.ErrOver)
}

// P8.4: each bit of a key makes another key.
func TestRekeyBits(t *testing.T) {
	k := api.Key(rising(1, 32))
	seen := map[api.Key]int{bookRekey(t, k): -1, k: -2}
	turnEach(k[:], func() {
		c := tryRekey(t, Begin(k), bookRekey(t, k))
		if was, ok := seen[c.Key]; ok {
			t.Fatalf("%x: the same key as %d", k, was)
		}
		seen[c.Key] = len(seen)
	})
}

// P8.4: without a key there is none to make of it.
func TestRekeyNone(t *testing.T) { tryRekeyRefused(t, api.Cipher{}) }

// P8.3, P8.4: two sides that seal and open in one order come to the same, behind
// new keys and ahead of the last number, too.
func TestTalk(t *testing.T) {
	r := rand.New(rand.NewSource(5))
	for _, n := range []uint64{0, 250, 1<<32 - 20, 1<<63 - 20, last - 40} {
		a := at(drawKey(r), n)
		b := a
		for i := range 40 {
			ad, text := drawBytes(r, r.Intn(mostAd+1)), drawBytes(r, r.Intn(mostText+1))
			x, sealed, e := Seal(a, ad, text)
			y, opened, f := Open(b, ad, sealed)
			if e != api.OK || f != api.OK || x != y || x != at(a.Key, n+uint64(i)+1) || !bytes.Equal(opened, text) {
				t.Fatalf("from %d on, text %d: %v %d, %v %d", n, i, x, e, y, f)
			}
			a, b = x, y
			if i%7 == 3 {
				next := bookRekey(t, a.Key)
				a, b = tryRekey(t, a, next), tryRekey(t, b, next)
			}
		}
	}
}

// P8.3: a text opens in its place alone: not ahead of it, not behind it, not twice.
func TestOrder(t *testing.T) {
	c := Begin(api.Key{3})
	var sides []api.Cipher
	var sealed [][]byte
	for i := range 10 {
		d, b, _ := Seal(c, []byte("ad"), []byte{byte(i)})
		sides, sealed = append(sides, c), append(sealed, b)
		c = d
	}
	for i, side := range append(sides, c) {
		for j, b := range sealed {
			if i == j {
				try(t, Open, side, []byte("ad"), b, at(api.Key{3}, uint64(i)+1), []byte{byte(j)})
			} else {
				tryRefused(t, Open, side, []byte("ad"), b, api.ErrAuth)
			}
		}
	}
}

// P8.3, P8.4: where only one of two has a new key, neither opens what the other
// one sealed; what was sealed with the old key opens with that alone.
func TestOneRekeyed(t *testing.T) {
	old := at(api.Key{7}, 5)
	renewed, _ := Rekey(old)
	_, one, _ := Seal(old, nil, []byte("abc"))
	_, other, _ := Seal(renewed, nil, []byte("abc"))
	tryRefused(t, Open, renewed, nil, one, api.ErrAuth)
	tryRefused(t, Open, old, nil, other, api.ErrAuth)
	try(t, Open, old, nil, one, at(old.Key, 6), []byte("abc"))
	try(t, Open, renewed, nil, other, at(renewed.Key, 6), []byte("abc"))
}

// P8.3: no text and nothing beside it may be lists or none.
func TestNone(t *testing.T) {
	k := api.Key{2}
	want := bookSeal(t, k, 1, nil, nil)
	for _, ad := range [][]byte{nil, {}, make([]byte, 0, 32)} {
		for _, text := range [][]byte{nil, {}, make([]byte, 0, 32)} {
			trySeal(t, k, 1, ad, text, want)
			tryRefused(t, Open, at(k, 1), ad, text, api.ErrShort)
		}
	}
}

// P8.3: no argument is changed, nor what lies behind it in a longer list, whether
// it is refused or not; also where both are parts of one list.
func TestArgumentsStay(t *testing.T) {
	r := rand.New(rand.NewSource(6))
	k := drawKey(r)
	for _, c := range []api.Cipher{{}, at(k, 0), at(k, 300), at(k, last), {N: 1}} {
		for _, a := range []int{0, 1, 16, mostAd, mostAd + 1} {
			for _, size := range []int{0, 1, 15, 16, 17, mostText, mostText + 1, mostB + 1} {
				room := drawBytes(r, a+size+100)
				if right, e := seal.Seal(c.Key, bookNonce(c.N), room[:a], room[a:a+size]); e == api.OK {
					copy(room[a:], right)
				}
				before := slices.Clone(room)
				for _, do := range []call{Seal, Open} {
					do(c, room[:a], room[a:a+size])
					do(c, room[:a], room[a:a+size+16])
					do(c, room[:min(a, size)], room[:size])
				}
				if !bytes.Equal(room, before) {
					t.Fatalf("%v, %d bytes beside %d: an argument was changed", c, size, a)
				}
			}
		}
	}
}

// P8.3: what comes out is new memory, spare room too, with and without a key;
// nothing is kept from call to call.
func TestAnswersShareNothing(t *testing.T) {
	r := rand.New(rand.NewSource(7))
	for _, c := range []api.Cipher{{}, at(drawKey(r), 0), at(drawKey(r), 1<<40)} {
		for _, size := range []int{0, 1, 15, 16, 17, 64, mostText} {
			ad, text := drawBytes(r, 40), drawBytes(r, size+50)
			_, want, _ := Seal(c, slices.Clone(ad), slices.Clone(text[:size]))
			_, one, _ := Seal(c, ad, text[:size])
			_, other, _ := Seal(c, ad, text[:size])
			given := append(slices.Clone(one), of(1, 50)...)
			_, first, _ := Open(c, ad, given[:len(one)])
			_, second, _ := Open(c, ad, given[:len(one)])
			was, wasGiven := slices.Clone(text), slices.Clone(given)
			clear(first[:cap(first)])
			clear(one[:cap(one)])
			if !bytes.Equal(text, was) || !bytes.Equal(given, wasGiven) {
				t.Fatalf("%v, %d bytes: an answer shares memory with what was handed in", c, size)
			}
			clear(text)
			clear(given)
			clear(ad)
			if !bytes.Equal(other, want) || !bytes.Equal(second, was[:size]) {
				t.Fatalf("%v, %d bytes: an answer shares memory with another one, or with what was handed in", c, size)
			}
		}
	}
}

// P8.3: the same call answers the same, whatever was called between.
func TestNothingKept(t *testing.T) {
	c := at(api.Key{6}, 77)
	want := bookSeal(t, c.Key, c.N, []byte("ad"), []byte("abc"))
	for range 3 {
		trySeal(t, c.Key, c.N, []byte("ad"), []byte("abc"), want)
		tryRefused(t, Open, c, []byte("da"), want, api.ErrAuth)
		tryRefused(t, Seal, at(c.Key, last), nil, nil, api.ErrOver)
		tryRekey(t, c, bookRekey(t, c.Key))
	}
}
