package poly

import (
	"bytes"
	"encoding/hex"
	"math"
	"math/big"
	"math/rand"
	"slices"
	"testing"

	"signet/api"
)

const full = 1<<64 - 1 // all bits of a part

func unhex(t *testing.T, s string) []byte {
	t.Helper()
	b, err := hex.DecodeString(s)
	if err != nil {
		t.Fatalf("no bytes: %s", s)
	}
	return b
}

func keyOf(x byte) api.Key { return api.Key(of(x, 32)) }

// of answers a byte so often.
func of(x byte, n int) []byte { return bytes.Repeat([]byte{x}, n) }

// halves answers a key of its two numbers, each by its lowest 64 bits.
func halves(r, pad uint64) api.Key {
	var k api.Key
	for i := range 8 {
		k[i] = byte(r >> (8 * i))
		k[16+i] = byte(pad >> (8 * i))
	}
	return k
}

func drawBytes(r *rand.Rand, n int) []byte {
	b := make([]byte, n)
	r.Read(b)
	return b
}

// drawSum answers a sum that may be, of which each part is often at an edge.
func drawSum(r *rand.Rand) api.Poly {
	key := api.Key(drawBytes(r, 32))
	if r.Intn(4) == 0 {
		key = keyOf(255)
	}
	p := api.Poly{R: bookClamped(key), Pad: [2]uint64{r.Uint64(), r.Uint64()}, N: r.Intn(16)}
	copy(p.Held[:p.N], drawBytes(r, 16))
	p.Acc = [3]uint64{r.Uint64(), r.Uint64(), r.Uint64() % 4}
	switch r.Intn(4) {
	case 0:
		p.Acc[1], p.Acc[2] = full, 3
	case 1:
		p.Acc = [3]uint64{full - 5 - r.Uint64()%6, full, 3}
		p.Pad = [2]uint64{full, full}
	}
	if bookCheck(p) != api.OK {
		p.Acc[0] = 0
	}
	return p
}

// What follows, up to bookTag, reckons by the words of the chapter and of RFC
// 8439, with great numbers and with nothing of the package's own.

func bookNumber(b []byte) *big.Int {
	b = slices.Clone(b)
	slices.Reverse(b)
	return new(big.Int).SetBytes(b)
}

func bookJoin(parts ...uint64) *big.Int {
	n := new(big.Int)
	for i := len(parts) - 1; i >= 0; i-- {
		n.Lsh(n, 64)
		n.Or(n, new(big.Int).SetUint64(parts[i]))
	}
	return n
}

func bookPart(n *big.Int, i uint) uint64 {
	low := new(big.Int).And(new(big.Int).Rsh(n, 64*i), new(big.Int).SetUint64(full))
	return low.Uint64()
}

func bookPower(n uint) *big.Int { return new(big.Int).Lsh(big.NewInt(1), n) }

func bookPrime() *big.Int { return new(big.Int).Sub(bookPower(130), big.NewInt(5)) }

func bookClamped(key api.Key) [2]uint64 {
	for _, i := range []int{3, 7, 11, 15} {
		key[i] &= 15
	}
	for _, i := range []int{4, 8, 12} {
		key[i] &= 252
	}
	n := bookNumber(key[:16])
	return [2]uint64{bookPart(n, 0), bookPart(n, 1)}
}

func bookBegin(key api.Key) api.Poly {
	pad := bookNumber(key[16:])
	return api.Poly{R: bookClamped(key), Pad: [2]uint64{bookPart(pad, 0), bookPart(pad, 1)}}
}

func bookCheck(p api.Poly) api.Errno {
	for _, i := range []int{28, 29, 30, 31, 32, 33, 60, 61, 62, 63, 64, 65, 92, 93, 94, 95, 96, 97, 124, 125, 126, 127} {
		if bookJoin(p.R[:]...).Bit(i) != 0 {
			return api.ErrState
		}
	}
	if bookJoin(p.Acc[:]...).Cmp(bookPrime()) >= 0 || p.N < 0 || p.N > 15 {
		return api.ErrState
	}
	for i := 15; i >= p.N; i-- {
		if p.Held[i] != 0 {
			return api.ErrState
		}
	}
	return api.OK
}

func bookTake(p api.Poly, b []byte) api.Poly {
	n := bookNumber(append(slices.Clone(b), 1))
	n.Add(n, bookJoin(p.Acc[:]...))
	n.Mul(n, bookJoin(p.R[:]...))
	n.Mod(n, bookPrime())
	p.Acc = [3]uint64{bookPart(n, 0), bookPart(n, 1), bookPart(n, 2)}
	return p
}

func bookAdd(p api.Poly, b []byte) api.Poly {
	all := slices.Concat(p.Held[:p.N], b)
	for len(all) >= 16 {
		p = bookTake(p, all[:16])
		all = all[16:]
	}
	p.Held, p.N = [16]byte{}, len(all)
	copy(p.Held[:], all)
	return p
}

func bookEnd(p api.Poly) [16]byte {
	if p.N > 0 {
		p = bookTake(p, p.Held[:p.N])
	}
	n := new(big.Int).Add(bookJoin(p.Acc[:]...), bookJoin(p.Pad[:]...))
	b := n.Mod(n, bookPower(128)).FillBytes(make([]byte, 16))
	slices.Reverse(b)
	return [16]byte(b)
}

func bookTag(key api.Key, b []byte) [16]byte { return bookEnd(bookAdd(bookBegin(key), b)) }

func tryBegin(t *testing.T, key api.Key) {
	t.Helper()
	if got, want := Begin(key), bookBegin(key); got != want {
		t.Fatalf("Begin(%x): %x, want %x", key, got, want)
	}
}

// tryCheck asks Check, and Add and End as well: these refuse what it refuses.
func tryCheck(t *testing.T, p api.Poly, want api.Errno) {
	t.Helper()
	if got := Check(p); got != want {
		t.Fatalf("Check(%x): %d, want %d", p, got, want)
	}
	sum, e := Add(p, []byte{1, 2, 3})
	if e != want || want != api.OK && sum != (api.Poly{}) {
		t.Fatalf("Add(%x): %x %d, want error %d", p, sum, e, want)
	}
	sum, e = Add(p, nil)
	if e != want || want != api.OK && sum != (api.Poly{}) {
		t.Fatalf("Add(%x) of no byte: %x %d, want error %d", p, sum, e, want)
	}
	tag, e := End(p)
	if e != want || want != api.OK && tag != [16]byte{} {
		t.Fatalf("End(%x): %x %d, want error %d", p, tag, e, want)
	}
}

func tryAdd(t *testing.T, p api.Poly, b []byte) {
	t.Helper()
	got, e := Add(p, b)
	if want := bookAdd(p, b); e != api.OK || got != want {
		t.Fatalf("Add(%x, %x): %x %d, want %x", p, b, got, e, want)
	}
	if Check(got) != api.OK {
		t.Fatalf("Add(%x, %x): %x, which may not be", p, b, got)
	}
}

func tryEnd(t *testing.T, p api.Poly) {
	t.Helper()
	got, e := End(p)
	if want := bookEnd(p); e != api.OK || got != want {
		t.Fatalf("End(%x): %x %d, want %x", p, got, e, want)
	}
}

func tryTag(t *testing.T, key api.Key, b []byte) {
	t.Helper()
	if got, want := Tag(key, b), bookTag(key, b); got != want {
		t.Fatalf("Tag(%x, %x): %x, want %x", key, b, got, want)
	}
}

// P4.1: of a key with all bits set just the bits that the chapter names are 0 in
// R; of one with none nothing is set.
func TestBeginEdges(t *testing.T) {
	want := api.Poly{R: [2]uint64{0x0ffffffc0fffffff, 0x0ffffffc0ffffffc}, Pad: [2]uint64{full, full}}
	if got := Begin(keyOf(255)); got != want {
		t.Errorf("all bits: %x, want %x", got, want)
	}
	if got := Begin(api.Key{}); got != (api.Poly{}) {
		t.Errorf("no bit: %x", got)
	}
}

// P4.1: the key of RFC 8439, chapter 2.5.2, and its two numbers.
func TestBeginVector(t *testing.T) {
	key := unhex(t, "85d6be7857556d337f4452fe42d506a80103808afb0db2fd4abff6af4149f51b")
	want := api.Poly{R: [2]uint64{0x036d555408bed685, 0x0806d5400e52447c}, Pad: [2]uint64{0xfdb20dfb8a800301, 0x1bf54941aff6bf4a}}
	if got := Begin(api.Key(key)); got != want {
		t.Errorf("%x, want %x", got, want)
	}
}

// P4.1: each bit of a key, by itself and missing by itself, has its place or none.
func TestBeginBits(t *testing.T) {
	for i := range 256 {
		one, rest := api.Key{}, keyOf(255)
		one[i/8] ^= 1 << (i % 8)
		rest[i/8] ^= 1 << (i % 8)
		tryBegin(t, one)
		tryBegin(t, rest)
	}
}

// P4.1: drawn keys; each begins a sum that may be.
func TestBeginDrawn(t *testing.T) {
	r := rand.New(rand.NewSource(1))
	for range 1000 {
		key := api.Key(drawBytes(r, 32))
		tryBegin(t, key)
		tryCheck(t, Begin(key), api.OK)
	}
}

// P4.2: each bit of R by itself, and each that is missing of all that may be; Pad
// may be any number.
func TestCheckR(t *testing.T) {
	most := Begin(keyOf(255))
	tryCheck(t, most, api.OK)
	refused := 0
	for i := range 128 {
		p, q := api.Poly{}, most
		p.R[i/64] |= 1 << (i % 64)
		q.R[i/64] ^= 1 << (i % 64)
		tryCheck(t, p, bookCheck(p))
		tryCheck(t, q, bookCheck(q))
		if Check(p) != api.OK {
			refused++
		}
	}
	if refused != 22 {
		t.Errorf("%d bits of R are refused, want 22", refused)
	}
	tryCheck(t, api.Poly{Pad: [2]uint64{full, full}}, api.OK)
	tryCheck(t, api.Poly{R: [2]uint64{full, full}}, api.ErrState)
}

// P4.2: Acc just below 2^130 - 5, just that number and above it.
func TestCheckAcc(t *testing.T) {
	for _, c := range []struct {
		acc  [3]uint64
		want api.Errno
	}{
		{[3]uint64{0, 0, 0}, api.OK},
		{[3]uint64{full - 6, full, 3}, api.OK},
		{[3]uint64{full - 5, full, 3}, api.OK},
		{[3]uint64{full - 4, full, 3}, api.ErrState},
		{[3]uint64{full - 3, full, 3}, api.ErrState},
		{[3]uint64{full, full, 3}, api.ErrState},
		{[3]uint64{0, 0, 4}, api.ErrState},
		{[3]uint64{0, 0, 5}, api.ErrState},
		{[3]uint64{0, 0, 1 << 63}, api.ErrState},
		{[3]uint64{full, full, full}, api.ErrState},
		{[3]uint64{0, 0, 3}, api.OK},
		{[3]uint64{0, full, 3}, api.OK},
		{[3]uint64{full, full - 1, 3}, api.OK},
		{[3]uint64{full, full, 2}, api.OK},
		{[3]uint64{full, 0, 0}, api.OK},
		{[3]uint64{0, full, 0}, api.OK},
	} {
		tryCheck(t, api.Poly{Acc: c.acc}, c.want)
	}
}

// P4.2: N below 0, from 0 to 15, and above.
func TestCheckN(t *testing.T) {
	for n := -20; n < 40; n++ {
		want := api.ErrState
		if n >= 0 && n <= 15 {
			want = api.OK
		}
		tryCheck(t, api.Poly{N: n}, want)
	}
	for _, n := range []int{math.MinInt, math.MaxInt, 1 << 32, -1 << 32, 256, 1<<32 + 1, 1 << 62} {
		tryCheck(t, api.Poly{N: n}, api.ErrState)
	}
	tryCheck(t, api.Poly{N: 16, Held: [16]byte(of(9, 16))}, api.ErrState)
	tryCheck(t, api.Poly{N: -1, Held: [16]byte(of(9, 16))}, api.ErrState)
}

// P4.2: at each N a byte at each place of Held: from place N on it may not be.
func TestCheckHeld(t *testing.T) {
	for n := range 16 {
		for i := range 16 {
			for _, x := range []byte{1, 128, 255} {
				p := api.Poly{N: n}
				p.Held[i] = x
				want := api.OK
				if i >= n {
					want = api.ErrState
				}
				tryCheck(t, p, want)
			}
		}
		p := api.Poly{N: n}
		copy(p.Held[:n], of(255, n))
		tryCheck(t, p, api.OK)
	}
}

// P4.2: all that is wrong with a sum is wrong beside what else is wrong with it.
func TestCheckTogether(t *testing.T) {
	for i := range 16 {
		var p api.Poly
		if i&1 != 0 {
			p.R[1] = 1
		}
		if i&2 != 0 {
			p.Acc[2] = 4
		}
		if i&4 != 0 {
			p.N = 16
		}
		if i&8 != 0 {
			p.Held[15] = 1
		}
		want := api.ErrState
		if i == 0 {
			want = api.OK
		}
		tryCheck(t, p, want)
	}
}

// P4.3: bytes are held up to the fifteenth; with the sixteenth they are taken in.
func TestAddHolds(t *testing.T) {
	p := Begin(halves(1, 0))
	for i := range 15 {
		p, _ = Add(p, []byte{byte(i + 1)})
		want := Begin(halves(1, 0))
		copy(want.Held[:], []byte{1, 2, 3, 4, 5, 6, 7, 8, 9, 10, 11, 12, 13, 14, 15}[:i+1])
		want.N = i + 1
		if p != want {
			t.Fatalf("after %d bytes: %x, want %x", i+1, p, want)
		}
	}
	p, _ = Add(p, []byte{16})
	want := Begin(halves(1, 0))
	want.Acc = [3]uint64{0x0807060504030201, 0x100f0e0d0c0b0a09, 1}
	if p != want {
		t.Errorf("after 16 bytes: %x, want %x", p, want)
	}
}

// P4.3: one piece of each length, from sums that hold each number of bytes.
func TestAddLengths(t *testing.T) {
	r := rand.New(rand.NewSource(2))
	for n := range 16 {
		for size := range 70 {
			p := drawSum(r)
			p.N = n
			p.Held = [16]byte{}
			copy(p.Held[:n], drawBytes(r, n))
			tryAdd(t, p, drawBytes(r, size))
			tryAdd(t, p, of(255, size))
			tryAdd(t, p, of(0, size))
		}
	}
}

// P4.3: bytes cut into pieces come to the same sum as in one.
func TestAddPieces(t *testing.T) {
	r := rand.New(rand.NewSource(3))
	for _, size := range []int{0, 1, 15, 16, 17, 31, 32, 33, 48, 50, 64, 100} {
		for piece := 1; piece <= 40; piece++ {
			p, b := drawSum(r), drawBytes(r, size)
			want := bookAdd(p, b)
			for i := 0; i < size; i += piece {
				p, _ = Add(p, b[i:min(i+piece, size)])
				p, _ = Add(p, nil)
			}
			if p != want {
				t.Fatalf("%x in pieces of %d: %x, want %x", b, piece, p, want)
			}
		}
	}
	for range 500 {
		p, b := drawSum(r), drawBytes(r, r.Intn(200))
		want := bookAdd(p, b)
		for len(b) > 0 {
			n := min(len(b), r.Intn(40))
			p, _ = Add(p, b[:n])
			b = b[n:]
		}
		if p != want {
			t.Fatalf("drawn pieces: %x, want %x", p, want)
		}
	}
}

// P4.3: where what is taken in comes to just below 2^130 - 5, to just that number
// and above it, Acc stays below it.
func TestAddPasses(t *testing.T) {
	for d := int64(-20); d <= 20; d++ {
		for _, by := range []uint64{1, 2, 3, 4, 5, 8, 0x0ffffffc0fffffff} {
			// With 16 bytes of 0 just 2^128 is added: the sum comes to 2^130 - 5 and d.
			n := new(big.Int).Add(bookPrime(), big.NewInt(d))
			n.Sub(n, bookPower(128))
			p := api.Poly{R: [2]uint64{by, 0}}
			p.Acc = [3]uint64{bookPart(n, 0), bookPart(n, 1), bookPart(n, 2)}
			tryAdd(t, p, of(0, 16))
			p.R = Begin(keyOf(255)).R
			tryAdd(t, p, of(0, 16))
		}
	}
	most := Begin(keyOf(255))
	most.Acc = [3]uint64{full - 5, full, 3}
	tryAdd(t, most, of(255, 16))
	tryAdd(t, most, of(255, 160))
}

// P4.3: a sum that comes to 2^130 - 5 is 0, and one more than that is 1.
func TestAddWritten(t *testing.T) {
	for i, want := range [][3]uint64{{full - 5, full, 3}, {0, 0, 0}, {1, 0, 0}} {
		p := api.Poly{R: [2]uint64{1, 0}, Acc: [3]uint64{full - 5, full, 2}}
		b := of(0, 16)
		b[0] = byte(i)
		got, e := Add(p, b)
		if e != api.OK || got != (api.Poly{R: p.R, Acc: want}) {
			t.Errorf("%d: %x %d, want %x", i, got, e, want)
		}
	}
}

// P4.3: drawn sums and bytes, by the book.
func TestAddDrawn(t *testing.T) {
	r := rand.New(rand.NewSource(4))
	for range 3000 {
		tryAdd(t, drawSum(r), drawBytes(r, r.Intn(100)))
		tryAdd(t, drawSum(r), of(255, r.Intn(100)))
	}
}

// P4.4: sums that hold each number of bytes, those that end in zeros too.
func TestEndHeld(t *testing.T) {
	r := rand.New(rand.NewSource(5))
	for n := range 16 {
		for range 20 {
			p := drawSum(r)
			p.N, p.Held = n, [16]byte{}
			tryEnd(t, p)
			copy(p.Held[:n], of(255, n))
			tryEnd(t, p)
			copy(p.Held[:n], drawBytes(r, n))
			tryEnd(t, p)
		}
	}
}

// P4.4: tags that come to just below 2^128, to just that number and above it.
func TestEndPasses(t *testing.T) {
	for _, c := range []struct {
		acc  [3]uint64
		pad  [2]uint64
		want string
	}{
		{[3]uint64{0, 0, 0}, [2]uint64{0, 0}, "00000000000000000000000000000000"},
		{[3]uint64{0, 0, 0}, [2]uint64{full, full}, "ffffffffffffffffffffffffffffffff"},
		{[3]uint64{full, full, 0}, [2]uint64{0, 0}, "ffffffffffffffffffffffffffffffff"},
		{[3]uint64{1, 0, 0}, [2]uint64{full, full}, "00000000000000000000000000000000"},
		{[3]uint64{2, 0, 0}, [2]uint64{full, full}, "01000000000000000000000000000000"},
		{[3]uint64{0, 0, 1}, [2]uint64{0, 0}, "00000000000000000000000000000000"},
		{[3]uint64{7, 0, 3}, [2]uint64{1, 0}, "08000000000000000000000000000000"},
		{[3]uint64{full, 0, 0}, [2]uint64{1, 0}, "00000000000000000100000000000000"},
		{[3]uint64{0, 1, 0}, [2]uint64{0, full}, "00000000000000000000000000000000"},
		{[3]uint64{full - 5, full, 3}, [2]uint64{full, full}, "f9ffffffffffffffffffffffffffffff"},
	} {
		got, e := End(api.Poly{Acc: c.acc, Pad: c.pad})
		if e != api.OK || !bytes.Equal(got[:], unhex(t, c.want)) {
			t.Errorf("End of %x and %x: %x %d, want %s", c.acc, c.pad, got, e, c.want)
		}
	}
}

// P4.4: drawn sums, by the book.
func TestEndDrawn(t *testing.T) {
	r := rand.New(rand.NewSource(6))
	for range 3000 {
		tryEnd(t, drawSum(r))
	}
}

// P4.5: the vectors of RFC 8439, chapter 2.5.2 and appendix A.3.
func TestTagVectors(t *testing.T) {
	ietf := "Any submission to the IETF intended by the Contributor for publication as all or part of an IETF Internet-Draft or RFC and any statement made within the context of an IETF activity is considered an \"IETF Contribution\". Such statements include oral statements in IETF sessions, as well as written and electronic communications made at any time or place, which are addressed to"
	brillig := "'Twas brillig, and the slithy toves\nDid gyre and gimble in the wabe:\nAll mimsy were the borogoves,\nAnd the mome raths outgrabe."
	some, none := "36e5f6b5c5e06070f0efca96227a863e", "00000000000000000000000000000000"
	one, two := "01000000000000000000000000000000", "02000000000000000000000000000000"
	all, far := "ffffffffffffffffffffffffffffffff", "01000000000000000400000000000000"
	head := "e33594d7505e43b900000000000000003394d7505e4379cd0100000000000000" + none
	for i, c := range []struct{ key, b, want string }{
		{"85d6be7857556d337f4452fe42d506a80103808afb0db2fd4abff6af4149f51b", hex.EncodeToString([]byte("Cryptographic Forum Research Group")), "a8061dc1305136c6c22b8baf0c0127a9"},
		{none + none, none + none + none + none, none},
		{none + some, hex.EncodeToString([]byte(ietf)), some},
		{some + none, hex.EncodeToString([]byte(ietf)), "f3477e7cd95417af89a6b8794c310cf0"},
		{"1c9240a5eb55d38af333888604f6b5f0473917c1402b80099dca5cbc207075c0", hex.EncodeToString([]byte(brillig)), "4541669a7eaaee61e708dc7cbcc5eb62"},
		{two + none, all, "03000000000000000000000000000000"},
		{two + all, two, "03000000000000000000000000000000"},
		{one + none, all + "f0ffffffffffffffffffffffffffffff" + "11000000000000000000000000000000", "05000000000000000000000000000000"},
		{one + none, all + "fbfefefefefefefefefefefefefefefe" + "01010101010101010101010101010101", none},
		{two + none, "fdffffffffffffffffffffffffffffff", "faffffffffffffffffffffffffffffff"},
		{far + none, head + one, "14000000000000005500000000000000"},
		{far + none, head, "13000000000000000000000000000000"},
	} {
		got := Tag(api.Key(unhex(t, c.key)), unhex(t, c.b))
		if !bytes.Equal(got[:], unhex(t, c.want)) {
			t.Errorf("vector %d: %x, want %s", i, got, c.want)
		}
	}
}

// P4.5: keys with all bits set, as another program answers them.
func TestTagWritten(t *testing.T) {
	for _, c := range []struct {
		x    byte
		size int
		want string
	}{
		{0, 0, "ffffffffffffffffffffffffffffffff"},
		{0, 1, "0effffff0ffcffff0ffcffff0ffcffff"},
		{255, 1, "23feffef23f8ffef23f8ffef23f8ffef"},
		{0, 15, "faff13fbffff13fbffff13fbffff13ff"},
		{255, 15, "fbff27e6030028e6030028e6030028ee"},
		{0, 16, "faffff13fbffff13fbffff13fbffff13"},
		{255, 16, "fbffff17faffff17faffff17faffff17"},
		{0, 17, "59ff3f8649fcefad44fc9fd53ffc4ffd"},
		{255, 17, "7cfe7ff768f81f2763f8bf565df85f86"},
		{255, 64, "900fe32bc15fa8d7bca8efe4c7e37eb1"},
		{255, 323, "d242a5e8c98176f937f3f75cef356157"},
	} {
		got := Tag(keyOf(255), of(c.x, c.size))
		if !bytes.Equal(got[:], unhex(t, c.want)) {
			t.Errorf("%d bytes %d: %x, want %s", c.size, c.x, got, c.want)
		}
	}
}

// P4.5: the tag of no byte is the key's last 16 bytes, whatever its first ones are.
func TestTagNone(t *testing.T) {
	r := rand.New(rand.NewSource(7))
	for range 100 {
		key := api.Key(drawBytes(r, 32))
		for _, b := range [][]byte{nil, {}} {
			if got := Tag(key, b); !bytes.Equal(got[:], key[16:]) {
				t.Fatalf("Tag(%x) of no byte: %x", key, got)
			}
		}
	}
}

// P4.5: bytes of all lengths, by the book; and the same tag piece by piece.
func TestTagLengths(t *testing.T) {
	r := rand.New(rand.NewSource(8))
	for size := range 300 {
		key, b := api.Key(drawBytes(r, 32)), drawBytes(r, size)
		tryTag(t, key, b)
		tryTag(t, keyOf(255), of(255, size))
		cut := r.Intn(size + 1)
		p, _ := Add(Begin(key), b[:cut])
		p, _ = Add(p, b[cut:])
		if got, e := End(p); e != api.OK || got != Tag(key, b) {
			t.Fatalf("%d bytes cut at %d: %x %d, want %x", size, cut, got, e, Tag(key, b))
		}
	}
	tryTag(t, api.Key(drawBytes(r, 32)), drawBytes(r, 100003))
}

// P4.3, P4.4, P4.5: no argument is changed, nor its spare room; a sum may be
// gone on with twice.
func TestNothingChanged(t *testing.T) {
	r := rand.New(rand.NewSource(9))
	for size := range 70 {
		room := drawBytes(r, size+50)
		before := slices.Clone(room)
		p := drawSum(r)
		kept := p
		key := api.Key(drawBytes(r, 32))
		keptKey := key
		first, _ := Add(p, room[:size])
		second, _ := Add(p, room[:size])
		tag, _ := End(p)
		again, _ := End(p)
		if first != second || tag != again || Tag(key, room[:size]) != Tag(key, room[:size]) {
			t.Fatalf("%d bytes: the second answer is another one", size)
		}
		if p != kept || key != keptKey || !bytes.Equal(room, before) {
			t.Fatalf("%d bytes: an argument was changed", size)
		}
	}
}
