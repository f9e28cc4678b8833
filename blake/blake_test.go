package blake

import (
	"bytes"
	"encoding/binary"
	"encoding/hex"
	"math"
	"math/big"
	"math/rand"
	"slices"
	"strings"
	"testing"

	"signet/api"
)

const most = 1 << 30 // bytes of the longest sum

func unhex(t *testing.T, s string) []byte {
	t.Helper()
	b, err := hex.DecodeString(s)
	if err != nil {
		t.Fatalf("no bytes: %s", s)
	}
	return b
}

// of answers a byte so often.
func of(x byte, n int) []byte { return bytes.Repeat([]byte{x}, n) }

// rising answers 0, 1, 2, .. and behind 255 again 0.
func rising(n int) []byte {
	b := make([]byte, n)
	for i := range b {
		b[i] = byte(i)
	}
	return b
}

func drawBytes(r *rand.Rand, n int) []byte {
	b := make([]byte, n)
	r.Read(b)
	return b
}

// begun answers what Begin ought to, by the numbers as RFC 7693 writes them.
func begun() api.Hash {
	return api.Hash{H: [8]uint32{
		0x6b08e647, 0xbb67ae85, 0x3c6ef372, 0xa54ff53a,
		0x510e527f, 0x9b05688c, 0x1f83d9ab, 0x5be0cd19,
	}}
}

// drawHeld answers a sum that may be and holds so many bytes behind so many blocks.
func drawHeld(r *rand.Rand, n, blocks int) api.Hash {
	s := api.Hash{N: n, Len: n + 64*blocks}
	for i := range s.H {
		s.H[i] = r.Uint32()
	}
	copy(s.Held[:n], drawBytes(r, n))
	return s
}

func drawSum(r *rand.Rand) api.Hash {
	n := r.Intn(65)
	if n == 0 {
		return drawHeld(r, 0, 0)
	}
	return drawHeld(r, n, r.Intn(most/64-10))
}

// What follows, up to bookHash, reckons by the words of RFC 7693 and of the
// chapter, with nothing of the package's own.

// bookIV answers the first 32 bits behind the point of the roots of primes.
func bookIV() []uint32 {
	var w []uint32
	for _, p := range []int64{2, 3, 5, 7, 11, 13, 17, 19} {
		n := new(big.Int).Lsh(big.NewInt(p), 64)
		w = append(w, uint32(n.Sqrt(n).Uint64()))
	}
	return w
}

// bookOrder answers the RFC's SIGMA, of which a digit of 16 is a place.
func bookOrder(round int) []int {
	all := []string{
		"0123456789abcdef", "ea489fd61c02b753", "b8c052fdae367194", "7931dcbe265a40f8", "905724afe1bc683d",
		"2c6a0b834d75fe19", "c51fed4a0763928b", "db7ec13950f4862a", "6fe9b308c2d714a5", "a2847615fb9e3cd0",
	}
	var places []int
	for _, x := range all[round] {
		places = append(places, strings.IndexRune(all[0], x))
	}
	return places
}

// bookLines answers the words that are mixed with one another, as RFC 7693 (3.2) names them.
func bookLines() [][4]int {
	return [][4]int{
		{0, 4, 8, 12}, {1, 5, 9, 13}, {2, 6, 10, 14}, {3, 7, 11, 15},
		{0, 5, 10, 15}, {1, 6, 11, 12}, {2, 7, 8, 13}, {3, 4, 9, 14},
	}
}

func bookMix(a, b, c, d, x, y uint32) (uint32, uint32, uint32, uint32) {
	right := func(w uint32, n int) uint32 { return w>>n | w<<(32-n) }
	a = a + b + x
	d = right(d^a, 16)
	c = c + d
	b = right(b^c, 12)
	a = a + b + y
	d = right(d^a, 8)
	c = c + d
	b = right(b^c, 7)
	return a, b, c, d
}

// bookSqueeze answers what the function F of RFC 7693 (3.2) does.
func bookSqueeze(h [8]uint32, block []byte, count uint64, last bool) [8]uint32 {
	v := append(slices.Clone(h[:]), bookIV()...)
	v[12] ^= uint32(count % (1 << 32))
	v[13] ^= uint32(count / (1 << 32))
	if last {
		v[14] ^= 0xffffffff
	}
	for round := range 10 {
		o := bookOrder(round)
		for i, l := range bookLines() {
			x := binary.LittleEndian.Uint32(block[4*o[2*i]:])
			y := binary.LittleEndian.Uint32(block[4*o[2*i+1]:])
			v[l[0]], v[l[1]], v[l[2]], v[l[3]] = bookMix(v[l[0]], v[l[1]], v[l[2]], v[l[3]], x, y)
		}
	}
	for i := range h {
		h[i] = h[i] ^ v[i] ^ v[i+8]
	}
	return h
}

func bookMayBe(s api.Hash) bool {
	if s.N < 0 || s.N > 64 || s.Len < s.N || s.Len > 1073741824 {
		return false
	}
	if s.Len%64 != s.N%64 || s.N == 0 && s.Len > 0 {
		return false
	}
	return bytes.Count(s.Held[s.N:], []byte{0}) == 64-s.N
}

func bookAdd(s api.Hash, b []byte) api.Hash {
	all := slices.Concat(s.Held[:s.N], b)
	told := s.Len - s.N
	for len(all) > 64 {
		told += 64
		s.H = bookSqueeze(s.H, all[:64], uint64(told), false)
		all = all[64:]
	}
	s.N, s.Len = len(all), told+len(all)
	s.Held = [64]byte{}
	copy(s.Held[:], all)
	return s
}

func bookEnd(s api.Hash) api.Key {
	var out []byte
	for _, x := range bookSqueeze(s.H, s.Held[:], uint64(s.Len), true) {
		out = binary.LittleEndian.AppendUint32(out, x)
	}
	return api.Key(out)
}

// bookHash answers the sum of bytes as RFC 7693 (3.3) tells it: all blocks at once.
func bookHash(b []byte) api.Key {
	h := [8]uint32(bookIV())
	h[0] ^= 0x01010000 ^ 32
	blocks := max(1, (len(b)+63)/64)
	room := make([]byte, 64*blocks)
	copy(room, b)
	for i := range blocks - 1 {
		h = bookSqueeze(h, room[64*i:], uint64(64*i+64), false)
	}
	h = bookSqueeze(h, room[64*blocks-64:], uint64(len(b)), true)
	var out []byte
	for _, x := range h {
		out = binary.LittleEndian.AppendUint32(out, x)
	}
	return api.Key(out)
}

func tryAdd(t *testing.T, s api.Hash, b []byte) {
	t.Helper()
	got, e := Add(s, b)
	if want := bookAdd(s, b); e != api.OK || got != want {
		t.Fatalf("Add(%x, %x): %x %d, want %x", s, b, got, e, want)
	}
	if !bookMayBe(got) {
		t.Fatalf("Add(%x, %x): %x, which may not be", s, b, got)
	}
}

func tryEnd(t *testing.T, s api.Hash) {
	t.Helper()
	got, e := End(s)
	if want := bookEnd(s); e != api.OK || got != want {
		t.Fatalf("End(%x): %x %d, want %x", s, got, e, want)
	}
}

func tryAddRefused(t *testing.T, s api.Hash, b []byte, want api.Errno) {
	t.Helper()
	if got, e := Add(s, b); e != want || got != (api.Hash{}) {
		t.Fatalf("Add(%x) of %d bytes: %x %d, want error %d", s, len(b), got, e, want)
	}
}

// tryMayBe asks Add, of bytes and of none, and End: all tell it alike.
func tryMayBe(t *testing.T, s api.Hash, may bool) {
	t.Helper()
	if may {
		tryAdd(t, s, nil)
		tryEnd(t, s)
		return
	}
	for _, b := range [][]byte{nil, {}, {0}, {1}, of(2, 64), of(3, 200)} {
		tryAddRefused(t, s, b, api.ErrState)
	}
	if got, e := End(s); e != api.ErrState || got != (api.Key{}) {
		t.Fatalf("End(%x): %x %d, want error %d", s, got, e, api.ErrState)
	}
}

func trySum(t *testing.T, b []byte, want string) {
	t.Helper()
	if got := Sum(b); !bytes.Equal(got[:], unhex(t, want)) {
		t.Errorf("Sum of %d bytes: %x, want %s", len(b), got, want)
	}
}

// P6.1: all that Begin answers, word by word; all else is 0.
func TestBegin(t *testing.T) {
	got := Begin()
	if want := begun(); got != want {
		t.Errorf("%x, want %x", got, want)
	}
	if got.N != 0 || got.Len != 0 || got.Held != [64]byte{} {
		t.Errorf("%x, want noughts behind H", got)
	}
	if h := bookIV(); got.H[0] != h[0]^0x01010020 || !slices.Equal(got.H[1:], h[1:]) {
		t.Errorf("%x, want the roots of primes, %x", got.H, h)
	}
	got.H[0], got.Held[0], got.N = 1, 1, 1
	if Begin() != begun() {
		t.Errorf("a sum that was begun before is changed, and with it the next one")
	}
}

// P6.4: the vector of RFC 7693, appendix B, and the bytes that the chapter tells of it.
func TestSumVector(t *testing.T) {
	trySum(t, []byte("abc"), "508c5e8c327c14e2e1a72ba34eeb452f37458b209ed63a294d999b4c86675982")
	if got := Sum([]byte("abc")); [4]byte(got[:4]) != [4]byte{80, 140, 94, 140} {
		t.Errorf("the sum of abc begins with %d", got[:4])
	}
}

// P6.4: rising bytes of lengths about the ends of blocks, as another program
// (Python's hashlib) answers them.
func TestSumWritten(t *testing.T) {
	for _, c := range []struct {
		size int
		want string
	}{
		{0, "69217a3079908094e11121d042354a7c1f55b6482ca1a51e1b250dfd1ed0eef9"},
		{1, "e34d74dbaf4ff4c6abd871cc220451d2ea2648846c7757fbaac82fe51ad64bea"},
		{2, "ddad9ab15dac4549ba42f49d262496bef6c0bae1dd342a8808f8ea267c6e210c"},
		{31, "aba4ad9b480b9df3d08ca5e87b0c2440d4e4ea21224c2eb42cbae469d089b931"},
		{32, "05825607d7fdf2d82ef4c3c8c2aea961ad98d60edff7d018983e21204c0d93d1"},
		{33, "a742f8b6af82d8a6ca2357c5f1cf91defbd066267d75c048b352366585025962"},
		{63, "e57cb79487dd57902432b250733813bd96a84efce59f650fac26e6696aefafc3"},
		{64, "56f34e8b96557e90c1f24b52d0c89d51086acf1b00f634cf1dde9233b8eaaa3e"},
		{65, "1b53ee94aaf34e4b159d48de352c7f0661d0a40edff95a0b1639b4090e974472"},
		{127, "f18417b39d617ab1c18fdf91ebd0fc6d5516bb34cf39364037bce81fa04cecb1"},
		{128, "1fa877de67259d19863a2a34bcc6962a2b25fcbf5cbecd7ede8f1fa36688a796"},
		{129, "5bd169e67c82c2c2e98ef7008bdf261f2ddf30b1c00f9e7f275bb3e8a28dc9a2"},
		{191, "d120b5ef6d57ebf06eaf96bc933c967b16cbe6e2bf00741c30aa1c54ba64801f"},
		{192, "58d212ad6f58aef0f80116b441e57f6195bfef26b61463edec1183cdb04fe76d"},
		{193, "b8836f51d1e29bdfdba325565360268b8fad627473edecef7eaefee837c74003"},
		{255, "f03f5789d3336b80d002d59fdf918bdb775b00956ed5528e86aa994acb38fe2d"},
		{256, "5fdeb59f681d975f52c8e69c5502e02a12a3afcc5836ba58f42784c439228781"},
		{257, "7795ecf74355f1bdc9ee5818c357081b6a51b8dd801be35b1a872391014edeae"},
		{1000, "b5f9d7799111edafc9326fbf667be98140b5e20ce5e151793c59125bf654ac18"},
	} {
		trySum(t, rising(c.size), c.want)
	}
}

// P6.4: bytes with no bit and with all bits set, as another program (Python's
// hashlib) answers them; noughts behind bytes are bytes, too.
func TestSumSame(t *testing.T) {
	for _, c := range []struct {
		x    byte
		size int
		want string
	}{
		{0, 1, "e34d74dbaf4ff4c6abd871cc220451d2ea2648846c7757fbaac82fe51ad64bea"},
		{0, 63, "d962856f3fcfaac80a84722012c38da68cce6b924a397d5a3db009babefdee61"},
		{0, 64, "ae09db7cd54f42b490ef09b6bc541af688e4959bb8c53f359a6f56e38ab454a3"},
		{0, 65, "857328bf990b00922782d3e81c6054c25d3375d386c7424abe3e01d79041046c"},
		{0, 127, "301830ab384e3c00d5295e835228dfb68ff1a68e73c20a92da27353d7f654852"},
		{0, 128, "4e420520b981ce7bdbf4ce2c4dbadb9450079b7deb9737b5232957d323f801cb"},
		{0, 129, "7ca3700762f3e0db5d2f32e782efa249295ad56fce3cc1eac8170efc713b7fbf"},
		{0, 4096, "0b5476eaf024eab298e923d89b207f04f3c57f4a1ede5a368adad04aba82b1dd"},
		{255, 1, "8a1ef126b4e286703744a80b2f414be700cc93023e7bfc8688b79b54931abd27"},
		{255, 63, "05daad389157a42cc113caf1ac125542a97d24841dff958d5587fcc78b5216f9"},
		{255, 64, "ee92d9d765aac654bc062ea8e24456bb1a73c86643bdac7ec4ff2efd81721063"},
		{255, 65, "2cdc288f2a3d1a134cfcf796f235c13931f9b01b43074e052f98d5012a603ad6"},
		{255, 127, "5e8cc60d109137a99390bd44dda6fe56516cb8e584b8251203fe0c806f7204ac"},
		{255, 128, "20dfe3ad1ecfd9d3e9e9f0762349556b1f4e79701719cfb4933e42fdc6542df0"},
		{255, 129, "e514f785f95386f3c8b70282f576adf052e8045b5f59f123c1e2fc957d81ae10"},
		{255, 4096, "e16517aee86ee1a807f3d7c01a2daf6167a3267cd6c0efa3bfb45b88dd3ddf49"},
		{'a', 1000000, "bec0c0e6cde5b67acb73b81f79a67a4079ae1c60dac9d2661af18e9f8b50dfa5"},
	} {
		trySum(t, of(c.x, c.size), c.want)
	}
}

// P6.4: all lengths from none to 1024: by the sum of their sums, as another
// program (Python's hashlib) answers it, and by the book.
func TestSumLengths(t *testing.T) {
	var all []byte
	for size := range 1025 {
		b := make([]byte, size)
		for i := range b {
			b[i] = byte(7*i + size)
		}
		k := Sum(b)
		if want := bookHash(b); k != want {
			t.Fatalf("Sum(%x): %x, want %x", b, k, want)
		}
		all = append(all, k[:]...)
	}
	trySum(t, all, "c1051ce02e6d3060d5b2479e5cbadda5fce14b3c7526bda77a6f88d0b5647c69")
}

// P6.4: no bytes are no bytes, with or without a list.
func TestSumNone(t *testing.T) {
	for _, b := range [][]byte{nil, {}, make([]byte, 0, 64)} {
		trySum(t, b, "69217a3079908094e11121d042354a7c1f55b6482ca1a51e1b250dfd1ed0eef9")
	}
}

// P6.4: each bit of a block has its place.
func TestSumBits(t *testing.T) {
	for i := range 8 * 64 {
		one, rest := of(0, 64), of(255, 64)
		one[i/8] ^= 1 << (i % 8)
		rest[i/8] ^= 1 << (i % 8)
		for _, b := range [][]byte{one, rest, append(one, 5), append(rest, 5)} {
			if got, want := Sum(b), bookHash(b); got != want {
				t.Fatalf("Sum(%x): %x, want %x", b, got, want)
			}
		}
	}
}

// P6.2, P6.4: more bytes than Add takes. Sum has no error to tell it by: it is
// their sum, as another program (Python's hashlib) answers it.
func TestSumMost(t *testing.T) {
	b := make([]byte, most+1)
	tryAddRefused(t, Begin(), b, api.ErrSize)
	if testing.Short() {
		t.Skip("the sum of all these takes some seconds")
	}
	trySum(t, b, "4e764e67250d083c8a0a7ad7a82ca9a0fe5c3fa96ea0972d5216ffbbdd02dae8")
}

// selfSeq answers the bytes of RFC 7693, appendix E: selftest_seq.
func selfSeq(n int) []byte {
	a, b := 0xdead4bad*uint32(n), uint32(1)
	var out []byte
	for range n {
		a, b = b, a+b
		out = append(out, byte(b>>24))
	}
	return out
}

// selfSum answers the sum of so many bytes, by a key or without one. As H lies
// open, such a sum differs in how it begins alone: a key is the first block.
func selfSum(t *testing.T, size int, key, b []byte) []byte {
	t.Helper()
	s := Begin()
	s.H[0] ^= uint32(32 ^ size ^ len(key)<<8)
	if len(key) > 0 {
		s, _ = Add(s, append(slices.Clone(key), make([]byte, 64-len(key))...))
	}
	s, e := Add(s, b)
	k, f := End(s)
	if e != api.OK || f != api.OK {
		t.Fatalf("%d bytes by %x: errors %d and %d", len(b), key, e, f)
	}
	return k[:size]
}

// P6.1, P6.2, P6.3: the self-test of RFC 7693, appendix E.
func TestSelf(t *testing.T) {
	all := Begin()
	for _, size := range []int{16, 20, 28, 32} {
		for _, n := range []int{0, 3, 64, 65, 255, 1024} {
			b := selfSeq(n)
			all, _ = Add(all, selfSum(t, size, nil, b))
			all, _ = Add(all, selfSum(t, size, selfSeq(size), b))
		}
	}
	want := unhex(t, "6a411f08ce25adcdfb02aba641451cec53c598b24f4fc787fbdc88797f4c1dfe")
	if got, e := End(all); e != api.OK || !bytes.Equal(got[:], want) {
		t.Errorf("%x %d, want %x", got, e, want)
	}
}

// P6.2: byte by byte; a block is squeezed only when one more byte comes. H behind
// one block and behind two is as another program answers it.
func TestAddHolds(t *testing.T) {
	h := [3][8]uint32{begun().H,
		{0x69b86edc, 0x9c74bb75, 0x25bd102e, 0x83f24029, 0x9a9d32c1, 0xa02250bb, 0x3aa0a774, 0xe4b93e1d},
		{0x22b83fe9, 0xa40bc961, 0xfd72fef1, 0x7244a621, 0x592c8d13, 0x389bf0f0, 0x6823fd52, 0xd361d66c},
	}
	s := Begin()
	for i := range 192 {
		var e api.Errno
		s, e = Add(s, []byte{byte(i)})
		want := api.Hash{H: h[i/64], N: i%64 + 1, Len: i + 1}
		copy(want.Held[:], rising(192)[i/64*64:i+1])
		if e != api.OK || s != want {
			t.Fatalf("after %d bytes: %x %d, want %x", i+1, s, e, want)
		}
		whole, e := Add(Begin(), rising(i+1))
		if e != api.OK || whole != want {
			t.Fatalf("%d bytes at once: %x %d, want %x", i+1, whole, e, want)
		}
	}
}

// P6.2: no byte changes nothing, whatever is held.
func TestAddNone(t *testing.T) {
	r := rand.New(rand.NewSource(1))
	for n := range 65 {
		sums := []api.Hash{drawHeld(r, n, 0)}
		if n > 0 {
			sums = append(sums, drawHeld(r, n, 1), drawHeld(r, n, most/64-1))
		}
		for _, s := range sums {
			for _, b := range [][]byte{nil, {}, make([]byte, 0, 64)} {
				if got, e := Add(s, b); e != api.OK || got != s {
					t.Fatalf("Add(%x) of no byte: %x %d", s, got, e)
				}
			}
		}
	}
}

// P6.2: one piece of each length, from sums that hold each number of bytes.
func TestAddLengths(t *testing.T) {
	r := rand.New(rand.NewSource(2))
	for n := range 65 {
		for size := range 200 {
			s := drawHeld(r, n, 0)
			if n > 0 && size%2 == 1 {
				s = drawHeld(r, n, r.Intn(1000))
			}
			tryAdd(t, s, drawBytes(r, size))
		}
	}
}

// P6.2: behind what is held there are noughts after each Add, whatever was held
// before: nothing of a block that is squeezed stays.
func TestAddNoughts(t *testing.T) {
	for n := range 65 {
		for _, size := range []int{0, 1, 2, 63, 64, 65, 127, 128, 129} {
			s, _ := Add(Begin(), of(255, n))
			s, e := Add(s, of(255, size))
			held := (n + size) % 64
			if held == 0 && n+size > 0 {
				held = 64
			}
			want := append(of(255, held), make([]byte, 64-held)...)
			if e != api.OK || s.N != held || s.Len != n+size || !bytes.Equal(s.Held[:], want) {
				t.Fatalf("%d bytes behind %d: %x %d, want %d held", size, n, s, e, held)
			}
		}
	}
}

// P6.2, P6.3: bytes cut at any two places come to the same sum as in one piece.
func TestAddCuts(t *testing.T) {
	b := rising(200)
	want := bookAdd(begun(), b)
	for i := range 201 {
		for j := i; j <= 200; j++ {
			s, _ := Add(Begin(), b[:i])
			s, _ = Add(s, b[i:j])
			s, e := Add(s, b[j:])
			if e != api.OK || s != want {
				t.Fatalf("cut at %d and %d: %x %d, want %x", i, j, s, e, want)
			}
		}
	}
	if k, e := End(want); e != api.OK || k != Sum(b) {
		t.Errorf("%x %d, want %x", k, e, Sum(b))
	}
}

// P6.2: bytes in pieces of each length, with none between, and in drawn ones.
func TestAddPieces(t *testing.T) {
	r := rand.New(rand.NewSource(3))
	for _, size := range []int{0, 1, 63, 64, 65, 127, 128, 129, 192, 300, 640} {
		for piece := 1; piece <= 140; piece++ {
			s, b := drawSum(r), drawBytes(r, size)
			want := bookAdd(s, b)
			for i := 0; i < size; i += piece {
				s, _ = Add(s, b[i:min(i+piece, size)])
				s, _ = Add(s, nil)
			}
			if s != want {
				t.Fatalf("%x in pieces of %d: %x, want %x", b, piece, s, want)
			}
		}
	}
	for range 500 {
		s, b := drawSum(r), drawBytes(r, r.Intn(600))
		want := bookAdd(s, b)
		for len(b) > 0 {
			n := min(len(b), r.Intn(150))
			s, _ = Add(s, b[:n])
			b = b[n:]
		}
		if s != want {
			t.Fatalf("drawn pieces: %x, want %x", s, want)
		}
	}
}

// P6.2, P6.3: drawn sums, and those with no bit and with all bits of H set.
func TestDrawn(t *testing.T) {
	r := rand.New(rand.NewSource(4))
	for range 3000 {
		s := drawSum(r)
		tryAdd(t, s, drawBytes(r, r.Intn(300)))
		tryEnd(t, s)
		s.H = [8]uint32{}
		tryAdd(t, s, drawBytes(r, r.Intn(300)))
		tryEnd(t, s)
		for i := range s.H {
			s.H[i] = math.MaxUint32
		}
		tryAdd(t, s, of(255, r.Intn(300)))
		tryEnd(t, s)
	}
}

// P6.3: sums that hold each number of bytes, those that are or end in noughts, too.
func TestEndHeld(t *testing.T) {
	r := rand.New(rand.NewSource(5))
	for n := range 65 {
		for blocks := range 4 {
			if n == 0 && blocks > 0 {
				continue
			}
			s := drawHeld(r, n, blocks)
			tryEnd(t, s)
			s.Held = [64]byte{}
			tryEnd(t, s)
			copy(s.Held[:n], of(255, n))
			tryEnd(t, s)
		}
	}
}

// P6.3: End ends nothing: a sum goes on behind it, and ends alike a second time.
func TestEndTwice(t *testing.T) {
	s := Begin()
	for i := range 200 {
		first, e := End(s)
		second, f := End(s)
		if want := bookHash(rising(i)); e != api.OK || f != api.OK || first != want || second != want {
			t.Fatalf("%d bytes: %x %d, %x %d, want %x", i, first, e, second, f, want)
		}
		s, _ = Add(s, []byte{byte(i)})
	}
}

// P6.2, P6.3: N from below 0 to above 64, with each Len about it.
func TestMayBeCounts(t *testing.T) {
	may := 0
	for n := -70; n <= 200; n++ {
		for size := -70; size <= 330; size++ {
			s := api.Hash{N: n, Len: size}
			tryMayBe(t, s, bookMayBe(s))
			if bookMayBe(s) {
				may++
			}
		}
	}
	// One that holds nothing; and with 1 to 330 bytes just one each.
	if may != 331 {
		t.Errorf("%d sums may be, want 331", may)
	}
}

// P6.2, P6.3: counts far from those that may be; some would come to such by bits
// that are left out, or by going round.
func TestMayBeFar(t *testing.T) {
	far := []int{math.MinInt, math.MinInt + 1, math.MaxInt, math.MaxInt - 1, math.MaxInt - 63, 1 << 62, -1 << 62,
		1 << 32, 1<<32 + 1, 1<<32 + 64, -1 << 32, -1<<32 + 1, 1 << 31, 1 << 8, 1<<8 + 1, 1<<30 + 1, 1<<30 + 64, -1 << 30}
	for _, x := range far {
		for _, n := range []int{0, 1, 63, 64} {
			tryMayBe(t, api.Hash{N: x, Len: n}, false)
			tryMayBe(t, api.Hash{N: x, Len: n + 64}, false)
			s := api.Hash{N: n, Len: x}
			tryMayBe(t, s, bookMayBe(s))
		}
		for _, y := range far {
			tryMayBe(t, api.Hash{N: x, Len: y}, false)
		}
	}
}

// P6.2, P6.3: the sums that the chapter refuses, one by one, beside the nearest
// that may be.
func TestMayBeWritten(t *testing.T) {
	for _, c := range []struct {
		n, size int
		may     bool
	}{
		{0, 0, true}, {1, 1, true}, {63, 63, true}, {64, 64, true}, {1, 65, true}, {64, 128, true},
		{-1, -1, false}, {-1, 0, false}, {-64, 0, false}, {-1, 63, false},
		{65, 65, false}, {65, 129, false}, {128, 128, false},
		{1, 0, false}, {64, 0, false}, {64, 63, false}, {63, -1, false}, {1, -63, false},
		{0, -64, false}, {0, 64, false}, {0, 128, false}, {0, most, false}, {0, 1, false},
		{1, 2, false}, {1, 64, false}, {2, 65, false}, {64, 65, false}, {64, 127, false}, {63, 128, false},
		{64, most, true}, {63, most - 1, true}, {1, most - 63, true}, {64, most - 64, true},
		{1, most + 1, false}, {64, most + 64, false}, {63, most + 63, false}, {0, most + 64, false},
	} {
		tryMayBe(t, api.Hash{N: c.n, Len: c.size}, c.may)
	}
}

// P6.2, P6.3: at each N a byte at each place of Held: from place N on it may not be.
func TestMayBeHeld(t *testing.T) {
	for n := range 65 {
		for i := range 64 {
			for _, x := range []byte{1, 128, 255} {
				s := api.Hash{N: n, Len: n}
				s.Held[i] = x
				tryMayBe(t, s, i < n)
				if n > 0 {
					s.Len += 64
					tryMayBe(t, s, i < n)
				}
			}
		}
		s := api.Hash{N: n, Len: n}
		copy(s.Held[:n], of(255, n))
		tryMayBe(t, s, true)
	}
}

// P6.2, P6.3: what is wrong with a sum is wrong whatever its H is, and beside
// what else is wrong with it.
func TestMayBeTogether(t *testing.T) {
	for i := range 16 {
		s := Begin()
		if i&1 != 0 {
			s.N = 65
		}
		if i&2 != 0 {
			s.Len = most + 1
		}
		if i&4 != 0 {
			s.Len += 7
		}
		if i&8 != 0 {
			s.Held[63] = 1
		}
		tryMayBe(t, s, i == 0)
	}
}

// P6.2: Len just at MaxNumber, and one above it.
func TestAddMost(t *testing.T) {
	r := rand.New(rand.NewSource(6))
	for left := range 200 {
		// A sum to which just so many bytes may come.
		n := (most-left-1)%64 + 1
		s := drawHeld(r, n, (most-left-n)/64)
		if s.Len != most-left {
			t.Fatalf("%d bytes, want %d", s.Len, most-left)
		}
		for _, size := range []int{0, 1, left - 1, left} {
			if size >= 0 && size <= left {
				tryAdd(t, s, drawBytes(r, size))
			}
		}
		for _, size := range []int{left + 1, left + 2, left + 63, left + 64, left + 65, 1 << 20} {
			tryAddRefused(t, s, drawBytes(r, size), api.ErrSize)
		}
		tryEnd(t, s)
	}
	s := drawHeld(r, 64, most/64-1)
	if got, e := Add(s, nil); e != api.OK || got != s || got.Len != api.MaxNumber {
		t.Errorf("no byte behind the most: %x %d", got, e)
	}
	tryAddRefused(t, s, []byte{0}, api.ErrSize)
}

// P6.2: where a sum may not be and there are too many bytes, the sum is told.
func TestAddBothErrors(t *testing.T) {
	much := make([]byte, 1<<16)
	for _, s := range []api.Hash{
		{N: 0, Len: most}, {N: 63, Len: most}, {N: 65, Len: most}, {N: -1, Len: most - 1},
		{N: 1, Len: most + 1}, {N: 64, Len: most + 64}, {N: 62, Len: most - 2, Held: [64]byte{62: 1}},
		{N: 64, Len: math.MaxInt}, {N: 63, Len: math.MaxInt}, {N: 64, Len: math.MinInt},
	} {
		for _, size := range []int{0, 1, 2, 3, 65, 1 << 16} {
			tryAddRefused(t, s, much[:size], api.ErrState)
		}
	}
}

// P6.2, P6.3: how many bytes there were is told with each block, at all counts
// that may be; sums with great counts are as another program answers them.
func TestCounts(t *testing.T) {
	r := rand.New(rand.NewSource(7))
	for i := 6; i < 30; i++ {
		for _, blocks := range []int{1<<i/64 - 1, 1 << i / 64, 1<<i/64 + 1} {
			for _, n := range []int{1, 32, 63, 64} {
				s := drawHeld(r, n, blocks)
				tryEnd(t, s)
				tryAdd(t, s, drawBytes(r, 300))
			}
		}
	}
	for _, c := range []struct {
		n, size int
		want    string
	}{
		{64, most, "7c8c901b49291ab43f5c0a79811525d3db1393ac9bb7f082aa75286cb61f4886"},
		{63, most - 1, "bd618b54d5987dfdc60a237410a8cf79a7f6c20b22a350cd7ccf8b38d0a5c883"},
		{1, 1<<24 + 1, "cf8106c226dd050e3d51667dcca57bc85abe6cd65028c6ff8dc2a96847b0468f"},
		{1, 1<<16 + 1, "b925367f5037a30639f12995f8c5dbc634134b369961d9eb24ee09178bd48d0c"},
	} {
		s := begun()
		s.N, s.Len = c.n, c.size
		copy(s.Held[:], of(9, c.n))
		if got, e := End(s); e != api.OK || !bytes.Equal(got[:], unhex(t, c.want)) {
			t.Errorf("%d bytes: %x %d, want %s", c.size, got, e, c.want)
		}
	}
}

// P6.2, P6.3: counts of more than 32 bits. Such a sum may not be, so that they are
// asked behind the face; a block is squeezed as another program answers it.
func TestCountsWide(t *testing.T) {
	for _, c := range []struct {
		size int
		last bool
		want [8]uint32
	}{
		{1<<32 - 1, false, [8]uint32{0x2dafb115, 0x326ad6de, 0xf87e8594, 0x717d1668, 0x1505f18b, 0xb2bcf54b, 0x2b3e8707, 0xa757d3d5}},
		{1<<32 - 1, true, [8]uint32{0xa4923af7, 0x09a55406, 0x850b4248, 0x7ca1fcc7, 0x33866e4b, 0xb88d6684, 0x51e04895, 0x6aa30fd1}},
		{1 << 32, false, [8]uint32{0x2b95740f, 0x1965dbac, 0xb73f2627, 0xa5bc435f, 0x0300bc1c, 0xaa1142bd, 0xbb1d2f80, 0x5699272e}},
		{1 << 32, true, [8]uint32{0x31928be5, 0x04df9fb1, 0xfe989c41, 0x4f99c94e, 0x00d721e0, 0xdb1fbdc7, 0x08fa0caa, 0x04dfecb6}},
		{5<<32 + 7, false, [8]uint32{0xa6318dda, 0xe839ebb5, 0x62cccbb7, 0x449abbbb, 0x4d49910c, 0x022bb8fa, 0x5e0d31b5, 0x1f6d574d}},
		{5<<32 + 7, true, [8]uint32{0x89572a09, 0x566a1934, 0xfeff2243, 0x23858d0c, 0x53e77dad, 0xcb2ccf80, 0x00c00aad, 0x7b6f31f0}},
	} {
		s := begun()
		s.Held, s.N, s.Len = [64]byte(rising(64)), 64, c.size
		if got := squeezed(s, c.last); got != c.want {
			t.Errorf("%d bytes, last %t: %x, want %x", c.size, c.last, got, c.want)
		}
		tryMayBe(t, s, false)
	}
	for i := range 63 {
		s := begun()
		s.N, s.Len = 64, 1<<i
		for _, last := range []bool{false, true} {
			if got, want := squeezed(s, last), bookSqueeze(s.H, s.Held[:], uint64(s.Len), last); got != want {
				t.Errorf("%d bytes, last %t: %x, want %x", s.Len, last, got, want)
			}
		}
	}
}

// P6.2, P6.3, P6.4: no argument is changed, nor its spare room; a second answer
// is the same one.
func TestArgumentsStay(t *testing.T) {
	r := rand.New(rand.NewSource(8))
	for size := range 200 {
		room := drawBytes(r, size+70)
		before := slices.Clone(room)
		s := drawSum(r)
		kept := s
		first, _ := Add(s, room[:size])
		second, _ := Add(s, room[:size])
		k, _ := End(s)
		again, _ := End(s)
		if first != second || k != again || Sum(room[:size]) != Sum(room[:size]) {
			t.Fatalf("%d bytes: the second answer is another one", size)
		}
		if s != kept || !bytes.Equal(room, before) {
			t.Fatalf("%d bytes: an argument was changed", size)
		}
	}
}

// P6.2: bytes that were added are not kept: what becomes of them is not seen.
func TestNothingKept(t *testing.T) {
	b := rising(130)
	s, _ := Add(Begin(), b)
	want := bookAdd(begun(), b)
	clear(b)
	if k, e := End(s); s != want || e != api.OK || k != bookHash(rising(130)) {
		t.Errorf("%x %x %d, want %x", s, k, e, want)
	}
}
