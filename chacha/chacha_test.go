package chacha

import (
	"bytes"
	"crypto/sha256"
	"encoding/binary"
	"encoding/hex"
	"math/rand"
	"testing"

	"signet/api"
)

const (
	last    = 1<<32 - 1 // the last counter
	longest = 1600      // bytes of the longest stream
	most    = 25        // blocks of it
)

func unhex(t *testing.T, s string) []byte {
	t.Helper()
	b, err := hex.DecodeString(s)
	if err != nil {
		t.Fatalf("no bytes: %s", s)
	}
	return b
}

func keyOf(x byte) api.Key {
	var k api.Key
	for i := range k {
		k[i] = x
	}
	return k
}

func nonceOf(x byte) [12]byte {
	var n [12]byte
	for i := range n {
		n[i] = x
	}
	return n
}

// rising answers 0, 1, 2, .., 31: the key of the RFC's examples.
func rising() api.Key {
	var k api.Key
	for i := range k {
		k[i] = byte(i)
	}
	return k
}

func draw(r *rand.Rand) (k api.Key, counter uint32, n [12]byte) {
	r.Read(k[:])
	r.Read(n[:])
	return k, r.Uint32(), n
}

func drawBytes(r *rand.Rand, n int) []byte {
	b := make([]byte, n)
	r.Read(b)
	return b
}

// lines of the square of words, in the order in which RFC 8439, chapter 2.3, names them.
func lines() [][4]int {
	return [][4]int{
		{0, 4, 8, 12}, {1, 5, 9, 13}, {2, 6, 10, 14}, {3, 7, 11, 15},
		{0, 5, 10, 15}, {1, 6, 11, 12}, {2, 7, 8, 13}, {3, 4, 9, 14},
	}
}

// byBook answers what Block ought to, step by step as RFC 8439 tells it, with
// nothing of the package's own.
func byBook(k api.Key, counter uint32, n [12]byte) [64]byte {
	from := append([]byte("expand 32-byte k"), k[:]...)
	from = binary.LittleEndian.AppendUint32(from, counter)
	from = append(from, n[:]...)
	var s [16]uint32
	for i := range s {
		s[i] = binary.LittleEndian.Uint32(from[4*i:])
	}
	first := s
	for range 10 {
		for _, l := range lines() {
			a, b, c, d := s[l[0]], s[l[1]], s[l[2]], s[l[3]]
			for _, by := range [][2]int{{16, 12}, {8, 7}} {
				a += b
				d ^= a
				d = d<<by[0] | d>>(32-by[0])
				c += d
				b ^= c
				b = b<<by[1] | b>>(32-by[1])
			}
			s[l[0]], s[l[1]], s[l[2]], s[l[3]] = a, b, c, d
		}
	}
	var out []byte
	for i := range s {
		out = binary.LittleEndian.AppendUint32(out, s[i]+first[i])
	}
	return [64]byte(out)
}

// byBlocks answers what Stream ought to where it refuses nothing.
func byBlocks(k api.Key, counter uint32, n [12]byte, b []byte) []byte {
	var pad []byte
	for i := uint64(counter); len(pad) < len(b); i++ {
		one := byBook(k, uint32(i), n)
		pad = append(pad, one[:]...)
	}
	out := []byte{}
	for i := range b {
		out = append(out, b[i]^pad[i])
	}
	return out
}

func tryBlock(t *testing.T, k api.Key, counter uint32, n [12]byte) {
	t.Helper()
	if got, want := Block(k, counter, n), byBook(k, counter, n); got != want {
		t.Fatalf("Block(%x, %d, %x): %x, want %x", k, counter, n, got, want)
	}
}

func tryStream(t *testing.T, k api.Key, counter uint32, n [12]byte, b []byte) {
	t.Helper()
	got, e := Stream(k, counter, n, b)
	if want := byBlocks(k, counter, n, b); e != api.OK || !bytes.Equal(got, want) {
		t.Fatalf("Stream(%x, %d, %x, %x): %x %d, want %x", k, counter, n, b, got, e, want)
	}
}

func tryRefused(t *testing.T, counter uint32, size int, want api.Errno) {
	t.Helper()
	got, e := Stream(rising(), counter, nonceOf(7), make([]byte, size))
	if e != want || len(got) != 0 {
		t.Errorf("%d bytes from block %d on: %d bytes and error %d, want none and error %d", size, counter, len(got), e, want)
	}
}

// P3.1: the vector of RFC 8439, chapter 2.3.2.
func TestBlockVector(t *testing.T) {
	want := unhex(t, "10f1e7e4d13b5915500fdd1fa32071c4c7d1f4c733c068030422aa9ac3d46c4e"+
		"d2826446079faa0914c2d705d98b02a2b5129cd1de164eb9cbd083e8a2503c4e")
	got := Block(rising(), 1, [12]byte{3: 9, 7: 0x4a})
	if !bytes.Equal(got[:], want) {
		t.Errorf("%x, want %x", got, want)
	}
}

// P3.1: keys, counters and nonces with no bit and with all bits set, as another
// program (OpenSSL's enc -chacha20) answers them.
func TestBlockWritten(t *testing.T) {
	for _, c := range []struct {
		key     byte
		counter uint32
		nonce   byte
		want    string
	}{
		{0, 0, 0, "76b8e0ada0f13d90405d6ae55386bd28bdd219b8a08ded1aa836efcc8b770dc7da41597c5157488d7724e03fb8d84a376a43b8f41518a11cc387b669b2ee6586"},
		{0, 0, 255, "4c7ac8d76b06506f9948ba673b2a8e6fa5a7acee3e5efe4755ec7fb58634ec768d8433746cac2d91b5c4ee322c5d6b1aa546862651beac88fec91e4114546950"},
		{0, last, 0, "ace4cd09e294d1912d4ad205d06f95d9c2f2bfcf453e8753f128765b62215f4d92c74f2f626c6a640c0b1284d839ec81f1696281dafc3e684593937023b58b1d"},
		{0, last, 255, "943220af6f2fed168a3e27665a64188e35934fb58d13e9af615c65d4bd8d46673b4331c2cd812bdf81e9a586d35ee87cf68b0b68b7e27be323cf67fdbfe96c4b"},
		{255, 0, 0, "f6b898412f4ab061943167c1e23efaa2ba98e345a093f0b06da13bffdbd4b2c766dd107034b4582a2ef42c5e1ea475f2fea477a10a9f1d75b3635243b2506b32"},
		{255, 0, 255, "d6e63495eafed7fc3bf8e7c419fa77be8234a6a49df517ebab06c8f65d9f7a17d3a64d4b97c911e6995b65c79336220cb63b703e25d3d45f5fee90a37bbe0535"},
		{255, last, 0, "0128cce1088c30077725485a23579c387fb1f4f1379c47466718a758e8eb88869e68a983c35eebc42726391f68325a7e06a63f85ee0ed9472b8f3e38580227f2"},
		{255, last, 255, "d72b21cfa4b6b0c41d61f62b8a11159c6a4f63bc56c2035796c7ad37811121bbec56d54a530f3a933dd28a50feb23bfaf64f405be985f3718bdf4683e96be749"},
	} {
		got := Block(keyOf(c.key), c.counter, nonceOf(c.nonce))
		if !bytes.Equal(got[:], unhex(t, c.want)) {
			t.Errorf("Block of key %d, counter %d, nonce %d: %x, want %s", c.key, c.counter, c.nonce, got, c.want)
		}
	}
}

// P3.1: each bit of key, counter and nonce, by itself and missing by itself, has its place.
func TestBlockBits(t *testing.T) {
	for i := range 256 {
		one, rest := api.Key{}, keyOf(255)
		one[i/8] ^= 1 << (i % 8)
		rest[i/8] ^= 1 << (i % 8)
		tryBlock(t, one, 0, [12]byte{})
		tryBlock(t, rest, last, nonceOf(255))
	}
	for i := range 32 {
		tryBlock(t, api.Key{}, 1<<i, [12]byte{})
		tryBlock(t, keyOf(255), last^1<<i, nonceOf(255))
	}
	for i := range 96 {
		one, rest := [12]byte{}, nonceOf(255)
		one[i/8] ^= 1 << (i % 8)
		rest[i/8] ^= 1 << (i % 8)
		tryBlock(t, api.Key{}, 0, one)
		tryBlock(t, keyOf(255), last, rest)
	}
}

// P3.1: many drawn keys, counters and nonces, by the book.
func TestBlockDrawn(t *testing.T) {
	r := rand.New(rand.NewSource(1))
	for range 2000 {
		k, counter, n := draw(r)
		tryBlock(t, k, counter, n)
	}
}

// P3.2: the vector of RFC 8439, chapter 2.4.2.
func TestStreamVector(t *testing.T) {
	text := "Ladies and Gentlemen of the class of '99: If I could offer you only one tip for the future, sunscreen would be it."
	want := unhex(t, "6e2e359a2568f98041ba0728dd0d6981e97e7aec1d4360c20a27afccfd9fae0b"+
		"f91b65c5524733ab8f593dabcd62b3571639d624e65152ab8f530c359f0861d8"+
		"07ca0dbf500d6a6156a38e088a22b65e52bc514d16ccf806818ce91ab7793736"+
		"5af90bbf74a35be6b40b8eedf2785e42874d")
	got, e := Stream(rising(), 1, [12]byte{7: 0x4a}, []byte(text))
	if e != api.OK || !bytes.Equal(got, want) {
		t.Errorf("%x %d, want %x", got, e, want)
	}
	back, e := Stream(rising(), 1, [12]byte{7: 0x4a}, want)
	if e != api.OK || string(back) != text {
		t.Errorf("%q %d, want %q", back, e, text)
	}
}

// P3.2: the longest stream, in the midst of the counters and up to the last
// one, by the SHA-256 of what another program (OpenSSL's enc -chacha20) answers.
func TestStreamWritten(t *testing.T) {
	var k api.Key
	for i := range k {
		k[i] = byte(100 + i)
	}
	n := [12]byte{200, 201, 202, 203, 204, 205, 206, 207, 208, 209, 210, 211}
	for _, c := range []struct {
		counter uint32
		want    string
	}{
		{0x7ffffff0, "b4c0b643653cfbceee189ce3a953991bba2f8e44ebed3eb86d533ddc4ddc3e67"},
		{0xffffffe7, "f2c5ac4fdb3eed34e06f984bafd2439e06b713f6efd57cdceb550db787d8cbd1"},
	} {
		got, e := Stream(k, c.counter, n, make([]byte, longest))
		sum := sha256.Sum256(got)
		if e != api.OK || !bytes.Equal(sum[:], unhex(t, c.want)) {
			t.Errorf("from block %d on: %x %d, want %s", c.counter, sum, e, c.want)
		}
	}
}

// P3.2: every length that may be, from none to the longest, by the blocks.
func TestStreamLengths(t *testing.T) {
	r := rand.New(rand.NewSource(2))
	for size := range longest + 1 {
		k, counter, n := draw(r)
		tryStream(t, k, counter>>1, n, drawBytes(r, size))
	}
}

// P3.2: the lengths about the ends of blocks, at the edges of key, counter and
// nonce, of bytes with no bit and with all bits set.
func TestStreamEdges(t *testing.T) {
	for _, size := range []int{0, 1, 63, 64, 65, 127, 128, 129, 192, 1535, 1536, 1537, 1599, 1600} {
		for _, counter := range []uint32{0, 1, 255, 65535, 1<<31 - 1, 1 << 31, last + 1 - most} {
			for _, x := range []byte{0, 255} {
				tryStream(t, keyOf(x), counter, nonceOf(x), make([]byte, size))
				tryStream(t, keyOf(x), counter, nonceOf(x), bytes.Repeat([]byte{255}, size))
			}
		}
	}
}

// P3.2: the block behind another one is the one with the next counter, as Block
// answers it: also where more than the counter's lowest byte changes.
func TestStreamIsBlocks(t *testing.T) {
	r := rand.New(rand.NewSource(3))
	for _, counter := range []uint32{0, 1, 250, 65530, 1<<24 - 2, 1<<31 - 3, last + 1 - most} {
		k, _, n := draw(r)
		got, e := Stream(k, counter, n, make([]byte, longest))
		if e != api.OK {
			t.Fatalf("from block %d on: error %d", counter, e)
		}
		for i := range uint32(most) {
			want := Block(k, counter+i, n)
			if !bytes.Equal(got[64*i:64*i+64], want[:]) {
				t.Errorf("block %d behind %d: %x, want %x", i, counter, got[64*i:64*i+64], want)
			}
		}
	}
}

// P3.2: no bytes are no bytes, with or without a list, whatever the counter: no
// block is needed for them.
func TestStreamNone(t *testing.T) {
	for _, b := range [][]byte{nil, {}, make([]byte, 0, 64)} {
		for _, counter := range []uint32{0, 1, last - 1, last} {
			if got, e := Stream(rising(), counter, nonceOf(1), b); e != api.OK || len(got) != 0 {
				t.Errorf("no bytes from block %d on: %x %d", counter, got, e)
			}
		}
	}
}

// P3.2: what is turned twice is as it was; turned once, it is not.
func TestStreamTwice(t *testing.T) {
	r := rand.New(rand.NewSource(4))
	for _, size := range []int{0, 1, 63, 64, 65, 100, 400, 800, 1600} {
		k, counter, n := draw(r)
		b := drawBytes(r, size)
		once, e := Stream(k, counter>>1, n, b)
		twice, f := Stream(k, counter>>1, n, once)
		if e != api.OK || f != api.OK || !bytes.Equal(twice, b) {
			t.Errorf("%d bytes turned twice: %x %d %d, want %x", size, twice, e, f, b)
		}
		if size >= 63 && bytes.Equal(once, b) {
			t.Errorf("%d bytes turned once are as they were: %x", size, b)
		}
	}
}

// P3.2: streams that end with the last block that there is, and those that are
// one byte too long for it, for each number of blocks.
func TestStreamLastBlock(t *testing.T) {
	r := rand.New(rand.NewSource(5))
	for n := 1; n <= most; n++ {
		counter := uint32(1<<32 - n)
		k, _, nonce := draw(r)
		for _, size := range []int{64*n - 63, 64*n - 1, 64 * n} {
			tryStream(t, k, counter, nonce, drawBytes(r, size))
		}
		if n < most {
			tryRefused(t, counter, 64*n+1, api.ErrOver)
			tryRefused(t, counter, 64*n+64, api.ErrOver)
			tryRefused(t, counter, longest, api.ErrOver)
		}
	}
}

// P3.2: one byte more than the longest stream, and many more.
func TestStreamTooLong(t *testing.T) {
	for _, counter := range []uint32{0, 1, 1 << 31, last - most} {
		tryStream(t, rising(), counter, nonceOf(7), make([]byte, longest))
		for _, size := range []int{longest + 1, longest + 63, longest + 64, 4096, 1 << 20} {
			tryRefused(t, counter, size, api.ErrSize)
		}
	}
}

// P3.2: where both errors apply, the length is told.
func TestStreamBothErrors(t *testing.T) {
	for _, counter := range []uint32{last + 1 - most, last - 1, last} {
		for _, size := range []int{longest + 1, longest + 64, 1 << 20} {
			tryRefused(t, counter, size, api.ErrSize)
		}
	}
	tryRefused(t, last+2-most, longest, api.ErrOver)
	tryRefused(t, last, longest, api.ErrOver)
}

// P3.1, P3.2: no argument is changed, the list's spare room neither, whether it
// is refused or not.
func TestArgumentsStay(t *testing.T) {
	r := rand.New(rand.NewSource(6))
	for _, counter := range []uint32{0, last} {
		for _, size := range []int{0, 1, 63, 64, 65, 800, longest, longest + 1} {
			k, _, n := draw(r)
			key, nonce := k, n
			room := drawBytes(r, size+200)
			was := bytes.Clone(room)
			Stream(k, counter, n, room[:size])
			Block(k, counter, n)
			if k != key || n != nonce || !bytes.Equal(room, was) {
				t.Errorf("%d bytes from block %d on: an argument was changed", size, counter)
			}
		}
	}
}

// P3.2: what comes out is new memory, spare room too; nothing is kept from call to call.
func TestAnswersShareNothing(t *testing.T) {
	r := rand.New(rand.NewSource(7))
	for _, size := range []int{1, 63, 64, 65, longest} {
		k, _, n := draw(r)
		room := drawBytes(r, size+200)
		was := bytes.Clone(room)
		one, _ := Stream(k, 5, n, room[:size])
		other, _ := Stream(k, 5, n, room[:size])
		want := bytes.Clone(other)
		clear(one[:cap(one)])
		if !bytes.Equal(room, was) || !bytes.Equal(other, want) {
			t.Errorf("%d bytes: an answer shares memory", size)
		}
		clear(room)
		if !bytes.Equal(other, want) {
			t.Errorf("%d bytes: an answer shares memory with what was handed in", size)
		}
		if again, _ := Stream(k, 5, n, was[:size]); !bytes.Equal(again, want) {
			t.Errorf("%d bytes: the same call answers something else", size)
		}
	}
}
