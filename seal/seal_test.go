package seal

import (
	"bytes"
	"crypto/sha256"
	"encoding/binary"
	"encoding/hex"
	"math/rand"
	"slices"
	"testing"

	"signet/api"
	"signet/chacha"
	"signet/poly"
)

const (
	mostAd   = 200 // bytes that may be beside a text
	mostText = 800 // bytes of the longest text
	mostB    = 816 // bytes of the longest that may be opened
)

func unhex(t *testing.T, s string) []byte {
	t.Helper()
	b, err := hex.DecodeString(s)
	if err != nil {
		t.Fatalf("no bytes: %s", s)
	}
	return b
}

// of answers a byte so often.
func of(x byte, n int) []byte { return bytes.Repeat([]byte{x}, n) }

// rising answers so many bytes, each one more than the one ahead of it.
func rising(from byte, n int) []byte {
	b := make([]byte, n)
	for i := range b {
		b[i] = from + byte(i)
	}
	return b
}

func drawBytes(r *rand.Rand, n int) []byte {
	b := make([]byte, n)
	r.Read(b)
	return b
}

func draw(r *rand.Rand) (api.Key, [12]byte) {
	return api.Key(drawBytes(r, 32)), [12]byte(drawBytes(r, 12))
}

// lengths about a multiple of 16.
func lengths() []int { return []int{0, 1, 15, 16, 17} }

// bookTurned answers what is streamed, block by block.
func bookTurned(k api.Key, n [12]byte, text []byte) []byte {
	out := slices.Clone(text)
	for i := range out {
		block := chacha.Block(k, uint32(1+i/64), n)
		out[i] ^= block[i%64]
	}
	return out
}

// bookTag answers the tag by the words of the chapter, byte by byte.
func bookTag(k api.Key, n [12]byte, ad, turned []byte) []byte {
	var all []byte
	for _, part := range [][]byte{ad, turned} {
		all = append(all, part...)
		for len(all)%16 != 0 {
			all = append(all, 0)
		}
	}
	all = binary.LittleEndian.AppendUint64(all, uint64(len(ad)))
	all = binary.LittleEndian.AppendUint64(all, uint64(len(turned)))
	block := chacha.Block(k, 0, n)
	tag := poly.Tag(api.Key(block[:32]), all)
	return tag[:]
}

// bookSeal answers what Seal ought to, with nothing of the package's own; it
// knows no limits.
func bookSeal(k api.Key, n [12]byte, ad, text []byte) []byte {
	turned := bookTurned(k, n, text)
	return append(turned, bookTag(k, n, ad, turned)...)
}

// trySeal seals, and opens what was sealed.
func trySeal(t *testing.T, k api.Key, n [12]byte, ad, text, want []byte) {
	t.Helper()
	got, e := Seal(k, n, ad, text)
	if e != api.OK || !bytes.Equal(got, want) {
		t.Fatalf("Seal(%x, %x, %x, %x): %x %d, want %x", k, n, ad, text, got, e, want)
	}
	tryOpen(t, k, n, ad, want, text)
}

func tryOpen(t *testing.T, k api.Key, n [12]byte, ad, b, want []byte) {
	t.Helper()
	if got, e := Open(k, n, ad, b); e != api.OK || !bytes.Equal(got, want) {
		t.Fatalf("Open(%x, %x, %x, %x): %x %d, want %x", k, n, ad, b, got, e, want)
	}
}

func trySealRefused(t *testing.T, ad, text int, want api.Errno) {
	t.Helper()
	got, e := Seal(api.Key{1}, [12]byte{2}, of(3, ad), of(4, text))
	if e != want || len(got) != 0 {
		t.Errorf("Seal of %d bytes beside %d: %d bytes and error %d, want none and error %d", text, ad, len(got), e, want)
	}
}

func tryOpenRefused(t *testing.T, k api.Key, n [12]byte, ad, b []byte, want api.Errno) {
	t.Helper()
	if got, e := Open(k, n, ad, b); e != want || len(got) != 0 {
		t.Fatalf("Open(%x, %x, %x, %x): %x %d, want none and error %d", k, n, ad, b, got, e, want)
	}
}

// vector 0 is that of RFC 8439, chapter 2.8.2, vector 1 that of appendix A.5.
type vector struct{ key, nonce, ad, text, turned, tag string }

func vectors() []vector {
	return []vector{{
		key:   "808182838485868788898a8b8c8d8e8f909192939495969798999a9b9c9d9e9f",
		nonce: "070000004041424344454647",
		ad:    "50515253c0c1c2c3c4c5c6c7",
		text:  "Ladies and Gentlemen of the class of '99: If I could offer you only one tip for the future, sunscreen would be it.",
		turned: "d31a8d34648e60db7b86afbc53ef7ec2a4aded51296e08fea9e2b5a736ee62d6" +
			"3dbea45e8ca9671282fafb69da92728b1a71de0a9e060b2905d6a5b67ecd3b36" +
			"92ddbd7f2d778b8c9803aee328091b58fab324e4fad675945585808b4831d7bc" +
			"3ff4def08e4b7a9de576d26586cec64b6116",
		tag: "1ae10b594f09e26a7e902ecbd0600691",
	}, {
		key:   "1c9240a5eb55d38af333888604f6b5f0473917c1402b80099dca5cbc207075c0",
		nonce: "000000000102030405060708",
		ad:    "f33388860000000000004e91",
		text: "Internet-Drafts are draft documents valid for a maximum of six months and may be updated, " +
			"replaced, or obsoleted by other documents at any time. It is inappropriate to use Internet-Drafts " +
			"as reference material or to cite them other than as /\xe2\x80\x9cwork in progress./\xe2\x80\x9d",
		turned: "64a0861575861af460f062c79be643bd5e805cfd345cf389f108670ac76c8cb2" +
			"4c6cfc18755d43eea09ee94e382d26b0bdb7b73c321b0100d4f03b7f355894cf" +
			"332f830e710b97ce98c8a84abd0b948114ad176e008d33bd60f982b1ff37c855" +
			"9797a06ef4f0ef61c186324e2b3506383606907b6a7c02b0f9f6157b53c867e4" +
			"b9166c767b804d46a59b5216cde7a4e99040c5a40433225ee282a1b0a06c523e" +
			"af4534d7f83fa1155b0047718cbc546a0d072b04b3564eea1b422273f548271a" +
			"0bb2316053fa76991955ebd63159434ecebb4e466dae5a1073a6727627097a10" +
			"49e617d91d361094fa68f0ff77987130305beaba2eda04df997b714d6c6f2c29" +
			"a6ad5cb4022b02709b",
		tag: "eead9d67890cbb22392336fea1851f38",
	}}
}

// P5.1, P5.2: the vectors of the RFC.
func TestVectors(t *testing.T) {
	for _, v := range vectors() {
		k, n := api.Key(unhex(t, v.key)), [12]byte(unhex(t, v.nonce))
		trySeal(t, k, n, unhex(t, v.ad), []byte(v.text), unhex(t, v.turned+v.tag))
	}
}

// P5.1, P5.2: lengths about a multiple of 16 in all pairs, as another program
// (OpenSSL's chacha20-poly1305) seals them.
func TestPairsWritten(t *testing.T) {
	k, n := api.Key(rising(100, 32)), [12]byte(rising(200, 12))
	turned := "f1a4a854845496c08f1cc7c8f3eef76868"
	tags := [5][5]string{
		{"f20bd91cdc6aecd88af6be9c40113154", "68aae9932040457a554d10a97682915e", "b354fc745e7094edfe69e681d753e37a", "d0382eebe18c3855f3048277b6dca68f", "4a6bbbb2dc4a218ff58fbedb840164d3"},
		{"de6c3fba5002da9a2145fdee608130b4", "77a3de7ea61f8a542e0cbb0203c31973", "c74df15fe44fd9c7d72891db63946b8f", "df3123d6676c7d2fccc32cd1421d2fa4", "6797e4b0f0ea1f45f878918c4360ba7e"},
		{"9a944985b8d7d5ff137d89b9e239ab5b", "98bed3c54c173514ac13e705e6313c97", "e368e6a68a4784875530bdde46038eb3", "004d181d0e6428ef49cb58d4258c51c8", "3fefadbaf948ef77001986058e73e657"},
		{"7b70de8691771a443837aa7d5b9b0393", "a738a87d6ddbc315ef1f9fdfb7e1bc3d", "f2e2ba5eab0b1389983c75b818b30e5a", "0ac7ecd42e28b7f08cd710aef73bd26e", "db1c2dd33b807426f3349ad74fbd6af5"},
		{"4413f307699eb2efb1640465a4578a7c", "a3c3909c2f8f87e086e3831d7ba38d9e", "ee6da37d6dbfd65330005af6db74dfba", "0652d5f3f0db7abb249bf5ebbafda2cf", "b254c4f390c1ac5a052710a236356223"},
	}
	for i, ad := range lengths() {
		for j, text := range lengths() {
			trySeal(t, k, n, rising(1, ad), rising(51, text), unhex(t, turned[:2*text]+tags[i][j]))
		}
	}
}

// P5.1, P5.2: the longest text beside the most, at the edges of key and nonce,
// by the SHA-256 of what another program (OpenSSL's chacha20-poly1305) seals.
func TestLongestWritten(t *testing.T) {
	for _, c := range []struct {
		key, nonce, x byte
		want          string
	}{
		{0, 0, 0, "21315e8747ba00ba43f12ddd3ae4e76b45f5ef30b7faed705af0cb2e4a297c4d"},
		{0, 0, 255, "1c73bc2b4e9bd1545c6b242cb26405e11ef15bc78ea5078d5bf256aa23fae380"},
		{0, 255, 0, "992d04256f422adb6574d12f880bb2a7198dc37cddeeb3406a9b17316702c3be"},
		{0, 255, 255, "5817ee94dd149ef39fe48384b9baaf682bf20da65d518529c568314daadc760a"},
		{255, 0, 0, "c833512ddad7f35c9b0ef33d79948f5b9bb935812e16a67bcda82a79ec4930a9"},
		{255, 0, 255, "bd172fae101a693dea4ec17a7027ffe1bbeaf20d0fadd33b25d263fd0503bbdd"},
		{255, 255, 0, "0aee7b43026d7f10c651af6d9e11c0fb4385dea3f3babb521fdb4180acb8a871"},
		{255, 255, 255, "df289584a596f711f712368d42d2d74af26499a9d32b61f9f9d0e6da1f0b5b92"},
	} {
		k, n := api.Key(of(c.key, 32)), [12]byte(of(c.nonce, 12))
		got, e := Seal(k, n, of(c.x, mostAd), of(c.x, mostText))
		sum := sha256.Sum256(got)
		if e != api.OK || len(got) != mostB || !bytes.Equal(sum[:], unhex(t, c.want)) {
			t.Errorf("key %d, nonce %d, bytes %d: %x %d, want %s", c.key, c.nonce, c.x, sum, e, c.want)
		}
		tryOpen(t, k, n, of(c.x, mostAd), got, of(c.x, mostText))
	}
}

// P5.1, P5.2: every length of a text, and every length of what is beside it, by
// the book.
func TestLengths(t *testing.T) {
	r := rand.New(rand.NewSource(1))
	for size := range mostText + 1 {
		k, n := draw(r)
		ad, text := drawBytes(r, size%(mostAd+1)), drawBytes(r, size)
		trySeal(t, k, n, ad, text, bookSeal(k, n, ad, text))
	}
	for size := range mostAd + 1 {
		k, n := draw(r)
		ad, text := drawBytes(r, size), drawBytes(r, r.Intn(mostText+1))
		trySeal(t, k, n, ad, text, bookSeal(k, n, ad, text))
	}
}

// P5.1, P5.2: each bit of key and nonce, by itself, has its place.
func TestBits(t *testing.T) {
	ad, text := rising(1, 20), rising(2, 70)
	for i := range 256 {
		k := api.Key{}
		k[i/8] = 1 << (i % 8)
		trySeal(t, k, [12]byte{}, ad, text, bookSeal(k, [12]byte{}, ad, text))
	}
	for i := range 96 {
		n := [12]byte{}
		n[i/8] = 1 << (i % 8)
		trySeal(t, api.Key{}, n, ad, text, bookSeal(api.Key{}, n, ad, text))
	}
}

// P5.1, P5.2: noughts at the ends of what is beside and of the text are part of
// them: each number of them has a tag of its own, which opens nothing else.
func TestNoughtsAtEnds(t *testing.T) {
	k, n := draw(rand.New(rand.NewSource(2)))
	tags := map[string]int{}
	for _, a := range lengths() {
		for _, b := range lengths() {
			for more := range 18 {
				ad, text := append(of(7, a), of(0, more)...), of(9, b)
				sealed := bookSeal(k, n, ad, text)
				trySeal(t, k, n, ad, text, sealed)
				tryOpenRefused(t, k, n, append(ad, 0), sealed, api.ErrAuth)
				tags[string(sealed)]++
				ad, text = of(7, a), append(of(9, b), of(0, more)...)
				trySeal(t, k, n, ad, text, bookSeal(k, n, ad, text))
			}
		}
	}
	for _, times := range tags {
		if times != 1 {
			t.Errorf("%d times the same was sealed", times)
		}
	}
}

// P5.1, P5.2: where what was streamed ends in noughts, these can't be taken
// away, nor put behind it.
func TestNoughtsStreamed(t *testing.T) {
	k, n := draw(rand.New(rand.NewSource(3)))
	for _, a := range lengths() {
		for size := range 35 {
			ad, turned := of(5, a), append(of(6, size), of(0, 3)...)
			text, tag := bookTurned(k, n, turned), bookTag(k, n, ad, turned)
			trySeal(t, k, n, ad, text, slices.Concat(turned, tag))
			for cut := 1; cut <= 3; cut++ {
				tryOpenRefused(t, k, n, ad, slices.Concat(turned[:size+3-cut], tag), api.ErrAuth)
				tryOpenRefused(t, k, n, ad, slices.Concat(turned, of(0, cut), tag), api.ErrAuth)
			}
		}
	}
}

// P5.1, P5.2: where whole sixteens go over from what is beside to what was
// streamed, only the lengths tell; they do tell.
func TestLengthsTell(t *testing.T) {
	k, n := draw(rand.New(rand.NewSource(4)))
	all := rising(1, 64)
	for cut := 0; cut <= 64; cut += 16 {
		sealed := slices.Concat(all[cut:], bookTag(k, n, all[:cut], all[cut:]))
		for other := 0; other <= 64; other += 16 {
			moved := slices.Concat(all[other:], sealed[64-cut:])
			if other == cut {
				tryOpen(t, k, n, all[:other], moved, bookTurned(k, n, all[other:]))
			} else {
				tryOpenRefused(t, k, n, all[:other], moved, api.ErrAuth)
			}
		}
	}
}

// P5.1: what is too long, by one and by many; the longest is not.
func TestSealTooLong(t *testing.T) {
	for _, ad := range []int{mostAd + 1, mostAd + 16, 4096, 1 << 20} {
		for _, text := range []int{0, 1, mostText, mostText + 1, 1 << 20} {
			trySealRefused(t, ad, text, api.ErrSize)
		}
	}
	for _, text := range []int{mostText + 1, mostB, 2 * mostText, 2*mostText + 1, 1 << 20} {
		for _, ad := range []int{0, 1, mostAd, mostAd + 1} {
			trySealRefused(t, ad, text, api.ErrSize)
		}
	}
	for _, ad := range []int{0, mostAd - 1, mostAd} {
		for _, text := range []int{0, mostText - 1, mostText} {
			trySeal(t, api.Key{1}, [12]byte{2}, of(3, ad), of(4, text), bookSeal(api.Key{1}, [12]byte{2}, of(3, ad), of(4, text)))
		}
	}
}

// P5.2: which error comes, where just one is due and where more are.
func TestOpenErrors(t *testing.T) {
	k, n := draw(rand.New(rand.NewSource(5)))
	for _, ad := range []int{0, 1, mostAd, mostAd + 1, mostAd + 2, 1 << 16} {
		for _, size := range []int{0, 1, 14, 15, 16, 17, mostText, mostText + 1, mostB - 1, mostB, mostB + 1, mostB + 16, 1 << 16} {
			want := api.ErrAuth
			if ad > mostAd || size > mostB {
				want = api.ErrSize
			} else if size < 16 {
				want = api.ErrShort
			}
			tryOpenRefused(t, k, n, of(1, ad), of(2, size), want)
		}
	}
}

// P5.2: what is too long is refused with its right tag, too; the longest opens.
func TestOpenTooLongButRight(t *testing.T) {
	k, n := draw(rand.New(rand.NewSource(6)))
	for _, ad := range []int{0, mostAd, mostAd + 1} {
		for _, text := range []int{0, 1, mostText, mostText + 1, 2 * mostText} {
			sealed := bookSeal(k, n, of(1, ad), of(2, text))
			if ad > mostAd || text > mostText {
				tryOpenRefused(t, k, n, of(1, ad), sealed, api.ErrSize)
			} else {
				tryOpen(t, k, n, of(1, ad), sealed, of(2, text))
			}
		}
	}
}

// P5.2: of what was sealed, each beginning and each end is no more what was
// sealed.
func TestOpenPieces(t *testing.T) {
	k, n := draw(rand.New(rand.NewSource(7)))
	ad, text := of(1, 20), rising(3, 40)
	sealed := bookSeal(k, n, ad, text)
	for i := range sealed {
		head, rest := api.ErrAuth, api.ErrAuth
		if i < 16 {
			head = api.ErrShort
		}
		if len(sealed)-i < 16 {
			rest = api.ErrShort
		}
		tryOpenRefused(t, k, n, ad, sealed[:i], head)
		if i > 0 {
			tryOpenRefused(t, k, n, ad, sealed[i:], rest)
		}
	}
	tryOpenRefused(t, k, n, ad, append(slices.Clone(sealed), 0), api.ErrAuth)
}

// P5.2: one bit of the key, the nonce, what is beside, what was streamed or the
// tag is another one: ErrAuth, and no text.
func TestOpenOneBit(t *testing.T) {
	r := rand.New(rand.NewSource(8))
	for _, a := range []int{0, 1, 15, 16, 17, mostAd} {
		for _, size := range []int{0, 1, 15, 16, 17, 65, mostText} {
			k, n := draw(r)
			ad := drawBytes(r, a)
			sealed := bookSeal(k, n, ad, drawBytes(r, size))
			for _, part := range [][]byte{k[:], n[:], ad, sealed} {
				turnEach(part, func() { tryOpenRefused(t, k, n, ad, sealed, api.ErrAuth) })
			}
			if _, e := Open(k, n, ad, sealed); e != api.OK {
				t.Fatalf("with every bit as it was: error %d", e)
			}
		}
	}
}

// turnEach turns each bit by itself, does what is to be done, and turns it back.
func turnEach(b []byte, do func()) {
	for i := range 8 * len(b) {
		b[i/8] ^= 1 << (i % 8)
		do()
		b[i/8] ^= 1 << (i % 8)
	}
}

// P5.2: a tag of which all but some bytes are right, and one whose bytes differ
// so that all differences together are none.
func TestOpenTags(t *testing.T) {
	k, n := draw(rand.New(rand.NewSource(9)))
	sealed := bookSeal(k, n, []byte{1}, []byte{2, 3})
	for i := range 16 {
		for j := range 16 {
			b := slices.Clone(sealed)
			b[2+i] ^= 128
			if i != j {
				b[2+j] ^= 128
			}
			tryOpenRefused(t, k, n, []byte{1}, b, api.ErrAuth)
		}
	}
	b := slices.Clone(sealed)
	slices.Reverse(b[2:])
	tryOpenRefused(t, k, n, []byte{1}, b, api.ErrAuth)
	tryOpenRefused(t, k, n, []byte{1}, append(slices.Clone(sealed[:2]), of(0, 16)...), api.ErrAuth)
}

// P5.1, P5.2: no text and nothing beside it may be lists or none.
func TestNone(t *testing.T) {
	k, n := draw(rand.New(rand.NewSource(10)))
	want := bookSeal(k, n, nil, nil)
	for _, ad := range [][]byte{nil, {}, make([]byte, 0, 32)} {
		for _, text := range [][]byte{nil, {}, make([]byte, 0, 32)} {
			trySeal(t, k, n, ad, text, want)
		}
		tryOpenRefused(t, k, n, ad, nil, api.ErrShort)
		tryOpenRefused(t, k, n, ad, []byte{}, api.ErrShort)
	}
}

// P5.1, P5.2: no argument is changed, nor spare room, whether it is refused or
// not; also where both lists are one.
func TestArgumentsStay(t *testing.T) {
	r := rand.New(rand.NewSource(11))
	for _, a := range []int{0, 1, 15, 16, 17, mostAd, mostAd + 1} {
		for _, size := range []int{0, 1, 15, 16, 17, mostText, mostText + 1, mostB, mostB + 1} {
			k, n := draw(r)
			key, nonce := k, n
			ads, texts := drawBytes(r, a+50), drawBytes(r, size+50)
			sealed := append(bookSeal(k, n, ads[:a], texts[:size]), drawBytes(r, 50)...)
			lists := [][]byte{ads, texts, sealed}
			before := [][]byte{slices.Clone(ads), slices.Clone(texts), slices.Clone(sealed)}
			Seal(k, n, ads[:a], texts[:size])
			Seal(k, n, texts[:min(a, size)], texts[:size])
			Open(k, n, ads[:a], sealed[:size+16])
			Open(k, n, ads[:a], texts[:size])
			Open(k, n, sealed[:min(a, size)], sealed[:size+16])
			for i := range lists {
				if !bytes.Equal(lists[i], before[i]) {
					t.Errorf("%d bytes beside %d: list %d was changed", size, a, i)
				}
			}
			if k != key || n != nonce {
				t.Errorf("%d bytes beside %d: key or nonce was changed", size, a)
			}
		}
	}
}

// P5.1, P5.2: what comes out is new memory, spare room too; nothing is kept from
// call to call.
func TestAnswersShareNothing(t *testing.T) {
	r := rand.New(rand.NewSource(12))
	for _, size := range []int{0, 1, 15, 16, 17, 64, mostText} {
		k, n := draw(r)
		ad, text := drawBytes(r, 40), drawBytes(r, size+50)
		want := bookSeal(k, n, ad, text[:size])
		one, _ := Seal(k, n, ad, text[:size])
		other, _ := Seal(k, n, ad, text[:size])
		first, _ := Open(k, n, ad, one)
		second, _ := Open(k, n, ad, one)
		clear(first[:cap(first)])
		if !bytes.Equal(one, want) || !bytes.Equal(second, text[:size]) {
			t.Errorf("%d bytes: what was opened shares memory", size)
		}
		was := slices.Clone(text)
		clear(one[:cap(one)])
		if !bytes.Equal(other, want) || !bytes.Equal(second, was[:size]) || !bytes.Equal(text, was) {
			t.Errorf("%d bytes: what was sealed shares memory", size)
		}
		clear(text)
		clear(ad)
		if !bytes.Equal(other, want) || !bytes.Equal(second, was[:size]) {
			t.Errorf("%d bytes: an answer shares memory with what was handed in", size)
		}
	}
}
