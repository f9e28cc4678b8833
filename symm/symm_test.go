package symm

import (
	"bytes"
	"encoding/hex"
	"math/rand"
	"slices"
	"strings"
	"testing"

	"signet/api"
	"signet/blake"
	"signet/cipher"
	"signet/kdf"
)

const (
	mostText = 800 // bytes of the longest text
	mostB    = 816 // bytes of the longest that may be opened
	last     = ^uint64(0)
)

func unhex(t *testing.T, s string) []byte {
	t.Helper()
	b, err := hex.DecodeString(s)
	if err != nil {
		t.Fatalf("no bytes: %s", s)
	}
	return b
}

// of answers a byte so often.
func of(x byte, n int) []byte { return bytes.Repeat([]byte{x}, n) }

// rising answers so many bytes, each one more than the one ahead of it.
func rising(from byte, n int) []byte {
	b := make([]byte, n)
	for i := range b {
		b[i] = from + byte(i)
	}
	return b
}

func drawBytes(r *rand.Rand, n int) []byte {
	b := make([]byte, n)
	r.Read(b)
	return b
}

func drawKey(r *rand.Rand) api.Key { return api.Key(drawBytes(r, 32)) }

// at answers a cipher that was used so often.
func at(k api.Key, n uint64) api.Cipher { return api.Cipher{Has: true, Key: k, N: n} }

// with answers a state of this cipher, with a chain and a sum that differ.
func with(c api.Cipher) api.Sym {
	return api.Sym{Cipher: c, Chain: api.Key(rising(50, 32)), Hash: api.Key(rising(150, 32))}
}

// bad answers ciphers that may not be: without a key, but not all zero.
func bad() []api.Cipher {
	return []api.Cipher{
		{N: 1}, {N: 1 << 32}, {N: last - 1}, {N: last}, {Key: api.Key{1}}, {Key: api.Key{31: 128}},
		{Key: api.Key(of(255, 32))}, {Key: api.Key(rising(1, 32)), N: 7}, {Key: api.Key{1}, N: last},
	}
}

// states answers states of all kinds: as they are begun, behind some steps, at the
// edges, and such whose cipher may not be.
func states() []api.Sym {
	r := rand.New(rand.NewSource(1))
	l := []api.Sym{{}, Begin("abc"), Begin(strings.Repeat("name ", 9))}
	for _, k := range []api.Key{{}, {1}, api.Key(of(255, 32)), drawKey(r)} {
		for _, n := range []uint64{0, 1, 255, 256, 1 << 32, last - 1, last} {
			l = append(l, api.Sym{Cipher: at(k, n), Chain: drawKey(r), Hash: drawKey(r)})
		}
	}
	for _, c := range bad() {
		l = append(l, api.Sym{Cipher: c, Chain: drawKey(r), Hash: drawKey(r)})
	}
	return append(l, with(api.Cipher{}), with(at(api.Key(of(255, 32)), 3)))
}

// mixable answers bytes of many lengths that are mixed in, none of them too.
func mixable() [][]byte {
	l := [][]byte{nil, {}, {0}, {1}, {255}}
	for _, n := range []int{2, 16, 31, 32, 33, 48, 63, 64, 65, 100, 128, 200, 800, 816, 817, 5000, 1 << 16} {
		l = append(l, rising(byte(n), n), of(0, n))
	}
	return l
}

// bookHash answers the sum of a sum and bytes, as the chapter says.
func bookHash(h api.Key, b []byte) api.Key {
	return blake.Sum(append(append([]byte{}, h[:]...), b...))
}

// call is Seal or Open.
type call func(api.Sym, []byte) (api.Sym, []byte, api.Errno)

// trySym asks for a state.
func trySym(t *testing.T, what string, got, want api.Sym) {
	t.Helper()
	if got != want {
		t.Fatalf("%s:\n%v\nwant\n%v", what, got, want)
	}
}

// try asks one call for its bytes and its state.
func try(t *testing.T, do call, s api.Sym, b []byte, then api.Sym, want []byte) {
	t.Helper()
	u, got, e := do(s, b)
	if e != api.OK || u != then || !bytes.Equal(got, want) {
		t.Fatalf("%v, %x:\n%v %x %d, want\n%v %x", s, b, u, got, e, then, want)
	}
}

// tryRefused asks one call for its error, with which all else is nothing.
func tryRefused(t *testing.T, do call, s api.Sym, b []byte, want api.Errno) {
	t.Helper()
	u, got, e := do(s, b)
	if e != want || u != (api.Sym{}) || len(got) != 0 {
		t.Fatalf("%v, %d bytes: %v, %d bytes and error %d, want none and error %d", s, len(b), u, len(got), e, want)
	}
}

// bookSealed answers what the cipher of a state makes of a text, and the state then.
func bookSealed(t *testing.T, s api.Sym, text []byte) (api.Sym, []byte) {
	t.Helper()
	c, sealed, e := cipher.Seal(s.Cipher, bytes.Clone(s.Hash[:]), text)
	if e != api.OK {
		t.Fatalf("cipher.Seal of %d bytes: error %d", len(text), e)
	}
	return api.Sym{Cipher: c, Chain: s.Chain, Hash: bookHash(s.Hash, sealed)}, sealed
}

// trySeal seals by a state, and opens what was sealed by the same one.
func trySeal(t *testing.T, s api.Sym, text []byte) {
	t.Helper()
	then, sealed := bookSealed(t, s, text)
	try(t, Seal, s, text, then, sealed)
	try(t, Open, s, sealed, then, text)
}

// turnEach turns each bit by itself, does what is to be done, and turns it back.
func turnEach(b []byte, do func()) {
	for i := range 8 * len(b) {
		b[i/8] ^= 1 << (i % 8)
		do()
		b[i/8] ^= 1 << (i % 8)
	}
}

// P9.1: names about 32 bytes long, with the sums that another program (the blake2s
// of Python's hashlib) makes of the longer ones.
func TestBeginWritten(t *testing.T) {
	for _, c := range []struct {
		n    int
		want string
	}{
		{0, "0000000000000000000000000000000000000000000000000000000000000000"},
		{1, "6100000000000000000000000000000000000000000000000000000000000000"},
		{31, "6162636465666768696a6b6c6d6e6f707172737475767778797a7b7c7d7e7f00"},
		{32, "6162636465666768696a6b6c6d6e6f707172737475767778797a7b7c7d7e7f80"},
		{33, "225c0db9c17e951cba4dbe85ebf9268d7a3d4390c0484746236b66fa13dae508"},
		{34, "3aee7a0a86958cb2e2460e5f600e3924c6d5467f4fde7aaccf2c9d40e68b9e56"},
		{63, "3cb71f8c7b25a9526db88116aa57a4975a42c7f96775fc22835df56d68a73cfd"},
		{64, "7663765b1a9e1796f209b80ba7a4f05572b07d5e75f85b64f10f5075cc62fb2e"},
		{65, "4a3ede6841e63a05630e025727a888158d5a87ffcf51c0db6b1665668bda5255"},
		{100, "722ebee599c010c5685b5b5847d4511fcce0407fd93a3569276d016e03361640"},
		{1000, "99d8185c01e6edb491f3ef623026df69c763c60baf29b3ae158520ccb06f55aa"},
	} {
		k := api.Key(unhex(t, c.want))
		trySym(t, "a name of bytes", Begin(string(rising(97, c.n))), api.Sym{Chain: k, Hash: k})
	}
}

// P9.1: every length up to 200, of bytes that are no letters, too: noughts behind
// the name up to 32 bytes, its sum above; the cipher has no key.
func TestBegin(t *testing.T) {
	r := rand.New(rand.NewSource(2))
	for n := range 201 {
		for _, name := range [][]byte{drawBytes(r, n), of(0, n), of(255, n), rising(200, n)} {
			want := blake.Sum(name)
			if n <= 32 {
				want = api.Key(append(append([]byte{}, name...), make([]byte, 32-n)...))
			}
			trySym(t, "a name of bytes", Begin(string(name)), api.Sym{Chain: want, Hash: want})
		}
	}
	long := strings.Repeat("a long name ", 10000)
	k := blake.Sum([]byte(long))
	trySym(t, "a long name", Begin(long), api.Sym{Chain: k, Hash: k})
}

// P9.1: ahead of the first key nothing is sealed.
func TestBeginHasNoKey(t *testing.T) {
	for _, name := range []string{"", "a", strings.Repeat("b", 32), strings.Repeat("c", 33)} {
		s := Begin(name)
		if s.Cipher != (api.Cipher{}) {
			t.Errorf("Begin(%q): %v", name, s.Cipher)
		}
		trySeal(t, s, []byte("told as it is"))
	}
}

// P9.2: Chain is the first key, the second one is the cipher's, with the number 0,
// whatever the cipher was; Hash stays.
func TestKey(t *testing.T) {
	for _, s := range states() {
		for _, b := range mixable() {
			keys := kdf.Two(s.Chain, b)
			want := api.Sym{Cipher: at(keys[1], 0), Chain: keys[0], Hash: s.Hash}
			trySym(t, "Key", Key(s, b), want)
		}
	}
}

// P9.3: Hash is the sum of Hash and the bytes; all else stays, also a cipher that
// may not be.
func TestHash(t *testing.T) {
	for _, s := range states() {
		for _, b := range mixable() {
			want := api.Sym{Cipher: s.Cipher, Chain: s.Chain, Hash: bookHash(s.Hash, b)}
			trySym(t, "Hash", Hash(s, b), want)
		}
	}
}

// P9.3: no bytes change Hash, too, and where two pieces are cut is told.
func TestHashPieces(t *testing.T) {
	s, all := Begin("abc"), rising(1, 20)
	seen := map[api.Key]int{s.Hash: -2, Hash(s, all).Hash: -1}
	for i := range len(all) + 1 {
		u := Hash(Hash(s, all[:i]), all[i:])
		if was, ok := seen[u.Hash]; ok {
			t.Errorf("cut at %d: the same as %d", i, was)
		}
		seen[u.Hash] = i
	}
}

// P9.4: Chain is the first key, the second one is mixed in, the third one is the
// cipher's, with the number 0, whatever the cipher was.
func TestBoth(t *testing.T) {
	for _, s := range states() {
		for _, b := range mixable() {
			keys := kdf.Three(s.Chain, b)
			want := api.Sym{Cipher: at(keys[2], 0), Chain: keys[0], Hash: bookHash(s.Hash, keys[1][:])}
			trySym(t, "Both", Both(s, b), want)
		}
	}
}

// P9.2, P9.4: Key and Both go on with the same chain, but not with the same key.
func TestKeyAndBoth(t *testing.T) {
	s := with(at(api.Key{1}, 5))
	for _, b := range mixable() {
		k, m := Key(s, b), Both(s, b)
		if k.Chain != m.Chain || k.Cipher.Key == m.Cipher.Key || k.Hash == m.Hash {
			t.Errorf("%d bytes: %v %v", len(b), k, m)
		}
	}
}

// P9.2, P9.3, P9.4: each bit of the bytes tells, and each bit of the chain or the sum.
func TestMixedBits(t *testing.T) {
	s, b := with(api.Cipher{}), rising(1, 33)
	seen := map[api.Key]int{}
	look := func() {
		for _, k := range []api.Key{Key(s, b).Cipher.Key, Both(s, b).Cipher.Key, Hash(s, b).Hash} {
			seen[k]++
		}
	}
	turnEach(b, look)
	if len(seen) != 3*8*len(b) {
		t.Errorf("%d bits, %d keys", 8*len(b), len(seen))
	}
	seen = map[api.Key]int{}
	turnEach(s.Chain[:], look)
	if len(seen) != 2*256+1 {
		t.Errorf("256 bits of the chain, %d keys", len(seen))
	}
	seen = map[api.Key]int{}
	turnEach(s.Hash[:], look)
	if len(seen) != 256+2 {
		t.Errorf("256 bits of the sum, %d keys", len(seen))
	}
}

// P9.5: texts of lengths up to the longest one, by the cipher's own answers, with a
// key and without one.
func TestSealOpen(t *testing.T) {
	r := rand.New(rand.NewSource(3))
	for _, c := range []api.Cipher{{}, at(api.Key{}, 0), at(drawKey(r), 0), at(drawKey(r), 1), at(drawKey(r), 1<<40), at(drawKey(r), last-1)} {
		for _, n := range []int{0, 1, 2, 15, 16, 17, 31, 32, 33, 48, 63, 64, 65, 400, mostText - 1, mostText} {
			s := api.Sym{Cipher: c, Chain: drawKey(r), Hash: drawKey(r)}
			trySeal(t, s, drawBytes(r, n))
			trySeal(t, s, of(0, n))
		}
	}
}

// P9.5: the number is one more with a key, and stays where there is none; the key
// and the chain stay.
func TestNumberGoesOn(t *testing.T) {
	for _, n := range []uint64{0, 1, 255, 1<<32 - 1, 1<<63 - 1, last - 1} {
		s := with(at(api.Key{7}, n))
		u, sealed, e := Seal(s, []byte("abc"))
		v, _, f := Open(s, sealed)
		if e != api.OK || f != api.OK || u.Cipher != at(api.Key{7}, n+1) || v.Cipher != u.Cipher || u.Chain != s.Chain || v.Chain != s.Chain {
			t.Errorf("number %d: %v %d, %v %d", n, u, e, v, f)
		}
	}
	s := with(api.Cipher{})
	u, told, e := Seal(s, []byte("abc"))
	v, text, f := Open(s, []byte("abc"))
	if e != api.OK || f != api.OK || u.Cipher != s.Cipher || v.Cipher != s.Cipher || string(told) != "abc" || string(text) != "abc" {
		t.Errorf("without a key: %v %d, %v %d", u, e, v, f)
	}
}

// P9.5: what lies on the wire is mixed in, not the text, and not what lay beside it.
func TestWireIsMixedIn(t *testing.T) {
	s, text := with(at(api.Key{7}, 9)), rising(1, 40)
	u, sealed, _ := Seal(s, text)
	v, opened, _ := Open(s, sealed)
	if !bytes.Equal(opened, text) || len(sealed) != len(text)+16 {
		t.Fatalf("%x, %x", sealed, opened)
	}
	if u.Hash != bookHash(s.Hash, sealed) || v.Hash != u.Hash || u.Hash == bookHash(s.Hash, text) {
		t.Errorf("sealed: %x, opened: %x", u.Hash, v.Hash)
	}
}

// P9.5: a cipher that may not be is refused ahead of all else.
func TestMayNotBe(t *testing.T) {
	for _, c := range bad() {
		for _, n := range []int{0, 1, 15, 16, 17, mostText, mostText + 1, mostB, mostB + 1} {
			tryRefused(t, Seal, with(c), of(1, n), api.ErrState)
			tryRefused(t, Open, with(c), of(1, n), api.ErrState)
		}
	}
}

// P9.5: the last number is refused, whatever else is wrong, also where the bytes
// would open; the one ahead of it is used, and then it is over.
func TestOver(t *testing.T) {
	s := with(at(api.Key{9}, last))
	for _, n := range []int{0, 1, 15, 16, 17, mostText, mostText + 1, mostB, mostB + 1, 1 << 16} {
		tryRefused(t, Seal, s, of(1, n), api.ErrOver)
		tryRefused(t, Open, s, of(1, n), api.ErrOver)
	}
	s.Cipher.N = last - 1
	trySeal(t, s, []byte("abc"))
	u, sealed := bookSealed(t, s, []byte("abc"))
	tryRefused(t, Seal, u, []byte("abc"), api.ErrOver)
	tryRefused(t, Open, u, sealed, api.ErrOver)
	// With a new key the numbers begin again.
	trySeal(t, Key(u, nil), []byte("abc"))
	trySeal(t, Both(u, nil), []byte("abc"))
}

// P9.5: what is too long to seal, or to open; the longest is not.
func TestTooLong(t *testing.T) {
	has, none := with(at(api.Key{4}, 6)), with(api.Cipher{})
	for _, n := range []int{mostText + 1, mostB - 1, mostB, mostB + 1, 2 * mostText, 1 << 20} {
		tryRefused(t, Seal, has, of(2, n), api.ErrSize)
		tryRefused(t, Seal, none, of(2, n), api.ErrSize)
		tryRefused(t, Open, none, of(2, n), api.ErrSize)
		if n > mostB {
			tryRefused(t, Open, has, of(2, n), api.ErrSize)
		} else {
			tryRefused(t, Open, has, of(2, n), api.ErrAuth)
		}
	}
	trySeal(t, has, of(2, mostText))
	trySeal(t, none, of(2, mostText))
}

// P9.5: with a key what has no whole tag is too short; without one nothing is.
func TestTooShort(t *testing.T) {
	for n := range 16 {
		tryRefused(t, Open, with(at(api.Key{4}, 6)), of(2, n), api.ErrShort)
		s := with(api.Cipher{})
		then := api.Sym{Chain: s.Chain, Hash: bookHash(s.Hash, of(2, n))}
		try(t, Open, s, of(2, n), then, of(2, n))
	}
	tryRefused(t, Open, with(at(api.Key{4}, 6)), of(2, 16), api.ErrAuth)
	tryRefused(t, Open, with(at(api.Key{4}, 6)), nil, api.ErrShort)
}

// P9.5: one bit of what was sealed, of Hash, of the key or of the number is another
// one: ErrAuth; and the state that was handed in still opens what was sealed.
func TestOpenOneBit(t *testing.T) {
	r := rand.New(rand.NewSource(4))
	for _, n := range []int{0, 1, 16, 65} {
		s := api.Sym{Cipher: at(drawKey(r), r.Uint64()>>1), Chain: drawKey(r), Hash: drawKey(r)}
		text := drawBytes(r, n)
		then, sealed := bookSealed(t, s, text)
		for _, part := range [][]byte{sealed, s.Hash[:], s.Cipher.Key[:]} {
			turnEach(part, func() { tryRefused(t, Open, s, sealed, api.ErrAuth) })
		}
		for i := range 64 {
			other := s
			other.Cipher.N ^= 1 << i
			tryRefused(t, Open, other, sealed, api.ErrAuth)
		}
		try(t, Open, s, sealed, then, text)
	}
}

// P9.5: the chain has no part in what is sealed.
func TestChainHasNoPart(t *testing.T) {
	s := with(at(api.Key{3}, 2))
	_, sealed := bookSealed(t, s, []byte("abc"))
	turnEach(s.Chain[:], func() {
		then, _ := bookSealed(t, s, []byte("abc"))
		try(t, Open, s, sealed, then, []byte("abc"))
	})
}

// P9.5: of what was sealed no piece opens, nor what is longer by a byte.
func TestOpenPieces(t *testing.T) {
	s := with(at(api.Key{8}, 300))
	_, sealed := bookSealed(t, s, rising(3, 40))
	for i := range sealed {
		want := api.ErrAuth
		if i < 16 {
			want = api.ErrShort
		}
		tryRefused(t, Open, s, sealed[:i], want)
		tryRefused(t, Open, s, slices.Delete(slices.Clone(sealed), i, i+1), api.ErrAuth)
	}
	tryRefused(t, Open, s, append(slices.Clone(sealed), 0), api.ErrAuth)
}

// P9.6: the two keys of Chain and no bytes, each with the number 0, the first one
// first; Hash and the cipher have no part in them, whatever they are.
func TestSplit(t *testing.T) {
	for _, s := range states() {
		keys := kdf.Two(s.Chain, nil)
		want := [2]api.Cipher{at(keys[0], 0), at(keys[1], 0)}
		if got := Split(s); got != want {
			t.Errorf("Split(%v): %v, want %v", s, got, want)
		}
		if got := Split(api.Sym{Chain: s.Chain}); got != want {
			t.Errorf("Split of the chain %v alone: %v, want %v", s.Chain, got, want)
		}
	}
}

// step of a handshake, and what is known behind it.
type step struct {
	kind             string
	b, wire          string
	hash, chain, key string
	n                uint64
}

// P9.1 to P9.6: some steps behind one another, as another program (hashlib, hmac and
// the ChaCha20Poly1305 of Python and its cryptography) makes them.
func TestWritten(t *testing.T) {
	s := Begin("Noise_XXpsk3_25519_ChaChaPoly_BLAKE2s")
	first := api.Key(unhex(t, "9c3d01c9c998993ff7791afe0f4ced62584f2c9c65d0b4f98d92b7dcb7b2ebed"))
	trySym(t, "Begin", s, api.Sym{Chain: first, Hash: first})
	for _, c := range written() {
		want := api.Sym{Chain: api.Key(unhex(t, c.chain)), Hash: api.Key(unhex(t, c.hash))}
		if c.key != "" {
			want.Cipher = at(api.Key(unhex(t, c.key)), c.n)
		}
		b, wire := unhex(t, c.b), unhex(t, c.wire)
		switch c.kind {
		case "Hash":
			trySym(t, c.kind, Hash(s, b), want)
		case "Key":
			trySym(t, c.kind, Key(s, b), want)
		case "Both":
			trySym(t, c.kind, Both(s, b), want)
		default:
			try(t, Seal, s, b, want, wire)
			try(t, Open, s, wire, want, b)
		}
		s = want
	}
	want := [2]api.Cipher{
		at(api.Key(unhex(t, "be93353b2efda61dfe2d645beda0b16bd5734aa2e992bc72f755e0279e11a2d1")), 0),
		at(api.Key(unhex(t, "2a70140919d99052df4256e0b6cbf5b02591b069cfa21805591c028248a7db09")), 0),
	}
	if got := Split(s); got != want {
		t.Errorf("Split: %v, want %v", got, want)
	}
}

// written answers the steps of TestWritten.
func written() []step {
	return []step{
		{"Hash", "", "",
			"20649ff124733a4f199402540c1dd40c0727738d478c3debc12892decd3d3f63",
			"9c3d01c9c998993ff7791afe0f4ced62584f2c9c65d0b4f98d92b7dcb7b2ebed",
			"", 0},
		{"Hash", "0102030405060708090a0b0c0d0e0f101112131415161718191a1b1c1d1e1f20", "",
			"6f750eb39a2d8bb2e8529db454ac1079d92cb226c7d93ec392d2cfee9f9d0745",
			"9c3d01c9c998993ff7791afe0f4ced62584f2c9c65d0b4f98d92b7dcb7b2ebed",
			"", 0},
		{"Seal", "746f6c64206173206974206973", "746f6c64206173206974206973",
			"1481925521e1d3b70d3cc5e4ceb742124e23078102202fcef97ab3b1e41da228",
			"9c3d01c9c998993ff7791afe0f4ced62584f2c9c65d0b4f98d92b7dcb7b2ebed",
			"", 0},
		{"Key", "02030405060708090a0b0c0d0e0f101112131415161718191a1b1c1d1e1f2021", "",
			"1481925521e1d3b70d3cc5e4ceb742124e23078102202fcef97ab3b1e41da228",
			"ae37e171c22fc48a37ee629b17646ebe171428cf1b7fb621017b00488bc461e6",
			"bcda90510f8c7e95b317d6b998708dd82ab6adfc49ea41c22b3d39d4dcb8b722", 0},
		{"Seal", "6669727374", "06ebf906529834c3b4f712bf1acf080d4d5b1439fa",
			"e6763a81cbc0e4ad0c4e45c62fc67c78f3b9ac65a90d7c876d647a74859924c4",
			"ae37e171c22fc48a37ee629b17646ebe171428cf1b7fb621017b00488bc461e6",
			"bcda90510f8c7e95b317d6b998708dd82ab6adfc49ea41c22b3d39d4dcb8b722", 1},
		{"Seal", "030405060708090a0b0c0d0e0f101112131415161718191a1b1c1d1e1f202122", "47065f2a80389d4067f00e252d1b63dfb90e2ef42388b060cb0738df307a1fab0320f2eecc5c885876e0579b00293b66",
			"e917bedfda94de766f1ebdd7538f175e23fdd7a82ba02c7cd30025af13a54975",
			"ae37e171c22fc48a37ee629b17646ebe171428cf1b7fb621017b00488bc461e6",
			"bcda90510f8c7e95b317d6b998708dd82ab6adfc49ea41c22b3d39d4dcb8b722", 2},
		{"Both", "0405060708090a0b0c0d0e0f101112131415161718191a1b1c1d1e1f20212223", "",
			"c7572972b52a98b44dbdd2efd698a4ba4485977160270685b98316dead9012b5",
			"9d18c0045e025919fa2311289dbeaa28b28c1612d899fcadcf198bd5162073b6",
			"aeca8d04103d33ef1bc2a96bb38ff0f34ca1c04be82ed519579faa2e537b3475", 0},
		{"Seal", "", "caff8665ff162d5c52e4f4f33b5d9220",
			"36fe3a2a29960b5c98cefeba12fad903813e1a9943791f2c312060fac02c5a48",
			"9d18c0045e025919fa2311289dbeaa28b28c1612d899fcadcf198bd5162073b6",
			"aeca8d04103d33ef1bc2a96bb38ff0f34ca1c04be82ed519579faa2e537b3475", 1},
		{"Key", "", "",
			"36fe3a2a29960b5c98cefeba12fad903813e1a9943791f2c312060fac02c5a48",
			"6d0bab2077d86466b7487619b64a1362090f251936db0c7cb02021b48102a25e",
			"d5a38b1a47c9bf50fc5d2c5b8a8e1c69402b471bb6a0673b990f5d918f04cbbd", 0},
		{"Key", "05060708090a0b0c0d0e0f101112131415161718191a1b1c1d1e1f202122232425262728292a2b2c2d2e2f303132333435363738393a3b3c3d3e3f404142434445464748494a4b4c4d4e4f505152535455565758595a5b5c5d5e5f606162636465666768", "",
			"36fe3a2a29960b5c98cefeba12fad903813e1a9943791f2c312060fac02c5a48",
			"4a03e15eb0f4bde6611aeea95f0b018e189f08f4ebb3738fcbff013fa4c9dae1",
			"92816378b0a692c3a7fc6fab68ef0a3dea8201a0d2011c337ea7458afa609090", 0},
		{"Both", "", "",
			"6c22f0e76d17fe600971448fc42f88ead6a9e55d54287b3a3497bb8504ef9278",
			"ca379954e5964b6a1b6836b897d31c833f6af44ad34ff40a6e598ad4b1b91d0c",
			"8569a24e01a8fc7c9c9d6510a79fad73e90937b0120140505f907f578edb7c48", 0},
		{"Seal", "6c617374", "c787a06210d5609ae87ab86856f345cfb62e42c1",
			"ace498de06d342fd7dc020fd7af5921cf1560c4e5ea67a93d536e291dc10b33f",
			"ca379954e5964b6a1b6836b897d31c833f6af44ad34ff40a6e598ad4b1b91d0c",
			"8569a24e01a8fc7c9c9d6510a79fad73e90937b0120140505f907f578edb7c48", 1},
	}
}

// mix does one step by its number, the same for both sides.
func mix(s api.Sym, kind int, b []byte) api.Sym {
	switch kind {
	case 0:
		return Hash(s, b)
	case 1:
		return Key(s, b)
	case 2:
		return Both(s, b)
	}
	return s
}

// P9.1 to P9.6: two sides that mix the same, and seal and open in one order, come to
// the same, whoever of them seals.
func TestTwoSides(t *testing.T) {
	r := rand.New(rand.NewSource(5))
	for range 40 {
		name := string(drawBytes(r, r.Intn(60)))
		sides := [2]api.Sym{Begin(name), Begin(name)}
		for i := range 30 {
			kind, b := r.Intn(5), drawBytes(r, r.Intn(70))
			sides[0], sides[1] = mix(sides[0], kind, b), mix(sides[1], kind, b)
			text, who := drawBytes(r, r.Intn(mostText+1)), r.Intn(2)
			one, wire, e := Seal(sides[who], text)
			other, opened, f := Open(sides[1-who], wire)
			if e != api.OK || f != api.OK || one != other || !bytes.Equal(opened, text) {
				t.Fatalf("step %d: %v %d, %v %d", i, one, e, other, f)
			}
			sides = [2]api.Sym{one, other}
		}
		if Split(sides[0]) != Split(sides[1]) {
			t.Fatalf("Split: %v, %v", Split(sides[0]), Split(sides[1]))
		}
	}
}

// P9.1 to P9.5: where the sides differ in the name, in one byte that was mixed in, or
// in the order, the next text does not open.
func TestSidesThatDiffer(t *testing.T) {
	x, y := []byte("x"), []byte("y")
	start := Begin("name")
	one := Both(Key(Hash(start, x), x), x)
	_, wire, e := Seal(one, []byte("abc"))
	if e != api.OK {
		t.Fatalf("Seal: error %d", e)
	}
	for _, other := range []api.Sym{
		Both(Key(Hash(Begin("nane"), x), x), x),
		Both(Key(Hash(start, y), x), x),
		Both(Key(Hash(start, x), y), x),
		Both(Key(Hash(start, x), x), y),
		Key(Both(Hash(start, x), x), x),
		Both(Hash(Key(start, x), nil), x),
		Both(Key(start, x), x),
		Hash(one, nil),
	} {
		tryRefused(t, Open, other, wire, api.ErrAuth)
	}
	// Key does not ask Hash: these two may come in either order, if Both comes behind.
	then, text := Both(Hash(Key(start, x), x), x), []byte("abc")
	after, _ := bookSealed(t, then, text)
	try(t, Open, then, wire, after, text)
}

// P9.5: a text opens in its place alone: not ahead of it, not behind it, not twice.
func TestOrder(t *testing.T) {
	s := Key(Begin("name"), []byte("x"))
	sides, wires := []api.Sym{s}, [][]byte{}
	for i := range 8 {
		u, wire, _ := Seal(s, []byte{byte(i)})
		sides, wires = append(sides, u), append(wires, wire)
		s = u
	}
	for i, side := range sides {
		for j, wire := range wires {
			if i == j {
				try(t, Open, side, wire, sides[i+1], []byte{byte(j)})
			} else {
				tryRefused(t, Open, side, wire, api.ErrAuth)
			}
		}
	}
}

// P9.5: a text that was changed ahead of the first key is told as it is, but what is
// sealed behind it does not open any more.
func TestPlainIsVouchedFor(t *testing.T) {
	s := Begin("name")
	one, wire, _ := Seal(s, []byte("abc"))
	one = Key(one, []byte("x"))
	_, sealed, _ := Seal(one, []byte("text"))
	turnEach(wire, func() {
		other, _, e := Open(s, wire)
		if e != api.OK {
			t.Fatalf("without a key: error %d", e)
		}
		tryRefused(t, Open, Key(other, []byte("x")), sealed, api.ErrAuth)
	})
}

// P9.2 to P9.5: no bytes may be a list or none.
func TestNone(t *testing.T) {
	for _, s := range []api.Sym{with(api.Cipher{}), with(at(api.Key{2}, 1))} {
		then, sealed := bookSealed(t, s, nil)
		for _, b := range [][]byte{nil, {}, make([]byte, 0, 32), rising(1, 32)[:0]} {
			trySym(t, "Key", Key(s, b), Key(s, nil))
			trySym(t, "Hash", Hash(s, b), Hash(s, nil))
			trySym(t, "Both", Both(s, b), Both(s, nil))
			try(t, Seal, s, b, then, sealed)
		}
		try(t, Open, s, sealed, then, nil)
	}
}

// P9.2 to P9.6: no argument is changed, nor what lies behind it in a longer list,
// whether it is refused or not.
func TestArgumentsStay(t *testing.T) {
	r := rand.New(rand.NewSource(6))
	for _, s := range states() {
		for _, n := range []int{0, 1, 15, 16, 17, 32, 64, mostText, mostText + 1, mostB, mostB + 1} {
			room := drawBytes(r, n+200)
			if _, right, e := cipher.Seal(s.Cipher, bytes.Clone(s.Hash[:]), room[100:100+n]); e == api.OK {
				copy(room[100:], right)
			}
			before, was := slices.Clone(room), s
			for _, b := range [][]byte{room[100 : 100+n], room[100 : 116+n], room[:0], room[100+n : 100+n]} {
				Key(s, b)
				Hash(s, b)
				Both(s, b)
				Seal(s, b)
				Open(s, b)
				Split(s)
			}
			if !bytes.Equal(room, before) || s != was {
				t.Fatalf("%v, %d bytes: an argument was changed", s, n)
			}
		}
	}
}

// P9.5: what comes out is new memory, spare room too, with and without a key.
func TestAnswersShareNothing(t *testing.T) {
	r := rand.New(rand.NewSource(7))
	for _, s := range []api.Sym{with(api.Cipher{}), with(at(drawKey(r), 0)), with(at(drawKey(r), 1<<40))} {
		for _, n := range []int{0, 1, 15, 16, 17, 64, mostText} {
			text := drawBytes(r, n+50)
			_, want := bookSealed(t, s, slices.Clone(text[:n]))
			_, one, _ := Seal(s, text[:n])
			_, other, _ := Seal(s, text[:n])
			given := append(slices.Clone(one), of(1, 50)...)
			_, first, _ := Open(s, given[:len(one)])
			_, second, _ := Open(s, given[:len(one)])
			was, wasGiven := slices.Clone(text), slices.Clone(given)
			clear(first[:cap(first)])
			clear(one[:cap(one)])
			if !bytes.Equal(text, was) || !bytes.Equal(given, wasGiven) {
				t.Fatalf("%v, %d bytes: an answer shares memory with what was handed in", s, n)
			}
			clear(text)
			clear(given)
			if !bytes.Equal(other, want) || !bytes.Equal(second, was[:n]) {
				t.Fatalf("%v, %d bytes: an answer shares memory with another one, or with what was handed in", s, n)
			}
		}
	}
}

// P9.1 to P9.6: the same call answers the same, whatever was called between.
func TestNothingKept(t *testing.T) {
	s := with(at(api.Key{6}, 77))
	k, h, m, p := Key(s, []byte("x")), Hash(s, []byte("x")), Both(s, []byte("x")), Split(s)
	_, sealed := bookSealed(t, s, []byte("abc"))
	for range 3 {
		trySeal(t, s, []byte("abc"))
		tryRefused(t, Open, h, sealed, api.ErrAuth)
		tryRefused(t, Seal, with(at(api.Key{6}, last)), nil, api.ErrOver)
		trySym(t, "Key", Key(s, []byte("x")), k)
		trySym(t, "Hash", Hash(s, []byte("x")), h)
		trySym(t, "Both", Both(s, []byte("x")), m)
		if Split(s) != p {
			t.Fatal("Split answers something else")
		}
	}
}
