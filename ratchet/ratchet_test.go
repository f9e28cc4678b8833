package ratchet

import (
	"bytes"
	"encoding/hex"
	"fmt"
	"math"
	"math/rand"
	"reflect"
	"slices"
	"sync"
	"testing"

	"signet/api"
	keys "signet/kdf"
	"signet/ladder"
	"signet/seal"
)

// rising answers so many bytes, each one more than the one ahead of it.
func rising(from byte, n int) []byte {
	b := make([]byte, n)
	for i := range b {
		b[i] = from + byte(i)
	}
	return b
}

// key answers a key of this number, as no other number has it.
func key(n byte) api.Key { return api.Key(rising(n, 32)) }

func public(n byte) api.Key { return ladder.Base(key(n)) }

// kept answers so many Kept, of two Peers in turn.
func kept(n int) []api.Kept {
	var l []api.Kept
	for i := range n {
		l = append(l, api.Kept{Peer: key(byte(60 + i%2)), N: i / 2, Key: key(byte(100 + i))})
	}
	return l
}

// made answers a side in the midst of a talk, each field of which is another one.
func made() api.Ratchet {
	return api.Ratchet{Root: key(10), Own: key(11), Peer: public(12), Send: key(13), Out: 21, Recv: key(14), In: 22,
		Last: 23, Can: true, Hear: true, Kept: kept(5)}
}

// low answers the public keys with which all bytes come out 0: of few points, also written above the prime, or with
// the highest bit.
func low(t *testing.T) []api.Key {
	t.Helper()
	var l []api.Key
	for _, s := range []string{
		"0000000000000000000000000000000000000000000000000000000000000000",
		"0100000000000000000000000000000000000000000000000000000000000000",
		"e0eb7a7c3b41b8ae1656e3faf19fc46ada098deb9c32b1fd866205165f49b800",
		"5f9c95bca3508c24b1d0b1559c83ef5b04445cc4581c8e86d8224eddd09f1157",
		"ecffffffffffffffffffffffffffffffffffffffffffffffffffffffffffff7f",
		"edffffffffffffffffffffffffffffffffffffffffffffffffffffffffffff7f",
		"eeffffffffffffffffffffffffffffffffffffffffffffffffffffffffffff7f",
		"0000000000000000000000000000000000000000000000000000000000000080",
	} {
		b, err := hex.DecodeString(s)
		if err != nil {
			t.Fatal(err)
		}
		l = append(l, api.Key(b))
	}
	return l
}

// plain answers the same side, whose Kept is nil where nothing is.
func plain(r api.Ratchet) api.Ratchet {
	if len(r.Kept) == 0 {
		r.Kept = nil
	}
	return r
}

func same(r, u api.Ratchet) bool { return reflect.DeepEqual(plain(r), plain(u)) }

func sideIs(t *testing.T, what string, got, want api.Ratchet) {
	t.Helper()
	if !same(got, want) {
		t.Fatalf("%s:\n%s\nwant\n%s", what, inShort(got), inShort(want))
	}
}

func checkIs(t *testing.T, what string, r api.Ratchet, want api.Errno) {
	t.Helper()
	if e := Check(r); e != want {
		t.Errorf("%s: error %d, want %d", what, e, want)
	}
}

// answer: what Seal or Open tells.
type answer struct {
	r api.Ratchet
	h api.Head
	b []byte
	e api.Errno
}

func (a answer) same(o answer) bool {
	return same(a.r, o.r) && a.h == o.h && bytes.Equal(a.b, o.b) && a.e == o.e
}

func seals(r api.Ratchet, ad, text []byte) answer {
	r, h, b, e := Seal(r, ad, text)
	return answer{r, h, b, e}
}

func opens(r api.Ratchet, secret api.Key, ad []byte, h api.Head, b []byte) answer {
	r, text, e := Open(r, secret, ad, h, b)
	return answer{r: r, b: text, e: e}
}

// sealIs asks what Seal tells, against the book.
func sealIs(t *testing.T, what string, r api.Ratchet, ad, text []byte, e api.Errno) answer {
	t.Helper()
	got := seals(r, ad, text)
	var want answer
	want.r, want.h, want.b, want.e = bookSeal(r, ad, text)
	if want.e != e {
		t.Fatalf("%s: the book has error %d, not %d", what, want.e, e)
	}
	if !got.same(want) {
		t.Fatalf("%s: %d %v %x\n%s\nwant %d %v %x\n%s", what, got.e, got.h, got.b, inShort(got.r), want.e, want.h,
			want.b, inShort(want.r))
	}
	return got
}

// openIs asks what Open tells, against the book.
func openIs(t *testing.T, what string, r api.Ratchet, secret api.Key, ad []byte, h api.Head, b []byte, e api.Errno) answer {
	t.Helper()
	got := opens(r, secret, ad, h, b)
	var want answer
	want.r, want.b, want.e = bookOpen(r, secret, ad, h, b)
	if want.e != e {
		t.Fatalf("%s: the book has error %d, not %d", what, want.e, e)
	}
	if !got.same(want) {
		t.Fatalf("%s: %d %q\n%s\nwant %d %q\n%s", what, got.e, got.b, inShort(got.r), want.e, want.b, inShort(want.r))
	}
	return got
}

// hears opens a forged text by a head, with no error or this one, against the book.
func hears(t *testing.T, what string, r api.Ratchet, h api.Head, e api.Errno) api.Ratchet {
	t.Helper()
	ad, text, secret := []byte("beside"), []byte("what is said"), key(15)
	got := openIs(t, what, r, secret, ad, h, forged(r, secret, ad, h, text), e)
	if e == api.OK && !bytes.Equal(got.b, text) {
		t.Fatalf("%s: opened %q", what, got.b)
	}
	return got.r
}

// numbers that may not be.
func wrong() []int {
	return []int{-1, api.MaxNumber + 1, math.MinInt, math.MaxInt, math.MinInt32, math.MaxInt32, 1 << 32, 1<<32 + 1, -1 << 32}
}

func right() []int {
	return []int{0, 1, 8, 255, 256, 65536, 1<<24 + 1, api.MaxNumber - 1, api.MaxNumber}
}

// numberOf answers where a side has its numbers.
func numberOf(r *api.Ratchet, which int) *int { return []*int{&r.Out, &r.In, &r.Last}[which] }

// P14.2: numbers from 0 to MaxNumber, all else whatever it is.
func TestCheckNumbers(t *testing.T) {
	checkIs(t, "zero", api.Ratchet{}, api.OK)
	checkIs(t, "made", made(), api.OK)
	for which := range 3 {
		for _, n := range right() {
			r := made()
			*numberOf(&r, which) = n
			checkIs(t, fmt.Sprint(which, " is ", n), r, api.OK)
		}
		for _, n := range wrong() {
			r := made()
			*numberOf(&r, which) = n
			checkIs(t, fmt.Sprint(which, " is ", n), r, api.ErrState)
			r = api.Ratchet{}
			*numberOf(&r, which) = n
			checkIs(t, fmt.Sprint("alone ", which, " is ", n), r, api.ErrState)
		}
	}
	for i := range 4 {
		r := made()
		r.Can, r.Hear = i&1 == 1, i&2 == 2
		checkIs(t, fmt.Sprint("Can and Hear ", i), r, api.OK)
		r = api.Ratchet{Can: i&1 == 1, Hear: i&2 == 2}
		checkIs(t, fmt.Sprint("alone Can and Hear ", i), r, api.OK)
	}
}

// P14.2: at most MaxKept Kept.
func TestCheckKept(t *testing.T) {
	for n := range 40 {
		want := api.OK
		if n > 12 {
			want = api.ErrState
		}
		checkIs(t, fmt.Sprint(n, " Kept"), api.Ratchet{Kept: kept(n)}, want)
	}
	many := make([]api.Kept, 1<<20)
	for i := range many {
		many[i].N = i
	}
	checkIs(t, "very many", api.Ratchet{Kept: many}, api.ErrState)
}

// P14.2: the N of each Kept.
func TestCheckKeptNumbers(t *testing.T) {
	for n := range 12 {
		for place := range n + 1 {
			for _, x := range right() {
				l := kept(n + 1)
				l[place].Peer, l[place].N = key(77), x
				checkIs(t, fmt.Sprint("place ", place, " of ", n+1, " is ", x), api.Ratchet{Kept: l}, api.OK)
			}
			for _, x := range wrong() {
				l := kept(n + 1)
				l[place].N = x
				checkIs(t, fmt.Sprint("place ", place, " of ", n+1, " is ", x), api.Ratchet{Kept: l}, api.ErrState)
			}
		}
	}
}

// P14.2: no two Kept of one Peer and one N, at any two places; their keys may be alike, or not.
func TestCheckTwice(t *testing.T) {
	for n := 2; n <= 12; n++ {
		for i := range n {
			for j := range i {
				r := api.Ratchet{Kept: kept(n)}
				r.Kept[i].Key = r.Kept[j].Key
				checkIs(t, "keys alike", r, api.OK)
				r.Kept[i].Peer, r.Kept[i].N = r.Kept[j].Peer, r.Kept[j].N
				checkIs(t, "all alike", r, api.ErrState)
				r.Kept[i].Key = key(200)
				checkIs(t, "Peer and N alike", r, api.ErrState)
				r.Kept[i].N += 50
				checkIs(t, "Peer alike", r, api.OK)
			}
		}
	}
	for place := range 32 {
		r := api.Ratchet{Kept: make([]api.Kept, 2)}
		r.Kept[1].Peer[place] = 128
		checkIs(t, fmt.Sprint("byte ", place), r, api.OK)
		r.Kept[0].Peer[place] = 128
		checkIs(t, fmt.Sprint("both bytes ", place), r, api.ErrState)
	}
}

// P14.1, P14.3: the First: root and chain are made of the root and of what both keys make.
func TestFirst(t *testing.T) {
	r := rand.New(rand.NewSource(1))
	for range 60 {
		var root, own, peer api.Key
		r.Read(root[:])
		r.Read(own[:])
		r.Read(peer[:])
		both, _ := ladder.Mult(own, peer)
		two := keys.Two(root, both[:])
		got, e := First(root, own, peer)
		sideIs(t, "First", got, api.Ratchet{Root: two[0], Own: own, Peer: peer, Send: two[1], Can: true})
		book, _ := bookFirst(root, own, peer)
		sideIs(t, "by the book", got, book)
		if e != api.OK || Check(got) != api.OK {
			t.Fatalf("error %d, %d", e, Check(got))
		}
	}
}

// P14.3: ErrZero, and then no side; zero keys of other kinds are keys.
func TestFirstZero(t *testing.T) {
	for i, peer := range low(t) {
		for _, own := range []api.Key{{}, key(1), key(255), {31: 255}} {
			r, e := First(key(1), own, peer)
			if e != api.ErrZero || !same(r, api.Ratchet{}) {
				t.Errorf("key %d: error %d, %s", i, e, inShort(r))
			}
		}
	}
	for _, own := range []api.Key{{}, {0: 7}, {31: 128}} { // clamped, all three are one
		r, e := First(api.Key{}, own, public(1))
		want, _ := First(api.Key{}, api.Key{}, public(1))
		want.Own = own
		if e != api.OK {
			t.Errorf("error %d", e)
		}
		sideIs(t, "a secret of few bits", r, want)
	}
	peer := public(1)
	r, _ := First(key(1), key(2), peer)
	peer[31] ^= 128
	u, _ := First(key(1), key(2), peer)
	r.Peer = peer
	sideIs(t, "Peer is told as it is, though the highest bit counts for nothing", u, r)
}

// P14.3: the Second has root and own, and nothing else.
func TestSecond(t *testing.T) {
	sideIs(t, "zero", Second(api.Key{}, api.Key{}), api.Ratchet{})
	sideIs(t, "Second", Second(key(1), key(2)), api.Ratchet{Root: key(1), Own: key(2)})
	checkIs(t, "Second", Second(key(1), key(2)), api.OK)
}

// P14.4: the bytes of a head, the highest one first.
func TestBytes(t *testing.T) {
	k := key(200)
	for _, c := range []struct {
		last, n int
		want    string
	}{
		{0, 0, "0000000000000000"},
		{1, 2, "0000000100000002"},
		{0x01020304, 0x3a0b0c0d, "010203043a0b0c0d"},
		{255, 256, "000000ff00000100"},
		{65535, 65536, "0000ffff00010000"},
		{1<<24 - 1, 1 << 24, "00ffffff01000000"},
		{api.MaxNumber, api.MaxNumber - 1, "400000003fffffff"},
		{0, api.MaxNumber, "0000000040000000"},
	} {
		b, e := Bytes(api.Head{Key: k, Last: c.last, N: c.n})
		if want := hex.EncodeToString(k[:]) + c.want; e != api.OK || hex.EncodeToString(b) != want {
			t.Errorf("%d %d: %x, error %d, want %s", c.last, c.n, b, e, want)
		}
	}
}

// P14.4: ErrRange, and then no bytes.
func TestBytesRange(t *testing.T) {
	for _, x := range wrong() {
		for _, y := range slices.Concat(wrong(), right()) {
			for _, h := range []api.Head{{Key: key(1), Last: x, N: y}, {Key: key(1), Last: y, N: x}} {
				if b, e := Bytes(h); e != api.ErrRange || len(b) != 0 {
					t.Errorf("%d %d: %x, error %d", h.Last, h.N, b, e)
				}
			}
		}
	}
	for _, x := range right() {
		for _, y := range right() {
			if b, e := Bytes(api.Head{Last: x, N: y}); e != api.OK || len(b) != 40 {
				t.Errorf("%d %d: %x, error %d", x, y, b, e)
			}
		}
	}
}

// P14.1, P14.5: what is sealed, and the side behind it: all but Send and Out is as it was.
func TestSeal(t *testing.T) {
	ad, text := []byte("beside it"), []byte("the text")
	r := made()
	got := sealIs(t, "Seal", r, ad, text, api.OK)
	if want := (api.Head{Key: public(11), Last: 23, N: 21}); got.h != want {
		t.Errorf("head %v, want %v", got.h, want)
	}
	send := key(13)
	head, _ := Bytes(got.h)
	by := keys.Mac(send[:], []byte{1})
	if want, _ := seal.Seal(by, [12]byte{}, slices.Concat(ad, head), text); !bytes.Equal(got.b, want) {
		t.Errorf("sealed %x, want %x", got.b, want)
	}
	want := made()
	want.Send, want.Out = keys.Mac(send[:], []byte{2}), 22
	sideIs(t, "behind it", got.r, want)
	for i := range 2 {
		r.Hear = i == 1
		sealIs(t, fmt.Sprint("Hear ", r.Hear), r, ad, text, api.OK)
	}
	sealIs(t, "a side that has nothing but that it can", api.Ratchet{Can: true}, nil, nil, api.OK)
	for n := range 13 {
		r.Kept = kept(n)
		sealIs(t, fmt.Sprint(n, " Kept"), r, ad, text, api.OK)
	}
}

// P14.5: ErrState: it can't, or may not be.
func TestSealState(t *testing.T) {
	r := made()
	r.Can = false
	sealIs(t, "can't", r, nil, nil, api.ErrState)
	sealIs(t, "Second", Second(key(1), key(2)), nil, nil, api.ErrState)
	sealIs(t, "zero", api.Ratchet{}, nil, nil, api.ErrState)
	for which := range 3 {
		for _, n := range wrong() {
			r := made()
			*numberOf(&r, which) = n
			sealIs(t, fmt.Sprint(which, " is ", n), r, nil, nil, api.ErrState)
		}
	}
	r = made()
	r.Kept = kept(13)
	sealIs(t, "Kept", r, nil, nil, api.ErrState)
	r.Kept = slices.Concat(kept(2), kept(2))
	sealIs(t, "Kept twice", r, nil, nil, api.ErrState)
}

// P14.5: at most MaxText bytes, and beside them at most MaxAd less 40.
func TestSealSize(t *testing.T) {
	for _, n := range []int{0, 1, 63, 64, 399, 400} {
		for _, m := range []int{0, 1, 15, 16, 159, 160} {
			got := sealIs(t, fmt.Sprint(n, " beside ", m), made(), rising(3, m), rising(4, n), api.OK)
			if len(got.b) != n+16 {
				t.Errorf("%d bytes", len(got.b))
			}
		}
	}
	for _, c := range [][2]int{{401, 0}, {401, 160}, {400, 161}, {0, 161}, {401, 161}, {0, 200}, {0, 201}, {800, 0}, {1 << 20, 0}, {0, 1 << 20}} {
		sealIs(t, fmt.Sprint(c), made(), make([]byte, c[1]), make([]byte, c[0]), api.ErrSize)
	}
}

// P14.5: ErrOver: Out is MaxNumber; the one ahead is the last one.
func TestSealOver(t *testing.T) {
	r := made()
	for _, r.Out = range []int{0, 255, 256, 65535, 65536, 1<<24 - 1, api.MaxNumber - 2} {
		sealIs(t, fmt.Sprint("Out ", r.Out), r, nil, []byte("text"), api.OK)
	}
	r.Out = api.MaxNumber - 1
	got := sealIs(t, "the last one", r, nil, []byte("text"), api.OK)
	if got.r.Out != api.MaxNumber || got.h.N != api.MaxNumber-1 {
		t.Errorf("Out %d, head %v", got.r.Out, got.h)
	}
	sealIs(t, "one more", got.r, nil, []byte("text"), api.ErrOver)
	for _, r.Last = range []int{0, 1, 256, api.MaxNumber} {
		for _, r.In = range []int{0, api.MaxNumber} {
			sealIs(t, "In and Last", r, nil, nil, api.OK)
		}
	}
}

// P14.5: which error comes first.
func TestSealOrder(t *testing.T) {
	long, wide := make([]byte, 401), make([]byte, 161)
	over := made()
	over.Out = api.MaxNumber
	cant := over
	cant.Can = false
	mayNot := cant
	mayNot.In = -1
	sealIs(t, "may not be", mayNot, wide, long, api.ErrState)
	sealIs(t, "can't", cant, wide, long, api.ErrState)
	sealIs(t, "text", over, nil, long, api.ErrSize)
	sealIs(t, "ad", over, wide, nil, api.ErrSize)
	sealIs(t, "over", over, nil, nil, api.ErrOver)
}

// headOf answers the head of a text of the chain that a side opens.
func headOf(r api.Ratchet, n int) api.Head { return api.Head{Key: r.Peer, Last: 3, N: n} }

// P14.6: the next text of the chain: its key is taken, all else stays.
func TestOpenNext(t *testing.T) {
	r := made()
	recv := key(14)
	want := made()
	want.Recv, want.In = keys.Mac(recv[:], []byte{2}), 23
	h := headOf(r, 22)
	head, _ := Bytes(h)
	b, _ := seal.Seal(keys.Mac(recv[:], []byte{1}), [12]byte{}, slices.Concat([]byte("ad"), head), []byte("text"))
	got := openIs(t, "next", r, key(1), []byte("ad"), h, b, api.OK)
	sideIs(t, "next", got.r, want)
	if string(got.b) != "text" {
		t.Errorf("opened %q", got.b)
	}
	for _, r.Can = range []bool{false, true} {
		for _, last := range right() {
			h.Last = last
			want.Can = r.Can
			sideIs(t, "behind it", hears(t, "Last", r, h, api.OK), want)
		}
	}
}

// P14.6: a Kept one is taken, and is Kept no more; nothing else changes: not whether it turns, nor by Last, nor by
// the secret, nor if its N is late, or above all that may be skipped.
func TestOpenKept(t *testing.T) {
	for n := 1; n <= 12; n++ {
		for place := range n {
			for set := range 8 {
				r := made()
				r.Kept = kept(n)
				r.Can, r.Hear = set&1 == 1, set&2 == 2
				if set&4 == 4 {
					r.Peer = r.Kept[place].Peer
				}
				h := api.Head{Key: r.Kept[place].Peer, Last: 100 * set, N: r.Kept[place].N}
				want := r
				want.Kept = slices.Delete(kept(n), place, place+1)
				sideIs(t, "Kept", hears(t, fmt.Sprint(place, " of ", n), r, h, api.OK), want)
			}
		}
	}
	for _, n := range []int{0, 1, 21, 22, 23, 100, api.MaxNumber - 1, api.MaxNumber} {
		for _, peer := range []api.Key{made().Peer, public(1), {}} { // also one to which nothing could be turned
			r := made()
			r.Kept = append(kept(3), api.Kept{Peer: peer, N: n, Key: key(3)})
			want := r
			want.Kept = kept(3)
			h := api.Head{Key: peer, Last: api.MaxNumber, N: n}
			sideIs(t, "Kept", hears(t, fmt.Sprint("N ", n), r, h, api.OK), want)
		}
	}
}

// P14.6: a Kept one has both the Key and the N of the head, to the last byte.
func TestOpenKeptNot(t *testing.T) {
	r := made()
	r.Kept = []api.Kept{{Peer: r.Peer, N: 3, Key: key(1)}, {Peer: public(9), N: 4, Key: key(2)}}
	hears(t, "N of another Peer", r, headOf(r, 4), api.ErrLate)
	hears(t, "no N", r, headOf(r, 2), api.ErrLate)
	hears(t, "both", r, headOf(r, 3), api.OK)
	u := hears(t, "N of this Peer, Key of another one", r, api.Head{Key: public(9), Last: 22, N: 3}, api.OK)
	if len(u.Kept) != 5 || u.Peer != public(9) {
		t.Errorf("it did not turn: %s", inShort(u))
	}
	for place := range 32 {
		h := headOf(r, 3)
		h.Last = 22
		h.Key[place] ^= 64
		if u := hears(t, fmt.Sprint("byte ", place), r, h, api.OK); u.Peer != h.Key || len(u.Kept) != 5 {
			t.Errorf("byte %d: it did not turn: %s", place, inShort(u))
		}
	}
}

// P14.6: the first text of a Second: it turns by its own secret, and then by the new one.
func TestOpenTurns(t *testing.T) {
	x, _ := First(key(1), key(2), public(3))
	sent := sealIs(t, "Seal", x, nil, []byte("hello"), api.OK)
	got := openIs(t, "Open", Second(key(1), key(3)), key(4), nil, sent.h, sent.b, api.OK)
	if string(got.b) != "hello" {
		t.Errorf("opened %q", got.b)
	}
	both, _ := ladder.Mult(key(4), public(2))
	two := keys.Two(x.Root, both[:])
	sideIs(t, "behind it", got.r, api.Ratchet{Root: two[0], Own: key(4), Peer: public(2), Send: two[1],
		Recv: sent.r.Send, In: 1, Can: true, Hear: true})
}

// turnedBy answers a side as it is behind a turn, without what is Kept and what is opened of the chain.
func turnedBy(r api.Ratchet, secret, public api.Key) api.Ratchet {
	one, _ := ladder.Mult(r.Own, public)
	two, _ := ladder.Mult(secret, public)
	recv := keys.Two(r.Root, one[:])
	send := keys.Two(recv[0], two[:])
	return api.Ratchet{Root: send[0], Own: secret, Peer: public, Send: send[1], Recv: recv[1], Last: r.Out, Can: true,
		Hear: true}
}

// P14.1, P14.6: a turn in the midst of a talk: what is behind it, field by field.
func TestOpenTurnsAll(t *testing.T) {
	for set := range 4 {
		r := made()
		r.Can, r.Hear = set&1 == 1, set&2 == 2
		want := turnedBy(r, key(15), public(33))
		want.Kept = kept(5)
		next := want.Recv
		if r.Hear {
			chain := r.Recv
			for n := 22; n < 24; n++ {
				want.Kept = append(want.Kept, api.Kept{Peer: r.Peer, N: n, Key: bookKey(chain)})
				chain = bookBehind(chain)
			}
		}
		for n := range 3 {
			want.Kept = append(want.Kept, api.Kept{Peer: public(33), N: n, Key: bookKey(next)})
			next = bookBehind(next)
		}
		want.Recv, want.In = bookBehind(next), 4
		u := hears(t, fmt.Sprint("turn ", set), r, api.Head{Key: public(33), Last: 24, N: 3}, api.OK)
		sideIs(t, fmt.Sprint("turn ", set), u, want)
	}
}

// P14.6: it turns if it does not Hear, also with the Key that it has; and with another Key, but not with the same one.
func TestOpenTurnsWhen(t *testing.T) {
	for _, hear := range []bool{false, true} {
		for _, k := range []api.Key{made().Peer, public(34)} {
			r := made()
			r.Hear = hear
			h := api.Head{Key: k, Last: 22, N: 22}
			want := api.ErrRange // a chain that begins anew
			if hear && k == r.Peer {
				want = api.OK
			}
			hears(t, "N as it goes on", r, h, want)
			h.N = 0
			want = api.OK
			if hear && k == r.Peer {
				want = api.ErrLate
			}
			u := hears(t, "N as it begins", r, h, want)
			if want == api.OK && (u.In != 1 || u.Last != 21 || u.Out != 0 || u.Own != key(15) || !u.Hear) {
				t.Errorf("it did not turn: %s", inShort(u))
			}
		}
	}
	r := made()
	r.Peer = api.Key{}
	hears(t, "a Key of noughts, without a turn", r, headOf(r, 22), api.OK)
	r.Hear = false
	hears(t, "a Key of noughts, with a turn", r, headOf(r, 0), api.ErrZero)
}

// P14.6: ErrZero for each public key that tells nothing.
func TestOpenZero(t *testing.T) {
	for i, k := range low(t) {
		for _, r := range []api.Ratchet{made(), Second(key(1), key(2)), {}} {
			hears(t, fmt.Sprint("key ", i), r, api.Head{Key: k, Last: r.In}, api.ErrZero)
		}
	}
}

// P14.6: how many are skipped at once: up to N, up to Last, and both.
func TestOpenSkips(t *testing.T) {
	for n := range 12 {
		want := api.OK
		if n > 8 {
			want = api.ErrRange
		}
		r := made()
		r.Kept = nil
		u := hears(t, fmt.Sprint(n, " up to N"), r, headOf(r, 22+n), want)
		if want == api.OK && (len(u.Kept) != n || u.In != 23+n) {
			t.Errorf("%d up to N: %s", n, inShort(u))
		}
		u = hears(t, fmt.Sprint(n, " up to Last"), r, api.Head{Key: public(35), Last: 22 + n}, want)
		if want == api.OK && (len(u.Kept) != n || u.In != 1) {
			t.Errorf("%d up to Last: %s", n, inShort(u))
		}
		u = hears(t, fmt.Sprint(n, " up to N behind a turn"), r, api.Head{Key: public(35), N: n}, want)
		if want == api.OK && (len(u.Kept) != n || u.In != 1+n) {
			t.Errorf("%d up to N behind a turn: %s", n, inShort(u))
		}
		for m := range 9 {
			u = hears(t, fmt.Sprint(n, " and ", m), r, api.Head{Key: public(35), Last: 22 + m, N: n}, want)
			if want == api.OK && len(u.Kept) != min(n+m, 12) {
				t.Errorf("%d and %d: %s", n, m, inShort(u))
			}
		}
	}
}

// P14.6: nothing is skipped up to Last if the side does not Hear, or has opened more.
func TestOpenSkipsNone(t *testing.T) {
	for _, last := range slices.Concat(right(), []int{20, 21, 22}) {
		r := made()
		r.Hear = false
		if u := hears(t, fmt.Sprint("Last ", last), r, api.Head{Key: public(35), Last: last}, api.OK); len(u.Kept) != 5 {
			t.Errorf("Last %d: %s", last, inShort(u))
		}
		r.Hear = true
		if last > 22 {
			hears(t, fmt.Sprint("Last ", last), r, api.Head{Key: public(35), Last: last}, api.ErrRange)
		} else if u := hears(t, fmt.Sprint("Last ", last), r, api.Head{Key: public(35), Last: last}, api.OK); len(u.Kept) != 5 {
			t.Errorf("Last %d: %s", last, inShort(u))
		}
	}
}

// P14.6: of more than MaxKept Kept the first ones go.
func TestOpenKeepsTwelve(t *testing.T) {
	for n := range 13 {
		for skip := range 9 {
			r := made()
			r.Kept = kept(n)
			u := hears(t, fmt.Sprint(n, " and ", skip), r, headOf(r, 22+skip), api.OK)
			gone := max(0, n+skip-12)
			if len(u.Kept) != n+skip-gone || !slices.Equal(u.Kept[:n-gone], kept(n)[gone:]) {
				t.Fatalf("%d and %d: %s", n, skip, inShort(u))
			}
			for i, k := range u.Kept[n-gone:] {
				if k.Peer != r.Peer || k.N != 22+i {
					t.Fatalf("%d and %d: %s", n, skip, inShort(u))
				}
			}
			checkIs(t, "behind it", u, api.OK)
		}
	}
}

// P14.6: a text that was skipped and has gone from Kept is late, as one that was opened is.
func TestOpenLate(t *testing.T) {
	r := made()
	for n := range 22 {
		hears(t, fmt.Sprint("N ", n), r, headOf(r, n), api.ErrLate)
	}
	u := hears(t, "8 skipped", r, headOf(r, 30), api.OK)
	u = hears(t, "8 more", u, headOf(r, 39), api.OK)
	for n := 22; n < 40; n++ {
		want := api.ErrLate
		if slices.ContainsFunc(u.Kept, func(k api.Kept) bool { return k.Peer == r.Peer && k.N == n }) {
			want = api.OK
		}
		once := hears(t, fmt.Sprint("N ", n), u, headOf(r, n), want)
		if want == api.OK {
			hears(t, fmt.Sprint("N ", n, " twice"), once, headOf(r, n), api.ErrLate)
		}
	}
}

// P14.6: the last numbers there are.
func TestOpenOver(t *testing.T) {
	const last = api.MaxNumber
	r := made()
	for _, r.In = range []int{0, 1, last - 9, last - 8, last - 1, last} {
		hears(t, fmt.Sprint("In ", r.In), r, headOf(r, last), api.ErrOver)
	}
	r.In = last
	hears(t, "late", r, headOf(r, last-1), api.ErrLate)
	r.In = last - 1
	u := hears(t, "the last one", r, headOf(r, last-1), api.OK)
	if u.In != last {
		t.Errorf("In %d", u.In)
	}
	hears(t, "over", u, headOf(r, last), api.ErrOver)
	r.In = last - 9
	hears(t, "8 up to the last one", r, headOf(r, last-1), api.OK)
	r.In = last - 10
	hears(t, "9 up to the last one", r, headOf(r, last-1), api.ErrRange)
	for n := range 12 {
		want := api.OK
		if n > 8 {
			want = api.ErrRange
		}
		r.In = last - n
		u := hears(t, "all of a chain", r, api.Head{Key: public(35), Last: last}, want)
		if n > 0 && want == api.OK && u.Kept[len(u.Kept)-1].N != last-1 {
			t.Errorf("%s", inShort(u))
		}
		if want == api.OK {
			want = api.ErrOver
		}
		hears(t, "and all of the next one", r, api.Head{Key: public(35), Last: last, N: last}, want)
	}
	hears(t, "N of a chain that begins", made(), api.Head{Key: public(35), Last: 22, N: last}, api.ErrOver)
}

// P14.6: at most MaxAd less 40 bytes beside; of the bytes what seal's Open takes, which is more than MaxText.
func TestOpenSize(t *testing.T) {
	r := made()
	h := headOf(r, 22)
	for _, n := range []int{0, 1, 400, 401, 799, 800} {
		for _, m := range []int{0, 1, 159, 160} {
			ad, text := rising(5, m), rising(6, n)
			got := openIs(t, fmt.Sprint(n, " beside ", m), r, key(1), ad, h, forged(r, key(1), ad, h, text), api.OK)
			if !bytes.Equal(got.b, text) {
				t.Errorf("%d beside %d: opened %x", n, m, got.b)
			}
		}
	}
	for _, m := range []int{161, 162, 200, 201, 1 << 20} {
		openIs(t, fmt.Sprint("beside ", m), r, key(1), make([]byte, m), h, make([]byte, 16), api.ErrSize)
	}
	for n := range 16 {
		openIs(t, "short", r, key(1), nil, h, make([]byte, n), api.ErrShort)
	}
	openIs(t, "not the tag", r, key(1), nil, h, make([]byte, 16), api.ErrAuth)
	openIs(t, "not the tag", r, key(1), nil, h, make([]byte, 816), api.ErrAuth)
	for _, n := range []int{817, 900, 1 << 20} {
		openIs(t, "long", r, key(1), nil, h, make([]byte, n), api.ErrSize)
	}
}

// P14.6: whatever is changed of a text, or of what is beside it, it is not opened: neither the next one, nor one
// that is Kept, nor one that turns.
func TestOpenAuth(t *testing.T) {
	ad, secret := []byte("beside"), key(15)
	r := made()
	for i, h := range []api.Head{headOf(r, 24), {Key: r.Kept[2].Peer, Last: 3, N: r.Kept[2].N}, {Key: public(35), Last: 24, N: 1}} {
		b := forged(r, secret, ad, h, []byte("text"))
		openIs(t, "as it is", r, secret, ad, h, b, api.OK)
		for bit := range 8 * len(b) {
			c := slices.Clone(b)
			c[bit/8] ^= 1 << (bit % 8)
			openIs(t, fmt.Sprint(i, " bit ", bit), r, secret, ad, h, c, api.ErrAuth)
		}
		openIs(t, "cut", r, secret, ad, h, b[:len(b)-1], api.ErrAuth)
		openIs(t, "longer", r, secret, ad, h, append(slices.Clone(b), 0), api.ErrAuth)
		for _, other := range [][]byte{nil, []byte("besidE"), []byte("beside "), []byte("eside")} {
			openIs(t, "beside", r, secret, other, h, b, api.ErrAuth)
		}
		u := h
		u.Last--
		openIs(t, "Last", r, secret, ad, u, b, api.ErrAuth)
		openIs(t, "another secret", r, key(16), ad, h, b, api.OK) // it is for what is sealed next
	}
	h := headOf(r, 22)
	b := forged(r, secret, ad, h, []byte("text"))
	h.N = 23
	openIs(t, "N", r, secret, ad, h, b, api.ErrAuth)
	h.N, h.Key[0], h.Last = 0, h.Key[0]^1, 22
	openIs(t, "Key", r, secret, ad, h, b, api.ErrAuth)
	for bit := range 256 {
		u := r
		u.Recv[bit/8] ^= 1 << (bit % 8)
		openIs(t, "another chain", u, secret, ad, headOf(r, 22), b, api.ErrAuth)
	}
}

// P14.6: ErrState: a side that may not be.
func TestOpenState(t *testing.T) {
	for which := range 3 {
		for _, n := range wrong() {
			r := made()
			*numberOf(&r, which) = n
			hears(t, fmt.Sprint(which, " is ", n), r, headOf(made(), 22), api.ErrState)
		}
	}
	r := made()
	r.Kept = kept(13)
	hears(t, "Kept", r, headOf(r, 22), api.ErrState)
	hears(t, "one of them", r, api.Head{Key: r.Kept[0].Peer, N: r.Kept[0].N}, api.ErrState)
	r.Kept = slices.Concat(kept(2), kept(2))
	hears(t, "Kept twice", r, headOf(r, 22), api.ErrState)
	r.Kept = kept(3)
	r.Kept[1].N = -1
	hears(t, "Kept", r, api.Head{Key: r.Kept[1].Peer, N: -1}, api.ErrState)
}

// P14.6: ErrRange: what Bytes refuses of a head.
func TestOpenHead(t *testing.T) {
	for _, n := range wrong() {
		for _, k := range []api.Key{made().Peer, public(35), kept(1)[0].Peer} {
			hears(t, fmt.Sprint("N ", n), made(), api.Head{Key: k, N: n}, api.ErrRange)
			hears(t, fmt.Sprint("Last ", n), made(), api.Head{Key: k, Last: n}, api.ErrRange)
		}
	}
}

// P14.6: which error comes first: each row has all that is wrong of the ones below it, too.
func TestOpenOrder(t *testing.T) {
	mayNot := made()
	mayNot.Out = -1
	late := made()
	zero := api.Key{}
	wide, long := make([]byte, 161), make([]byte, 817)
	for i, c := range []struct {
		r    api.Ratchet
		ad   []byte
		h    api.Head
		b    []byte
		want api.Errno
	}{
		{mayNot, wide, api.Head{Key: zero, Last: -1, N: -1}, long, api.ErrState},
		{made(), wide, api.Head{Key: zero, Last: -1, N: -1}, long, api.ErrRange},
		{made(), wide, api.Head{Key: zero, Last: 31, N: api.MaxNumber}, long, api.ErrSize},
		{made(), nil, api.Head{Key: zero, Last: 31, N: api.MaxNumber}, long, api.ErrRange},
		{made(), nil, api.Head{Key: zero, Last: 30, N: api.MaxNumber}, long, api.ErrZero},
		{made(), nil, api.Head{Key: public(1), Last: 30, N: api.MaxNumber}, long, api.ErrOver},
		{made(), nil, api.Head{Key: public(1), Last: 30, N: 9}, long, api.ErrRange},
		{made(), nil, api.Head{Key: public(1), Last: 30, N: 8}, long, api.ErrSize},
		{made(), nil, api.Head{Key: public(1), Last: 30, N: 8}, long[:15], api.ErrShort},
		{made(), nil, api.Head{Key: public(1), Last: 30, N: 8}, long[:16], api.ErrAuth},
		{late, nil, api.Head{Key: late.Peer, N: 21}, long, api.ErrLate},
		{late, nil, api.Head{Key: late.Peer, N: api.MaxNumber}, long, api.ErrOver},
		{late, nil, api.Head{Key: late.Peer, N: 31}, long, api.ErrRange},
		{late, nil, api.Head{Key: late.Peer, N: 30}, long, api.ErrSize},
		{late, nil, api.Head{Key: late.Kept[1].Peer, Last: api.MaxNumber}, long, api.ErrSize},
		{late, nil, api.Head{Key: late.Kept[1].Peer, Last: api.MaxNumber}, nil, api.ErrShort},
		{late, nil, api.Head{Key: late.Kept[1].Peer, Last: api.MaxNumber}, long[:16], api.ErrAuth},
	} {
		openIs(t, fmt.Sprint("row ", i), c.r, key(1), c.ad, c.h, c.b, c.want)
	}
}

// P14.6: a Key that comes once more behind another one begins a chain anew. What is skipped of it is Kept by the
// same Peer and the same N as what was Kept of the chain that was: by the chapter's words such a side is told all
// the same, and may not be.
func TestOpenKeyAgain(t *testing.T) {
	r := made()
	r.Kept = []api.Kept{{Peer: public(35), N: 1, Key: key(1)}}
	u := hears(t, "skipped again", r, api.Head{Key: public(35), Last: 22, N: 2}, api.OK)
	if len(u.Kept) != 3 || u.Kept[0] != r.Kept[0] || u.Kept[2].N != 1 || u.Kept[2].Key == key(1) {
		t.Errorf("%s", inShort(u))
	}
	checkIs(t, "skipped again", u, api.ErrState)
	u = hears(t, "not skipped", r, api.Head{Key: public(35), Last: 22}, api.OK)
	checkIs(t, "not skipped", u, api.OK)
	hears(t, "the one that is Kept goes first", u, api.Head{Key: public(35), N: 1}, api.OK)
}

// drawn answers a side by chance, and keys that heads may have: near the edges, seldom one that may not be.
func drawn(r *rand.Rand, pool []api.Key) api.Ratchet {
	number := func() int {
		if r.Intn(40) == 0 {
			return wrong()[r.Intn(len(wrong()))]
		}
		if r.Intn(3) == 0 {
			return api.MaxNumber - r.Intn(12)
		}
		return r.Intn(12)
	}
	s := api.Ratchet{Root: key(byte(r.Intn(3))), Own: key(byte(3 + r.Intn(3))), Peer: pool[r.Intn(len(pool))],
		Send: key(byte(9 + r.Intn(3))), Out: number(), Recv: key(byte(6 + r.Intn(3))), In: number(), Last: number(),
		Can: r.Intn(4) > 0, Hear: r.Intn(4) > 0}
	for range r.Intn(14) {
		k := api.Kept{Peer: pool[r.Intn(len(pool))], N: number(), Key: key(byte(20 + r.Intn(50)))}
		if r.Intn(30) == 0 || !slices.ContainsFunc(s.Kept, func(o api.Kept) bool { return k.Peer == o.Peer && k.N == o.N }) {
			s.Kept = append(s.Kept, k)
		}
	}
	return s
}

// drawnHead answers a head that may be of a Kept one, of the chain, or of another one.
func drawnHead(r *rand.Rand, s api.Ratchet, pool []api.Key) api.Head {
	h := api.Head{Key: pool[r.Intn(len(pool))], Last: s.In + r.Intn(12) - 2, N: r.Intn(11)}
	switch r.Intn(5) {
	case 0:
		if len(s.Kept) > 0 {
			k := s.Kept[r.Intn(len(s.Kept))]
			h.Key, h.N = k.Peer, k.N
		}
	case 1, 2:
		h.Key, h.N = s.Peer, s.In+r.Intn(12)-2
	case 3:
		h.N = api.MaxNumber - r.Intn(3)
	}
	return h
}

// P14.2, P14.5, P14.6: sides and heads by chance, against the book; each outcome often enough.
func TestDrawn(t *testing.T) {
	r := rand.New(rand.NewSource(14))
	pool := []api.Key{public(60), public(61), public(62), {1}}
	ads := [][]byte{nil, rising(1, 160), rising(1, 161)}
	opened, closed := map[api.Errno]int{}, map[api.Errno]int{}
	for i := range 3000 {
		s := drawn(r, pool)
		what := fmt.Sprint("side ", i)
		checkIs(t, what, s, bookCheck(s))
		ad, text := ads[r.Intn(20)/9], rising(byte(i), []int{0, 3, 400, 401}[r.Intn(11)/3])
		_, _, _, e := bookSeal(s, ad, text)
		sealIs(t, what, s, ad, text, e)
		closed[e]++
		h := drawnHead(r, s, pool)
		b := forged(s, key(15), ad, h, text)
		switch r.Intn(12) {
		case 0:
			b[r.Intn(len(b))] ^= 1
		case 1:
			b = b[:r.Intn(18)%len(b)]
		}
		_, _, e = bookOpen(s, key(15), ad, h, b)
		openIs(t, what, s, key(15), ad, h, b, e)
		opened[e]++
	}
	for _, e := range []api.Errno{api.OK, api.ErrState, api.ErrSize, api.ErrOver} {
		if closed[e] < 20 {
			t.Errorf("sealed with error %d: %d times", e, closed[e])
		}
	}
	for _, e := range []api.Errno{api.OK, api.ErrState, api.ErrRange, api.ErrSize, api.ErrZero, api.ErrLate, api.ErrOver, api.ErrShort, api.ErrAuth} {
		if opened[e] < 20 {
			t.Errorf("opened with error %d: %d times", e, opened[e])
		}
	}
}

// way: what one of two has sent, and what became of it.
type way struct {
	parcel
	ad, text []byte
	heard    bool
}

// P14.5, P14.6: two talk by chance, and texts come late, twice, or never: each is heard at most once, as it was
// sealed; what is refused is late, or too many were skipped; and both go on.
func TestTalkDrawn(t *testing.T) {
	r := rand.New(rand.NewSource(41))
	all := map[api.Errno]int{}
	for round := range 40 {
		x, _ := First(key(byte(round)), key(1), public(2))
		sides := [2]api.Ratchet{x, Second(key(byte(round)), key(2))}
		var ways [2][]way
		for step := range 120 {
			who := r.Intn(2)
			if r.Intn(2) == 0 && sides[who].Can {
				w := way{ad: rising(byte(step), r.Intn(20)), text: rising(byte(round), r.Intn(30))}
				got := seals(sides[who], w.ad, w.text)
				w.head, w.b, sides[who] = got.h, got.b, got.r
				if got.e != api.OK {
					t.Fatalf("sealed: error %d", got.e)
				}
				ways[1-who] = append(ways[1-who], w)
				continue
			}
			if len(ways[who]) == 0 {
				continue
			}
			w := &ways[who][max(0, len(ways[who])-1-r.Intn(14))]
			var secret api.Key
			r.Read(secret[:])
			got := opens(sides[who], secret, w.ad, w.head, w.b)
			all[got.e]++
			if got.e != api.OK {
				continue
			}
			if w.heard || !bytes.Equal(got.b, w.text) {
				t.Fatalf("heard %q, %v", got.b, w.heard)
			}
			w.heard, sides[who] = true, got.r
			checkIs(t, "behind it", got.r, api.OK)
		}
	}
	if all[api.OK] < 500 || all[api.ErrLate] < 50 {
		t.Errorf("%v", all)
	}
}

// list: what has memory of its own, or should have.
type list interface {
	all() string
	spoil()
}

type raw []byte
type keptList []api.Kept

func (l raw) all() string { return fmt.Sprint([]byte(l[:cap(l)])) }
func (l raw) spoil() {
	for i := range l[:cap(l)] {
		l[:cap(l)][i] ^= 77
	}
}

func (l keptList) all() string { return fmt.Sprint([]api.Kept(l[:cap(l)])) }
func (l keptList) spoil() {
	for i := range l[:cap(l)] {
		l[:cap(l)][i].N += 77
		l[:cap(l)][i].Key[3] ^= 77
	}
}

// roomy answers a list with marks in its spare room.
func roomy[T any](l []T, mark T) []T {
	m := append(append(make([]T, 0, len(l)+50), l...), slices.Repeat([]T{mark}, 50)...)
	return m[:len(l)]
}

func roomySide(r api.Ratchet) api.Ratchet {
	r.Kept = roomy(r.Kept, api.Kept{Peer: key(99), N: 99, Key: key(99)})
	return r
}

// asked: a call by what it is, the lists that are handed in, and what does it.
type asked struct {
	what string
	in   []list
	do   func() answer
}

func askedAll() []asked {
	ad, text, secret := roomy([]byte("beside"), 99), roomy([]byte("text"), 99), key(15)
	var l []asked
	add := func(what string, r api.Ratchet, h api.Head) {
		b := roomy(forged(r, secret, ad, h, text), 99)
		l = append(l, asked{what, []list{keptList(r.Kept), raw(ad), raw(b)}, func() answer { return opens(r, secret, ad, h, b) }})
	}
	for n := range 13 {
		r := made()
		r.Kept = kept(n)
		r = roomySide(r)
		l = append(l, asked{"Seal", []list{keptList(r.Kept), raw(ad), raw(text)}, func() answer { return seals(r, ad, text) }})
		for skip := range 10 {
			add("next", r, headOf(r, 22+skip))
			add("turn", r, api.Head{Key: public(35), Last: 22 + skip, N: skip})
		}
		for _, k := range r.Kept {
			add("Kept", r, api.Head{Key: k.Peer, N: k.N})
		}
		add("late", r, headOf(r, 1))
		b := roomy(make([]byte, 30), 99)
		h := headOf(r, 24)
		l = append(l, asked{"not opened", []list{keptList(r.Kept), raw(ad), raw(b)}, func() answer { return opens(r, secret, ad, h, b) }})
	}
	return l
}

// P14.5, P14.6: what is handed in is not changed, its spare room neither; what is answered shares no memory with it,
// nor with another answer, nor does one list of an answer with another one.
func TestApart(t *testing.T) {
	for i, c := range askedAll() {
		var was []string
		for _, l := range c.in {
			was = append(was, l.all())
		}
		one, two := c.do(), c.do()
		for j, l := range c.in {
			if l.all() != was[j] {
				t.Fatalf("%s %d: list %d was changed", c.what, i, j)
			}
		}
		if !one.same(two) {
			t.Fatalf("%s %d: two answers", c.what, i)
		}
		apart(t, fmt.Sprint(c.what, " ", i), append(c.in, keptList(one.r.Kept), raw(one.b), keptList(two.r.Kept), raw(two.b)))
	}
}

// apart spoils one list by the other, and asks whether another one feels it.
func apart(t *testing.T, what string, l []list) {
	t.Helper()
	for i := range l {
		var was []string
		for _, other := range l {
			was = append(was, other.all())
		}
		l[i].spoil()
		for j, other := range l {
			if j != i && other.all() != was[j] {
				t.Fatalf("%s: lists %d and %d share memory", what, i, j)
			}
		}
	}
}

// P14.4: the bytes of a head are new each time.
func TestBytesApart(t *testing.T) {
	h := api.Head{Key: key(1), Last: 2, N: 3}
	one, _ := Bytes(h)
	two, _ := Bytes(h)
	apart(t, "Bytes", []list{raw(one), raw(two)})
}

// P14.6: a key that was taken, or has gone, stands nowhere any more in what is answered.
func TestKeysGone(t *testing.T) {
	r := made()
	r.Kept = kept(12)
	for i, taken := range r.Kept {
		u := hears(t, "taken", r, api.Head{Key: taken.Peer, N: taken.N}, api.OK)
		for _, k := range u.Kept[:cap(u.Kept)] {
			if k.Key == taken.Key {
				t.Errorf("key %d is there", i)
			}
		}
	}
	u := hears(t, "gone", r, headOf(r, 24), api.OK)
	for _, k := range u.Kept[:cap(u.Kept)] {
		if k.Key == r.Kept[0].Key || k.Key == r.Kept[1].Key {
			t.Error("they are there")
		}
	}
}

// P14.2, P14.5, P14.6: lists without elements may be nil or not.
func TestNilOrNot(t *testing.T) {
	r := made()
	r.Kept = nil
	u := r
	u.Kept = []api.Kept{}
	checkIs(t, "nil", r, api.OK)
	checkIs(t, "not nil", u, api.OK)
	if !seals(r, nil, nil).same(seals(u, []byte{}, []byte{})) {
		t.Error("Seal")
	}
	for _, h := range []api.Head{headOf(r, 22), headOf(r, 24), headOf(r, 1), {Key: public(35), Last: 23, N: 2}} {
		b := forged(r, key(1), nil, h, nil)
		if !opens(r, key(1), nil, h, b).same(opens(u, key(1), []byte{}, h, b)) {
			t.Error("Open", h)
		}
	}
	if a, o := opens(r, key(1), nil, headOf(r, 22), nil), opens(r, key(1), nil, headOf(r, 22), []byte{}); a.e != api.ErrShort || !a.same(o) {
		t.Error("no bytes")
	}
}

// P14.2 to P14.6: nothing is kept from call to call, also if many are asked at once.
func TestNothingKept(t *testing.T) {
	all := askedAll()
	var want []answer
	for _, c := range all {
		want = append(want, c.do())
	}
	var wait sync.WaitGroup
	for i := range 8 {
		wait.Go(func() {
			for j := range all {
				j = (j*7 + i*31) % len(all)
				if !all[j].do().same(want[j]) {
					t.Errorf("%s %d: another answer", all[j].what, j)
				}
			}
		})
	}
	wait.Wait()
}
