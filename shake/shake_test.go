package shake

import (
	"bytes"
	"encoding/hex"
	"fmt"
	"math"
	"math/rand"
	"reflect"
	"slices"
	"strings"
	"testing"

	"signet/api"
	"signet/cipher"
	"signet/ladder"
	"signet/pattern"
	"signet/symm"
)

func named(base string) string { return "Noise_" + base + "_25519_ChaChaPoly_BLAKE2s" }

// bases answers the names of the base patterns.
func bases() []string {
	return []string{"NN", "NK", "XX", "IK", "XK", "KK", "XXfallback"}
}

// names answers each base with each list of psks that it may have.
func names() []string {
	var l []string
	for _, base := range bases() {
		for set := range 32 {
			var mods []string
			for n := range 5 {
				if set>>n&1 == 1 {
					mods = append(mods, fmt.Sprint("psk", n))
				}
			}
			name := base + strings.Join(mods, "+")
			if _, e := pattern.Parse(named(name)); e == api.OK {
				l = append(l, name)
			}
		}
	}
	return l
}

func parsed(t *testing.T, name string) api.Pattern {
	t.Helper()
	p, e := pattern.Parse(named(name))
	if e != api.OK {
		t.Fatalf("%s: error %d", name, e)
	}
	return p
}

func unhex(t *testing.T, s string) []byte {
	t.Helper()
	b, err := hex.DecodeString(s)
	if err != nil {
		t.Fatalf("no bytes: %s", s)
	}
	return b
}

// rising answers so many bytes, each one more than the one ahead of it.
func rising(from byte, n int) []byte {
	b := make([]byte, n)
	for i := range b {
		b[i] = from + byte(i)
	}
	return b
}

func drawBytes(r *rand.Rand, n int) []byte {
	b := make([]byte, n)
	r.Read(b)
	return b
}

func drawKey(r *rand.Rand) api.Key { return api.Key(drawBytes(r, 32)) }

// key answers a key of this number, as no other number has it.
func key(n byte) api.Key { return api.Key(rising(n, 32)) }

func public(n byte) api.Key { return ladder.Base(key(n)) }

// psksOf answers so many psks.
func psksOf(n int) []api.Key {
	var l []api.Key
	for i := range n {
		l = append(l, key(byte(180+i)))
	}
	return l
}

// The numbers of the keys in these tests.
const (
	lastingX = 1   // of who begins
	lastingY = 40  // of the other one
	freshX   = 80  // of who begins
	freshY   = 120 // of the other one
)

// begunBy answers what the one or the other is handed who meets by this name; each
// knows of the other one what is known ahead, and no more.
func begunBy(t *testing.T, name string, first bool) begun {
	t.Helper()
	p := parsed(t, name)
	c := begun{name: named(name), first: first, prologue: []byte("ahead"), psks: psksOf(len(p.Psks))}
	others, lasting, fresh := p.Pre[0], byte(lastingX), byte(freshX)
	c.own, c.early = key(lastingY), public(freshX)
	if first {
		others, lasting, fresh = p.Pre[1], lastingY, freshY
		c.own, c.early = key(lastingX), key(freshX)
	}
	if slices.Contains(others, api.S) {
		c.their, c.knows = public(lasting), true
	}
	if slices.Contains(others, api.E) {
		c.early = public(fresh)
	}
	return c
}

func begin(t *testing.T, c begun) api.Shake {
	t.Helper()
	h, e := c.begin()
	if e != api.OK {
		t.Fatalf("%s: error %d", c.name, e)
	}
	return h
}

// sides answers both, who begins ahead.
func sides(t *testing.T, name string) [2]api.Shake {
	t.Helper()
	return [2]api.Shake{begin(t, begunBy(t, name, true)), begin(t, begunBy(t, name, false))}
}

// turner answers whose turn it is: 0, if it is that of who begins.
func turner(h api.Shake) int {
	if bookTurner(h.Pattern, h.Turn) {
		return 0
	}
	return 1
}

// secretOfTurn answers the fresh secret that whoever has the turn draws.
func secretOfTurn(who int) api.Key {
	if who == 0 {
		return key(freshX)
	}
	return key(freshY)
}

// plain answers a side whose lists without elements are nil, with memory of its own.
func plain(h api.Shake) api.Shake {
	h.Psks = append([]api.Key(nil), h.Psks...)
	h.Pattern.Psks = append([]int(nil), h.Pattern.Psks...)
	for i, l := range h.Pattern.Pre {
		h.Pattern.Pre[i] = append([]int(nil), l...)
	}
	var turns [][]int
	for _, l := range h.Pattern.Turns {
		turns = append(turns, append([]int(nil), l...))
	}
	h.Pattern.Turns = turns
	return h
}

func same(h, u api.Shake) bool { return reflect.DeepEqual(plain(h), plain(u)) }

func trySide(t *testing.T, what string, got, want api.Shake) {
	t.Helper()
	if !same(got, want) {
		t.Fatalf("%s:\n%v\nwant\n%v", what, got, want)
	}
}

// tryBegin holds Begin against the book.
func tryBegin(t *testing.T, c begun) api.Shake {
	t.Helper()
	want, f := bookBegin(c)
	h, e := c.begin()
	if e != f {
		t.Fatalf("%s, %v, knows %v, %d psks, %d bytes ahead: error %d, want %d",
			c.name, c.first, c.knows, len(c.psks), len(c.prologue), e, f)
	}
	trySide(t, c.name, h, want)
	return h
}

// tryBegun asks Begin for an error, with which the side is zero.
func tryBegun(t *testing.T, c begun, want api.Errno) {
	t.Helper()
	h, e := c.begin()
	if e != want || !same(h, api.Shake{}) {
		t.Fatalf("%q, %v, knows %v, %d psks, %d bytes ahead: error %d, want %d: %v",
			c.name, c.first, c.knows, len(c.psks), len(c.prologue), e, want, h)
	}
}

// answer is what Write and Read answer.
type answer struct {
	h api.Shake
	b []byte
	e api.Errno
}

func wrote(h api.Shake, secret api.Key, text []byte) answer {
	u, b, e := Write(h, secret, text)
	return answer{u, b, e}
}

func read(h api.Shake, b []byte) answer {
	u, text, e := Read(h, b)
	return answer{u, text, e}
}

// tryAnswer asks for a side, bytes and an error.
func tryAnswer(t *testing.T, what string, got answer, h api.Shake, b []byte, e api.Errno) {
	t.Helper()
	if got.e != e || !bytes.Equal(got.b, b) || !same(got.h, h) {
		t.Fatalf("%s: error %d, %x\n%v\nwant error %d, %x\n%v", what, got.e, got.b, got.h, e, b, h)
	}
}

// tryWrite holds Write against the book, with the error that is awaited.
func tryWrite(t *testing.T, h api.Shake, secret api.Key, text []byte) answer {
	t.Helper()
	u, b, e := bookWrite(plain(h), secret, text)
	got := wrote(h, secret, text)
	tryAnswer(t, "Write", got, u, b, e)
	return got
}

func tryRead(t *testing.T, h api.Shake, b []byte) answer {
	t.Helper()
	u, text, e := bookRead(plain(h), b)
	got := read(h, b)
	tryAnswer(t, "Read", got, u, text, e)
	return got
}

// tryStays asks for an error with which nothing changes.
func tryStays(t *testing.T, what string, h api.Shake, got answer, e api.Errno) {
	t.Helper()
	tryAnswer(t, what, got, h, nil, e)
}

// tryDies asks for an error with which the side is as it was, but dead.
func tryDies(t *testing.T, what string, h api.Shake, got answer, e api.Errno) {
	t.Helper()
	if h.Dead {
		t.Fatalf("%s: it was dead", what)
	}
	tryAnswer(t, what, got, dead(h), nil, e)
}

// step does the next turn of both, with this text.
func step(t *testing.T, both [2]api.Shake, text []byte) [2]api.Shake {
	t.Helper()
	who := turner(both[0])
	w := tryWrite(t, both[who], secretOfTurn(who), text)
	if w.e != api.OK {
		t.Fatalf("%v: Write: error %d", both[who].Pattern, w.e)
	}
	r := tryRead(t, both[1-who], w.b)
	if r.e != api.OK || !bytes.Equal(r.b, text) {
		t.Fatalf("%v: Read: %x and error %d, want %x", both[who].Pattern, r.b, r.e, text)
	}
	both[who], both[1-who] = w.h, r.h
	if both[0].Sym != both[1].Sym || both[0].Turn != both[1].Turn {
		t.Fatalf("turn %d: they do not know alike", both[0].Turn)
	}
	return both
}

// behind answers both sides behind so many turns without texts.
func behind(t *testing.T, name string, turns int) [2]api.Shake {
	t.Helper()
	both := sides(t, name)
	for range turns {
		both = step(t, both, nil)
	}
	return both
}

// told answers both sides ahead of a turn, whoever has it ahead, and its bytes.
func told(t *testing.T, name string, turn int, text []byte) (api.Shake, api.Shake, []byte) {
	t.Helper()
	both := behind(t, name, turn)
	who := turner(both[0])
	_, b, e := Write(both[who], secretOfTurn(who), text)
	if e != api.OK {
		t.Fatalf("%s, turn %d: error %d", name, turn, e)
	}
	return both[who], both[1-who], b
}

// made answers a side that has this pattern, and all keys.
func made(first bool, turns ...[]int) api.Shake {
	h := api.Shake{
		Pattern: api.Pattern{Turns: turns}, First: first, Sym: symm.Begin("made"),
		Own: key(lastingY), Fresh: key(freshY), Has: true,
		Their: public(lastingX), Knows: true, Newest: public(freshX), Saw: true,
	}
	if first {
		h.Own, h.Fresh, h.Their, h.Newest = key(lastingX), key(freshX), public(lastingY), public(freshY)
	}
	return h
}

// low answers the public keys with which all bytes come out 0, as RFC 7748 (6.1) and
// the curve tell: of few points, also written above the prime, or with the highest bit.
func low(t *testing.T) []api.Key {
	t.Helper()
	var l []api.Key
	for _, s := range []string{
		"0000000000000000000000000000000000000000000000000000000000000000",
		"0100000000000000000000000000000000000000000000000000000000000000",
		"e0eb7a7c3b41b8ae1656e3faf19fc46ada098deb9c32b1fd866205165f49b800",
		"5f9c95bca3508c24b1d0b1559c83ef5b04445cc4581c8e86d8224eddd09f1157",
		"ecffffffffffffffffffffffffffffffffffffffffffffffffffffffffffff7f",
		"edffffffffffffffffffffffffffffffffffffffffffffffffffffffffffff7f",
		"eeffffffffffffffffffffffffffffffffffffffffffffffffffffffffffff7f",
		"0000000000000000000000000000000000000000000000000000000000000080",
	} {
		l = append(l, api.Key(unhex(t, s)))
	}
	return l
}

// row is one line of vectors.
type row struct {
	name, kind string
	turns      [][]byte
	ways       [2][]byte
	sum        []byte // own ones only
}

func rows(t *testing.T, vectors string) []row {
	t.Helper()
	var l []row
	for line := range strings.Lines(strings.TrimSpace(vectors)) {
		f := strings.Fields(line)
		c := row{name: f[0], kind: f[1]}
		var all [][]byte
		for _, s := range f[2:] {
			all = append(all, unhex(t, s))
		}
		n := len(parsed(t, c.name).Turns)
		c.turns, c.ways = all[:n], [2][]byte(all[n:n+2])
		if len(all) > n+2 {
			c.sum = all[n+2]
		}
		l = append(l, c)
	}
	return l
}

// given answers what both are handed by a vector, their fresh secrets, and the texts.
func given(t *testing.T, c row) (x, y begun, fresh [2]api.Key, texts [][]byte) {
	t.Helper()
	p := parsed(t, c.name)
	x = begun{name: named(c.name), first: true}
	lasting := [2]api.Key{api.Key(rising(0, 32)), api.Key(rising(1, 32))}
	fresh = [2]api.Key{api.Key(rising(32, 32)), api.Key(rising(65, 32))}
	texts = make([][]byte, len(c.turns))
	early := api.Key{}
	switch c.kind {
	case "with":
		x.prologue = []byte("notsecret")
		for i := range texts {
			texts[i] = []byte(fmt.Sprint("test_msg_", i))
		}
	case "own":
		x.prologue, texts = rising(0, 200), [][]byte{nil, rising(1, 17), []byte("abc")}
		lasting = [2]api.Key{ownKey(1), ownKey(2)}
		fresh = [2]api.Key{ownKey(3), ownKey(4)}
		early = ownKey(5)
	}
	for i := range p.Psks {
		k := api.Key([]byte("!verysecretverysecretverysecret!"))
		for j := range k {
			if c.kind == "own" {
				k[j] = byte(100 + 7*i + 3*j)
			}
		}
		x.psks = append(x.psks, k)
	}
	y = x
	y.first = false
	x.own, y.own = lasting[0], lasting[1]
	x.early, y.early = early, ladder.Base(early)
	if len(p.Pre[1]) > 0 {
		x.their, x.knows = ladder.Base(y.own), true
	}
	if slices.Contains(p.Pre[0], api.S) {
		y.their, y.knows = ladder.Base(x.own), true
	}
	return x, y, fresh, texts
}

// ownKey answers a key of the program that made ownVectors.
func ownKey(i int) api.Key {
	var k api.Key
	for j := range k {
		k[j] = byte(17*i + j*j + i*j)
	}
	return k
}

// P11.2 to P11.6: handshakes of other programs, turn by turn, and what is sealed
// behind them, the way of who began ahead.
func TestVectors(t *testing.T) {
	n := 0
	for _, c := range append(rows(t, flynnVectors), rows(t, ownVectors)...) {
		x, y, fresh, texts := given(t, c)
		both := [2]api.Shake{begin(t, x), begin(t, y)}
		for i, want := range c.turns {
			who := turner(both[0])
			u, b, e := Write(both[who], fresh[who], texts[i])
			if e != api.OK || !bytes.Equal(b, want) {
				t.Fatalf("%s %s, turn %d: error %d, %x, want %x", c.name, c.kind, i, e, b, want)
			}
			v, text, e := Read(both[1-who], want)
			if e != api.OK || !bytes.Equal(text, texts[i]) || v.Sym != u.Sym {
				t.Fatalf("%s %s, turn %d: error %d, %x, want %x", c.name, c.kind, i, e, text, texts[i])
			}
			both[who], both[1-who] = u, v
		}
		for _, h := range both {
			tryWays(t, c, h)
		}
		n++
	}
	if n != 52+18 {
		t.Errorf("%d vectors", n)
	}
}

func tryWays(t *testing.T, c row, h api.Shake) {
	t.Helper()
	if c.sum != nil && !bytes.Equal(h.Sym.Hash[:], c.sum) {
		t.Errorf("%s: Hash %x, want %x", c.name, h.Sym.Hash, c.sum)
	}
	ways, e := Split(h)
	if e != api.OK {
		t.Fatalf("%s: Split: error %d", c.name, e)
	}
	for i, text := range []string{"yellowsubmarine", "submarineyellow"} {
		_, b, e := cipher.Seal(ways[i], nil, []byte(text))
		if e != api.OK || !bytes.Equal(b, c.ways[i]) {
			t.Errorf("%s %s, way %d: error %d, %x, want %x", c.name, c.kind, i, e, b, c.ways[i])
		}
	}
}

// mixedAhead answers what is known when these bytes were mixed in as P9.3 says.
func mixedAhead(name string, l ...[]byte) api.Sym {
	s := symm.Begin(named(name))
	for _, b := range l {
		s = symm.Hash(s, b)
	}
	return s
}

func slice(k api.Key) []byte { return k[:] }

// P11.1, P11.2: sides that are begun, written out: what they know, and nothing else.
func TestBeginWritten(t *testing.T) {
	pro, own, their, early := []byte("ahead"), key(1), public(2), key(3)
	for _, c := range []struct {
		name  string
		first bool
		knows bool
		want  api.Shake
	}{
		{"NN", true, false, api.Shake{First: true, Sym: mixedAhead("NN", pro)}},
		{"NN", false, false, api.Shake{Sym: mixedAhead("NN", pro)}},
		{"XX", true, true, api.Shake{First: true, Sym: mixedAhead("XX", pro)}},
		{"IK", true, true, api.Shake{First: true, Sym: mixedAhead("IK", pro, their[:])}},
		{"IK", false, false, api.Shake{Sym: mixedAhead("IK", pro, slice(ladder.Base(own)))}},
		{"IK", false, true, api.Shake{Sym: mixedAhead("IK", pro, slice(ladder.Base(own)))}},
		{"KK", true, true, api.Shake{First: true, Sym: mixedAhead("KK", pro, slice(ladder.Base(own)), their[:])}},
		{"KK", false, true, api.Shake{Sym: mixedAhead("KK", pro, their[:], slice(ladder.Base(own)))}},
		{"XXfallback", true, false, api.Shake{First: true, Fresh: early, Has: true,
			Sym: mixedAhead("XXfallback", pro, slice(ladder.Base(early)))}},
		{"XXfallback", false, true, api.Shake{Newest: early, Saw: true, Sym: mixedAhead("XXfallback", pro, early[:])}},
	} {
		c.want.Pattern, c.want.Own = parsed(t, c.name), own
		in := begun{name: named(c.name), first: c.first, prologue: pro, own: own, knows: c.knows, early: early}
		if c.knows {
			in.their, c.want.Their, c.want.Knows = their, their, true
		}
		trySide(t, c.name, begin(t, in), c.want)
	}
}

// P11.2: an E that is known ahead is mixed in twice where there are psks.
func TestBeginEarlyPsk(t *testing.T) {
	early, psks := key(3), psksOf(2)
	for _, first := range []bool{true, false} {
		k := early
		if first {
			k = ladder.Base(early)
		}
		want := api.Shake{Pattern: parsed(t, "XXfallbackpsk0+psk2"), First: first, Own: key(1), Psks: psks}
		want.Sym = symm.Key(mixedAhead("XXfallbackpsk0+psk2", nil, k[:]), k[:])
		if first {
			want.Fresh, want.Has = early, true
		} else {
			want.Newest, want.Saw = early, true
		}
		in := begun{name: named("XXfallbackpsk0+psk2"), first: first, own: key(1), early: early, psks: psks}
		trySide(t, "XXfallback with psks", begin(t, in), want)
	}
}

// P11.2: every base with every list of psks, by the book: of who begins and of the
// other one, with their key and without, a prologue of none, of some, of MaxAd bytes.
func TestBegin(t *testing.T) {
	r := rand.New(rand.NewSource(1))
	for _, name := range names() {
		for _, first := range []bool{true, false} {
			for _, knows := range []bool{true, false} {
				c := begun{name: named(name), first: first, own: drawKey(r), knows: knows, early: drawKey(r)}
				if knows {
					c.their = drawKey(r)
				}
				for range parsed(t, name).Psks {
					c.psks = append(c.psks, drawKey(r))
				}
				c.prologue = drawBytes(r, []int{0, 1, 33, mostAd}[r.Intn(4)])
				tryBegin(t, c)
			}
		}
	}
}

// P11.2: keys at the edges: all noughts, their key too, if it is known; low points.
func TestBeginEdges(t *testing.T) {
	keys := append(low(t), api.Key(bytes.Repeat([]byte{255}, 32)), key(9))
	for _, name := range []string{"NN", "XX", "IK", "KK", "XXfallback", "XXfallbackpsk1"} {
		for _, k := range keys {
			for _, first := range []bool{true, false} {
				c := begun{name: named(name), first: first, own: k, their: k, knows: true, early: k}
				for range parsed(t, name).Psks {
					c.psks = append(c.psks, k)
				}
				if _, e := c.begin(); e != api.OK {
					t.Fatalf("%s with %x: error %d", name, k, e)
				}
				tryBegin(t, c)
			}
		}
	}
}

// P11.2: the prologue counts, also its end; nil and none are the same.
func TestPrologue(t *testing.T) {
	c := begun{name: named("XX")}
	seen := map[api.Key]int{}
	for n := range mostAd + 1 {
		c.prologue = make([]byte, n)
		h := tryBegin(t, c)
		if was, ok := seen[h.Sym.Hash]; ok {
			t.Errorf("%d noughts: the same as %d", n, was)
		}
		seen[h.Sym.Hash] = n
	}
	c.prologue = nil
	without := begin(t, c)
	c.prologue = []byte{}
	trySide(t, "no prologue", begin(t, c), without)
	for _, n := range []int{mostAd + 1, mostAd + 2, 1000, 1 << 16} {
		c.prologue = make([]byte, n)
		tryBegun(t, c, api.ErrSize)
	}
}

// P11.2: what Parse refuses, with the error that it tells, is told ahead of all else.
func TestBeginNames(t *testing.T) {
	for _, c := range []struct {
		name string
		want api.Errno
	}{
		{"", api.ErrForm}, {"XX", api.ErrForm}, {"noise_XX_25519_ChaChaPoly_BLAKE2s", api.ErrForm},
		{"Noise_XX_25519_ChaChaPoly_BLAKE2b", api.ErrForm}, {"Noise_XX_25519_AESGCM_BLAKE2s", api.ErrForm},
		{named("XX") + " ", api.ErrForm}, {" " + named("XX"), api.ErrForm},
		{named("XXpsk"), api.ErrForm}, {named("XXpsk0psk1"), api.ErrForm}, {named("XXpsk00"), api.ErrForm},
		{named(""), api.ErrNone}, {named("YY"), api.ErrNone}, {named("xx"), api.ErrNone}, {named("IX"), api.ErrNone},
		{named("XXpsk0+psk1+psk2+psk3+psk3"), api.ErrSize}, {named("XXpsk4"), api.ErrRange},
		{named("NNpsk3"), api.ErrRange}, {named("XXpsk1+psk0"), api.ErrForm}, {named("XXpsk1+psk1"), api.ErrForm},
	} {
		if _, e := pattern.Parse(c.name); e != c.want {
			t.Fatalf("Parse(%q): error %d, want %d", c.name, e, c.want)
		}
		for _, first := range []bool{true, false} {
			tryBegun(t, begun{name: c.name, first: first}, c.want)
			bad := begun{name: c.name, first: first, prologue: make([]byte, 201), their: key(1), psks: psksOf(5)}
			tryBegun(t, bad, c.want)
		}
	}
}

// P11.2: too few psks and too many, none and those of a pattern without any.
func TestBeginPsks(t *testing.T) {
	for _, name := range names() {
		n := len(parsed(t, name).Psks)
		for _, first := range []bool{true, false} {
			c := begunBy(t, name, first)
			for m := range 7 {
				c.psks = psksOf(m)
				if m != n {
					tryBegun(t, c, api.ErrSize)
				}
			}
		}
	}
}

// P11.2: a Their that is not known must be all 0, each byte of it.
func TestBeginTheir(t *testing.T) {
	for _, name := range bases() {
		for _, first := range []bool{true, false} {
			c := begunBy(t, name, first)
			c.knows = false
			for i := range 32 {
				for _, x := range []byte{1, 128, 255} {
					c.their = api.Key{}
					c.their[i] = x
					tryBegun(t, c, api.ErrForm)
				}
			}
		}
	}
}

// P11.2: whoever has to mix in an S of the other one must know it; who mixes in
// the own one needn't.
func TestBeginKnows(t *testing.T) {
	for _, c := range []struct {
		name  string
		first bool
		want  api.Errno
	}{
		{"NN", true, api.OK}, {"NN", false, api.OK}, {"XX", true, api.OK}, {"XX", false, api.OK},
		{"NK", true, api.ErrNone}, {"NK", false, api.OK}, {"IK", true, api.ErrNone}, {"IK", false, api.OK},
		{"XK", true, api.ErrNone}, {"XK", false, api.OK}, {"KK", true, api.ErrNone}, {"KK", false, api.ErrNone},
		{"XXfallback", true, api.OK}, {"XXfallback", false, api.OK},
	} {
		in := begun{name: named(c.name), first: c.first, own: key(1), early: key(2)}
		if c.want != api.OK {
			tryBegun(t, in, c.want)
		}
		tryBegin(t, in)
		in.knows = true
		begin(t, in)
	}
}

// P11.2: where several errors hold the first one is told: Parse's, then ErrSize (of
// the prologue and of the psks alike), then ErrForm, then ErrNone.
func TestBeginOrder(t *testing.T) {
	for set := range 16 {
		c := begunBy(t, "IKpsk1", true)
		c.their, c.knows = api.Key{}, false
		want := api.ErrNone
		if set&1 != 0 {
			c.their, want = key(1), api.ErrForm
		}
		if set&2 != 0 {
			c.psks, want = nil, api.ErrSize
		}
		if set&4 != 0 {
			c.prologue, want = make([]byte, mostAd+1), api.ErrSize
		}
		if set&8 != 0 {
			c.name, want = named("IKpsk3"), api.ErrRange
		}
		tryBegun(t, c, want)
	}
}

// P11.3: a side is done when its Turn is not below the number of turns, and it lives.
func TestDone(t *testing.T) {
	for _, c := range []struct {
		turns, turn int
		want        bool
	}{
		{0, 0, true}, {0, 1, true}, {0, -1, false}, {1, 0, false}, {1, 1, true}, {1, 2, true},
		{3, 0, false}, {3, 1, false}, {3, 2, false}, {3, 3, true}, {3, 4, true}, {3, math.MaxInt, true},
		{3, -1, false}, {3, math.MinInt, false}, {0, math.MinInt, false}, {9, 8, false}, {9, 9, true},
	} {
		h := api.Shake{Pattern: api.Pattern{Turns: make([][]int, c.turns)}, Turn: c.turn}
		if Done(h) != c.want || Done(dead(h)) {
			t.Errorf("turn %d of %d: %v, and dead %v", c.turn, c.turns, Done(h), Done(dead(h)))
		}
	}
	if !Done(api.Shake{}) || Done(api.Shake{Dead: true}) {
		t.Errorf("of no turns: %v, dead %v", Done(api.Shake{}), Done(api.Shake{Dead: true}))
	}
}

// P11.3: behind each turn but the last one a side is not done.
func TestDoneInTurn(t *testing.T) {
	for _, name := range bases() {
		both := sides(t, name)
		for turn := range len(both[0].Pattern.Turns) {
			if Done(both[0]) || Done(both[1]) {
				t.Errorf("%s: done ahead of turn %d", name, turn)
			}
			both = step(t, both, nil)
		}
		if !Done(both[0]) || !Done(both[1]) {
			t.Errorf("%s: not done", name)
		}
	}
}

// P11.1, P11.4, P11.5: each base with each list of psks, with texts and without: in
// each turn both go on by the book, and at its end know alike.
func TestMeet(t *testing.T) {
	r := rand.New(rand.NewSource(2))
	for i, name := range names() {
		both := sides(t, name)
		for turn := range both[0].Pattern.Turns {
			if both[0].Turn != turn || both[1].Turn != turn {
				t.Fatalf("%s: turn %d, %d, want %d", name, both[0].Turn, both[1].Turn, turn)
			}
			both = step(t, both, drawBytes(r, []int{0, 1, 16, 40, 399, mostText}[(i+turn)%6]))
		}
		tryMet(t, name, both)
	}
}

// tryMet asks two who have met what they know of each other.
func tryMet(t *testing.T, name string, both [2]api.Shake) {
	t.Helper()
	ways := [2][2]api.Cipher{}
	for i, h := range both {
		other := both[1-i]
		if h.First != (i == 0) || h.Used != len(h.Psks) || h.Dead || !Done(h) {
			t.Fatalf("%s: %v", name, h)
		}
		if !h.Has || !h.Saw || h.Newest != ladder.Base(other.Fresh) || h.Fresh != secretOfTurn(i) {
			t.Fatalf("%s: %d does not know what is fresh: %v", name, i, h)
		}
		if knows := tells(h.Pattern, 1-i); h.Knows != knows || knows && h.Their != ladder.Base(other.Own) {
			t.Fatalf("%s: %d knows %v: %v", name, i, h.Knows, h)
		}
		w, e := Split(h)
		if e != api.OK {
			t.Fatalf("%s: Split: error %d", name, e)
		}
		ways[i] = w
	}
	if both[0].Sym != both[1].Sym || ways[0] != ways[1] || ways[0][0] == ways[0][1] {
		t.Fatalf("%s: they do not know alike", name)
	}
	tryTalk(t, ways)
}

// tells asks whether the one (0: who begins) or the other tells an S.
func tells(p api.Pattern, who int) bool {
	if slices.Contains(p.Pre[who], api.S) {
		return true
	}
	for i, l := range p.Turns {
		if bookTurner(p, i) == (who == 0) && slices.Contains(l, api.S) {
			return true
		}
	}
	return false
}

// tryTalk seals by the one's ciphers and opens by the other one's, both ways.
func tryTalk(t *testing.T, ways [2][2]api.Cipher) {
	t.Helper()
	for way := range 2 {
		x, y := ways[way][way], ways[1-way][way]
		for n := range 3 {
			text := rising(byte(n), 20*n)
			next, b, e := cipher.Seal(x, nil, text)
			then, got, f := cipher.Open(y, nil, b)
			if e != api.OK || f != api.OK || !bytes.Equal(got, text) {
				t.Fatalf("way %d, text %d: %x, error %d and %d", way, n, got, e, f)
			}
			x, y = next, then
		}
		_, b, _ := cipher.Seal(ways[0][way], nil, []byte("abc"))
		if _, _, e := cipher.Open(ways[0][1-way], nil, b); e != api.ErrAuth {
			t.Fatalf("way %d is open by the other one's cipher: error %d", way, e)
		}
	}
}

// P11.4, P11.5: S is told as it is while the cipher has no key, and locked then; E
// is always told as it is, the text as S is.
func TestToldS(t *testing.T) {
	text := []byte("a text")
	for _, c := range []struct {
		turns [][]int
		turn  int
		key   bool
		want  int  // bytes beside the text
		open  bool // the S is told as it is
	}{
		{[][]int{{api.S}}, 0, false, 32, true},
		{[][]int{{api.S, api.E}}, 0, false, 64, true},
		{[][]int{{api.E, api.S}, {api.E, api.EE, api.SE}}, 0, false, 64, true},
		{[][]int{{}}, 0, false, 0, false},
		{[][]int{{api.S}}, 0, true, 48 + 16, false},
		{[][]int{{api.E, api.S}}, 0, true, 32 + 48 + 16, false},
		{[][]int{{}}, 0, true, 16, false},
		{[][]int{{api.E}, {api.E, api.EE, api.S}}, 1, false, 32 + 48 + 16, false},
		{[][]int{{api.E}, {api.E, api.S, api.EE}}, 1, false, 64 + 16, true},
	} {
		x, y := made(c.turn == 0, c.turns...), made(c.turn != 0, c.turns...)
		if c.key {
			x.Sym = symm.Key(x.Sym, []byte("a key"))
			y.Sym = symm.Key(y.Sym, []byte("a key"))
		}
		x.Turn, y.Turn, y.Their, y.Knows = c.turn, c.turn, api.Key{}, false
		w := tryWrite(t, x, secretOfTurn(c.turn), text)
		lasting := ladder.Base(x.Own)
		if w.e != api.OK || len(w.b) != c.want+len(text) || bytes.Contains(w.b, lasting[:]) != c.open {
			t.Fatalf("%v, key %v: %x, error %d", c.turns, c.key, w.b, w.e)
		}
		r := tryRead(t, y, w.b)
		knows := slices.Contains(c.turns[c.turn], api.S)
		if r.e != api.OK || !bytes.Equal(r.b, text) || r.h.Knows != knows || knows && r.h.Their != lasting {
			t.Fatalf("%v, key %v: error %d, %v", c.turns, c.key, r.e, r.h)
		}
	}
}

// P11.4: the bytes of a first turn, written out: E in the open, mixed in once, or
// twice where there are psks; then the psk; then the text.
func TestWriteWritten(t *testing.T) {
	secret, text := key(freshX), []byte("abc")
	k := ladder.Base(secret)
	h := sides(t, "NN")[0]
	w := tryWrite(t, h, secret, text)
	want := h
	want.Fresh, want.Has, want.Turn = secret, true, 1
	want.Sym = symm.Hash(symm.Hash(h.Sym, k[:]), text)
	tryAnswer(t, "NN", w, want, append(k[:], text...), api.OK)

	h = sides(t, "NNpsk0")[0]
	w = tryWrite(t, h, secret, text)
	want = h
	want.Fresh, want.Has, want.Turn, want.Used = secret, true, 1, 1
	s := symm.Key(symm.Hash(symm.Both(h.Sym, slice(psksOf(1)[0])), k[:]), k[:])
	s, sealed, _ := symm.Seal(s, text)
	want.Sym = s
	tryAnswer(t, "NNpsk0", w, want, append(slice(k), sealed...), api.OK)
}

// P11.4, P11.5: psks are mixed in in their order, each one once: who has another one
// at one place does not open what was sealed behind it.
func TestPsksInOrder(t *testing.T) {
	name := "XXpsk0+psk1+psk2+psk3"
	both := sides(t, name)
	for turn, used := range []int{2, 3, 4} {
		both = step(t, both, nil)
		if both[0].Used != used || both[1].Used != used {
			t.Errorf("behind turn %d: %d and %d psks", turn, both[0].Used, both[1].Used)
		}
	}
	for i, turn := range []int{0, 0, 1, 2} {
		_, y, b := told(t, name, turn, nil)
		y.Psks[i][31] ^= 1
		tryDies(t, "another psk", y, tryRead(t, y, b), api.ErrAuth)
	}
	for _, turn := range []int{0, 1} {
		_, y, b := told(t, name, turn, nil)
		y.Psks[3][0] ^= 1
		if r := tryRead(t, y, b); r.e != api.OK {
			t.Errorf("turn %d: error %d by a psk that comes later", turn, r.e)
		}
	}
}

// needs are what a token asks of a side: its fresh secret, the other one's fresh
// public key, the other one's lasting one.
type needs struct{ has, saw, knows bool }

func needsOf(token int, first bool) needs {
	switch {
	case token == api.EE:
		return needs{has: true, saw: true}
	case token == api.SS:
		return needs{knows: true}
	case (token == api.ES) == first:
		return needs{has: true, knows: true}
	}
	return needs{saw: true}
}

func (n needs) and(m needs) needs {
	return needs{n.has || m.has, n.saw || m.saw, n.knows || m.knows}
}

func (n needs) of(h api.Shake) bool {
	return (h.Has || !n.has) && (h.Saw || !n.saw) && (h.Knows || !n.knows)
}

// mixing answers a side at a turn that mixes by a token ahead of all else, and what
// that turn asks of it; the turn is that of who begins, or of the other one.
func mixing(t *testing.T, token int, first, ofFirst bool) (api.Shake, needs) {
	t.Helper()
	h := made(first, []int{api.E}, []int{api.E}, []int{token})
	n := needsOf(token, first)
	if token != api.EE {
		h.Pattern.Turns[1] = []int{api.E, api.EE}
		h.Pattern.Pre = [2][]int{{api.S}, {api.S}}
	}
	if token == api.SS {
		// Whoever mixes both lasting keys must mix in a fresh one of its own, too.
		more := api.SE
		if ofFirst {
			more = api.ES
		}
		h.Pattern.Turns[2] = append(h.Pattern.Turns[2], more)
		n = n.and(needsOf(more, first))
	}
	h.Turn = 2
	if !ofFirst {
		h.Turn = 3
		h.Pattern.Turns = slices.Insert(h.Pattern.Turns, 2, []int{})
	}
	if e := pattern.Check(h.Pattern); e != api.OK {
		t.Fatalf("%v may not be: error %d", h.Pattern, e)
	}
	return h, n
}

// eachMixing does something with each token that mixes two keys, at the turn of who
// begins and of the other one, by who begins and by the other one.
func eachMixing(t *testing.T, do func(what string, token int, h api.Shake, n needs)) {
	t.Helper()
	for _, token := range []int{api.EE, api.ES, api.SE, api.SS} {
		for _, first := range []bool{true, false} {
			for _, ofFirst := range []bool{true, false} {
				h, n := mixing(t, token, first, ofFirst)
				do(fmt.Sprintf("token %d, first %v, turn %d", token, first, h.Turn), token, h, n)
			}
		}
	}
}

// turned does the next turn of a side, its own or the other one's, with this text.
func turned(t *testing.T, h api.Shake, text []byte) answer {
	t.Helper()
	if bookTurner(h.Pattern, h.Turn) == h.First {
		return tryWrite(t, h, key(200), text)
	}
	return tryRead(t, h, forged(h, public(210), public(220), text))
}

// P11.4, P11.5: what mixes two keys asks for these two, and for nothing else; that
// they are there the flags tell, not the keys.
func TestNeeds(t *testing.T) {
	eachMixing(t, func(what string, token int, h api.Shake, n needs) {
		for set := range 8 {
			h.Has, h.Saw, h.Knows = set&1 != 0, set&2 != 0, set&4 != 0
			got := turned(t, h, []byte("abc"))
			if n.of(h) {
				if got.e != api.OK || got.h.Turn != h.Turn+1 {
					t.Errorf("%s, set %d: error %d", what, set, got.e)
				}
				continue
			}
			tryDies(t, what, h, got, api.ErrNone)
		}
	})
}

// P11.4, P11.5: the secrets and the keys that are mixed, of both sides: both come to
// the same, and each other key changes nothing.
func TestMixedKeys(t *testing.T) {
	for _, token := range []int{api.EE, api.ES, api.SE} {
		x, _ := mixing(t, token, true, true)
		y, _ := mixing(t, token, false, true)
		w := tryWrite(t, x, key(200), []byte("abc"))
		r := tryRead(t, y, w.b)
		if w.e != api.OK || r.e != api.OK || w.h.Sym != r.h.Sym {
			t.Fatalf("token %d: error %d, %d", token, w.e, r.e)
		}
		// Who begins: its fresh or its lasting secret, the other one's fresh or lasting key.
		for i, k := range []*api.Key{&x.Fresh, &x.Own, &x.Newest, &x.Their} {
			was := *k
			k[5] ^= 1
			used := [][]int{{0, 2}, {0, 3}, {1, 2}}[token-api.EE]
			changed := wrote(x, key(200), []byte("abc")).h.Sym != w.h.Sym
			if changed != slices.Contains(used, i) {
				t.Errorf("token %d, key %d: changed %v", token, i, changed)
			}
			*k = was
		}
	}
}

// P11.4, P11.5: a key with which all bytes come out 0 ends all, if it is used.
func TestZero(t *testing.T) {
	for _, k := range low(t) {
		eachMixing(t, func(what string, token int, h api.Shake, n needs) {
			u := h
			u.Newest, u.Saw = k, true
			if got := turned(t, u, nil); n.saw {
				tryDies(t, what, u, got, api.ErrZero)
			} else if got.e != api.OK {
				t.Errorf("%s: error %d by a key that isn't used", what, got.e)
			}
			u = h
			u.Their, u.Knows = k, true
			if got := turned(t, u, nil); n.knows {
				tryDies(t, what, u, got, api.ErrZero)
			} else if got.e != api.OK {
				t.Errorf("%s: error %d by a key that isn't used", what, got.e)
			}
		})
	}
}

// P11.5: a key that comes over the wire ends all, too, when it is mixed, not sooner.
func TestZeroRead(t *testing.T) {
	for _, k := range low(t) {
		y := sides(t, "NN")[1]
		r := tryRead(t, y, k[:])
		if r.e != api.OK || r.h.Newest != k || !r.h.Saw {
			t.Fatalf("NN with %x: error %d", k, r.e)
		}
		tryDies(t, "NN", r.h, tryWrite(t, r.h, key(1), nil), api.ErrZero)
		y = sides(t, "IK")[1]
		tryDies(t, "IK", y, tryRead(t, y, append(slice(k), make([]byte, 64)...)), api.ErrZero)
		tryDies(t, "IK, cut", y, tryRead(t, y, k[:]), api.ErrZero)
	}
}

// P11.2, P11.4: secrets are taken as they are, noughts too.
func TestSecretEdges(t *testing.T) {
	for _, k := range []api.Key{{}, {1}, {7}, {31: 128}, api.Key(bytes.Repeat([]byte{255}, 32))} {
		c := begunBy(t, "XX", true)
		c.own = k
		both := [2]api.Shake{begin(t, c), sides(t, "XX")[1]}
		for range 3 {
			who := turner(both[0])
			w := tryWrite(t, both[who], k, nil)
			r := tryRead(t, both[1-who], w.b)
			if w.e != api.OK || r.e != api.OK || w.h.Sym != r.h.Sym || w.h.Fresh != both[who].Fresh && w.h.Fresh != k {
				t.Fatalf("secret %x: error %d, %d", k, w.e, r.e)
			}
			both[who], both[1-who] = w.h, r.h
		}
		if both[0].Own != k || both[0].Fresh != k || both[1].Fresh != k {
			t.Errorf("secret %x: %v", k, both)
		}
	}
}

// P11.4, P11.5: a psk that is wanting, of none and behind the last one.
func TestPskWanting(t *testing.T) {
	for _, name := range []string{"NNpsk0", "NNpsk2", "XXpsk3", "IKpsk1", "KKpsk0+psk2", "XXfallbackpsk1"} {
		n := len(parsed(t, name).Turns)
		for turn := range n {
			x, y, b := told(t, name, turn, nil)
			mixes := slices.Contains(x.Pattern.Turns[turn], api.Psk)
			for _, used := range []int{len(x.Psks), len(x.Psks) + 1, 1 << 40, math.MaxInt} {
				x.Used, y.Used = used, used
				w, r := tryWrite(t, x, secretOfTurn(turner(x)), nil), tryRead(t, y, b)
				if !mixes {
					if w.e != api.OK || r.e != api.OK || w.h.Used != used {
						t.Fatalf("%s, turn %d, %d used: error %d, %d", name, turn, used, w.e, r.e)
					}
					continue
				}
				tryDies(t, name, x, w, api.ErrNone)
				tryDies(t, name, y, r, api.ErrNone)
			}
		}
	}
	x, y := sides(t, "NNpsk0")[0], sides(t, "NNpsk0")[1]
	for _, l := range [][]api.Key{nil, {}} {
		x.Psks, y.Psks = l, l
		tryDies(t, "no psk", x, tryWrite(t, x, key(1), nil), api.ErrNone)
		tryDies(t, "no psk", y, tryRead(t, y, nil), api.ErrNone)
	}
}

// P11.4, P11.5: psks that the pattern has no token for: the side has some, so that E
// is mixed in twice; none of them is used.
func TestPsksWithoutToken(t *testing.T) {
	x, y := made(true, []int{api.E}), made(false, []int{api.E})
	x.Psks, y.Psks = psksOf(3), psksOf(3)
	w := tryWrite(t, x, key(1), []byte("abc"))
	r := tryRead(t, y, w.b)
	if w.e != api.OK || r.e != api.OK || len(w.b) != 32+3+16 || w.h.Used != 0 || w.h.Sym != r.h.Sym {
		t.Errorf("error %d, %d: %d bytes, %v", w.e, r.e, len(w.b), w.h)
	}
}

// mayNot answers sides by which nothing may be done, of one that has its own turn,
// or hears the other one's.
func mayNot(h api.Shake) []api.Shake {
	l := []api.Shake{dead(h)}
	for _, turn := range []int{-1, -2, math.MinInt, len(h.Pattern.Turns), 1 << 40, math.MaxInt, h.Turn + 1, h.Turn - 1} {
		u := h
		u.Turn = turn
		l = append(l, u)
	}
	for _, used := range []int{-1, -2, math.MinInt} {
		u := h
		u.Used = used
		l = append(l, u)
	}
	u := h
	u.First = !h.First
	l = append(l, u)
	u = h
	u.Pattern.Late = !h.Pattern.Late
	return append(l, u)
}

// mayNotBe answers patterns that may not be, in which so many turns are there, the
// tokens of the next one are good, and only another one's aren't.
func mayNotBe(t *testing.T) []api.Pattern {
	t.Helper()
	var l []api.Pattern
	for _, turns := range [][][]int{
		{{api.E}, {api.E, api.E}}, {{api.E}, {0}}, {{api.E}, {8}}, {{api.E}, {-1}}, {{api.E}, {math.MaxInt}},
		{{api.E}, {api.EE}}, {{api.E}, {api.E, api.EE, api.EE}}, {{api.E}, {api.Psk}}, {{api.E}, {api.SS}},
		{{api.E}, {}, {}, {}, {}, {}}, {{api.E}, {7, 7, 7, 7, 7, 7, 7}},
	} {
		l = append(l, api.Pattern{Turns: turns})
	}
	for _, pre := range [][2][]int{{{api.EE}, nil}, {nil, {api.S, api.S}}, {{api.E}, nil}, {{0}, nil}, {nil, make([]int, 7)}} {
		l = append(l, api.Pattern{Pre: pre, Turns: [][]int{{api.E}}})
	}
	for _, p := range l {
		if pattern.Check(p) == api.OK {
			t.Fatalf("%v may be", p)
		}
	}
	return l
}

// P11.4, P11.5: what may not be done changes nothing, whatever the text and the bytes
// are, too long ones too.
func TestState(t *testing.T) {
	for _, c := range []struct {
		name string
		turn int
	}{{"NN", 0}, {"XX", 0}, {"XX", 1}, {"XX", 2}, {"IKpsk1", 1}, {"XXfallback", 0}, {"XXfallbackpsk0", 1}} {
		x, y, b := told(t, c.name, c.turn, nil)
		for _, u := range mayNot(x) {
			tryMayNot(t, u, nil)
		}
		for _, u := range mayNot(y) {
			// One turn on or back it is its own: it writes, but hears nothing.
			tryStays(t, "Read", u, tryRead(t, u, b), api.ErrState)
			tryStays(t, "Read", u, tryRead(t, u, make([]byte, mostMessage+1)), api.ErrState)
		}
		tryStays(t, "Write, not its own", y, tryWrite(t, y, key(1), nil), api.ErrState)
		tryStays(t, "Read, its own", x, tryRead(t, x, b), api.ErrState)
	}
}

func tryMayNot(t *testing.T, u api.Shake, text []byte) {
	t.Helper()
	tryStays(t, "Write", u, tryWrite(t, u, key(1), text), api.ErrState)
	tryStays(t, "Write", u, tryWrite(t, u, key(1), make([]byte, mostText+1)), api.ErrState)
}

// P11.4, P11.5: so it is with patterns that may not be, wherever the fault is; what
// is done is not asked of Base and Psks.
func TestStatePattern(t *testing.T) {
	for _, p := range mayNotBe(t) {
		x, y := made(true), made(false)
		x.Pattern, y.Pattern = p, p
		tryMayNot(t, x, nil)
		tryStays(t, "Read", y, tryRead(t, y, slice(public(1))), api.ErrState)
		tryStays(t, "Read", y, tryRead(t, y, make([]byte, mostMessage+1)), api.ErrState)
	}
	x := made(true, []int{api.E})
	x.Pattern.Base, x.Pattern.Psks = "no base", []int{9, 9, -1, 4, 3, 2}
	if w := tryWrite(t, x, key(1), nil); w.e != api.OK || w.h.Pattern.Base != "no base" || len(w.h.Pattern.Psks) != 6 {
		t.Errorf("another Base: error %d", w.e)
	}
	for _, h := range []api.Shake{{}, {First: true}, {Dead: true}, {Turn: -1}} {
		tryMayNot(t, h, nil)
		tryStays(t, "Read", h, tryRead(t, h, nil), api.ErrState)
	}
}

// P11.4, P11.5: behind the last turn nothing more is done.
func TestStateOver(t *testing.T) {
	for _, name := range bases() {
		for _, h := range behind(t, name, len(parsed(t, name).Turns)) {
			tryMayNot(t, h, nil)
			tryStays(t, "Read", h, tryRead(t, h, make([]byte, 48)), api.ErrState)
		}
	}
}

// P11.4: a text of MaxText bytes, and of more: then nothing changes.
func TestTextSize(t *testing.T) {
	for _, name := range []string{"NN", "XX", "XXpsk0+psk1+psk2+psk3", "IK", "KK", "XXfallbackpsk2"} {
		for turn := range parsed(t, name).Turns {
			x, y, b := told(t, name, turn, make([]byte, mostText))
			if r := tryRead(t, y, b); r.e != api.OK || len(r.b) != mostText {
				t.Errorf("%s, turn %d: %d bytes, error %d", name, turn, len(r.b), r.e)
			}
			for _, n := range []int{mostText + 1, mostText + 2, 500, mostMessage, 1 << 16} {
				tryStays(t, name, x, tryWrite(t, x, secretOfTurn(turner(x)), make([]byte, n)), api.ErrSize)
			}
		}
	}
}

// P11.4: too long a text is told ahead of what else would end all.
func TestTextSizeOrder(t *testing.T) {
	x := sides(t, "NNpsk0")[0]
	x.Psks = nil
	tryStays(t, "no psk", x, tryWrite(t, x, key(1), make([]byte, mostText+1)), api.ErrSize)
	x.Sym.Cipher.N = 1
	tryStays(t, "no cipher", x, tryWrite(t, x, key(1), make([]byte, mostText+1)), api.ErrSize)
}

// P11.5: MaxMessage bytes, which tell a longer text than Write takes, and more:
// then nothing changes.
func TestMessageSize(t *testing.T) {
	for _, c := range []struct {
		name          string
		turn, besides int
	}{{"NN", 0, 32}, {"NN", 1, 48}, {"XX", 1, 96}, {"XX", 2, 64}, {"IK", 0, 96}, {"XXpsk0", 0, 48}, {"XXfallback", 0, 96}} {
		_, y, _ := told(t, c.name, c.turn, nil)
		text := rising(1, mostMessage-c.besides)
		b := forged(y, public(1), public(2), text)
		if r := tryRead(t, y, b); len(b) != mostMessage || r.e != api.OK || !bytes.Equal(r.b, text) {
			t.Errorf("%s, turn %d: %d bytes, error %d", c.name, c.turn, len(b), r.e)
		}
		for _, more := range []int{1, 2, 100, 1 << 16} {
			tryStays(t, c.name, y, tryRead(t, y, append(bytes.Clone(b), make([]byte, more)...)), api.ErrSize)
		}
	}
}

// P11.5: bytes that end within an E, within an S, ahead of a tag, at every length.
func TestShort(t *testing.T) {
	text := []byte("abc")
	for _, name := range []string{"NN", "XX", "IK", "KK", "NNpsk0", "XXpsk0+psk3", "XXfallback"} {
		for turn := range parsed(t, name).Turns {
			_, y, b := told(t, name, turn, text)
			tokens := y.Pattern.Turns[turn]
			locks := !slices.Equal(tokens, []int{api.E}) || len(y.Psks) > 0
			for n := range len(b) {
				r := tryRead(t, y, b[:n])
				want := shortOf(y, tokens, n, len(b))
				if !locks && n >= 32 {
					want = api.OK
				}
				if r.e != want {
					t.Fatalf("%s, turn %d, %d of %d bytes: error %d, want %d", name, turn, n, len(b), r.e, want)
				}
				if want != api.OK {
					tryDies(t, name, y, r, want)
				}
			}
		}
	}
}

// shortOf answers what becomes of the first n bytes of a turn that is locked: either
// they end too early, or what is left is not what was sealed.
func shortOf(y api.Shake, tokens []int, n, all int) api.Errno {
	if slices.Contains(tokens, api.E) {
		if n < 32 {
			return api.ErrShort
		}
		n -= 32
	}
	if slices.Contains(tokens, api.S) {
		if n < 48 {
			return api.ErrShort
		}
		n -= 48
	}
	if n < 16 {
		return api.ErrShort
	}
	return api.ErrAuth
}

// P11.5: an S that is told openly may be short, too; of one that is locked 48 bytes
// are taken, also where 32 would be there.
func TestShortS(t *testing.T) {
	y := made(false, []int{api.S})
	for n := range 40 {
		r := tryRead(t, y, rising(1, n))
		if n < 32 {
			tryDies(t, "an open S", y, r, api.ErrShort)
		} else if r.e != api.OK || r.h.Their != key(1) || !bytes.Equal(r.b, rising(33, n-32)) {
			t.Errorf("%d bytes: error %d, %x, %v", n, r.e, r.b, r.h)
		}
	}
	y.Sym = symm.Key(y.Sym, nil)
	for n := range 70 {
		want := api.ErrShort
		if n >= 48 {
			want = api.ErrAuth
		}
		tryDies(t, "a locked S", y, tryRead(t, y, rising(1, n)), want)
	}
}

// P11.5: bytes that were changed, each one of them, end all where something is
// locked; what stands openly ahead of the first key is taken, and ends the next turn.
func TestChanged(t *testing.T) {
	for _, c := range []struct {
		name string
		turn int
		open int // bytes that are taken
	}{{"NN", 0, 35}, {"NN", 1, 0}, {"XX", 1, 0}, {"XX", 2, 0}, {"IK", 0, 0}, {"NNpsk0", 0, 0}, {"XXfallbackpsk1", 0, 0}} {
		_, y, b := told(t, c.name, c.turn, []byte("abc"))
		for i := range b {
			b[i] ^= 1 << (i % 8)
			r := tryRead(t, y, b)
			b[i] ^= 1 << (i % 8)
			if i < c.open {
				if r.e != api.OK || r.h.Sym == tryRead(t, y, b).h.Sym {
					t.Errorf("%s, turn %d, byte %d: error %d", c.name, c.turn, i, r.e)
				}
				continue
			}
			tryDies(t, fmt.Sprintf("%s, turn %d, byte %d", c.name, c.turn, i), y, r, api.ErrAuth)
		}
		if c.open == 0 {
			tryDies(t, "one more", y, tryRead(t, y, append(bytes.Clone(b), 0)), api.ErrAuth)
		}
	}
}

// P11.2, P11.5: who was handed another prologue, name or key ahead does not open
// what is locked.
func TestNotAlike(t *testing.T) {
	for _, change := range []func(c *begun){
		func(c *begun) { c.prologue = []byte("Ahead") },
		func(c *begun) { c.prologue = nil },
		func(c *begun) { c.their[0] ^= 2 },
		func(c *begun) { c.own[1] ^= 1 },
		func(c *begun) { c.name = named("KKpsk1") },
		func(c *begun) { c.psks[0][31] ^= 1 },
	} {
		x, c := sides(t, "KKpsk0")[0], begunBy(t, "KKpsk0", false)
		change(&c)
		y := begin(t, c)
		_, b, _ := Write(x, key(freshX), nil)
		tryDies(t, "not alike", y, tryRead(t, y, b), api.ErrAuth)
	}
}

// P11.4, P11.5: a dead side stays so, and all that it knew.
func TestDead(t *testing.T) {
	for turn := range 3 {
		x, y, b := told(t, "XX", turn, nil)
		r := tryRead(t, y, b[:10])
		tryDies(t, "XX", y, r, api.ErrShort)
		tryStays(t, "dead", r.h, tryRead(t, r.h, b), api.ErrState)
		tryMayNot(t, r.h, nil)
		tryMayNot(t, dead(x), nil)
		if _, e := Split(r.h); e != api.ErrState {
			t.Errorf("Split of a dead side: error %d", e)
		}
	}
}

// P11.4, P11.5: what sealing and opening refuse ends all, also where it is an error
// with which nothing would change, were it the turn's own: a cipher that may not be,
// or whose numbers are used up, at an S and at the text.
func TestSealRefused(t *testing.T) {
	none := []api.Cipher{{N: 1}, {Key: key(1)}, {Key: api.Key{31: 1}, N: math.MaxUint64}}
	full := api.Cipher{Has: true, Key: key(1), N: math.MaxUint64}
	for _, turns := range [][][]int{{{}}, {{api.S}}, {{api.E}}, {{api.E, api.S}, {}}} {
		x, y := made(true, turns...), made(false, turns...)
		for _, c := range none {
			x.Sym.Cipher, y.Sym.Cipher = c, c
			tryDies(t, "Write", x, tryWrite(t, x, key(1), []byte("abc")), api.ErrState)
			tryDies(t, "Read", y, tryRead(t, y, rising(1, 200)), api.ErrState)
		}
		x.Sym.Cipher, y.Sym.Cipher = full, full
		tryDies(t, "Write", x, tryWrite(t, x, key(1), nil), api.ErrOver)
		tryDies(t, "Read", y, tryRead(t, y, rising(1, 200)), api.ErrOver)
	}
	// The last number serves the S, and none is left for the text.
	x, y := made(true, []int{api.S}), made(false, []int{api.S})
	x.Sym.Cipher, y.Sym.Cipher = full, full
	x.Sym.Cipher.N--
	y.Sym.Cipher.N--
	tryDies(t, "Write", x, tryWrite(t, x, key(1), nil), api.ErrOver)
	s := slice(ladder.Base(x.Own))
	_, b, _ := symm.Seal(y.Sym, s)
	tryDies(t, "Read", y, tryRead(t, y, append(b, make([]byte, 16)...)), api.ErrOver)
	tryDies(t, "Read, short", y, tryRead(t, y, b[:47]), api.ErrShort)
}

// P11.4, P11.5: a psk or two keys begin the cipher anew, whatever it was.
func TestCipherAnew(t *testing.T) {
	for _, c := range []api.Cipher{{N: 1}, {Key: key(1)}, {Has: true, N: math.MaxUint64}} {
		x, y := sides(t, "NNpsk0")[0], sides(t, "NNpsk0")[1]
		x.Sym.Cipher, y.Sym.Cipher = c, c
		w := tryWrite(t, x, key(1), nil)
		if r := tryRead(t, y, w.b); w.e != api.OK || r.e != api.OK {
			t.Errorf("%v: error %d, %d", c, w.e, r.e)
		}
	}
}

// P11.4, P11.5: token by token: of what would end all the first one is told.
func TestOrder(t *testing.T) {
	bad := api.Cipher{N: 1}
	for _, c := range []struct {
		what   string
		tokens []int
		change func(h *api.Shake)
		b      []byte
		want   api.Errno
	}{
		{"no psk, then too short", []int{api.Psk, api.E}, func(h *api.Shake) { h.Psks = nil }, rising(1, 3), api.ErrNone},
		{"too short, then no psk", []int{api.E, api.Psk}, func(h *api.Shake) { h.Psks = nil }, rising(1, 31), api.ErrShort},
		{"no psk, then a tag", []int{api.E, api.Psk}, func(h *api.Shake) { h.Psks = nil }, rising(1, 32), api.ErrNone},
		{"no key, then no psk", []int{api.E, api.EE, api.Psk}, func(h *api.Shake) { h.Psks, h.Has = nil, false }, rising(1, 32), api.ErrNone},
		{"a nought, then no psk", []int{api.E, api.EE, api.Psk}, func(h *api.Shake) { h.Psks = nil }, make([]byte, 32), api.ErrZero},
		{"no psk, then a nought", []int{api.E, api.Psk, api.EE}, func(h *api.Shake) { h.Psks = nil }, make([]byte, 32), api.ErrNone},
		{"too short, then a bad cipher", []int{api.S}, func(h *api.Shake) { h.Sym.Cipher = bad }, rising(1, 31), api.ErrShort},
		{"a bad cipher, then a nought", []int{api.S, api.E, api.EE}, func(h *api.Shake) { h.Sym.Cipher = bad }, make([]byte, 64), api.ErrState},
		{"a nought, then a bad cipher", []int{api.E, api.EE}, func(h *api.Shake) { h.Sym.Cipher = bad }, make([]byte, 64), api.ErrZero},
		{"a nought, then a tag", []int{api.E, api.EE}, func(h *api.Shake) {}, make([]byte, 32), api.ErrZero},
		{"a tag that is wrong, then a nought", []int{api.Psk, api.E, api.S, api.EE}, func(h *api.Shake) {}, make([]byte, 80), api.ErrAuth},
		{"too short, then a nought", []int{api.Psk, api.E, api.S, api.EE}, func(h *api.Shake) {}, make([]byte, 79), api.ErrShort},
	} {
		y := made(false, c.tokens)
		y.Psks = psksOf(2)
		if slices.Contains(c.tokens, api.EE) {
			y.Pattern.Pre[1] = []int{api.E}
		}
		c.change(&y)
		if e := pattern.Check(y.Pattern); e != api.OK {
			t.Fatalf("%s: the pattern may not be", c.what)
		}
		tryDies(t, c.what, y, tryRead(t, y, c.b), c.want)
	}
	x := made(true, []int{api.S, api.E, api.EE})
	x.Pattern.Pre[1] = []int{api.E}
	x.Sym.Cipher, x.Newest = bad, api.Key{}
	tryDies(t, "a bad cipher, then a nought", x, tryWrite(t, x, key(1), nil), api.ErrState)
	x.Pattern.Turns[0] = []int{api.E, api.EE, api.S}
	tryDies(t, "a nought, then a bad cipher", x, tryWrite(t, x, key(1), nil), api.ErrZero)
}

// P11.4, P11.5: a turn that was refused leaves nothing of what it had done: no key
// that it had heard, no psk that it had used.
func TestDiesAsItWas(t *testing.T) {
	y := sides(t, "XXfallbackpsk0+psk1")[0]
	y.Psks = y.Psks[:1]
	b := forged(y, public(1), public(2), nil)
	r := tryRead(t, y, b)
	tryDies(t, "the second psk is wanting", y, r, api.ErrNone)
	if r.h.Used != 0 || r.h.Saw || r.h.Knows || r.h.Newest != (api.Key{}) || r.h.Their != (api.Key{}) || r.h.Turn != 0 {
		t.Errorf("%v", r.h)
	}
	x := sides(t, "NNpsk0+psk1")[0]
	x.Psks = x.Psks[:1]
	w := tryWrite(t, x, key(1), nil)
	tryDies(t, "the second psk is wanting", x, w, api.ErrNone)
	if w.h.Used != 0 || w.h.Has || w.h.Fresh != (api.Key{}) || w.h.Sym != x.Sym {
		t.Errorf("%v", w.h)
	}
}

// P11.6: the ciphers of what both know, at the number 0; of a side that is not done
// they are zero.
func TestSplit(t *testing.T) {
	for _, name := range bases() {
		both := sides(t, name)
		for range both[0].Pattern.Turns {
			tryNoSplit(t, both[0])
			tryNoSplit(t, both[1])
			both = step(t, both, nil)
		}
		for _, h := range both {
			ways, e := Split(h)
			if e != api.OK || ways != symm.Split(h.Sym) || ways[0].N != 0 || ways[1].N != 0 {
				t.Errorf("%s: %v, error %d", name, ways, e)
			}
			tryNoSplit(t, dead(h))
			h.Turn--
			tryNoSplit(t, h)
			h.Turn = math.MinInt
			tryNoSplit(t, h)
			h.Turn = math.MaxInt
			if more, e := Split(h); e != api.OK || more != ways {
				t.Errorf("%s beyond the turns: error %d", name, e)
			}
		}
	}
	tryNoSplit(t, api.Shake{Dead: true})
	if ways, e := Split(api.Shake{}); e != api.OK || ways != symm.Split(api.Sym{}) {
		t.Errorf("of no turns: error %d", e)
	}
}

func tryNoSplit(t *testing.T, h api.Shake) {
	t.Helper()
	if ways, e := Split(h); e != api.ErrState || ways != [2]api.Cipher{} {
		t.Errorf("turn %d, dead %v: %v, error %d", h.Turn, h.Dead, ways, e)
	}
}

// drawPattern answers a pattern of a name, or any that may be, or, now and then, one
// that may not.
func drawPattern(r *rand.Rand, names []string) api.Pattern {
	if r.Intn(3) > 0 {
		p, _ := pattern.Parse(named(names[r.Intn(len(names))]))
		return p
	}
	for {
		p := api.Pattern{Late: r.Intn(4) == 0, Base: "drawn"}
		for side := range 2 {
			for _, token := range r.Perm(2)[:r.Intn(3)] {
				p.Pre[side] = append(p.Pre[side], token+api.E)
			}
		}
		for range 1 + r.Intn(4) {
			var l []int
			for range r.Intn(5) {
				l = append(l, 1+r.Intn(7))
			}
			p.Turns = append(p.Turns, l)
		}
		if pattern.Check(p) == api.OK || r.Intn(20000) == 0 {
			return p
		}
	}
}

// drawSide answers a side of any kind.
func drawSide(r *rand.Rand, names []string, keys []api.Key) api.Shake {
	pick := func() api.Key {
		if r.Intn(8) == 0 {
			return keys[r.Intn(len(keys))]
		}
		return drawKey(r)
	}
	h := api.Shake{
		Pattern: drawPattern(r, names), First: r.Intn(2) == 0, Dead: r.Intn(30) == 0,
		Sym: symm.Begin(fmt.Sprint(r.Intn(9))), Own: pick(), Fresh: pick(), Has: r.Intn(6) > 0,
		Their: pick(), Knows: r.Intn(6) > 0, Newest: pick(), Saw: r.Intn(6) > 0,
	}
	h.Turn = r.Intn(len(h.Pattern.Turns)+2) - r.Intn(8)/7
	for range r.Intn(5) {
		h.Psks = append(h.Psks, pick())
	}
	h.Used = r.Intn(len(h.Psks)+2) - r.Intn(10)/9
	switch r.Intn(8) {
	case 0, 1, 2:
		h.Sym = symm.Key(h.Sym, nil)
	case 3:
		h.Sym.Cipher = api.Cipher{Has: true, Key: pick(), N: math.MaxUint64 - uint64(r.Intn(3))}
	case 4:
		h.Sym.Cipher.N = uint64(r.Intn(2))
	}
	return h
}

// P11.3 to P11.6: sides of any kind, made by chance, by the book: what they write,
// and what they hear of good bytes, of changed ones, and of any.
func TestDrawn(t *testing.T) {
	r := rand.New(rand.NewSource(3))
	keys := append(low(t), api.Key{9})
	seen := map[string]int{}
	all, draws := names(), 4000
	if testing.Short() {
		draws = 300
	}
	for range draws {
		h := drawSide(r, all, keys)
		w := tryWrite(t, h, drawKey(r), drawBytes(r, []int{0, 1, 5, 100, 399, mostText, mostText + 1}[r.Intn(7)]))
		b := forged(h, drawKey(r), drawKey(r), drawBytes(r, r.Intn(60)))
		switch r.Intn(5) {
		case 0:
			b = b[:r.Intn(len(b)+1)]
		case 1:
			b = drawBytes(r, r.Intn(mostMessage+20))
		case 2:
			if len(b) > 0 {
				b[r.Intn(len(b))] ^= 4
			}
		}
		u := tryRead(t, h, b)
		ways, e := Split(h)
		if done := !h.Dead && h.Turn >= len(h.Pattern.Turns); Done(h) != done || done != (e == api.OK) || done && ways != symm.Split(h.Sym) {
			t.Fatalf("done %v, error %d: %v", Done(h), e, h)
		}
		seen[fmt.Sprint("w", int(w.e))]++
		seen[fmt.Sprint("r", int(u.e))]++
	}
	for _, what := range []string{"w0", "w1", "w5", "w9", "w11", "w12", "r0", "r1", "r4", "r5", "r9", "r10", "r11", "r12"} {
		if seen[what] == 0 && !testing.Short() {
			t.Errorf("never %s: %v", what, seen)
		}
	}
}

// list is one list that is handed in or answered, of any kind.
type list interface {
	all() string // what stands in it, in its spare room too
	spoil()
}

type ints []int
type keys []api.Key
type raw []byte
type outer [][]int

func (l ints) all() string { return fmt.Sprint([]int(l[:cap(l)])) }
func (l ints) spoil() {
	for i := range l[:cap(l)] {
		l[:cap(l)][i] = 77
	}
}

func (l keys) all() string { return fmt.Sprint([]api.Key(l[:cap(l)])) }
func (l keys) spoil() {
	for i := range l[:cap(l)] {
		l[:cap(l)][i] = key(77)
	}
}

func (l raw) all() string { return fmt.Sprint([]byte(l[:cap(l)])) }
func (l raw) spoil() {
	for i := range l[:cap(l)] {
		l[:cap(l)][i] ^= 77
	}
}

// all tells of lists within a list where they are, not what stands in them: that
// is told by themselves.
func (l outer) all() string {
	s := ""
	for _, in := range l[:cap(l)] {
		s += fmt.Sprintf("%p %d %d,", in, len(in), cap(in))
	}
	return s
}
func (l outer) spoil() {
	for i := range l[:cap(l)] {
		l[:cap(l)][i] = make([]int, 77)
	}
}

// listsOf answers all lists of a side.
func listsOf(h api.Shake) []list {
	l := []list{keys(h.Psks), ints(h.Pattern.Psks), outer(h.Pattern.Turns)}
	for _, in := range append(h.Pattern.Pre[:], h.Pattern.Turns...) {
		l = append(l, ints(in))
	}
	return l
}

// tryApart spoils one list by the other, and asks whether another one feels it.
func tryApart(t *testing.T, what string, l []list) {
	t.Helper()
	for i := range l {
		var was []string
		for _, other := range l {
			was = append(was, other.all())
		}
		l[i].spoil()
		for j, other := range l {
			if j != i && other.all() != was[j] {
				t.Fatalf("%s: lists %d and %d share memory", what, i, j)
			}
		}
	}
}

// roomy answers a list with marks in its spare room.
func roomy[T any](l []T, mark T) []T {
	m := append(append(make([]T, 0, len(l)+4), l...), mark, mark, mark, mark)
	return m[:len(l)]
}

// roomySide answers the same side, each list of which has spare room.
func roomySide(h api.Shake) api.Shake {
	h.Psks = roomy(h.Psks, key(99))
	h.Pattern.Psks = roomy(h.Pattern.Psks, 99)
	for i, l := range h.Pattern.Pre {
		h.Pattern.Pre[i] = roomy(l, 99)
	}
	h.Pattern.Turns = roomy(h.Pattern.Turns, []int{99})
	for i, l := range h.Pattern.Turns {
		h.Pattern.Turns[i] = roomy(l, 99)
	}
	return h
}

// asked are calls with all kinds of answers, by what they are: of each the lists
// that are handed in, and what does it.
type asked struct {
	what string
	in   []list
	do   func() []list
}

func askedBegin(c begun) asked {
	c.prologue, c.psks = roomy(c.prologue, 99), roomy(c.psks, key(99))
	return asked{"Begin " + c.name, []list{raw(c.prologue), keys(c.psks)}, func() []list {
		h, _ := c.begin()
		return listsOf(h)
	}}
}

func askedWrite(what string, h api.Shake, text []byte) asked {
	h, text = roomySide(h), roomy(text, 99)
	return asked{"Write, " + what, append(listsOf(h), raw(text)), func() []list {
		u, b, _ := Write(h, key(3), text)
		return append(listsOf(u), raw(b))
	}}
}

func askedRead(what string, h api.Shake, b []byte) asked {
	h, b = roomySide(h), roomy(b, 99)
	return asked{"Read, " + what, append(listsOf(h), raw(b)), func() []list {
		u, text, _ := Read(h, b)
		return append(listsOf(u), raw(text))
	}}
}

func askedAll(t *testing.T) []asked {
	t.Helper()
	var l []asked
	for _, name := range []string{"NN", "XX", "KK", "XXpsk0+psk3", "IKpsk1+psk2", "XXfallback", "XXfallbackpsk0+psk1+psk2"} {
		l = append(l, askedBegin(begunBy(t, name, true)), askedBegin(begunBy(t, name, false)))
		for turn := range parsed(t, name).Turns {
			x, y, b := told(t, name, turn, []byte("a text"))
			l = append(l, askedWrite(name, x, []byte("a text")), askedRead(name, y, b),
				askedWrite("too long", x, make([]byte, 401)), askedRead("too long", y, make([]byte, 801)),
				askedWrite("not its own", y, []byte("a")), askedRead("its own", x, b),
				askedWrite("dead", dead(x), []byte("a")), askedRead("dead", dead(y), b),
				askedRead("short", y, b[:len(b)/3]), askedRead("changed", y, append(b[:len(b)-1:len(b)-1], b[len(b)-1]^1)))
			x.Sym.Cipher, y.Sym.Cipher = api.Cipher{N: 1}, api.Cipher{N: 1}
			l = append(l, askedWrite("no cipher", x, []byte("a")), askedRead("no cipher", y, b))
		}
	}
	bad := begunBy(t, "IKpsk0", true)
	bad.knows = false
	return append(l, askedBegin(bad), askedRead("no text", made(false, []int{}), nil))
}

// P11.2, P11.4, P11.5: what is handed in is not changed, its spare room neither;
// what is answered shares no memory with it, nor with another answer, nor does one
// list of an answer with another one.
func TestApart(t *testing.T) {
	for _, c := range askedAll(t) {
		var was []string
		for _, l := range c.in {
			was = append(was, l.all())
		}
		one, two := c.do(), c.do()
		for i, l := range c.in {
			if l.all() != was[i] {
				t.Fatalf("%s: list %d was changed", c.what, i)
			}
		}
		if len(one) != len(two) {
			t.Fatalf("%s: %d lists, then %d", c.what, len(one), len(two))
		}
		tryApart(t, c.what, slices.Concat(c.in, one, two))
	}
}

// P11.4, P11.5: lists that were handed in as one are answered as several.
func TestSharedIn(t *testing.T) {
	l := []int{}
	shared := make([]int, 0, 9)
	x := made(true, l, l, shared, shared)
	x.Pattern.Psks = shared
	x.Pattern.Pre = [2][]int{shared, shared}
	tryApart(t, "Write", listsOf(wrote(x, key(1), nil).h))
	one := []int{api.Psk}
	x = made(true, one, one, one)
	x.Psks = psksOf(1)
	x.Pattern.Psks = one
	for _, h := range []api.Shake{x, dead(x), made(false, one, one)} {
		tryApart(t, "Write", listsOf(wrote(h, key(1), nil).h))
		tryApart(t, "Read", listsOf(read(h, nil).h))
	}
}

// P11.2 to P11.6: the same arguments, the same answer, whatever was asked between.
func TestTwice(t *testing.T) {
	x, y, b := told(t, "XXpsk0+psk3", 2, []byte("a text"))
	c := begunBy(t, "XXpsk0+psk3", true)
	h := begin(t, c)
	w, r := wrote(x, key(1), nil), read(y, b)
	ways, _ := Split(r.h)
	TestBeginKnows(t)
	wrote(y, key(2), nil)
	read(y, b[:20])
	trySide(t, "Begin", begin(t, c), h)
	tryAnswer(t, "Write", wrote(x, key(1), nil), w.h, w.b, w.e)
	tryAnswer(t, "Read", read(y, b), r.h, r.b, r.e)
	if again, _ := Split(r.h); again != ways || r.e != api.OK {
		t.Errorf("Split: %v, %v", again, ways)
	}
}

// P11.2, P11.4, P11.5: lists without elements may be nil or not.
func TestNilOrNot(t *testing.T) {
	c := begunBy(t, "NN", true)
	c.prologue, c.psks = nil, nil
	h := tryBegin(t, c)
	c.prologue, c.psks = []byte{}, []api.Key{}
	trySide(t, "Begin", tryBegin(t, c), h)
	u := h
	u.Psks, u.Pattern.Psks, u.Pattern.Pre = []api.Key{}, []int{}, [2][]int{{}, {}}
	h.Psks, h.Pattern.Psks, h.Pattern.Pre = nil, nil, [2][]int{}
	w := tryWrite(t, h, key(1), nil)
	tryAnswer(t, "Write", tryWrite(t, u, key(1), []byte{}), w.h, w.b, w.e)
	y := made(false, []int{})
	tryAnswer(t, "Read", tryRead(t, y, []byte{}), tryRead(t, y, nil).h, nil, api.OK)
}
