package ladder

import (
	"crypto/ecdh"
	"encoding/hex"
	"math/big"
	"math/rand"
	"testing"

	"signet/api"
)

// thePrime is written out apart from the program's own.
var thePrime = new(big.Int).Sub(new(big.Int).Lsh(big.NewInt(1), 255), big.NewInt(19))

func key(t *testing.T, s string) api.Key {
	t.Helper()
	b, err := hex.DecodeString(s)
	if err != nil || len(b) != 32 {
		t.Fatalf("no key: %s", s)
	}
	return api.Key(b)
}

// toKey tells the 32 bytes of a number, the lowest one first.
func toKey(n *big.Int) api.Key {
	var k api.Key
	n.FillBytes(k[:])
	return backwards(k)
}

func backwards(k api.Key) api.Key {
	for i := range 16 {
		k[i], k[31-i] = k[31-i], k[i]
	}
	return k
}

func toBig(k api.Key) *big.Int {
	k = backwards(k)
	return new(big.Int).SetBytes(k[:])
}

func full() api.Key {
	var k api.Key
	for i := range k {
		k[i] = 255
	}
	return k
}

func draw(r *rand.Rand) api.Key {
	var k api.Key
	r.Read(k[:])
	return k
}

func primeAnd(n int64) api.Key { return toKey(new(big.Int).Add(thePrime, big.NewInt(n))) }

func small(n int64) api.Key { return toKey(big.NewInt(n)) }

// withHigh sets the bit that is not part of the number.
func withHigh(k api.Key) api.Key {
	k[31] |= 0x80
	return k
}

// place is a point by both numbers, nil: the far point. A point (u, 1) lies on
// the curve steep*y^2 = x^3 + 486662*x^2 + x if steep is what u makes of the
// right side: the curve of RFC 7748 if steep is a square, its twist if not. So
// both are reckoned by the schoolbook, with no ladder.
type place struct{ x, y *big.Int }

func left(n *big.Int) *big.Int { return n.Mod(n, thePrime) }

func times(l ...*big.Int) *big.Int {
	n := big.NewInt(1)
	for _, x := range l {
		n = left(n.Mul(n, x))
	}
	return n
}

func steepOf(u *big.Int) *big.Int {
	n := times(u, u, u)
	n.Add(n, times(big.NewInt(486662), u, u))
	return left(n.Add(n, u))
}

// slope is that of the line through both, or of the one that touches the curve there.
func slope(p, q *place, steep *big.Int) *big.Int {
	over := new(big.Int).Sub(q.y, p.y)
	under := new(big.Int).Sub(q.x, p.x)
	if p.x.Cmp(q.x) == 0 {
		over = times(big.NewInt(3), p.x, p.x)
		over.Add(over, times(big.NewInt(2*486662), p.x))
		over.Add(over, big.NewInt(1))
		under = times(big.NewInt(2), steep, p.y)
	}
	return times(over, new(big.Int).ModInverse(left(under), thePrime))
}

func join(p, q *place, steep *big.Int) *place {
	if p == nil {
		return q
	}
	if q == nil {
		return p
	}
	if p.x.Cmp(q.x) == 0 && left(new(big.Int).Add(p.y, q.y)).Sign() == 0 {
		return nil
	}
	l := slope(p, q, steep)
	x := times(steep, l, l)
	x.Sub(x, big.NewInt(486662))
	x.Sub(x, p.x)
	x = left(x.Sub(x, q.x))
	y := times(l, new(big.Int).Sub(p.x, x))
	return &place{x, left(y.Sub(y, p.y))}
}

// schoolbook answers what Mult ought to, by adding points with both numbers.
func schoolbook(k, u api.Key) api.Key {
	n := toBig(k)
	for _, i := range []int{0, 1, 2, 255} {
		n.SetBit(n, i, 0)
	}
	n.SetBit(n, 254, 1)
	first := left(new(big.Int).SetBit(toBig(u), 255, 0))
	steep := steepOf(first)
	if steep.Sign() == 0 { // the point (0, 0): twice it is the far point
		return api.Key{}
	}
	at := &place{first, big.NewInt(1)}
	var out *place
	for i := 254; i >= 0; i-- {
		out = join(out, out, steep)
		if n.Bit(i) == 1 {
			out = join(out, at, steep)
		}
	}
	if out == nil {
		return api.Key{}
	}
	return toKey(out.x)
}

func tryMult(t *testing.T, k, u, want api.Key) {
	t.Helper()
	got, ok := Mult(k, u)
	if got != want || ok != (want != api.Key{}) {
		t.Errorf("Mult(%x, %x): %x %t, want %x %t", k, u, got, ok, want, want != api.Key{})
	}
}

// secrets lists edges and drawn ones.
func secrets() []api.Key {
	r := rand.New(rand.NewSource(1))
	l := []api.Key{{}, full(), {1}, {7}, {8}, {31: 0x40}, {31: 0x80}, {31: 0xbf}, {16: 1}}
	for range 6 {
		l = append(l, draw(r))
	}
	return l
}

// farPoints lists the numbers of which all clamped secrets make the far point:
// those of order 1, 2, 4 and 8 on the curve and on its twist.
func farPoints(t *testing.T) []api.Key {
	return []api.Key{
		small(0), small(1), primeAnd(-1), primeAnd(0), primeAnd(1),
		key(t, "e0eb7a7c3b41b8ae1656e3faf19fc46ada098deb9c32b1fd866205165f49b800"),
		key(t, "5f9c95bca3508c24b1d0b1559c83ef5b04445cc4581c8e86d8224eddd09f1157"),
	}
}

// P2.1: each bit of a key, by itself and missing by itself.
func TestClamp(t *testing.T) {
	for i := range 256 {
		one, rest := api.Key{}, full()
		one[i/8] = 1 << (i % 8)
		rest[i/8] ^= 1 << (i % 8)
		for _, k := range []api.Key{one, rest} {
			n := toBig(k)
			n.SetBit(n, 0, 0).SetBit(n, 1, 0).SetBit(n, 2, 0).SetBit(n, 255, 0).SetBit(n, 254, 1)
			if got := Clamp(k); got != toKey(n) {
				t.Errorf("Clamp(%x): %x, want %x", k, got, toKey(n))
			}
		}
	}
}

// P2.1: some answers written out; what is clamped stays as it is.
func TestClampWritten(t *testing.T) {
	for _, c := range []struct{ k, want string }{
		{
			"0000000000000000000000000000000000000000000000000000000000000000",
			"0000000000000000000000000000000000000000000000000000000000000040",
		},
		{
			"ffffffffffffffffffffffffffffffffffffffffffffffffffffffffffffffff",
			"f8ffffffffffffffffffffffffffffffffffffffffffffffffffffffffffff7f",
		},
		{
			"0702030405060708090a0b0c0d0e0f101112131415161718191a1b1c1d1e1f80",
			"0002030405060708090a0b0c0d0e0f101112131415161718191a1b1c1d1e1f40",
		},
		{
			"77076d0a7318a57d3c16c17251b26645df4c2f87ebc0992ab177fba51db92c2a",
			"70076d0a7318a57d3c16c17251b26645df4c2f87ebc0992ab177fba51db92c6a",
		},
	} {
		want := key(t, c.want)
		for _, s := range []string{c.k, c.want} {
			if got := Clamp(key(t, s)); got != want {
				t.Errorf("Clamp(%s): %x, want %x", s, got, want)
			}
		}
	}
}

// P2.2: the vectors of RFC 7748, chapter 5.2.
func TestMultVectors(t *testing.T) {
	for _, c := range []struct{ k, u, want string }{
		{
			"a546e36bf0527c9d3b16154b82465edd62144c0ac1fc5a18506a2244ba449ac4",
			"e6db6867583030db3594c1a424b15f7c726624ec26b3353b10a903a6d0ab1c4c",
			"c3da55379de9c6908e94ea4df28d084f32eccf03491c71f754b4075577a28552",
		},
		{
			"4b66e9d4d1b4673c5ad22691957d6af5c11b6421e0ea01d42ca4169e7918ba0d",
			"e5210f12786811d3f4b7959d0538ae2c31dbe7106fc03c3efc4cd549c715a493",
			"95cbde9476e8907d7aade45cb4b873f88b595a68799fa152e6f8f7647aac7957",
		},
	} {
		tryMult(t, key(t, c.k), key(t, c.u), key(t, c.want))
	}
}

// P2.2: the chain of RFC 7748, chapter 5.2: what comes out is the next secret,
// what was the secret is the next point.
func TestMultChain(t *testing.T) {
	k, u := api.Key{9}, api.Key{9}
	for i := 1; i <= 1000; i++ {
		next, _ := Mult(k, u)
		k, u = next, k
		if i == 1 && k != key(t, "422c8e7a6227d7bca1350b3e2bb7279f7897b87bb6854b783c60e80311ae3079") {
			t.Fatalf("after 1: %x", k)
		}
	}
	if k != key(t, "684cf59ba83309552800ef566f2f4d3c1c3887c49360e3875f2eb94d99532c51") {
		t.Errorf("after 1000: %x", k)
	}
}

// P2.2: edges of secrets and of points, on the curve and on its twist, by the schoolbook.
func TestMultSchoolbook(t *testing.T) {
	r := rand.New(rand.NewSource(2))
	points := []api.Key{small(0), small(1), small(2), small(3), small(9), primeAnd(-1), primeAnd(-2), full()}
	for range 8 {
		points = append(points, draw(r))
	}
	curve, twist := 0, 0
	for _, u := range points {
		first := left(new(big.Int).SetBit(toBig(u), 255, 0))
		switch big.Jacobi(steepOf(first), thePrime) {
		case 1:
			curve++
		case -1:
			twist++
		}
		for _, k := range secrets() {
			tryMult(t, k, u, schoolbook(k, u))
		}
	}
	if curve < 3 || twist < 3 {
		t.Errorf("%d points of the curve and %d of the twist are too few", curve, twist)
	}
}

// P2.2: many drawn secrets and points, by the library.
func TestMultDrawn(t *testing.T) {
	r := rand.New(rand.NewSource(3))
	for range 500 {
		k, u := draw(r), draw(r)
		secret, err := ecdh.X25519().NewPrivateKey(k[:])
		if err != nil {
			t.Fatal(err)
		}
		public, err := ecdh.X25519().NewPublicKey(u[:])
		if err != nil {
			t.Fatal(err)
		}
		want, err := secret.ECDH(public)
		if err != nil {
			t.Fatal(err)
		}
		tryMult(t, k, u, api.Key(want))
	}
}

// P2.2: a point that is not below the prime is what is left of it.
func TestMultPrimeAndMore(t *testing.T) {
	for n := int64(0); n <= 18; n++ {
		for _, k := range secrets() {
			want, _ := Mult(k, small(n))
			tryMult(t, k, primeAnd(n), want)
		}
	}
}

// P2.2: the highest bit of the point's last byte is none of its number.
func TestMultHighBit(t *testing.T) {
	r := rand.New(rand.NewSource(4))
	points := []api.Key{small(0), small(1), small(2), small(9), primeAnd(-1), primeAnd(0), primeAnd(9), primeAnd(18)}
	for range 8 {
		u := draw(r)
		u[31] &= 0x7f
		points = append(points, u)
	}
	for _, u := range points {
		for _, k := range secrets() {
			want, _ := Mult(k, u)
			tryMult(t, k, withHigh(u), want)
		}
	}
}

// P2.2: the secret is clamped, whatever its five bits are.
func TestMultClamps(t *testing.T) {
	r := rand.New(rand.NewSource(5))
	k, u := draw(r), draw(r)
	want, _ := Mult(Clamp(k), u)
	for i := range 32 {
		k[0] = k[0]&0xf8 | byte(i&7)
		k[31] = k[31]&0x3f | byte(i>>3<<6)
		tryMult(t, k, u, want)
	}
}

// P2.2: of the far point each byte is 0, and it is said that nothing is told.
func TestMultFar(t *testing.T) {
	for _, u := range farPoints(t) {
		for _, k := range secrets() {
			tryMult(t, k, u, api.Key{})
			tryMult(t, k, withHigh(u), api.Key{})
		}
	}
}

// P2.2: something is told by whichever byte is not 0; hardly any points are
// known that have but one such byte, so this is asked of the part that says it.
func TestTells(t *testing.T) {
	if tells(api.Key{}) {
		t.Error("32 bytes of 0 tell something")
	}
	for i := range 256 {
		var k api.Key
		k[i/8] = 1 << (i % 8)
		if !tells(k) {
			t.Errorf("%x tells nothing", k)
		}
	}
}

const (
	alice       = "77076d0a7318a57d3c16c17251b26645df4c2f87ebc0992ab177fba51db92c2a"
	alicePublic = "8520f0098930a754748b7ddcb43ef75a0dbf3a0d26381af4eba4a98eaa9b4e6a"
	bob         = "5dab087e624a8a4b79e17f8b83800ee66f3bb1292618b6fd1c2f8b27ff88e0eb"
	bobPublic   = "de9edb7d7b7dc1b4d35b61c2ece435373f8343c85b78674dadfc7e146f882b4f"
	bothKnow    = "4a5d9d5ba4ce2de1728e3bf480350f25e07e21c947d19e3376f09b3c1e161742"
)

// P2.3, P2.2: the vectors of RFC 7748, chapter 6.1.
func TestBaseVectors(t *testing.T) {
	for _, c := range []struct{ k, want string }{{alice, alicePublic}, {bob, bobPublic}} {
		if got := Base(key(t, c.k)); got != key(t, c.want) {
			t.Errorf("Base(%s): %x, want %s", c.k, got, c.want)
		}
	}
	tryMult(t, key(t, alice), key(t, bobPublic), key(t, bothKnow))
	tryMult(t, key(t, bob), key(t, alicePublic), key(t, bothKnow))
}

// P2.3: edges of secrets by the schoolbook, drawn ones by the library.
func TestBase(t *testing.T) {
	for _, k := range secrets() {
		if got, want := Base(k), schoolbook(k, small(9)); got != want {
			t.Errorf("Base(%x): %x, want %x", k, got, want)
		}
	}
	r := rand.New(rand.NewSource(6))
	for range 200 {
		k := draw(r)
		secret, err := ecdh.X25519().NewPrivateKey(k[:])
		if err != nil {
			t.Fatal(err)
		}
		if got, want := Base(k), api.Key(secret.PublicKey().Bytes()); got != want {
			t.Errorf("Base(%x): %x, want %x", k, got, want)
		}
	}
}

// P2.2, P2.3: two who have told each other their public keys come to the same,
// and a third one does not.
func TestTwoComeToTheSame(t *testing.T) {
	r := rand.New(rand.NewSource(7))
	for range 50 {
		a, b, c := draw(r), draw(r), draw(r)
		one, ok := Mult(a, Base(b))
		other, ok2 := Mult(b, Base(a))
		if one != other || !ok || !ok2 {
			t.Errorf("secrets %x and %x: %x %t and %x %t", a, b, one, ok, other, ok2)
		}
		if third, _ := Mult(c, Base(a)); third == one {
			t.Errorf("secret %x comes to what only %x and %x may know", c, a, b)
		}
	}
}
