package field

import (
	"math/big"
	"math/rand"
	"testing"

	"signet/api"
)

const all = 1<<64 - 1

// thePrime is written out apart from the package's own, as the document tells it.
var thePrime = new(big.Int).Sub(new(big.Int).Lsh(big.NewInt(1), 255), big.NewInt(19))

func toBig(a api.Fe) *big.Int {
	n := new(big.Int)
	for i := 3; i >= 0; i-- {
		n.Lsh(n, 64)
		n.Or(n, new(big.Int).SetUint64(a[i]))
	}
	return n
}

func toFe(n *big.Int) api.Fe {
	var a api.Fe
	for i := range a {
		a[i] = new(big.Int).Rsh(n, uint(64*i)).Uint64()
	}
	return a
}

func primeAnd(n int64) api.Fe { return toFe(new(big.Int).Add(thePrime, big.NewInt(n))) }

func leftOf(n *big.Int) api.Fe { return toFe(new(big.Int).Mod(n, thePrime)) }

func draw(r *rand.Rand) api.Fe {
	return leftOf(toBig(api.Fe{r.Uint64(), r.Uint64(), r.Uint64(), r.Uint64()}))
}

// inside lists numbers below the prime: its edges, those of the parts, and drawn ones.
func inside() []api.Fe {
	l := []api.Fe{
		{}, {1}, {2}, {18}, {19}, {20}, {37}, {38}, {39}, {all - 18}, {all - 19},
		{all}, {0, 1}, {all, all}, {0, 0, 1}, {all, all, all}, {0, 0, 0, 1},
		{all, all, all, 1<<62 - 1}, {0, 0, 0, 1 << 62}, {1, 0, 0, 1 << 62},
		{all, all, all, 1<<63 - 2}, {0, 0, 0, 1<<63 - 1},
		{all, all, 0, 1<<63 - 1}, {all, 0, all, 1<<63 - 1}, {0, all, all, 1<<63 - 1},
		{all - 19, all, all, 1<<63 - 1},
		{0x5555555555555555, 0x5555555555555555, 0x5555555555555555, 0x5555555555555555},
	}
	for _, n := range []int64{-1, -2, -18, -19, -20, -38} {
		l = append(l, primeAnd(n))
	}
	r := rand.New(rand.NewSource(1))
	for range 40 {
		l = append(l, draw(r))
	}
	return l
}

// outside lists numbers that are not below the prime.
func outside() []api.Fe {
	l := []api.Fe{
		{0, 0, 0, 1 << 63}, {1, 0, 0, 1 << 63}, {all, all, all, 1<<63 - 1},
		{0, 0, 0, all}, {all, all, all, all}, {5, 6, 7, 1<<63 + 8},
	}
	for _, n := range []int64{0, 1, 2, 17, 18, 19, 20} {
		l = append(l, primeAnd(n))
	}
	return append(l, toFe(new(big.Int).Lsh(thePrime, 1)))
}

type two struct {
	name string
	call func(a, b api.Fe) (api.Fe, api.Errno)
	want func(z, a, b *big.Int) *big.Int
}

func twos() []two {
	return []two{
		{"Add", Add, (*big.Int).Add},
		{"Sub", Sub, (*big.Int).Sub},
		{"Mul", Mul, (*big.Int).Mul},
	}
}

func (c two) try(t *testing.T, a, b api.Fe) {
	t.Helper()
	want := leftOf(c.want(new(big.Int), toBig(a), toBig(b)))
	if got, e := c.call(a, b); got != want || e != api.OK {
		t.Errorf("%s(%x, %x): %x %d, want %x 0", c.name, a, b, got, e, want)
	}
}

// P1.1: all pairs of edges and drawn numbers, each way round.
func TestTwoNumbers(t *testing.T) {
	l := inside()
	for _, c := range twos() {
		for _, a := range l {
			for _, b := range l {
				c.try(t, a, b)
			}
		}
	}
}

// P1.1: many drawn numbers.
func TestTwoDrawn(t *testing.T) {
	r := rand.New(rand.NewSource(2))
	for _, c := range twos() {
		for range 5000 {
			c.try(t, draw(r), draw(r))
		}
	}
}

// P1.1: answers just above 0 and just below the prime, where one prime more or
// less would be left; drawn numbers hardly ever come there.
func TestTwoNearPrime(t *testing.T) {
	r := rand.New(rand.NewSource(3))
	for n := int64(-40); n <= 40; n++ {
		want := leftOf(big.NewInt(n))
		for range 20 {
			a := draw(r)
			rest := leftOf(new(big.Int).Sub(toBig(want), toBig(a)))
			more := leftOf(new(big.Int).Add(toBig(want), toBig(a)))
			part := new(big.Int).ModInverse(toBig(a), thePrime)
			part.Mul(part, toBig(want))
			for i, c := range [][2]api.Fe{{a, rest}, {more, a}, {a, leftOf(part)}} {
				f := twos()[i]
				if got, e := f.call(c[0], c[1]); got != want || e != api.OK {
					t.Errorf("%s(%x, %x): %x %d, want %x 0", f.name, c[0], c[1], got, e, want)
				}
			}
		}
	}
}

// P1.1: some answers written out.
func TestTwoWritten(t *testing.T) {
	less1 := api.Fe{0xffffffffffffffec, all, all, 0x7fffffffffffffff}
	for _, c := range []struct {
		name string
		call func(a, b api.Fe) (api.Fe, api.Errno)
		a, b api.Fe
		want api.Fe
	}{
		{"Add", Add, api.Fe{2}, api.Fe{3}, api.Fe{5}},
		{"Add", Add, api.Fe{all}, api.Fe{1}, api.Fe{0, 1}},
		{"Add", Add, less1, api.Fe{}, less1},
		{"Add", Add, less1, api.Fe{1}, api.Fe{}},
		{"Add", Add, less1, api.Fe{2}, api.Fe{1}},
		{"Add", Add, less1, less1, api.Fe{0xffffffffffffffeb, all, all, 0x7fffffffffffffff}},
		{"Sub", Sub, api.Fe{5}, api.Fe{3}, api.Fe{2}},
		{"Sub", Sub, api.Fe{0, 1}, api.Fe{1}, api.Fe{all}},
		{"Sub", Sub, less1, less1, api.Fe{}},
		{"Sub", Sub, api.Fe{}, api.Fe{1}, less1},
		{"Sub", Sub, api.Fe{}, less1, api.Fe{1}},
		{"Sub", Sub, api.Fe{3}, api.Fe{5}, api.Fe{0xffffffffffffffeb, all, all, 0x7fffffffffffffff}},
		{"Mul", Mul, api.Fe{6}, api.Fe{7}, api.Fe{42}},
		{"Mul", Mul, less1, api.Fe{}, api.Fe{}},
		{"Mul", Mul, less1, api.Fe{1}, less1},
		{"Mul", Mul, less1, less1, api.Fe{1}},
		{"Mul", Mul, api.Fe{0, 0, 1}, api.Fe{0, 0, 1}, api.Fe{38}},
	} {
		if got, e := c.call(c.a, c.b); got != c.want || e != api.OK {
			t.Errorf("%s(%x, %x): %x %d, want %x 0", c.name, c.a, c.b, got, e, c.want)
		}
	}
}

// P1.1: a number that is not below the prime is refused on either side and on both.
func TestTwoRange(t *testing.T) {
	for _, c := range twos() {
		for _, bad := range outside() {
			pairs := [][2]api.Fe{{bad, bad}}
			for _, good := range inside() {
				pairs = append(pairs, [2]api.Fe{bad, good}, [2]api.Fe{good, bad})
			}
			for _, p := range pairs {
				if got, e := c.call(p[0], p[1]); got != (api.Fe{}) || e != api.ErrRange {
					t.Errorf("%s(%x, %x): %x %d, want nothing and ErrRange", c.name, p[0], p[1], got, e)
				}
			}
		}
	}
}

// P1.2: the product of a number and what Inv answers is 1, and there is but one such number.
func TestInv(t *testing.T) {
	l := inside()
	r := rand.New(rand.NewSource(4))
	for range 100 {
		l = append(l, draw(r))
	}
	for _, a := range l {
		got, e := Inv(a)
		if a == (api.Fe{}) {
			if got != (api.Fe{}) || e != api.OK {
				t.Errorf("Inv(0): %x %d, want 0 0", got, e)
			}
			continue
		}
		want := toFe(new(big.Int).ModInverse(toBig(a), thePrime))
		if got != want || e != api.OK {
			t.Errorf("Inv(%x): %x %d, want %x 0", a, got, e, want)
		}
		if one, e := Mul(a, got); one != (api.Fe{1}) || e != api.OK {
			t.Errorf("%x times what Inv answers: %x %d, want 1 0", a, one, e)
		}
	}
}

// P1.2: a number that is not below the prime is refused.
func TestInvRange(t *testing.T) {
	for _, bad := range outside() {
		if got, e := Inv(bad); got != (api.Fe{}) || e != api.ErrRange {
			t.Errorf("Inv(%x): %x %d, want nothing and ErrRange", bad, got, e)
		}
	}
}

// backwards tells a number's 32 bytes by way of big, which has the highest one first.
func backwards(n *big.Int) [32]byte {
	var b [32]byte
	n.FillBytes(b[:])
	for i := range 16 {
		b[i], b[31-i] = b[31-i], b[i]
	}
	return b
}

// P1.3: From takes all bytes, without the highest bit of the last one.
func TestFrom(t *testing.T) {
	l := append(inside(), outside()...)
	r := rand.New(rand.NewSource(5))
	for range 1000 {
		l = append(l, api.Fe{r.Uint64(), r.Uint64(), r.Uint64(), r.Uint64()})
	}
	for _, a := range l {
		n := toBig(a)
		want := leftOf(new(big.Int).SetBit(n, 255, 0))
		for bit := range uint(2) {
			b := backwards(new(big.Int).SetBit(n, 255, bit))
			if got := From(b); got != want {
				t.Errorf("From(%x): %x, want %x", b, got, want)
			}
		}
	}
}

// P1.3: each byte has its place.
func TestFromPlaces(t *testing.T) {
	for i := range 32 {
		for _, x := range []byte{1, 0x7f} {
			var b [32]byte
			b[i] = x
			want := toFe(new(big.Int).Lsh(big.NewInt(int64(x)), uint(8*i)))
			if got := From(b); got != want {
				t.Errorf("From(%x): %x, want %x", b, got, want)
			}
			if got, e := Bytes(want); got != b || e != api.OK {
				t.Errorf("Bytes(%x): %x %d, want %x 0", want, got, e, b)
			}
		}
	}
}

// P1.3: the edges, written out.
func TestFromWritten(t *testing.T) {
	var full, prime [32]byte
	for i := range full {
		full[i], prime[i] = 255, 255
	}
	prime[0], prime[31] = 0xed, 0x7f
	less1, more1, high := prime, prime, prime
	less1[0], more1[0], high[31] = 0xec, 0xee, 0xff
	for _, c := range []struct {
		b    [32]byte
		want api.Fe
	}{
		{[32]byte{}, api.Fe{}},
		{[32]byte{31: 0x80}, api.Fe{}},
		{[32]byte{1, 2, 31: 0x80}, api.Fe{513}},
		{[32]byte{31: 0x7f}, api.Fe{0, 0, 0, 0x7f00000000000000}},
		{less1, api.Fe{0xffffffffffffffec, all, all, 0x7fffffffffffffff}},
		{prime, api.Fe{}},
		{high, api.Fe{}},
		{more1, api.Fe{1}},
		{full, api.Fe{18}},
	} {
		if got := From(c.b); got != c.want {
			t.Errorf("From(%x): %x, want %x", c.b, got, c.want)
		}
	}
}

// P1.3: Bytes tells the lowest byte first, and From takes them back.
func TestBytes(t *testing.T) {
	for _, a := range inside() {
		want := backwards(toBig(a))
		got, e := Bytes(a)
		if got != want || e != api.OK {
			t.Errorf("Bytes(%x): %x %d, want %x 0", a, got, e, want)
		}
		if back := From(got); back != a {
			t.Errorf("From of Bytes(%x): %x", a, back)
		}
	}
}

// P1.3: a number that is not below the prime is refused.
func TestBytesRange(t *testing.T) {
	for _, bad := range outside() {
		if got, e := Bytes(bad); got != ([32]byte{}) || e != api.ErrRange {
			t.Errorf("Bytes(%x): %x %d, want nothing and ErrRange", bad, got, e)
		}
	}
}
