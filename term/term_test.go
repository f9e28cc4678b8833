package term

import (
	"fmt"
	"math"
	"math/rand"
	"reflect"
	"slices"
	"sync"
	"testing"

	"signet/api"
)

func atom(n int) api.Term         { return api.Term{Kind: api.Atom, Id: n} }
func pub(n int) api.Term          { return api.Term{Kind: api.Pub, Id: n} }
func dh(a, b int) api.Term        { return api.Term{Kind: api.Dh, Id: a, Other: b} }
func pair(a, b api.Term) api.Term { return made(api.Pair, a, b) }
func sum(t api.Term) api.Term     { return made(api.Sum, t) }

func kdf(n int, chain, mixed api.Term) api.Term {
	t := made(api.Kdf, chain, mixed)
	t.Id = n
	return t
}

func lock(key, beside, text api.Term) api.Term { return made(api.Lock, key, beside, text) }

func made(kind int, args ...api.Term) api.Term {
	return api.Term{Kind: kind, Args: slices.Clone(args)}
}

func terms(l ...api.Term) []api.Term { return l }

// chain answers a term within so many sums.
func chain(t api.Term, n int) api.Term {
	for range n {
		t = sum(t)
	}
	return t
}

// wide answers a term that may be, of so many terms (none of two).
func wide(n int) api.Term {
	if n%2 == 0 {
		return sum(wide(n - 1))
	}
	if n == 1 {
		return atom(1)
	}
	half := (n - 1) / 2
	if half%2 == 0 {
		half--
	}
	return pair(wide(half), wide(n-1-half))
}

// atoms answers so many atoms.
func atoms(n int) []api.Term {
	l := []api.Term{}
	for i := range n {
		l = append(l, atom(i))
	}
	return l
}

func copied(t api.Term) api.Term {
	t.Args = copiedAll(t.Args)
	return t
}

func copiedAll(l []api.Term) []api.Term {
	var out []api.Term
	for _, x := range l {
		out = append(out, copied(x))
	}
	return out
}

// roomy answers the same term, each list of which has spare room with something in it.
func roomy(t api.Term) api.Term {
	t.Args = roomyAll(t.Args)
	return t
}

func roomyAll(l []api.Term) []api.Term {
	var out []api.Term
	for _, x := range l {
		out = append(out, roomy(x))
	}
	return append(out, atom(77), pub(78), pair(atom(79), atom(80)))[:len(l)]
}

// spare answers all that stands in a term's lists, spare room too.
func spare(t api.Term) api.Term {
	t.Args = spareAll(t.Args)
	return t
}

func spareAll(l []api.Term) []api.Term {
	var out []api.Term
	for _, x := range l[:cap(l)] {
		out = append(out, spare(x))
	}
	return out
}

// emptied answers the same term, each list without elements of which is not nil.
func emptied(t api.Term) api.Term {
	l := []api.Term{}
	for _, x := range t.Args {
		l = append(l, emptied(x))
	}
	t.Args = l
	return t
}

func kinds() []int {
	return []int{api.Atom, api.Pub, api.Dh, api.Pair, api.Sum, api.Kdf, api.Lock}
}

// plain answers a term of a kind, with so many Args as it has.
func plain(kind int) api.Term {
	n := [...]int{api.Pair: 2, api.Sum: 1, api.Kdf: 2, api.Lock: 3}[kind]
	return made(kind, atoms(n)...)
}

func checkIs(t *testing.T, what string, x api.Term, want api.Errno) {
	t.Helper()
	if got := Check(x); got != want {
		t.Errorf("%s: %d, want %d", what, got, want)
	}
}

func knowsIs(t *testing.T, what string, want bool, x api.Term, l ...api.Term) {
	t.Helper()
	got, e := Knows(l, x)
	if got != want || e != api.OK {
		t.Errorf("%s: %t, %d, want %t", what, got, e, want)
	}
}

func refuses(t *testing.T, what string, want api.Errno, x api.Term, l ...api.Term) {
	t.Helper()
	got, e := Knows(l, x)
	if got || e != want {
		t.Errorf("%s: %t, %d, want false, %d", what, got, e, want)
	}
}

// P12.1, P12.2: a term of each kind may be, with any numbers that it may have.
func TestCheckOK(t *testing.T) {
	for _, kind := range kinds() {
		checkIs(t, fmt.Sprint("kind ", kind), plain(kind), api.OK)
	}
	for _, n := range []int{0, 1, 2, 10, 100, math.MaxInt} {
		checkIs(t, fmt.Sprint("atom ", n), atom(n), api.OK)
		checkIs(t, fmt.Sprint("pub ", n), pub(n), api.OK)
		checkIs(t, fmt.Sprint("dh 0 ", n), dh(0, n), api.OK)
		checkIs(t, fmt.Sprint("dh twice ", n), dh(n, n), api.OK)
		checkIs(t, fmt.Sprint("dh max ", n), dh(n, math.MaxInt), api.OK)
		checkIs(t, fmt.Sprint("kdf ", n), kdf(n, atom(n), pub(n)), api.OK)
	}
	checkIs(t, "dh 1 2", dh(1, 2), api.OK)
	all := lock(kdf(2, atom(0), dh(1, 4)), pair(pub(1), sum(pub(2))), lock(atom(1), atom(1), kdf(0, dh(0, 0), atom(9))))
	checkIs(t, "all kinds", all, api.OK)
	checkIs(t, "empty lists", emptied(all), api.OK)
}

// P12.2: the kinds that there are none of, at the top and within.
func TestCheckKind(t *testing.T) {
	for _, kind := range []int{0, -1, -7, math.MinInt, 8, 9, 100, math.MaxInt} {
		what := fmt.Sprint("kind ", kind)
		checkIs(t, what, api.Term{Kind: kind}, api.ErrKind)
		checkIs(t, what+" with Args", made(kind, atoms(2)...), api.ErrKind)
		checkIs(t, what+" within a sum", sum(api.Term{Kind: kind}), api.ErrKind)
		for at := range 3 {
			l := lock(atom(1), atom(2), atom(3))
			l.Args[at] = chain(api.Term{Kind: kind}, 5)
			checkIs(t, fmt.Sprint(what, " within a lock at ", at), l, api.ErrKind)
		}
	}
	checkIs(t, "a zero one", api.Term{}, api.ErrKind)
}

// P12.2: too few and too many Args of each kind.
func TestCheckArgs(t *testing.T) {
	for _, kind := range kinds() {
		n := len(plain(kind).Args)
		for have := range 8 {
			want := api.OK
			if have != n {
				want = api.ErrForm
			}
			x := made(kind, atoms(have)...)
			checkIs(t, fmt.Sprint(have, " Args of kind ", kind), x, want)
			checkIs(t, fmt.Sprint(have, " Args of kind ", kind, " within a pair"), pair(pub(1), x), want)
		}
	}
}

// P12.2: which Id and Other each kind may have.
func TestCheckNumbers(t *testing.T) {
	near := []int{math.MinInt, -2, -1, 0, 1, 2, 3, math.MaxInt}
	for _, kind := range kinds() {
		for _, id := range near {
			for _, other := range near {
				named := kind == api.Atom || kind == api.Pub || kind == api.Dh || kind == api.Kdf
				ok := id >= 0 && other >= 0 && (named || id == 0)
				if kind == api.Dh {
					ok = ok && id <= other
				} else {
					ok = ok && other == 0
				}
				want := api.ErrForm
				if ok {
					want = api.OK
				}
				x := plain(kind)
				x.Id, x.Other = id, other
				checkIs(t, fmt.Sprint("kind ", kind, " Id ", id, " Other ", other), x, want)
				checkIs(t, fmt.Sprint("kind ", kind, " Id ", id, " Other ", other, " within"), lock(atom(1), x, sum(atom(2))), want)
			}
		}
	}
}

// P12.2: at most MaxTerms terms, counted as often as they stand there.
func TestCheckTerms(t *testing.T) {
	for _, n := range []int{1, 3, 4, 150, api.MaxTerms - 1, api.MaxTerms} {
		if all, _ := bookSize(wide(n)); all != n {
			t.Fatalf("wide %d: %d", n, all)
		}
		checkIs(t, fmt.Sprint("wide ", n), wide(n), api.OK)
	}
	for _, n := range []int{api.MaxTerms + 1, api.MaxTerms + 2, 1000, 100000} {
		checkIs(t, fmt.Sprint("wide ", n), wide(n), api.ErrSize)
	}
	for at := range 3 {
		l := lock(atom(1), atom(2), atom(3))
		l.Args[at] = wide(api.MaxTerms - 3)
		checkIs(t, fmt.Sprint("a lock, wide at ", at), l, api.OK)
		l.Args[at] = wide(api.MaxTerms - 2)
		checkIs(t, fmt.Sprint("a lock, wider at ", at), l, api.ErrSize)
	}
	same := wide(149)
	checkIs(t, "twice the same", pair(same, same), api.OK)
	checkIs(t, "twice the same, and one more", sum(pair(same, same)), api.OK)
	checkIs(t, "twice the same, and two more", sum(sum(pair(same, same))), api.ErrSize)
	checkIs(t, "so many Args as there may be terms", made(api.Atom, atoms(api.MaxTerms-1)...), api.ErrForm)
	checkIs(t, "one Arg more", made(api.Atom, atoms(api.MaxTerms)...), api.ErrSize)
	checkIs(t, "many Args", made(api.Pair, atoms(1<<20)...), api.ErrSize)
}

// P12.2: at most MaxDepth terms within one another.
func TestCheckDepth(t *testing.T) {
	for n := range 100 {
		want := api.OK
		if n+1 > api.MaxDepth {
			want = api.ErrSize
		}
		checkIs(t, fmt.Sprint(n+1, " within one another"), chain(atom(1), n), want)
		want = api.OK
		if n+2 > api.MaxDepth {
			want = api.ErrSize
		}
		for at := range 3 {
			l := lock(atom(1), pub(2), dh(3, 4))
			l.Args[at] = chain(atom(1), n)
			checkIs(t, fmt.Sprint(n+2, " within one another at ", at), l, want)
		}
	}
	checkIs(t, "very deep", chain(atom(1), 1<<16), api.ErrSize)
}

// P12.2: a term whose parts share memory is counted as often as they stand there, and the count ends early.
func TestCheckShared(t *testing.T) {
	x := atom(1)
	for i := range 60 {
		want := api.OK
		if 1<<min(i+1, 30)-1 > api.MaxTerms {
			want = api.ErrSize
		}
		checkIs(t, fmt.Sprint("shared ", i), x, want)
		knowsIsErr(t, x, want)
		x = pair(x, x)
	}
	self := sum(atom(1))
	self.Args[0] = self
	checkIs(t, "within itself", self, api.ErrSize)
	knowsIsErr(t, self, api.ErrSize)
	both := pair(atom(1), atom(2))
	both.Args[0], both.Args[1] = both, both
	checkIs(t, "twice within itself", both, api.ErrSize)
	knowsIsErr(t, both, api.ErrSize)
}

func knowsIsErr(t *testing.T, x api.Term, want api.Errno) {
	t.Helper()
	if _, e := Knows(nil, x); e != want {
		t.Errorf("asked for: %d, want %d", e, want)
	}
	if _, e := Knows(terms(x), atom(1)); e != want {
		t.Errorf("known: %d, want %d", e, want)
	}
}

// P12.2: where several things are wrong, ErrSize is told first, then what stands further out, then what stands ahead.
func TestCheckOrder(t *testing.T) {
	none, bad := api.Term{Kind: 9}, atom(-1)
	few := api.Term{Kind: api.Pair, Args: terms(none)}
	for _, c := range []struct {
		what string
		x    api.Term
		want api.Errno
	}{
		{"no kind, and below 0", api.Term{Kind: 0, Id: -1, Other: -1}, api.ErrKind},
		{"no kind, ahead of what is in it", made(9, bad), api.ErrKind},
		{"too few Args, ahead of what is in them", few, api.ErrForm},
		{"too many Args, ahead of what is in them", made(api.Sum, none, none), api.ErrForm},
		{"below 0, ahead of what is in it", api.Term{Kind: api.Sum, Id: -1, Args: terms(none)}, api.ErrForm},
		{"Other, ahead of what is in it", api.Term{Kind: api.Kdf, Other: 1, Args: terms(none, none)}, api.ErrForm},
		{"Id, ahead of what is in it", api.Term{Kind: api.Lock, Id: 1, Args: terms(none, none, none)}, api.ErrForm},
		{"the first Arg", pair(bad, none), api.ErrForm},
		{"the first Arg, another way", pair(none, bad), api.ErrKind},
		{"the first Arg, deep", pair(chain(none, 9), bad), api.ErrKind},
		{"the first Arg, deep, another way", pair(chain(bad, 9), none), api.ErrForm},
		{"the second Arg of three", lock(atom(1), none, bad), api.ErrKind},
		{"the second Arg of three, another way", lock(atom(1), bad, none), api.ErrForm},
		{"the last Arg of three", lock(atom(1), atom(1), sum(none)), api.ErrKind},
		{"too deep, ahead of no kind", pair(none, chain(atom(1), api.MaxDepth)), api.ErrSize},
		{"not too deep, but no kind", made(0, chain(atom(1), api.MaxDepth-2)), api.ErrKind},
		{"too deep, ahead of its own kind", made(0, chain(atom(1), api.MaxDepth-1)), api.ErrSize},
		{"too many, ahead of its form", made(api.Dh, wide(api.MaxTerms)), api.ErrSize},
		{"not too many, but its form", made(api.Dh, wide(api.MaxTerms-1)), api.ErrForm},
		{"too many of a first that may not be", pair(bad, wide(api.MaxTerms-1)), api.ErrSize},
		{"within what has no kind all counts", made(-1, wide(api.MaxTerms)), api.ErrSize},
	} {
		checkIs(t, c.what, c.x, c.want)
	}
}

// P12.2: by the book, also of terms that are spoilt in several places.
func TestCheckBook(t *testing.T) {
	r := rand.New(rand.NewSource(12))
	count := map[api.Errno]int{}
	for range 20000 {
		x := drawTerm(r, 1+r.Intn(6))
		for range r.Intn(4) {
			spoilOne(r, &x)
		}
		want := bookCheck(x)
		count[want]++
		if got := Check(x); got != want {
			t.Fatalf("%s: %d, want %d", text(x), got, want)
		}
	}
	for _, e := range []api.Errno{api.OK, api.ErrSize, api.ErrKind, api.ErrForm} {
		if count[e] < 500 {
			t.Errorf("error %d only %d times", e, count[e])
		}
	}
}

// P12.3: what is the same in all is the same, whatever memory it stands in.
func TestSameYes(t *testing.T) {
	r := rand.New(rand.NewSource(13))
	for range 2000 {
		x := drawTerm(r, 1+r.Intn(6))
		for range r.Intn(2) {
			spoilOne(r, &x)
		}
		if !Same(x, x) || !Same(x, copied(x)) || !Same(roomy(x), x) || !Same(x, emptied(x)) || !Same(emptied(x), x) {
			t.Fatalf("%s is not the same as itself", text(x))
		}
	}
	if !Same(api.Term{}, api.Term{Args: []api.Term{}}) {
		t.Error("zero terms are not the same")
	}
	if !Same(chain(atom(1), 1<<12), chain(atom(1), 1<<12)) {
		t.Error("deep terms are not the same")
	}
	if !Same(wide(4001), wide(4001)) {
		t.Error("wide terms are not the same")
	}
}

// P12.3: what differs in any one part is not the same, at the top and deep within.
func TestSameNo(t *testing.T) {
	for _, x := range []api.Term{{}, {Kind: -3, Id: 5, Other: 7}, atom(1), pub(1), dh(1, 2), pair(atom(1), atom(2)), lock(atom(1), sum(pub(2)), kdf(3, dh(4, 5), pair(atom(6), atom(7))))} {
		for what, y := range changes(x) {
			if Same(x, y) || Same(y, x) {
				t.Errorf("%s, %s: the same", text(x), what)
			}
			for at := range 3 {
				a, b := lock(atom(1), atom(2), atom(3)), lock(atom(1), atom(2), atom(3))
				a.Args[at], b.Args[at] = chain(x, 20), chain(y, 20)
				if Same(a, b) || Same(b, a) {
					t.Errorf("%s, %s, within a lock at %d: the same", text(x), what, at)
				}
			}
		}
	}
	l := []api.Term{atom(1), pub(1), dh(1, 1), sum(atom(1)), sum(pub(1)), sum(sum(atom(1))), pair(atom(1), atom(1)), kdf(0, atom(1), atom(1)), kdf(1, atom(1), atom(1)), lock(atom(1), atom(1), atom(1)), pair(atom(1), atom(2)), pair(atom(2), atom(1)), pair(pair(atom(1), atom(2)), atom(3)), pair(atom(1), pair(atom(2), atom(3)))}
	for i, a := range l {
		for j, b := range l {
			if Same(a, b) != (i == j) {
				t.Errorf("%s and %s: %t", text(a), text(b), i != j)
			}
		}
	}
}

// changes answers terms each of which differs from another one in one part.
func changes(x api.Term) map[string]api.Term {
	m := map[string]api.Term{}
	change := func(what string, f func(*api.Term)) {
		y := copied(x)
		f(&y)
		m[what] = y
	}
	change("Kind", func(y *api.Term) { y.Kind++ })
	change("Kind far", func(y *api.Term) { y.Kind += 1 << 40 })
	change("Id", func(y *api.Term) { y.Id++ })
	change("Id far", func(y *api.Term) { y.Id += 1 << 40 })
	change("Other", func(y *api.Term) { y.Other-- })
	change("Other far", func(y *api.Term) { y.Other += 1 << 40 })
	change("one Arg more", func(y *api.Term) { y.Args = append(y.Args, api.Term{}) })
	change("one Arg more ahead", func(y *api.Term) { y.Args = append(terms(atom(1)), y.Args...) })
	for i := range x.Args {
		change(fmt.Sprint("one Arg less: ", i), func(y *api.Term) { y.Args = slices.Delete(y.Args, i, i+1) })
		for what, z := range changes(x.Args[i]) {
			change(fmt.Sprint("Arg ", i, ": ", what), func(y *api.Term) { y.Args[i] = z })
		}
	}
	return m
}

// P12.3: two terms are the same if they are told by the same text, also such that may not be.
func TestSameBook(t *testing.T) {
	r := rand.New(rand.NewSource(14))
	count := map[bool]int{}
	for range 20000 {
		a := drawTerm(r, 1+r.Intn(4))
		b := copied(a)
		switch r.Intn(3) {
		case 0:
			b = drawTerm(r, 1+r.Intn(2))
			a = drawTerm(r, 1+r.Intn(2))
		case 1:
			spoilOne(r, &b)
		}
		want := text(a) == text(b)
		count[want]++
		if Same(a, b) != want || Same(b, a) != want {
			t.Fatalf("%s and %s: want %t", text(a), text(b), want)
		}
	}
	if count[true] < 5000 || count[false] < 5000 {
		t.Errorf("drawn: %v", count)
	}
}

// P12.4: one has what he knows, of whatever kind, and nothing without knowing anything.
func TestKnowsWhatIsKnown(t *testing.T) {
	for _, x := range []api.Term{atom(0), atom(1), pub(1), dh(1, 2), dh(3, 3), pair(atom(1), atom(2)), sum(atom(1)), kdf(1, atom(1), atom(2)), lock(atom(1), atom(2), atom(3))} {
		knowsIs(t, text(x)+" alone", true, x, copied(x))
		knowsIs(t, text(x)+" twice", true, x, x, x)
		knowsIs(t, text(x)+" last", true, x, atom(50), pub(51), sum(atom(52)), x)
		knowsIs(t, text(x)+" first", true, x, x, atom(50), pub(51), sum(atom(52)))
		knowsIs(t, text(x)+" by others", false, x, atom(50), pub(51), sum(atom(52)))
		knowsIs(t, text(x)+" by nothing", false, x)
		if yes, e := Knows([]api.Term{}, x); yes || e != api.OK {
			t.Errorf("%s by an empty list: %t, %d", text(x), yes, e)
		}
	}
}

// P12.4: an atom is made by nobody who has it not; a Pub by who has its atom.
func TestKnowsAtomAndPub(t *testing.T) {
	knowsIs(t, "the Pub of an atom", true, pub(3), atom(3))
	knowsIs(t, "the Pub of atom 0", true, pub(0), atom(0))
	knowsIs(t, "the Pub of another atom", false, pub(3), atom(4), atom(2), atom(33))
	knowsIs(t, "the Pub of an atom of a Pair", true, pub(3), pair(atom(1), atom(3)))
	knowsIs(t, "the Pub of an atom in a Sum", false, pub(3), sum(atom(3)))
	knowsIs(t, "the atom of a Pub", false, atom(3), pub(3))
	knowsIs(t, "the atom of a Dh", false, atom(3), dh(3, 4), dh(1, 3), dh(3, 3), pub(3))
	knowsIs(t, "an atom of a Kdf's number", false, atom(3), kdf(3, atom(1), atom(2)))
	knowsIs(t, "a Pub of a Dh", false, pub(3), dh(3, 4), dh(1, 3), dh(3, 3))
	knowsIs(t, "a Pub whose number a Kdf has", false, pub(3), kdf(3, atom(1), atom(2)), atom(4))
}

// P12.4: a Dh is made by who has one of its atoms, and can make the Pub of the other one.
func TestKnowsDh(t *testing.T) {
	for _, c := range []struct {
		what string
		want bool
		l    []api.Term
	}{
		{"the lesser atom, and the other Pub", true, terms(atom(3), pub(8))},
		{"the other Pub ahead of the atom", true, terms(pub(8), atom(3))},
		{"the greater atom, and the other Pub", true, terms(atom(8), pub(3))},
		{"both atoms", true, terms(atom(3), atom(8))},
		{"both Pubs", false, terms(pub(3), pub(8))},
		{"the lesser atom alone", false, terms(atom(3))},
		{"the greater atom alone", false, terms(atom(8))},
		{"an atom and its own Pub", false, terms(atom(3), pub(3))},
		{"the greater one and its own Pub", false, terms(atom(8), pub(8))},
		{"a Pub alone", false, terms(pub(8))},
		{"another atom", false, terms(atom(4), pub(3), pub(8))},
		{"another Pub", false, terms(atom(3), pub(4), pub(9))},
		{"other Dhs", false, terms(dh(3, 4), dh(4, 8), dh(3, 3), dh(8, 8), atom(3))},
		{"the Dh itself", true, terms(dh(3, 8))},
		{"an atom of a Pair, and a Pub of another one", true, terms(pair(atom(1), atom(8)), pair(pub(3), atom(2)))},
		{"the atom in a Sum", false, terms(sum(atom(3)), pub(8), pub(3))},
		{"a Pub in a Sum", false, terms(atom(3), sum(pub(8)))},
		{"a Pub that is locked", false, terms(atom(3), lock(atom(4), atom(0), pub(8)))},
		{"a Pub that is locked, and its key", true, terms(atom(3), lock(atom(4), atom(0), pub(8)), atom(4))},
		{"an atom that is locked by a Dh", true, terms(lock(dh(1, 2), atom(0), atom(3)), atom(2), pub(1), pub(8))},
	} {
		knowsIs(t, c.what, c.want, dh(3, 8), c.l...)
	}
	knowsIs(t, "of one atom twice", true, dh(3, 3), atom(3))
	knowsIs(t, "of one atom twice, by its Pub", false, dh(3, 3), pub(3))
	knowsIs(t, "of one atom twice, by another one", false, dh(3, 3), atom(4), pub(3))
	knowsIs(t, "of atom 0", true, dh(0, 5), atom(0), pub(5))
	knowsIs(t, "a Dh that was heard gives no Pub", false, dh(3, 9), dh(3, 8), atom(9))
	knowsIs(t, "an atom of a Dh that was heard", false, dh(3, 9), dh(3, 8), atom(8), pub(9))
}

// P12.4: a Pair gives both Args, and is made of both.
func TestKnowsPair(t *testing.T) {
	x, y := sum(atom(1)), lock(atom(2), atom(3), atom(4))
	knowsIs(t, "the first Arg", true, x, pair(x, y))
	knowsIs(t, "the second Arg", true, y, pair(x, y))
	knowsIs(t, "nothing in them", false, atom(1), pair(x, y))
	knowsIs(t, "the other way round", true, pair(y, x), pair(x, y))
	knowsIs(t, "made of both", true, pair(x, y), x, y)
	knowsIs(t, "made of the first alone", false, pair(x, y), x)
	knowsIs(t, "made of the second alone", false, pair(x, y), y)
	knowsIs(t, "twice the same", true, pair(x, x), x)
	knowsIs(t, "made of what can be made", true, pair(pub(1), dh(1, 2)), atom(1), pub(2))
	deep := atom(5)
	for i := range 19 {
		deep = pair(pair(atom(i+10), deep), pub(i+10))
	}
	knowsIs(t, "deep within pairs", true, atom(5), deep)
	knowsIs(t, "a pub deep within pairs", true, pub(15), deep)
	knowsIs(t, "all of it, made anew", true, pair(atom(28), pair(atom(5), atom(10))), deep)
	knowsIs(t, "what is not in it", false, atom(6), deep)
	knowsIs(t, "a Pair within a Sum", false, atom(1), sum(pair(atom(1), atom(2))))
}

// P12.4: a Sum, a Kdf and a Lock are made by who can make all their Args, and tell nothing of them.
func TestKnowsMade(t *testing.T) {
	for _, kind := range []int{api.Pair, api.Sum, api.Kdf, api.Lock} {
		x := plain(kind)
		for i := range x.Args {
			x.Args[i] = pub(i + 1)
		}
		n := len(x.Args)
		for set := range 1 << n {
			var l, secret []api.Term
			for i := range n {
				if set>>i&1 == 1 {
					l = append(l, pub(i+1))
					secret = append(secret, atom(i+1))
				}
			}
			what := fmt.Sprint("kind ", kind, " of the set ", set)
			knowsIs(t, what, set == 1<<n-1, x, l...)
			knowsIs(t, what+" that is made", set == 1<<n-1, x, secret...)
			knowsIs(t, what+" within a Sum", set == 1<<n-1, sum(x), secret...)
		}
	}
	for i := range 2 {
		knowsIs(t, "an Arg of a Kdf", false, atom(i), kdf(1, atom(0), atom(1)))
		knowsIs(t, "an Arg of a Lock", false, atom(i), lock(atom(0), atom(1), atom(2)))
	}
	knowsIs(t, "an Arg of a Sum", false, atom(0), sum(atom(0)))
	knowsIs(t, "another Kdf of the same", true, kdf(2, atom(0), atom(1)), atom(0), atom(1))
	knowsIs(t, "another Kdf than was heard", false, kdf(2, atom(0), atom(1)), kdf(1, atom(0), atom(1)), atom(0))
	knowsIs(t, "a Kdf the other way round", false, kdf(1, atom(1), atom(0)), kdf(1, atom(0), atom(1)))
	knowsIs(t, "a Kdf of a Kdf that was heard", true, kdf(1, kdf(2, atom(8), atom(9)), atom(1)), kdf(2, atom(8), atom(9)), atom(1))
	knowsIs(t, "a Sum of a Sum that was heard", true, sum(sum(atom(1))), sum(atom(1)))
	knowsIs(t, "back from a Sum of a Sum", false, sum(atom(1)), sum(sum(atom(1))))
	knowsIs(t, "a Lock with what was heard in a Lock", true, lock(atom(1), pub(2), lock(atom(5), atom(6), atom(7))), atom(1), pub(2), lock(atom(5), atom(6), atom(7)))
}

// P12.4: the text of a Lock is got by who can make its key; neither the key nor what is beside is.
func TestKnowsLock(t *testing.T) {
	x := lock(kdf(2, atom(0), dh(1, 2)), sum(atom(3)), atom(4))
	key := terms(atom(0), atom(1), pub(2))
	knowsIs(t, "without a key", false, atom(4), x)
	knowsIs(t, "with its key", true, atom(4), x, kdf(2, atom(0), dh(1, 2)))
	knowsIs(t, "with its key, ahead", true, atom(4), kdf(2, atom(0), dh(1, 2)), x)
	knowsIs(t, "with a key that can be made", true, atom(4), append(key, x)...)
	knowsIs(t, "with a key, a part of which can't be made", false, atom(4), x, atom(0), pub(1), pub(2))
	knowsIs(t, "with another key", false, atom(4), x, kdf(1, atom(0), dh(1, 2)))
	knowsIs(t, "the key of a Lock", false, kdf(2, atom(0), dh(1, 2)), x, atom(4), sum(atom(3)))
	knowsIs(t, "what is beside", false, sum(atom(3)), append(key, x)...)
	knowsIs(t, "with what is beside, but no key", false, atom(4), x, sum(atom(3)), atom(3))
	knowsIs(t, "a Lock within a Sum", false, atom(4), append(key, sum(x))...)
	knowsIs(t, "a Lock that can be made, but for its text", false, atom(4), append(key, sum(atom(3)))...)
	own := lock(atom(5), atom(0), atom(5))
	knowsIs(t, "a key locked by itself", false, atom(5), own)
	knowsIs(t, "two keys, each locked by the other one", false, atom(5), lock(atom(5), atom(0), atom(6)), lock(atom(6), atom(0), atom(5)))
	knowsIs(t, "of which one is known", true, atom(5), lock(atom(5), atom(0), atom(6)), lock(atom(6), atom(0), atom(5)), atom(6))
	knowsIs(t, "a Pair in a Lock", true, atom(7), lock(atom(1), atom(0), pair(atom(6), atom(7))), atom(1))
	knowsIs(t, "a Lock in a Lock, by one key", true, atom(7), lock(atom(1), atom(0), lock(atom(1), atom(0), atom(7))), atom(1))
	knowsIs(t, "a Lock in a Lock, by another key", false, atom(7), lock(atom(1), atom(0), lock(atom(2), atom(0), atom(7))), atom(1))
	knowsIs(t, "a key in a Lock's own text", true, atom(7), lock(atom(1), atom(0), pair(atom(2), lock(atom(2), atom(0), atom(7)))), atom(1))
	knowsIs(t, "a key in a Pair behind", true, atom(7), lock(atom(2), atom(0), atom(7)), pair(atom(3), pair(atom(4), atom(2))))
	knowsIs(t, "a key that is a text", true, atom(7), lock(atom(2), atom(0), atom(7)), lock(sum(atom(3)), atom(0), atom(2)), atom(3))
	knowsIs(t, "a key that is a Pair of texts", true, atom(7), lock(pair(atom(2), atom(3)), atom(0), atom(7)), lock(atom(4), atom(0), atom(3)), lock(atom(5), atom(0), pair(atom(2), atom(4))), atom(5))
	knowsIs(t, "a key that is a Lock", true, atom(7), lock(lock(atom(1), atom(2), atom(3)), atom(0), atom(7)), atom(1), atom(2), atom(3))
}

// P12.4: locks in a row, each of which gives the key of another one, whatever their order.
func TestKnowsRow(t *testing.T) {
	const n = 60
	r := rand.New(rand.NewSource(15))
	var row []api.Term
	for i := range n {
		row = append(row, lock(atom(i), pub(99), atom(i+1)))
	}
	for _, order := range [][]int{r.Perm(n), r.Perm(n), r.Perm(n), upTo(n), down(n)} {
		var l []api.Term
		for _, i := range order {
			l = append(l, row[i])
		}
		knowsIs(t, "the whole row", true, atom(n), append(l, atom(0))...)
		knowsIs(t, "from amidst", true, atom(n), append(l, atom(30))...)
		knowsIs(t, "backwards", false, atom(29), append(l, atom(30))...)
		knowsIs(t, "without the first key", false, atom(n), l...)
		gap := slices.DeleteFunc(l, func(x api.Term) bool { return x.Args[0].Id == 40 })
		knowsIs(t, "up to a gap", true, atom(40), append(gap, atom(0))...)
		knowsIs(t, "over a gap", false, atom(41), append(gap, atom(0))...)
	}
}

func upTo(n int) []int {
	var l []int
	for i := range n {
		l = append(l, i)
	}
	return l
}

func down(n int) []int {
	l := upTo(n)
	slices.Reverse(l)
	return l
}

// P12.4: known terms have at most MaxTerms terms together, and at most MaxDepth within one another each.
func TestKnowsSize(t *testing.T) {
	knowsIs(t, "MaxTerms atoms", true, atom(7), atoms(api.MaxTerms)...)
	refuses(t, "an atom more", api.ErrSize, atom(7), atoms(api.MaxTerms+1)...)
	refuses(t, "very many atoms", api.ErrSize, atom(7), atoms(1<<20)...)
	knowsIs(t, "one wide", true, atom(1), wide(api.MaxTerms-1))
	knowsIs(t, "one as wide as may be", true, wide(api.MaxTerms), wide(api.MaxTerms))
	refuses(t, "one too wide", api.ErrSize, atom(1), wide(api.MaxTerms+1))
	knowsIs(t, "two wide", true, atom(1), wide(151), wide(149))
	refuses(t, "two wide, and an atom", api.ErrSize, atom(1), wide(151), wide(149), atom(1))
	refuses(t, "the same twice", api.ErrSize, atom(1), wide(151), wide(151))
	deep := chain(atom(1), api.MaxDepth-1)
	knowsIs(t, "deep", true, deep, deep)
	knowsIs(t, "several deep", true, deep, pub(2), deep, deep, deep)
	refuses(t, "too deep", api.ErrSize, atom(1), chain(atom(1), api.MaxDepth))
	refuses(t, "too deep, behind others", api.ErrSize, atom(1), atom(1), deep, chain(atom(1), api.MaxDepth))
	knowsIs(t, "a deep term to make", true, deep, atom(1))
	refuses(t, "too deep a term to make", api.ErrSize, chain(atom(1), api.MaxDepth), atom(1))
	refuses(t, "a deep term, to make more of", api.ErrSize, sum(deep), deep)
	knowsIs(t, "a wide term to make", true, wide(api.MaxTerms), atom(1))
	knowsIs(t, "both wide", true, wide(api.MaxTerms), wide(api.MaxTerms))
	refuses(t, "too wide a term to make", api.ErrSize, wide(api.MaxTerms+1), atom(1))
	refuses(t, "a wide term, to make more of", api.ErrSize, sum(wide(api.MaxTerms)), wide(api.MaxTerms))
}

// P12.4: what Check refuses is refused, of each term that is known and of the one to make, in this order.
func TestKnowsOrder(t *testing.T) {
	none, bad, deep, broad := api.Term{}, dh(2, 1), chain(atom(1), api.MaxDepth), wide(api.MaxTerms+1)
	for _, c := range []struct {
		what string
		want api.Errno
		x    api.Term
		l    []api.Term
	}{
		{"no kind known", api.ErrKind, atom(1), terms(none)},
		{"not in form known", api.ErrForm, atom(1), terms(bad)},
		{"no kind known, behind what is asked for", api.ErrKind, atom(1), terms(atom(1), atom(2), none)},
		{"not in form known, behind what is asked for", api.ErrForm, atom(1), terms(atom(1), atom(2), sum(bad))},
		{"the first one's", api.ErrForm, atom(1), terms(atom(1), bad, none)},
		{"the first one's, another way", api.ErrKind, atom(1), terms(none, bad)},
		{"the first one's, deep within", api.ErrForm, atom(1), terms(pair(atom(1), chain(bad, 7)), none)},
		{"no kind to make", api.ErrKind, none, nil},
		{"not in form to make", api.ErrForm, bad, terms(atom(1), atom(2))},
		{"no kind, known and to make", api.ErrKind, none, terms(none)},
		{"not in form, known and to make", api.ErrForm, bad, terms(bad)},
		{"known ahead of to make", api.ErrKind, bad, terms(none)},
		{"known ahead of to make, another way", api.ErrForm, none, terms(atom(1), bad)},
		{"known ahead of too deep to make", api.ErrForm, deep, terms(bad)},
		{"known ahead of too wide to make", api.ErrKind, broad, terms(none)},
		{"too deep ahead of an earlier one", api.ErrSize, atom(1), terms(none, bad, deep)},
		{"too many together ahead of an earlier one", api.ErrSize, atom(1), terms(none, wide(api.MaxTerms))},
		{"too wide ahead of what is to be made", api.ErrSize, none, terms(broad)},
		{"too deep to make ahead of its form", api.ErrSize, pair(none, deep), terms(atom(1))},
		{"too wide to make ahead of its form", api.ErrSize, pair(bad, broad), nil},
		{"below 0 to make", api.ErrForm, atom(-1), terms(atom(1))},
		{"too few Args known", api.ErrForm, atom(1), terms(made(api.Lock, atom(1), atom(2)))},
		{"no Args of a Pair known", api.ErrForm, atom(1), terms(made(api.Pair))},
		{"too few Args to make", api.ErrForm, made(api.Lock, atom(1), atom(1)), terms(atom(1))},
	} {
		refuses(t, c.what, c.want, c.x, c.l...)
	}
}

// P12.4: by the book, on many terms made by chance.
func TestKnowsBook(t *testing.T) {
	r := rand.New(rand.NewSource(16))
	count := map[bool]int{}
	for range 15000 {
		l, x := drawKnown(r)
		if e := bookErr(l, x); e != api.OK {
			refuses(t, text(x), e, x, l...)
			continue
		}
		want := bookKnows(l, x)
		count[want]++
		if got, e := Knows(l, x); got != want || e != api.OK {
			t.Fatalf("%s by %v: %t, %d, want %t", text(x), l, got, e, want)
		}
	}
	if count[true] < 3000 || count[false] < 3000 {
		t.Errorf("drawn: %v", count)
	}
}

// P12.4: what is refused, by the book, of terms that are spoilt.
func TestKnowsBookErrors(t *testing.T) {
	r := rand.New(rand.NewSource(17))
	count := map[api.Errno]int{}
	for range 5000 {
		l, x := drawKnown(r)
		l, x = copiedAll(l), copied(x)
		for range r.Intn(3) {
			if n := r.Intn(len(l) + 1); n < len(l) {
				spoilOne(r, &l[n])
			} else {
				spoilOne(r, &x)
			}
		}
		want := bookErr(l, x)
		count[want]++
		got, e := Knows(l, x)
		if e != want || e != api.OK && got {
			t.Fatalf("%s by %v: %t, %d, want %d", text(x), l, got, e, want)
		}
		if e == api.OK && got != bookKnows(l, x) {
			t.Fatalf("%s by %v: %t", text(x), l, got)
		}
	}
	for _, e := range []api.Errno{api.OK, api.ErrSize, api.ErrKind, api.ErrForm} {
		if count[e] < 100 {
			t.Errorf("error %d only %d times", e, count[e])
		}
	}
}

// P12.4: the order of what is known does not count, nor does what follows from it; knowing more takes nothing away.
func TestKnowsMore(t *testing.T) {
	r := rand.New(rand.NewSource(18))
	for range 5000 {
		l, x := drawKnown(r)
		more, y := drawKnown(r)
		yes, e := Knows(l, x)
		if e != api.OK {
			continue
		}
		mixed := slices.Clone(l)
		r.Shuffle(len(mixed), func(i, j int) { mixed[i], mixed[j] = mixed[j], mixed[i] })
		if got, _ := Knows(mixed, x); got != yes {
			t.Fatalf("%s by %v: %t, in another order %t", text(x), l, yes, got)
		}
		if got, e := Knows(slices.Concat(more, l), x); yes && !got && e == api.OK {
			t.Fatalf("%s by %v, but not by %v, too", text(x), l, more)
		}
		if !yes {
			continue
		}
		without, e := Knows(l, y)
		with, f := Knows(append(slices.Clone(l), x), y)
		if e == api.OK && f == api.OK && without != with {
			t.Fatalf("%s by %v: %t, with %s, which follows, %t", text(y), l, without, text(x), with)
		}
	}
}

// P12.2 to P12.4: no argument is changed, spare room neither; lists without elements may be nil or not.
func TestArgumentsStay(t *testing.T) {
	r := rand.New(rand.NewSource(19))
	for range 2000 {
		l, x := drawKnown(r)
		l, x = roomyAll(copiedAll(l)), roomy(copied(x))
		for range r.Intn(2) {
			spoilOne(r, &x)
		}
		keepL, keepX := spareAll(l), spare(x)
		yes, e := Knows(l, x)
		Check(x)
		Same(x, x)
		for _, y := range l {
			Check(y)
			Same(x, y)
		}
		if !reflect.DeepEqual(spareAll(l), keepL) || !reflect.DeepEqual(spare(x), keepX) {
			t.Fatalf("%s by %v: changed", text(x), l)
		}
		empty := []api.Term{}
		for _, y := range l {
			empty = append(empty, emptied(y))
		}
		if got, f := Knows(empty, emptied(x)); got != yes || f != e {
			t.Fatalf("%s by %v: %t, %d, with empty lists %t, %d", text(x), l, yes, e, got, f)
		}
	}
}

// P12.4: nothing is kept from call to call, also of calls that run at once on the same terms.
func TestNothingKept(t *testing.T) {
	l := roomyAll(terms(lock(atom(1), atom(0), atom(2)), lock(atom(2), atom(0), atom(3)), atom(1)))
	var all sync.WaitGroup
	for range 16 {
		all.Go(func() {
			for range 200 {
				if yes, e := Knows(l, atom(3)); !yes || e != api.OK {
					t.Errorf("with the key: %t, %d", yes, e)
				}
				if yes, e := Knows(l[:2], atom(3)); yes || e != api.OK {
					t.Errorf("without the key: %t, %d", yes, e)
				}
			}
		})
	}
	all.Wait()
}

// P12.4: many keys, each of many parts and found one behind the other, end soon.
func TestKnowsEnds(t *testing.T) {
	const n = 19
	var l []api.Term
	for i := range n {
		at := n - i
		key := pair(pair(atom(at-1), sum(atom(at-1))), pair(pub(99), pub(99)))
		l = append(l, lock(key, atom(0), pair(atom(at), pair(pub(99), atom(at)))))
	}
	knowsIs(t, "without what they need", false, atom(n), append(l, atom(0))...)
	knowsIs(t, "with it", true, atom(n), append(l, atom(0), pub(99))...)
}
