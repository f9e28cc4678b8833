package trace

import (
	"fmt"
	"math"
	"math/rand"
	"slices"
	"strings"
	"sync"
	"testing"

	"signet/api"
	"signet/chacha"
	keysof "signet/kdf"
	"signet/ladder"
	"signet/pattern"
	"signet/shake"
	"signet/symm"
	"signet/term"
)

func protocol(name string) string { return "Noise_" + name + "_25519_ChaChaPoly_BLAKE2s" }

// of answers the pattern of a name, in short.
func of(name string) api.Pattern {
	p, e := pattern.Parse(protocol(name))
	if e != api.OK {
		panic(name)
	}
	return p
}

// made answers a pattern without a name, of turns that are written as the document writes them: E, EE; S, SE.
func made(turns string) api.Pattern {
	var p api.Pattern
	for turn := range strings.SplitSeq(turns, ";") {
		p.Turns = append(p.Turns, tokens(turn))
	}
	return p
}

func tokens(s string) []int {
	l := []int{}
	for w := range strings.SplitSeq(s, ",") {
		if i := slices.Index(words(), strings.TrimSpace(w)); i > 0 {
			l = append(l, i)
		}
	}
	return l
}

// ahead answers the same pattern, of which these are known ahead.
func ahead(p api.Pattern, first, other string) api.Pattern {
	p.Pre = [2][]int{tokens(first), tokens(other)}
	return p
}

func late(p api.Pattern) api.Pattern {
	p.Late = true
	return p
}

// withPsks answers the same pattern, that says to have so many psks.
func withPsks(p api.Pattern, n int) api.Pattern {
	p.Psks = make([]int, n)
	return p
}

// tellsIs tries Told: of each term as it is, or behind what was mixed in by then: D3.4 D2.3 103 A21.
func tellsIs(t *testing.T, what string, p api.Pattern, want string) {
	t.Helper()
	got, e := Told(p)
	var l []string
	for x := range strings.SplitSeq(want, ";") {
		l = append(l, locked(strings.Fields(x)))
	}
	if e != api.OK || !slices.Equal(textAll(got), l) {
		t.Errorf("%s: error %d\n%s\nwant\n%s", what, e, strings.Join(textAll(got), "\n"), strings.Join(l, "\n"))
	}
}

// locked answers a term as text tells it: behind what was mixed in stand the number of what is beside, and the text.
func locked(parts []string) string {
	n := len(parts)
	if n == 1 {
		return parts[0]
	}
	chain := "A0"
	for _, m := range parts[:n-3] {
		chain = "K1(" + chain + "," + m + ")"
	}
	return "L(K2(" + chain + "," + parts[n-3] + "),A" + parts[n-2] + "," + parts[n-1] + ")"
}

func refusesIs(t *testing.T, what string, p api.Pattern, want api.Errno) {
	t.Helper()
	l, e := Told(p)
	if len(l) != 0 || e != want {
		t.Errorf("%s: Told %v, error %d, want %d", what, textAll(l), e, want)
	}
	hiddenRefusesIs(t, what, p, nil, 0, want)
}

func hiddenRefusesIs(t *testing.T, what string, p api.Pattern, secrets []int, turn int, want api.Errno) {
	t.Helper()
	if yes, e := Hidden(p, secrets, turn); yes || e != want {
		t.Errorf("%s: Hidden %t, error %d, want %d", what, yes, e, want)
	}
}

func hiddenIs(t *testing.T, what string, want bool, p api.Pattern, turn int, secrets ...int) {
	t.Helper()
	if yes, e := Hidden(p, secrets, turn); yes != want || e != api.OK {
		t.Errorf("%s, turn %d, secrets %v: %t, error %d, want %t", what, turn, secrets, yes, e, want)
	}
}

// P13.1, P13.2: what each base pattern tells.
func TestToldBases(t *testing.T) {
	for name, want := range map[string]string{
		"NN":         "P3; A20; P4; D3.4 103 A21",
		"NK":         "P3; D2.3 101 A20; P4; D2.3 D3.4 103 A21",
		"XX":         "P3; A20; P4; D3.4 103 P2; D3.4 D2.3 104 A21; D3.4 D2.3 105 P1; D3.4 D2.3 D1.4 106 A22",
		"IK":         "P3; D2.3 101 P1; D2.3 D1.2 102 A20; P4; D2.3 D1.2 D3.4 D1.4 104 A21",
		"XK":         "P3; D2.3 101 A20; P4; D2.3 D3.4 103 A21; D2.3 D3.4 104 P1; D2.3 D3.4 D1.4 105 A22",
		"KK":         "P3; D2.3 D1.2 101 A20; P4; D2.3 D1.2 D3.4 D1.4 103 A21",
		"XXfallback": "P4; D3.4 101 P2; D3.4 D2.3 102 A20; D3.4 D2.3 103 P1; D3.4 D2.3 D1.4 104 A21",
	} {
		tellsIs(t, name, of(name), want)
	}
}

// P13.2: with psks each E is mixed in, told or known ahead; the psks stand where their tokens do.
func TestToldPsks(t *testing.T) {
	for name, want := range map[string]string{
		"NNpsk0":           "P3; A10 P3 101 A20; P4; A10 P3 P4 D3.4 103 A21",
		"NNpsk1":           "P3; P3 A10 101 A20; P4; P3 A10 P4 D3.4 103 A21",
		"NNpsk2":           "P3; P3 101 A20; P4; P3 P4 D3.4 A10 103 A21",
		"NNpsk0+psk1+psk2": "P3; A10 P3 A11 101 A20; P4; A10 P3 A11 P4 D3.4 A12 103 A21",
		"XXpsk3": "P3; P3 101 A20; P4; P3 P4 D3.4 103 P2; P3 P4 D3.4 D2.3 104 A21; P3 P4 D3.4 D2.3 105 P1;" +
			"P3 P4 D3.4 D2.3 D1.4 A10 106 A22",
		"XXpsk0+psk1+psk2+psk3": "P3; A10 P3 A11 101 A20; P4; A10 P3 A11 P4 D3.4 103 P2; A10 P3 A11 P4 D3.4 D2.3 A12 104 A21;" +
			"A10 P3 A11 P4 D3.4 D2.3 A12 105 P1; A10 P3 A11 P4 D3.4 D2.3 A12 D1.4 A13 106 A22",
		"IKpsk1+psk2": "P3; P3 D2.3 101 P1; P3 D2.3 D1.2 A10 102 A20; P4; P3 D2.3 D1.2 A10 P4 D3.4 D1.4 A11 104 A21",
		"XXfallbackpsk0": "P4; P3 A10 P4 D3.4 101 P2; P3 A10 P4 D3.4 D2.3 102 A20; P3 A10 P4 D3.4 D2.3 103 P1;" +
			"P3 A10 P4 D3.4 D2.3 D1.4 104 A21",
		"XXfallbackpsk2": "P4; P3 P4 D3.4 101 P2; P3 P4 D3.4 D2.3 102 A20; P3 P4 D3.4 D2.3 103 P1;" +
			"P3 P4 D3.4 D2.3 D1.4 A10 104 A21",
	} {
		tellsIs(t, name, of(name), want)
	}
}

// P13.2: terms written out whole: the key is the Kdf 2, the chain the Kdf 1 of the chain ahead.
func TestToldWhole(t *testing.T) {
	for name, want := range map[string]string{
		"NN":     "P3 A20 P4 L(K2(A0,D3.4),A103,A21)",
		"NK":     "P3 L(K2(A0,D2.3),A101,A20) P4 L(K2(K1(A0,D2.3),D3.4),A103,A21)",
		"NNpsk0": "P3 L(K2(K1(A0,A10),P3),A101,A20) P4 L(K2(K1(K1(K1(A0,A10),P3),P4),D3.4),A103,A21)",
		"XX": "P3 A20 P4 L(K2(A0,D3.4),A103,P2) L(K2(K1(A0,D3.4),D2.3),A104,A21) " +
			"L(K2(K1(A0,D3.4),D2.3),A105,P1) L(K2(K1(K1(A0,D3.4),D2.3),D1.4),A106,A22)",
	} {
		l, e := Told(of(name))
		if got := strings.Join(textAll(l), " "); got != want || e != api.OK {
			t.Errorf("%s: error %d\n%s\nwant\n%s", name, e, got, want)
		}
	}
	same := api.Term{Kind: api.Lock, Args: []api.Term{
		{Kind: api.Kdf, Id: 2, Args: []api.Term{{Kind: api.Atom}, {Kind: api.Dh, Id: 3, Other: 4}}},
		{Kind: api.Atom, Id: 103}, {Kind: api.Atom, Id: 21}}}
	if l, _ := Told(of("NN")); len(l) != 4 || !term.Same(l[3], same) {
		t.Errorf("NN: %v", textAll(l))
	}
}

// P13.2: patterns that have no name: S ahead of any key, E known ahead of either, tokens in any order, five turns.
func TestToldMade(t *testing.T) {
	both := ahead(made("EE"), "E", "E")
	for _, c := range []struct {
		what string
		p    api.Pattern
		want string
	}{
		{"a turn of nothing", made(""), "A20"},
		{"turns of nothing", made(";;;;"), "A20; A21; A22; A23; A24"},
		{"turns of nothing, late", late(made(";;")), "A20; A21; A22"},
		{"S ahead of any key", made("E, S; E, S, EE, SE"), "P3; P1; A20; P4; P2; D3.4 D1.4 105 A21"},
		{"S ahead of any key, late", late(made("S, E; S, E, EE, ES")), "P2; P4; A20; P1; P3; D3.4 D2.3 105 A21"},
		{"S behind a key", made("E; E, EE, S; S"), "P3; A20; P4; D3.4 103 P2; D3.4 104 A21; D3.4 105 P1; D3.4 106 A22"},
		{"all mixed in another order", ahead(made("E; E, EE, SE, ES, SS"), "S", "S"), "P3; A20; P4; D3.4 D1.4 D2.3 D1.2 103 A21"},
		{"E of both ahead", both, "D3.4 100 A20"},
		{"E of both ahead, late", late(both), "D3.4 100 A20"},
		{"E of both ahead, psks", withPsks(both, 1), "P3 P4 D3.4 100 A20"},
		{"E of both ahead, psks, late", withPsks(late(both), 4), "P3 P4 D3.4 100 A20"},
		{"E of who begins ahead, psks", withPsks(ahead(made("; E, S, EE; S"), "E", ""), 1),
			"P3 100 A20; P4; P3 P4 102 P2; P3 P4 D3.4 103 A21; P3 P4 D3.4 104 P1; P3 P4 D3.4 105 A22"},
		{"E of the other one ahead, psks", withPsks(ahead(made("; ; E, EE"), "", "S, E"), 1),
			"P4 100 A20; P4 101 A21; P3; P4 P3 D3.4 103 A22"},
		{"E and S of both ahead, no psks", ahead(made("EE, ES; SE, SS"), "S, E", "E, S"),
			"D3.4 D2.3 100 A20; D3.4 D2.3 D1.4 D1.2 101 A21"},
		{"psks, but no token of one", withPsks(made("E; E, EE"), 1), "P3; P3 101 A20; P4; P3 P4 D3.4 103 A21"},
		{"psks, no token at all", withPsks(made(";"), 2), "A20; A21"},
		{"tokens of psks, but no psks", made("E, Psk; Psk, E, Psk"), "P3; A10 101 A20; P4; A10 A11 A12 103 A21"},
		{"psks behind one another", withPsks(made("Psk, Psk, E, Psk, Psk; E, Psk"), 4),
			"P3; A10 A11 P3 A12 A13 101 A20; P4; A10 A11 P3 A12 A13 P4 A14 103 A21"},
		{"a psk between what is told", withPsks(made("E, S, Psk; E, Psk, S, EE"), 2),
			"P3; P3 101 P1; P3 A10 102 A20; P4; P3 A10 P4 A11 104 P2; P3 A10 P4 A11 D3.4 105 A21"},
		{"five turns", made("E; E; S, EE; S, ES; SE"),
			"P3; A20; P4; A21; P1; D3.4 105 A22; D3.4 106 P2; D3.4 D2.3 107 A23; D3.4 D2.3 D1.4 108 A24"},
	} {
		tellsIs(t, c.what, c.p, c.want)
	}
}

// P13.2: which Dh each token is, also where who begins is late; the lesser atom first.
func TestToldDh(t *testing.T) {
	for turns, want := range map[string]string{
		"EE":             "D3.4 100 A20",
		"EE; ES":         "D3.4 100 A20; D3.4 D2.3 101 A21",
		"EE; SE":         "D3.4 100 A20; D3.4 D1.4 101 A21",
		"EE, SE, ES; SS": "D3.4 D1.4 D2.3 100 A20; D3.4 D1.4 D2.3 D1.2 101 A21",
	} {
		p := ahead(made(turns), "E, S", "E, S")
		tellsIs(t, turns, p, want)
		tellsIs(t, turns+", late", late(p), want)
	}
}

// P13.2: as many as may be told: 30 psks, and keys behind 32 terms.
func TestToldMost(t *testing.T) {
	p := withPsks(ahead(made(strings.Repeat("Psk, Psk, Psk, Psk, Psk, Psk;", 5)), "E", "E"), 1)
	p.Turns = p.Turns[:5]
	under, want := "P3 P4", []string{}
	for i := range 5 {
		for n := range 6 {
			under += fmt.Sprint(" A", 10+6*i+n)
		}
		want = append(want, fmt.Sprintf("%s %d A%d", under, 100+i, 20+i))
	}
	tellsIs(t, "30 psks", p, strings.Join(want, ";"))
}

// P13.2: of each name, by the book.
func TestToldNames(t *testing.T) {
	if n := len(names()); n != 72 {
		t.Fatalf("%d names", n)
	}
	for _, name := range names() {
		l, e := Told(of(name))
		if e != api.OK || !slices.Equal(textAll(l), bookTerms(bookTold(of(name)))) {
			t.Errorf("%s: error %d, %v", name, e, textAll(l))
		}
	}
}

// refused answers patterns that may not be, and what Check tells of them.
func refused() map[api.Errno][]api.Pattern {
	long := "E" + strings.Repeat(", Psk", 6)
	odd := func(l []int) api.Pattern {
		p := made("E; E, EE")
		p.Turns[1] = l
		return p
	}
	token := func(first, other []int) api.Pattern {
		p := made("E; E, EE")
		p.Pre = [2][]int{first, other}
		return p
	}
	return map[api.Errno][]api.Pattern{
		api.ErrSize: {
			{}, {Turns: [][]int{}}, made("E; E, EE;;;;"), made(long), made("E;" + long),
			token(make([]int, 7), nil), token(nil, []int{2, 2, 2, 2, 2, 2, 2}),
		},
		api.ErrKind: {
			odd([]int{0}), odd([]int{8}), odd([]int{1, -1}), odd([]int{math.MaxInt}), odd([]int{math.MinInt}),
			token([]int{0}, nil), token(nil, []int{9}),
		},
		api.ErrForm: {
			token([]int{api.Psk}, nil), token(nil, []int{api.EE}), made("E, E"), made("S; E; S"), made("EE"),
			made("E; E, EE; EE"), made("Psk"), made("E; Psk"), made("S; E; SE"), made("E; S, ES; E, EE"),
			ahead(made("E"), "E", ""), ahead(made("SS"), "S", "S"), ahead(made("E, SS"), "S", "S"),
		},
	}
}

// P13.2, P13.3: what Check refuses is refused, in its order, also where there are too many psks, or no such turn.
func TestRefusesPattern(t *testing.T) {
	for want, l := range refused() {
		for i, p := range l {
			what := fmt.Sprint("pattern ", i, " of error ", want)
			if e := pattern.Check(p); e != want {
				t.Errorf("%s: Check %d", what, e)
			}
			for _, psks := range []int{0, 4, 5} {
				refusesIs(t, what, withPsks(p, psks), want)
				if e := pattern.Check(late(p)); e != api.OK {
					refusesIs(t, what, late(withPsks(p, psks)), e)
				}
				hiddenRefusesIs(t, what, withPsks(p, psks), []int{-1}, 0, want)
				hiddenRefusesIs(t, what, withPsks(p, psks), make([]int, 7), 0, want)
				hiddenRefusesIs(t, what, withPsks(p, psks), nil, -1, want)
				hiddenRefusesIs(t, what, withPsks(p, psks), nil, 9, want)
			}
		}
	}
}

// P13.2, P13.3: MaxPsks psks, and one more.
func TestRefusesPsks(t *testing.T) {
	if api.MaxPsks != 4 {
		t.Fatal("another limit")
	}
	for _, p := range []api.Pattern{made("E; E, EE"), of("XX"), of("XXfallback"), made("E, Psk; E, Psk; Psk; Psk; Psk"), made("")} {
		want := textAll(told(t, withPsks(p, 1)))
		for n := 2; n <= 4; n++ {
			if got := textAll(told(t, withPsks(p, n))); !slices.Equal(got, want) {
				t.Errorf("%d psks: %v", n, got)
			}
		}
		for _, n := range []int{5, 6, 1000} {
			what := fmt.Sprint(n, " psks")
			refusesIs(t, what, withPsks(p, n), api.ErrSize)
			hiddenRefusesIs(t, what, withPsks(p, n), nil, -1, api.ErrSize)
			hiddenRefusesIs(t, what, withPsks(p, n), nil, 9, api.ErrSize)
			hiddenRefusesIs(t, what, withPsks(p, n), []int{-1}, 0, api.ErrSize)
			hiddenRefusesIs(t, what, withPsks(p, n), make([]int, 7), 0, api.ErrSize)
		}
	}
}

// P13.2: the Base and what numbers Psks has are not asked.
func TestToldBase(t *testing.T) {
	p := of("XXpsk3")
	want := textAll(told(t, p))
	for _, psks := range [][]int{{0}, {-1}, {9, 9}, {3, 2, 1, 0}, {math.MinInt, math.MaxInt}} {
		p.Base, p.Psks = "no such", psks
		if got := textAll(told(t, p)); !slices.Equal(got, want) {
			t.Errorf("psks %v: %v", psks, got)
		}
	}
}

func told(t *testing.T, p api.Pattern) []api.Term {
	t.Helper()
	l, e := Told(p)
	if e != api.OK {
		t.Fatalf("%v: error %d", p, e)
	}
	return l
}

// opening answers, of each turn of each base, the least sets of secrets that open its text (1, 2: lasting ones; 3, 4:
// fresh ones; of who begins, and of the other one), thought out by hand; a text that anybody reads has none.
func opening() map[string][]string {
	return map[string][]string{
		"NN":         {"0", "3 4"},
		"NK":         {"2 3", "3 24"},
		"XX":         {"0", "3 24", "13 34 24"},
		"IK":         {"2 13", "24 13"},
		"XK":         {"2 3", "3 24", "13 34 24"},
		"KK":         {"2 13", "24 13"},
		"XXfallback": {"3 24", "13 34 24"},
	}
}

// opens: is one of the sets in what is had?
func opens(sets string, had []int) bool {
	for set := range strings.FieldsSeq(sets) {
		all := true
		for _, c := range set {
			all = all && (c == '0' || slices.Contains(had, int(c-'0')))
		}
		if all {
			return true
		}
	}
	return false
}

// subsets answers all sets of some numbers, of six at most.
func subsets(l ...int) [][]int {
	var out [][]int
	for set := range 1 << len(l) {
		var s []int
		for i, n := range l {
			if set>>i&1 == 1 {
				s = append(s, n)
			}
		}
		if len(s) <= 6 {
			out = append(out, s)
		}
	}
	return out
}

// P13.3: of each turn of each base pattern, with all psks that it may have, by all sets of secrets.
func TestHiddenNames(t *testing.T) {
	both := [2]int{}
	for _, name := range names() {
		base, _, _ := strings.Cut(name, "psk")
		p := of(name)
		numbers := []int{1, 2, 3, 4}
		for i := range p.Psks {
			numbers = append(numbers, 10+i)
		}
		for turn, sets := range opening()[base] {
			for _, secrets := range subsets(numbers...) {
				want := !opens(sets, secrets) || !hasPsks(p, turn, secrets)
				hiddenIs(t, name, want, p, turn, secrets...)
				if want {
					both[1]++
				} else {
					both[0]++
				}
			}
		}
	}
	if min(both[0], both[1]) < 1000 {
		t.Errorf("%d open, %d hidden", both[0], both[1])
	}
}

// hasPsks: are all psks that stand in the turns up to this one among the secrets?
func hasPsks(p api.Pattern, turn int, secrets []int) bool {
	for i, n := range p.Psks {
		if n <= turn+1 && !slices.Contains(secrets, 10+i) {
			return false
		}
	}
	return true
}

// P13.3: patterns without a name: E known ahead, psks without tokens, tokens without psks.
func TestHiddenMade(t *testing.T) {
	both := ahead(made("EE"), "E", "E")
	hiddenIs(t, "E of both ahead", true, both, 0)
	hiddenIs(t, "E of both ahead", true, both, 0, 1, 2)
	hiddenIs(t, "E of both ahead", false, both, 0, 3)
	hiddenIs(t, "E of both ahead", false, both, 0, 4)
	hiddenIs(t, "E of both ahead, psks", true, withPsks(both, 1), 0)
	hiddenIs(t, "E of both ahead, psks", false, withPsks(both, 1), 0, 4)
	of0 := ahead(made(";"), "E", "")
	hiddenIs(t, "E of who begins ahead, nothing mixed in", false, of0, 0)
	hiddenIs(t, "E of who begins ahead, it alone mixed in", false, withPsks(of0, 1), 1)
	of1 := ahead(made(";"), "", "E")
	hiddenIs(t, "E of the other one ahead, it alone mixed in", false, withPsks(of1, 1), 0)
	open := withPsks(made("E; E, S"), 1)
	hiddenIs(t, "Es told and mixed in alone", false, open, 0)
	hiddenIs(t, "Es told and mixed in alone", false, open, 1)
	bare := made("E, Psk; E, Psk")
	hiddenIs(t, "tokens of psks, no psks", true, bare, 0)
	hiddenIs(t, "tokens of psks, no psks", false, bare, 0, 10)
	hiddenIs(t, "tokens of psks, no psks", true, bare, 1, 10)
	hiddenIs(t, "tokens of psks, no psks", true, bare, 1, 11)
	hiddenIs(t, "tokens of psks, no psks", false, bare, 1, 10, 11)
	lasting := ahead(made("E, ES, SS"), "S", "S")
	hiddenIs(t, "SS", true, lasting, 0)
	hiddenIs(t, "SS", false, lasting, 0, 2)
	hiddenIs(t, "SS", false, lasting, 0, 1, 3)
	hiddenIs(t, "SS", true, lasting, 0, 1)
	hiddenIs(t, "SS", true, lasting, 0, 3)
	hiddenIs(t, "SS", true, lasting, 0, 0, 4, 5, 10, 100)
}

// P13.3: the lasting Pubs, and the Pub of each E ahead, are known though they are never told.
func TestHiddenPublic(t *testing.T) {
	p := ahead(made("SE, EE"), "S, E", "E")
	hiddenIs(t, "Pubs 1 and 3 ahead", false, p, 0, 4)
	hiddenIs(t, "Pub 4 ahead", false, p, 0, 1, 3)
	hiddenIs(t, "Pub 4 ahead", true, p, 0, 3)
	hiddenIs(t, "Pub 4 ahead", true, p, 0, 1)
	hiddenIs(t, "Pub 2 ahead", false, ahead(made("E, ES"), "", "S"), 0, 3)
	hiddenIs(t, "Pub 2 locked, and the Dh with it", false, of("XX"), 1, 3)
	p = withPsks(p, 1)
	hiddenIs(t, "Pubs 1 and 3 ahead, mixed in", false, p, 0, 4)
	hiddenIs(t, "Pub 4 ahead, mixed in", true, p, 0, 3)
}

// P13.3: a text that one knows ahead; atoms that stand for nothing; what stands beside; one secret twice.
func TestHiddenSecrets(t *testing.T) {
	p := of("KK")
	hiddenIs(t, "the text itself", false, p, 0, 20)
	hiddenIs(t, "another text", true, p, 1, 20)
	hiddenIs(t, "the text itself", false, p, 1, 21)
	hiddenIs(t, "what stands beside", true, p, 0, 101, 103)
	hiddenIs(t, "nothing that it has", true, p, 1, 0, 5, 9, 10, 99, math.MaxInt)
	hiddenIs(t, "the same six times", true, p, 1, 4, 4, 4, 4, 4, 4)
	hiddenIs(t, "the same twice", false, p, 1, 4, 2, 4, 2)
	hiddenIs(t, "another order", false, p, 1, 2, 4)
}

// P13.3: no such turn, too many secrets, one below 0.
func TestHiddenRange(t *testing.T) {
	for _, name := range bases() {
		p := of(name)
		n := len(p.Turns)
		for _, turn := range []int{-1, -2, math.MinInt, n, n + 1, 20, math.MaxInt} {
			hiddenRefusesIs(t, name, p, nil, turn, api.ErrRange)
			hiddenRefusesIs(t, name, p, []int{1, 2, 3, 4}, turn, api.ErrRange)
		}
		for turn := range n {
			for _, secrets := range [][]int{make([]int, 7), {1, 2, 3, 4, 1, 2, 3}, {-1}, {1, 2, 3, 4, 5, -1}, {-3, 1},
				{math.MinInt}, {math.MaxInt, math.MinInt}, make([]int, 500), {-1, 1, 2, 3, 4, 5, 6}} {
				hiddenRefusesIs(t, name, p, secrets, turn, api.ErrRange)
			}
			hiddenIs(t, name, false, p, turn, 1, 2, 3, 4, 0, 0)
			hiddenIs(t, name, false, p, turn, 1, 2, 3, 4, math.MaxInt, math.MaxInt)
		}
	}
}

// dense answers a pattern that has psks, of turns of tokens E, S and, at each point, Psk.
func dense(turns, first, other string) api.Pattern {
	p := withPsks(ahead(api.Pattern{}, first, other), 1)
	for turn := range strings.SplitSeq(turns, " ") {
		var l []int
		for _, c := range turn {
			l = append(l, map[rune]int{'E': api.E, 'S': api.S, '.': api.Psk}[c])
		}
		p.Turns = append(p.Turns, l)
	}
	return p
}

// full answers patterns of which one who looks on knows 299 terms in all. Those that the first one tells have 20, 32,
// 40, 42, 46, 52 and 62 terms in them; beside them atom 0 is known, and the Pubs of four secrets.
func full() []api.Pattern {
	return []api.Pattern{
		dense("...... ...... ....S. ..S... .....", "E", "E"),
		late(dense("...... ...... ...S.. ..S... ......", "E", "E")),
		dense(".E.... ...E.. ...... ..S... ...S..", "", ""),
		dense("..E... ...... ..... ..S... .S....", "", "E"),
		late(dense(".....E ...... ...... .S... S.....", "E", "")),
	}
}

// P13.3: what Knows refuses: more than MaxTerms terms that are known, the secrets too; behind all other errors.
func TestHiddenSize(t *testing.T) {
	for i, p := range full() {
		if n := bookSize(p, 0); n != 299 || api.MaxTerms != 300 {
			t.Fatalf("pattern %d: %d terms are known, of %d", i, n, api.MaxTerms)
		}
		told(t, p)
		for turn := range 5 {
			what := fmt.Sprint("pattern ", i)
			hiddenIs(t, what, true, p, turn)
			hiddenIs(t, what, true, p, turn, 1)
			hiddenIs(t, what, false, p, turn, 20+turn)
			hiddenRefusesIs(t, what, p, []int{1, 2}, turn, api.ErrSize)
			hiddenRefusesIs(t, what, p, []int{3, 3}, turn, api.ErrSize)
			hiddenRefusesIs(t, what, p, []int{20 + turn, 1}, turn, api.ErrSize)
			hiddenRefusesIs(t, what, p, []int{1, 2, 3, 4, 5, 6}, turn, api.ErrSize)
			hiddenRefusesIs(t, what, p, []int{1, 2, 3, 4, 5, 6, 7}, turn, api.ErrRange)
			hiddenRefusesIs(t, what, p, []int{1, -2}, turn, api.ErrRange)
			hiddenRefusesIs(t, what, p, []int{1, 2}, turn-5, api.ErrRange)
			hiddenRefusesIs(t, what, p, []int{1, 2}, turn+5, api.ErrRange)
		}
	}
}

// P13.3: two terms more: also one who has no secret knows too many; Told tells them all the same.
func TestHiddenSizeAlone(t *testing.T) {
	for i, p := range []api.Pattern{
		dense("...... .....S ...... ...... .S....", "E", "E"),
		late(dense("....E. ...E.. ...... ...S.. ...S..", "", "")),
	} {
		if n := bookSize(p, 0); n != 301 {
			t.Fatalf("pattern %d: %d terms are known", i, n)
		}
		what := fmt.Sprint("pattern ", i)
		if l := told(t, p); !slices.Equal(textAll(l), bookTerms(bookTold(p))) {
			t.Errorf("%s: %v", what, textAll(l))
		}
		for turn := range 5 {
			hiddenRefusesIs(t, what, p, nil, turn, api.ErrSize)
			hiddenRefusesIs(t, what, p, []int{20 + turn}, turn, api.ErrSize)
		}
		hiddenRefusesIs(t, what, p, nil, 5, api.ErrRange)
		hiddenRefusesIs(t, what, p, nil, -1, api.ErrRange)
		hiddenRefusesIs(t, what, p, []int{-1}, 0, api.ErrRange)
		hiddenRefusesIs(t, what, withPsks(p, 5), nil, 9, api.ErrSize)
	}
}

// P13.2, P13.3: patterns made by chance, by the book.
func TestDrawn(t *testing.T) {
	r := rand.New(rand.NewSource(13))
	tells, answers := map[api.Errno]int{}, map[string]int{}
	draws := 6000
	if testing.Short() {
		draws = 1500
	}
	for i := range draws {
		p := drawPattern(r)
		if i%10 == 0 {
			p = drawFull(r)
		}
		want := bookRefused(p)
		l, e := Told(p)
		if e != want || e != api.OK && len(l) != 0 || e == api.OK && !slices.Equal(textAll(l), bookTerms(bookTold(p))) {
			t.Fatalf("%+v: error %d, want %d\n%s", p, e, want, strings.Join(textAll(l), "\n"))
		}
		tells[e]++
		for range 6 {
			secrets, turn := drawSecrets(r), r.Intn(len(p.Turns)+1)-r.Intn(20)/19
			yes, e := Hidden(p, secrets, turn)
			if want, f := bookAnswer(p, secrets, turn); yes != want || e != f {
				t.Fatalf("%+v by %v, turn %d: %t, error %d, want %t, %d", p, secrets, turn, yes, e, want, f)
			}
			answers[fmt.Sprint(yes, " ", int(e))]++
		}
	}
	for _, e := range []api.Errno{api.OK, api.ErrSize, api.ErrKind, api.ErrForm} {
		if tells[e] < 5 {
			t.Errorf("error %d of Told only %d times", e, tells[e])
		}
	}
	for _, a := range []string{"true 0", "false 0", "false 1", "false 2", "false 3", "false 6"} {
		if answers[a] < 20 {
			t.Errorf("%s only %d times: %v", a, answers[a], answers)
		}
	}
}

// P13.3: who knows more reads more; the order of the secrets does not count.
func TestHiddenMore(t *testing.T) {
	r := rand.New(rand.NewSource(14))
	for range 3000 {
		p, secrets := drawPattern(r), drawSecrets(r)
		turn := r.Intn(len(p.Turns))
		yes, e := Hidden(p, secrets, turn)
		mixed := slices.Clone(secrets)
		r.Shuffle(len(mixed), func(i, j int) { mixed[i], mixed[j] = mixed[j], mixed[i] })
		if got, f := Hidden(p, mixed, turn); got != yes || f != e {
			t.Fatalf("%+v by %v, turn %d: %t, in another order %t", p, secrets, turn, yes, got)
		}
		if got, f := Hidden(p, append(mixed, r.Intn(15)), turn); e == api.OK && f == api.OK && got && !yes {
			t.Fatalf("%+v by %v, turn %d: hidden from one who knows more", p, secrets, turn)
		}
	}
}

// secretOf answers the bytes that an atom stands for.
func secretOf(n int) api.Key { return api.Key{byte(n), 7, byte(n * n)} }

func textOf(turn int) []byte { return []byte(strings.Repeat(fmt.Sprint("turn ", turn, " "), turn)) }

// handshake answers both sides of the handshake of a name, and what its atoms stand for.
func handshake(t *testing.T, name string, psks int) [2]api.Shake {
	var keys []api.Key
	for i := range psks {
		keys = append(keys, secretOf(10+i))
	}
	p := of(name)
	var sides [2]api.Shake
	for i := range sides {
		early := ladder.Base(secretOf(3))
		if i == 0 {
			early = secretOf(3)
		}
		var their api.Key
		knows := slices.Contains(p.Pre[1-i], api.S)
		if knows {
			their = ladder.Base(secretOf(2 - i))
		}
		var e api.Errno
		sides[i], e = shake.Begin(protocol(name), i == 0, []byte("before"), secretOf(1+i), their, knows, early, keys)
		if e != api.OK {
			t.Fatalf("%s: error %d", name, e)
		}
	}
	return sides
}

// valueOf answers the bytes that a term stands for in a handshake, whose chain begins so.
func valueOf(x api.Term, begun api.Key) api.Key {
	switch x.Kind {
	case api.Pub:
		return ladder.Base(secretOf(x.Id))
	case api.Dh:
		k, _ := ladder.Mult(secretOf(x.Id), ladder.Base(secretOf(x.Other)))
		return k
	case api.Kdf:
		mixed := valueOf(x.Args[1], begun)
		three := keysof.Three(valueOf(x.Args[0], begun), mixed[:])
		if x.Id == 2 && x.Args[1].Kind == api.Atom {
			return three[2] // of a psk the second one goes into the hash
		}
		return three[x.Id-1]
	}
	if x.Id == 0 {
		return begun
	}
	return secretOf(x.Id)
}

// bytesOf answers the bytes of what is told, or locked.
func bytesOf(x api.Term, begun api.Key) []byte {
	if x.Kind == api.Atom {
		return textOf(x.Id - 20)
	}
	k := valueOf(x, begun)
	return k[:]
}

// P13.2: what is told is what goes over the wire: the bytes of each turn of each name's handshake are these terms, one
// behind the other, each Lock turned by its key's next number, with 16 bytes of a tag behind it.
func TestWire(t *testing.T) {
	for _, name := range names() {
		p := of(name)
		l := told(t, p)
		sides := handshake(t, name, len(p.Psks))
		begun := symm.Begin(protocol(name)).Chain
		used := map[api.Key]byte{}
		writer := 0
		if p.Late {
			writer = 1
		}
		for turn := range p.Turns {
			next, b, e := shake.Write(sides[writer], secretOf(3+writer), textOf(turn))
			heard, _, f := shake.Read(sides[1-writer], b)
			if e != api.OK || f != api.OK {
				t.Fatalf("%s, turn %d: errors %d and %d", name, turn, e, f)
			}
			sides[writer], sides[1-writer] = next, heard
			for last := false; !last && len(l) > 0; l = l[1:] {
				x, lock := l[0], l[0].Kind == api.Lock
				if lock {
					x = x.Args[2]
				}
				want := bytesOf(x, begun)
				last = x.Kind == api.Atom
				if len(b) < len(want) {
					t.Fatalf("%s, turn %d: too few bytes for %s", name, turn, text(l[0]))
				}
				got := b[:len(want)]
				b = b[len(want):]
				if lock {
					key := valueOf(l[0].Args[0], begun)
					got, _ = chacha.Stream(key, 1, [12]byte{4: used[key]}, got)
					used[key]++
					b = b[min(16, len(b)):]
				}
				if string(got) != string(want) {
					t.Fatalf("%s, turn %d: %x isn't %s", name, turn, got, text(l[0]))
				}
			}
			if len(b) != 0 {
				t.Fatalf("%s, turn %d: %d bytes are not told", name, turn, len(b))
			}
			writer = 1 - writer
		}
		if len(l) != 0 {
			t.Errorf("%s: more is told than was written: %v", name, textAll(l))
		}
	}
}

// places adds the place of each term in a list, and in the lists within, spare room too.
func places(l []api.Term, all map[*api.Term]int) {
	l = l[:cap(l)]
	for i := range l {
		all[&l[i]]++
		places(l[i].Args, all)
	}
}

// P13.2: no two lists of what is told share memory, spare room too, and none with what is told twice.
func TestToldApart(t *testing.T) {
	r := rand.New(rand.NewSource(15))
	for i := range 600 {
		p := drawPattern(r)
		if i < len(names()) {
			p = of(names()[i])
		}
		all := map[*api.Term]int{}
		l, _ := Told(p)
		again, _ := Told(p)
		places(l, all)
		places(again, all)
		for _, n := range all {
			if n != 1 {
				t.Fatalf("%+v: lists share memory", p)
			}
		}
		keep := textAll(again)
		spoil(l)
		if !slices.Equal(textAll(again), keep) || !slices.Equal(textAll(again), textOfTold(p)) {
			t.Fatalf("%+v: what was told ahead changes it", p)
		}
	}
}

func textOfTold(p api.Pattern) []string {
	l, _ := Told(p)
	return textAll(l)
}

// spoil changes all terms of a list, spare room too.
func spoil(l []api.Term) {
	l = l[:cap(l)]
	for i := range l {
		spoil(l[i].Args)
		l[i] = api.Term{Kind: 99, Id: -1, Other: -1}
	}
}

// roomy answers the same list, with spare room that has something in it.
func roomy(l []int) []int { return append(slices.Clone(l), 71, 72, 73)[:len(l)] }

func roomyPattern(p api.Pattern) api.Pattern {
	p.Psks = roomy(p.Psks)
	p.Pre = [2][]int{roomy(p.Pre[0]), roomy(p.Pre[1])}
	var turns [][]int
	for _, l := range p.Turns {
		turns = append(turns, roomy(l))
	}
	p.Turns = append(turns, []int{74}, []int{75})[:len(turns)]
	return p
}

// all answers all that stands in a pattern's lists, spare room too.
func all(p api.Pattern) string {
	s := fmt.Sprint(p.Base, p.Late, p.Psks[:cap(p.Psks)])
	for _, l := range slices.Concat(p.Pre[:], p.Turns[:cap(p.Turns)]) {
		s += fmt.Sprint(l, l[:cap(l)])
	}
	return s
}

// P13.2, P13.3: no argument is changed, spare room neither; lists without elements may be nil or not.
func TestArgumentsStay(t *testing.T) {
	r := rand.New(rand.NewSource(16))
	for i := range 1500 {
		p, secrets := drawPattern(r), roomy(drawSecrets(r))
		if i < len(names()) {
			p = of(names()[i])
		}
		p = roomyPattern(p)
		turn := r.Intn(len(p.Turns))
		keepP, keepS := all(p), fmt.Sprint(secrets[:cap(secrets)])
		l, e := Told(p)
		yes, f := Hidden(p, secrets, turn)
		if all(p) != keepP || fmt.Sprint(secrets[:cap(secrets)]) != keepS {
			t.Fatalf("%+v, %v: changed", p, secrets)
		}
		other := emptied(p)
		m, g := Told(other)
		no, h := Hidden(other, append([]int{}, secrets...), turn)
		if !slices.Equal(textAll(l), textAll(m)) || e != g || yes != no || f != h {
			t.Fatalf("%+v: lists that are nil, or not, make a difference", p)
		}
	}
}

// emptied answers the same pattern, the empty lists of which are nil, if they were not, or the other way round.
func emptied(p api.Pattern) api.Pattern {
	turned := func(l []int) []int {
		if len(l) > 0 {
			return l
		}
		if l == nil {
			return []int{}
		}
		return nil
	}
	p.Psks = turned(p.Psks)
	p.Pre = [2][]int{turned(p.Pre[0]), turned(p.Pre[1])}
	turns := [][]int{}
	for _, l := range p.Turns {
		turns = append(turns, turned(l))
	}
	p.Turns = turns
	return p
}

// P13.2, P13.3: nothing is kept from call to call, also of calls that run at once on the same pattern.
func TestNothingKept(t *testing.T) {
	p, q := roomyPattern(of("XXpsk0+psk3")), roomyPattern(of("NN"))
	wantP, wantQ := textOfTold(p), textOfTold(q)
	var wait sync.WaitGroup
	for range 16 {
		wait.Go(func() {
			for range 50 {
				if !slices.Equal(textOfTold(p), wantP) || !slices.Equal(textOfTold(q), wantQ) {
					t.Error("another answer")
				}
				if yes, e := Hidden(p, []int{3, 1, 10, 11}, 2); yes || e != api.OK {
					t.Errorf("with all secrets: %t, %d", yes, e)
				}
				if yes, e := Hidden(p, []int{3, 1, 10}, 2); !yes || e != api.OK {
					t.Errorf("without a psk: %t, %d", yes, e)
				}
			}
		})
	}
	wait.Wait()
}
