package pattern

import (
	"fmt"
	"maps"
	"math"
	"math/rand"
	"regexp"
	"slices"
	"strconv"
	"strings"
	"testing"

	"signet/api"
)

const (
	mostPsks   = 4
	mostTurns  = 5
	mostTokens = 6
)

// bookTable is the table of the chapter, word by word (P10.1).
const bookTable = `
| NN | | E; E, EE |
| NK | of the other one: S | E, ES; E, EE |
| XX | | E; E, EE, S, ES; S, SE |
| IK | of the other one: S | E, ES, S, SS; E, EE, SE |
| XK | of the other one: S | E, ES; E, EE; S, SE |
| KK | of both: S | E, ES, SS; E, EE, SE |
| XXfallback | of who begins: E; it is Late | E, EE, S, ES; S, SE |
`

// noise has the handshakes of the Noise protocol (revision 34, chapter 7 and the
// first appendix): a key known ahead of who begins (>) and of the other one (<).
const noise = `
< S | E, ES
> S < S | E, ES, SS
< S | E, ES, S, SS
 | E; E, EE
> S | E; E, EE, SE
< S | E, ES; E, EE
> S < S | E, ES, SS; E, EE, SE
 | E; E, EE, S, ES
> S | E; E, EE, SE, S, ES
 | E; E, EE; S, SE
 | E, S; E, EE, SE
< S | E, ES; E, EE; S, SE
< S | E, ES, S, SS; E, EE, SE
 | E; E, EE, S, ES; S, SE
 | E, S; E, EE, SE, S, ES
< S | E; E, EE, ES
 | E; E, EE, S; ES
 | E; E, EE; S; SE
< S | E, ES; E, EE; S; SE
< S | E; E, EE, ES; S, SE
< S | E; E, EE, ES; S; SE
 | E; E, EE, S, ES; S; SE
 | E; E, EE, S; ES, S, SE
 | E; E, EE, S; ES, S; SE
> S | E; E, EE; SE
> S < S | E, ES; E, EE; SE
> S < S | E; E, EE, SE, ES
> S < S | E; E, EE, ES; SE
> S | E; E, EE, S, ES; SE
> S | E; E, EE, SE, S; ES
> S | E; E, EE, S; SE, ES
 | E, S; E, EE; SE
< S | E, ES, S; E, EE; SE
< S | E, S; E, EE, SE, ES
< S | E, S; E, EE, ES; SE
 | E, S; E, EE, S, ES; SE
 | E, S; E, EE, SE, S; ES
 | E, S; E, EE, S; SE, ES
`

// words answers the names of the tokens, each at its own place.
func words() []string { return []string{"", "E", "S", "EE", "ES", "SE", "SS", "Psk"} }

// tokens answers those of a turn that is written as the chapter writes it.
func tokens(s string) []int {
	var l []int
	for w := range strings.SplitSeq(s, ",") {
		if i := slices.Index(words(), strings.TrimSpace(w)); i > 0 {
			l = append(l, i)
		}
	}
	return l
}

func turns(s string) [][]int {
	var l [][]int
	for w := range strings.SplitSeq(s, ";") {
		l = append(l, tokens(w))
	}
	return l
}

// of answers a pattern of what is known ahead and of turns, as the chapter writes them.
func of(first, other, said string) api.Pattern {
	return api.Pattern{Pre: [2][]int{tokens(first), tokens(other)}, Turns: turns(said)}
}

// late answers the same pattern, the first turn of which is the other one's.
func late(p api.Pattern) api.Pattern {
	p.Late = true
	return p
}

// bases answers the names of the table, in its order.
func bases() []string {
	return []string{"NN", "NK", "XX", "IK", "XK", "KK", "XXfallback"}
}

// bookBase answers the pattern that the table tells.
func bookBase(name string) api.Pattern {
	for line := range strings.Lines(bookTable) {
		cells := strings.Split(line, "|")
		if len(cells) < 4 || strings.TrimSpace(cells[1]) != name {
			continue
		}
		p := api.Pattern{Base: name, Turns: turns(cells[3]), Late: strings.Contains(cells[2], "it is Late")}
		who, what, _ := strings.Cut(cells[2], ":")
		known := tokens(strings.Split(what, ";")[0])
		if !strings.Contains(who, "other") {
			p.Pre[0] = slices.Clone(known)
		}
		if !strings.Contains(who, "begins") {
			p.Pre[1] = slices.Clone(known)
		}
		return p
	}
	panic("no such base: " + name)
}

// bookWith answers what the chapter says of a base with psks that may stand in it.
func bookWith(name string, psks []int) api.Pattern {
	p := bookBase(name)
	p.Psks = slices.Clone(psks)
	for i, said := range p.Turns {
		var l []int
		if i == 0 && slices.Contains(psks, 0) {
			l = append(l, api.Psk)
		}
		l = append(l, said...)
		if slices.Contains(psks, i+1) {
			l = append(l, api.Psk)
		}
		p.Turns[i] = l
	}
	return p
}

// bookRefused answers what With refuses.
func bookRefused(name string, psks []int) api.Errno {
	if !slices.Contains(bases(), name) {
		return api.ErrNone
	}
	if len(psks) > mostPsks {
		return api.ErrSize
	}
	last := -1
	for _, n := range psks {
		if n < 0 || n > len(bookBase(name).Turns) {
			return api.ErrRange
		}
		if n <= last {
			return api.ErrForm
		}
		last = n
	}
	return api.OK
}

// allowed answers all lists of psks that may stand in so many turns.
func allowed(turns int) [][]int {
	var all [][]int
	for set := range 1 << (turns + 1) {
		var l []int
		for n := range turns + 1 {
			if set>>n&1 == 1 {
				l = append(l, n)
			}
		}
		if len(l) <= mostPsks {
			all = append(all, l)
		}
	}
	return all
}

// eachAllowed does something with each base and each list of psks that it may have.
func eachAllowed(do func(name string, psks []int)) {
	for _, name := range bases() {
		for _, psks := range allowed(len(bookBase(name).Turns)) {
			do(name, psks)
		}
	}
}

// bookName answers the name of a protocol.
func bookName(name string, psks []int) string {
	s := "Noise_" + name
	for i, n := range psks {
		if i > 0 {
			s += "+"
		}
		s += "psk" + strconv.Itoa(n)
	}
	return s + "_25519_ChaChaPoly_BLAKE2s"
}

// bookParse answers the pattern of a name, or what is refused.
func bookParse(name string) (api.Pattern, api.Errno) {
	parts := regexp.MustCompile(`(?s)^Noise_(.*)_25519_ChaChaPoly_BLAKE2s$`).FindStringSubmatch(name)
	if parts == nil {
		return api.Pattern{}, api.ErrForm
	}
	base, rest, some := strings.Cut(parts[1], "psk")
	var psks []int
	if some {
		if !regexp.MustCompile(`^psk[0-9](\+psk[0-9])*$`).MatchString("psk" + rest) {
			return api.Pattern{}, api.ErrForm
		}
		for _, digit := range regexp.MustCompile(`[0-9]`).FindAllString(rest, -1) {
			n, _ := strconv.Atoi(digit)
			psks = append(psks, n)
		}
	}
	if e := bookRefused(base, psks); e != api.OK {
		return api.Pattern{}, e
	}
	return bookWith(base, psks), api.OK
}

// bookMayLock asks, by what has been there, whether a side (a: who begins) may lock.
func bookMayLock(side string, been map[string]int) bool {
	ownLasting, ownFresh := "SE", "ES"
	if side == "b" {
		ownLasting, ownFresh = "ES", "SE"
	}
	return !(been["Psk"] > 0 && been[side+"E"] == 0) &&
		!(been[ownLasting] > 0 && been["EE"] == 0) &&
		!(been["SS"] > 0 && been[ownFresh] == 0)
}

// bookForm asks, by the words of the chapter, whether all tokens may stand so.
func bookForm(p api.Pattern) bool {
	been := map[string]int{}
	for i, l := range p.Pre {
		for _, x := range l {
			if x != 1 && x != 2 {
				return false
			}
			been["ab"[i:i+1]+words()[x]]++
		}
	}
	for i, l := range p.Turns {
		side := "ab"[i%2 : i%2+1]
		if p.Late {
			side = "ba"[i%2 : i%2+1]
		}
		for _, x := range l {
			w := words()[x]
			if w == "S" && !bookMayLock(side, been) {
				return false
			}
			if len(w) == 2 && (been["a"+w[:1]] == 0 || been["b"+w[1:]] == 0) {
				return false
			}
			if len(w) == 1 {
				w = side + w
			}
			been[w]++
		}
		if !bookMayLock(side, been) {
			return false
		}
	}
	delete(been, "Psk")
	return !slices.ContainsFunc(slices.Collect(maps.Values(been)), func(n int) bool { return n > 1 })
}

// bookCheck answers what Check refuses.
func bookCheck(p api.Pattern) api.Errno {
	if len(p.Turns) == 0 || len(p.Turns) > mostTurns {
		return api.ErrSize
	}
	for _, l := range slices.Concat(p.Pre[:], p.Turns) {
		if len(l) > mostTokens {
			return api.ErrSize
		}
		if slices.ContainsFunc(l, func(x int) bool { return x < 1 || x > 7 }) {
			return api.ErrKind
		}
	}
	if !bookForm(p) {
		return api.ErrForm
	}
	return api.OK
}

// noises answers the handshakes of noise.
func noises() []api.Pattern {
	var all []api.Pattern
	for line := range strings.Lines(noise) {
		ahead, said, ok := strings.Cut(line, "|")
		if !ok {
			continue
		}
		p := api.Pattern{Turns: turns(said)}
		if strings.Contains(ahead, "> S") {
			p.Pre[0] = []int{api.S}
		}
		if strings.Contains(ahead, "< S") {
			p.Pre[1] = []int{api.S}
		}
		all = append(all, p)
	}
	return all
}

// show tells a pattern as one text; lists without elements are told alike.
func show(p api.Pattern) string {
	return fmt.Sprintf("%q %v %v %v %v", p.Base, p.Late, p.Psks, p.Pre, p.Turns)
}

// clone answers a pattern that shares nothing with this one.
func clone(p api.Pattern) api.Pattern {
	p.Psks = slices.Clone(p.Psks)
	for i, l := range p.Pre {
		p.Pre[i] = slices.Clone(l)
	}
	p.Turns = slices.Clone(p.Turns)
	for i, l := range p.Turns {
		p.Turns[i] = slices.Clone(l)
	}
	return p
}

func tryWith(t *testing.T, name string, psks []int, want api.Pattern) {
	t.Helper()
	if p, e := With(name, psks); e != api.OK || show(p) != show(want) {
		t.Fatalf("With(%q, %v): %s %d, want %s", name, psks, show(p), e, show(want))
	}
}

func tryWithRefused(t *testing.T, name string, psks []int, want api.Errno) {
	t.Helper()
	p, e := With(name, psks)
	if e != want || show(p) != show(api.Pattern{}) {
		t.Fatalf("With(%q, %v): %s %d, want none and error %d", name, psks, show(p), e, want)
	}
}

func tryParse(t *testing.T, name string, want api.Pattern) {
	t.Helper()
	if p, e := Parse(name); e != api.OK || show(p) != show(want) {
		t.Fatalf("Parse(%q): %s %d, want %s", name, show(p), e, show(want))
	}
}

func tryParseRefused(t *testing.T, name string, want api.Errno) {
	t.Helper()
	p, e := Parse(name)
	if e != want || show(p) != show(api.Pattern{}) {
		t.Fatalf("Parse(%.80q): %s %d, want none and error %d", name, show(p), e, want)
	}
}

func tryShow(t *testing.T, p api.Pattern, want string, wantErr api.Errno) {
	t.Helper()
	if s, e := Show(p); s != want || e != wantErr {
		t.Fatalf("Show(%s): %q %d, want %q %d", show(p), s, e, want, wantErr)
	}
}

func tryCheck(t *testing.T, p api.Pattern, want api.Errno) {
	t.Helper()
	if e := Check(p); e != want {
		t.Fatalf("Check(%s): %d, want %d", show(p), e, want)
	}
}

// P10.1: each base of the table, as it is written out here once more.
func TestBases(t *testing.T) {
	for _, c := range []struct{ name, want string }{
		{"NN", `"NN" false [] [[] []] [[1] [1 3]]`},
		{"NK", `"NK" false [] [[] [2]] [[1 4] [1 3]]`},
		{"XX", `"XX" false [] [[] []] [[1] [1 3 2 4] [2 5]]`},
		{"IK", `"IK" false [] [[] [2]] [[1 4 2 6] [1 3 5]]`},
		{"XK", `"XK" false [] [[] [2]] [[1 4] [1 3] [2 5]]`},
		{"KK", `"KK" false [] [[2] [2]] [[1 4 6] [1 3 5]]`},
		{"XXfallback", `"XXfallback" true [] [[1] []] [[1 3 2 4] [2 5]]`},
	} {
		for _, none := range [][]int{nil, {}} {
			p, e := With(c.name, none)
			if e != api.OK || show(p) != c.want || show(bookBase(c.name)) != c.want {
				t.Errorf("%s: %s %d, want %s", c.name, show(p), e, c.want)
			}
		}
	}
}

// P10.2: psks ahead of the first turn, behind each turn, and several.
func TestWithWritten(t *testing.T) {
	for _, c := range []struct {
		name string
		psks []int
		want string
	}{
		{"NN", []int{0}, `"NN" false [0] [[] []] [[7 1] [1 3]]`},
		{"NN", []int{1}, `"NN" false [1] [[] []] [[1 7] [1 3]]`},
		{"NN", []int{2}, `"NN" false [2] [[] []] [[1] [1 3 7]]`},
		{"NN", []int{0, 1, 2}, `"NN" false [0 1 2] [[] []] [[7 1 7] [1 3 7]]`},
		{"XK", []int{3}, `"XK" false [3] [[] [2]] [[1 4] [1 3] [2 5 7]]`},
		{"XK", []int{0, 1, 2, 3}, `"XK" false [0 1 2 3] [[] [2]] [[7 1 4 7] [1 3 7] [2 5 7]]`},
		{"IK", []int{0, 1}, `"IK" false [0 1] [[] [2]] [[7 1 4 2 6 7] [1 3 5]]`},
		{"KK", []int{0, 2}, `"KK" false [0 2] [[2] [2]] [[7 1 4 6] [1 3 5 7]]`},
		{"XXfallback", []int{0, 1}, `"XXfallback" true [0 1] [[1] []] [[7 1 3 2 4 7] [2 5]]`},
		{"XXfallback", []int{2}, `"XXfallback" true [2] [[1] []] [[1 3 2 4] [2 5 7]]`},
	} {
		if p, e := With(c.name, c.psks); e != api.OK || show(p) != c.want {
			t.Errorf("With(%q, %v): %s %d, want %s", c.name, c.psks, show(p), e, c.want)
		}
	}
}

// P10.2: each base with each list of psks that it may have.
func TestWith(t *testing.T) {
	n := 0
	eachAllowed(func(name string, psks []int) {
		n++
		tryWith(t, name, psks, bookWith(name, psks))
	})
	if n != 5*8+2*16 {
		t.Errorf("%d lists", n)
	}
}

// P10.2: each list of up to five numbers about the edges, for each base and for none.
func TestWithRefuses(t *testing.T) {
	numbers := []int{-1, 0, 1, 2, 3, 4, 5}
	lists := [][]int{nil}
	for i := 0; len(lists[i]) < mostPsks+1; i++ {
		for _, n := range numbers {
			lists = append(lists, append(slices.Clone(lists[i]), n))
		}
	}
	for _, name := range append(bases(), "YY") {
		for _, l := range lists {
			if e := bookRefused(name, l); e != api.OK {
				tryWithRefused(t, name, l, e)
			} else {
				tryWith(t, name, l, bookWith(name, l))
			}
		}
	}
}

// P10.2: names that no base has: what Parse takes is none, too.
func TestWithNone(t *testing.T) {
	names := []string{"", " ", "N", "NNN", "nn", "Nn", " NN", "NN ", "NN\x00", "N N", "NX", "IX", "XXf", "xx", "XXFallback",
		"XXfallback ", "fallback", "NNfallback", "NNpsk0", "NN+psk0", "YY", "é", "\xff", "Noise_NN", strings.Repeat("NN", 1000),
		"Noise_NN_25519_ChaChaPoly_BLAKE2s"}
	for _, name := range names {
		tryWithRefused(t, name, nil, api.ErrNone)
		tryWithRefused(t, name, []int{0}, api.ErrNone)
		tryWithRefused(t, name, []int{9, -1, 0, 0, 0}, api.ErrNone)
	}
}

// P10.2: which error is told where several hold.
func TestWithFirstError(t *testing.T) {
	for _, c := range []struct {
		name string
		psks []int
		want api.Errno
	}{
		{"YY", []int{0, 1, 2, 3, 4}, api.ErrNone},
		{"YY", []int{-1}, api.ErrNone},
		{"YY", []int{1, 1}, api.ErrNone},
		{"XX", []int{0, 1, 2, 3, 4}, api.ErrSize},
		{"XX", []int{-1, 9, 9, 0, 0}, api.ErrSize},
		{"XX", []int{1, 1, 0, 0, 0}, api.ErrSize},
		{"XX", []int{-1}, api.ErrRange},
		{"XX", []int{4}, api.ErrRange},
		{"NN", []int{3}, api.ErrRange},
		{"XXfallback", []int{3}, api.ErrRange},
		{"XX", []int{math.MinInt}, api.ErrRange},
		{"XX", []int{math.MaxInt}, api.ErrRange},
		{"XX", []int{2, -1}, api.ErrRange},
		{"XX", []int{4, 4}, api.ErrRange},
		{"XX", []int{1, 1, 9}, api.ErrForm},
		{"XX", []int{2, 1, -1}, api.ErrForm},
		{"XX", []int{1, 9, 0}, api.ErrRange},
		{"XX", []int{3, 0}, api.ErrForm},
		{"XX", []int{0, 0}, api.ErrForm},
		{"XX", []int{0, 1, 2, 2}, api.ErrForm},
		{"XX", []int{0, 1, 2, 4}, api.ErrRange},
		{"XX", make([]int, 1<<20), api.ErrSize},
	} {
		tryWithRefused(t, c.name, c.psks, c.want)
	}
}

// P10.3: each base with each list of psks that it may have; all of them may be,
// also those with six tokens in a turn.
func TestCheckBases(t *testing.T) {
	most := 0
	eachAllowed(func(name string, psks []int) {
		p := bookWith(name, psks)
		tryCheck(t, p, bookCheck(p))
		tryCheck(t, p, api.OK)
		for _, l := range p.Turns {
			most = max(most, len(l))
		}
	})
	if most != mostTokens {
		t.Errorf("at most %d tokens in a turn", most)
	}
}

// P10.3: the handshakes that the Noise protocol has may be.
func TestCheckNoise(t *testing.T) {
	all := noises()
	if len(all) != 38 {
		t.Fatalf("%d handshakes", len(all))
	}
	for _, p := range all {
		tryCheck(t, p, api.OK)
	}
}

// P10.3: only what is known ahead and the turns are asked, not Base and Psks.
func TestCheckAsksTurns(t *testing.T) {
	for _, base := range []string{"", "NN", "YY"} {
		for _, psks := range [][]int{nil, {0}, {-1, -1, 9, 9, 9, 9}} {
			good, bad := of("", "", "E; E, EE"), of("", "", "E, EE")
			good.Base, good.Psks, bad.Base, bad.Psks = base, psks, base, psks
			tryCheck(t, good, api.OK)
			tryCheck(t, bad, api.ErrForm)
		}
	}
}

// P10.3: from one to five turns, empty ones too.
func TestCheckTurns(t *testing.T) {
	for _, isLate := range []bool{false, true} {
		for n := range 10 {
			want := api.ErrSize
			if n >= 1 && n <= mostTurns {
				want = api.OK
			}
			tryCheck(t, api.Pattern{Late: isLate, Turns: make([][]int, n)}, want)
		}
		tryCheck(t, api.Pattern{Late: isLate, Turns: [][]int{}}, api.ErrSize)
		tryCheck(t, api.Pattern{Late: isLate, Turns: make([][]int, 1<<20)}, api.ErrSize)
		tryCheck(t, api.Pattern{Late: isLate, Turns: [][]int{nil, {}, {1}, nil, {2}}}, api.OK)
	}
}

// lists answers patterns with one list in each place, in turn: Pre, then turns.
func lists(l []int) []api.Pattern {
	var all []api.Pattern
	for i := range 2 + mostTurns {
		p := api.Pattern{Turns: make([][]int, mostTurns)}
		if i < 2 {
			p.Pre[i] = l
		} else {
			p.Turns[i-2] = l
		}
		all = append(all, p)
	}
	return all
}

// P10.3: a list of six tokens is none too long, one of seven is, whatever is in it.
func TestCheckSize(t *testing.T) {
	for _, x := range []int{-1, 0, 1, 2, 3, 7, 8} {
		for i, p := range lists(slices.Repeat([]int{x}, mostTokens)) {
			want := api.ErrForm
			if x < 1 || x > 7 {
				want = api.ErrKind
			}
			tryCheck(t, p, want)
			tryCheck(t, lists(slices.Repeat([]int{x}, mostTokens+1))[i], api.ErrSize)
			tryCheck(t, lists(slices.Repeat([]int{x}, 1000))[i], api.ErrSize)
		}
	}
	for i, p := range lists([]int{7, 7, 1, 7, 7, 7}) {
		if i >= 2 {
			tryCheck(t, api.Pattern{Turns: p.Turns[i-2 : i-1]}, api.OK)
		}
	}
}

// P10.3: what is no token, at each place of each list.
func TestCheckKind(t *testing.T) {
	for _, x := range []int{math.MinInt, -8, -1, 0, 8, 9, 1 << 32, 1<<32 + 1, math.MaxInt} {
		for n := range mostTokens {
			l := slices.Repeat([]int{api.Psk}, mostTokens)
			l[n] = x
			for i := range 2 + mostTurns {
				tryCheck(t, lists(l)[i], api.ErrKind)
				tryCheck(t, lists([]int{x})[i], api.ErrKind)
			}
		}
	}
}

// P10.3: the number of turns is asked first, then list by list, then their form.
func TestCheckFirstError(t *testing.T) {
	long, odd := make([]int, 7), []int{1, 0}
	bad := []int{3}
	for i, c := range []struct {
		p    api.Pattern
		want api.Errno
	}{
		{api.Pattern{Pre: [2][]int{odd, odd}}, api.ErrSize},
		{api.Pattern{Pre: [2][]int{odd, bad}, Turns: make([][]int, 6)}, api.ErrSize},
		{api.Pattern{Turns: [][]int{odd, bad, nil, nil, nil, nil}}, api.ErrSize},
		{api.Pattern{Pre: [2][]int{odd, long}, Turns: [][]int{long}}, api.ErrKind},
		{api.Pattern{Pre: [2][]int{long, odd}, Turns: [][]int{odd}}, api.ErrSize},
		{api.Pattern{Pre: [2][]int{nil, odd}, Turns: [][]int{long}}, api.ErrKind},
		{api.Pattern{Pre: [2][]int{nil, long}, Turns: [][]int{odd}}, api.ErrSize},
		{api.Pattern{Turns: [][]int{odd, long}}, api.ErrKind},
		{api.Pattern{Turns: [][]int{long, odd}}, api.ErrSize},
		{api.Pattern{Turns: [][]int{nil, nil, nil, odd, long}}, api.ErrKind},
		{api.Pattern{Pre: [2][]int{bad, bad}, Turns: [][]int{bad, bad, nil, nil, odd}}, api.ErrKind},
		{api.Pattern{Pre: [2][]int{bad, bad}, Turns: [][]int{bad, bad, nil, nil, long}}, api.ErrSize},
		{api.Pattern{Pre: [2][]int{bad, odd}, Turns: [][]int{nil}}, api.ErrKind},
		{api.Pattern{Pre: [2][]int{bad, nil}, Turns: [][]int{nil}}, api.ErrForm},
	} {
		if e := Check(c.p); e != c.want || bookCheck(c.p) != c.want {
			t.Errorf("%d: %d, want %d", i, e, c.want)
		}
	}
}

// P10.3: in Pre there are only E and S, each once at most.
func TestCheckPre(t *testing.T) {
	for x := api.E; x <= api.Psk; x++ {
		for y := api.E; y <= api.Psk; y++ {
			want := api.ErrForm
			if x != y && x <= api.S && y <= api.S {
				want = api.OK
			}
			tryCheck(t, api.Pattern{Pre: [2][]int{{x, y}, nil}, Turns: [][]int{nil}}, want)
			tryCheck(t, api.Pattern{Pre: [2][]int{nil, {x, y}}, Turns: [][]int{nil}}, want)
			if y > api.S {
				tryCheck(t, api.Pattern{Pre: [2][]int{{api.E, api.S}, {api.E, api.S, y}}, Turns: [][]int{nil}}, api.ErrForm)
			}
		}
	}
	tryCheck(t, of("E, S", "S, E", "; "), api.OK)
}

// P10.3: whoever told an E or an S, or told it ahead, tells it no more; what the
// one told does not bind the other one.
func TestCheckTwice(t *testing.T) {
	for _, x := range []string{"E", "S"} {
		for _, c := range []struct {
			p    api.Pattern
			want api.Errno
		}{
			{of("", "", x), api.OK},
			{of("", "", x+";"+x), api.OK},
			{of("", "", x+","+x), api.ErrForm},
			{of("", "", ";"+x+","+x), api.ErrForm},
			{of("", "", x+";;"+x), api.ErrForm},
			{of("", "", x+";"+x+";"+x), api.ErrForm},
			{of("", "", ";"+x+";;"+x), api.ErrForm},
			{of("", "", ";"+x+";"+x+";;"), api.OK},
			{of(x, "", x), api.ErrForm},
			{of(x, "", ";"+x), api.OK},
			{of(x, "", ";;"+x), api.ErrForm},
			{of("", x, x), api.OK},
			{of("", x, ";"+x), api.ErrForm},
			{of(x, x, ""), api.OK},
			{late(of(x, "", x)), api.OK},
			{late(of(x, "", ";"+x)), api.ErrForm},
			{late(of("", x, x)), api.ErrForm},
			{late(of("", x, ";"+x)), api.OK},
			{late(of("", "", x+";;;"+x)), api.OK},
			{late(of("", "", x+";;;;"+x)), api.ErrForm},
		} {
			tryCheck(t, c.p, c.want)
		}
	}
	tryCheck(t, of("E, S", "", "; E, S"), api.OK)
	tryCheck(t, of("E", "S", "S; E"), api.OK)
}

// hasAll asks whether each letter stands in a list of keys.
func hasAll(keys, letters string) bool {
	return !strings.ContainsFunc(letters, func(x rune) bool { return !strings.ContainsRune(keys, x) })
}

// P10.3: each Diffie-Hellman token stands once at most, behind both of its keys: the
// first letter's of who begins, the second one's of the other one.
func TestCheckMixed(t *testing.T) {
	for _, c := range []struct{ said, a, b string }{
		{"EE", "E", "E"}, {"ES", "E", "S"}, {"; SE", "S", "E"}, {"SS, ES", "ES", "S"},
	} {
		for set := range 16 {
			a, b := []string{"", "E", "S", "E, S"}[set%4], []string{"", "E", "S", "E, S"}[set/4]
			want := api.ErrForm
			if hasAll(a, c.a) && hasAll(b, c.b) {
				want = api.OK
			}
			tryCheck(t, of(a, b, c.said), want)
		}
	}
	for _, x := range []string{"EE", "ES", "SE", "SS"} {
		all := of("E, S", "E, S", "EE, ES, SE, SS;;;")
		tryCheck(t, all, api.OK)
		for i := range all.Turns {
			twice := clone(all)
			twice.Turns[i] = append(twice.Turns[i], tokens(x)...)
			tryCheck(t, twice, api.ErrForm)
		}
	}
}

// P10.3: keys that come in the same turn, or a turn later: ahead of the token or
// behind it.
func TestCheckMixedOrder(t *testing.T) {
	for _, c := range []struct {
		p    api.Pattern
		want api.Errno
	}{
		{of("", "", "E; E, EE"), api.OK},
		{of("", "", "E; EE, E"), api.ErrForm},
		{of("", "", "E, EE; E"), api.ErrForm},
		{of("", "", "E; E; EE"), api.OK},
		{of("", "", "E; E, EE; EE"), api.ErrForm},
		{of("", "", "E; E, EE, EE"), api.ErrForm},
		{of("E", "", "; E, EE"), api.OK},
		{of("", "E", "E, EE"), api.OK},
		{of("E", "E", "EE"), api.OK},
		{of("", "S", "E, ES"), api.OK},
		{of("S", "", "E, ES"), api.ErrForm},
		{of("S", "", "; E, SE"), api.OK},
		{of("", "S", "; E, SE"), api.ErrForm},
		{of("", "S", "ES, E"), api.ErrForm},
		{of("", "", "E; E, S, ES"), api.ErrForm},
		{of("", "", "E; E, EE, S, ES"), api.OK},
		{of("", "", "E; E, EE, ES, S"), api.ErrForm},
		{of("S", "S", "E, ES, SS"), api.OK},
		{of("S", "S", "E, ES, SS, SS"), api.ErrForm},
		{of("S", "", "E, SS"), api.ErrForm},
		{late(of("", "", "E; E, EE")), api.OK},
		{late(of("S", "", "E, SE")), api.OK},
		{late(of("", "S", "E, ES")), api.ErrForm},
		{late(of("", "S", "; E, ES")), api.OK},
	} {
		tryCheck(t, c.p, c.want)
	}
}

// P10.3: whoever tells an S, or ends a turn, behind a Psk, has told its own E, too.
func TestCheckPsk(t *testing.T) {
	for _, c := range []struct {
		p    api.Pattern
		want api.Errno
	}{
		{of("", "", "Psk"), api.ErrForm},
		{of("", "", "Psk, E"), api.OK},
		{of("", "", "E, Psk"), api.OK},
		{of("", "", "Psk, S, E"), api.ErrForm},
		{of("", "", "S, Psk, E"), api.OK},
		{of("", "", "Psk, E, S"), api.OK},
		{of("E", "", "Psk"), api.OK},
		{of("E", "", "Psk, S"), api.OK},
		{of("", "E", "Psk"), api.ErrForm},
		{of("S", "S", "Psk"), api.ErrForm},
		{of("", "", "E, Psk;"), api.ErrForm},
		{of("", "", "E, Psk; S, E"), api.ErrForm},
		{of("", "", "E, Psk; E, S"), api.OK},
		{of("", "E", "E, Psk; S"), api.OK},
		{of("", "", "E; Psk"), api.ErrForm},
		{of("", "", "; E, Psk; S, E"), api.ErrForm},
		{of("", "", "; E, Psk; E, S"), api.OK},
		{of("", "", "E, Psk, Psk; E, Psk; Psk; Psk; Psk"), api.OK},
		{late(of("", "E", "Psk")), api.OK},
		{late(of("E", "", "Psk")), api.ErrForm},
		{late(of("E", "", "E, Psk; S")), api.OK},
		{late(of("", "", "E, Psk; S")), api.ErrForm},
	} {
		tryCheck(t, c.p, c.want)
	}
}

// P10.3: whose own lasting key was mixed with a fresh one locks behind EE alone; the
// other one may.
func TestCheckLasting(t *testing.T) {
	for _, c := range []struct {
		p    api.Pattern
		want api.Errno
	}{
		{of("S", "E", "E, SE"), api.ErrForm},
		{of("S", "E", "SE"), api.ErrForm},
		{of("S", "E", "E, SE, EE"), api.OK},
		{of("S", "E", "E, EE, SE"), api.OK},
		{of("", "", "E, S; E, SE"), api.OK},
		{of("", "", "E, S; E, SE;"), api.ErrForm},
		{of("", "", "E, S; E, SE; EE"), api.OK},
		{of("S", "", "E; E, SE, S"), api.OK},
		{of("", "E", "E; ; S, SE"), api.ErrForm},
		{of("", "E", "E; ; S, SE, EE"), api.OK},
		{of("E", "S", "ES;"), api.ErrForm},
		{of("E", "S", "ES; E, EE"), api.OK},
		{of("E", "", "; S, ES"), api.ErrForm},
		{of("E", "", "; E, S, EE, ES"), api.OK},
		{of("E", "E", "; S, ES; EE"), api.ErrForm},
		{of("E", "S", "ES, S"), api.OK},
		{of("E", "S", "ES, S; ; E"), api.ErrForm},
		{late(of("E", "S", "; ES")), api.OK},
		{late(of("E", "S", "ES")), api.ErrForm},
		{late(of("E", "S", "E, ES, EE")), api.OK},
		{late(of("S", "", "E, SE")), api.OK},
		{late(of("S", "", "E, SE, S;")), api.ErrForm},
		{late(of("S", "", "E, SE; E, EE")), api.OK},
	} {
		tryCheck(t, c.p, c.want)
	}
}

// P10.3: an S is told when its own side may lock: what comes behind it is too late.
func TestCheckTellsS(t *testing.T) {
	for _, c := range []struct {
		p    api.Pattern
		want api.Errno
	}{
		{of("E", "E", "; Psk, S"), api.OK},
		{of("E", "", "; Psk, S, E"), api.ErrForm},
		{of("E", "", "; S, Psk, E"), api.OK},
		{of("E", "", "; Psk, E, S"), api.OK},
		{of("E", "E", "; S, ES, EE"), api.OK},
		{of("S, E", "E", "SE, EE; S"), api.OK},
		{of("E", "E", "Psk, S, SE, EE"), api.OK},
		{of("", "E", "Psk, S, E, SE, EE"), api.ErrForm},
	} {
		tryCheck(t, c.p, c.want)
	}
}

// P10.3: behind SS each locks when its own fresh key was mixed with the lasting one
// of the other one, too.
func TestCheckBothLasting(t *testing.T) {
	for _, c := range []struct {
		p    api.Pattern
		want api.Errno
	}{
		{of("S", "S", "SS"), api.ErrForm},
		{of("S", "S", "E, SS"), api.ErrForm},
		{of("S", "S", "E, SS, ES"), api.OK},
		{of("S", "S", "E, ES, SS"), api.OK},
		{of("S", "S", "E, ES, SS;"), api.ErrForm},
		{of("S", "S", "E, ES, SS; E, EE"), api.ErrForm},
		{of("S", "S", "E, ES, SS; E, SE"), api.ErrForm},
		{of("S", "S", "E, ES, SS; E, SE, EE"), api.OK},
		{of("E, S", "E, S", "SS, EE, SE"), api.ErrForm},
		{of("E, S", "E, S", "SS, EE, ES"), api.OK},
		{of("E, S", "E, S", "; SS, EE, ES"), api.ErrForm},
		{of("E, S", "E, S", "; SS, SE"), api.OK},
		{of("E, S", "E, S", "; SS, SE; "), api.ErrForm},
		{of("E, S", "E, S", "; SS, SE; ES, EE; "), api.OK},
		{late(of("E, S", "E, S", "SS, SE")), api.OK},
		{late(of("E, S", "E, S", "SS, ES, EE")), api.ErrForm},
		{late(of("S", "S", "E, SS, SE")), api.OK},
		{late(of("S", "S", "E, SS")), api.ErrForm},
	} {
		tryCheck(t, c.p, c.want)
	}
}

// allLists answers all lists of tokens up to so many.
func allLists(most int) [][]int {
	all := [][]int{nil}
	for i := 0; len(all[i]) < most; i++ {
		for x := api.E; x <= api.Psk; x++ {
			all = append(all, append(slices.Clone(all[i]), x))
		}
	}
	return all
}

// tally holds Check against the book, and counts how many may be.
type tally struct{ all, good int }

func (n *tally) try(t *testing.T, p api.Pattern) {
	t.Helper()
	want := bookCheck(p)
	tryCheck(t, p, want)
	n.all++
	if want == api.OK {
		n.good++
	}
}

// P10.3: all patterns of two turns of two tokens at most, with all that may be known
// ahead, by the words of the chapter; how many of them may be is known of another
// program, too.
func TestCheckAllShort(t *testing.T) {
	var n tally
	pre := [][]int{nil, {api.E}, {api.S}, {api.E, api.S}}
	said := allLists(2)
	for i := range 2 * len(pre) * len(pre) {
		p := api.Pattern{Late: i%2 == 1, Pre: [2][]int{pre[i/2%4], pre[i/8]}}
		for _, one := range said {
			p.Turns = [][]int{one}
			n.try(t, p)
			for _, other := range said {
				p.Turns = [][]int{one, other}
				n.try(t, p)
			}
		}
	}
	if n != (tally{105792, 2428}) {
		t.Errorf("%d patterns, %d of which may be", n.all, n.good)
	}
}

// P10.3: all patterns of one turn of four tokens at most, the same way.
func TestCheckAllLong(t *testing.T) {
	var n tally
	pre := [][]int{nil, {api.E}, {api.S}, {api.E, api.S}}
	for _, one := range allLists(4) {
		for i := range 2 * len(pre) * len(pre) {
			n.try(t, api.Pattern{Late: i%2 == 1, Pre: [2][]int{pre[i/2%4], pre[i/8]}, Turns: [][]int{one}})
		}
	}
	if n != (tally{89632, 1956}) {
		t.Errorf("%d patterns, %d of which may be", n.all, n.good)
	}
}

// neighbours does something with all patterns that differ from this one in one
// token, which is another one, is missing, or is there more, and in what is Late.
func neighbours(p api.Pattern, do func(api.Pattern)) {
	flipped := clone(p)
	flipped.Late = !p.Late
	do(flipped)
	for i := range 2 + len(p.Turns) {
		list := func(q *api.Pattern) *[]int {
			if i < 2 {
				return &q.Pre[i]
			}
			return &q.Turns[i-2]
		}
		for j := range len(*list(&p)) + 1 {
			for x := 0; x <= api.Psk+1; x++ {
				more := clone(p)
				*list(&more) = slices.Insert(*list(&more), j, x)
				do(more)
				if j < len(*list(&p)) {
					other := clone(p)
					(*list(&other))[j] = x
					do(other)
				}
			}
			if j < len(*list(&p)) {
				less := clone(p)
				*list(&less) = slices.Delete(*list(&less), j, j+1)
				do(less)
			}
		}
	}
}

// P10.3: whatever differs by a token or two from what may be.
func TestCheckNeighbours(t *testing.T) {
	var n tally
	all := noises()
	eachAllowed(func(name string, psks []int) { all = append(all, bookWith(name, psks)) })
	r := rand.New(rand.NewSource(1))
	for _, p := range all {
		neighbours(p, func(q api.Pattern) {
			n.try(t, q)
			if r.Intn(20) == 0 {
				neighbours(q, func(u api.Pattern) { n.try(t, u) })
			}
		})
	}
	if n.good < n.all/50 || n.good > n.all/2 {
		t.Errorf("%d patterns, %d of which may be", n.all, n.good)
	}
}

// drawPattern answers a pattern of up to five turns, each token of which keeps it in
// form, if one of some does.
func drawPattern(r *rand.Rand) api.Pattern {
	p := api.Pattern{Late: r.Intn(2) == 1}
	for i := range p.Pre {
		p.Pre[i] = [][]int{nil, nil, {api.E}, {api.S}, {api.S, api.E}}[r.Intn(5)]
	}
	for range 1 + r.Intn(mostTurns) {
		p.Turns = append(p.Turns, nil)
		last := &p.Turns[len(p.Turns)-1]
		for range r.Intn(mostTokens) {
			for range 5 {
				l := append(slices.Clone(*last), 1+r.Intn(7))
				was := *last
				*last = l
				if bookForm(p) {
					break
				}
				if r.Intn(30) > 0 {
					*last = was
				}
			}
		}
		if len(*last) > mostTokens {
			*last = (*last)[:mostTokens]
		}
	}
	return p
}

// P10.3: patterns of many turns, most of which may be, and what differs from them.
func TestCheckDrawn(t *testing.T) {
	var n tally
	r := rand.New(rand.NewSource(2))
	for i := range 20000 {
		p := drawPattern(r)
		n.try(t, p)
		if i%50 == 0 {
			neighbours(p, func(q api.Pattern) { n.try(t, q) })
		}
	}
	if n.good < n.all/10 || n.good > n.all*9/10 {
		t.Errorf("%d patterns, %d of which may be", n.all, n.good)
	}
}

// P10.4, P10.5: the names of all patterns; what Show answers, Parse reads as it was.
func TestNames(t *testing.T) {
	eachAllowed(func(name string, psks []int) {
		p, s := bookWith(name, psks), bookName(name, psks)
		tryParse(t, s, p)
		tryShow(t, p, s, api.OK)
		made, _ := With(name, psks)
		tryShow(t, made, s, api.OK)
		read, _ := Parse(s)
		tryShow(t, read, s, api.OK)
	})
}

// P10.4, P10.5: names as they are written.
func TestNamesWritten(t *testing.T) {
	for _, c := range []struct {
		name string
		psks []int
		want string
	}{
		{"NN", nil, "Noise_NN_25519_ChaChaPoly_BLAKE2s"},
		{"XX", []int{3}, "Noise_XXpsk3_25519_ChaChaPoly_BLAKE2s"},
		{"IK", []int{0, 2}, "Noise_IKpsk0+psk2_25519_ChaChaPoly_BLAKE2s"},
		{"XK", []int{0, 1, 2, 3}, "Noise_XKpsk0+psk1+psk2+psk3_25519_ChaChaPoly_BLAKE2s"},
		{"XXfallback", nil, "Noise_XXfallback_25519_ChaChaPoly_BLAKE2s"},
		{"XXfallback", []int{0, 1}, "Noise_XXfallbackpsk0+psk1_25519_ChaChaPoly_BLAKE2s"},
	} {
		tryParse(t, c.want, bookWith(c.name, c.psks))
		tryShow(t, bookWith(c.name, c.psks), c.want, api.OK)
	}
}

// P10.4: names that are refused, and which error is told where several hold.
func TestParseRefuses(t *testing.T) {
	const tail = "_25519_ChaChaPoly_BLAKE2s"
	for _, c := range []struct {
		name string
		want api.Errno
	}{
		{"", api.ErrForm}, {"NN", api.ErrForm}, {"Noise_", api.ErrForm}, {tail, api.ErrForm},
		{"Noise_NN", api.ErrForm}, {"NN" + tail, api.ErrForm}, {"noise_NN" + tail, api.ErrForm},
		{" Noise_NN" + tail, api.ErrForm}, {"Noise_NN" + tail + " ", api.ErrForm}, {"Noise_NN" + tail + "\n", api.ErrForm},
		{"NoiseNN" + tail, api.ErrForm}, {"Noise_NN25519_ChaChaPoly_BLAKE2s", api.ErrForm},
		{"Noise_NN_25519_AESGCM_BLAKE2s", api.ErrForm}, {"Noise_NN_448_ChaChaPoly_BLAKE2s", api.ErrForm},
		{"Noise_NN_25519_ChaChaPoly_BLAKE2b", api.ErrForm}, {"Noise_NN_25519_ChaChaPoly_SHA256", api.ErrForm},
		{"Noise_NN_25519_ChaChaPoly_BLAKE2", api.ErrForm}, {"Noise_NN_25519_ChaChaPoly_BLAKE2S", api.ErrForm},
		// The _ is that of both ends, but a name has them behind one another.
		{"Noise_25519_ChaChaPoly_BLAKE2s", api.ErrForm},
		{"Noise_" + tail, api.ErrNone}, {"Noise_YY" + tail, api.ErrNone}, {"Noise_nn" + tail, api.ErrNone},
		{"Noise_Noise_NN" + tail, api.ErrNone}, {"Noise_NN" + tail + tail, api.ErrNone}, {"Noise_NN " + tail, api.ErrNone},
		{"Noise_NN+" + tail, api.ErrNone}, {"Noise_NNps" + tail, api.ErrNone}, {"Noise_NNPSK0" + tail, api.ErrNone},
		{"Noise_NN+psk0" + tail, api.ErrNone}, {"Noise_psk0" + tail, api.ErrNone}, {"Noise_XXfallback+psk0" + tail, api.ErrNone},
		{"Noise_NN0" + tail, api.ErrNone}, {"Noise_NNfallback" + tail, api.ErrNone}, {"Noise_NN\x00" + tail, api.ErrNone},
		{"Noise_NNpsk" + tail, api.ErrForm}, {"Noise_NNpsk00" + tail, api.ErrForm}, {"Noise_NNpsk01" + tail, api.ErrForm},
		{"Noise_NNpsk-1" + tail, api.ErrForm}, {"Noise_NNpsk+1" + tail, api.ErrForm}, {"Noise_NNpsk0psk1" + tail, api.ErrForm},
		{"Noise_NNpsk0+" + tail, api.ErrForm}, {"Noise_NNpsk0++psk1" + tail, api.ErrForm}, {"Noise_NNpsk0+1" + tail, api.ErrForm},
		{"Noise_NNpsk0-psk1" + tail, api.ErrForm}, {"Noise_NNpsk0,psk1" + tail, api.ErrForm}, {"Noise_NNpsk0 +psk1" + tail, api.ErrForm},
		{"Noise_NNpsk0+psk" + tail, api.ErrForm}, {"Noise_NNpsk0+psk12" + tail, api.ErrForm}, {"Noise_NNpsk0x" + tail, api.ErrForm},
		{"Noise_NNpsk0+psk1x" + tail, api.ErrForm}, {"Noise_NNpskx" + tail, api.ErrForm}, {"Noise_NNpsk/" + tail, api.ErrForm},
		{"Noise_NNpsk:" + tail, api.ErrForm}, {"Noise_NNpsk\u0661" + tail, api.ErrForm}, {"Noise_NNpsk\xb0" + tail, api.ErrForm},
		{"Noise_NNpskpsk0" + tail, api.ErrForm}, {"Noise_NNpsk0_" + tail, api.ErrForm}, {"Noise_NNpsk0+fallback" + tail, api.ErrForm},
		{"Noise_pskNN" + tail, api.ErrForm}, {"Noise_psk0NN" + tail, api.ErrForm}, {"Noise_XXpsk0fallback" + tail, api.ErrForm},
		{"Noise_NNpsk0+Psk1" + tail, api.ErrForm},
		{"Noise_YYpsk" + tail, api.ErrForm}, {"Noise_YYpsk0" + tail, api.ErrNone}, {"Noise_YYpsk9" + tail, api.ErrNone},
		{"Noise_NNpsk3" + tail, api.ErrRange}, {"Noise_XXpsk4" + tail, api.ErrRange}, {"Noise_NNpsk9" + tail, api.ErrRange},
		{"Noise_NNpsk1+psk1" + tail, api.ErrForm}, {"Noise_XXpsk2+psk1" + tail, api.ErrForm}, {"Noise_NNpsk1+psk0+psk9" + tail, api.ErrForm},
		{"Noise_NNpsk1+psk9+psk0" + tail, api.ErrRange},
		{"Noise_XXpsk0+psk1+psk2+psk3+psk4" + tail, api.ErrSize}, {"Noise_XXpsk9+psk9+psk9+psk9+psk9" + tail, api.ErrSize},
		{"Noise_XXpsk0+psk1+psk2+psk3+psk" + tail, api.ErrForm}, {"Noise_XXpsk0+psk1+psk2+psk3+psk4+psk5x" + tail, api.ErrForm},
		{"Noise_YYpsk0+psk1+psk2+psk3+psk4" + tail, api.ErrNone},
		{"Noise_XXpsk0" + strings.Repeat("+psk1", 1<<18) + tail, api.ErrSize},
		{"Noise_XXpsk0" + strings.Repeat("+psk1", 1<<18) + "+" + tail, api.ErrForm},
		{"Noise_" + strings.Repeat("X", 1<<20) + tail, api.ErrNone},
	} {
		tryParseRefused(t, c.name, c.want)
		if _, e := bookParse(c.name); e != c.want {
			t.Errorf("%.80q: the book says %d, not %d", c.name, e, c.want)
		}
	}
}

// P10.4: all names that differ in a byte from one that may be.
func TestParseNeighbours(t *testing.T) {
	try := func(s string) {
		want, e := bookParse(s)
		if e != api.OK {
			tryParseRefused(t, s, e)
		} else {
			tryParse(t, s, want)
		}
	}
	for _, c := range []struct {
		name string
		psks []int
	}{{"NN", nil}, {"IK", []int{0}}, {"XXfallback", []int{1, 2}}, {"XX", []int{0, 1, 2, 3}}} {
		s := bookName(c.name, c.psks)
		for i := range len(s) + 1 {
			for _, x := range []byte("\x00 +-/0123459:NXIKpsk_\xff") {
				try(s[:i] + string([]byte{x}) + s[i:])
				if i < len(s) {
					try(s[:i] + string([]byte{x}) + s[i+1:])
				}
			}
			try(s[:i])
			try(s[i:])
			if i < len(s) {
				try(s[:i] + s[i+1:])
			}
		}
	}
}

// P10.4: names put together at random of their parts.
func TestParseDrawn(t *testing.T) {
	r := rand.New(rand.NewSource(3))
	parts := []string{"psk0", "psk1", "psk2", "psk3", "psk4", "+psk1", "+psk2", "+psk3", "+", "psk", "0", "NN", "XX", "fallback", "_", "p", ""}
	seen := map[api.Errno]int{}
	for range 30000 {
		s := append(bases(), "YY", "")[r.Intn(9)]
		for range r.Intn(4) {
			s += parts[r.Intn(len(parts))]
		}
		s = bookName(s, nil)
		want, e := bookParse(s)
		seen[e]++
		if e != api.OK {
			tryParseRefused(t, s, e)
		} else {
			tryParse(t, s, want)
		}
	}
	for _, e := range []api.Errno{api.OK, api.ErrForm, api.ErrNone, api.ErrRange} {
		if seen[e] < 100 {
			t.Errorf("error %d came %d times", e, seen[e])
		}
	}
}

// P10.5: what With refuses of Base and Psks, whatever the rest is.
func TestShowRefuses(t *testing.T) {
	for _, c := range []struct {
		name string
		psks []int
		want api.Errno
	}{
		{"", nil, api.ErrNone}, {"YY", []int{0, 0, 0, 0, 0}, api.ErrNone}, {"NNpsk0", nil, api.ErrNone},
		{"XX", []int{0, 1, 2, 3, 4}, api.ErrSize}, {"XX", []int{4}, api.ErrRange}, {"NN", []int{-1}, api.ErrRange},
		{"NN", []int{1, 1}, api.ErrForm}, {"NN", []int{1, 9, 0}, api.ErrRange}, {"NN", []int{2, 1, 9}, api.ErrForm},
	} {
		for _, p := range []api.Pattern{{}, bookBase("NN"), bookBase("XX"), bookBase("XXfallback")} {
			p.Base, p.Psks = c.name, c.psks
			tryShow(t, p, "", c.want)
		}
	}
}

// P10.5: what differs from what With makes in any one part has no name.
func TestShowDiffers(t *testing.T) {
	n := 0
	eachAllowed(func(name string, psks []int) {
		p := bookWith(name, psks)
		neighbours(p, func(q api.Pattern) {
			if show(q) != show(p) {
				n++
				tryShow(t, q, "", api.ErrForm)
			}
		})
		for i := range len(p.Turns) + 1 {
			more := clone(p)
			more.Turns = slices.Insert(more.Turns, i, []int(nil))
			tryShow(t, more, "", api.ErrForm)
			if i < len(p.Turns) {
				less := clone(p)
				less.Turns = slices.Delete(less.Turns, i, i+1)
				tryShow(t, less, "", api.ErrForm)
			}
		}
		swapped := clone(p)
		swapped.Pre[0], swapped.Pre[1] = swapped.Pre[1], swapped.Pre[0]
		if show(swapped) != show(p) {
			tryShow(t, swapped, "", api.ErrForm)
		}
	})
	if n < 10000 {
		t.Errorf("%d patterns differ", n)
	}
}

// P10.5: the pattern of one base or list of psks is not that of another one.
func TestShowOthers(t *testing.T) {
	eachAllowed(func(name string, psks []int) {
		eachAllowed(func(other string, l []int) {
			p := bookWith(name, psks)
			made := show(p)
			p.Base, p.Psks = other, l
			if show(p) == made {
				return
			}
			want := bookRefused(other, l)
			if want == api.OK {
				want = api.ErrForm
			}
			tryShow(t, p, "", want)
		})
	})
	tryShow(t, api.Pattern{Base: "NN"}, "", api.ErrForm)
}

// P10.3, P10.5: lists without elements may be nil or not.
func TestEmptyLists(t *testing.T) {
	p := bookBase("XX")
	for _, l := range [][]int{nil, {}, make([]int, 0, 5)} {
		p.Psks, p.Pre = l, [2][]int{l, l}
		tryShow(t, p, bookName("XX", nil), api.OK)
		tryCheck(t, p, api.OK)
		tryWith(t, "XX", l, bookBase("XX"))
	}
}

// room answers a list with elements behind it, in its spare room.
func room(l []int) []int { return append(slices.Clone(l), 99, 98, 97)[:len(l)] }

// roomy answers a pattern all lists of which have something behind them.
func roomy(p api.Pattern) api.Pattern {
	p = clone(p)
	p.Psks = room(p.Psks)
	for i, l := range p.Pre {
		p.Pre[i] = room(l)
	}
	for i, l := range p.Turns {
		p.Turns[i] = room(l)
	}
	p.Turns = append(p.Turns, []int{96})[:len(p.Turns)]
	return p
}

// whole tells a pattern with what lies behind its lists.
func whole(p api.Pattern) string {
	s := p.Base + fmt.Sprint(p.Late, p.Psks[:cap(p.Psks)])
	for _, l := range p.Pre {
		s += fmt.Sprint(l[:cap(l)])
	}
	for _, l := range p.Turns[:cap(p.Turns)] {
		s += fmt.Sprint(l[:cap(l)])
	}
	return s
}

// scrub fills all lists of a pattern, and what lies behind them.
func scrub(p api.Pattern) {
	for _, l := range slices.Concat([][]int{p.Psks}, p.Pre[:], p.Turns[:cap(p.Turns)]) {
		l = l[:cap(l)]
		for i := range l {
			l[i] = -7
		}
	}
	clear(p.Turns[:cap(p.Turns)])
}

// P10.2 to P10.5: no argument is changed, nor what lies behind its lists.
func TestArgumentsStay(t *testing.T) {
	eachAllowed(func(name string, psks []int) {
		given := room(psks)
		before := fmt.Sprint(given[:cap(given)])
		With(name, given)
		With(name, given[:cap(given)])
		With("YY", given)
		if fmt.Sprint(given[:cap(given)]) != before {
			t.Fatalf("With(%q, %v): the list was changed", name, psks)
		}
		p := roomy(bookWith(name, psks))
		was := whole(p)
		Show(p)
		Check(p)
		p.Late = !p.Late
		Show(p)
		Check(p)
		p.Late = !p.Late
		if whole(p) != was {
			t.Fatalf("Show or Check of %q, %v: the pattern was changed", name, psks)
		}
	})
}

// P10.2, P10.4: what comes out shares nothing, spare room too, with what was handed
// in or with what another call answered; nothing is kept from call to call.
func TestAnswersShareNothing(t *testing.T) {
	eachAllowed(func(name string, psks []int) {
		given := room(psks)
		want, all := show(bookWith(name, psks)), fmt.Sprint(given[:cap(given)])
		made, _ := With(name, given)
		again, _ := With(name, given)
		read, _ := Parse(bookName(name, psks))
		reread, _ := Parse(bookName(name, psks))
		scrub(made)
		scrub(read)
		if fmt.Sprint(given[:cap(given)]) != all {
			t.Fatalf("With(%q, %v): the answer shares memory with the list", name, psks)
		}
		for i := range given[:cap(given)] {
			given[:cap(given)][i] = -9
		}
		if show(again) != want || show(reread) != want {
			t.Fatalf("%q, %v: an answer shares memory with another one, or with the list", name, psks)
		}
		tryWith(t, name, psks, bookWith(name, psks))
		tryParse(t, bookName(name, psks), bookWith(name, psks))
	})
}

// P10.2, P10.4: no two lists of one answer share memory.
func TestListsShareNothing(t *testing.T) {
	eachAllowed(func(name string, psks []int) {
		for i := range 3 + len(bookBase(name).Turns) {
			made, _ := With(name, psks)
			read, _ := Parse(bookName(name, psks))
			for _, p := range []api.Pattern{made, read} {
				all := slices.Concat([][]int{p.Psks}, p.Pre[:], p.Turns)
				want := bookWith(name, psks)
				others := slices.Concat([][]int{want.Psks}, want.Pre[:], want.Turns)
				l := all[i][:cap(all[i])]
				for j := range l {
					l[j] = -7
				}
				all[i], others[i] = nil, nil
				if fmt.Sprint(all) != fmt.Sprint(others) {
					t.Fatalf("%q, %v: list %d shares memory with another one: %v", name, psks, i, all)
				}
				all[i] = l
				if len(p.Turns) < cap(p.Turns) && p.Turns[:cap(p.Turns)][len(p.Turns)] != nil {
					t.Fatalf("%q, %v: something lies behind the turns", name, psks)
				}
			}
		}
	})
}
