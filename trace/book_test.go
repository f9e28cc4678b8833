package trace

import (
	"fmt"
	"math/rand"
	"slices"
	"strings"

	"signet/api"
	"signet/pattern"
)

// A second reckoning, by the chapter's words. Terms are texts, as text tells them; what somebody can open is asked
// by what was mixed in, one by one, without term.

// text tells a term whole: A5, P1, D2.3, K1(chain,mixed), L(key,beside,text). What else stands in it makes it odd.
func text(t api.Term) string {
	var l []string
	for _, x := range t.Args {
		l = append(l, text(x))
	}
	args := strings.Join(l, ",")
	switch {
	case t.Kind == api.Atom && t.Other == 0 && len(l) == 0:
		return fmt.Sprint("A", t.Id)
	case t.Kind == api.Pub && t.Other == 0 && len(l) == 0:
		return fmt.Sprint("P", t.Id)
	case t.Kind == api.Dh && len(l) == 0:
		return fmt.Sprintf("D%d.%d", t.Id, t.Other)
	case t.Kind == api.Kdf && t.Other == 0 && len(l) == 2:
		return fmt.Sprintf("K%d(%s)", t.Id, args)
	case t.Kind == api.Lock && t.Id == 0 && t.Other == 0 && len(l) == 3:
		return fmt.Sprintf("L(%s)", args)
	}
	return fmt.Sprintf("odd%+v", t)
}

func textAll(l []api.Term) []string {
	var out []string
	for _, t := range l {
		out = append(out, text(t))
	}
	return out
}

// words answers the names of the tokens, each at its own place.
func words() []string { return []string{"", "E", "S", "EE", "ES", "SE", "SS", "Psk"} }

// item: what was told, and what had been mixed in by then, if it is locked.
type item struct {
	what  string
	under []string
}

// bookTold answers what a pattern tells, which may be.
func bookTold(p api.Pattern) []item {
	var told []item
	var mixed []string
	psks := len(p.Psks) > 0
	number := 10
	for i, who := range []string{"P3", "P4"} {
		if psks && slices.Contains(p.Pre[i], api.E) {
			mixed = append(mixed, who)
		}
	}
	for i, tokens := range p.Turns {
		own := "12"
		if i%2 == 1 != p.Late {
			own = "21"
		}
		lasting := "P" + own[:1]
		fresh := map[string]string{"1": "P3", "2": "P4"}[own[:1]]
		for _, x := range tokens {
			switch word := words()[x]; word {
			case "E":
				told = append(told, item{what: fresh})
				if psks {
					mixed = append(mixed, fresh)
				}
			case "S":
				told = append(told, item{lasting, slices.Clone(mixed)})
			case "Psk":
				mixed = append(mixed, fmt.Sprint("A", number))
				number++
			default:
				begins := map[byte]int{'S': 1, 'E': 3}[word[0]]
				other := map[byte]int{'S': 2, 'E': 4}[word[1]]
				mixed = append(mixed, fmt.Sprintf("D%d.%d", min(begins, other), max(begins, other)))
			}
		}
		told = append(told, item{fmt.Sprint("A", 20+i), slices.Clone(mixed)})
	}
	return told
}

// bookTerm answers an item as the term that is told, so many told ahead.
func bookTerm(x item, ahead int) string {
	chain, key := "A0", ""
	for _, m := range x.under {
		key = "K2(" + chain + "," + m + ")"
		chain = "K1(" + chain + "," + m + ")"
	}
	if key == "" {
		return x.what
	}
	return fmt.Sprintf("L(%s,A%d,%s)", key, 100+ahead, x.what)
}

func bookTerms(l []item) []string {
	var out []string
	for i, x := range l {
		out = append(out, bookTerm(x, i))
	}
	return out
}

// bookRefused answers what Told refuses.
func bookRefused(p api.Pattern) api.Errno {
	if e := pattern.Check(p); e != api.OK {
		return e
	}
	if len(p.Psks) > 4 {
		return api.ErrSize
	}
	return api.OK
}

// bookPublic answers what one knows who looks on, beside what is told.
func bookPublic(p api.Pattern) []string {
	l := []string{"A0", "P1", "P2"}
	for i, who := range []string{"P3", "P4"} {
		if slices.Contains(p.Pre[i], api.E) {
			l = append(l, who)
		}
	}
	return l
}

// bookSize answers how many terms one knows who looks on and has so many secrets.
func bookSize(p api.Pattern, secrets int) int {
	all := len(bookPublic(p)) + secrets
	for _, t := range bookTerms(bookTold(p)) {
		for _, c := range t {
			if c >= 'A' && c <= 'Z' {
				all++
			}
		}
	}
	return all
}

// bookOpens: is all that was mixed in known, by what is known?
func bookOpens(under []string, known map[string]bool) bool {
	for _, m := range under {
		var a, b int
		if n, _ := fmt.Sscanf(m, "D%d.%d", &a, &b); n == 2 {
			secret := func(n int) bool { return known[fmt.Sprint("A", n)] }
			public := func(n int) bool { return known[fmt.Sprint("P", n)] }
			if !(secret(a) && public(b)) && !(secret(b) && public(a)) {
				return false
			}
		} else if !known[m] {
			return false
		}
	}
	return true
}

// bookHidden: by the book, of a pattern that may be, and a turn that there is.
func bookHidden(p api.Pattern, secrets []int, turn int) bool {
	known := map[string]bool{}
	for _, x := range bookPublic(p) {
		known[x] = true
	}
	for _, n := range secrets {
		known[fmt.Sprint("A", n)] = true
	}
	told := bookTold(p)
	for range len(told) + 1 { // each time around one more is opened, or none any more
		for n := 1; n <= 4; n++ {
			if known[fmt.Sprint("A", n)] {
				known[fmt.Sprint("P", n)] = true
			}
		}
		for _, x := range told {
			if bookOpens(x.under, known) {
				known[x.what] = true
			}
		}
	}
	return !known[fmt.Sprint("A", 20+turn)]
}

// bookAnswer answers all that Hidden does.
func bookAnswer(p api.Pattern, secrets []int, turn int) (bool, api.Errno) {
	if e := bookRefused(p); e != api.OK {
		return false, e
	}
	if turn < 0 || turn >= len(p.Turns) || len(secrets) > 6 {
		return false, api.ErrRange
	}
	for _, n := range secrets {
		if n < 0 {
			return false, api.ErrRange
		}
	}
	if bookSize(p, len(secrets)) > 300 {
		return false, api.ErrSize
	}
	return bookHidden(p, secrets, turn), api.OK
}

// names answers the names of all bases with all psks that they may have, in short: XXpsk0+psk2.
func names() []string {
	var l []string
	for _, base := range bases() {
		for set := range 1 << 5 {
			var psks []int
			var mods []string
			for n := range 5 {
				if set>>n&1 == 1 {
					psks = append(psks, n)
					mods = append(mods, fmt.Sprint("psk", n))
				}
			}
			if _, e := pattern.With(base, psks); e == api.OK {
				l = append(l, base+strings.Join(mods, "+"))
			}
		}
	}
	return l
}

func bases() []string { return []string{"NN", "NK", "XX", "IK", "XK", "KK", "XXfallback"} }

// drawTurn answers a turn that may follow, or, now and then, any.
func drawTurn(r *rand.Rand, p api.Pattern) []int {
	tokens := []int{api.E, api.S, api.EE, api.ES, api.SE, api.SS, api.Psk}
	if r.Intn(3) == 0 {
		tokens = append(tokens, api.Psk, api.Psk, api.Psk, api.Psk, api.Psk, api.Psk, api.E, api.S)
	}
	for {
		var l []int
		for range r.Intn(7) {
			l = append(l, tokens[r.Intn(len(tokens))])
		}
		next := p
		next.Turns = append(slices.Clone(p.Turns), l)
		if pattern.Check(next) == api.OK || r.Intn(3000) == 0 {
			return l
		}
	}
}

// drawPattern answers a pattern that may be, or, now and then, one that may not.
func drawPattern(r *rand.Rand) api.Pattern {
	p := api.Pattern{Base: "drawn", Late: r.Intn(2) == 0}
	for side := range 2 {
		for _, n := range r.Perm(2)[:r.Intn(3)] {
			p.Pre[side] = append(p.Pre[side], api.E+n)
		}
	}
	for range r.Intn(2) * (1 + r.Intn(4) + r.Intn(60)/59) {
		p.Psks = append(p.Psks, r.Intn(9)-2)
	}
	for range 1 + r.Intn(5) {
		p.Turns = append(p.Turns, drawTurn(r, p))
	}
	if r.Intn(30) == 0 {
		spoilToken(r, p.Turns[r.Intn(len(p.Turns))])
	}
	return p
}

// spoilToken changes one token, in place, if there is one.
func spoilToken(r *rand.Rand, l []int) {
	if len(l) > 0 {
		l[r.Intn(len(l))] = r.Intn(12) - 2
	}
}

// drawFull answers a pattern that tells much: nearly all of its tokens are psks.
func drawFull(r *rand.Rand) api.Pattern {
	for {
		p := api.Pattern{Psks: []int{0}[:r.Intn(3)/2], Late: r.Intn(2) == 0}
		for i := range 5 {
			l := slices.Repeat([]int{api.Psk}, 5+r.Intn(3)/2)
			if side := (i + r.Intn(2)) % 2; i < 2 && r.Intn(3) > 0 {
				p.Pre[side] = []int{api.E}
			} else if i < 2 {
				l[0] = api.E
			}
			p.Turns = append(p.Turns, l)
		}
		for range r.Intn(5) {
			l := p.Turns[r.Intn(5)]
			l[r.Intn(len(l))] = []int{api.S, api.S, api.EE, api.ES}[r.Intn(4)]
		}
		if pattern.Check(p) == api.OK {
			return p
		}
	}
}

// drawSecrets answers some atoms, often those that a pattern uses.
func drawSecrets(r *rand.Rand) []int {
	var l []int
	for range r.Intn(7) {
		l = append(l, []int{r.Intn(5), 1 + r.Intn(4), 10 + r.Intn(5), r.Intn(130)}[r.Intn(4)])
	}
	switch r.Intn(40) {
	case 0:
		l = append(l, -1-r.Intn(3))
	case 1:
		l = append(l, 1, 2, 3, 4, 5, 6, 7)[:7]
	}
	return l
}
