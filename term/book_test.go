package term

import (
	"fmt"
	"math/rand"
	"strings"

	"signet/api"
)

// A second reckoning, by the chapter's words. Terms are told as texts; what one has and can make are
// sets of these texts, which grow by each rule until none of them finds anything.

// text tells a term whole.
func text(t api.Term) string {
	s := fmt.Sprint("(", t.Kind, " ", t.Id, " ", t.Other)
	for _, x := range t.Args {
		s += " " + text(x)
	}
	return s + ")"
}

// bookSize answers how many terms a term has in it, and how many stand within one another.
func bookSize(t api.Term) (all, depth int) {
	all = 1
	for _, x := range t.Args {
		a, d := bookSize(x)
		all += a
		depth = max(depth, d)
	}
	return all, depth + 1
}

// bookWrong answers all that is wrong with the form of a term, in the order in which it is told.
func bookWrong(t api.Term) []api.Errno {
	var l []api.Errno
	args := map[int]int{api.Atom: 0, api.Pub: 0, api.Dh: 0, api.Pair: 2, api.Sum: 1, api.Kdf: 2, api.Lock: 3}
	n, there := args[t.Kind]
	if !there {
		l = append(l, api.ErrKind)
	}
	if there && n != len(t.Args) {
		l = append(l, api.ErrForm)
	}
	if t.Id < 0 || t.Other < 0 {
		l = append(l, api.ErrForm)
	}
	if t.Kind != api.Dh && t.Other != 0 || t.Kind == api.Dh && t.Other < t.Id {
		l = append(l, api.ErrForm)
	}
	if t.Id != 0 && !strings.Contains("1 2 3 6", fmt.Sprint(t.Kind)) {
		l = append(l, api.ErrForm)
	}
	for _, x := range t.Args {
		l = append(l, bookWrong(x)...)
	}
	return l
}

func bookForm(t api.Term) api.Errno {
	for _, e := range bookWrong(t) {
		return e
	}
	return api.OK
}

func bookCheck(t api.Term) api.Errno {
	if all, depth := bookSize(t); all > api.MaxTerms || depth > api.MaxDepth {
		return api.ErrSize
	}
	return bookForm(t)
}

// bookErr answers what Knows refuses.
func bookErr(l []api.Term, t api.Term) api.Errno {
	sum := 0
	for _, x := range l {
		all, depth := bookSize(x)
		sum += all
		if depth > api.MaxDepth {
			return api.ErrSize
		}
	}
	if sum > api.MaxTerms {
		return api.ErrSize
	}
	for _, x := range l {
		if e := bookForm(x); e != api.OK {
			return e
		}
	}
	return bookCheck(t)
}

// book: the terms of which it is asked, and those of them that one has and can make.
type book struct {
	all      map[string]api.Term
	has, can map[string]bool
}

// add takes up a term and all that stands in it, or that it is made of.
func (b *book) add(t api.Term) {
	b.all[text(t)] = t
	switch t.Kind {
	case api.Pub:
		b.add(atom(t.Id))
	case api.Dh:
		b.add(pub(t.Id))
		b.add(pub(t.Other))
	}
	for _, x := range t.Args {
		b.add(x)
	}
}

// found answers what follows from one term by one step of each rule.
func (b *book) found(t api.Term) (has, can []api.Term) {
	atomOf := func(n int) bool { return b.has[text(atom(n))] }
	pubOf := func(n int) bool { return b.can[text(pub(n))] }
	if b.has[text(t)] {
		can = append(can, t)
		switch t.Kind {
		case api.Pair:
			has = append(has, t.Args[0], t.Args[1])
		case api.Lock:
			if b.can[text(t.Args[0])] {
				has = append(has, t.Args[2])
			}
		}
	}
	switch t.Kind {
	case api.Atom:
	case api.Pub:
		if atomOf(t.Id) {
			can = append(can, t)
		}
	case api.Dh:
		if atomOf(t.Id) && pubOf(t.Other) || atomOf(t.Other) && pubOf(t.Id) {
			can = append(can, t)
		}
	default:
		n := 0
		for _, x := range t.Args {
			if b.can[text(x)] {
				n++
			}
		}
		if n == len(t.Args) {
			can = append(can, t)
		}
	}
	return has, can
}

// bookKnows: by the book, of terms that may be.
func bookKnows(l []api.Term, t api.Term) bool {
	b := &book{map[string]api.Term{}, map[string]bool{}, map[string]bool{}}
	for _, x := range l {
		b.add(x)
		b.has[text(x)] = true
	}
	b.add(t)
	for more := true; more; {
		more = false
		for _, x := range b.all {
			has, can := b.found(x)
			for _, y := range has {
				more = more || !b.has[text(y)]
				b.has[text(y)] = true
			}
			for _, y := range can {
				more = more || !b.can[text(y)]
				b.can[text(y)] = true
			}
		}
	}
	return b.can[text(t)]
}

// drawTerm answers a term that may be, of so many within one another at most.
func drawTerm(r *rand.Rand, depth int) api.Term {
	kind := 1 + r.Intn(10)
	if depth <= 1 {
		kind = 1 + r.Intn(4)
	}
	switch kind {
	case 1, 2:
		return atom(r.Intn(5))
	case 3:
		return pub(r.Intn(5))
	case 4:
		a, b := r.Intn(5), r.Intn(5)
		return dh(min(a, b), max(a, b))
	case 5, 6:
		return pair(drawTerm(r, depth-1), drawTerm(r, depth-1))
	case 7:
		return sum(drawTerm(r, depth-1))
	case 8:
		return kdf(1+r.Intn(2), drawTerm(r, depth-1), drawTerm(r, depth-1))
	}
	return lock(drawTerm(r, min(depth-1, 2)), drawTerm(r, min(depth-1, 2)), drawTerm(r, depth-1))
}

// within answers a term and all that stands in it.
func within(t api.Term) []api.Term {
	l := []api.Term{t}
	for _, x := range t.Args {
		l = append(l, within(x)...)
	}
	return l
}

// drawKnown answers some terms, and one to ask for: often one that stands in them, or is made of such.
func drawKnown(r *rand.Rand) ([]api.Term, api.Term) {
	var l, parts []api.Term
	for range r.Intn(8) {
		x := drawTerm(r, 1+r.Intn(4))
		l = append(l, x)
		parts = append(parts, within(x)...)
	}
	part := func() api.Term {
		if len(parts) == 0 || r.Intn(4) == 0 {
			return drawTerm(r, 1+r.Intn(3))
		}
		return parts[r.Intn(len(parts))]
	}
	switch r.Intn(6) {
	case 0:
		return l, pair(part(), part())
	case 1:
		return l, sum(part())
	case 2:
		return l, lock(part(), part(), part())
	case 3:
		return l, kdf(1, part(), part())
	}
	return l, part()
}

// spoilOne changes one part of a term, at any depth, in place.
func spoilOne(r *rand.Rand, t *api.Term) {
	if n := len(t.Args); n > 0 && r.Intn(3) > 0 {
		spoilOne(r, &t.Args[r.Intn(n)])
		return
	}
	switch r.Intn(7) {
	case 0:
		t.Kind = r.Intn(12) - 2
	case 1:
		t.Id = -1 - r.Intn(2)
	case 2:
		t.Id += 1
	case 3:
		t.Other = r.Intn(5) - 2
	case 4:
		t.Args = append(t.Args, atom(r.Intn(2)))
	case 5:
		if len(t.Args) > 0 {
			t.Args = t.Args[1:]
		}
	case 6:
		*t = chain(*t, 30+r.Intn(12))
	}
}
