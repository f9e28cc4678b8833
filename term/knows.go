package term

import (
	"slices"

	"signet/api"
)

// knows: can one who knows some terms make another one, where all of them may be?
func knows(l []api.Term, t api.Term) bool {
	list := slices.Clone(l)
	has := func(x api.Term) bool {
		return slices.ContainsFunc(list, func(y api.Term) bool { return Same(x, y) })
	}
	can := func(x api.Term) bool { return canMake(x, has) }
	// What is found may make the key of a Lock that was passed by: so it is begun again.
again:
	old := len(list)
	for i := 0; i < len(list); i++ {
		for _, x := range parts(list[i]) {
			if !has(x) && opens(list[i], can) {
				list = append(list, x)
			}
		}
	}
	if len(list) > old {
		goto again
	}
	return can(t)
}

// parts answers what a term gives who has it, and can open it.
func parts(t api.Term) []api.Term {
	switch t.Kind {
	case api.Pair:
		return t.Args
	case api.Lock:
		return t.Args[2:]
	}
	return nil
}

// opens: can one get at the parts of a term?
func opens(t api.Term, can func(api.Term) bool) bool {
	return t.Kind != api.Lock || can(t.Args[0])
}

// canMake: can one make a term who has some?
func canMake(t api.Term, has func(api.Term) bool) bool {
	if has(t) {
		return true
	}
	switch t.Kind {
	case api.Atom:
		return false
	case api.Pub:
		return has(api.Term{Kind: api.Atom, Id: t.Id})
	case api.Dh:
		return canAgree(t.Id, t.Other, has) || canAgree(t.Other, t.Id, has)
	}
	for _, x := range t.Args {
		if !canMake(x, has) {
			return false
		}
	}
	return true
}

// canAgree: has one an atom, and can make the Pub of another one?
func canAgree(own, their int, has func(api.Term) bool) bool {
	return has(api.Term{Kind: api.Atom, Id: own}) && canMake(api.Term{Kind: api.Pub, Id: their}, has)
}
