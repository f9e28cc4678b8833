package term

import "signet/api"

// fits: do terms have at most MaxTerms terms in them together, and each at most MaxDepth within one another?
func fits(l ...api.Term) bool {
	return roomBehind(l, api.MaxTerms, api.MaxDepth) >= 0
}

// roomBehind answers how many more terms there is room for behind some; below 0: there is none for these.
// It gives up at the first one too many: terms that share memory may be far more than what they are made of.
func roomBehind(l []api.Term, room, depth int) int {
	for _, t := range l {
		if room == 0 || depth == 0 {
			return -1
		}
		room = roomBehind(t.Args, room-1, depth-1)
		if room < 0 {
			return -1
		}
	}
	return room
}

// checkForms: what is wrong with the first of some terms that may not be, but for its size?
func checkForms(l []api.Term) api.Errno {
	for _, t := range l {
		if e := checkForm(t); e != api.OK {
			return e
		}
	}
	return api.OK
}

func checkForm(t api.Term) api.Errno {
	if t.Kind < api.Atom || t.Kind > api.Lock {
		return api.ErrKind
	}
	if len(t.Args) != width(t.Kind) || !numbered(t) {
		return api.ErrForm
	}
	return checkForms(t.Args)
}

// width answers how many Args a term of a kind has.
func width(kind int) int {
	switch kind {
	case api.Sum:
		return 1
	case api.Pair, api.Kdf:
		return 2
	case api.Lock:
		return 3
	}
	return 0
}

// numbered: are Id and Other of a term such as its kind has them?
func numbered(t api.Term) bool {
	switch t.Kind {
	case api.Dh:
		return t.Id >= 0 && t.Other >= t.Id
	case api.Atom, api.Pub, api.Kdf:
		return t.Id >= 0 && t.Other == 0
	}
	return t.Id == 0 && t.Other == 0
}
