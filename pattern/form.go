package pattern

import "signet/api"

// checkLists asks of each list whether it is short enough, and of tokens.
func checkLists(lists [][]int) api.Errno {
	for _, l := range lists {
		if len(l) > api.MaxTokens {
			return api.ErrSize
		}
		for _, token := range l {
			if token < api.E || token > api.Psk {
				return api.ErrKind
			}
		}
	}
	return api.OK
}

// known is what has been there so far.
type known struct {
	keys [2][api.S + 1]bool // the E and the S of who begins, and of the other one
	been [api.Psk + 1]bool  // the tokens that mix something in
}

// inForm asks whether each token may stand where it does.
func inForm(p api.Pattern) bool {
	var k known
	for side, l := range p.Pre {
		if !k.ahead(side, l) {
			return false
		}
	}
	side := 0
	if p.Late {
		side = 1
	}
	for _, l := range p.Turns {
		if !k.turn(side, l) {
			return false
		}
		side = 1 - side
	}
	return true
}

// ahead asks whether a side may have told these ahead, and knows them then.
func (k *known) ahead(side int, l []int) bool {
	for _, token := range l {
		if token != api.E && token != api.S || !k.tell(side, token) {
			return false
		}
	}
	return true
}

// turn asks whether a side may say these in a turn, and knows them then.
func (k *known) turn(side int, l []int) bool {
	for _, token := range l {
		if !k.say(side, token) {
			return false
		}
	}
	// At its end its text is locked.
	return k.mayLock(side)
}

func (k *known) say(side, token int) bool {
	switch token {
	case api.E:
		return k.tell(side, token)
	case api.S:
		return k.mayLock(side) && k.tell(side, token)
	case api.Psk:
		k.been[token] = true
		return true
	}
	return k.mix(token)
}

// tell asks whether a side has not told this key of its own yet.
func (k *known) tell(side, key int) bool {
	if k.keys[side][key] {
		return false
	}
	k.keys[side][key] = true
	return true
}

// mix asks whether two keys are known that were not mixed yet.
func (k *known) mix(token int) bool {
	need := letters(token)
	if k.been[token] || !k.keys[0][need[0]] || !k.keys[1][need[1]] {
		return false
	}
	k.been[token] = true
	return true
}

// letters answers the keys that are mixed: of who begins, and of the other one.
func letters(token int) [2]int {
	switch token {
	case api.EE:
		return [2]int{api.E, api.E}
	case api.ES:
		return [2]int{api.E, api.S}
	case api.SE:
		return [2]int{api.S, api.E}
	}
	return [2]int{api.S, api.S}
}

// mayLock asks whether a side may lock something by what was mixed in. A key that
// nothing fresh of its own is in could be the same one in two handshakes.
func (k *known) mayLock(side int) bool {
	lasting, fresh := api.SE, api.ES // what mixes the one or the other key of its own
	if side == 1 {
		lasting, fresh = fresh, lasting
	}
	if k.been[api.Psk] && !k.keys[side][api.E] {
		return false
	}
	if k.been[lasting] && !k.been[api.EE] {
		return false
	}
	return !k.been[api.SS] || k.been[fresh]
}
