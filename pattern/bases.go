package pattern

import (
	"slices"

	"signet/api"
)

// based answers the base pattern of this name, and whether there is one. Each
// call makes it anew: who gets it may change its lists.
func based(name string) (api.Pattern, bool) {
	var p api.Pattern
	switch name {
	case "NN":
		p.Base = "NN"
		p.Turns = [][]int{{api.E}, {api.E, api.EE}}
	case "NK":
		p.Base = "NK"
		p.Pre[1] = []int{api.S}
		p.Turns = [][]int{{api.E, api.ES}, {api.E, api.EE}}
	case "XX":
		p.Base = "XX"
		p.Turns = [][]int{{api.E}, {api.E, api.EE, api.S, api.ES}, {api.S, api.SE}}
	case "IK":
		p.Base = "IK"
		p.Pre[1] = []int{api.S}
		p.Turns = [][]int{{api.E, api.ES, api.S, api.SS}, {api.E, api.EE, api.SE}}
	case "XK":
		p.Base = "XK"
		p.Pre[1] = []int{api.S}
		p.Turns = [][]int{{api.E, api.ES}, {api.E, api.EE}, {api.S, api.SE}}
	case "KK":
		p.Base = "KK"
		p.Pre = [2][]int{{api.S}, {api.S}}
		p.Turns = [][]int{{api.E, api.ES, api.SS}, {api.E, api.EE, api.SE}}
	case "XXfallback":
		p.Base, p.Late = "XXfallback", true
		p.Pre[0] = []int{api.E}
		p.Turns = [][]int{{api.E, api.EE, api.S, api.ES}, {api.S, api.SE}}
	default:
		return api.Pattern{}, false
	}
	return p, true
}

// checkPlaces asks whether psks may stand at these places of so many turns.
func checkPlaces(psks []int, turns int) api.Errno {
	if len(psks) > api.MaxPsks {
		return api.ErrSize
	}
	for i, n := range psks {
		if n < 0 || n > turns {
			return api.ErrRange
		}
		if i > 0 && n <= psks[i-1] {
			return api.ErrForm
		}
	}
	return api.OK
}

// putPsk puts a psk at a place of turns.
func putPsk(turns [][]int, n int) {
	if n == 0 {
		turns[0] = append([]int{api.Psk}, turns[0]...)
		return
	}
	turns[n-1] = append(turns[n-1], api.Psk)
}

// alike asks whether two patterns differ in nothing but their Base and Psks.
func alike(p, q api.Pattern) bool {
	return p.Late == q.Late && alikeLists(p.Pre[:], q.Pre[:]) && alikeLists(p.Turns, q.Turns)
}

func alikeLists(a, b [][]int) bool {
	return slices.EqualFunc(a, b, slices.Equal[[]int])
}
