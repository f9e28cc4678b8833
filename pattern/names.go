package pattern

import (
	"strconv"
	"strings"

	"signet/api"
)

// The name of a protocol: the base and the modifiers stand between these two.
const (
	head = "Noise_"
	tail = "_25519_ChaChaPoly_BLAKE2s"
)

// A modifier is the mark and a digit.
const (
	mark    = "psk"
	between = "+"
)

// apart takes the name of a protocol apart: its base, the places of its psks, and
// whether it is in form.
func apart(name string) (string, []int, bool) {
	rest, begins := strings.CutPrefix(name, head)
	rest, ends := strings.CutSuffix(rest, tail)
	if !begins || !ends {
		return "", nil, false
	}
	i := strings.Index(rest, mark)
	if i < 0 {
		return rest, nil, true
	}
	psks, ok := places(rest[i:])
	return rest[:i], psks, ok
}

// places answers those that modifiers tell, and whether they are modifiers.
func places(modifiers string) ([]int, bool) {
	var l []int
	for {
		one, rest, more := strings.Cut(modifiers, between)
		n, ok := place(one)
		if !ok {
			return nil, false
		}
		// More than MaxPsks are refused, whichever they are: one more of them tells it.
		if len(l) <= api.MaxPsks {
			l = append(l, n)
		}
		if !more {
			return l, true
		}
		modifiers = rest
	}
}

// place answers that of one modifier, and whether it is one.
func place(modifier string) (int, bool) {
	digit, ok := strings.CutPrefix(modifier, mark)
	if !ok || len(digit) != 1 || digit[0] < '0' || digit[0] > '9' {
		return 0, false
	}
	return int(digit[0] - '0'), true
}

// joined answers the name of a protocol with psks at these places.
func joined(base string, psks []int) string {
	var l []string
	for _, n := range psks {
		l = append(l, mark+strconv.Itoa(n))
	}
	return head + base + strings.Join(l, between) + tail
}
