package match

import (
	"math/bits"
	"posix/api"
)

// places is a set of places in a text, a bit for each, the end of the longest text among them.
type places [api.MaxText/64 + 1]uint64

func onlyPlace(at int) places {
	var p places
	p[at/64] = 1 << (at % 64)
	return p
}

func (p *places) add(other *places) {
	for i := range p {
		p[i] |= other[i]
	}
}

func (p places) has(at int) bool { return p[at/64]>>(at%64)&1 == 1 }

// each goes over the places, from the first to the last.
func (p places) each(yield func(at int) bool) {
	for i, word := range p {
		for ; word != 0; word &= word - 1 {
			if !yield(64*i + bits.TrailingZeros64(word)) {
				return
			}
		}
	}
}

// last tells the last place, if there is one.
func (p places) last() (at int, ok bool) {
	for i := len(p) - 1; i >= 0; i-- {
		if p[i] != 0 {
			return 64*i + bits.Len64(p[i]) - 1, true
		}
	}
	return 0, false
}
