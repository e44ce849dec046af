// Package tree: the parts of which an expression is made.
package tree

// Endless is the upper bound of a repeat that has none.
const Endless = -1

// Part is a part of an expression; the parts within it are Parts again.
type Part interface {
	// Groups tells how many groups there are in it, itself too if it is one.
	Groups() int
}

// shared is what every kind of part has.
type shared struct {
	groups int
}

// Groups tells how many groups there are in the part.
func (s shared) Groups() int { return s.groups }

// Bytes takes one byte: one of the set, or, with Others, one that is not of it.
type Bytes struct {
	shared
	Set    Set
	Others bool
}

// Edge is ^ or, with AtEnd, $.
type Edge struct {
	shared
	AtEnd bool
}

// Group is an expression in ( and ), with its number (from 1).
type Group struct {
	shared
	Number int
	Inner  Part
}

// Repeat is Min to Max copies of what is in it; Max may be Endless.
type Repeat struct {
	shared
	Min, Max int
	Inner    Part
}

// Branch is pieces, one behind the other.
type Branch struct {
	shared
	Pieces []Part
}

// Choice is an expression: branches, of which one is taken.
type Choice struct {
	shared
	Branches []Part
}

// NewBytes makes a part that takes one byte.
func NewBytes(set Set, others bool) *Bytes { return &Bytes{Set: set, Others: others} }

// NewEdge makes ^ or $.
func NewEdge(atEnd bool) *Edge { return &Edge{AtEnd: atEnd} }

// NewGroup makes a group of an expression.
func NewGroup(number int, inner Part) *Group {
	return &Group{shared{inner.Groups() + 1}, number, inner}
}

// NewRepeat makes a repeat of a piece.
func NewRepeat(least, most int, inner Part) *Repeat {
	return &Repeat{shared{inner.Groups()}, least, most, inner}
}

// NewBranch makes a branch of its pieces.
func NewBranch(pieces []Part) *Branch { return &Branch{shared{groupsOf(pieces)}, pieces} }

// NewChoice makes an expression of its branches.
func NewChoice(branches []Part) *Choice { return &Choice{shared{groupsOf(branches)}, branches} }

func groupsOf(parts []Part) int {
	n := 0
	for _, p := range parts {
		n += p.Groups()
	}
	return n
}
