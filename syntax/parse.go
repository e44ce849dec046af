// Package syntax: how patterns are written, and how they are read.
package syntax

import (
	"posix/api"
	"posix/tree"
)

// outside is the place of the ( to which the whole pattern belongs: there is none.
const outside = -1

// parser makes an expression of what the scanner sends.
type parser struct {
	tokens <-chan token
	end    int // the pattern's
	groups int // how many ( came so far
}

// Parse reads a pattern. Its error is an *api.SyntaxError.
func Parse(pattern string) (whole tree.Part, err error) {
	if len(pattern) > api.MaxPattern {
		return nil, &api.SyntaxError{At: 0, Kind: api.ErrLong}
	}
	tokens := make(chan token)
	go scan(pattern, tokens)
	defer func() {
		reason := recover()
		if reason == nil {
			return
		}
		// The scanner ends only when all that it sends is taken.
		for range tokens {
		}
		whole, err = nil, reason.(*api.SyntaxError)
	}()
	p := &parser{tokens: tokens, end: len(pattern)}
	return p.expression(outside), nil
}

// giveUp leaves the parser, however deep in groups it is; Parse catches it.
func giveUp(at int, k api.Kind) {
	panic(&api.SyntaxError{At: at, Kind: k})
}

// expression reads up to the ) that belongs to the ( at open, or, outside, up to the pattern's end.
func (p *parser) expression(open int) tree.Part {
	var branches, pieces []tree.Part
	for t := range p.tokens {
		switch t.kind {
		case tokenBar:
			branches = append(branches, branch(pieces, t.at))
			pieces = nil
		case tokenClose:
			if open == outside {
				giveUp(t.at, api.ErrClose)
			}
			return tree.NewChoice(append(branches, branch(pieces, t.at)))
		case tokenRepeat:
			repeatLast(pieces, t)
		default:
			pieces = append(pieces, p.atom(t))
		}
	}
	branches = append(branches, branch(pieces, p.end))
	if open != outside {
		giveUp(open, api.ErrOpen)
	}
	return tree.NewChoice(branches)
}

// branch makes a branch of its pieces; at is the place where it ends.
func branch(pieces []tree.Part, at int) tree.Part {
	if len(pieces) == 0 {
		giveUp(at, api.ErrEmpty)
	}
	return tree.NewBranch(pieces)
}

// repeatLast puts the repeat in the place of the piece that it repeats.
func repeatLast(pieces []tree.Part, t token) {
	last := len(pieces) - 1
	if last < 0 {
		giveUp(t.at, api.ErrRepeat)
	}
	if t.fault != 0 {
		giveUp(t.at, t.fault)
	}
	pieces[last] = tree.NewRepeat(t.least, t.most, pieces[last])
}

func (p *parser) atom(t token) tree.Part {
	switch t.kind {
	case tokenFault:
		giveUp(t.at, t.fault)
	case tokenOpen:
		return p.group(t.at)
	case tokenBegin:
		return tree.NewEdge(false)
	case tokenEnd:
		return tree.NewEdge(true)
	}
	return tree.NewBytes(t.set, t.others)
}

// group reads a group, its ( being at open.
func (p *parser) group(open int) tree.Part {
	if p.groups == api.MaxGroups {
		giveUp(open, api.ErrMany)
	}
	p.groups++
	number := p.groups
	return tree.NewGroup(number, p.expression(open))
}
