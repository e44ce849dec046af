package match

import (
	"posix/api"
	"posix/tree"
)

const lineBreak = '\n'

// Plan is an expression made ready to take texts, with its flags worked in. It is only read, so that many may use it at once.
type Plan struct {
	whole  part
	groups int
}

// planner makes the parts of a plan.
type planner struct {
	fold, lines bool
	parts       int // how many have got a number so far
}

// NewPlan makes a plan of an expression.
func NewPlan(whole tree.Part, f api.Flags) *Plan {
	p := &planner{fold: f&api.Fold != 0, lines: f&api.Lines != 0}
	return &Plan{whole: p.part(whole), groups: whole.Groups()}
}

func (p *planner) part(t tree.Part) part {
	switch x := t.(type) {
	case *tree.Bytes:
		return &oneByte{leaf{p.next()}, p.taken(x)}
	case *tree.Edge:
		return &edge{leaf{p.next()}, x.AtEnd, p.lines}
	case *tree.Group:
		return &group{x.Number - 1, p.part(x.Inner)}
	case *tree.Repeat:
		return &repeat{p.next(), x.Min, x.Max, p.part(x.Inner)}
	case *tree.Branch:
		return &branch{p.next(), p.list(x.Pieces)}
	case *tree.Choice:
		return &choice{p.next(), p.list(x.Branches)}
	}
	return nil
}

func (p *planner) list(parts []tree.Part) []part {
	made := make([]part, len(parts))
	for i, t := range parts {
		made[i] = p.part(t)
	}
	return made
}

func (p *planner) next() numbered {
	p.parts++
	return numbered{p.parts}
}

// taken gives all bytes that the part takes, the flags looked at.
func (p *planner) taken(b *tree.Bytes) tree.Set {
	set := b.Set
	if p.fold {
		set = set.Folded()
	}
	if !b.Others {
		return set
	}
	if p.lines {
		set = set.With(tree.Between(lineBreak, lineBreak))
	}
	return set.Others()
}
