package match

import (
	"posix/api"
	"posix/tree"
)

// part is a part of an expression, made ready to take texts.
type part interface {
	// ends tells what it can take of the text.
	ends(s *Search) table
	// walk goes the way by which it takes just this, and notes in the list what the groups on this way take. It is asked only for what ends told.
	walk(s *Search, groups []api.Span, from, to int)
}

// numbered is what the parts share: the number under which a search keeps what it knows of them.
type numbered struct {
	number int
}

func (n numbered) step(done int) step { return step{n.number, done} }

// leaf is what the parts share that have no others in them.
type leaf struct {
	numbered
}

func (l leaf) walk(*Search, []api.Span, int, int) {}

// oneByte takes one byte of the set.
type oneByte struct {
	leaf
	set tree.Set
}

func (b *oneByte) ends(s *Search) table {
	return s.know(b.step(0), func() table {
		t := s.emptyTable()
		for at := range len(s.text) {
			if b.set.Has(s.text[at]) {
				t[at] = onlyPlace(at + 1)
			}
		}
		return t
	})
}

// edge takes nothing, at the text's beginning or end, and perhaps at those of its lines.
type edge struct {
	leaf
	atEnd, lines bool
}

func (e *edge) ends(s *Search) table {
	return s.know(e.step(0), func() table {
		t := s.emptyTable()
		for at := range t {
			if e.holds(s, at) {
				t[at] = onlyPlace(at)
			}
		}
		return t
	})
}

func (e *edge) holds(s *Search, at int) bool {
	if e.atEnd {
		if at == len(s.text) {
			return s.hasEnd
		}
		return e.lines && s.text[at] == lineBreak
	}
	if at == 0 {
		return s.hasBegin
	}
	return e.lines && s.text[at-1] == lineBreak
}

// group takes what is within it.
type group struct {
	index int // in the list of what the groups took
	inner part
}

func (g *group) ends(s *Search) table { return g.inner.ends(s) }

func (g *group) walk(s *Search, groups []api.Span, from, to int) {
	groups[g.index] = api.Span{From: from, To: to}
	g.inner.walk(s, groups, from, to)
}

// choice takes what one of its branches takes.
type choice struct {
	numbered
	branches []part
}

func (c *choice) ends(s *Search) table {
	return s.know(c.step(0), func() table {
		t := c.branches[0].ends(s)
		for _, b := range c.branches[1:] {
			t = t.or(b.ends(s))
		}
		return t
	})
}

func (c *choice) walk(s *Search, groups []api.Span, from, to int) {
	for _, b := range c.branches {
		if b.ends(s)[from].has(to) {
			b.walk(s, groups, from, to)
			return
		}
	}
}

// branch takes what its pieces take, one behind the other.
type branch struct {
	numbered
	pieces []part
}

func (b *branch) ends(s *Search) table { return b.rest(s, 0) }

// rest tells what the pieces behind the first done ones can take.
func (b *branch) rest(s *Search, done int) table {
	return s.know(b.step(done), func() table {
		if done == len(b.pieces) {
			return s.nothing()
		}
		return b.pieces[done].ends(s).then(b.rest(s, done+1))
	})
}

func (b *branch) walk(s *Search, groups []api.Span, from, to int) {
	for i, p := range b.pieces {
		at := farthest(p.ends(s), b.rest(s, i+1), from, to)
		p.walk(s, groups, from, at)
		from = at
	}
}
