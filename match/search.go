// Package match: how an expression takes a text, leftmost and longest.
package match

import "posix/api"

// step is how far the work at a part has come: so many of its pieces or copies are done.
type step struct {
	part, done int
}

// Search is the work of a plan at one text.
type Search struct {
	plan             *Plan
	text             string
	hasBegin, hasEnd bool
	known            map[step]table // what can be taken from a step on
}

// Search begins the work at a text, which has at most api.MaxText bytes.
func (p *Plan) Search(text string, e api.Edges) *Search {
	return &Search{
		plan:     p,
		text:     text,
		hasBegin: e&api.NotBegin == 0,
		hasEnd:   e&api.NotEnd == 0,
		known:    map[step]table{},
	}
}

// know gives the table of a step; it is worked out only if it is not known yet.
func (s *Search) know(at step, workOut func() table) table {
	t, ok := s.known[at]
	if !ok {
		t = workOut()
		s.known[at] = t
	}
	return t
}

func (s *Search) emptyTable() table { return make(table, len(s.text)+1) }

// nothing is the table of what takes nothing, at every place.
func (s *Search) nothing() table {
	t := s.emptyTable()
	for at := range t {
		t[at] = onlyPlace(at)
	}
	return t
}

// Find tells the match that begins first, at a place or behind it, and of these the longest.
func (s *Search) Find(from int) (match api.Span, ok bool) {
	ends := s.plan.whole.ends(s)
	for ; from <= len(s.text); from++ {
		if to, ok := ends[from].last(); ok {
			return api.Span{From: from, To: to}, true
		}
	}
	return api.Span{}, false
}

// All goes over the matches, one behind the other.
func (s *Search) All(yield func(match api.Span) bool) {
	match, ok := s.Find(0)
	for ok && yield(match) {
		match, ok = s.next(match)
	}
}

// next tells the match that follows another.
func (s *Search) next(ahead api.Span) (match api.Span, ok bool) {
	match, ok = s.Find(ahead.To)
	if ok && match.To == ahead.To {
		// An empty one here is none; and since Find tells the longest, no other begins here.
		return s.Find(ahead.To + 1)
	}
	return match, ok
}

// Spans gives a fresh list: a match that Find told, and what each group took in it.
func (s *Search) Spans(match api.Span) []api.Span {
	spans := make([]api.Span, 1+s.plan.groups)
	for i := range spans {
		spans[i] = api.Span{From: -1, To: -1}
	}
	spans[0] = match
	s.plan.whole.walk(s, spans[1:], match.From, match.To)
	return spans
}
