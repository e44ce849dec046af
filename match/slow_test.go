package match

import (
	"regexp"
	"slices"
	"strings"
	"testing"

	"posix/api"
	"posix/syntax"
	"posix/tree"
)

// slow says anew, in the document's words, what an expression takes and how: it keeps nothing and tries everything.
type slow struct {
	text  string
	flags api.Flags
	edges api.Edges
	spans []api.Span
}

func (s *slow) takes(p tree.Part, from, to int) bool {
	switch x := p.(type) {
	case *tree.Bytes:
		return to == from+1 && s.takesByte(x, s.text[from])
	case *tree.Edge:
		return to == from && s.isEdge(x.AtEnd, from)
	case *tree.Group:
		return s.takes(x.Inner, from, to)
	case *tree.Branch:
		return s.takesPieces(x.Pieces, from, to)
	case *tree.Choice:
		return slices.ContainsFunc(x.Branches, func(b tree.Part) bool { return s.takes(b, from, to) })
	}
	return s.takesCopies(p.(*tree.Repeat), 0, from, to)
}

func (s *slow) takesByte(x *tree.Bytes, b byte) bool {
	in := x.Set.Has(b)
	if s.flags&api.Fold != 0 && strings.ContainsRune("abcdefghijklmnopqrstuvwxyzABCDEFGHIJKLMNOPQRSTUVWXYZ", rune(b)) {
		in = in || x.Set.Has(b^32)
	}
	if x.Others {
		return !in && !(s.flags&api.Lines != 0 && b == 10)
	}
	return in
}

func (s *slow) isEdge(atEnd bool, at int) bool {
	lines := s.flags&api.Lines != 0
	if atEnd {
		return at == len(s.text) && s.edges&api.NotEnd == 0 || lines && strings.HasPrefix(s.text[at:], "\n")
	}
	return at == 0 && s.edges&api.NotBegin == 0 || lines && strings.HasSuffix(s.text[:at], "\n")
}

func (s *slow) takesPieces(pieces []tree.Part, from, to int) bool {
	if len(pieces) == 0 {
		return from == to
	}
	for at := from; at <= to; at++ {
		if s.takes(pieces[0], from, at) && s.takesPieces(pieces[1:], at, to) {
			return true
		}
	}
	return false
}

func (s *slow) takesCopies(r *tree.Repeat, done, from, to int) bool {
	if from == to && done >= r.Min {
		return true
	}
	for at := from; at <= to; at++ {
		if s.copyTakes(r, done, from, at, to) {
			return true
		}
	}
	return false
}

// copyTakes tells whether the next copy can take from to at and those behind it the rest.
func (s *slow) copyTakes(r *tree.Repeat, done, from, at, to int) bool {
	if done == r.Max || done >= r.Min && at == from {
		return false
	}
	return s.takes(r.Inner, from, at) && s.takesCopies(r, done+1, at, to)
}

func (s *slow) walk(p tree.Part, from, to int) {
	switch x := p.(type) {
	case *tree.Group:
		s.spans[x.Number] = api.Span{From: from, To: to}
		s.walk(x.Inner, from, to)
	case *tree.Branch:
		for i, piece := range x.Pieces {
			at := to
			for !(s.takes(piece, from, at) && s.takesPieces(x.Pieces[i+1:], at, to)) {
				at--
			}
			s.walk(piece, from, at)
			from = at
		}
	case *tree.Choice:
		i := slices.IndexFunc(x.Branches, func(b tree.Part) bool { return s.takes(b, from, to) })
		s.walk(x.Branches[i], from, to)
	case *tree.Repeat:
		for done := 0; from < to || done < x.Min; done++ {
			at := to
			for !s.copyTakes(x, done, from, at, to) {
				at--
			}
			s.walk(x.Inner, from, at)
			from = at
		}
	}
}

// find tells the first match from a place on; an empty one at that place is none if it is barred.
func (s *slow) find(whole tree.Part, begin int, barred bool) []api.Span {
	for from := begin; from <= len(s.text); from++ {
		for to := len(s.text); to >= from; to-- {
			if s.takes(whole, from, to) && !(barred && to == begin) {
				s.spans = slices.Repeat([]api.Span{{From: -1, To: -1}}, 1+whole.Groups())
				s.spans[0] = api.Span{From: from, To: to}
				s.walk(whole, from, to)
				return s.spans
			}
		}
	}
	return nil
}

func (s *slow) all(whole tree.Part) (lists [][]api.Span) {
	for spans := s.find(whole, 0, false); spans != nil; spans = s.find(whole, spans[0].To, true) {
		lists = append(lists, spans)
	}
	return lists
}

// checkAgainstSlow holds what a plan finds in a text against what slow finds in it.
func checkAgainstSlow(t *testing.T, pattern string, whole tree.Part, f api.Flags, text string, e api.Edges) {
	s := &slow{text: text, flags: f, edges: e}
	want := s.all(whole)
	var got [][]api.Span
	search := NewPlan(whole, f).Search(text, e)
	for match := range search.All {
		got = append(got, search.Spans(match))
	}
	if !slices.EqualFunc(got, want, slices.Equal) {
		t.Errorf("P6, P7, P10: %q, flags %d, in %q, edges %d: %v, want %v", pattern, f, text, e, got, want)
	}
}

// textsOf gives all texts of at most so many of these bytes.
func textsOf(bytes string, most int) []string {
	texts := []string{""}
	for begin := 0; most > 0; most-- {
		longest := texts[begin:]
		begin = len(texts)
		for _, s := range longest {
			for i := range len(bytes) {
				texts = append(texts, s+bytes[i:i+1])
			}
		}
	}
	return texts
}

// All short patterns in all short texts.
func TestShortPatternsAgainstSlow(t *testing.T) {
	texts := textsOf("ab", 3)
	n := 0
	var grow func(pattern string, most int)
	grow = func(pattern string, most int) {
		if whole, err := syntax.Parse(pattern); err == nil {
			n++
			for _, text := range texts {
				checkAgainstSlow(t, pattern, whole, 0, text, 0)
			}
		}
		if most == 0 {
			return
		}
		for _, next := range []string{"a", "b", "(", ")", "|", "*", "{2}", "{1,2}", "^", "$"} {
			grow(pattern+next, most-1)
		}
	}
	grow("", 5)
	if n < 1000 {
		t.Errorf("only %d patterns", n)
	}
}

// maker makes patterns of all kinds, the same ones each time.
type maker struct {
	state  uint32
	groups int
}

// below gives a number from 0 to n-1.
func (m *maker) below(n int) int {
	m.state = m.state*1664525 + 1013904223
	return int(m.state>>16) % n
}

func (m *maker) pick(all ...string) string { return all[m.below(len(all))] }

func (m *maker) expression(depth int) string {
	s := m.branch(depth)
	for m.below(3) == 0 {
		s += "|" + m.branch(depth)
	}
	return s
}

func (m *maker) branch(depth int) string {
	s := m.piece(depth)
	for m.below(2) == 0 {
		s += m.piece(depth)
	}
	return s
}

func (m *maker) piece(depth int) string {
	s := m.pick("a", "b", "a", "b", "B", ".", "^", "$", "[ab]", "[^a]", "[^B]", "\n", "[^\n]")
	if depth > 0 && m.groups < api.MaxGroups && m.below(2) == 0 {
		m.groups++
		s = "(" + m.expression(depth-1) + ")"
	}
	for m.below(3) == 0 {
		s += m.pick("*", "+", "?", "{0}", "{1}", "{2}", "{3}", "{1,}", "{2,}", "{0,2}", "{1,2}", "{2,3}")
	}
	return s
}

func TestManyPatternsAgainstSlow(t *testing.T) {
	m := &maker{}
	texts := append(textsOf("ab", 4), textsOf("aB\n", 3)...)
	for range 6000 {
		m.groups = 0
		pattern := m.expression(2)
		whole, err := syntax.Parse(pattern)
		if err != nil {
			continue // too long
		}
		for range 4 {
			checkAgainstSlow(t, pattern, whole, api.Flags(m.below(4)), m.pick(texts...), api.Edges(m.below(4)))
		}
	}
}

// Where the matches lie in long texts, the library knows too. (Of what the groups take it says otherwise than the document.)
func TestLongTextsAgainstLibrary(t *testing.T) {
	m := &maker{state: 1}
	for range 1500 {
		m.groups = 0
		pattern := m.expression(2)
		whole, err := syntax.Parse(pattern)
		library, refused := regexp.CompilePOSIX(pattern)
		if err != nil || refused != nil {
			continue // too long, here or there
		}
		text := m.text(m.below(api.MaxText + 1))
		var got [][]int
		for match := range NewPlan(whole, 0).Search(text, 0).All {
			got = append(got, []int{match.From, match.To})
		}
		if want := library.FindAllStringIndex(text, -1); !slices.EqualFunc(got, want, slices.Equal) {
			t.Errorf("P8, P10: %q in %q: %v, want %v", pattern, text, got, want)
		}
	}
}

// text gives a text without line breaks (with them the library goes by lines), with long rows of one byte.
func (m *maker) text(size int) string {
	var s strings.Builder
	for s.Len() < size {
		s.WriteString(strings.Repeat(m.pick("a", "b", "B"), 1+m.below(40)))
	}
	return s.String()[:size]
}
