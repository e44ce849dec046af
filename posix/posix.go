// Package posix: regular expressions, leftmost and longest: see DOC.md.
package posix

import (
	"posix/api"
	"posix/match"
	"posix/syntax"
	"posix/tree"
	"sync"
)

// Regex is a pattern that was compiled.
type Regex struct {
	whole tree.Part // nil only in a Regex that Compile did not make
	flags api.Flags
	once  sync.Once
	plan  *match.Plan // asked for by ready alone
}

// Compile compiles a pattern (P3, P4).
func Compile(pattern string, f api.Flags) (*Regex, error) {
	whole, err := syntax.Parse(pattern)
	if err != nil {
		return nil, err
	}
	return &Regex{whole: whole, flags: f}, nil
}

// ready gives the plan, which is made at the first match.
func (r *Regex) ready() *match.Plan {
	r.once.Do(func() { r.plan = match.NewPlan(r.whole, r.flags) })
	return r.plan
}

// Quote gives a pattern for a text (P5).
func Quote(s string) string { return syntax.Quote(s) }

// Groups tells how many groups the pattern has (P4).
func (r *Regex) Groups() int {
	if r.isEmpty() {
		return 0
	}
	return r.whole.Groups()
}

// isEmpty tells whether this is no Regex of Compile's; such a one matches nothing.
func (r *Regex) isEmpty() bool { return r == nil || r.whole == nil }

// Match tells whether there is a match in a text (P8).
func (r *Regex) Match(text string, e api.Edges) (bool, error) {
	if len(text) > api.MaxText {
		return false, api.ErrText
	}
	if r.isEmpty() {
		return false, nil
	}
	_, ok := r.ready().Search(text, e).Find(0)
	return ok, nil
}

// Find tells where the match lies, and what its groups took (P8, P9).
func (r *Regex) Find(text string, e api.Edges, n int) ([]api.Span, error) {
	if len(text) > api.MaxText {
		return nil, api.ErrText
	}
	if n < 1 || n > api.MaxSpans {
		return nil, api.ErrArg
	}
	spans := r.first(text, e)
	if spans == nil {
		return nil, nil
	}
	return listOf(n, spans), nil
}

// first gives a fresh list: the match of a text and what each group took in it; nil, if there is none.
func (r *Regex) first(text string, e api.Edges) []api.Span {
	if r.isEmpty() {
		return nil
	}
	s := r.ready().Search(text, e)
	whole, ok := s.Find(0)
	if !ok {
		return nil
	}
	return s.Spans(whole)
}

// listOf gives a list of n spans: the first ones are those of the list, those beyond are none.
func listOf(n int, spans []api.Span) []api.Span {
	list := make([]api.Span, n)
	for i := copy(list, spans); i < n; i++ {
		list[i] = api.Span{From: -1, To: -1}
	}
	return list
}
