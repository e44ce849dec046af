// Package posix: regular expressions, leftmost and longest: see DOC.md.
package posix

import (
	"posix/api"
	"posix/syntax"
	"posix/tree"
)

// Regex is a pattern that was compiled.
type Regex struct {
	whole tree.Part // nil only in a Regex that Compile did not make
}

// Compile compiles a pattern (P3, P4).
func Compile(pattern string, f api.Flags) (*Regex, error) {
	whole, err := syntax.Parse(pattern)
	if err != nil {
		return nil, err
	}
	return &Regex{whole: whole}, nil
}

// Quote gives a pattern for a text (P5).
func Quote(s string) string { return syntax.Quote(s) }

// Groups tells how many groups the pattern has (P4).
func (r *Regex) Groups() int {
	if r == nil || r.whole == nil {
		return 0
	}
	return r.whole.Groups()
}

// Match tells whether there is a match in a text (P8).
func (r *Regex) Match(text string, e api.Edges) (bool, error) { return false, nil }

// Find tells where the match lies, and what its groups took (P8, P9).
func (r *Regex) Find(text string, e api.Edges, n int) ([]api.Span, error) { return nil, nil }

// All goes over the matches, one behind the other (P10).
func (r *Regex) All(text string) func(yield func([]api.Span) bool) {
	return func(yield func([]api.Span) bool) {}
}

// FindAll gives the matches as lists (P10).
func (r *Regex) FindAll(text string, n int) ([][]api.Span, error) { return nil, nil }

// Put puts a text in the place of each match (P11).
func (r *Regex) Put(text string, with string) (string, error) { return "", nil }

// Replace puts what f answers in the place of each match (P11).
func (r *Regex) Replace(text string, f func([]api.Span) string) (string, error) { return "", nil }

// FindMany finds in several texts at once (P12).
func (r *Regex) FindMany(texts []string, e api.Edges) ([][]api.Span, error) { return nil, nil }
