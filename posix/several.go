package posix

import (
	"posix/api"
	"strings"
	"sync"
)

// All goes over the matches, one behind the other (P10).
func (r *Regex) All(text string) func(yield func([]api.Span) bool) {
	return func(yield func([]api.Span) bool) {
		if r.isEmpty() || len(text) > api.MaxText {
			return
		}
		s := r.ready().Search(text, 0)
		for match := range s.All {
			if !yield(s.Spans(match)) {
				return
			}
		}
	}
}

// FindAll gives the matches as lists (P10).
func (r *Regex) FindAll(text string, n int) ([][]api.Span, error) {
	if len(text) > api.MaxText {
		return nil, api.ErrText
	}
	var lists [][]api.Span
	for spans := range r.All(text) {
		if len(lists) == n {
			break
		}
		lists = append(lists, spans)
	}
	return lists, nil
}

// Put puts a text in the place of each match (P11).
func (r *Regex) Put(text string, with string) (string, error) {
	return r.Replace(text, func([]api.Span) string { return with })
}

// Replace puts what f answers in the place of each match (P11).
func (r *Regex) Replace(text string, f func([]api.Span) string) (string, error) {
	if len(text) > api.MaxText {
		return "", api.ErrText
	}
	var made strings.Builder
	done := 0
	for spans := range r.All(text) {
		match := spans[0] // looked at ahead of the call: f may write into its list
		put, err := answer(f, spans)
		if err != nil {
			return "", err
		}
		made.WriteString(text[done:match.From])
		made.WriteString(put)
		done = match.To
	}
	made.WriteString(text[done:])
	return made.String(), nil
}

// answer is what f answers; a panic of f ends here.
func answer(f func([]api.Span) string, spans []api.Span) (s string, err error) {
	defer func() {
		if recover() != nil {
			s, err = "", api.ErrCall
		}
	}()
	return f(spans), nil
}

// FindMany finds in several texts at once (P12).
func (r *Regex) FindMany(texts []string, e api.Edges) ([][]api.Span, error) {
	if len(texts) > api.MaxTexts {
		return nil, api.ErrArg
	}
	for _, text := range texts {
		if len(text) > api.MaxText {
			return nil, api.ErrText
		}
	}
	lists := make([][]api.Span, len(texts))
	var all sync.WaitGroup
	for i, text := range texts {
		all.Add(1)
		go func() {
			defer all.Done()
			lists[i] = r.first(text, e)
		}()
	}
	all.Wait()
	return lists, nil
}
