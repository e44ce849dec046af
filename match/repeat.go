package match

import (
	"posix/api"
	"posix/tree"
)

// repeat takes copies of what is within it, as many as its bounds allow.
type repeat struct {
	numbered
	least, most int
	inner       part
}

func (r *repeat) ends(s *Search) table { return r.rest(s, 0) }

// rest tells what the copies behind the first done ones can take.
func (r *repeat) rest(s *Search, done int) table {
	if r.most == tree.Endless {
		// Behind the least ones there are always as many left.
		done = min(done, r.least)
	}
	return s.know(r.step(done), func() table {
		switch {
		case done < r.least:
			return r.inner.ends(s).then(r.rest(s, done+1))
		case r.most == tree.Endless:
			return r.inner.ends(s).often()
		case done == r.most:
			return s.nothing()
		}
		// Empty copies are not left out here: what can be taken with one can be taken without it, and walk never comes to one.
		return s.nothing().or(r.inner.ends(s).then(r.rest(s, done+1)))
	})
}

func (r *repeat) walk(s *Search, groups []api.Span, from, to int) {
	wasEmpty := false
	for done := 0; from < to || done < r.least; done++ {
		at := farthest(r.inner.ends(s), r.rest(s, done+1), from, to)
		// An empty copy behind an empty copy goes the same way once more. It is left out, since in repeats of repeats there may be more of them than any call can go through.
		if at > from || !wasEmpty {
			r.inner.walk(s, groups, from, at)
		}
		wasEmpty = at == from
		from = at
	}
}
