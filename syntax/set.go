package syntax

import (
	"posix/api"
	"posix/tree"
	"strings"
)

// item is a class, a range or a byte of a set. Its fault always lies at its first byte.
type item struct {
	set   tree.Set
	next  int // the first byte behind it
	fault api.Kind
}

// scanSet reads the set whose [ stands at open.
func scanSet(pattern string, open int) token {
	t := token{kind: tokenBytes, at: open}
	at := open + 1
	if strings.HasPrefix(pattern[at:], "^") {
		t.others = true
		at++
	}
	first := at
	for at < len(pattern) && (at == first || pattern[at] != ']') {
		it := scanItem(pattern, at)
		if it.fault != 0 {
			return faultAt(at, it.fault)
		}
		t.set = t.set.With(it.set)
		at = it.next
	}
	if at == len(pattern) {
		return faultAt(open, api.ErrBracket)
	}
	t.next = at + 1
	return t
}

func scanItem(pattern string, at int) item {
	rest := pattern[at:]
	switch {
	case strings.HasPrefix(rest, "[:"):
		return scanClass(pattern, at)
	case strings.HasPrefix(rest, "[."), strings.HasPrefix(rest, "[="):
		return item{fault: api.ErrClass}
	case len(rest) > 2 && rest[1] == '-' && rest[2] != ']':
		if rest[2] < rest[0] {
			return item{fault: api.ErrRange}
		}
		return item{set: tree.Between(rest[0], rest[2]), next: at + 3}
	}
	return item{set: oneByte(rest[0]), next: at + 1}
}

func scanClass(pattern string, at int) item {
	name, _, closed := strings.Cut(pattern[at+len("[:"):], ":]")
	set, known := classSet(name)
	if !closed || !known {
		return item{fault: api.ErrClass}
	}
	return item{set: set, next: at + len("[:") + len(name) + len(":]")}
}
