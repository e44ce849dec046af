package syntax

import (
	"posix/api"
	"posix/tree"
	"strings"
)

type tokenKind uint8

const (
	tokenFault tokenKind = iota
	tokenOpen
	tokenClose
	tokenBar
	tokenBegin
	tokenEnd
	tokenBytes
	tokenRepeat
)

// token is what the scanner tells of one place of the pattern.
type token struct {
	kind  tokenKind
	at    int      // its first byte; with a fault, the fault's place
	next  int      // the first byte behind it
	fault api.Kind // of tokenFault, and of tokenRepeat: there the parser may know a fault that goes ahead of it

	set    tree.Set // of tokenBytes
	others bool
	least  int // of tokenRepeat
	most   int
}

// scan sends the pattern's tokens and closes the channel. Behind a fault it reads no further: the pattern is refused at that place at the latest.
func scan(pattern string, tokens chan<- token) {
	defer close(tokens)
	for at := 0; at < len(pattern); {
		t := scanToken(pattern, at)
		tokens <- t
		if t.fault != 0 {
			return
		}
		at = t.next
	}
}

func faultAt(at int, k api.Kind) token { return token{kind: tokenFault, at: at, fault: k} }

func scanToken(pattern string, at int) token {
	t := token{at: at, next: at + 1}
	switch pattern[at] {
	case '(':
		t.kind = tokenOpen
	case ')':
		t.kind = tokenClose
	case '|':
		t.kind = tokenBar
	case '^':
		t.kind = tokenBegin
	case '$':
		t.kind = tokenEnd
	case '.':
		// Any byte: all others than those of the empty set.
		t.kind, t.others = tokenBytes, true
	case '[':
		return scanSet(pattern, at)
	case '\\':
		return scanEscape(pattern, at)
	case '*', '+', '?', '{':
		return scanRepeat(pattern, at)
	default:
		t.kind, t.set = tokenBytes, oneByte(pattern[at])
	}
	return t
}

func oneByte(b byte) tree.Set { return tree.Between(b, b) }

func scanEscape(pattern string, at int) token {
	if at+1 == len(pattern) {
		return faultAt(at, api.ErrEscape)
	}
	b := pattern[at+1]
	switch {
	case isSpecial(b), b == ']', b == '}':
		return token{kind: tokenBytes, at: at, next: at + 2, set: oneByte(b)}
	case '1' <= b && b <= '9':
		return faultAt(at, api.ErrBack)
	}
	return faultAt(at, api.ErrEscape)
}

func scanRepeat(pattern string, at int) token {
	t := token{kind: tokenRepeat, at: at, next: at + 1, most: tree.Endless}
	switch pattern[at] {
	case '+':
		t.least = 1
	case '?':
		t.most = 1
	case '{':
		inner, _, closed := strings.Cut(pattern[at+1:], "}")
		least, most, ok := bounds(inner)
		if !closed || !ok {
			t.fault = api.ErrBrace
			return t
		}
		t.least, t.most, t.next = least, most, at+len(inner)+2
	}
	return t
}

// bounds reads what stands between { and }.
func bounds(inner string) (least, most int, ok bool) {
	low, high, comma := strings.Cut(inner, ",")
	least, ok = bound(low)
	switch {
	case !ok || !comma:
		return least, least, ok
	case high == "":
		return least, tree.Endless, true
	}
	most, ok = bound(high)
	return least, most, ok && least <= most
}

// bound reads a number; it tells false if there is none or it is too great.
func bound(digits string) (int, bool) {
	n := 0
	for i := range len(digits) {
		d := digits[i]
		if d < '0' || d > '9' {
			return 0, false
		}
		n = 10*n + int(d-'0')
		// Asked at each digit, so that no row of digits makes n wrap round.
		if n > api.MaxRepeat {
			return 0, false
		}
	}
	return n, digits != ""
}
