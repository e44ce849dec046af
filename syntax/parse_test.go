package syntax

import (
	"strconv"
	"strings"
	"testing"

	"posix/api"
	"posix/tree"
)

// drawn writes a part down, its kinds and bounds told apart: a byte as itself, a set as its bytes in < and >, a group with its number.
func drawn(p tree.Part) string {
	switch x := p.(type) {
	case *tree.Bytes:
		return drawnBytes(x)
	case *tree.Edge:
		if x.AtEnd {
			return "end"
		}
		return "begin"
	case *tree.Group:
		return strconv.Itoa(x.Number) + drawn(x.Inner)
	case *tree.Repeat:
		return drawn(x.Inner) + ":" + strconv.Itoa(x.Min) + ".." + strconv.Itoa(x.Max)
	case *tree.Branch:
		return drawnList(x.Pieces, " ")
	case *tree.Choice:
		return "(" + drawnList(x.Branches, " or ") + ")"
	}
	return "unknown"
}

func drawnList(parts []tree.Part, between string) string {
	var all []string
	for _, p := range parts {
		all = append(all, drawn(p))
	}
	return strings.Join(all, between)
}

func drawnBytes(x *tree.Bytes) string {
	s := bytesOf(x.Set)
	if x.Others {
		return "<not " + s + ">"
	}
	if len(s) == 1 {
		return s
	}
	return "<" + s + ">"
}

func bytesOf(s tree.Set) string {
	var all []byte
	for b := range 256 {
		if s.Has(byte(b)) {
			all = append(all, byte(b))
		}
	}
	return string(all)
}

// checkDrawn parses the first text of each row and holds what it draws against the second.
func checkDrawn(t *testing.T, rows [][2]string) {
	for _, c := range rows {
		whole, err := Parse(c[0])
		if err != nil {
			t.Errorf("P3: Parse(%q): %v", c[0], err)
		} else if s := drawn(whole); s != c[1] {
			t.Errorf("P3: Parse(%q) is %q, want %q", c[0], s, c[1])
		}
	}
}

func TestFormOfExpressions(t *testing.T) {
	checkDrawn(t, [][2]string{
		{"a", "(a)"},
		{"abc", "(a b c)"},
		{"a|bc|d", "(a or b c or d)"},
		{"(a)", "(1(a))"},
		{"(a|(b)c)(d)", "(1(a or 2(b) c) 3(d))"},
		{"((a)|b)*", "(1(2(a) or b):0..-1)"},
		{"^a$", "(begin a end)"},
		{"^*$+", "(begin:0..-1 end:1..-1)"},
		{".", "(<not >)"},
		{"a*b+c?", "(a:0..-1 b:1..-1 c:0..1)"},
		{"ab*", "(a b:0..-1)"},
		{"(ab)*", "(1(a b):0..-1)"},
		{"a{3}b{4,}c{5,6}", "(a:3..3 b:4..-1 c:5..6)"},
		{"a{0}b{0,}c{0,0}d{7,7}", "(a:0..0 b:0..-1 c:0..0 d:7..7)"},
		{"a{007}b{0000000000000000000000002,00020}", "(a:7..7 b:2..20)"},
		{"a**", "(a:0..-1:0..-1)"},
		{"ba*+?{2}{3,}", "(b a:0..-1:1..-1:0..1:2..2:3..-1)"},
		{"a|b*|(c|d)?", "(a or b:0..-1 or 1(c or d):0..1)"},
		{"]}-,:=!", "(] } - , : = !)"},
		{"\x00\n\x80\xff", "(\x00 \n \x80 \xff)"},
		{`\(\)\[\.\^\$\\\|\*\+\?\{\]\}`, `(( ) [ . ^ $ \ | * + ? { ] })`},
		{`\**`, "(*:0..-1)"},
		{`a\{2}`, "(a { 2 })"},
	})
}

func TestFormOfSets(t *testing.T) {
	checkDrawn(t, [][2]string{
		{"[a]", "(a)"},
		{"[cab]", "(<abc>)"},
		{"[aa]", "(a)"},
		{"[^a]", "(<not a>)"},
		{"[]]", "(])"},
		{"[^]]", "(<not ]>)"},
		{"[]a-]", "(<-]a>)"},
		{"[]-a]", "(<]^_`a>)"},
		{"[^]-_]", "(<not ]^_>)"},
		{"[a]]", "(a ])"},
		{"[a^]", "(<^a>)"},
		{"[^^]", "(<not ^>)"},
		{"[^-a]", "(<not -a>)"},
		{"[-a]", "(<-a>)"},
		{"[a-]", "(<-a>)"},
		{"[--]", "(-)"},
		{"[---]", "(-)"},
		{"[a-a]", "(a)"},
		{"[a-c-e]", "(<-abce>)"},
		{"[a-c--/]", "(<-./abc>)"},
		{"[%--]", "(<%&'()*+,->)"},
		{"[\xfd-\xff]", "(<\xfd\xfe\xff>)"},
		{"[\x00-\x02]", "(<\x00\x01\x02>)"},
		{`[\]`, `(\)`},
		{`[\]]`, `(\ ])`},
		{`[\n]`, `(<\n>)`},
		{`[Y-\]`, `(<YZ[\>)`},
		{"[.*+?({|^$]", "(<$(*+.?^{|>)"},
		{"[[]", "([)"},
		{"[[a]", "(<[a>)"},
		{"[[-^]", "(<[\\]^>)"},
		{"[a:]", "(<:a>)"},
		{"[:a:]", "(<:a>)"},
		{"[X-[:u:]]", "(<:XYZ[u> ])"},
		{"[X-[.]", "(<.XYZ[>)"},
		{"[X-[=]", "(<=XYZ[>)"},
		{"[[:digit:]]", "(<0123456789>)"},
		{"[^[:digit:]x]", "(<not 0123456789x>)"},
		{"[x[:digit:]-]", "(<-0123456789x>)"},
		{"[[:digit:]-a]", "(<-0123456789a>)"},
		{"[[:digit:][:blank:]]", "(<\t 0123456789>)"},
		{"[-[:digit:]]", "(<-0123456789>)"},
	})
}

func between(b, first, last byte) bool { return first <= b && b <= last }

// inClass says anew, in the document's words, which bytes a class has.
func inClass(name string, b byte) bool {
	digit, small, great := between(b, '0', '9'), between(b, 'a', 'z'), between(b, 'A', 'Z')
	switch name {
	case "alnum":
		return digit || small || great
	case "alpha":
		return small || great
	case "blank":
		return b == ' ' || b == '\t'
	case "cntrl":
		return b <= 31 || b == 127
	case "digit":
		return digit
	case "graph":
		return between(b, 33, 126)
	case "lower":
		return small
	case "print":
		return between(b, 32, 126)
	case "punct":
		return between(b, 33, 126) && !digit && !small && !great
	case "space":
		return between(b, 9, 13) || b == 32
	case "upper":
		return great
	case "xdigit":
		return digit || between(b, 'a', 'f') || between(b, 'A', 'F')
	}
	return false
}

func TestClasses(t *testing.T) {
	for _, name := range strings.Fields("alnum alpha blank cntrl digit graph lower print punct space upper xdigit") {
		whole, err := Parse("[[:" + name + ":]]")
		if err != nil {
			t.Errorf("P3: class %s: %v", name, err)
			continue
		}
		set := whole.(*tree.Choice).Branches[0].(*tree.Branch).Pieces[0].(*tree.Bytes).Set
		for b := range 256 {
			if want := inClass(name, byte(b)); set.Has(byte(b)) != want {
				t.Errorf("P3: class %s has byte %d: %v, want %v", name, b, !want, want)
			}
		}
	}
}

// The scanner itself must close its channel, and stop at its first fault.
func TestScannerCloses(t *testing.T) {
	for _, c := range []struct {
		pattern string
		tokens  int
	}{{"", 0}, {"a", 1}, {"(a|b)*", 6}, {"[a-c]x", 2}, {"a{2}b", 3}, {`a\bcd`, 2}, {"a[[:x", 2}, {"a{x}b", 2}} {
		tokens := make(chan token)
		go scan(c.pattern, tokens)
		n, faults := 0, 0
		for tok := range tokens {
			n++
			if tok.fault != 0 {
				faults++
			}
		}
		if n != c.tokens || faults > 1 {
			t.Errorf("scan(%q) sends %d tokens (%d of them faults), want %d", c.pattern, n, faults, c.tokens)
		}
	}
}

func TestParseTellsNothingBesideAFault(t *testing.T) {
	for _, pattern := range []string{"", "((a)", "(a)*)", "a|*", strings.Repeat("a", api.MaxPattern+1)} {
		if whole, err := Parse(pattern); whole != nil || err == nil {
			t.Errorf("P1: Parse(%q) = %v, %v", pattern, whole, err)
		}
	}
}
