package posix

import (
	"errors"
	"runtime"
	"strings"
	"sync"
	"testing"
	"time"

	"posix/api"
)

type fault struct {
	pattern string
	kind    api.Kind
	at      int
}

// checkFaults compiles each pattern and holds its fault and place against what the row tells (kind 0: none).
func checkFaults(t *testing.T, rows []fault) {
	t.Helper()
	for _, c := range rows {
		for f := range api.Flags(4) {
			r, err := Compile(c.pattern, f)
			if (r == nil) == (err == nil) {
				t.Errorf("P1: Compile(%q, %d): a Regex is there: %v, error %v", c.pattern, f, r != nil, err)
			}
			if kind, at := api.Told(err); kind != c.kind || at != c.at {
				t.Errorf("P4: Compile(%q, %d): kind %d at %d, want %d at %d", c.pattern, f, kind, at, c.kind, c.at)
			}
			var s *api.SyntaxError
			if err != nil && (!errors.As(err, &s) || !errors.Is(err, c.kind)) {
				t.Errorf("P4: Compile(%q, %d): the error is no SyntaxError of kind %d: %v", c.pattern, f, c.kind, err)
			}
		}
	}
}

func TestNoFault(t *testing.T) {
	var rows []fault
	for _, p := range []string{
		"a", "abc", "a|b", "(a)", "((a))", "(a|b)c", ".", "^", "$", "^$", "^*", "(^a$)+", "a*", "a+", "a?", "a{1}", "a{1,}", "a{1,2}", "a{0}", "a{3,3}", "a**+?{2}{3,}", "(a)*", "[a]*", `\**`, "a{00000000000000000000000000000000000000003}",
		"]", "}", "a}", "a]", "]}-,:=", " ", "\x00", "\xff", "\n", "\u00e9",
		`\(`, `\)`, `\[`, `\.`, `\^`, `\$`, `\\`, `\|`, `\*`, `\+`, `\?`, `\{`, `\]`, `\}`,
		"[a]", "[^a]", "[]]", "[^]]", "[]-a]", "[-]", "[a-]", "[-a]", "[--]", "[---]", "[--/]", "[a-a]", "[a-c-e]", "[\x00-\xff]", `[\]`, `[\]]`, "[[]", "[[a]", "[[-a]", "[a[]", "[:alpha:]", "[A-[:alpha:]]", "[A-[.x.]]", "[A-[=x=]]", "[[:alpha:]]", "[^[:alpha:][:digit:]]", "[[:alpha:]-]", "[()|*+?{}.^$]",
	} {
		rows = append(rows, fault{pattern: p})
	}
	checkFaults(t, rows)
}

func TestFaultsOfEscapes(t *testing.T) {
	rows := []fault{{`\`, api.ErrEscape, 0}, {`ab\`, api.ErrEscape, 2}, {`(a\`, api.ErrEscape, 2}, {`\\\`, api.ErrEscape, 2}, {`(a)\1`, api.ErrBack, 3}}
	for b := range 256 {
		switch p := `x\` + string([]byte{byte(b)}) + "y"; {
		case strings.IndexByte(`()[.^$\|*+?{]}`, byte(b)) >= 0:
			rows = append(rows, fault{p, 0, 0})
		case '1' <= b && b <= '9':
			rows = append(rows, fault{p, api.ErrBack, 1})
		default:
			rows = append(rows, fault{p, api.ErrEscape, 1})
		}
	}
	checkFaults(t, rows)
}

func TestFaultsOfSets(t *testing.T) {
	checkFaults(t, []fault{
		{"[", api.ErrBracket, 0}, {"[a", api.ErrBracket, 0}, {"[]", api.ErrBracket, 0}, {"[^", api.ErrBracket, 0}, {"[^]", api.ErrBracket, 0}, {"x[]a", api.ErrBracket, 1}, {"[a-", api.ErrBracket, 0}, {"[a-z", api.ErrBracket, 0}, {"[[", api.ErrBracket, 0}, {"[[:alpha:]", api.ErrBracket, 0}, {"[A-[:", api.ErrBracket, 0}, {`[\`, api.ErrBracket, 0}, {"[a][", api.ErrBracket, 3}, {"[]-", api.ErrBracket, 0},
		{"[b-a]", api.ErrRange, 1}, {"[^b-a]", api.ErrRange, 2}, {"[xb-a]", api.ErrRange, 2}, {"[a-cb-a]", api.ErrRange, 4}, {"[a--]", api.ErrRange, 1}, {"[\xff-\x00]", api.ErrRange, 1}, {"[]-\\]", api.ErrRange, 1}, {"[a-[:alpha:]]", api.ErrRange, 1}, {"[a-Z]", api.ErrRange, 1}, {"[[:alpha:]b-a]", api.ErrRange, 10}, {"[[-A]", api.ErrRange, 1},
		{"[[:foo:]]", api.ErrClass, 1}, {"[[:ALPHA:]]", api.ErrClass, 1}, {"[[::]]", api.ErrClass, 1}, {"[[:]", api.ErrClass, 1}, {"[[:]]", api.ErrClass, 1}, {"[[: alpha:]]", api.ErrClass, 1}, {"[[:alpha", api.ErrClass, 1}, {"[[:alpha]", api.ErrClass, 1}, {"[[:alpha:", api.ErrClass, 1}, {"[[:alpha]:]", api.ErrClass, 1}, {"[[:alph:]]", api.ErrClass, 1}, {"[[:alphabet:]]", api.ErrClass, 1}, {"[[:word:]]", api.ErrClass, 1}, {"[ab[:foo:]]", api.ErrClass, 3}, {"x[^[:foo:]]", api.ErrClass, 3}, {"[[.a.]]", api.ErrClass, 1}, {"[[=a=]]", api.ErrClass, 1}, {"[[.]", api.ErrClass, 1}, {"[a[=]", api.ErrClass, 2}, {"[[:alpha:]-[:foo:]]", api.ErrClass, 11}, {"[-[:foo:]]", api.ErrClass, 2}, {"[a-b-[.]", api.ErrClass, 5},
	})
}

func TestFaultsOfRepeats(t *testing.T) {
	var rows []fault
	for _, brace := range []string{"{", "{}", "{,}", "{,2}", "{1", "{1,", "{1,2", "{x}", "{1x}", "{1,x}", "{1,2,3}", "{1,,2}", "{1,,}", "{ 1}", "{1 }", "{1, 2}", "{-1}", "{+1}", "{1.0}", "{{1}}", "{2,1}", "{20,0}", "{\xff}", "{18446744073709551617}", "{18446744073709551616}", "{4294967297,}", "{1,18446744073709551618}", "{99999999999999999999999999999999999}"} {
		rows = append(rows, fault{"a" + brace, api.ErrBrace, 1}, fault{"(a)*b" + brace + "c", api.ErrBrace, 5}, fault{brace, api.ErrRepeat, 0}, fault{"a|" + brace, api.ErrRepeat, 2})
	}
	for _, repeat := range []string{"*", "+", "?", "{1}", "{1,}", "{1,2}"} {
		rows = append(rows, fault{repeat, api.ErrRepeat, 0}, fault{repeat + "a", api.ErrRepeat, 0}, fault{"a|" + repeat + "b", api.ErrRepeat, 2}, fault{"a(" + repeat + ")", api.ErrRepeat, 2}, fault{"(a|" + repeat, api.ErrRepeat, 3}, fault{"a" + repeat, 0, 0}, fault{"(a)" + repeat + repeat, 0, 0})
	}
	checkFaults(t, append(rows, fault{"a*{2}{3}{", api.ErrBrace, 8}, fault{"a{1}}", 0, 0}))
}

func TestFaultsOfBranchesAndGroups(t *testing.T) {
	checkFaults(t, []fault{
		{"", api.ErrEmpty, 0}, {"|", api.ErrEmpty, 0}, {"|a", api.ErrEmpty, 0}, {"a|", api.ErrEmpty, 2}, {"a||", api.ErrEmpty, 2}, {"a||b", api.ErrEmpty, 2}, {"()", api.ErrEmpty, 1}, {"a()b", api.ErrEmpty, 2}, {"(|a)", api.ErrEmpty, 1}, {"(a|)", api.ErrEmpty, 3}, {"(a)|", api.ErrEmpty, 4}, {"(", api.ErrEmpty, 1}, {"a(b|", api.ErrEmpty, 4}, {"((", api.ErrEmpty, 2},
		{")", api.ErrClose, 0}, {"a)", api.ErrClose, 1}, {"a|)", api.ErrClose, 2}, {"(a))", api.ErrClose, 3}, {"(a))(", api.ErrClose, 3}, {"a)*", api.ErrClose, 1},
		{"(a", api.ErrOpen, 0}, {"a(b", api.ErrOpen, 1}, {"((a)", api.ErrOpen, 0}, {"(a(b", api.ErrOpen, 2}, {"(a(b)c", api.ErrOpen, 0}, {"(a)(b", api.ErrOpen, 3}, {"(a|b", api.ErrOpen, 0}, {"x((a", api.ErrOpen, 2}, {"(a]", api.ErrOpen, 0}, {`(a\)`, api.ErrOpen, 0}, {"(a[)]", api.ErrOpen, 0},
	})
}

// Where several faults apply, the first that is met from left to right is told; at one place the document says which goes ahead.
func TestFirstFault(t *testing.T) {
	checkFaults(t, []fault{
		{"{", api.ErrRepeat, 0}, {"(a|{,}", api.ErrRepeat, 3}, // ErrRepeat ahead of ErrBrace
		{")", api.ErrClose, 0}, {"a|)", api.ErrClose, 2}, // ErrClose ahead of ErrEmpty
		{"(a|", api.ErrEmpty, 3}, {"((a)|", api.ErrEmpty, 5}, // ErrEmpty ahead of ErrOpen
		{"(a[b", api.ErrBracket, 2}, {"([", api.ErrBracket, 1}, {"a|[", api.ErrBracket, 2}, // ErrBracket ahead of what is told at the end
		{"[b-a", api.ErrRange, 1}, {"[b-a[:foo:]", api.ErrRange, 1}, {"[[:foo:]b-a]", api.ErrClass, 1}, {"[[:a", api.ErrClass, 1}, {"[x[.", api.ErrClass, 2}, // within a set
		{`(a)*b)\`, api.ErrClose, 5}, {`\1(`, api.ErrBack, 0}, {`a{\`, api.ErrBrace, 1}, {`()\`, api.ErrEmpty, 1}, {"*[", api.ErrRepeat, 0}, {`[b-a]\`, api.ErrRange, 1}, {`(a\z`, api.ErrEscape, 2}, {"(a{3,2}", api.ErrBrace, 2}, {"a||*", api.ErrEmpty, 2}, {"(*)", api.ErrRepeat, 1}, {"a)[", api.ErrClose, 1},
		{strings.Repeat("(a)", api.MaxGroups) + "*(*", api.ErrMany, 3*api.MaxGroups + 1},
		{strings.Repeat("(", api.MaxPattern+1), api.ErrLong, 0}, {strings.Repeat(`\`, api.MaxPattern+1), api.ErrLong, 0},
	})
}

func TestSizes(t *testing.T) {
	long := strings.Repeat("a", api.MaxPattern)
	open, shut := strings.Repeat("(", api.MaxGroups), strings.Repeat(")", api.MaxGroups)
	row := strings.Repeat("(a)", api.MaxGroups)
	checkFaults(t, []fault{
		{long, 0, 0}, {long + "a", api.ErrLong, 0}, {long + long, api.ErrLong, 0}, {"a" + strings.Repeat("*", api.MaxPattern-1), 0, 0}, {strings.Repeat("a", 1<<20), api.ErrLong, 0}, {strings.Repeat("\xc3\xa9", api.MaxPattern/2), 0, 0}, {strings.Repeat("\xc3\xa9", api.MaxPattern/2+1), api.ErrLong, 0},
		{long[1:] + "(", api.ErrEmpty, api.MaxPattern}, {long[1:] + "[", api.ErrBracket, api.MaxPattern - 1},
		{"a{20}", 0, 0}, {"a{21}", api.ErrBrace, 1}, {"a{20,}", 0, 0}, {"a{21,}", api.ErrBrace, 1}, {"a{0,20}", 0, 0}, {"a{0,21}", api.ErrBrace, 1}, {"a{20,20}", 0, 0}, {"a{21,21}", api.ErrBrace, 1}, {"a{20,19}", api.ErrBrace, 1}, {"a{020}", 0, 0}, {"a{200}", api.ErrBrace, 1},
		{row, 0, 0}, {row + "(a)", api.ErrMany, len(row)}, {row + "b(", api.ErrMany, len(row) + 1}, {row + `\(`, 0, 0}, {row + "[(]", 0, 0},
		{open + "a" + shut, 0, 0}, {open + "(a)" + shut, api.ErrMany, api.MaxGroups}, {open, api.ErrEmpty, api.MaxGroups}, {open + "(", api.ErrMany, api.MaxGroups},
	})
}

func TestGroups(t *testing.T) {
	for _, c := range []struct {
		pattern string
		want    int
	}{{"a", 0}, {"(a)", 1}, {"((a))", 2}, {"(a)(b|(c))", 3}, {"(a)*", 1}, {"(a){20}", 1}, {"(a){0}", 1}, {"a|(b)|(c)", 2}, {`\(a\)`, 0}, {"[(]", 0}, {`[(]\((a)`, 1}, {"(^$)", 1}, {strings.Repeat("(a)", 9), 9}, {"(((((((((a)))))))))", 9}} {
		r, err := Compile(c.pattern, 0)
		if err != nil {
			t.Errorf("P4: Compile(%q): %v", c.pattern, err)
		} else if n := r.Groups(); n != c.want || r.Groups() != n {
			t.Errorf("P4: Groups of %q = %d, want %d", c.pattern, n, c.want)
		}
	}
}

// A Regex that Compile did not make has no groups; to ask it is no reason to panic.
func TestGroupsOfNoRegex(t *testing.T) {
	var none *Regex
	if none.Groups() != 0 || new(Regex).Groups() != 0 {
		t.Error("P1: a Regex without a pattern has groups")
	}
}

// Bits beyond Fold and Lines say nothing.
func TestFlagsBeyond(t *testing.T) {
	for f := range 256 {
		if r, err := Compile("(a)[b]", api.Flags(f)); err != nil || r.Groups() != 1 {
			t.Errorf("P4: Compile with flags %d: %v", f, err)
		}
		if _, err := Compile("a|*", api.Flags(f)); !errors.Is(err, api.ErrRepeat) {
			t.Errorf("P4: Compile of a fault with flags %d: %v", f, err)
		}
	}
}

// each calls do with all patterns of so many bytes of the alphabet.
func each(alphabet string, size int, do func(string)) {
	if size == 0 {
		do("")
		return
	}
	each(alphabet, size-1, func(head string) {
		for i := range len(alphabet) {
			do(head + alphabet[i:i+1])
		}
	})
}

// Whatever the pattern is, there is either a Regex or a fault whose place lies in the pattern or at its end.
func TestEveryPatternIsAnswered(t *testing.T) {
	check := func(pattern string) {
		r, err := Compile(pattern, 0)
		if (r == nil) == (err == nil) {
			t.Fatalf("P1: Compile(%q): a Regex is there: %v, error %v", pattern, r != nil, err)
		}
		if _, at := api.Told(err); at < 0 || at > len(pattern) {
			t.Fatalf("P4: Compile(%q): a fault at %d", pattern, at)
		}
	}
	for size := range 5 {
		each("a()[]|*{1,}\\-:^", size, check)
	}
	for size := range 3 {
		var all []byte
		for b := range 256 {
			all = append(all, byte(b))
		}
		each(string(all), size, check)
	}
	for _, head := range []string{"a{", "[", "[^", "[a-", "[[:", "[[:alpha:", "\\", "a{1", "a{1,"} {
		each("a[]:-.=1,}^\\", 3, func(rest string) { check(head + rest) })
	}
}

func TestGoroutinesHaveEnded(t *testing.T) {
	before := runtime.NumGoroutine()
	for range 300 {
		for _, p := range []string{"(a|b)*[a-c]{2,3}", "a)bcdefgh", "", "*aaaaaaaaaa", "((((((((((((", "a[b", `\1abc`, "(a{x}bcd", strings.Repeat("a", 200), "a||bbbbbbb"} {
			Compile(p, 0)
		}
	}
	checkGoroutines(t, before)
}

// checkGoroutines waits till there are no more goroutines than there were before. (The last act of one is seen ahead of its leaving the count; one that hangs never leaves it.)
func checkGoroutines(t *testing.T, before int) {
	t.Helper()
	for range 200 {
		if runtime.NumGoroutine() <= before {
			return
		}
		time.Sleep(time.Millisecond)
	}
	t.Errorf("P1: %d goroutines are left", runtime.NumGoroutine()-before)
}

// A fault that was handed out is the caller's: to write into it changes no later answer.
func TestFaultsAreFresh(t *testing.T) {
	for _, p := range []string{"a)", strings.Repeat("a", 121)} {
		_, err := Compile(p, 0)
		kind, at := api.Told(err)
		var s *api.SyntaxError
		if errors.As(err, &s) {
			s.At, s.Kind = 77, api.ErrArg
		}
		_, err = Compile(p, 0)
		if k, a := api.Told(err); k != kind || a != at {
			t.Errorf("P2: Compile(%q) told %d at %d, and then %d at %d", p, kind, at, k, a)
		}
	}
}

// No answer hangs on other calls, those at the same time neither.
func TestCallsAtTheSameTime(t *testing.T) {
	var all sync.WaitGroup
	for range 16 {
		all.Go(func() {
			for range 50 {
				r, err := Compile("((a)|[b-d]{2})*", 0)
				if err != nil || r.Groups() != 2 {
					t.Errorf("P2: Compile: %v", err)
				}
				if _, err := Compile("((a)|[d-b]{2})*", 0); !errors.Is(err, api.ErrRange) {
					t.Errorf("P2: Compile of a fault: %v", err)
				}
			}
		})
	}
	all.Wait()
}
