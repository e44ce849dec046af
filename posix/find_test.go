package posix

import (
	"strconv"
	"strings"
	"sync"
	"testing"

	"posix/api"
)

// compiled gives the Regex of a pattern that has no fault.
func compiled(t *testing.T, pattern string, f api.Flags) *Regex {
	t.Helper()
	r, err := Compile(pattern, f)
	if err != nil {
		t.Fatalf("Compile(%q, %d): %v", pattern, f, err)
	}
	return r
}

// told writes spans as the document does: 0-4, none.
func told(spans []api.Span) string {
	if spans == nil {
		return "nil"
	}
	var all []string
	for _, s := range spans {
		if s.From == -1 && s.To == -1 {
			all = append(all, "none")
		} else {
			all = append(all, strconv.Itoa(s.From)+"-"+strconv.Itoa(s.To))
		}
	}
	return strings.Join(all, ", ")
}

// found is what Find tells, with a span for each group.
func found(t *testing.T, r *Regex, text string, e api.Edges) string {
	t.Helper()
	spans, err := r.Find(text, e, 1+r.Groups())
	if err != nil {
		t.Errorf("P8: Find(%q, %d): %v", text, e, err)
	}
	return told(spans)
}

type find struct {
	pattern string
	flags   api.Flags
	text    string
	edges   api.Edges
	want    string // as told writes it
}

func checkFinds(t *testing.T, promise string, rows []find) {
	t.Helper()
	for _, c := range rows {
		r := compiled(t, c.pattern, c.flags)
		if got := found(t, r, c.text, c.edges); got != c.want {
			t.Errorf("%s: %q, flags %d, in %q, edges %d: %s, want %s", promise, c.pattern, c.flags, c.text, c.edges, got, c.want)
		}
		if ok, err := r.Match(c.text, c.edges); err != nil || ok != (c.want != "nil") {
			t.Errorf("P8: %q, flags %d: Match(%q, %d) = %v, %v", c.pattern, c.flags, c.text, c.edges, ok, err)
		}
	}
}

// plainRows makes rows of pattern, text and spans, without flags and edges.
func plainRows(all [][3]string) []find {
	var rows []find
	for _, c := range all {
		rows = append(rows, find{c[0], 0, c[1], 0, c[2]})
	}
	return rows
}

func TestExamples(t *testing.T) {
	checkFinds(t, "Examples", plainRows([][3]string{
		{"a+", "baac", "1-3"},
		{"a|ab|abc", "xabcd", "1-4"},
		{"(a|ab)(c|bcd)(d*)", "abcd", "0-4, 0-2, 2-3, 3-4"},
		{"(a*)(ab)*(b*)", "abb", "0-3, 0-1, none, 1-3"},
		{"(a*)*", "b", "0-0, none"},
		{"(a*)+", "b", "0-0, 0-0"},
		{"(a|b)*", "abba", "0-4, 3-4"},
		{"((a)|b)*", "ab", "0-2, 1-2, 0-1"},
		{"(a{0,1}){3}", "aa", "0-2, 2-2"},
		{"x*|y", "y", "0-1"},
		{"^$", "", "0-0"},
		{"[]a-]+", "b]a-c", "1-4"},
		{"[[:digit:]]{2,3}", "a1234", "1-4"},
	}))
	checkFinds(t, "Examples", []find{
		{"[^a]", api.Fold, "aA", 0, "nil"}, {"[^a]", api.Fold, "aAb", 0, "2-3"},
		{"^b$", api.Lines, "a\nb\nc", 0, "2-3"}, {"^b$", 0, "a\nb\nc", 0, "nil"},
		{"^a", 0, "a", api.NotBegin, "nil"},
	})
}

func TestLeftmostAndLongest(t *testing.T) {
	checkFinds(t, "P8", plainRows([][3]string{
		{"b|abc", "xabc", "1-4"}, {"bcd|a", "abcd", "0-1"}, {"a|ab|b", "cab", "1-3"}, {"ab|a", "ab", "0-2"}, {"a|aa|aaa", "aaaa", "0-3"}, {"aa|bbbb", "bbbbaa", "0-4"},
		{"a*", "baa", "0-0"}, {"a*", "aab", "0-2"}, {"a*", "", "0-0"}, {"a", "", "nil"}, {"ab", "aab", "1-3"}, {"(a|ab)(c|bcd)?", "abcd", "0-4, 0-1, 1-4"}, {"x*", "yyx", "0-0"}, {"x+", "yyxx", "2-4"}, {"a.*c|a.*d", "abcxd", "0-5"}, {"$", "ab", "2-2"}, {"b*$", "abb", "1-3"}, {".b", "abb", "0-2"}, {"(aab|a)b*", "aabbb", "0-5, 0-3"},
	}))
}

func TestSizesOfTexts(t *testing.T) {
	r := compiled(t, "(x*)(y)?$", 0)
	full := strings.Repeat("x", api.MaxText)
	if ok, err := r.Match(full, 0); !ok || err != nil {
		t.Errorf("P8: Match of a text of MaxText bytes: %v, %v", ok, err)
	}
	if got := found(t, r, full, 0); got != "0-300, 0-300, none" {
		t.Errorf("P8: Find in a text of MaxText bytes: %s", got)
	}
	for _, text := range []string{full + "x", full + "y", full + full, strings.Repeat("x", 1<<20)} {
		if ok, err := r.Match(text, 0); ok || err != error(api.ErrText) {
			t.Errorf("P8: Match of %d bytes: %v, %v", len(text), ok, err)
		}
		// ErrText goes ahead of ErrArg.
		for _, n := range []int{1, api.MaxSpans, 0, -1, api.MaxSpans + 1} {
			if s, err := r.Find(text, 0, n); s != nil || err != error(api.ErrText) {
				t.Errorf("P8: Find(%d bytes, %d): %v, %v", len(text), n, s, err)
			}
		}
	}
}

func TestNumberOfSpans(t *testing.T) {
	r := compiled(t, "(a)|(b)(c)", 0)
	for _, text := range []string{"a", "bc", "x", ""} {
		for _, n := range []int{0, -1, -20, api.MaxSpans + 1, 1 << 40, -1 << 63} {
			if s, err := r.Find(text, 0, n); s != nil || err != error(api.ErrArg) {
				t.Errorf("P8: Find(%q, %d): %v, %v", text, n, s, err)
			}
		}
		for n := 1; n <= api.MaxSpans; n++ {
			s, err := r.Find(text, 0, n)
			if matches := text == "a" || text == "bc"; err != nil || matches && len(s) != n || !matches && s != nil {
				t.Errorf("P9: Find(%q, %d): %v, %v", text, n, s, err)
			}
		}
	}
	for n, want := range []string{1: "0-2", 2: "0-2, none", 3: "0-2, none, 0-1", 4: "0-2, none, 0-1, 1-2", 6: "0-2, none, 0-1, 1-2, none, none"} {
		if s, err := r.Find("bc", 0, n); want != "" && (err != nil || told(s) != want) {
			t.Errorf("P9: %d spans: %s, %v, want %s", n, told(s), err, want)
		}
	}
	all := compiled(t, strings.Repeat("(.)", api.MaxGroups), 0)
	if s, err := all.Find("xabcdefghi", 0, api.MaxSpans); err != nil || told(s) != "0-9, 0-1, 1-2, 2-3, 3-4, 4-5, 5-6, 6-7, 7-8, 8-9"+strings.Repeat(", none", 10) {
		t.Errorf("P9: MaxSpans spans of MaxGroups groups: %s, %v", told(s), err)
	}
}

// What one call answers hangs on no other: the same Regex is asked again and again, with other texts and edges in between, and its answers are written into.
func TestAnswersAreFresh(t *testing.T) {
	r := compiled(t, "(^a|b$)(c|$)*", api.Fold)
	asked := []find{
		{"", 0, "a", 0, "0-1, 0-1, none"}, {"", 0, "ACc", 0, "0-3, 0-1, 2-3"}, {"", 0, "xb", 0, "1-2, 1-2, none"}, {"", 0, "a", api.NotBegin, "nil"}, {"", 0, "B", api.NotEnd, "nil"}, {"", 0, "", 0, "nil"}, {"", 0, "acx", api.NotEnd, "0-2, 0-1, 1-2"}, {"", 0, "xac", 0, "nil"},
	}
	for i := range 5 * len(asked) {
		c := asked[(i*3)%len(asked)]
		for range 2 {
			spans, err := r.Find(c.text, c.edges, 3)
			if err != nil || told(spans) != c.want {
				t.Errorf("P2: Find(%q, %d) = %s, %v, want %s", c.text, c.edges, told(spans), err, c.want)
			}
			for k := range spans[:cap(spans)] {
				spans[:cap(spans)][k] = api.Span{From: 77, To: 78}
			}
			if ok, err := r.Match(c.text, c.edges); err != nil || ok != (c.want != "nil") {
				t.Errorf("P2: Match(%q, %d) = %v, %v", c.text, c.edges, ok, err)
			}
		}
		if r.Groups() != 2 {
			t.Fatalf("P2: now there are %d groups", r.Groups())
		}
	}
}

func TestTwoAnswersShareNothing(t *testing.T) {
	r := compiled(t, "(a)(b)", 0)
	one, _ := r.Find("ab", 0, 5)
	other, _ := r.Find("ab", 0, 5)
	for i := range one {
		one[i] = api.Span{From: 9, To: 9}
	}
	if told(other) != "0-2, 0-1, 1-2, none, none" {
		t.Errorf("P2: writing into one answer changed another: %s", told(other))
	}
}

// Its first match makes a Regex ready, and it may be the first of several at once.
func TestManyAtOnce(t *testing.T) {
	for range 20 {
		r := compiled(t, "(a|ab)(c|bcd)(d*)", api.Fold)
		got := make([]string, 8)
		var all sync.WaitGroup
		for i := range got {
			all.Go(func() {
				text := strings.Repeat("x", i) + "aBcD"
				spans, _ := r.Find(text, 0, 4)
				got[i] = told(spans)
			})
		}
		all.Wait()
		for i, s := range got {
			want := told([]api.Span{{From: i, To: i + 4}, {From: i, To: i + 2}, {From: i + 2, To: i + 3}, {From: i + 3, To: i + 4}})
			if s != want {
				t.Errorf("P2: at once with others: %s, want %s", s, want)
			}
		}
	}
}

// What only a match needs is made at the first one, and once.
func TestReadyOnce(t *testing.T) {
	r := compiled(t, "(a)", 0)
	if r.Groups(); r.plan != nil {
		t.Error("the plan is made ahead of the first match")
	}
	r.Match("a", 0)
	first := r.plan
	r.Find("a", 0, 1)
	r.Match("b", 0)
	if first == nil || r.plan != first {
		t.Error("the plan is not made at the first match, or once more")
	}
}

// A Regex that Compile did not make matches nothing, and does not panic.
func TestNoRegex(t *testing.T) {
	for _, r := range []*Regex{nil, new(Regex)} {
		if ok, err := r.Match("", 0); ok || err != nil {
			t.Errorf("P1: Match of none: %v, %v", ok, err)
		}
		if s, err := r.Find("a", 0, 1); s != nil || err != nil {
			t.Errorf("P1: Find of none: %v, %v", s, err)
		}
		if _, err := r.Find("a", 0, 0); err != error(api.ErrArg) {
			t.Errorf("P8: Find of none, no spans: %v", err)
		}
		if _, err := r.Match(strings.Repeat("a", api.MaxText+1), 0); err != error(api.ErrText) {
			t.Errorf("P8: Match of none, a long text: %v", err)
		}
	}
}

// Patterns and texts of which there are so many ways that none could go them one by one.
func TestHardOnesEnd(t *testing.T) {
	as := strings.Repeat("a", api.MaxText)
	nest := strings.Repeat("(", api.MaxGroups) + "a?)" + strings.Repeat("{20})", api.MaxGroups-1) + "{20}"
	checkFinds(t, "P1", []find{
		{"(a*)*(a|b)*(a*b*)*c", 0, strings.Repeat("ab", 150), 0, "nil"},
		{"(a|aa)*b", 0, as, 0, "nil"},
		{"(a|aa)*", 0, as, 0, "0-300, 298-300"},
		{"a" + strings.Repeat("*", 119), 0, as, 0, "0-300"},
		{"a" + strings.Repeat("*", 118) + "b", 0, as, 0, "nil"},
		{strings.Repeat("a?", 40) + strings.Repeat("a", 40), 0, as[:40], 0, "0-40"},
		{strings.Repeat("a*", 59) + "b", 0, as, 0, "nil"},
		{"." + strings.Repeat("{0,20}", 19), 0, as, 0, "0-300"},
		{"(a?)" + strings.Repeat("{20}", 29), 0, "", 0, "0-0, 0-0"},
		{"(a?)" + strings.Repeat("{20}", 29), 0, "ab", 0, "0-1, 1-1"},
		{"(^|a)" + strings.Repeat("{20}", 28), 0, "aaa", 0, "0-3, 2-3"},
		{nest, 0, "", 0, "0-0" + strings.Repeat(", 0-0", api.MaxGroups)},
		{nest, 0, as, 0, "0-300" + strings.Repeat(", 300-300", api.MaxGroups)},
	})
}
