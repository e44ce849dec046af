package posix

import (
	"slices"
	"strings"
	"testing"

	"posix/api"
)

// toldAll writes lists of spans, a semicolon between them.
func toldAll(lists [][]api.Span) string {
	var all []string
	for _, spans := range lists {
		all = append(all, told(spans))
	}
	return strings.Join(all, "; ")
}

// spoil writes into a list, its spare room too.
func spoil(spans []api.Span) {
	for i := range spans[:cap(spans)] {
		spans[:cap(spans)][i] = api.Span{From: 77, To: 78}
	}
}

// gone goes over a sequence; what it has been given it spoils at once.
func gone(sequence func(yield func([]api.Span) bool)) string {
	var all []string
	for spans := range sequence {
		all = append(all, told(spans))
		spoil(spans)
	}
	return strings.Join(all, "; ")
}

type findAll struct {
	pattern string
	flags   api.Flags
	text    string
	want    string // as toldAll writes it
}

func checkAll(t *testing.T, rows []findAll) {
	t.Helper()
	for _, c := range rows {
		r := compiled(t, c.pattern, c.flags)
		if got := gone(r.All(c.text)); got != c.want {
			t.Errorf("P10: %q, flags %d: All of %q: %s, want %s", c.pattern, c.flags, c.text, got, c.want)
		}
		if lists, err := r.FindAll(c.text, -1); err != nil || toldAll(lists) != c.want {
			t.Errorf("P10: %q, flags %d: FindAll of %q: %s, %v, want %s", c.pattern, c.flags, c.text, toldAll(lists), err, c.want)
		}
	}
}

func TestAllOneBehindTheOther(t *testing.T) {
	checkAll(t, []findAll{
		{"a", 0, "", ""}, {"a", 0, "b", ""}, {"a", 0, "a", "0-1"}, {"a", 0, "aaa", "0-1; 1-2; 2-3"}, {"a", 0, "babab", "1-2; 3-4"}, {"aa", 0, "aaaaa", "0-2; 2-4"}, {"aba", 0, "ababa", "0-3"}, {"a+", 0, "aabaaa", "0-2; 3-6"}, {"a|ab|bc", 0, "abca", "0-2; 3-4"}, {"ab|b", 0, "babb", "0-1; 1-3; 3-4"}, {"[0-9]+", 0, "a12b3", "1-3; 4-5"}, {".", 0, "a\n\x00\xff", "0-1; 1-2; 2-3; 3-4"}, {".", api.Lines, "a\nb", "0-1; 2-3"}, {"a", api.Fold, "aAbA", "0-1; 1-2; 3-4"}, {"a", 0, "aAbA", "0-1"},
	})
}

func TestAllGroups(t *testing.T) {
	checkAll(t, []findAll{
		{"(a)|b", 0, "ab", "0-1, 0-1; 1-2, none"}, {"(a)|(b)", 0, "bab", "0-1, none, 0-1; 1-2, 1-2, none; 2-3, none, 2-3"}, {"(ab)*", 0, "ababxab", "0-4, 2-4; 5-7, 5-7"}, {"(a|ab)(c|bcd)(d*)", 0, "abcdacd", "0-4, 0-2, 2-3, 3-4; 4-7, 4-5, 5-6, 6-7"}, {"((a)|b)+", 0, "ab b", "0-2, 1-2, 0-1; 3-4, 3-4, none"}, {"(a*)+", 0, "ba", "0-0, 0-0; 1-2, 1-2"}, {"(a*)*", 0, "ba", "0-0, none; 1-2, 1-2"}, {"(((((((((a)))))))))|b", 0, "ba", "0-1" + strings.Repeat(", none", 9) + "; 1-2" + strings.Repeat(", 1-2", 9)},
	})
}

// An empty match is none at the end of the one ahead; just behind it, and at the text's ends, it is one.
func TestAllEmptyOnes(t *testing.T) {
	checkAll(t, []findAll{
		{"a*", 0, "baac", "0-0; 1-3; 4-4"}, {"a*", 0, "", "0-0"}, {"a*", 0, "b", "0-0; 1-1"}, {"a*", 0, "bb", "0-0; 1-1; 2-2"}, {"a*", 0, "a", "0-1"}, {"a*", 0, "ab", "0-1; 2-2"}, {"a*", 0, "abb", "0-1; 2-2; 3-3"}, {"a*", 0, "aba", "0-1; 2-3"}, {"a*", 0, "baab", "0-0; 1-3; 4-4"}, {"a*", 0, "bba", "0-0; 1-1; 2-3"}, {"a?", 0, "aab", "0-1; 1-2; 3-3"}, {"a?", 0, "baa", "0-0; 1-2; 2-3"}, {"a{0}", 0, "aa", "0-0; 1-1; 2-2"}, {"b*|a", 0, "ab", "0-1; 1-2"}, {"b|(c*)", 0, "bcb", "0-1, none; 1-2, 1-2; 2-3, none"}, {"b|(c*)", 0, "ab", "0-0, 0-0; 1-2, none"}, {"x*", 0, "\xff\n", "0-0; 1-1; 2-2"},
		// What is left behind a match may be too short for a further one; the empty one there is none.
		{"(aa)*", 0, "aaaba", "0-2, 0-2; 3-3, none; 4-4, none; 5-5, none"}, {"a{2}|b{0}", 0, "aaab", "0-2; 3-3; 4-4"},
	})
}

// ^ and $ look at the whole text, wherever the one ahead ended.
func TestAllEdges(t *testing.T) {
	checkAll(t, []findAll{
		{"^a", 0, "aa", "0-1"}, {"^", 0, "ab", "0-0"}, {"^", 0, "", "0-0"}, {"^a|b", 0, "abab", "0-1; 1-2; 3-4"}, {"^|a", 0, "aa", "0-1; 1-2"}, {"^|b", 0, "ab", "0-0; 1-2"}, {"^*", 0, "ab", "0-0; 1-1; 2-2"}, {"(^a)?", 0, "aa", "0-1, 0-1; 2-2, none"}, {"^a*", 0, "baa", "0-0"}, {"a^b|a", 0, "ab", "0-1"},
		{"$", 0, "ab", "2-2"}, {"$", 0, "", "0-0"}, {"a$", 0, "aa", "1-2"}, {"a|$", 0, "ab", "0-1; 2-2"}, {"a|$", 0, "ba", "1-2"}, {"a$|a", 0, "aa", "0-1; 1-2"}, {"b|a$", 0, "aba", "1-2; 2-3"}, {"(a$)?", 0, "aa", "0-0, none; 1-2, 1-2"}, {"^|$", 0, "ab", "0-0; 2-2"}, {"^|$", 0, "", "0-0"}, {"^$", 0, "\n\n", ""},
		{"^a", api.Lines, "a\naa", "0-1; 2-3"}, {"^a", 0, "a\naa", "0-1"}, {"^", api.Lines, "a\nb\n", "0-0; 2-2; 4-4"}, {"^", 0, "a\nb\n", "0-0"}, {"^", api.Lines, "\n\n", "0-0; 1-1; 2-2"}, {"\n|^a", api.Lines, "a\na", "0-1; 1-2; 2-3"}, {"\n|^a", 0, "a\na", "0-1; 1-2"}, {"\n|^", api.Lines, "a\nb", "0-0; 1-2"},
		{"$", api.Lines, "a\nb", "1-1; 3-3"}, {"$", 0, "a\nb", "3-3"}, {"a$", api.Lines, "aa\na", "1-2; 3-4"}, {"a$", 0, "aa\na", "3-4"}, {"$", api.Lines, "\n\n", "0-0; 1-1; 2-2"}, {"a|$", api.Lines, "a\nb", "0-1; 3-3"}, {"\n|$", api.Lines, "a\n", "1-2"}, {"^$", api.Lines, "a\n\nb\n", "2-2; 5-5"}, {"^b$", api.Lines, "b\nab\nb", "0-1; 5-6"}, {"^.*$", api.Lines, "ab\n\nc", "0-2; 3-3; 4-5"},
	})
}

func TestAllSizes(t *testing.T) {
	full := strings.Repeat("x", api.MaxText)
	r := compiled(t, "x|y*", 0)
	if lists, err := r.FindAll(full, -1); err != nil || len(lists) != api.MaxText || told(lists[api.MaxText-1]) != "299-300" {
		t.Errorf("P10: FindAll of MaxText bytes: %d lists, %v", len(lists), err)
	}
	if lists, err := r.FindAll(strings.Repeat("z", api.MaxText), -1); err != nil || len(lists) != api.MaxText+1 || told(lists[api.MaxText]) != "300-300" {
		t.Errorf("P10: FindAll of MaxText bytes, empty matches: %d lists, %v", len(lists), err)
	}
	for _, text := range []string{full + "x", full + "z", strings.Repeat("x", 1<<20)} {
		for range r.All(text) {
			t.Fatalf("P10: All of %d bytes has a match", len(text))
		}
		for _, n := range []int{-1, 0, 1, 1000} {
			if lists, err := r.FindAll(text, n); lists != nil || err != error(api.ErrText) {
				t.Errorf("P10: FindAll(%d bytes, %d): %d lists, %v", len(text), n, len(lists), err)
			}
		}
	}
}

func TestFindAllNumber(t *testing.T) {
	for _, c := range []struct {
		pattern, text string
		want          []string
	}{{"a*", "baac", []string{"0-0", "1-3", "4-4"}}, {"(a)|b", "ab", []string{"0-1, 0-1", "1-2, none"}}, {"x", "abc", nil}, {"^", "", []string{"0-0"}}} {
		r := compiled(t, c.pattern, 0)
		for _, n := range []int{-1 << 63, -2, -1, 0, 1, 2, 3, 4, 300, 1<<63 - 1} {
			want := c.want
			if n >= 0 && n < len(want) {
				want = want[:n]
			}
			if lists, err := r.FindAll(c.text, n); err != nil || len(lists) != len(want) || toldAll(lists) != strings.Join(want, "; ") {
				t.Errorf("P10: %q: FindAll(%q, %d): %s, %v, want %v", c.pattern, c.text, n, toldAll(lists), err, want)
			}
		}
	}
}

// When yield answers false it is not called again.
func TestAllEndsEarly(t *testing.T) {
	r := compiled(t, "(a)|b*", 0)
	want := []string{"0-1, 0-1", "1-3, none", "3-4, 3-4", "5-5, none"}
	for most := 1; most <= len(want)+1; most++ {
		var got []string
		r.All("abbac")(func(spans []api.Span) bool {
			got = append(got, told(spans))
			return len(got) < most
		})
		if !slices.Equal(got, want[:min(most, len(want))]) {
			t.Errorf("P10: All, ended at %d: %v", most, got)
		}
	}
}

// A sequence may be gone over again, ended early or not, also while it is being gone over, and after others.
func TestSequenceAgain(t *testing.T) {
	r := compiled(t, "(a+)|$", 0)
	const want = "1-3, 1-3; 4-5, 4-5; 6-6, none"
	sequence := r.All("baabac")
	other := r.All("a")
	for range 3 {
		if got := gone(sequence); got != want {
			t.Errorf("P10: the sequence again: %s", got)
		}
		for range sequence {
			break
		}
		if got := gone(other); got != "0-1, 0-1" {
			t.Errorf("P10: the other sequence: %s", got)
		}
		n := 0
		for spans := range sequence {
			n++
			if got := gone(sequence); got != want {
				t.Errorf("P10: the sequence within itself: %s", got)
			}
			spoil(spans)
		}
		if n != 3 {
			t.Errorf("P10: the sequence around itself: %d", n)
		}
	}
}

// A panic in the loop goes through to the caller, and the sequence stays as it is.
func TestAllLetsPanicsThrough(t *testing.T) {
	sequence := compiled(t, "a", 0).All("aba")
	func() {
		defer func() {
			if got := recover(); got != "mine" {
				t.Errorf("P1: a panic in the loop came out as %v", got)
			}
		}()
		for range sequence {
			panic("mine")
		}
	}()
	if got := gone(sequence); got != "0-1; 2-3" {
		t.Errorf("P10: the sequence after a panic: %s", got)
	}
}

func TestAllListsShareNothing(t *testing.T) {
	r := compiled(t, "(a)(b)?", 0)
	const want = "0-2, 0-1, 1-2; 2-3, 2-3, none; 3-5, 3-4, 4-5"
	kept := slices.Collect(r.All("abaab"))
	one, _ := r.FindAll("abaab", -1)
	other, _ := r.FindAll("abaab", -1)
	for i := range one {
		spoil(one[i])
		for k := range one {
			if k > i && told(one[k]) != told(other[k]) {
				t.Errorf("P2: writing into list %d changed list %d", i, k)
			}
		}
	}
	clear(one[:cap(one)])
	if toldAll(other) != want || toldAll(kept) != want {
		t.Errorf("P2: writing into one answer changed another: %s, and %s", toldAll(other), toldAll(kept))
	}
	for i := range kept {
		spoil(kept[i])
		if rest := toldAll(kept[i+1:]); !strings.HasSuffix(want, rest) {
			t.Errorf("P2: writing into list %d of All changed those behind it: %s", i, rest)
		}
	}
	if got := gone(r.All("abaab")); got != want {
		t.Errorf("P2: All after lists were written into: %s", got)
	}
}

// Patterns and texts that would take too long if each match were looked for anew with all its ways.
func TestHardAllEnds(t *testing.T) {
	as := strings.Repeat("a", api.MaxText)
	for _, pattern := range []string{"(a*)*b|a", "(a|aa)*c|(a?){20}{20}{20}b|a", "b*", "(b?)" + strings.Repeat("{20}", 29), strings.Repeat("a?", 40) + strings.Repeat("b?", 19), strings.Repeat("(", 9) + "b?)" + strings.Repeat("{20})", 8) + "{20}"} {
		r := compiled(t, pattern, 0)
		n, end := 0, 0
		for spans := range r.All(as) {
			if spans[0].From < end || spans[0].To < spans[0].From || len(spans) != 1+r.Groups() {
				t.Fatalf("P10: %q: %v behind %d", pattern, spans, end)
			}
			n, end = n+1, spans[0].To
		}
		if n == 0 || end != api.MaxText {
			t.Errorf("P10: %q: %d matches, the last ends at %d", pattern, n, end)
		}
	}
}
