package posix

import (
	"runtime"
	"slices"
	"strings"
	"sync"
	"testing"

	"posix/api"
)

type findMany struct {
	pattern string
	flags   api.Flags
	texts   []string
	edges   api.Edges
	want    string // as toldAll writes it
}

func TestFindMany(t *testing.T) {
	both := api.NotBegin | api.NotEnd
	for _, c := range []findMany{
		{"(a+)(b?)", 0, []string{"xaab", "", "bbb", "aaa", "ba"}, 0, "1-4, 1-3, 3-4; nil; nil; 0-3, 0-3, 3-3; 1-2, 1-2, 2-2"},
		{"a", 0, []string{"a"}, 0, "0-1"}, {"a", 0, []string{"b"}, 0, "nil"}, {"a", 0, []string{"", ""}, 0, "nil; nil"}, {"a*", 0, []string{"", "b", "aa"}, 0, "0-0; 0-0; 0-2"}, {"a", 0, []string{"xa", "xa", "xa"}, 0, "1-2; 1-2; 1-2"}, {"a", 0, nil, 0, ""}, {"a", 0, []string{}, 0, ""},
		{"(a)|(b)|(c)", 0, []string{"c", "b", "a", "d"}, 0, "0-1, none, none, 0-1; 0-1, none, 0-1, none; 0-1, 0-1, none, none; nil"},
		{"a", api.Fold, []string{"xA", "a", "b"}, 0, "1-2; 0-1; nil"},
		{"^a|a$", 0, []string{"aba", "ba", "ab"}, 0, "0-1; 1-2; 0-1"}, {"^a|a$", 0, []string{"aba", "ba", "ab"}, api.NotBegin, "2-3; 1-2; nil"}, {"^a|a$", 0, []string{"aba", "ba", "ab"}, api.NotEnd, "0-1; nil; 0-1"}, {"^a|a$", 0, []string{"aba", "ba", "ab"}, both, "nil; nil; nil"}, {"^a|a$", 0, []string{"aba", "ba", "ab"}, 252, "0-1; 1-2; 0-1"},
		{"^b$", api.Lines, []string{"a\nb\nc", "b", "b\n"}, both, "2-3; nil; nil"},
	} {
		r := compiled(t, c.pattern, c.flags)
		lists, err := r.FindMany(c.texts, c.edges)
		if err != nil || len(lists) != len(c.texts) || toldAll(lists) != c.want {
			t.Errorf("P12: %q, flags %d: FindMany(%q, %d) = %s, %v, want %s", c.pattern, c.flags, c.texts, c.edges, toldAll(lists), err, c.want)
			continue
		}
		for i, text := range c.texts {
			if one := found(t, r, text, c.edges); one != told(lists[i]) {
				t.Errorf("P12: %q: of %q Find tells %s, FindMany %s", c.pattern, text, one, told(lists[i]))
			}
		}
	}
}

func TestFindManySizes(t *testing.T) {
	r := compiled(t, "(x*)$", 0)
	full := strings.Repeat("x", api.MaxText)
	long := full + "x"
	most := slices.Repeat([]string{full}, api.MaxTexts)
	lists, err := r.FindMany(most, 0)
	if err != nil || toldAll(lists) != strings.TrimSuffix(strings.Repeat("0-300, 0-300; ", api.MaxTexts), "; ") {
		t.Errorf("P12: MaxTexts texts of MaxText bytes: %s, %v", toldAll(lists), err)
	}
	// ErrArg goes ahead of ErrText.
	for _, texts := range [][]string{make([]string, api.MaxTexts+1), append(slices.Clone(most), ""), append(slices.Clone(most), long), slices.Repeat([]string{long}, api.MaxTexts+1), make([]string, 1000)} {
		if lists, err := r.FindMany(texts, 0); lists != nil || err != error(api.ErrArg) {
			t.Errorf("P12: %d texts: %v, %v", len(texts), lists, err)
		}
	}
	for _, texts := range [][]string{{long}, {"x", long}, {long, "x"}, {"", long, ""}, {"x", "y", strings.Repeat("y", 1<<20)}, append(slices.Clone(most[1:]), long), append([]string{long}, most[1:]...)} {
		if lists, err := r.FindMany(texts, 0); lists != nil || err != error(api.ErrText) {
			t.Errorf("P12: a long text among %d: %v, %v", len(texts), lists, err)
		}
	}
}

// The list of texts is only read, and of its spare room nothing is even looked at.
func TestFindManyOnlyReads(t *testing.T) {
	r := compiled(t, "(a)", 0)
	room := slices.Repeat([]string{"xa", "b", strings.Repeat("a", api.MaxText+1)}, 10)
	before := slices.Clone(room)
	for range 3 {
		lists, err := r.FindMany(room[:2], 0)
		if err != nil || toldAll(lists) != "1-2, 1-2; nil" {
			t.Errorf("P2: FindMany of a list with spare room: %s, %v", toldAll(lists), err)
		}
		if _, err := r.FindMany(room[:3], 0); err != error(api.ErrText) {
			t.Errorf("P12: FindMany with a long text: %v", err)
		}
		if _, err := r.FindMany(room, 0); err != error(api.ErrArg) {
			t.Errorf("P12: FindMany of many: %v", err)
		}
		if !slices.Equal(room, before) {
			t.Fatal("P2: FindMany wrote into its list")
		}
	}
}

// What came out stays as it is when the list that was handed in changes, and the other way round.
func TestFindManyKeepsNothing(t *testing.T) {
	r := compiled(t, "(a)|b", 0)
	texts := []string{"xa", "b", "c", "xa"}
	const want = "1-2, 1-2; 0-1, none; nil; 1-2, 1-2"
	one, _ := r.FindMany(texts, 0)
	other, _ := r.FindMany(texts, 0)
	clear(texts)
	spoil(one[0])
	if told(one[3]) != "1-2, 1-2" || toldAll(other) != want {
		t.Errorf("P2: writing into one list changed others: %s, and %s", toldAll(one), toldAll(other))
	}
	clear(one[:cap(one)])
	if toldAll(other) != want {
		t.Errorf("P2: writing into one answer changed another: %s", toldAll(other))
	}
}

func TestFindManyGoroutinesHaveEnded(t *testing.T) {
	before := runtime.NumGoroutine()
	r := compiled(t, "(a|b)*c", 0)
	for range 100 {
		r.FindMany(slices.Repeat([]string{"abac", "x"}, api.MaxTexts/2), 0)
		r.FindMany([]string{"a", strings.Repeat("a", api.MaxText+1)}, 0)
		r.FindMany(make([]string, api.MaxTexts+1), 0)
	}
	checkGoroutines(t, before)
}

// The first match of a Regex may be any call's: its answer is the same, and so are those behind it.
func TestFirstMatchByAnyCall(t *testing.T) {
	type call struct {
		ask  func(r *Regex) string
		want string
	}
	calls := []call{
		{func(r *Regex) string { l, _ := r.FindMany([]string{"xab", "b", "AC", ""}, 0); return toldAll(l) }, "1-3, 1-2, 2-3; nil; 0-1, 0-1, none; nil"},
		{func(r *Regex) string { l, _ := r.FindMany([]string{"a", "xa"}, api.NotEnd); return toldAll(l) }, "0-1, 0-1, none; 1-2, 1-2, none"},
		{func(r *Regex) string { return gone(r.All("abca")) }, "0-2, 0-1, 1-2; 3-4, 3-4, none"},
		{func(r *Regex) string { l, _ := r.FindAll("aab", 1); return toldAll(l) }, "0-1, 0-1, none"},
		{func(r *Regex) string { s, _ := r.Put("xaby", "-"); return s }, "x-y"},
		{func(r *Regex) string {
			_, err := r.Replace("ab", func([]api.Span) string { panic("here") })
			return err.Error()
		}, api.ErrCall.Error()},
		{func(r *Regex) string { _, err := r.FindMany(make([]string, 17), 0); return err.Error() }, api.ErrArg.Error()},
		{func(r *Regex) string { l, _ := r.Find("xab", 0, 2); return told(l) }, "1-3, 1-2"},
	}
	for first := range calls {
		r := compiled(t, "(a)(b)?", api.Fold)
		for k := range 3 * len(calls) {
			c := calls[(first+k*5)%len(calls)]
			if got := c.ask(r); got != c.want {
				t.Errorf("P2: call %d of a Regex that call %d was the first of: %s, want %s", (first+k*5)%len(calls), first, got, c.want)
			}
		}
	}
}

// Several calls at once, none of which was the first.
func TestFindManyAtOnce(t *testing.T) {
	for range 20 {
		r := compiled(t, "(a|ab)(c|bcd)(d*)", api.Fold)
		got := make([]string, 8)
		var all sync.WaitGroup
		for i := range got {
			all.Go(func() {
				if i%2 == 0 {
					lists, _ := r.FindMany([]string{"aBcD", "x", "xaBcD"}, 0)
					got[i] = toldAll(lists)
				} else {
					got[i] = gone(r.All("aBcD"))
				}
			})
		}
		all.Wait()
		for i, s := range got {
			want := "0-4, 0-2, 2-3, 3-4"
			if i%2 == 0 {
				want += "; nil; 1-5, 1-3, 3-4, 4-5"
			}
			if s != want {
				t.Errorf("P2: at once with others: %s, want %s", s, want)
			}
		}
	}
}

// A Regex that Compile did not make matches nothing, in several texts neither.
func TestSeveralOfNoRegex(t *testing.T) {
	long := strings.Repeat("a", api.MaxText+1)
	for _, r := range []*Regex{nil, new(Regex)} {
		for range r.All("a") {
			t.Error("P1: All of none has a match")
		}
		if l, err := r.FindAll("a", -1); len(l) != 0 || err != nil {
			t.Errorf("P1: FindAll of none: %v, %v", l, err)
		}
		if s, err := r.Put("a", "b"); s != "a" || err != nil {
			t.Errorf("P1: Put of none: %q, %v", s, err)
		}
		if s, err := r.Replace("a", nil); s != "a" || err != nil {
			t.Errorf("P1: Replace of none: %q, %v", s, err)
		}
		if l, err := r.FindMany([]string{"a", ""}, 0); toldAll(l) != "nil; nil" || err != nil {
			t.Errorf("P1: FindMany of none: %v, %v", l, err)
		}
		if _, err := r.FindMany([]string{long}, 0); err != error(api.ErrText) {
			t.Errorf("P12: FindMany of none, a long text: %v", err)
		}
		if _, err := r.Put(long, ""); err != error(api.ErrText) {
			t.Errorf("P11: Put of none, a long text: %v", err)
		}
	}
}
