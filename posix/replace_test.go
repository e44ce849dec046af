package posix

import (
	"errors"
	"runtime"
	"strconv"
	"strings"
	"testing"

	"posix/api"
)

func TestPut(t *testing.T) {
	for _, c := range []struct {
		pattern string
		flags   api.Flags
		text    string
		with    string
		want    string
	}{
		{"[0-9]+", 0, "a12b3", "<>", "a<>b<>"}, {"a*", 0, "baac", "-", "-b-c-"}, {"a*", 0, "", "-", "-"}, {"a*", 0, "ab", "-", "-b-"}, {"x", 0, "abc", "y", "abc"}, {"x", 0, "", "y", ""}, {"^|$", 0, "ab", "-", "-ab-"}, {"^", api.Lines, "a\nb\n", "> ", "> a\n> b\n> "}, {"$", api.Lines, "a\nb", ";", "a;\nb;"}, {"^a", 0, "aa", "b", "ba"}, {"a", api.Fold, "aAb", "c", "ccb"}, {"aa", 0, "aaaaa", "b", "bba"}, {".", 0, "abc", "xyz", "xyzxyzxyz"}, {"abc", 0, "abc", "a", "a"}, {"(a)(b)", 0, "xabyab", "z", "xzyz"},
		// What is put in is not looked at again.
		{"a", 0, "aba", "aa", "aabaa"}, {"a*", 0, "b", "a", "aba"},
		// The empty text.
		{"b", 0, "abcb", "", "ac"}, {"a*", 0, "baac", "", "bc"}, {".*", 0, "abc", "", ""}, {"x", 0, "ab", "", "ab"},
		// It stands as it is, whatever it looks like.
		{"(a)", 0, "bab", `\1`, `b\1b`}, {"(a)", 0, "bab", "$1&\\0\\n%s", "b$1&\\0\\n%sb"}, {".", 0, "ab", ".*", ".*.*"}, {"a", 0, "a", "(a|", "(a|"}, {"a", 0, "ba", "[\\", "b[\\"}, {"a", 0, "\xffa\x00", "\x00\xff", "\xff\x00\xff\x00"},
	} {
		r := compiled(t, c.pattern, c.flags)
		if got, err := r.Put(c.text, c.with); err != nil || got != c.want {
			t.Errorf("P11: %q: Put(%q, %q) = %q, %v, want %q", c.pattern, c.text, c.with, got, err, c.want)
		}
		if got, err := r.Replace(c.text, func([]api.Span) string { return c.with }); err != nil || got != c.want {
			t.Errorf("P11: %q: Replace(%q) by %q = %q, %v, want %q", c.pattern, c.text, c.with, got, err, c.want)
		}
	}
}

// The function is called once for each match, from left to right, with what All tells of it; what it does to the list changes nothing.
func TestReplaceCalls(t *testing.T) {
	for _, c := range []struct{ pattern, text, want, calls string }{
		{"(a+)|b*", "aabbca", "<1><2>c<3>", "0-2, 0-2; 2-4, none; 5-6, 5-6"},
		{"a*", "baac", "<1>b<2>c<3>", "0-0; 1-3; 4-4"},
		{"x", "abc", "abc", ""},
		{"^", "", "<1>", "0-0"},
		{"(b)(c)?", "abcab", "a<1>a<2>", "1-3, 1-2, 2-3; 4-5, 4-5, none"},
	} {
		r := compiled(t, c.pattern, 0)
		var calls []string
		got, err := r.Replace(c.text, func(spans []api.Span) string {
			calls = append(calls, told(spans))
			spoil(spans)
			return "<" + strconv.Itoa(len(calls)) + ">"
		})
		if err != nil || got != c.want || strings.Join(calls, "; ") != c.calls {
			t.Errorf("P11: %q: Replace(%q) = %q, %v, want %q; calls %v, want %s", c.pattern, c.text, got, err, c.want, calls, c.calls)
		}
		if all := gone(r.All(c.text)); all != c.calls {
			t.Errorf("P11: %q in %q: All tells %s", c.pattern, c.text, all)
		}
	}
}

// Lists that the function keeps are its own.
func TestReplaceListsShareNothing(t *testing.T) {
	var kept [][]api.Span
	compiled(t, "(a)|b", 0).Replace("aba", func(spans []api.Span) string {
		for _, list := range kept {
			spoil(list)
		}
		kept = append(kept, spans)
		return ""
	})
	if toldAll(kept) != "77-78, 77-78; 77-78, 77-78; 2-3, 2-3" {
		t.Errorf("P2: lists of Replace: %s", toldAll(kept))
	}
}

// panicAt gives a function that panics at one of its calls, and how often it was called.
func panicAt(bad int, with any) (func([]api.Span) string, *int) {
	calls := new(int)
	return func([]api.Span) string {
		*calls++
		if *calls == bad {
			panic(with)
		}
		return "-"
	}, calls
}

func TestReplacePanics(t *testing.T) {
	r := compiled(t, "[0-9]", 0)
	for _, with := range []any{"a text", errors.New("an error"), api.ErrText, 0, false, nil} {
		for bad := 0; bad <= 4; bad++ {
			f, calls := panicAt(bad, with)
			s, err := r.Replace("1a2b3", f)
			switch panics := 1 <= bad && bad <= 3; {
			case panics && (s != "" || err != error(api.ErrCall) || *calls != bad):
				t.Errorf("P11: a panic with %v at call %d: %q, %v, %d calls", with, bad, s, err, *calls)
			case !panics && (s != "-a-b-" || err != nil || *calls != 3):
				t.Errorf("P11: no panic: %q, %v, %d calls", s, err, *calls)
			}
		}
		f, calls := panicAt(1, with)
		if s, err := r.Replace("abc", f); s != "abc" || err != nil || *calls != 0 {
			t.Errorf("P11: no match: %q, %v, %d calls", s, err, *calls)
		}
	}
}

// The language's own panics are panics, too; that of a function that is nil comes only when it is called.
func TestReplacePanicsOfTheLanguage(t *testing.T) {
	r := compiled(t, "a", 0)
	for _, f := range []func([]api.Span) string{
		nil,
		func(spans []api.Span) string { return strconv.Itoa(spans[1].From) },
		func(spans []api.Span) string { return strconv.Itoa(1 / (spans[0].From - spans[0].From)) },
		func([]api.Span) string { defer panic("a second one"); panic("a first one") },
	} {
		if s, err := r.Replace("ba", f); s != "" || err != error(api.ErrCall) {
			t.Errorf("P11: a function that panics: %q, %v", s, err)
		}
		if s, err := r.Replace("bb", f); s != "bb" || err != nil {
			t.Errorf("P11: a function that is not called: %q, %v", s, err)
		}
	}
}

// A function that gives up its whole goroutine does not panic; the call ends with it.
func TestReplaceGoexit(t *testing.T) {
	r := compiled(t, "a", 0)
	ended := make(chan bool)
	go func() {
		defer close(ended)
		r.Replace("aa", func([]api.Span) string { runtime.Goexit(); return "" })
		t.Error("Replace went on")
	}()
	<-ended
	if s, err := r.Put("aa", "b"); s != "bb" || err != nil {
		t.Errorf("P2: Put after it: %q, %v", s, err)
	}
}

// The function may use the same Regex.
func TestReplaceWithin(t *testing.T) {
	r := compiled(t, "a(b*)", 0)
	got, err := r.Replace("abbxab", func(spans []api.Span) string {
		inner, err := r.Put("ab"[:spans[1].To-spans[1].From], "!")
		if err != nil {
			t.Errorf("P11: Put within: %v", err)
		}
		_, err = r.Replace("a", func([]api.Span) string { panic("within") })
		if err != error(api.ErrCall) {
			t.Errorf("P11: Replace within: %v", err)
		}
		return "<" + inner + ">"
	})
	if got != "<!>x<!>" || err != nil {
		t.Errorf("P11: Replace around others: %q, %v", got, err)
	}
}

func TestReplaceSizes(t *testing.T) {
	r := compiled(t, "x|$", 0)
	full := strings.Repeat("x", api.MaxText)
	if s, err := r.Put(full, full); err != nil || s != strings.Repeat(full, api.MaxText) {
		t.Errorf("P11: Put in MaxText bytes: %d bytes, %v", len(s), err)
	}
	if s, err := r.Put(full, ""); err != nil || s != "" {
		t.Errorf("P11: Put of nothing in MaxText bytes: %q, %v", s, err)
	}
	if s, err := r.Replace(full, func([]api.Span) string { return "y" }); err != nil || s != strings.Repeat("y", api.MaxText) {
		t.Errorf("P11: Replace in MaxText bytes: %q, %v", s, err)
	}
	for _, text := range []string{full + "x", full + "y", full + full} {
		if s, err := r.Put(text, "y"); s != "" || err != error(api.ErrText) {
			t.Errorf("P11: Put in %d bytes: %q, %v", len(text), s, err)
		}
		// ErrText, though the function would panic.
		f, calls := panicAt(1, "a panic")
		if s, err := r.Replace(text, f); s != "" || err != error(api.ErrText) || *calls != 0 {
			t.Errorf("P11: Replace in %d bytes: %q, %v, %d calls", len(text), s, err, *calls)
		}
	}
	if s, err := r.Replace(full+"x", nil); s != "" || err != error(api.ErrText) {
		t.Errorf("P11: Replace in a long text without a function: %q, %v", s, err)
	}
}
