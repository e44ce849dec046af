package posix

import (
	"strings"
	"testing"

	"posix/api"
)

func TestQuoteOfEachByte(t *testing.T) {
	for b := range 256 {
		s := string([]byte{byte(b)})
		want := s
		if strings.Contains(`()[.^$\|*+?{`, s) {
			want = `\` + s
		}
		if got := Quote(s); got != want {
			t.Errorf("P5: Quote(%q) = %q, want %q", s, got, want)
		}
		if got := Quote("a" + s + s + "b"); got != "a"+want+want+"b" {
			t.Errorf("P5: Quote of %q within a text = %q", s, got)
		}
	}
}

func TestQuote(t *testing.T) {
	for _, c := range [][2]string{
		{"", ""}, {"abc", "abc"}, {"]}", "]}"}, {"a.b", `a\.b`}, {`\`, `\\`}, {`\.`, `\\\.`}, {"(a|b)*", `\(a\|b\)\*`}, {"x{2,3}", `x\{2,3}`}, {"[a-z]", `\[a-z]`}, {"\x00\n\xff\xc3", "\x00\n\xff\xc3"}, {"\u00e9$", "\u00e9\\$"}, {strings.Repeat("+", 1000), strings.Repeat(`\+`, 1000)},
	} {
		if got := Quote(c[0]); got != c[1] {
			t.Errorf("P5: Quote(%q) = %q, want %q", c[0], got, c[1])
		}
	}
}

// What Quote gives is a pattern, and has no groups, whatever text it is made of.
func TestQuoteCompiles(t *testing.T) {
	for b := range 256 {
		s := string([]byte{byte(b), 'a', byte(255 - b), byte(b)})
		r, err := Compile(Quote(s), api.Fold)
		if err != nil || r.Groups() != 0 {
			t.Errorf("P5: Compile(Quote(%q)): %v", s, err)
		}
	}
}
