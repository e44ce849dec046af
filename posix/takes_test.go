package posix

import (
	"strings"
	"testing"

	"posix/api"
)

func isLetter(b byte) bool { return 'a' <= b && b <= 'z' || 'A' <= b && b <= 'Z' }

// What each atom takes of all bytes, under all flags: bytes are its own bytes, others says that it takes all but these.
func TestAtomsTakeBytes(t *testing.T) {
	const digits, small, great = "0123456789", "abcdefghijklmnopqrstuvwxyz", "ABCDEFGHIJKLMNOPQRSTUVWXYZ"
	for _, c := range []struct {
		pattern, bytes string
		others         bool
	}{
		{"a", "a", false}, {"Z", "Z", false}, {"@", "@", false}, {"`", "`", false}, {`\[`, "[", false}, {`\{`, "{", false}, {`\.`, ".", false}, {`\]`, "]", false}, {"0", "0", false}, {"\n", "\n", false}, {"\x00", "\x00", false}, {"\xe9", "\xe9", false}, {"\xff", "\xff", false},
		{".", "", true},
		{"[a]", "a", false}, {"[aZ0]", "aZ0", false}, {"[@`{]", "@`{", false}, {"[Y-b]", "YZ[\\]^_`ab", false}, {"[\n]", "\n", false}, {"[\xc9-\xca]", "\xc9\xca", false}, {"[[:digit:]]", digits, false}, {"[[:upper:]]", great, false}, {"[[:lower:]]", small, false}, {"[[:alpha:]_]", small + great + "_", false}, {"[[:space:]]", "\t\n\v\f\r ", false}, {"[[:xdigit:]]", digits + "abcdefABCDEF", false},
		{"[^a]", "a", true}, {"[^aZ0]", "aZ0", true}, {"[^\n]", "\n", true}, {"[^@-C]", "@ABC", true}, {"[^[:upper:]]", great, true}, {"[^[:lower:][:digit:]]", small + digits, true}, {"[^[:space:]]", "\t\n\v\f\r ", true}, {"[^\xe9]", "\xe9", true},
	} {
		for f := range api.Flags(4) {
			r := compiled(t, c.pattern, f)
			for n := range 256 {
				b := byte(n)
				want := strings.IndexByte(c.bytes, b) >= 0
				if f&api.Fold != 0 && isLetter(b) {
					want = want || strings.IndexByte(c.bytes, b^' ') >= 0
				}
				if c.others {
					want = !want && !(f&api.Lines != 0 && b == 10)
				}
				if ok, err := r.Match(string([]byte{b}), 0); err != nil || ok != want {
					t.Errorf("P6: %q, flags %d, byte %d: %v, %v", c.pattern, f, b, ok, err)
				}
			}
		}
	}
}

func TestAtomsTakeOneByte(t *testing.T) {
	checkFinds(t, "P6", plainRows([][3]string{
		{"a", "", "nil"}, {"a", "aa", "0-1"}, {".", "", "nil"}, {".", "ab", "0-1"}, {"[ab]", "", "nil"}, {"[ab]", "ab", "0-1"}, {"[^a]", "", "nil"}, {"[^a]", "bb", "0-1"}, {".", "\u00e9", "0-1"}, {"..", "\u00e9", "0-2"}, {"\u00e9", "x\u00e9", "1-3"}, {"[\u00e9]", "\u00e9", "0-1"}, {"\u00e9?", "\xc3", "0-1"},
	}))
}

func TestFold(t *testing.T) {
	checkFinds(t, "P6", []find{
		{"aBc", api.Fold, "xAbC", 0, "1-4"}, {"aBc", 0, "xAbC", 0, "nil"}, {"aBc", api.Lines, "xAbC", 0, "nil"}, {"[a-c]+", api.Fold, "CABd", 0, "0-3"}, {"[^b-y]+", api.Fold, "BYaAzZ1", 0, "2-7"}, {"(a|b)*", api.Fold, "AbBa", 0, "0-4, 3-4"}, {`\(A\)`, api.Fold, "(a)", 0, "0-3"}, {"k", api.Fold, "\u212a", 0, "nil"}, {"\u00e9", api.Fold, "\u00c9", 0, "nil"}, {"a", 4, "A", 0, "nil"}, {"a", 255, "A", 0, "0-1"}, {"a", 253, "A", 0, "0-1"}, {"a", 254, "A", 0, "nil"},
	})
}

func TestEdges(t *testing.T) {
	both := api.NotBegin | api.NotEnd
	checkFinds(t, "P6", []find{
		{"^", 0, "ab", 0, "0-0"}, {"^", 0, "ab", api.NotBegin, "nil"}, {"^", 0, "ab", api.NotEnd, "0-0"}, {"^a", 0, "ba", 0, "nil"}, {"a^", 0, "a", 0, "nil"}, {"^^a", 0, "a", 0, "0-1"}, {"(^|b)a", 0, "ba", 0, "0-2, 0-1"}, {"(^|b)a", 0, "ba", api.NotBegin, "0-2, 0-1"}, {"(^|b)a", 0, "ab", api.NotBegin, "nil"}, {"(^|b)a", 0, "ab", api.NotEnd, "0-1, 0-0"},
		{"$", 0, "ab", 0, "2-2"}, {"$", 0, "ab", api.NotEnd, "nil"}, {"$", 0, "ab", api.NotBegin, "2-2"}, {"a$", 0, "ab", 0, "nil"}, {"$b", 0, "ab", 0, "nil"}, {"b$$", 0, "ab", 0, "1-2"}, {"a(b|$)", 0, "a", 0, "0-1, 1-1"}, {"a(b|$)", 0, "a", api.NotEnd, "nil"},
		{"^$", 0, "", 0, "0-0"}, {"$^", 0, "", 0, "0-0"}, {"^$", 0, "", api.NotBegin, "nil"}, {"^$", 0, "", api.NotEnd, "nil"}, {"^$", 0, "", both, "nil"}, {"^$", 0, "", 252, "0-0"}, {"^$", 0, "", 253, "nil"}, {"^$", 0, "", 254, "nil"}, {"^a$", 0, "a", 252, "0-1"},
		{"^", 0, "\n", api.NotBegin, "nil"}, {"^b", 0, "a\nb", 0, "nil"}, {"a$", 0, "a\nb", 0, "nil"}, {"^\n$", 0, "\n", 0, "0-1"}, {"a$", 0, "a\n", 0, "nil"},
		{`\^`, 0, "^", api.NotBegin, "0-1"}, {"[$^]", 0, "a$", api.NotEnd, "1-2"},
	})
}

func TestEdgesOfLines(t *testing.T) {
	both := api.NotBegin | api.NotEnd
	checkFinds(t, "P6", []find{
		{"^b$", api.Lines, "a\nb\nc", 0, "2-3"}, {"^b$", api.Lines, "a\nb\nc", both, "2-3"}, {"^b", api.Lines, "a\nb", 0, "2-3"}, {"a$", api.Lines, "a\nb", api.NotEnd, "0-1"}, {"b$", api.Lines, "a\nb", api.NotEnd, "nil"}, {"^a", api.Lines, "a\nb", api.NotBegin, "nil"}, {"^", api.Lines, "a\nb", api.NotBegin, "2-2"}, {"$", api.Lines, "a\n", api.NotEnd, "1-1"}, {"$", api.Lines, "\n", 0, "0-0"}, {"^$", api.Lines, "a\n", 0, "2-2"}, {"^$", api.Lines, "a\n", api.NotEnd, "nil"}, {"^$", api.Lines, "\na", api.NotBegin, "nil"}, {"^$", api.Lines, "\na", 0, "0-0"}, {"^$", api.Lines, "\n\n", both, "1-1"}, {"a$\n^b", api.Lines, "a\nb", both, "0-3"}, {"a^b", api.Lines, "a\nb", 0, "nil"}, {"^", api.Lines, "a\rb", api.NotBegin, "nil"},
		{".*", api.Lines, "ab\ncd", 0, "0-2"}, {".*", 0, "ab\ncd", 0, "0-5"}, {"[^a]+", api.Lines, "abb\nb", 0, "1-3"}, {"[^a]+", 0, "abb\nb", 0, "1-5"}, {"(.|\n)*", api.Lines, "ab\ncd", 0, "0-5, 4-5"}, {"[[:space:]]", api.Lines, "a\nb", 0, "1-2"}, {"[\n]b", api.Lines, "a\nb", 0, "1-3"}, {"^.$", 255, "ab\nC\n", 0, "3-4"},
		{"^B$", api.Lines | api.Fold, "a\nb\nc", 0, "2-3"},
	})
}

func TestKindsOfRepeats(t *testing.T) {
	as := strings.Repeat("a", 25)
	checkFinds(t, "P6", plainRows([][3]string{
		{"ba*", "ab", "1-2"}, {"ba*", "abaac", "1-4"}, {"ba+", "bbaac", "1-4"}, {"ba+", "b", "nil"}, {"ba?", "b", "0-1"}, {"ba?", "baa", "0-2"},
		{"ba{0}", "baa", "0-1"}, {"a{0}", "aa", "0-0"}, {"(a){0}b", "ab", "1-2, none"}, {"a{1}", "aa", "0-1"}, {"ba{2}", "baaa", "0-3"}, {"ba{2}", "ba", "nil"}, {"ba{2,}", "ba", "nil"}, {"ba{2,}", "baaaaa", "0-6"}, {"ba{0,}", "b", "0-1"}, {"ba{0,0}", "ba", "0-1"}, {"ba{0,2}", "baaa", "0-3"}, {"ba{2,3}", "ba", "nil"}, {"ba{2,3}", "baa", "0-3"}, {"ba{2,3}", "baaaa", "0-4"}, {"^a{20}$", as[:20], "0-20"}, {"^a{20}$", as[:19], "nil"}, {"^a{20}$", as[:21], "nil"}, {"a{19,20}", as, "0-20"}, {"a{20,}", as, "0-25"}, {"a{20,}", as[:19], "nil"},
		{"ab*", "abab", "0-2"}, {"(ab)*", "ababa", "0-4, 2-4"}, {"[ab]{3}", "cabac", "1-4"}, {".{2}", "abc", "0-2"}, {`\*{2}`, "a**", "1-3"}, {"^*a", "ba", "1-2"}, {"^+a", "ba", "nil"}, {"$?a", "a", "0-1"}, {"(^a){2}", "aa", "nil"}, {"(^){2}a", "a", "0-1, 0-0"}, {"a(^){0,2}", "a", "0-1, none"},
	}))
}

// The first m copies may be empty; those behind them take at least one byte each.
func TestEmptyCopies(t *testing.T) {
	checkFinds(t, "P6", plainRows([][3]string{
		{"(a*)*", "", "0-0, none"}, {"(a*)+", "", "0-0, 0-0"}, {"(a*)?", "b", "0-0, none"}, {"(a*){0,5}", "b", "0-0, none"}, {"(a*){1,5}", "b", "0-0, 0-0"}, {"(a*){2}", "b", "0-0, 0-0"}, {"(a*){2}", "ab", "0-1, 1-1"}, {"(a*){1,2}", "ab", "0-1, 0-1"}, {"(a*){2,}", "aa", "0-2, 2-2"}, {"(a*)*", "aa", "0-2, 0-2"}, {"(a?){3}", "aa", "0-2, 2-2"}, {"(a?){3}", "aaa", "0-3, 2-3"}, {"(a?){2,3}", "a", "0-1, 1-1"}, {"(a?){1,3}", "aa", "0-2, 1-2"}, {"(a?)*", "aa", "0-2, 1-2"}, {"(a|b*)*", "bba", "0-3, 2-3"}, {"(a*|b)*", "ab", "0-2, 1-2"}, {"(a*|b){3}", "ab", "0-2, 2-2"}, {"(^|a){3}", "aa", "0-2, 1-2"}, {"(^|a){3}b", "aab", "0-3, 1-2"}, {"($|a){3}", "a", "0-1, 1-1"}, {"(^){3}", "a", "0-0, 0-0"}, {"(^)*", "a", "0-0, none"}, {"(^)+", "a", "0-0, 0-0"}, {"(a|$)*b?", "aa", "0-2, 1-2"},
	}))
}

func TestRepeatsOfRepeats(t *testing.T) {
	as := strings.Repeat("a", 30)
	checkFinds(t, "P6", plainRows([][3]string{
		{"a**", "baa", "0-0"}, {"a**", "aab", "0-2"}, {"a+*", "aab", "0-2"}, {"a{2}*", "aaaaa", "0-4"}, {"a{2}{3}", as, "0-6"}, {"a{2}{3}", as[:5], "nil"}, {"a{2,3}{2}", as[:7], "0-6"}, {"a{2,3}{2}", as[:4], "0-4"}, {"^a{2,3}{2}$", as[:5], "0-5"}, {"^a{3}{0,2}$", as[:5], "nil"}, {"^a{3}{0,2}$", as[:6], "0-6"}, {"a?{20}{2}", as, "0-30"}, {"a?{3}{2}", as, "0-6"}, {"a{0}{20}", "a", "0-0"}, {"a{0}+", "a", "0-0"}, {"a{2}{0}", "aa", "0-0"}, {"a*{2}b", "aab", "0-3"}, {"ba{2}+", "baaa", "0-3"}, {"(a|b){2}*", "ababa", "0-4, 3-4"}, {"(a{2}){2}*", as[:9], "0-8, 6-8"}, {"(a)*?", "aa", "0-2, 1-2"}, {"(a)?*", "aa", "0-2, 1-2"}, {"(a?)+*", "b", "0-0, none"}, {"(a?)*+", "b", "0-0, none"}, {"(a?)++", "b", "0-0, 0-0"}, {"(a?){2}+", "a", "0-1, 1-1"},
	}))
}

func TestBranches(t *testing.T) {
	checkFinds(t, "P6", plainRows([][3]string{
		{"abc", "xabcx", "1-4"}, {"abc", "ab", "nil"}, {"ab|cd|ef", "xcdef", "1-3"}, {"ab|cd", "ad", "nil"}, {"a(b|c)d", "abd", "0-3, 1-2"}, {"a(b|c)d", "acd", "0-3, 1-2"}, {"a(b|c)d", "abcd", "nil"}, {"a|b*c", "bbc", "0-3"}, {"(a|b)(c|d)", "bc", "0-2, 0-1, 1-2"},
	}))
}
