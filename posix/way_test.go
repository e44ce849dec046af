package posix

import "testing"

// Of a branch the first piece takes as much as it can, then the second.
func TestWayOfPieces(t *testing.T) {
	checkFinds(t, "P7", plainRows([][3]string{
		{"(a*)(a*)", "aa", "0-2, 0-2, 2-2"}, {"(a?)(a*)", "aaa", "0-3, 0-1, 1-3"}, {"(a*)(a+)", "aaa", "0-3, 0-2, 2-3"}, {"(a+)(a+)(a+)", "aaaaa", "0-5, 0-3, 3-4, 4-5"}, {"(a|ab)(c|bcd)(d*)", "abcd", "0-4, 0-2, 2-3, 3-4"}, {"(a*)(b|abc)(c*)", "abc", "0-3, 0-1, 1-2, 2-3"}, {"(a*)(a|aa)", "aaaa", "0-4, 0-3, 3-4"}, {"(aa|a)(a|aa)", "aaa", "0-3, 0-2, 2-3"}, {"(a|aa)(aa|a)", "aaa", "0-3, 0-2, 2-3"}, {"(a?)(ab)?", "ab", "0-2, 0-0, 0-2"}, {"(a?)(ab)?(b?)", "ab", "0-2, 0-1, none, 1-2"}, {"(wee|week)(knights|night)", "weeknights", "0-10, 0-3, 3-10"}, {"(week|wee)(night|knights)", "weeknights", "0-10, 0-3, 3-10"}, {"(a*)(b{0,1})(b{1,})b{3}", "bbbb", "0-4, 0-0, 0-0, 0-1"}, {"(a*)(b{0,1})(b{1,})b{3}", "bbbbb", "0-5, 0-0, 0-1, 1-2"}, {"(..)*(...)*", "abcde", "0-5, 0-2, 2-5"}, {"(.*)(.*)$", "ab", "0-2, 0-2, 2-2"}, {"a{1,2}(a*)", "aaa", "0-3, 2-3"}, {"(a{1,2}){2}(a*)", "aaaaa", "0-5, 2-4, 4-5"},
		// The whole is as long as it can be, though its first piece then takes less.
		{"(a|ab)(bcd|c)?", "abcd", "0-4, 0-1, 1-4"}, {"(aa?)(aab)?", "aaab", "0-4, 0-1, 1-4"},
	}))
}

// Of several branches it is the first that takes it, whatever the groups in it take.
func TestWayOfBranches(t *testing.T) {
	checkFinds(t, "P7", plainRows([][3]string{
		{"(a)|(a)", "a", "0-1, 0-1, none"}, {"(.)|(a)", "a", "0-1, 0-1, none"}, {"(a)b|a(b)", "ab", "0-2, 0-1, none"}, {"a(b)|(a)b", "ab", "0-2, 1-2, none"}, {"(a)|(ab)|(a)(b)", "ab", "0-2, none, 0-2, none, none"}, {"(a)(b)|(ab)", "ab", "0-2, 0-1, 1-2, none"}, {"(a)*b|(a)*c", "aac", "0-3, none, 1-2"}, {"(a?)|(b)", "b", "0-1, none, 0-1"}, {"((a)|(.))((.)|(b))", "ab", "0-2, 0-1, 0-1, none, 1-2, 1-2, none"}, {"(a*|(b))(a|(b))", "bb", "0-2, 0-1, 0-1, 1-2, 1-2"}, {"x*|(x)", "x", "0-1, none"}, {"(x)|x*", "x", "0-1, 0-1"}, {"((a)(b)|(a.))", "ab", "0-2, 0-2, 0-1, 1-2, none"}, {"(^)|($)", "", "0-0, 0-0, none"}, {"($)|(^)", "", "0-0, 0-0, none"},
		{"(a|ab|c|bcd)(d*)", "abcd", "0-2, 0-2, 2-2"},
	}))
}

// Of a repeat the first copy takes as much as it can, then the second.
func TestWayOfCopies(t *testing.T) {
	checkFinds(t, "P7", plainRows([][3]string{
		{"(a|ab|c|bcd)*", "abcd", "0-4, 1-4"}, {"(a|b|c|ab|bc)+", "abc", "0-3, 2-3"}, {"(a|aa){2}", "aaa", "0-3, 2-3"}, {"(aa|a){2}", "aaa", "0-3, 2-3"}, {"(a|aa)*", "aaa", "0-3, 2-3"}, {"(a|aa|aaa){2}", "aaaa", "0-4, 3-4"}, {"(a|aa|aaa){3}", "aaaa", "0-4, 3-4"}, {"(a{1,3}){2}", "aaaa", "0-4, 3-4"}, {"(a{2,3})*", "aaaaaaa", "0-7, 5-7"}, {"(a{2,3})*", "aaaa", "0-4, 2-4"}, {"(ab|a|b)*", "aab", "0-3, 1-3"}, {"(a+|b+|c+)*", "aabbcc", "0-6, 4-6"}, {"(aab|a|ab)+", "aabab", "0-5, 3-5"}, {"(a|ab)*(b?)", "ab", "0-2, 0-2, 2-2"}, {"(ab|a)*(b?)", "aab", "0-3, 1-3, 3-3"}, {"(a*){2}(x)", "ax", "0-2, 1-1, 1-2"}, {"(a{0,2}){3}", "aaa", "0-3, 3-3"}, {"(a{0,2}){2,3}", "aaaaa", "0-5, 4-5"},
	}))
}

// When all is taken and there are m copies, there is no further one; till then there are, empty ones.
func TestWayStops(t *testing.T) {
	checkFinds(t, "P7", plainRows([][3]string{
		{"(a|$)*", "a", "0-1, 0-1"}, {"(a|$)+", "a", "0-1, 0-1"}, {"(a|$){1,3}", "a", "0-1, 0-1"}, {"(a|$){2}", "a", "0-1, 1-1"}, {"(a|$){2,}", "a", "0-1, 1-1"}, {"((a)|($)){2}", "a", "0-1, 1-1, 0-1, 1-1"}, {"((a)|($)){1,2}", "a", "0-1, 0-1, 0-1, none"}, {"((a*)|b){3}", "ab", "0-2, 2-2, 2-2"}, {"(a*)+b", "aab", "0-3, 0-2"}, {"(a*){2}b", "aab", "0-3, 2-2"},
	}))
}

// A group's span is what it took last; it is kept when a later copy of what is around it does not go through it.
func TestLastSpanOfGroups(t *testing.T) {
	checkFinds(t, "P7", plainRows([][3]string{
		{"(a|b)*", "abba", "0-4, 3-4"}, {"((a)|b)*", "ab", "0-2, 1-2, 0-1"}, {"((a)|(b))*", "aba", "0-3, 2-3, 2-3, 1-2"}, {"((a)|(b)|c)*", "abc", "0-3, 2-3, 0-1, 1-2"}, {"((a)*)*", "aa", "0-2, 0-2, 1-2"}, {"((a)?b)*", "abb", "0-3, 2-3, 0-1"}, {"((a)|(b)){2}", "ba", "0-2, 1-2, 1-2, 0-1"}, {"((a|b)(c|d))*", "acbd", "0-4, 2-4, 2-3, 3-4"}, {"((a?)(b?))*", "ba", "0-2, 1-2, 1-2, 2-2"}, {"(((a)|b)|c)*", "abc", "0-3, 2-3, 1-2, 0-1"}, {"((a*)b)*", "aabb", "0-4, 3-4, 3-3"}, {"(x(a)?)*", "xaxx", "0-4, 3-4, 1-2"}, {"((ab)|a|b){2}", "abb", "0-3, 2-3, 0-2"}, {"(a(b)?)+", "aba", "0-3, 2-3, 1-2"}, {"((a)(b)?)*", "aba", "0-3, 2-3, 2-3, 1-2"},
	}))
}

func TestGroupsNotGoneThrough(t *testing.T) {
	checkFinds(t, "P7", plainRows([][3]string{
		{"(a)(b)?", "ac", "0-1, 0-1, none"}, {"(a)|b", "b", "0-1, none"}, {"(a)*b", "b", "0-1, none"}, {"(a){0}b", "b", "0-1, none"}, {"((a)|b)c", "bc", "0-2, 0-1, none"}, {"(a|b)?(b)?", "b", "0-1, 0-1, none"}, {"((a*)c)?b", "b", "0-1, none, none"}, {"(a*)b", "b", "0-1, 0-0"}, {"(^)b", "b", "0-1, 0-0"}, {"((a)*)b", "b", "0-1, 0-0, none"}, {"(((((((((a)))))))))|b", "b", "0-1, none, none, none, none, none, none, none, none, none"},
	}))
}
