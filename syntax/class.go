package syntax

import "posix/tree"

// class is a name and the bytes that it stands for: pairs, each the first and the last byte of a row of bytes.
type class struct {
	name, pairs string
}

var classes = [...]class{
	{"alnum", "09AZaz"},
	{"alpha", "AZaz"},
	{"blank", "\t\t  "},
	{"cntrl", "\x00\x1f\x7f\x7f"},
	{"digit", "09"},
	{"graph", "!~"},
	{"lower", "az"},
	{"print", " ~"},
	{"punct", "!/:@[`{~"},
	{"space", "\t\r  "},
	{"upper", "AZ"},
	{"xdigit", "09AFaf"},
}

// classSet gives the bytes of the class of that name, if there is one.
func classSet(name string) (tree.Set, bool) {
	for _, c := range classes {
		if c.name == name {
			return setOfPairs(c.pairs), true
		}
	}
	return tree.Set{}, false
}

func setOfPairs(pairs string) tree.Set {
	var s tree.Set
	for i := 0; i+1 < len(pairs); i += 2 {
		s = s.With(tree.Between(pairs[i], pairs[i+1]))
	}
	return s
}
