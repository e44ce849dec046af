package tree

// Set is a set of bytes, a bit for each: an array, so that to hand it on is to copy it.
type Set [4]uint64

// Between gives all bytes from the first to the last, both of them too.
func Between(first, last byte) Set {
	var s Set
	// An int, since a byte that is counted up would never come to lie behind 255.
	for b := int(first); b <= int(last); b++ {
		s[b/64] |= 1 << (b % 64)
	}
	return s
}

// With gives the bytes of both sets.
func (s Set) With(other Set) Set {
	for i := range s {
		s[i] |= other[i]
	}
	return s
}

// Others gives all bytes that are not of the set.
func (s Set) Others() Set {
	for i := range s {
		s[i] = ^s[i]
	}
	return s
}

// Folded gives the set with, for each of its letters, that letter as great and as small one.
func (s Set) Folded() Set {
	for small := byte('a'); small <= 'z'; small++ {
		great := small - 'a' + 'A'
		if s.Has(small) || s.Has(great) {
			s = s.With(Between(small, small)).With(Between(great, great))
		}
	}
	return s
}

// Has tells whether the byte is one of the set.
func (s Set) Has(b byte) bool { return s[b/64]>>(b%64)&1 == 1 }
