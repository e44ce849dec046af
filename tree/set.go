package tree

// Set is a set of bytes, a bit for each: an array, so that to hand it on is to copy it.
type Set [4]uint64

// Between gives all bytes from the first to the last, both of them too.
func Between(first, last byte) Set {
	var s Set
	// An int, since a byte that is counted up would never come to lie behind 255.
	for b := int(first); b <= int(last); b++ {
		s[b/64] |= 1 << (b % 64)
	}
	return s
}

// With gives the bytes of both sets.
func (s Set) With(other Set) Set {
	for i := range s {
		s[i] |= other[i]
	}
	return s
}

// Has tells whether the byte is one of the set.
func (s Set) Has(b byte) bool { return s[b/64]>>(b%64)&1 == 1 }
