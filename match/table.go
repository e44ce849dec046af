package match

// table tells, for each place of a text, up to where something can take the text from there on. Who gets one only reads it.
type table []places

// then is the table of this and, behind it, the other.
func (t table) then(other table) table {
	both := make(table, len(t))
	for from, ends := range t {
		var all places
		for at := range ends.each {
			all.add(&other[at])
		}
		both[from] = all
	}
	return both
}

// or is the table of this or the other.
func (t table) or(other table) table {
	either := make(table, len(t))
	for from, ends := range t {
		ends.add(&other[from])
		either[from] = ends
	}
	return either
}

// often is the table of this, any number of times, at least one byte each time.
func (t table) often() table {
	all := make(table, len(t))
	// From the end on: what is asked for lies behind and is there already.
	for from := len(t) - 1; from >= 0; from-- {
		all[from] = onlyPlace(from)
		for at := range t[from].each {
			// What can be got at from a place that is in the set is in it, too.
			if !all[from].has(at) {
				all[from].add(&all[at])
			}
		}
	}
	return all
}

// farthest tells the last place up to which first can take the text so that rest takes it from there on up to to. There must be one.
func farthest(first, rest table, from, to int) int {
	at := to
	for at > from && !(first[from].has(at) && rest[at].has(to)) {
		at--
	}
	return at
}
