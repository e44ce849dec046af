package tree

import "testing"

func TestSetBetween(t *testing.T) {
	for _, c := range [][2]int{{0, 0}, {0, 255}, {255, 255}, {63, 64}, {'a', 'z'}, {127, 128}, {200, 255}, {9, 8}} {
		s := Between(byte(c[0]), byte(c[1]))
		for b := range 256 {
			if want := c[0] <= b && b <= c[1]; s.Has(byte(b)) != want {
				t.Errorf("Between(%d, %d).Has(%d) = %v", c[0], c[1], b, !want)
			}
		}
	}
}

func TestSetIsAValue(t *testing.T) {
	one, other := Between('a', 'b'), Between('b', 'c')
	if both := one.With(other); both != Between('a', 'c') {
		t.Errorf("With gives %v", both)
	}
	if one != Between('a', 'b') || other != Between('b', 'c') {
		t.Error("With changed a set that it was handed")
	}
}

func TestSetOthers(t *testing.T) {
	s := Between('b', 200)
	others := s.Others()
	for b := range 256 {
		if others.Has(byte(b)) == s.Has(byte(b)) {
			t.Errorf("byte %d is of both, or of none", b)
		}
	}
	if s != Between('b', 200) || others.Others() != s {
		t.Error("Others changed the set, or does not turn back")
	}
}

func TestSetFolded(t *testing.T) {
	s := Between('x', '{').With(Between('@', 'B'))
	want := s.With(Between('X', 'Z')).With(Between('a', 'b'))
	if got := s.Folded(); got != want {
		t.Errorf("Folded gives %v, want %v", got, want)
	}
	if s != Between('x', '{').With(Between('@', 'B')) {
		t.Error("Folded changed the set")
	}
	none := Between(0, '@').With(Between('[', '`')).With(Between('{', 255))
	if none.Folded() != none {
		t.Error("Folded changed what is no letter")
	}
	if small := Between('a', 'z'); small.Folded() != Between('A', 'Z').Folded() || small.Folded() != small.With(Between('A', 'Z')) {
		t.Error("Folded leaves out a letter")
	}
}

func TestGroupsAreCounted(t *testing.T) {
	a := NewBytes(Between('a', 'a'), false)
	group := NewGroup(1, NewGroup(2, a))
	for _, c := range []struct {
		name string
		part Part
		want int
	}{
		{"bytes", a, 0},
		{"edge", NewEdge(true), 0},
		{"group in group", group, 2},
		{"repeat", NewRepeat(0, Endless, group), 2},
		{"branch", NewBranch([]Part{group, a, NewGroup(3, a)}), 3},
		{"choice", NewChoice([]Part{NewBranch([]Part{a}), NewBranch([]Part{group})}), 2},
	} {
		if n := c.part.Groups(); n != c.want {
			t.Errorf("%s: %d groups, want %d", c.name, n, c.want)
		}
	}
}
