package match

import (
	"slices"
	"testing"

	"posix/api"
)

func placesOf(all ...int) places {
	var p places
	for _, at := range all {
		one := onlyPlace(at)
		p.add(&one)
	}
	return p
}

func TestPlaces(t *testing.T) {
	for _, all := range [][]int{nil, {0}, {63}, {64}, {api.MaxText}, {0, api.MaxText}, {1, 63, 64, 65, 127, 128, 191, 192, 255, 256, 299, 300}} {
		p := placesOf(all...)
		if got := slices.Collect(p.each); !slices.Equal(got, all) {
			t.Errorf("each of %v gives %v", all, got)
		}
		for at := range api.MaxText + 1 {
			if p.has(at) != slices.Contains(all, at) {
				t.Errorf("%v has %d: %v", all, at, p.has(at))
			}
		}
		if last, ok := p.last(); ok != (len(all) > 0) || ok && last != all[len(all)-1] {
			t.Errorf("last of %v: %d, %v", all, last, ok)
		}
	}
}

func TestPlacesEachStops(t *testing.T) {
	var got []int
	for at := range placesOf(1, 70, 71, 200).each {
		got = append(got, at)
		if at == 70 {
			break
		}
	}
	if !slices.Equal(got, []int{1, 70}) {
		t.Errorf("each went on: %v", got)
	}
}

func checkTable(t *testing.T, name string, got, want table) {
	t.Helper()
	if !slices.Equal(got, want) {
		t.Errorf("%s: %v, want %v", name, got, want)
	}
}

func TestTables(t *testing.T) {
	// One that can take nothing or a byte at 0, two bytes at 1, nothing at 3; and another.
	one := table{placesOf(0, 1), placesOf(3), placesOf(), placesOf(3)}
	other := table{placesOf(0), placesOf(1, 2), placesOf(2), placesOf()}
	checkTable(t, "then", one.then(other), table{placesOf(0, 1, 2), placesOf(), placesOf(), placesOf()})
	checkTable(t, "or", one.or(other), table{placesOf(0, 1), placesOf(1, 2, 3), placesOf(2), placesOf(3)})
	checkTable(t, "often", one.often(), table{placesOf(0, 1, 3), placesOf(1, 3), placesOf(2), placesOf(3)})
	// What is known must stay as it is.
	checkTable(t, "the first", one, table{placesOf(0, 1), placesOf(3), placesOf(), placesOf(3)})
	checkTable(t, "the second", other, table{placesOf(0), placesOf(1, 2), placesOf(2), placesOf()})
}
