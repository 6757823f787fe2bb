package atoms_test

import (
	"testing"

	"reason/atoms"
)

// TestPlaces: each atom has a place of its own, and each literal a code of its own, next to its opposite's.
func TestPlaces(t *testing.T) {
	const terms = 7
	taken := map[int]atoms.Atom{}
	take := func(a atoms.Atom) {
		place := a.Place(terms)
		if other, ok := taken[place]; ok || place < 0 || place >= atoms.Places(terms) {
			t.Errorf("%v has the place %d, as %v", a, place, other)
		}
		taken[place] = a
		yes, no := atoms.Code(place, false), atoms.Code(place, true)
		if yes != 2*place || no != 2*place+1 || atoms.Opposite(yes) != no || atoms.Opposite(no) != yes {
			t.Errorf("%v: %d and %d", a, yes, no)
		}
	}
	for a := 0; a < terms; a++ {
		take(atoms.Truth(a))
		for b := 0; b < terms; b++ {
			take(atoms.AtMost(a, b))
			if a < b {
				take(atoms.Equality(a, b))
			}
		}
	}
}

// TestText: literals as a proof tells them.
func TestText(t *testing.T) {
	for _, c := range []struct {
		atom atoms.Atom
		not  bool
		want string
	}{
		{atoms.Truth(12), false, "+T12"}, {atoms.Truth(0), true, "-T0"}, {atoms.Equality(3, 10), false, "+E3,10"}, {atoms.Equality(10, 3), true, "-E3,10"},
		{atoms.AtMost(10, 3), false, "+L10,3"}, {atoms.AtMost(3, 3), true, "-L3,3"},
	} {
		if got := (atoms.Literal{Atom: c.atom, Not: c.not}).Text(); got != c.want {
			t.Errorf("%q, want %q", got, c.want)
		}
	}
}
