package proofs

import (
	"reason/api"
	"reason/atoms"
	"reason/stack"
)

// view looks at some atoms, at most seven, in one way after the other in which they can be true or false.
type view struct {
	st   *stack.Stack
	seen []atoms.Atom
	way  int // a bit for each atom: it is so
	yes  int // a bit for each atom: a literal says that it is so
	no   int // a bit for each atom: a literal says that it is not
}

// bit is the bit of the atom at a place.
func bit(place int) int { return 1 << uint(place) }

// ways counts the ways.
func (v *view) ways() int { return bit(len(v.seen)) }

// place is where an atom is looked at; -1 if it is not.
func (v *view) place(a atoms.Atom) int {
	for i, other := range v.seen {
		if other == a {
			return i
		}
	}
	return -1
}

// look takes an atom in, once.
func (v *view) look(a atoms.Atom) {
	if v.place(a) < 0 {
		v.seen = append(v.seen, a)
	}
}

// lookEqual takes in that two terms are equal, unless they are one.
func (v *view) lookEqual(a int, b int) {
	if a != b {
		v.look(atoms.Equality(a, b))
	}
}

// say takes in what literals say of the atoms that are looked at.
func (v *view) say(list []atoms.Literal) {
	for _, l := range list {
		i := v.place(l.Atom)
		if i < 0 {
			continue
		}
		if l.Not {
			v.no |= bit(i)
		} else {
			v.yes |= bit(i)
		}
	}
}

// told tells whether one of the literals is so in the way that is at hand.
func (v *view) told() bool { return v.way&v.yes != 0 || v.no&^v.way != 0 }

// so tells whether an atom is so in the way that is at hand.
func (v *view) so(a atoms.Atom) bool {
	i := v.place(a)
	return i >= 0 && v.way&bit(i) != 0
}

// equal tells whether two terms, not of Bool, are equal in the way that is at hand. One is equal to itself.
func (v *view) equal(a int, b int) bool { return a == b || v.so(atoms.Equality(a, b)) }

// same tells whether two terms of one sort are the same in the way that is at hand.
func (v *view) same(a int, b int) bool {
	if v.isBool(a) {
		return v.so(atoms.Truth(a)) == v.so(atoms.Truth(b))
	}
	return v.equal(a, b)
}

// holds tells whether an argument of Bool is true in the way that is at hand.
func (v *view) holds(t stack.Term, i int) bool { return v.so(atoms.Truth(t.Arg(i))) }

// isBool tells whether a term is of Bool.
func (v *view) isBool(number int) bool { return v.st.Term(number).Sort == api.Bool }
