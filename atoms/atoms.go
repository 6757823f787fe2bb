// Package atoms has what the lines of a proof speak of (P9): atoms, which can be so of one term or of two, and literals.
package atoms

import "strconv"

// The kinds of atoms, by their letters.
const (
	IsTrue   = 'T'
	AreEqual = 'E'
	IsAtMost = 'L'
)

// Atom is something that can be so of one term or of two. Of AreEqual A is below B; of IsTrue B is 0.
type Atom struct {
	Kind byte
	A    int
	B    int
}

// Literal says that its atom is so, or that it is not.
type Literal struct {
	Atom Atom
	Not  bool
}

// Truth is the atom that a term is true.
func Truth(a int) Atom { return Atom{Kind: IsTrue, A: a} }

// AtMost is the atom that a term is at most another.
func AtMost(a int, b int) Atom { return Atom{Kind: IsAtMost, A: a, B: b} }

// Equality is the atom that two different terms are equal.
func Equality(a int, b int) Atom {
	if a > b {
		return Atom{Kind: AreEqual, A: b, B: a}
	}
	return Atom{Kind: AreEqual, A: a, B: b}
}

// Places counts the places of atoms of so many terms.
func Places(terms int) int { return terms + 2*terms*terms }

// Place is an atom's place among all of so many terms.
func (a Atom) Place(terms int) int {
	switch a.Kind {
	case AreEqual:
		return terms + a.A*terms + a.B
	case IsAtMost:
		return terms + terms*terms + a.A*terms + a.B
	}
	return a.A
}

// Code is the code of a literal whose atom has that place; that of its opposite is next to it, the two an even one and the odd one behind.
func Code(place int, not bool) int {
	if not {
		return 2*place + 1
	}
	return 2 * place
}

// Opposite is the code of a literal's opposite.
func Opposite(code int) int { return code ^ 1 }

// Text is a literal as a proof tells it.
func (l Literal) Text() string {
	text := "+"
	if l.Not {
		text = "-"
	}
	text += string([]byte{l.Atom.Kind}) + strconv.Itoa(l.Atom.A)
	if l.Atom.Kind != IsTrue {
		text += "," + strconv.Itoa(l.Atom.B)
	}
	return text
}
