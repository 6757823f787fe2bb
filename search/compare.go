package search

import (
	"reason/api"
	"reason/atoms"
	"reason/congruence"
	"reason/stack"
)

// classes tells which terms are congruent by the equalities that are so. Their marks are the literals.
func (s *search) classes() congruence.Classes {
	c := congruence.New(s.st)
	for _, code := range s.trail {
		l := s.literal(code)
		if l.Atom.Kind == atoms.AreEqual && !l.Not {
			c.Merge(l.Atom.A, l.Atom.B, code)
		}
	}
	c.Close()
	return c
}

// compare lets follow what the equalities that are so make of other atoms, and tells a line that contradicts what is so; -1, if there is none.
func (s *search) compare() int {
	c := s.classes()
	for i := range s.things {
		bad := -1
		switch s.things[i].atom.Kind {
		case atoms.AreEqual:
			bad = s.compareEqual(&c, i)
		case atoms.IsTrue:
			bad = s.compareTrue(&c, i)
		}
		if bad >= 0 {
			return bad
		}
	}
	return -1
}

// compareEqual lets follow that a thing is so, if its terms are congruent; and, if it is told that it is not, that others are not either.
func (s *search) compareEqual(c *congruence.Classes, i int) int {
	code := atoms.Code(i, false)
	a := s.things[i].atom
	if c.Same(a.A, a.B) {
		if s.isSo(code) {
			return -1
		}
		why := c.Why(a.A, a.B)
		return s.because([]int{code}, why)
	}
	if !s.isOut(code) {
		return -1
	}
	for j := range s.things {
		other := s.things[j]
		if other.told || other.atom.Kind != atoms.AreEqual {
			continue
		}
		b := other.atom
		if c.Same(a.A, b.B) && c.Same(a.B, b.A) {
			b = atoms.Atom{Kind: b.Kind, A: b.B, B: b.A}
		}
		if c.Same(a.A, b.A) && c.Same(a.B, b.B) {
			why := c.Why(a.A, b.A)
			more := c.Why(a.B, b.B)
			why = append(why, more...)
			s.because([]int{code, atoms.Code(j, true)}, why)
		}
	}
	return -1
}

// compareTrue lets follow that what is congruent to a term of a symbol is true as well, or is not either.
func (s *search) compareTrue(c *congruence.Classes, i int) int {
	a := s.things[i].atom.A
	if !s.things[i].told || !s.isPredicate(a) {
		return -1
	}
	for j := range s.things {
		b := s.things[j].atom
		if j == i || b.Kind != atoms.IsTrue || !c.Same(a, b.A) {
			continue
		}
		then := atoms.Code(j, !s.things[i].so)
		if s.isSo(then) {
			continue
		}
		first := atoms.Code(i, s.things[i].so)
		why := c.Why(a, b.A)
		bad := s.because([]int{first, then}, why)
		if bad >= 0 {
			return bad
		}
	}
	return -1
}

// isPredicate tells whether a term is of Bool and of a symbol with arguments.
func (s *search) isPredicate(number int) bool {
	t := s.st.Term(number)
	return t.Sort == api.Bool && t.Op == stack.Apply && len(t.Args) > 0
}

// because takes in a line U: where all of the last literals are so, one of the first is.
func (s *search) because(first []int, why []int) int {
	var literals []int
	literals = append(literals, first...)
	literals = append(literals, opposites(why)...)
	return s.say(line{head: "U", literals: literals})
}
