package search

import (
	"reason/api"
	"reason/atoms"
	"reason/stack"
	"strconv"
)

// hold takes in that a term is asserted.
func (s *search) hold(number int) {
	is := s.is(atoms.Truth(number))
	s.say(line{ready: "F " + strconv.Itoa(number), literals: []int{is}})
}

// define takes in what a term's operator makes of its arguments.
func (s *search) define(number int) {
	t := s.st.Term(number)
	head := "D " + strconv.Itoa(number)
	if t.Sort == api.Bool {
		is := s.is(atoms.Truth(number))
		s.defineBool(head, t, is)
		return
	}
	if t.Op != stack.Ite {
		return
	}
	first := s.argument(t, 0)
	yes := s.is(atoms.Equality(number, t.Arg(1)))
	no := s.is(atoms.Equality(number, t.Arg(2)))
	s.say(line{head: head, literals: []int{atoms.Opposite(first), yes}})
	s.say(line{head: head, literals: []int{first, no}})
}

// defineBool takes in when a term of Bool is true, of which one literal says that it is.
func (s *search) defineBool(head string, t stack.Term, is int) {
	args := s.arguments(t)
	switch t.Op {
	case stack.True:
		s.all(head, is, nil)
	case stack.False:
		s.all(head, atoms.Opposite(is), nil)
	case stack.Not:
		s.all(head, atoms.Opposite(is), args)
	case stack.And:
		s.all(head, is, args)
	case stack.Or:
		s.all(head, atoms.Opposite(is), opposites(args))
	case stack.Implies:
		first := s.argument(t, 0)
		second := s.argument(t, 1)
		s.all(head, atoms.Opposite(is), []int{first, atoms.Opposite(second)})
	case stack.Xor:
		s.differ(head, is, args)
	case stack.Equal, stack.Distinct:
		s.defineEqual(head, t, is)
	case stack.AtMost:
		atMost := s.is(atoms.AtMost(t.Arg(0), t.Arg(1)))
		s.all(head, is, []int{atMost})
	case stack.Below:
		atMost := s.is(atoms.AtMost(t.Arg(1), t.Arg(0)))
		s.all(head, is, []int{atoms.Opposite(atMost)})
	case stack.Ite:
		s.choose(head, is, args)
	}
}

// defineEqual takes in when a `=` or `distinct` is true.
func (s *search) defineEqual(head string, t stack.Term, is int) {
	if s.isBool(t.Arg(0)) {
		args := s.arguments(t)
		s.differ(head, atoms.Opposite(is), args)
		return
	}
	var apart []int
	for i, b := range t.Args {
		for _, a := range t.Args[:i] {
			if a == b {
				// A term is equal to itself: there is no atom for that.
				s.all(head, sameIs(t.Op, is), nil)
				return
			}
			equal := s.is(atoms.Equality(a, b))
			apart = append(apart, atoms.Opposite(equal))
		}
	}
	if t.Op == stack.Distinct {
		s.all(head, is, apart)
		return
	}
	s.all(head, atoms.Opposite(is), apart)
}

// sameIs is the literal that is so of a `=` or `distinct` with the same argument twice.
func sameIs(op int, is int) int {
	if op == stack.Equal {
		return is
	}
	return atoms.Opposite(is)
}

// argument is the literal that an argument of Bool is true.
func (s *search) argument(t stack.Term, i int) int { return s.is(atoms.Truth(t.Arg(i))) }

// arguments are the literals that the arguments of Bool are true.
func (s *search) arguments(t stack.Term) []int {
	var list []int
	for i, a := range t.Args {
		if s.isBool(a) {
			code := s.argument(t, i)
			list = append(list, code)
		}
	}
	return list
}

// isBool tells whether a term is of Bool.
func (s *search) isBool(number int) bool { return s.st.Term(number).Sort == api.Bool }

// opposites are the opposites of literals.
func opposites(codes []int) []int {
	var list []int
	for _, code := range codes {
		list = append(list, atoms.Opposite(code))
	}
	return list
}
