package search

import "reason/atoms"

// is the literal that an atom is so. An atom that is named for the first time becomes a thing.
func (s *search) is(a atoms.Atom) int {
	place := a.Place(len(s.st.Terms))
	if place < 0 || place >= len(s.places) {
		return 0
	}
	if s.places[place] == 0 {
		s.things = append(s.things, thing{atom: a, line: -1})
		s.waiting = append(s.waiting, nil)
		s.waiting = append(s.waiting, nil)
		s.places[place] = len(s.things)
	}
	return atoms.Code(s.places[place]-1, false)
}

// thing is what is known of a literal's atom.
func (s *search) thing(code int) thing {
	i := code / 2
	if i < 0 || i >= len(s.things) {
		return thing{}
	}
	return s.things[i]
}

// isSo tells whether a literal is so.
func (s *search) isSo(code int) bool {
	t := s.thing(code)
	return t.told && t.so == (code%2 == 0)
}

// isOut tells whether a literal is not so.
func (s *search) isOut(code int) bool {
	t := s.thing(code)
	return t.told && t.so != (code%2 == 0)
}

// let lets a literal be so of which nothing is told yet, because of a line or, with -1, by a guess.
func (s *search) let(code int, line int) {
	i := code / 2
	if i < 0 || i >= len(s.things) || s.things[i].told {
		return
	}
	s.things[i].told = true
	s.things[i].so = code%2 == 0
	s.things[i].depth = len(s.guesses)
	s.things[i].line = line
	s.trail = append(s.trail, code)
}

// takeBack takes all guesses back but the first so many, with all that follows from them.
func (s *search) takeBack(depth int) {
	if depth < 0 || depth >= len(s.guesses) {
		return
	}
	from := s.guesses[depth]
	if from < 0 || from > len(s.trail) {
		return
	}
	for _, code := range s.trail[from:] {
		s.forget(code / 2)
	}
	s.trail = s.trail[:from]
	s.guesses = s.guesses[:depth]
	s.done = from
}

// forget takes back what is told of a thing.
func (s *search) forget(i int) {
	if i >= 0 && i < len(s.things) {
		s.things[i].told = false
		s.things[i].line = -1
	}
}

// literal is a literal by its code.
func (s *search) literal(code int) atoms.Literal {
	t := s.thing(code)
	return atoms.Literal{Atom: t.atom, Not: code%2 == 1}
}
