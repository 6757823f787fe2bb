package search

import "reason/atoms"

// lesson is what a contradiction is gone back from, literal by literal, to those on which it hangs.
type lesson struct {
	seen     []bool // by thing
	rooted   []int  // things that are so or not without a guess
	literals []int  // those that hang on guesses ahead of the last
	open     int    // how many that hang on the last guess are still to be gone back from
	depth    int    // the last guess on which the contradiction hangs
	from     []int  // the lines that were gone through
}

// learn makes a line of a contradiction, takes guesses back and lets follow what the line says of the rest. It tells whether there was a guess to take back.
func (s *search) learn(bad int) bool {
	depth := 0
	for _, code := range s.lineAt(bad).literals {
		depth = max(depth, s.thing(code).depth)
	}
	if depth == 0 {
		s.wrong = bad
		return false
	}
	s.takeBack(depth)
	l := lesson{seen: make([]bool, len(s.things)), depth: depth}
	last := s.goBack(&l, bad)
	s.ground(&l)
	s.weigh(&l)
	depth = 0
	for _, code := range l.literals {
		depth = max(depth, s.thing(code).depth)
	}
	s.takeBack(depth)
	l.literals = append(l.literals, atoms.Opposite(last))
	s.say(line{head: "R", literals: l.literals, from: l.from})
	return true
}

// goBack goes back from a line to but one literal that hangs on the last guess, and tells that literal.
func (s *search) goBack(l *lesson, bad int) int {
	s.look(l, bad)
	for at := len(s.trail) - 1; at >= 0; at-- {
		code := s.trail[at]
		if !isSeen(l, code) {
			continue
		}
		l.open--
		if l.open <= 0 {
			return code
		}
		s.look(l, s.thing(code).line)
	}
	return 0
}

// look goes through a line, and takes in the literals that are not so.
func (s *search) look(l *lesson, place int) {
	l.from = append(l.from, place)
	for _, code := range s.lineAt(place).literals {
		if isSeen(l, code) || !s.isOut(code) {
			continue
		}
		l.seen[code/2] = true
		depth := s.thing(code).depth
		switch {
		case depth == 0:
			l.rooted = append(l.rooted, code/2)
		case depth < l.depth:
			l.literals = append(l.literals, code)
		default:
			l.open++
		}
	}
}

// isSeen tells whether a literal was taken in. One of no thing is.
func isSeen(l *lesson, code int) bool {
	i := code / 2
	return i < 0 || i >= len(l.seen) || l.seen[i]
}

// ground goes through the lines from which follows what is so without a guess.
func (s *search) ground(l *lesson) {
	for i := 0; i < len(l.rooted); i++ {
		// Each thing is taken in once: so this comes to an end.
		code := atoms.Code(l.rooted[i], false)
		s.look(l, s.thing(code).line)
	}
}

// weigh gives weight to what had to do with a contradiction, and takes some from all from time to time.
func (s *search) weigh(l *lesson) {
	s.lessons++
	for i := range s.things {
		if i < len(l.seen) && l.seen[i] {
			s.things[i].weight += 64
		}
		if s.lessons%16 == 0 {
			s.things[i].weight /= 2
		}
	}
}
