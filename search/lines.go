package search

import "reason/atoms"

// line is a line of a proof, and its clause.
type line struct {
	head     string // what stands ahead of its literals
	ready    string // all of it, if its literals are not told, or their order counts
	literals []int  // each once; at the first two it waits
	from     []int  // of an R: lines ahead of it because of which it is right
}

// lineAt is the line at a place; an empty one where there is none.
func (s *search) lineAt(place int) line {
	if place < 0 || place >= len(s.lines) {
		return line{}
	}
	return s.lines[place]
}

// say takes in a line that is right, and lets follow what follows from it alone. It tells the line's place, if the line contradicts what is so; else -1.
func (s *search) say(l line) int {
	left, always := s.once(l.literals)
	if always {
		return -1
	}
	s.putAhead(left, 0)
	s.putAhead(left, 1)
	place := len(s.lines)
	l.literals = left
	s.lines = append(s.lines, l)
	if len(left) > 1 {
		s.waitAt(left[0], place)
		s.waitAt(left[1], place)
	}
	if len(left) == 0 || s.isOut(left[0]) {
		s.blame(place)
		return place
	}
	if len(left) == 1 || s.isOut(left[1]) {
		s.let(left[0], place)
	}
	return -1
}

// blame keeps a line that contradicts what is so, if it does so without a guess.
func (s *search) blame(place int) {
	if len(s.guesses) == 0 && s.wrong < 0 {
		s.wrong = place
	}
}

// once tells the literals of a clause, each once, and whether one and its opposite are among them.
func (s *search) once(literals []int) ([]int, bool) {
	var left []int
	for _, code := range literals {
		if has(left, atoms.Opposite(code)) {
			return nil, true
		}
		if !has(left, code) {
			left = append(left, code)
		}
	}
	return left, false
}

// has tells whether a number is in a list.
func has(list []int, n int) bool {
	for _, other := range list {
		if other == n {
			return true
		}
	}
	return false
}

// putAhead puts at a place, of the literals from there on, one that can be so, or else the one that was told last.
func (s *search) putAhead(literals []int, place int) {
	best := place
	for i := place; i < len(literals); i++ {
		if s.lasts(literals[i]) > s.lasts(literals[best]) {
			best = i
		}
	}
	swap(literals, place, best)
}

// lasts tells how many guesses there are at the least as long as a literal is not so; one more than there are, if it can be so.
func (s *search) lasts(code int) int {
	if !s.isOut(code) {
		return len(s.guesses) + 1
	}
	return s.thing(code).depth
}

// swap exchanges two of a list.
func swap(list []int, i int, j int) {
	if i < 0 || j < 0 || i >= len(list) || j >= len(list) {
		return
	}
	held := list[i]
	list[i] = list[j]
	list[j] = held
}

// waitAt lets a line wait at a literal.
func (s *search) waitAt(code int, place int) {
	if code >= 0 && code < len(s.waiting) {
		s.waiting[code] = append(s.waiting[code], place)
	}
}
