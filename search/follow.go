package search

import "reason/atoms"

// follow lets be so, of each clause of which but one literal can still be so, that one; it tells a line none of whose literals can; -1, if there is none.
//
// A line waits at two of its literals, its first two, and is looked at again when one of these is no more so: as long as neither is, more than one of its literals can be so. Where guesses are taken back, it may go on waiting where it does.
func (s *search) follow() int {
	for s.done < len(s.trail) {
		code := atoms.Opposite(s.trail[s.done])
		s.done++
		bad := s.leave(code)
		if bad >= 0 {
			return bad
		}
	}
	return -1
}

// leave goes through the lines that wait at a literal which is not so, and tells one none of whose literals can be so.
func (s *search) leave(code int) int {
	if code < 0 || code >= len(s.waiting) {
		return -1
	}
	places := s.waiting[code]
	kept := 0
	bad := -1
	for _, place := range places {
		if bad < 0 && s.moveOn(place, code) {
			continue
		}
		places[kept] = place
		kept++
		if bad < 0 && s.conclude(place) {
			bad = place
		}
	}
	s.waiting[code] = places[:kept]
	return bad
}

// moveOn lets a line wait at another literal than one that is not so, and tells whether there was one that can be so. If there is none, the literal stands second.
func (s *search) moveOn(place int, code int) bool {
	clause := s.lineAt(place).literals
	if len(clause) < 2 {
		return true
	}
	if clause[0] == code {
		swap(clause, 0, 1)
	}
	if s.isSo(clause[0]) {
		return false
	}
	for i := 2; i < len(clause); i++ {
		if s.isOut(clause[i]) {
			continue
		}
		swap(clause, 1, i)
		s.waitAt(clause[1], place)
		return true
	}
	return false
}

// conclude lets the first literal of a line be so, all others of which are not, or one of which is so; it tells whether the first is not so either.
func (s *search) conclude(place int) bool {
	clause := s.lineAt(place).literals
	if len(clause) == 0 || s.isOut(clause[0]) {
		return true
	}
	s.let(clause[0], place)
	return false
}
