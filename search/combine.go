package search

import (
	"reason/api"
	"reason/atoms"
	"reason/stack"
)

// pair is two terms, by their numbers.
type pair struct {
	one   int
	other int
}

// combine takes in, of each two terms of one symbol whose arguments have the same values though they themselves have not, that they are equal where their arguments are. It tells whether it asks something by that which was not asked yet: then the search goes on with that.
func (s *search) combine(r *reading) bool {
	pairs := r.torn()
	if len(pairs) == 0 {
		return false
	}
	before := len(s.asked)
	// What is always so is taken in without a guess: else it would be forgotten when guesses are taken back.
	s.takeBack(0)
	for _, p := range pairs {
		s.join(p.one, p.other)
	}
	s.order()
	return len(s.asked) > before
}

// torn tells all pairs of terms that count and are torn.
func (r *reading) torn() []pair {
	var list []pair
	for i, t := range r.s.st.Terms {
		if t.Op != stack.Apply || len(t.Args) == 0 || !r.s.isCounting(i) {
			continue
		}
		for j := 0; j < i; j++ {
			if r.s.isCounting(j) && r.isTorn(i, j) {
				list = append(list, pair{one: i, other: j})
			}
		}
	}
	return list
}

// isTorn tells whether two terms have one symbol and arguments of the same values, but not the same value themselves. The first is of a symbol.
func (r *reading) isTorn(i int, j int) bool {
	t := r.s.st.Term(i)
	other := r.s.st.Term(j)
	if other.Op != stack.Apply || t.Sym != other.Sym {
		return false
	}
	for k := range t.Args {
		if !r.isSame(t.Arg(k), other.Arg(k)) {
			return false
		}
	}
	return !r.isSame(i, j)
}

// isSame tells whether two terms have the same value.
func (r *reading) isSame(a int, b int) bool {
	if a == b {
		return true
	}
	one := r.value(a)
	other := r.value(b)
	return one == other
}

// join takes in that two terms of one symbol are equal, or both true or both not, where their arguments are equal.
func (s *search) join(i int, j int) {
	t := s.st.Term(i)
	other := s.st.Term(j)
	var apart []int
	for k := range t.Args {
		a := t.Arg(k)
		b := other.Arg(k)
		if a != b {
			equal := s.ask(a, b)
			apart = append(apart, atoms.Opposite(equal))
		}
	}
	if t.Sort != api.Bool {
		equal := s.ask(i, j)
		s.sayWhere(apart, []int{equal})
		return
	}
	one := s.is(atoms.Truth(i))
	two := s.is(atoms.Truth(j))
	s.sayWhere(apart, []int{one, atoms.Opposite(two)})
	s.sayWhere(apart, []int{atoms.Opposite(one), two})
}

// ask is the literal that two terms are equal, which counts from now on.
func (s *search) ask(a int, b int) int {
	equal := s.is(atoms.Equality(a, b))
	if !has(s.asked, equal/2) {
		s.asked = append(s.asked, equal/2)
	}
	return equal
}

// sayWhere takes in a line U of two lists of literals.
func (s *search) sayWhere(apart []int, then []int) {
	var literals []int
	literals = append(literals, apart...)
	literals = append(literals, then...)
	s.say(line{head: "U", literals: literals})
}
