package search

import (
	"reason/api"
	"reason/atoms"
	"reason/stack"
)

// reach goes from what is asserted to the atoms on which it hangs that it is true, as far as it is told what is so. Of others it need not be guessed.
type reach struct {
	s    *search
	seen []bool // by term
	best int    // of the things that count and are not told the one with the most weight; -1, as long as there is none
}

// pick is a thing that counts and is not told; -1, if there is none. The terms that count are kept.
func (s *search) pick() int {
	r := reach{s: s, seen: make([]bool, len(s.st.Terms)), best: -1}
	for _, number := range s.st.Held {
		r.visit(number)
	}
	for _, i := range s.asked {
		a := s.things[i].atom
		r.wantEqual(a.A, a.B)
	}
	s.counts = r.seen
	return r.best
}

// want takes in that a literal's atom counts, and tells whether it is told.
func (r *reach) want(code int) bool {
	if r.s.thing(code).told {
		return true
	}
	i := code / 2
	if r.best < 0 || r.isAhead(i, r.best) {
		r.best = i
	}
	return false
}

// isAhead tells whether a thing has more weight than another, or as much and was named ahead of it.
func (r *reach) isAhead(i int, j int) bool {
	one := r.s.things[i].weight
	other := r.s.things[j].weight
	return one > other || one == other && i < j
}

// visit takes in that a term counts.
func (r *reach) visit(number int) {
	if number < 0 || number >= len(r.seen) || r.seen[number] {
		return
	}
	r.seen[number] = true
	t := r.s.st.Term(number)
	if t.Sort == api.Bool {
		is := r.s.is(atoms.Truth(number))
		if r.want(is) {
			r.visitBool(t, r.s.isSo(is))
			return
		}
		// As long as it is not told whether it is true, it may hang on all of them.
		r.visitAll(t)
		return
	}
	if t.Op == stack.Ite {
		r.visitChosen(t)
		return
	}
	r.visitAll(t)
}

// visitAll takes in that all arguments of a term count.
func (r *reach) visitAll(t stack.Term) {
	for _, a := range t.Args {
		r.visit(a)
	}
}

// visitChosen takes in that the first argument of an `ite` counts, and the one that it chooses.
func (r *reach) visitChosen(t stack.Term) {
	r.visit(t.Arg(0))
	first := r.s.argument(t, 0)
	if r.s.isSo(first) {
		r.visit(t.Arg(1))
	}
	if r.s.isOut(first) {
		r.visit(t.Arg(2))
	}
}

// visitBool takes in that a term of Bool counts, of which it is told whether it is true.
func (r *reach) visitBool(t stack.Term, so bool) {
	switch t.Op {
	case stack.And:
		args := r.s.arguments(t)
		r.visitEach(t, !so, opposites(args))
	case stack.Or:
		args := r.s.arguments(t)
		r.visitEach(t, so, args)
	case stack.Implies:
		first := r.s.argument(t, 0)
		second := r.s.argument(t, 1)
		r.visitEach(t, so, []int{atoms.Opposite(first), second})
	case stack.Ite:
		r.visitChosen(t)
	case stack.Equal, stack.Distinct:
		r.visitAll(t)
		r.visitPairs(t, so == (t.Op == stack.Equal))
	default:
		r.visitAll(t)
	}
}

// visitEach takes in that the arguments of a term count, to which literals belong; if one is enough, and one is so, that one alone.
func (r *reach) visitEach(t stack.Term, one bool, literals []int) {
	for i, code := range literals {
		if one && r.s.isSo(code) {
			r.visit(t.Arg(i))
			return
		}
	}
	r.visitAll(t)
}

// visitPairs takes in that it counts whether arguments of Int or U are equal; if some are, one such pair is enough.
func (r *reach) visitPairs(t stack.Term, some bool) {
	if r.s.isBool(t.Arg(0)) {
		return
	}
	for i, b := range t.Args {
		for _, a := range t.Args[:i] {
			if a == b {
				continue
			}
			equal := r.s.is(atoms.Equality(a, b))
			if some && r.s.isSo(equal) {
				return
			}
		}
	}
	for i, b := range t.Args {
		for _, a := range t.Args[:i] {
			if a != b {
				r.wantEqual(a, b)
			}
		}
	}
}

// wantEqual takes in that it counts whether two terms are equal, and of numbers which is the greater.
func (r *reach) wantEqual(a int, b int) {
	equal := r.s.is(atoms.Equality(a, b))
	told := r.want(equal)
	if told && r.s.st.Term(a).Sort == api.Int {
		less := r.s.is(atoms.AtMost(a, b))
		r.want(less)
	}
}
