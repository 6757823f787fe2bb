// Package search finds out whether all that is asserted can be true, with a model or a proof (P10).
//
// It guesses of one atom after the other whether it is so, and lets follow what follows. Where that comes to a contradiction, it learns a clause of it, which is a line of a proof, and takes guesses back. In the end there is no atom left to guess of, or a contradiction without a guess.
//
// At each guess numbers are looked for that fit what is so, be they whole or not; whole ones, when no atom is left. Where these make symbols take equal numbers of which it was not asked whether they are equal, there are atoms to guess of again.
package search

import (
	"reason/api"
	"reason/atoms"
	"reason/bounds"
	"reason/linear"
	"reason/model"
	"reason/stack"
	"reason/sums"
	"reason/whole"
)

// thing is an atom, and what is known of it.
type thing struct {
	atom   atoms.Atom
	told   bool // it is known whether it is so
	so     bool // whether it is so; of one that is not told: as it was told last
	depth  int  // how many guesses there were when it was told
	line   int  // the line from which it follows; -1, if it was guessed
	weight int  // how much it had to do with the last contradictions
}

// search is a search on its way. Of a thing there are two literals, by their codes (atoms.Code of the thing's place).
type search struct {
	st      *stack.Stack
	terms   []sums.Sum     // the stack's terms, taken apart
	columns []int          // the terms of Int that stand for themselves: first the symbols
	narrow  bool           // the stack is bounded: so splits of the symbols come to an end
	kept    linear.Kept    // the numbers that fit what is so, whole or not
	sides   []linear.Side  // by literal: the limit that it sets
	values  []whole.Number // by column, when numbers are found that fit what is so
	found   []api.Entry    // a model, when it is found
	things  []thing
	places  []int // by an atom's place among all: its thing's place, and 1; 0, if there is none
	lines   []line
	waiting [][]int // by literal: the lines that wait at it
	trail   []int   // the literals that are so, in the order in which they were told
	guesses []int   // how long the trail was at each guess
	done    int     // of so many of the trail it was looked at what follows
	wrong   int     // a line that contradicts what is so without a guess; -1, as long as there is none
	counts  []bool  // by term: what is asserted hangs on it
	asked   []int   // things that count whatever is told: whether numbers are equal that symbols take
	ordered int     // of so many things it was taken in how their numbers hang together
	lessons int     // contradictions that were learned from
	budget  int     // what may be spent; below 0: as much as it costs
	spent   int
	lost    bool // it cannot go on, and no budget is enough: it should not come to that, but were it so, the search would have no end
}

// Check looks with a budget; with one below 0 it spends as much as it takes, which comes to an end if the stack is bounded.
func Check(st *stack.Stack, budget int) api.Reply {
	s := search{st: st, terms: sums.OfTerms(st), narrow: bounds.Bounded(st), wrong: -1, budget: budget}
	s.places = make([]int, atoms.Places(len(st.Terms)))
	s.begin()
	verdict := api.None
	for verdict == api.None {
		verdict = s.step()
		if s.lost {
			s.spent += api.MaxBudget + 1
		}
		if s.lost || s.isPoor() {
			return api.Reply{V: api.Unknown, Spent: s.spent}
		}
	}
	if verdict == api.Unsat {
		return api.Reply{V: api.Unsat, Proof: s.proof(), Spent: s.spent}
	}
	return api.Reply{V: api.Sat, Model: s.found, Spent: s.spent}
}

// isPoor tells whether more was spent than there was to spend.
func (s *search) isPoor() bool { return s.budget >= 0 && s.spent > s.budget }

// begin takes in what the terms and the assertions say.
func (s *search) begin() {
	s.columns = columnsOf(s.st)
	s.kept = linear.NewKept(s.columns)
	for number := range s.st.Terms {
		s.define(number)
	}
	s.order()
	for _, number := range s.st.Held {
		s.hold(number)
	}
}

// step goes on up to the next guess, lesson or verdict, or to new atoms. Each of these costs 1, but a verdict; and whole numbers cost what package linear says.
func (s *search) step() api.Verdict {
	bad := s.settle()
	if bad < 0 {
		bad = s.measure()
	}
	if bad < 0 {
		open := s.pick()
		if open >= 0 {
			s.spent++
			s.guess(open)
			return api.None
		}
		bad = s.count()
	}
	if bad < 0 {
		return s.find()
	}
	if !s.learn(bad) {
		return api.Unsat
	}
	s.spent++
	return api.None
}

// find tells a model, if all is told and numbers are found. Numbers that symbols take may be equal in it though it was not asked whether they are: where it does not hold, that is asked.
func (s *search) find() api.Verdict {
	if s.isPoor() {
		return api.None
	}
	r := s.read()
	holds, _ := model.Holds(s.st, r.entries)
	if holds {
		s.found = r.entries
		return api.Sat
	}
	s.spent++
	if s.combine(&r) {
		return api.None
	}
	open := s.rest()
	s.lost = open < 0
	s.guess(open)
	return api.None
}

// settle lets follow what follows from what is so, and tells a line that contradicts it; -1, if none does.
func (s *search) settle() int {
	for s.wrong < 0 {
		bad := s.follow()
		if bad >= 0 {
			return bad
		}
		before := len(s.trail)
		bad = s.compare()
		if bad >= 0 || len(s.trail) == before {
			return bad
		}
	}
	return s.wrong
}

// rest is a thing that is not told, be it one that counts or not; -1, if all are told.
func (s *search) rest() int {
	for i := range s.things {
		if !s.things[i].told {
			return i
		}
	}
	return -1
}

// guess lets a thing be as is likely.
func (s *search) guess(i int) {
	if i < 0 || i >= len(s.things) {
		return
	}
	likely := s.isLikely(i)
	s.guesses = append(s.guesses, len(s.trail))
	s.let(atoms.Code(i, !likely), -1)
}

// isLikely tells whether a thing fits the numbers that were found; if it speaks of none, whether it was so when it was told last.
func (s *search) isLikely(i int) bool {
	a := s.things[i].atom
	switch {
	case a.Kind == atoms.IsAtMost:
		return s.kept.Fits(s.side(atoms.Code(i, false)))
	case a.Kind == atoms.AreEqual && s.st.Term(a.A).Sort == api.Int:
		less := s.is(atoms.AtMost(a.A, a.B))
		more := s.is(atoms.AtMost(a.B, a.A))
		return s.kept.Fits(s.side(less)) && s.kept.Fits(s.side(more))
	}
	return s.things[i].so
}
