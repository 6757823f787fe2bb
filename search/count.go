package search

import (
	"reason/api"
	"reason/atoms"
	"reason/linear"
	"reason/stack"
	"reason/sums"
	"reason/whole"
	"strconv"
)

// order takes in what is always so of the numbers of which atoms speak that were not looked at yet.
func (s *search) order() {
	for s.ordered < len(s.things) {
		// Atoms that are named on the way are looked at as well; there are but so many of them.
		i := s.ordered
		s.ordered++
		switch s.things[i].atom.Kind {
		case atoms.AreEqual:
			s.orderEqual(i)
		case atoms.IsAtMost:
			s.orderAtMost(i)
		}
		yes := s.sideOf(atoms.Code(i, false))
		no := s.sideOf(atoms.Code(i, true))
		s.sides = append(s.sides, yes)
		s.sides = append(s.sides, no)
	}
}

// sideOf is the limit that a literal of two numbers sets if it is so; of any other literal none.
func (s *search) sideOf(code int) linear.Side {
	l := s.literal(code)
	if l.Atom.Kind != atoms.IsAtMost {
		return linear.Side{}
	}
	return s.kept.Side(s.sumOf(l))
}

// side is the limit of a literal, as it is kept.
func (s *search) side(code int) linear.Side {
	if code < 0 || code >= len(s.sides) {
		return linear.Side{}
	}
	return s.sides[code]
}

// orderEqual takes in of two numbers that they are equal just if each is at most the other, and that one is.
func (s *search) orderEqual(i int) {
	a := s.things[i].atom
	if s.st.Term(a.A).Sort != api.Int {
		return
	}
	less := s.is(atoms.AtMost(a.A, a.B))
	more := s.is(atoms.AtMost(a.B, a.A))
	head := "Q " + strconv.Itoa(a.A) + " " + strconv.Itoa(a.B)
	s.all(head, atoms.Code(i, false), []int{less, more})
	ready := "A " + s.literal(less).Text() + " " + s.literal(more).Text() + " | f 1 1;"
	s.say(line{ready: ready, literals: []int{less, more}})
}

// orderAtMost takes in of two numbers that have no unknown which of them is the greater.
func (s *search) orderAtMost(i int) {
	l := atoms.Literal{Atom: s.things[i].atom}
	sum := s.sumOf(l)
	if len(sum.Parts) > 0 {
		return
	}
	l.Not = whole.Sign(sum.Number) > 0
	s.say(line{ready: "A " + l.Text() + " | f 1;", literals: []int{atoms.Code(i, l.Not)}})
}

// columnsOf tells the terms of Int that stand for themselves in sums, first those of symbols without arguments: where all these have whole values, in a stack that is bounded the others do too.
func columnsOf(st *stack.Stack) []int {
	var symbols []int
	var others []int
	for number, t := range st.Terms {
		if t.Sort != api.Int || t.Op != stack.Apply && t.Op != stack.Ite {
			continue
		}
		if t.Op == stack.Apply && len(t.Args) == 0 {
			symbols = append(symbols, number)
			continue
		}
		others = append(others, number)
	}
	return append(symbols, others...)
}

// measure looks whether numbers, be they whole or not, fit what is so, and tells a line that contradicts it; -1, if they do.
func (s *search) measure() int {
	s.kept.Clear()
	for _, code := range s.trail {
		s.kept.Set(s.side(code), code)
	}
	marks := s.kept.Look()
	if len(marks) == 0 {
		return -1
	}
	out := linear.Solve(s.columns, s.sumsOf(marks), 0, s.narrow)
	return s.sayTree(marks, out)
}

// count looks for whole numbers that fit what is so, and tells a line that contradicts it; -1, if there is none: then the numbers are found, or too much is spent.
func (s *search) count() int {
	s.values = s.kept.Whole()
	if s.values != nil {
		return -1
	}
	codes := s.kept.Marks()
	most := -1
	if s.budget >= 0 {
		most = s.budget - s.spent
	}
	out := linear.Solve(s.columns, s.sumsOf(codes), most, s.narrow)
	s.spent += out.Spent
	if out.Closed {
		return s.sayTree(codes, out)
	}
	s.values = out.Values
	return -1
}

// sumsOf are the sums that are at most 0, if literals of numbers are so.
func (s *search) sumsOf(codes []int) []sums.Sum {
	var list []sums.Sum
	for _, code := range codes {
		list = append(list, s.sumOf(s.literal(code)))
	}
	return list
}

// sumOf is the sum that is at most 0, if a literal of two numbers is so.
func (s *search) sumOf(l atoms.Literal) sums.Sum {
	a := sums.At(s.terms, l.Atom.A)
	b := sums.At(s.terms, l.Atom.B)
	if !l.Not {
		return sums.Minus(a, b, len(s.terms))
	}
	less := sums.Minus(b, a, len(s.terms))
	less.Number = whole.Add(less.Number, whole.From(1))
	return less
}

// sayTree takes in a line A: not all of the literals are so that the tree needs.
func (s *search) sayTree(codes []int, out linear.Outcome) int {
	ready := []byte("A")
	var literals []int
	for i, used := range out.Used() {
		if !used || i >= len(codes) {
			continue
		}
		code := atoms.Opposite(codes[i])
		literals = append(literals, code)
		ready = append(ready, " "+s.literal(code).Text()...)
	}
	ready = append(ready, " | "+out.Tree()...)
	return s.say(line{ready: string(ready), literals: literals})
}

// worth is the value of a term of Int, when the numbers are found.
func (s *search) worth(number int) whole.Number {
	sum := sums.At(s.terms, number)
	worth := sum.Number
	for _, p := range sum.Parts {
		more := whole.Multiply(p.Times, s.valueOf(p.Term))
		worth = whole.Add(worth, more)
	}
	return worth
}

// valueOf is the value of a column.
func (s *search) valueOf(term int) whole.Number {
	for i, column := range s.columns {
		if column == term && i < len(s.values) {
			return s.values[i]
		}
	}
	return whole.Number{}
}

// isTrue tells whether a term of Bool is told to be true.
func (s *search) isTrue(number int) bool { return s.isSo(s.is(atoms.Truth(number))) }
