package proofs

import (
	"reason/api"
	"reason/atoms"
	"reason/stack"
)

// defined reads a line D.
func (c *checker) defined(words []string) ([]atoms.Literal, bool) {
	number, ok := c.number(wordAt(words, 0))
	list, okToo := c.literals(wordsFrom(words, 1))
	if !ok || !okToo {
		return nil, false
	}
	t := c.st.Term(number)
	if t.Sort != api.Bool && t.Op != stack.Ite {
		return nil, false
	}
	v := view{st: c.st}
	v.lookAround(number, t)
	v.say(list)
	for ; v.way < v.ways(); v.way++ {
		if v.agrees(number, t) && !v.told() {
			return nil, false
		}
	}
	return list, true
}

// ordered reads a line Q.
func (c *checker) ordered(words []string) ([]atoms.Literal, bool) {
	a, ok := c.number(wordAt(words, 0))
	b, okToo := c.number(wordAt(words, 1))
	list, okAll := c.literals(wordsFrom(words, 2))
	if !ok || !okToo || !okAll {
		return nil, false
	}
	if a >= b || c.sortOf(a) != api.Int || c.sortOf(b) != api.Int {
		return nil, false
	}
	v := view{st: c.st, seen: []atoms.Atom{atoms.Equality(a, b), atoms.AtMost(a, b), atoms.AtMost(b, a)}}
	v.say(list)
	for ; v.way < v.ways(); v.way++ {
		both := v.so(atoms.AtMost(a, b)) && v.so(atoms.AtMost(b, a))
		if v.so(atoms.Equality(a, b)) == both && !v.told() {
			return nil, false
		}
	}
	return list, true
}

// lookAround takes in the atoms that a term hangs together with by its operator.
func (v *view) lookAround(number int, t stack.Term) {
	if t.Sort == api.Bool {
		v.look(atoms.Truth(number))
	} else {
		v.lookEqual(number, t.Arg(1))
		v.lookEqual(number, t.Arg(2))
	}
	for i, a := range t.Args {
		if v.isBool(a) {
			v.look(atoms.Truth(a))
		} else if t.Op == stack.Equal || t.Op == stack.Distinct {
			for j := 0; j < i; j++ {
				v.lookEqual(t.Args[j], a)
			}
		}
	}
	if t.Op == stack.AtMost {
		v.look(atoms.AtMost(t.Arg(0), t.Arg(1)))
	}
	if t.Op == stack.Below {
		v.look(atoms.AtMost(t.Arg(1), t.Arg(0)))
	}
}

// agrees tells whether a term is what its operator makes of its arguments, in the way that is at hand.
func (v *view) agrees(number int, t stack.Term) bool {
	if t.Op == stack.Apply {
		return true
	}
	if t.Sort != api.Bool {
		return v.equal(number, v.chosen(t))
	}
	return v.so(atoms.Truth(number)) == v.made(t)
}

// made tells whether an operator makes a true Bool.
func (v *view) made(t stack.Term) bool {
	switch t.Op {
	case stack.True:
		return true
	case stack.Not:
		return !v.holds(t, 0)
	case stack.And:
		return v.countTrue(t) == len(t.Args)
	case stack.Or:
		return v.countTrue(t) > 0
	case stack.Xor:
		return v.holds(t, 0) != v.holds(t, 1)
	case stack.Implies:
		return !v.holds(t, 0) || v.holds(t, 1)
	case stack.Equal:
		return v.same(t.Arg(0), t.Arg(1))
	case stack.Distinct:
		return v.noneSame(t)
	case stack.AtMost:
		return v.so(atoms.AtMost(t.Arg(0), t.Arg(1)))
	case stack.Below:
		return !v.so(atoms.AtMost(t.Arg(1), t.Arg(0)))
	case stack.Ite:
		return v.so(atoms.Truth(v.chosen(t)))
	}
	return false
}

// chosen is the argument that an `ite` chooses.
func (v *view) chosen(t stack.Term) int {
	if v.holds(t, 0) {
		return t.Arg(1)
	}
	return t.Arg(2)
}

// countTrue counts the arguments that are true.
func (v *view) countTrue(t stack.Term) int {
	n := 0
	for i := range t.Args {
		if v.holds(t, i) {
			n++
		}
	}
	return n
}

// noneSame tells whether no two arguments are the same.
func (v *view) noneSame(t stack.Term) bool {
	for i := range t.Args {
		for j := 0; j < i; j++ {
			if v.same(t.Args[j], t.Args[i]) {
				return false
			}
		}
	}
	return true
}
