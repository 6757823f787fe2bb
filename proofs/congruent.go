package proofs

import (
	"reason/atoms"
	"reason/stack"
)

// classes tells of each term the class in which it is congruent to others: the number of one of them.
type classes struct {
	st *stack.Stack
	of []int
}

// congruent reads a line U.
func (c *checker) congruent(words []string) ([]atoms.Literal, bool) {
	list, ok := c.literals(words)
	if !ok {
		return nil, false
	}
	k := classes{st: c.st}
	for number := range c.st.Terms {
		k.of = append(k.of, number)
	}
	for _, l := range list {
		if l.Atom.Kind == atoms.AreEqual && l.Not {
			k.merge(l.Atom.A, l.Atom.B)
		}
	}
	for k.mergeAlike() {
		// Each time there are fewer classes: so this comes to an end.
	}
	return judged(list, k.contradict(list))
}

// class is a term's class.
func (k *classes) class(number int) int {
	if number < 0 || number >= len(k.of) {
		return -1
	}
	return k.of[number]
}

// merge makes two classes one, and tells whether they were two.
func (k *classes) merge(a int, b int) bool {
	from := k.class(a)
	to := k.class(b)
	if from == to {
		return false
	}
	for i, class := range k.of {
		if class == from {
			k.of[i] = to
		}
	}
	return true
}

// mergeAlike makes classes one whose terms have one symbol and congruent arguments, and tells whether there were such.
func (k *classes) mergeAlike() bool {
	some := false
	for i := range k.st.Terms {
		for j := 0; j < i; j++ {
			if !k.alike(i, j) {
				continue
			}
			two := k.merge(i, j)
			some = some || two
		}
	}
	return some
}

// alike tells whether two terms have one symbol and congruent arguments.
func (k *classes) alike(a int, b int) bool {
	s := k.st.Term(a)
	t := k.st.Term(b)
	if s.Op != stack.Apply || t.Op != stack.Apply || s.Sym != t.Sym {
		return false
	}
	for i := range s.Args {
		if k.class(s.Arg(i)) != k.class(t.Arg(i)) {
			return false
		}
	}
	return true
}

// contradict tells whether not all literals can be false: two terms that are to be different are congruent, or one that is to be true and one that is not.
func (k *classes) contradict(list []atoms.Literal) bool {
	hasTrue := make([]bool, len(k.of))
	for _, l := range list {
		class := k.class(l.Atom.A)
		if l.Atom.Kind == atoms.IsTrue && l.Not && class >= 0 && class < len(hasTrue) {
			hasTrue[class] = true
		}
	}
	for _, l := range list {
		class := k.class(l.Atom.A)
		if l.Not || class < 0 || class >= len(hasTrue) {
			continue
		}
		if l.Atom.Kind == atoms.AreEqual && class == k.class(l.Atom.B) {
			return true
		}
		if l.Atom.Kind == atoms.IsTrue && hasTrue[class] {
			return true
		}
	}
	return false
}
