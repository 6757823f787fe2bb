// Package congruence tells which terms equalities make congruent (P9, of a line U), and because of which of them. A line U is judged without it, by package proofs.
package congruence

import "reason/stack"

// byArguments is the mark of terms that are congruent because they have one symbol and congruent arguments.
const byArguments = -1

// Classes tells of each term the class in which it is congruent to others. The terms of a class hang together by the steps that made them congruent, one fewer than there are terms: so from one to another there is one way.
type Classes struct {
	st   *stack.Stack
	of   []int // by term: the number of one of its class
	up   []int // by term: the term to which a step leads from it; -1, if it is the last of its class
	mark []int // by term: the mark of that step
}

// New has each term in a class of its own.
func New(st *stack.Stack) Classes {
	c := Classes{st: st}
	for number := range st.Terms {
		c.of = append(c.of, number)
		c.up = append(c.up, -1)
		c.mark = append(c.mark, byArguments)
	}
	return c
}

// Class is a term's class; -1 of none.
func (c *Classes) Class(number int) int {
	if number < 0 || number >= len(c.of) {
		return -1
	}
	return c.of[number]
}

// Same tells whether two terms are congruent.
func (c *Classes) Same(a int, b int) bool { return c.Class(a) == c.Class(b) }

// Merge makes two terms congruent, with a mark of 0 or more by which Why tells it.
func (c *Classes) Merge(a int, b int, mark int) { c.merge(a, b, mark) }

// merge makes two terms congruent, and tells whether they were not.
func (c *Classes) merge(a int, b int, mark int) bool {
	from := c.Class(a)
	to := c.Class(b)
	if from == to || from < 0 || to < 0 {
		return false
	}
	c.turn(a)
	c.up[a] = b
	c.mark[a] = mark
	for i, class := range c.of {
		if class == from {
			c.of[i] = to
		}
	}
	return true
}

// turn makes a term the last of its class: each step on the way from it leads back.
func (c *Classes) turn(number int) {
	next := number
	behind := -1
	mark := byArguments
	for next >= 0 && next < len(c.up) {
		ahead := c.up[next]
		its := c.mark[next]
		c.up[next] = behind
		c.mark[next] = mark
		behind = next
		mark = its
		next = ahead
	}
}

// Close makes congruent what has one symbol and congruent arguments, as long as there is such.
func (c *Classes) Close() {
	for c.mergeAlike() {
		// Each time there are fewer classes: so this comes to an end.
	}
}

// mergeAlike goes once through all terms that have one symbol and congruent arguments, and tells whether two became congruent.
func (c *Classes) mergeAlike() bool {
	some := false
	for i, t := range c.st.Terms {
		if t.Op != stack.Apply || len(t.Args) == 0 {
			continue
		}
		for j := 0; j < i; j++ {
			if c.Same(i, j) || !c.alike(t, c.st.Terms[j]) {
				continue
			}
			two := c.merge(i, j, byArguments)
			some = some || two
		}
	}
	return some
}

// alike tells whether two terms, the first of a symbol, have one symbol and congruent arguments.
func (c *Classes) alike(t stack.Term, other stack.Term) bool {
	if other.Op != stack.Apply || t.Sym != other.Sym {
		return false
	}
	for i := range t.Args {
		if !c.Same(t.Arg(i), other.Arg(i)) {
			return false
		}
	}
	return true
}
