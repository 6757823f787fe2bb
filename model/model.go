// Package model tells whether what is asserted is true in a model (P8).
package model

import (
	"reason/api"
	"reason/stack"
	"reason/whole"
)

// valuation has the values of a stack's first terms, by their numbers. A value of each sort is a whole number; of Bool 1 is true and 0 is false.
type valuation struct {
	entries []api.Entry
	values  []whole.Number
}

// Holds tells whether every assertion is true in a model; ErrModel, if an entry does not fit the stack's symbols.
func Holds(st *stack.Stack, m []api.Entry) (bool, api.Errno) {
	for i := range m {
		if !fits(st, m[i]) {
			return false, api.ErrModel
		}
	}
	v := valuation{entries: m}
	for _, t := range st.Terms {
		// A term's arguments stand ahead of it: so their values are there.
		n := v.valueOf(t)
		v.values = append(v.values, n)
	}
	for _, number := range st.Held {
		if !isTrue(v.values, number) {
			return false, api.OK
		}
	}
	return true, api.OK
}

// valueOf tells the value of a term whose arguments have theirs.
func (v *valuation) valueOf(t stack.Term) whole.Number {
	var args []whole.Number
	for _, a := range t.Args {
		args = append(args, at(v.values, a))
	}
	switch t.Op {
	case stack.Numeral:
		return whole.From(t.Num)
	case stack.Apply:
		return v.applied(t.Sym, args)
	case stack.Ite:
		return chosen(args)
	case stack.Plus, stack.Minus, stack.Times:
		return counted(t.Op, args)
	}
	if judged(t.Op, args) {
		return whole.From(1)
	}
	return whole.Number{}
}

// applied tells the value of a symbol for arguments.
func (v *valuation) applied(sym int, args []whole.Number) whole.Number {
	var texts []string
	for _, a := range args {
		texts = append(texts, a.Text())
	}
	text := valueText(v.entries, sym, texts)
	n, _ := whole.Parse(text)
	return n
}

// chosen tells the value of `ite`.
func chosen(args []whole.Number) whole.Number {
	if isTrue(args, 0) {
		return at(args, 1)
	}
	return at(args, 2)
}

// counted tells the value of `+`, `-` and `*`.
func counted(op int, args []whole.Number) whole.Number {
	n := at(args, 0)
	if op == stack.Minus && len(args) == 1 {
		return whole.Negate(n)
	}
	for i := 1; i < len(args); i++ {
		switch op {
		case stack.Plus:
			n = whole.Add(n, args[i])
		case stack.Minus:
			less := whole.Negate(args[i])
			n = whole.Add(n, less)
		case stack.Times:
			n = whole.Multiply(n, args[i])
		}
	}
	return n
}

// at is the number at a place; 0 where there is none.
func at(numbers []whole.Number, i int) whole.Number {
	if i < 0 || i >= len(numbers) {
		return whole.Number{}
	}
	return numbers[i]
}
