package command

import (
	"reason/api"
	"reason/stack"
)

// applied makes the term of an operator, or of the symbol at place sym if op is 0, from arguments.
func (o *order) applied(op int, sym int, args []int) (stack.Term, api.Errno) {
	if op == 0 {
		return o.appliedSymbol(sym, args)
	}
	sorts := o.sortsOf(args)
	sort := operatorSort(op, sorts)
	if sort == 0 {
		return stack.Term{}, api.ErrSort
	}
	if op == stack.Times {
		return o.product(args)
	}
	switch op {
	case stack.AtLeast:
		op = stack.AtMost
		args = exchanged(args)
	case stack.Above:
		op = stack.Below
		args = exchanged(args)
	}
	return stack.Term{Op: op, Args: args, Sort: sort}, api.OK
}

// appliedSymbol makes the term of a symbol that takes arguments.
func (o *order) appliedSymbol(place int, args []int) (stack.Term, api.Errno) {
	sym := o.st.Symbol(place)
	if len(args) == 0 || len(args) != len(sym.Takes) {
		return stack.Term{}, api.ErrSort
	}
	for i := range args {
		if o.st.Term(args[i]).Sort != sym.Takes[i] {
			return stack.Term{}, api.ErrSort
		}
	}
	return stack.Term{Op: stack.Apply, Sym: place, Args: args, Sort: sym.Sort}, api.OK
}

// product makes the term of `*`, with the constant first.
func (o *order) product(args []int) (stack.Term, api.Errno) {
	if len(args) != 2 {
		return stack.Term{}, api.ErrSort
	}
	if !o.isConstant(args[0]) {
		if !o.isConstant(args[1]) {
			return stack.Term{}, api.ErrLinear
		}
		args = exchanged(args)
	}
	return stack.Term{Op: stack.Times, Args: args, Sort: api.Int}, api.OK
}

// isConstant tells a numeral and `(- numeral)`.
func (o *order) isConstant(number int) bool {
	t := o.st.Term(number)
	if t.Op == stack.Minus && len(t.Args) == 1 {
		t = o.st.Term(t.Args[0])
	}
	return t.Op == stack.Numeral
}

// exchanged is a list of two the other way round.
func exchanged(args []int) []int {
	if len(args) != 2 {
		return args
	}
	return []int{args[1], args[0]}
}

// sortsOf tells the sorts of terms.
func (o *order) sortsOf(args []int) []int {
	var sorts []int
	for _, a := range args {
		t := o.st.Term(a)
		sorts = append(sorts, t.Sort)
	}
	return sorts
}

// operatorSort tells the sort that an operator makes of arguments of such sorts; 0 if it takes no such ones.
func operatorSort(op int, sorts []int) int {
	switch op {
	case stack.Not:
		return sortIf(api.Bool, all(sorts, api.Bool, 1, 1))
	case stack.And, stack.Or:
		return sortIf(api.Bool, all(sorts, api.Bool, 2, api.MaxArgs))
	case stack.Xor, stack.Implies:
		return sortIf(api.Bool, all(sorts, api.Bool, 2, 2))
	case stack.Equal:
		return sortIf(api.Bool, len(sorts) == 2 && sorts[0] == sorts[1])
	case stack.Distinct:
		ints := all(sorts, api.Int, 2, api.MaxArgs)
		return sortIf(api.Bool, ints || all(sorts, api.U, 2, api.MaxArgs))
	case stack.AtMost, stack.Below, stack.AtLeast, stack.Above:
		return sortIf(api.Bool, all(sorts, api.Int, 2, 2))
	case stack.Ite:
		return choiceSort(sorts)
	case stack.Plus:
		return sortIf(api.Int, all(sorts, api.Int, 2, api.MaxArgs))
	case stack.Minus:
		return sortIf(api.Int, all(sorts, api.Int, 1, 2))
	case stack.Times:
		return sortIf(api.Int, all(sorts, api.Int, 2, 2))
	}
	return 0
}

// choiceSort is operatorSort of `ite`.
func choiceSort(sorts []int) int {
	if len(sorts) != 3 || sorts[0] != api.Bool || sorts[1] != sorts[2] {
		return 0
	}
	return sorts[1]
}

// sortIf is a sort, or 0.
func sortIf(sort int, ok bool) int {
	if ok {
		return sort
	}
	return 0
}

// all tells whether there are from least to most sorts, and all are the one.
func all(sorts []int, sort int, least int, most int) bool {
	if len(sorts) < least || len(sorts) > most {
		return false
	}
	for _, s := range sorts {
		if s != sort {
			return false
		}
	}
	return true
}
