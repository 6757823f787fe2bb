package stack

import "strconv"

// Print tells the stack as commands (P7).
func (st *Stack) Print() string {
	text := ""
	from := mark{}
	for _, to := range st.levels {
		text += st.levelText(from, to) + "(push)\n"
		from = to
	}
	now := st.now()
	return text + st.levelText(from, now)
}

// levelText prints what joined between two marks.
func (st *Stack) levelText(from mark, to mark) string {
	text := ""
	for i := from.symbols; i < to.symbols; i++ {
		sym := st.Symbol(i)
		text += symbolText(sym) + "\n"
	}
	for i := from.held; i < to.held && i < len(st.Held); i++ {
		text += "(assert " + st.TermText(st.Held[i]) + ")\n"
	}
	return text
}

// symbolText prints a symbol as it is declared.
func symbolText(sym Symbol) string {
	text := "(declare-fun " + sym.Name + " ("
	for i, sort := range sym.Takes {
		if i > 0 {
			text += " "
		}
		text += sortName(sort)
	}
	return text + ") " + sortName(sym.Sort) + ")"
}

// TermText is a term as it is printed (P5).
func (st *Stack) TermText(number int) string {
	t := st.Term(number)
	name := st.nameOf(t)
	if len(t.Args) == 0 {
		return name
	}
	text := "(" + name
	for _, a := range t.Args {
		// An argument's number is always below its term's: so this comes to an end.
		if a < number {
			text += " " + st.TermText(a)
		}
	}
	return text + ")"
}

// nameOf is the word that a term is, or that stands first in its list.
func (st *Stack) nameOf(t Term) string {
	switch t.Op {
	case True:
		return "true"
	case False:
		return "false"
	case Numeral:
		return strconv.Itoa(t.Num)
	case Apply:
		sym := st.Symbol(t.Sym)
		return sym.Name
	}
	return operatorName(t.Op)
}
