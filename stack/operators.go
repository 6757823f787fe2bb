package stack

import "reason/api"

// What a term is made by. AtLeast and Above are read but never listed: such a term is printed as AtMost or Below, its arguments exchanged.
const (
	True = 1 + iota
	False
	Numeral
	Apply // a symbol
	Not
	And
	Or
	Xor
	Implies
	Equal
	Distinct
	AtMost
	Below
	AtLeast
	Above
	Ite
	Plus
	Minus
	Times
)

// operatorNames: from Not on, in the order of the constants.
var operatorNames = [15]string{
	"not", "and", "or", "xor", "=>", "=", "distinct", "<=", "<", ">=", ">", "ite", "+", "-", "*",
}

// Operator tells the operator that a word is; 0 if it is none.
func Operator(word string) int {
	for i, name := range operatorNames {
		if name == word {
			return Not + i
		}
	}
	return 0
}

// operatorName is the word of an operator; "" of anything else.
func operatorName(op int) string {
	i := op - Not
	if i < 0 || i >= len(operatorNames) {
		return ""
	}
	return operatorNames[i]
}

// Sort tells the sort that a word is; 0 if it is none.
func Sort(word string) int {
	switch word {
	case "Bool":
		return api.Bool
	case "Int":
		return api.Int
	case "U":
		return api.U
	}
	return 0
}

// sortName is the word of a sort.
func sortName(sort int) string {
	switch sort {
	case api.Bool:
		return "Bool"
	case api.Int:
		return "Int"
	case api.U:
		return "U"
	}
	return ""
}
