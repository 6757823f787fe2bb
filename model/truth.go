package model

import (
	"reason/stack"
	"reason/whole"
)

// judged tells whether an operator that makes a Bool makes a true one of arguments.
func judged(op int, args []whole.Number) bool {
	switch op {
	case stack.True:
		return true
	case stack.Not:
		return !isTrue(args, 0)
	case stack.And:
		return countTrue(args) == len(args)
	case stack.Or:
		return countTrue(args) > 0
	case stack.Xor:
		return countTrue(args) == 1
	case stack.Implies:
		return !isTrue(args, 0) || isTrue(args, 1)
	case stack.Equal:
		return compare(args) == 0
	case stack.Distinct:
		return areDistinct(args)
	case stack.AtMost:
		return compare(args) <= 0
	case stack.Below:
		return compare(args) < 0
	}
	return false
}

// isTrue tells whether the value at a place is that of a true Bool.
func isTrue(values []whole.Number, i int) bool {
	n := at(values, i)
	return whole.Compare(n, whole.Number{}) != 0
}

// countTrue counts the true ones.
func countTrue(args []whole.Number) int {
	n := 0
	for i := range args {
		if isTrue(args, i) {
			n++
		}
	}
	return n
}

// compare compares the first two.
func compare(args []whole.Number) int {
	a := at(args, 0)
	b := at(args, 1)
	return whole.Compare(a, b)
}

// areDistinct tells whether no two are equal.
func areDistinct(args []whole.Number) bool {
	for i := range args {
		for j := 0; j < i; j++ {
			if whole.Compare(args[i], args[j]) == 0 {
				return false
			}
		}
	}
	return true
}
