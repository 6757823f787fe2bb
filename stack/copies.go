package stack

// The lists that are cut short are made anew, so that nothing of what is gone is kept in the room behind them.

func copyOf(list []int) []int { return firstInts(list, len(list)) }

func firstInts(list []int, n int) []int {
	var first []int
	for i := 0; i < n && i < len(list); i++ {
		first = append(first, list[i])
	}
	return first
}

func firstTerms(list []Term, n int) []Term {
	var first []Term
	for i := 0; i < n && i < len(list); i++ {
		first = append(first, list[i])
	}
	return first
}

func firstSymbols(list []Symbol, n int) []Symbol {
	var first []Symbol
	for i := 0; i < n && i < len(list); i++ {
		first = append(first, list[i])
	}
	return first
}

func firstMarks(list []mark, n int) []mark {
	var first []mark
	for i := 0; i < n && i < len(list); i++ {
		first = append(first, list[i])
	}
	return first
}
