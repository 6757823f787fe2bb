package lists

import "reason/api"

// Numeral tells the number that a word is, and whether it is one: of one to MaxName digits, with no nought ahead but of 0 itself (P5).
func Numeral(word string) (int, bool) {
	if len(word) == 0 || len(word) > api.MaxName {
		return 0, false
	}
	if word[0] == '0' && len(word) > 1 {
		return 0, false
	}
	n := 0
	for i := 0; i < len(word); i++ {
		c := word[i]
		if !IsDigit(c) {
			return 0, false
		}
		n = n*10 + int(c-'0')
	}
	return n, true
}
