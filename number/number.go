// Package number: whole numbers, as every layer reads them.
package number

import "math"

// Read a number of at most so many digits: nothing but digits, no noughts
// ahead, and no more than an int holds.
func Read(s string, most int) (int, bool) {
	if s == "" || len(s) > most || len(s) > 1 && s[0] == '0' {
		return 0, false
	}
	n := 0
	for i := range len(s) {
		digit, ok := Digit(s[i])
		if !ok || n > (math.MaxInt-digit)/10 {
			return 0, false
		}
		n = n*10 + digit
	}
	return n, true
}

// Digit: what a byte counts, if it is a digit.
func Digit(b byte) (int, bool) {
	if b < '0' || b > '9' {
		return 0, false
	}
	return int(b - '0'), true
}
