// Package bits: sets of processors.
package bits

import (
	mathbits "math/bits"
	"strconv"
	"strings"

	"ostlery/api"
	"ostlery/number"
)

// spanDigits is as many digits as the greatest int has. A number that fits an
// int but no set is out of bounds; a longer one can't be read at all.
const spanDigits = 19

// Of numbers.
func Of(l []int) (api.Set, error) {
	var s api.Set
	for _, n := range l {
		if !member(n) {
			return 0, api.ErrBound
		}
		s |= 1 << n
	}
	return s, nil
}

// List of numbers, rising.
func List(s api.Set) []int {
	var l []int
	for n := range api.MaxCPUs {
		if Has(s, n) {
			l = append(l, n)
		}
	}
	return l
}

// Count: how many.
func Count(s api.Set) int { return mathbits.OnesCount64(uint64(s)) }

// Has a set a number?
func Has(s api.Set, n int) bool { return member(n) && s>>n&1 == 1 }

// Inside: is all of a set in another one?
func Inside(a, b api.Set) bool { return a&^b == 0 }

// Text of a set: numbers, and spans of them.
func Text(s api.Set) string {
	var spans []string
	first := 0
	for n := range api.MaxCPUs {
		if !Has(s, n) {
			continue
		}
		if !Has(s, n-1) {
			first = n
		}
		if !Has(s, n+1) {
			spans = append(spans, spanText(first, n))
		}
	}
	return strings.Join(spans, ",")
}

// Parse a set.
func Parse(s string) (api.Set, error) {
	if len(s) > api.MaxText {
		return 0, api.ErrMany
	}
	if s == "" {
		return 0, nil
	}
	var set api.Set
	for _, t := range strings.Split(s, ",") {
		first, last, ok := readSpan(t)
		if !ok {
			return 0, api.ErrText
		}
		if !member(last) {
			return 0, api.ErrBound
		}
		for n := first; n <= last; n++ {
			set |= 1 << n
		}
	}
	return set, nil
}

// member: may a set have this number?
func member(n int) bool { return n >= 0 && n < api.MaxCPUs }

// spanText of the numbers from first to last.
func spanText(first, last int) string {
	if first == last {
		return strconv.Itoa(first)
	}
	return strconv.Itoa(first) + "-" + strconv.Itoa(last)
}

// readSpan reads a number alone, or two with '-' between, the second one no
// less. As '-' stands between, a number in a span has none ahead.
func readSpan(t string) (first, last int, ok bool) {
	left, right, two := strings.Cut(t, "-")
	first, ok = number.Read(left, spanDigits)
	if !two {
		return first, first, ok
	}
	last, okLast := number.Read(right, spanDigits)
	return first, last, ok && okLast && first <= last
}
