// Package amount: how much, as it is written.
package amount

import (
	"strconv"
	"strings"

	"ostlery/api"
	"ostlery/number"
)

// How many digits are read at most.
const (
	milliDigits = 9  // ahead of 'm'
	wholeDigits = 6  // of whole processors
	placeDigits = 3  // behind '.'
	bytesDigits = 16 // ahead of a unit
)

const (
	perCPU  = 1000 // thousandths of a processor
	perUnit = 1024 // each unit is so many of the one ahead of it
)

// units of bytes, each perUnit times the one ahead of it.
var units = [...]string{"", "Ki", "Mi", "Gi", "Ti"}

// Milli of processors: a whole number of them, or with up to three places behind a point, or of thousandths ('m').
func Milli(s string) (int, error) {
	n, ok := readMilli(s)
	if !ok {
		return 0, api.ErrText
	}
	if n > api.MaxMilli {
		return 0, api.ErrBound
	}
	return n, nil
}

// MilliText: whole processors, or thousandths.
func MilliText(n int) (string, error) {
	if n < 0 || n > api.MaxMilli {
		return "", api.ErrBound
	}
	if n%perCPU == 0 {
		return strconv.Itoa(n / perCPU), nil
	}
	return strconv.Itoa(n) + "m", nil
}

// Bytes: a number, and a unit.
func Bytes(s string) (int, error) {
	digits, size := cutUnit(s)
	n, ok := number.Read(digits, bytesDigits)
	if !ok {
		return 0, api.ErrText
	}
	// Held against the bound by division: the product may be beyond an int.
	if n > api.MaxBytes/size {
		return 0, api.ErrBound
	}
	return n * size, nil
}

// BytesText: by the greatest unit of which it is a whole number.
func BytesText(n int) (string, error) {
	if n < 0 || n > api.MaxBytes {
		return "", api.ErrBound
	}
	unit := 0
	// 0 is a whole number of every unit, but is told without one.
	for n != 0 && n%perUnit == 0 && unit+1 < len(units) {
		n /= perUnit
		unit++
	}
	return strconv.Itoa(n) + units[unit], nil
}

// readMilli reads thousandths in any of their forms, whatever their bound.
func readMilli(s string) (int, bool) {
	if digits, ok := strings.CutSuffix(s, "m"); ok {
		return number.Read(digits, milliDigits)
	}
	left, right, point := strings.Cut(s, ".")
	whole, ok := number.Read(left, wholeDigits)
	if !ok {
		return 0, false
	}
	if !point {
		return whole * perCPU, true
	}
	part, ok := readPlaces(right)
	if !ok {
		return 0, false
	}
	return whole*perCPU + part, true
}

// readPlaces reads the digits behind '.' as thousandths: those that aren't
// written are noughts.
func readPlaces(s string) (int, bool) {
	if s == "" || len(s) > placeDigits {
		return 0, false
	}
	n := 0
	for i := range placeDigits {
		n *= 10
		if i >= len(s) {
			continue
		}
		digit, ok := number.Digit(s[i])
		if !ok {
			return 0, false
		}
		n += digit
	}
	return n, true
}

// cutUnit: what stands ahead of the unit, and how many bytes that unit is.
func cutUnit(s string) (digits string, size int) {
	size = 1
	for k := 1; k < len(units); k++ {
		size *= perUnit
		if left, ok := strings.CutSuffix(s, units[k]); ok {
			return left, size
		}
	}
	return s, 1
}
