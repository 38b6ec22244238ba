package number

import (
	"strconv"
	"strings"
	"testing"
)

func TestRead(t *testing.T) {
	for _, c := range []struct {
		in   string
		most int
		want int
		ok   bool
	}{
		{"0", 1, 0, true},
		{"7", 1, 7, true},
		{"10", 2, 10, true},
		{"999999999", 9, 999999999, true},
		{"9223372036854775807", 19, 1<<63 - 1, true},
		{"", 9, 0, false},
		{"00", 9, 0, false},
		{"01", 9, 0, false},
		{"10", 1, 0, false},
		{"1", 0, 0, false},
		{"1", -1, 0, false},
		{"-1", 9, 0, false},
		{"+1", 9, 0, false},
		{" 1", 9, 0, false},
		{"1 ", 9, 0, false},
		{"1_0", 9, 0, false},
		{"0x1", 9, 0, false},
		{"1e3", 9, 0, false},
		{"1/", 9, 0, false},
		{"1:", 9, 0, false},
		{"\u0661", 9, 0, false},
		{"\xff", 9, 0, false},
		{"9223372036854775808", 19, 0, false},
		{"9999999999999999999", 19, 0, false},
		{"18446744073709551617", 20, 0, false},
		{strings.Repeat("9", 400), 400, 0, false},
	} {
		if n, ok := Read(c.in, c.most); n != c.want || ok != c.ok {
			t.Errorf("Read(%q, %d): %d, %v, want %d, %v", c.in, c.most, n, ok, c.want, c.ok)
		}
	}
}

func TestDigit(t *testing.T) {
	for b := range 256 {
		n, ok := Digit(byte(b))
		want, err := strconv.Atoi(string([]byte{byte(b)}))
		if ok != (err == nil) || n != want {
			t.Errorf("Digit(%d): %d, %v", b, n, ok)
		}
	}
}
