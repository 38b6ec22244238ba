package bits

import (
	"math"
	"math/rand"
	"slices"
	"strconv"
	"strings"
	"testing"

	"ostlery/api"
)

const all = ^api.Set(0)

// someSets: edges, every number alone, every beginning, and sets drawn the same way each time.
func someSets() []api.Set {
	l := []api.Set{0, all, 0x5555555555555555, 0xaaaaaaaaaaaaaaaa, 1<<63 | 1}
	for n := range api.MaxCPUs {
		l = append(l, 1<<n, 1<<n-1, ^api.Set(1<<n), 3<<n, 5<<n)
	}
	r := rand.New(rand.NewSource(1))
	for range 500 {
		a, b := api.Set(r.Uint64()), api.Set(r.Uint64())
		l = append(l, a, a&b, a|b)
	}
	return l
}

// A1: the set of a list, and the edges of what a set may have.
func TestOf(t *testing.T) {
	for _, c := range []struct {
		in   []int
		want api.Set
		err  error
	}{
		{nil, 0, nil},
		{[]int{}, 0, nil},
		{[]int{0}, 1, nil},
		{[]int{63}, 1 << 63, nil},
		{[]int{5, 1, 3}, 1<<5 | 1<<1 | 1<<3, nil},
		{[]int{2, 2, 2}, 1 << 2, nil},
		{[]int{-1}, 0, api.ErrBound},
		{[]int{64}, 0, api.ErrBound},
		{[]int{0, 1, 64}, 0, api.ErrBound},
		{[]int{-64, 3}, 0, api.ErrBound},
		{[]int{math.MaxInt}, 0, api.ErrBound},
		{[]int{math.MinInt}, 0, api.ErrBound},
	} {
		if s, err := Of(c.in); s != c.want || err != c.err {
			t.Errorf("Of(%v): %#x, %v, want %#x, %v", c.in, s, err, c.want, c.err)
		}
	}
}

// A1: List, Count and Has tell the same set that Of makes, rising.
func TestSetsTellTheirNumbers(t *testing.T) {
	for _, s := range someSets() {
		var want []int
		for n := range api.MaxCPUs {
			in := s&(1<<n) != 0
			if in {
				want = append(want, n)
			}
			if Has(s, n) != in {
				t.Fatalf("Has(%#x, %d): %v", s, n, !in)
			}
		}
		if l := List(s); !slices.Equal(l, want) {
			t.Fatalf("List(%#x): %v, want %v", s, l, want)
		}
		if n := Count(s); n != len(want) {
			t.Fatalf("Count(%#x): %d, want %d", s, n, len(want))
		}
		if back, err := Of(want); back != s || err != nil {
			t.Fatalf("Of(%v): %#x, %v, want %#x", want, back, err, s)
		}
	}
}

// A1: no set has a number that none may have.
func TestHasNothingOutside(t *testing.T) {
	for _, n := range []int{-1, -2, -63, -64, 64, 65, 127, 128, 1 << 32, math.MaxInt, math.MinInt} {
		if Has(all, n) {
			t.Errorf("Has(all, %d): true", n)
		}
	}
}

// A1: Inside is about all that the first one has.
func TestInside(t *testing.T) {
	for _, c := range []struct {
		a, b api.Set
		want bool
	}{
		{0, 0, true},
		{0, 5, true},
		{5, 0, false},
		{5, 5, true},
		{4, 5, true},
		{5, 4, false},
		{6, 5, false},
		{all, all, true},
		{1 << 63, all, true},
		{all, all >> 1, false},
		{all >> 1, all, true},
	} {
		if got := Inside(c.a, c.b); got != c.want {
			t.Errorf("Inside(%#x, %#x): %v", c.a, c.b, got)
		}
	}
}

// A2: as few spans as can be, rising.
func TestText(t *testing.T) {
	for _, c := range []struct {
		in   []int
		want string
	}{
		{nil, ""},
		{[]int{0}, "0"},
		{[]int{63}, "63"},
		{[]int{0, 1}, "0-1"},
		{[]int{62, 63}, "62-63"},
		{[]int{0, 2}, "0,2"},
		{[]int{6, 2, 3}, "2-3,6"},
		{[]int{2, 3, 4, 6, 7}, "2-4,6-7"},
		{[]int{0, 1, 3, 62, 63}, "0-1,3,62-63"},
		{[]int{9, 10, 11}, "9-11"},
	} {
		s, _ := Of(c.in)
		if got := Text(s); got != c.want {
			t.Errorf("Text(%v): %q, want %q", c.in, got, c.want)
		}
	}
	if got := Text(all); got != "0-63" {
		t.Errorf("Text(all): %q", got)
	}
}

// A2, W6: what is written is read, and is never too long to be.
func TestTextIsRead(t *testing.T) {
	for _, s := range someSets() {
		text := Text(s)
		if len(text) > api.MaxText {
			t.Fatalf("Text(%#x) has %d bytes", s, len(text))
		}
		if got, err := Parse(text); got != s || err != nil {
			t.Fatalf("Parse(%q): %#x, %v, want %#x", text, got, err, s)
		}
	}
}

// A2: spans are read in any order, and may have numbers in common.
func TestParse(t *testing.T) {
	for _, c := range []struct {
		in   string
		want []int
	}{
		{"", nil},
		{"0", []int{0}},
		{"63", []int{63}},
		{"3-3", []int{3}},
		{"0-3", []int{0, 1, 2, 3}},
		{"7,1", []int{1, 7}},
		{"60-63,0-1", []int{0, 1, 60, 61, 62, 63}},
		{"1,1,0-2,2", []int{0, 1, 2}},
		{"1,2,3", []int{1, 2, 3}},
	} {
		want, _ := Of(c.want)
		if got, err := Parse(c.in); got != want || err != nil {
			t.Errorf("Parse(%q): %#x, %v, want %#x", c.in, got, err, want)
		}
	}
	if got, err := Parse("0-63"); got != all || err != nil {
		t.Errorf("Parse(0-63): %#x, %v", got, err)
	}
}

// A2: texts that are none.
func TestParseErrText(t *testing.T) {
	for _, in := range []string{
		",", "1,", ",1", "1,,2", "-", "--", "1-", "-1", "1--2", "-1-2", "-2--1", "1-2-3", "5-4", "63-0",
		"01", "00", "0-01", "01-2", " 1", "1 ", "1, 2", "1 - 2", "+1", "1-+2", "x", "1x", "0x1", "1.5", "1;2",
		"1\n", "\x00", "\xff", "\u0661", "9223372036854775808", "18446744073709551616", "18446744073709551617",
		"1-9223372036854775808", "1-18446744073709551618", strings.Repeat("9", 300),
	} {
		if got, err := Parse(in); got != 0 || err != api.ErrText {
			t.Errorf("Parse(%q): %#x, %v, want ErrText", in, got, err)
		}
	}
}

// A2: numbers that may be read, but that no set has.
func TestParseErrBound(t *testing.T) {
	for _, in := range []string{
		"64", "0-64", "64-64", "100", "63,64", "64-65", "9223372036854775807", "0-9223372036854775807",
		"9223372036854775806-9223372036854775807",
	} {
		if got, err := Parse(in); got != 0 || err != api.ErrBound {
			t.Errorf("Parse(%q): %#x, %v, want ErrBound", in, got, err)
		}
	}
}

// A2, Z3: the first span's error is told; of one span ErrText first; ErrMany ahead of all.
func TestParseOrderOfErrors(t *testing.T) {
	for _, c := range []struct {
		in  string
		err error
	}{
		{"64,x", api.ErrBound},
		{"x,64", api.ErrText},
		{"1,64,", api.ErrBound},
		{"70-64", api.ErrText},
		{"64-063", api.ErrText},
		{strings.Repeat("x", 301), api.ErrMany},
		{strings.Repeat("64,", 100) + "6", api.ErrMany},
		{strings.Repeat("1", 301), api.ErrMany},
		{strings.Repeat("x", 300), api.ErrText},
	} {
		if got, err := Parse(c.in); got != 0 || err != c.err {
			t.Errorf("Parse(%q): %#x, %v, want %v", c.in, got, err, c.err)
		}
	}
}

// A2: MaxText bytes may be read, one more may not.
func TestParseBoundOfBytes(t *testing.T) {
	most := strings.Repeat("1,", 148) + "2-63"
	if len(most) != api.MaxText {
		t.Fatalf("%d bytes", len(most))
	}
	if got, err := Parse(most); got != all&^1 || err != nil {
		t.Errorf("Parse of MaxText bytes: %#x, %v", got, err)
	}
	if got, err := Parse("1" + most); got != 0 || err != api.ErrMany {
		t.Errorf("Parse of MaxText bytes and one: %#x, %v", got, err)
	}
}

// Z2: a list that is handed in is neither written into, nor kept, nor read behind its end; one that comes out is fresh.
func TestListsAreTheCallers(t *testing.T) {
	whole := []int{4, 2, 99, -1}
	if s, err := Of(whole[:2]); s != 1<<4|1<<2 || err != nil {
		t.Errorf("Of of a beginning: %#x, %v", s, err)
	}
	if !slices.Equal(whole, []int{4, 2, 99, -1}) {
		t.Errorf("Of wrote into its list: %v", whole)
	}
	a, b := List(6), List(6)
	a[0], a[1] = 40, 41
	if !slices.Equal(b, []int{1, 2}) || !slices.Equal(List(6), []int{1, 2}) {
		t.Errorf("lists share memory: %v", b)
	}
}

// slowParse reads by the words of A2, with the library's numbers.
func slowParse(s string) (api.Set, error) {
	if len(s) > 300 {
		return 0, api.ErrMany
	}
	if s == "" {
		return 0, nil
	}
	var set api.Set
	for _, span := range strings.Split(s, ",") {
		ends := strings.Split(span, "-")
		var l []int64
		for _, e := range ends {
			n, err := strconv.ParseInt(e, 10, 64)
			if err != nil || strconv.FormatInt(n, 10) != e {
				return 0, api.ErrText
			}
			l = append(l, n)
		}
		if len(l) > 2 || l[0] > l[len(l)-1] {
			return 0, api.ErrText
		}
		if l[len(l)-1] > 63 {
			return 0, api.ErrBound
		}
		for n := l[0]; n <= l[len(l)-1]; n++ {
			set |= 1 << n
		}
	}
	return set, nil
}

// A2, Z1: at all texts Parse answers, as its words say.
func TestParseTextsThatAreDrawn(t *testing.T) {
	r := rand.New(rand.NewSource(2))
	parts := []string{"0", "1", "9", "63", "64", "5", "-", "-", ",", ",", ",", "-3", "x", " ", "9223372036854775807", "8"}
	for range 50000 {
		var b strings.Builder
		for range r.Intn(9) {
			b.WriteString(parts[r.Intn(len(parts))])
		}
		got, err := Parse(b.String())
		want, wantErr := slowParse(b.String())
		if got != want || err != wantErr {
			t.Fatalf("Parse(%q): %#x, %v, want %#x, %v", b.String(), got, err, want, wantErr)
		}
	}
}

func FuzzParse(f *testing.F) {
	for _, s := range []string{"", "1", "1-3,5", "64", "-1", "1,,2", "9223372036854775808"} {
		f.Add(s)
	}
	f.Fuzz(func(t *testing.T, s string) {
		got, err := Parse(s)
		want, wantErr := slowParse(s)
		if got != want || err != wantErr {
			t.Errorf("Parse(%q): %#x, %v, want %#x, %v", s, got, err, want, wantErr)
		}
	})
}
