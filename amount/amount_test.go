package amount

import (
	"math"
	"math/big"
	"math/rand"
	"regexp"
	"strings"
	"testing"

	"ostlery/api"
)

type reading struct {
	in   string
	want int
	err  error
}

func readAll(t *testing.T, what string, read func(string) (int, error), l []reading) {
	t.Helper()
	for _, c := range l {
		if n, err := read(c.in); n != c.want || err != c.err {
			t.Errorf("%s(%q): %d, %v, want %d, %v", what, c.in, n, err, c.want, c.err)
		}
	}
}

type writing struct {
	in   int
	want string
	err  error
}

func writeAll(t *testing.T, what string, write func(int) (string, error), l []writing) {
	t.Helper()
	for _, c := range l {
		if s, err := write(c.in); s != c.want || err != c.err {
			t.Errorf("%s(%d): %q, %v, want %q, %v", what, c.in, s, err, c.want, c.err)
		}
	}
}

func wrong(err error, l ...string) []reading {
	var out []reading
	for _, s := range l {
		out = append(out, reading{s, 0, err})
	}
	return out
}

// B1: thousandths, whole processors, and places behind a point.
func TestMilli(t *testing.T) {
	readAll(t, "Milli", Milli, []reading{
		{"0", 0, nil},
		{"0m", 0, nil},
		{"0.0", 0, nil},
		{"0.000", 0, nil},
		{"1", 1000, nil},
		{"1m", 1, nil},
		{"500m", 500, nil},
		{"1500m", 1500, nil},
		{"1.5", 1500, nil},
		{"1.50", 1500, nil},
		{"1.500", 1500, nil},
		{"1.05", 1050, nil},
		{"1.005", 1005, nil},
		{"0.5", 500, nil},
		{"0.05", 50, nil},
		{"0.25", 250, nil},
		{"0.001", 1, nil},
		{"12.345", 12345, nil},
		{"10", 10000, nil},
		{"1000", 1000000, nil},
		{"1000.0", 1000000, nil},
		{"1000.000", 1000000, nil},
		{"999.999", 999999, nil},
		{"1000000m", 1000000, nil},
	})
}

// B1: texts that are none.
func TestMilliErrText(t *testing.T) {
	readAll(t, "Milli", Milli, wrong(api.ErrText,
		"", "m", ".", ".5", "1.", "1.m", "1.5m", "1mm", "m1", "1m ", "1M", "1 m", " 1", "1 ", "01", "00", "00m", "01m", "01.5", "00.5",
		"1.2345", "1.0000", "1.5.", "1.5.5", "1..5", "1.x", "1.-5", "1.+5", "1.5 ", "-1", "-1m", "-0", "-0.5", "+1", "1e3", "1,5", "0x1",
		"1234567890m", "1000000000m", "0000000001m", "1000000", "9999999", "1000000.5", "9999999.999", "1Ki", "\x00", "\xff", "\u0661", "1.\u0661",
		strings.Repeat("9", 1000), strings.Repeat("9", 1000)+"m", "1."+strings.Repeat("0", 1000)))
}

// B1: amounts that may be read, but are too much.
func TestMilliErrBound(t *testing.T) {
	readAll(t, "Milli", Milli, wrong(api.ErrBound,
		"1001", "999999", "1000.001", "1000.1", "999999.999", "1000001m", "999999999m"))
}

// B1: whole processors, if they are.
func TestMilliText(t *testing.T) {
	writeAll(t, "MilliText", MilliText, []writing{
		{0, "0", nil},
		{1, "1m", nil},
		{999, "999m", nil},
		{1000, "1", nil},
		{1001, "1001m", nil},
		{1500, "1500m", nil},
		{10000, "10", nil},
		{999999, "999999m", nil},
		{1000000, "1000", nil},
		{1000001, "", api.ErrBound},
		{1001000, "", api.ErrBound},
		{-1, "", api.ErrBound},
		{-1000, "", api.ErrBound},
		{math.MaxInt, "", api.ErrBound},
		{math.MinInt, "", api.ErrBound},
	})
}

// B1, W6: what is written is read.
func TestMilliTextIsRead(t *testing.T) {
	for n := range api.MaxMilli + 1 {
		s, err := MilliText(n)
		if err != nil {
			t.Fatalf("MilliText(%d): %v", n, err)
		}
		if back, err := Milli(s); back != n || err != nil {
			t.Fatalf("Milli(%q): %d, %v, want %d", s, back, err, n)
		}
	}
}

// B2: a number, and a unit or none.
func TestBytes(t *testing.T) {
	readAll(t, "Bytes", Bytes, []reading{
		{"0", 0, nil},
		{"0Ki", 0, nil},
		{"0Ti", 0, nil},
		{"1", 1, nil},
		{"1023", 1023, nil},
		{"1Ki", 1 << 10, nil},
		{"1Mi", 1 << 20, nil},
		{"1Gi", 1 << 30, nil},
		{"1Ti", 1 << 40, nil},
		{"64Mi", 64 << 20, nil},
		{"1500Ki", 1500 << 10, nil},
		{"1024Ti", 1 << 50, nil},
		{"1048576Gi", 1 << 50, nil},
		{"1073741824Mi", 1 << 50, nil},
		{"1099511627776Ki", 1 << 50, nil},
		{"1125899906842624", 1 << 50, nil},
		{"1125899906842623", 1<<50 - 1, nil},
	})
}

// B2: texts that are none.
func TestBytesErrText(t *testing.T) {
	readAll(t, "Bytes", Bytes, wrong(api.ErrText,
		"", "Ki", "Mi", "Gi", "Ti", "i", "K", "1K", "1k", "1ki", "1KI", "1kI", "1iK", "1Kii", "1KiKi", "1KiMi", "1 Ki", "1Ki ", " 1Ki", "1Pi", "1Ei", "1B", "1KiB",
		"01", "00", "01Ki", "00Ti", "-1", "-1Ki", "-0", "+1", "1.5", "1.5Gi", "1e3", "0x1", "500m", "1_0", "Ki1", "1i",
		"12345678901234567", "10000000000000000", "10000000000000000Ti", "00000000000000001", "\x00", "\xff", "\u0661", "1\u212ai",
		strings.Repeat("9", 1000), strings.Repeat("9", 1000)+"Ti"))
}

// B2: amounts that may be read, but are too much, also beyond what an int holds.
func TestBytesErrBound(t *testing.T) {
	readAll(t, "Bytes", Bytes, wrong(api.ErrBound,
		"1025Ti", "1048577Gi", "1073741825Mi", "1099511627777Ki", "1125899906842625", "9999999999999999",
		"9999999999999999Ki", "9999999999999999Mi", "9999999999999999Gi", "9999999999999999Ti",
		// times its unit these are 0, or small, modulo 2 to the power 64
		"16777216Ti", "33554432Ti", "16777217Ti", "17179869184Gi", "17592186044416Mi", "8388608Ti"))
}

// B2: by the greatest unit of which it is a whole number.
func TestBytesText(t *testing.T) {
	writeAll(t, "BytesText", BytesText, []writing{
		{0, "0", nil},
		{1, "1", nil},
		{1000, "1000", nil},
		{1023, "1023", nil},
		{1024, "1Ki", nil},
		{1025, "1025", nil},
		{1536, "1536", nil},
		{2048, "2Ki", nil},
		{1<<20 - 1024, "1023Ki", nil},
		{1 << 20, "1Mi", nil},
		{1<<20 + 1024, "1025Ki", nil},
		{67108864, "64Mi", nil},
		{1 << 30, "1Gi", nil},
		{3 << 29, "1536Mi", nil},
		{1 << 40, "1Ti", nil},
		{1<<40 + 1<<30, "1025Gi", nil},
		{1 << 50, "1024Ti", nil},
		{1<<50 - 1, "1125899906842623", nil},
		{1<<50 - 1024, "1099511627775Ki", nil},
		{1<<50 + 1, "", api.ErrBound},
		{1 << 51, "", api.ErrBound},
		{-1, "", api.ErrBound},
		{-1024, "", api.ErrBound},
		{math.MaxInt, "", api.ErrBound},
		{math.MinInt, "", api.ErrBound},
	})
}

// B2, W6: what is written is read.
func TestBytesTextIsRead(t *testing.T) {
	r := rand.New(rand.NewSource(3))
	for range 100000 {
		unit := 10 * r.Intn(5)
		n := r.Intn(1<<50+1) >> r.Intn(51) >> unit << unit
		s, err := BytesText(n)
		if err != nil {
			t.Fatalf("BytesText(%d): %v", n, err)
		}
		if back, err := Bytes(s); back != n || err != nil {
			t.Fatalf("Bytes(%q): %d, %v, want %d", s, back, err, n)
		}
	}
}

var (
	milliForm = regexp.MustCompile(`^(?:(0|[1-9][0-9]{0,8})m|(0|[1-9][0-9]{0,5})(?:\.([0-9]{1,3}))?)$`)
	bytesForm = regexp.MustCompile(`^(0|[1-9][0-9]{0,15})(|[KMGT]i)$`)
)

// slowMilli reads by the words of B1, with numbers of any size.
func slowMilli(s string) (int, error) {
	m := milliForm.FindStringSubmatch(s)
	if m == nil {
		return 0, api.ErrText
	}
	digits := m[1]
	if digits == "" {
		digits = m[2] + (m[3] + "000")[:3]
	}
	return bounded(digits, 0, api.MaxMilli)
}

// slowBytes reads by the words of B2, with numbers of any size.
func slowBytes(s string) (int, error) {
	m := bytesForm.FindStringSubmatch(s)
	if m == nil {
		return 0, api.ErrText
	}
	power := map[string]uint{"": 0, "Ki": 10, "Mi": 20, "Gi": 30, "Ti": 40}[m[2]]
	return bounded(m[1], power, api.MaxBytes)
}

func bounded(digits string, power uint, most int64) (int, error) {
	n, _ := new(big.Int).SetString(digits, 10)
	n.Lsh(n, power)
	if n.Cmp(big.NewInt(most)) > 0 {
		return 0, api.ErrBound
	}
	return int(n.Int64()), nil
}

func checkBoth(t *testing.T, s string) {
	t.Helper()
	n, err := Milli(s)
	if want, wantErr := slowMilli(s); n != want || err != wantErr {
		t.Fatalf("Milli(%q): %d, %v, want %d, %v", s, n, err, want, wantErr)
	}
	n, err = Bytes(s)
	if want, wantErr := slowBytes(s); n != want || err != wantErr {
		t.Fatalf("Bytes(%q): %d, %v, want %d, %v", s, n, err, want, wantErr)
	}
}

// B1, B2, Z1: at all texts both answer, as their words say.
func TestTextsThatAreDrawn(t *testing.T) {
	r := rand.New(rand.NewSource(4))
	parts := []string{"0", "1", "9", "00", "1024", "99999", "12345678", "m", ".", ".", "Ki", "Mi", "Gi", "Ti", "i", "-", " "}
	for range 100000 {
		var b strings.Builder
		for range r.Intn(6) {
			b.WriteString(parts[r.Intn(len(parts))])
		}
		checkBoth(t, b.String())
	}
}

func FuzzBoth(f *testing.F) {
	for _, s := range []string{"", "1", "1.5", "500m", "1024Ti", "16777216Ti", "1.2345", "01"} {
		f.Add(s)
	}
	f.Fuzz(checkBoth)
}
