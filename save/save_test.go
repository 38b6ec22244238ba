package save

import (
	"fmt"
	"hash/fnv"
	"math"
	"math/rand"
	"slices"
	"strconv"
	"strings"
	"testing"

	"ostlery/api"
	"ostlery/bits"
	"ostlery/disk"
)

// amount of milli processors and bytes.
func amount(milli, bytes int) api.Amount { return api.Amount{Milli: milli, Bytes: bytes} }

// numbers from 0 on, so many.
func numbers(many int) []int {
	var l []int
	for i := range many {
		l = append(l, i)
	}
	return l
}

// rich: three pods, with all that may be held.
func rich() []api.Held {
	return []api.Held{
		{
			Pod: api.Pod{Name: "a", Prio: 0, Conts: []api.Cont{
				{Name: "x", Devs: []api.Need{{Kind: "a", Many: 1}, {Kind: "gpu", Many: 16}, {Kind: "nic", Many: 2}}},
				{Name: "sum", Ask: amount(1, 2), Cap: amount(3, 4)},
			}},
			Given: []api.Given{{CPUs: 0, Devs: numbers(16)}, {CPUs: 1, Devs: []int{15}}},
		},
		{
			Pod:   api.Pod{Name: "a0", Prio: 7, Conts: []api.Cont{{Name: "a0"}}},
			Given: []api.Given{{CPUs: 0b1011101}},
		},
		{
			Pod: api.Pod{Name: "sum", Prio: api.MaxPrio, Conts: []api.Cont{
				{Name: "abcdefgh", Ask: amount(api.MaxMilli, api.MaxBytes), Cap: amount(api.MaxMilli, api.MaxBytes)},
				{Name: "b", Ask: amount(5, 6), Devs: []api.Need{{Kind: "gpu", Many: 1}}},
				{Name: "a", Cap: amount(0, 7)},
			}},
			Given: []api.Given{{CPUs: ^api.Set(0), Devs: []int{0, 2}}, {CPUs: 1 << 63, Devs: []int{3}}, {}},
		},
	}
}

const richText = "pod a 0\n" +
	"cont x 0 0 0 0 a:1,gpu:16,nic:2 - 0,1,2,3,4,5,6,7,8,9,10,11,12,13,14,15\n" +
	"cont sum 1 2 3 4 - 0 15\n" +
	"pod a0 7\n" +
	"cont a0 0 0 0 0 - 0,2-4,6 -\n" +
	"pod sum 1000\n" +
	"cont abcdefgh 1000000 1125899906842624 1000000 1125899906842624 - 0-63 0,2\n" +
	"cont b 5 6 0 0 gpu:1 63 3\n" +
	"cont a 0 0 0 7 - - -\n"

// sealed: lines, and the sum of them, by the library's.
func sealed(s string) string {
	h := fnv.New32a()
	h.Write([]byte(s))
	return s + "sum " + strconv.Itoa(int(h.Sum32())) + "\n"
}

// told: what is held, so that empty lists are alike.
func told(l []api.Held) string { return fmt.Sprintf("%+v", l) }

// many pods, each of one container that was given nothing.
func crowd(many int) []api.Held {
	var l []api.Held
	for i := range many {
		p := api.Pod{Name: "p" + strconv.Itoa(100000+i), Conts: []api.Cont{{Name: "c"}}}
		l = append(l, api.Held{Pod: p, Given: make([]api.Given, 1)})
	}
	return l
}

// K1: what may be held.
func TestCheckRight(t *testing.T) {
	for name, l := range map[string][]api.Held{
		"nothing":          nil,
		"nothing, not nil": {},
		"all there is":     rich(),
		"as many as may":   crowd(api.MaxPods),
		"one":              rich()[1:2],
		// Whether what is given fits is not asked here.
		"more than is needed":  {{Pod: api.Pod{Name: "a", Conts: []api.Cont{{Name: "x"}}}, Given: []api.Given{{CPUs: 3, Devs: []int{1}}}}},
		"the same given twice": {rich()[0], {Pod: rich()[2].Pod, Given: []api.Given{{CPUs: 1, Devs: numbers(16)}, {CPUs: 1}, {CPUs: 1}}}},
	} {
		if err := Check(l); err != nil {
			t.Errorf("%s: %v", name, err)
		}
	}
}

// K1: what may not be held. Z3: it is told by a bare api.Errno.
func TestCheckWrong(t *testing.T) {
	for _, c := range []struct {
		name string
		f    func(l []api.Held) []api.Held
		want error
	}{
		{"a pod too many", func(l []api.Held) []api.Held { return crowd(13) }, api.ErrMany},
		{"far too many", func(l []api.Held) []api.Held { return crowd(50000) }, api.ErrMany},
		{"a pod whose name is none", func(l []api.Held) []api.Held { l[0].Pod.Name = ""; return l }, api.ErrShape},
		{"a pod's Prio", func(l []api.Held) []api.Held { l[2].Pod.Prio = 1001; return l }, api.ErrBound},
		{"no containers", func(l []api.Held) []api.Held { l[1].Pod.Conts, l[1].Given = nil, nil; return l }, api.ErrMany},
		{"a container twice", func(l []api.Held) []api.Held { l[0].Pod.Conts[1].Name = "x"; return l }, api.ErrExist},
		{"a need of none", func(l []api.Held) []api.Held { l[2].Pod.Conts[1].Devs[0].Many = 0; return l }, api.ErrBound},
		{"names alike", func(l []api.Held) []api.Held { l[1].Pod.Name = "a"; return l }, api.ErrShape},
		{"names falling", func(l []api.Held) []api.Held { l[1], l[2] = l[2], l[1]; return l }, api.ErrShape},
		{"the beginning of the one ahead", func(l []api.Held) []api.Held { l[0].Pod.Name = "a00"; return l }, api.ErrShape},
		{"above the first, not the second", func(l []api.Held) []api.Held { l[2].Pod.Name = "a0"; return l }, api.ErrShape},
		{"nothing given", func(l []api.Held) []api.Held { l[1].Given = nil; return l }, api.ErrShape},
		{"too little given", func(l []api.Held) []api.Held { l[2].Given = l[2].Given[:2]; return l }, api.ErrShape},
		{"too much given", func(l []api.Held) []api.Held { l[0].Given = append(l[0].Given, api.Given{}); return l }, api.ErrShape},
		{"far too much given", func(l []api.Held) []api.Held { l[0].Given = make([]api.Given, 100000); return l }, api.ErrShape},
		{"a device too many", func(l []api.Held) []api.Held { l[0].Given[0].Devs = numbers(17); return l }, api.ErrMany},
		{"far too many devices", func(l []api.Held) []api.Held { l[2].Given[2].Devs = make([]int, 100000); return l }, api.ErrMany},
		{"devices alike", func(l []api.Held) []api.Held { l[2].Given[0].Devs = []int{1, 2, 2}; return l }, api.ErrShape},
		{"devices falling", func(l []api.Held) []api.Held { l[2].Given[0].Devs = []int{2, 0}; return l }, api.ErrShape},
		{"devices above the first, not the second", func(l []api.Held) []api.Held { l[2].Given[0].Devs = []int{0, 3, 1}; return l }, api.ErrShape},
		{"a device beyond", func(l []api.Held) []api.Held { l[0].Given[1].Devs = []int{16}; return l }, api.ErrShape},
		{"a device far beyond", func(l []api.Held) []api.Held { l[0].Given[1].Devs = []int{math.MaxInt}; return l }, api.ErrShape},
		{"a device below 0", func(l []api.Held) []api.Held { l[2].Given[2].Devs = []int{-1, 3}; return l }, api.ErrShape},
		{"a device far below 0", func(l []api.Held) []api.Held { l[1].Given[0].Devs = []int{math.MinInt}; return l }, api.ErrShape},
	} {
		l := c.f(rich())
		if err := Check(l); err != c.want {
			t.Errorf("%s: %v, want %v", c.name, err, c.want)
		}
		if s, err := Text(l); err != c.want || s != "" {
			t.Errorf("%s: Text: %.40q %v, want %v", c.name, s, err, c.want)
		}
		d := disk.New()
		if err := Save(d, l); err != c.want || d.Move() != api.ErrNone {
			t.Errorf("%s: Save: %v, want %v", c.name, err, c.want)
		}
	}
}

// fault: one way of making wrong what is held, with the error that it is to give.
type fault struct {
	f    func(l []api.Held)
	want error
}

// faults of the pod i, in the order in which they are told.
func faults(i int) []fault {
	l := []fault{
		{func(l []api.Held) { l[i].Pod.Prio = -1 }, api.ErrBound},
		{func(l []api.Held) { l[i].Pod.Conts[1].Name = l[i].Pod.Conts[0].Name }, api.ErrExist},
		{func(l []api.Held) { l[i].Given = append(l[i].Given, api.Given{}) }, api.ErrShape},
		{func(l []api.Held) { l[i].Given[0].Devs = make([]int, 17) }, api.ErrMany},
		{func(l []api.Held) { l[i].Given[0].Devs = []int{4, 3} }, api.ErrShape},
		{func(l []api.Held) { l[i].Given[1].Devs = make([]int, 17) }, api.ErrMany},
		{func(l []api.Held) { l[i].Given[1].Devs = []int{16} }, api.ErrShape},
	}
	if i > 0 {
		l = slices.Insert(l, 2, fault{func(l []api.Held) { l[i].Pod.Name = l[i-1].Pod.Name }, api.ErrShape})
	}
	return l
}

// K1, Z3: of two things that are wrong the one that is named first is told, the
// first pod's ahead of the second's.
func TestCheckFirst(t *testing.T) {
	base := func() []api.Held {
		var l []api.Held
		for _, n := range []string{"a", "b"} {
			p := api.Pod{Name: n, Conts: []api.Cont{{Name: "x"}, {Name: "y"}}}
			l = append(l, api.Held{Pod: p, Given: make([]api.Given, 2)})
		}
		return l
	}
	if err := Check(base()); err != nil {
		t.Fatal(err)
	}
	l := slices.Concat(faults(0), faults(1))
	for i, one := range l {
		for j, other := range l[i:] {
			held := base()
			other.f(held)
			one.f(held)
			if err := Check(held); err != one.want {
				t.Errorf("the faults %d and %d: %v, want %v", i, i+j, err, one.want)
			}
		}
		held := append(base(), crowd(11)...)
		if one.f(held); Check(held) != api.ErrMany {
			t.Errorf("the fault %d, and a pod too many: %v", i, Check(held))
		}
	}
}

// K2: sums, some by hand, others by the library.
func TestSum(t *testing.T) {
	for s, want := range map[string]uint32{
		"": 2166136261, "a": 3826002220, "foobar": 3214735720,
		"pod web 5\ncont x 2000 67108864 2000 67108864 gpu:1 1,5 0\n": 885057408,
	} {
		if got := Sum(s); got != want {
			t.Errorf("%q: %d, want %d", s, got, want)
		}
	}
	r := rand.New(rand.NewSource(1))
	for n := range 2000 {
		b := make([]byte, n)
		r.Read(b)
		h := fnv.New32a()
		h.Write(b)
		if got := Sum(string(b)); got != h.Sum32() {
			t.Errorf("%q: %d, want %d", b, got, h.Sum32())
		}
	}
}

// K2: the text of a pod.
func TestPodText(t *testing.T) {
	l := rich()
	for i, want := range []string{
		"pod a 0\ncont x 0 0 0 0 a:1,gpu:16,nic:2\ncont sum 1 2 3 4 -\n",
		"pod a0 7\ncont a0 0 0 0 0 -\n",
		"pod sum 1000\ncont abcdefgh 1000000 1125899906842624 1000000 1125899906842624 -\ncont b 5 6 0 0 gpu:1\ncont a 0 0 0 7 -\n",
	} {
		if got := PodText(l[i].Pod); got != want {
			t.Errorf("%q, want %q", got, want)
		}
	}
}

// K2: the words of what a container was given.
func TestGivenWords(t *testing.T) {
	for _, c := range []struct {
		cpus api.Set
		devs []int
		want string
	}{{0, nil, "- -"}, {1, []int{}, "0 -"}, {0b1101110, []int{0, 3, 15}, "1-3,5-6 0,3,15"}, {1<<64 - 1, []int{-1}, "0-63 -1"}} {
		if got := strings.Join(GivenWords(api.Given{CPUs: c.cpus, Devs: c.devs}), " "); got != c.want {
			t.Errorf("%b %v: %s, want %s", c.cpus, c.devs, got, c.want)
		}
	}
}

// K2: the text of what is held.
func TestText(t *testing.T) {
	web := amount(2000, 64<<20)
	for _, c := range []struct {
		name string
		l    []api.Held
		want string
	}{
		{"nothing", nil, "sum 2166136261\n"},
		{"one", []api.Held{{
			Pod:   api.Pod{Name: "web", Prio: 5, Conts: []api.Cont{{Name: "x", Ask: web, Cap: web, Devs: []api.Need{{Kind: "gpu", Many: 1}}}}},
			Given: []api.Given{{CPUs: 1<<1 | 1<<5, Devs: []int{0}}},
		}}, "pod web 5\ncont x 2000 67108864 2000 67108864 gpu:1 1,5 0\nsum 885057408\n"},
		{"all there is", rich(), sealed(richText)},
	} {
		if got, err := Text(c.l); got != c.want || err != nil {
			t.Errorf("%s: %q %v, want %q", c.name, got, err, c.want)
		}
		if got, err := Parse(c.want); told(got) != told(c.l) || err != nil {
			t.Errorf("%s: %s %v, want %s", c.name, told(got), err, told(c.l))
		}
	}
}

// oneLine: a text of one pod of one container, but for these words.
func oneLine(words ...string) string {
	return "pod a 1\ncont b " + strings.Join(words, " ") + "\n"
}

// K3: texts that have their sum, but are none of something that is held.
func TestParseText(t *testing.T) {
	if _, err := Parse(sealed(oneLine("1 2 3 4", "gpu:1", "0-1,3", "0,1"))); err != nil {
		t.Fatal(err)
	}
	l := []string{
		"\n", " ", "x", "pod", "pod\n", "pod a\n", "pod a 1\n", "pod a 1 \n", "pod  1\n",
		"pod a 1\ncont\n", "pod a 1\ncont b\n", "pod a 1\n\n",
		"cont b 1 2 3 4 - - -\n",
		"pod ", // the last "sum " is in its line
		"sum 2166136261\n", sealed(richText), "pod a 1\nsum 1\n",
		strings.TrimSuffix(richText, "\n"), richText + "\n", "\n" + richText, richText + " ",
		strings.ReplaceAll(richText, "\n", "\r\n"), strings.ReplaceAll(richText, " ", "  "), strings.ReplaceAll(richText, " ", "\t"),
		strings.ReplaceAll(richText, "\n", " \n"), strings.ReplaceAll(richText, "cont ", " cont "), strings.ReplaceAll(richText, "cont", "Cont"),
		strings.ReplaceAll(richText, "pod", "pods"), strings.ReplaceAll(richText, "\n", ";"), strings.Replace(richText, "pod a0", "pod a", 1),
		strings.Replace(richText, "pod a ", "pod b ", 1), strings.Replace(richText, "cont b", "cont a", 1), richText + richText,
	}
	for _, name := range []string{"", "A", "9", "abcdefghi", "a-", "-", "\xff", "é"} {
		l = append(l, "pod "+name+" 1\ncont b 1 2 3 4 - - -\n", "pod a 1\ncont "+name+" 1 2 3 4 - - -\n")
	}
	for _, n := range []string{"", "-", "-1", "-0", "+1", "01", "00", "1.0", "1e3", "0x1", "1_0", "x", "1001", "1000001x", "99999999999999999999999"} {
		l = append(l, "pod a "+n+"\ncont b 1 2 3 4 - - -\n")
	}
	for _, n := range []string{"", "-", "-1", "-0", "+1", "01", "1k", "1125899906842625", "9223372036854775807", "9223372036854775808", "99999999999999999999999"} {
		l = append(l, oneLine(n, "0 0 0 - - -"), oneLine("0", n, "0 0 - - -"), oneLine("0 0", n, "0 - - -"), oneLine("0 0 0", n, "- - -"))
	}
	l = append(l, oneLine("1000001 0 0 0 - - -"), oneLine("0 0 1000001 0 - - -"), oneLine("2 0 1 0 - - -"), oneLine("0 2 0 1 - - -"))
	for _, s := range []string{"", "gpu", "gpu:", ":1", ":", "gpu:0", "gpu:17", "gpu:01", "gpu:-1", "gpu:+1", "gpu:1,", ",gpu:1", "gpu:1,,nic:1",
		"nic:1,gpu:1", "gpu:1,gpu:1", "gpu:1:1", "gpu=1", "a:1,b:1,c:1,d:1", "-,-", "--", "A:1", "gpu:1,-", "0"} {
		l = append(l, oneLine("0 0 0 0", s, "- -"))
	}
	for _, s := range []string{"", "5,1", "0,1", "0-0", "1,1", "0-2,1", "64", "0-64", "1-", "-1", "1,", ",1", "01", "a", "--", "2-1", "0-1-2", "-,1", "+1",
		"9223372036854775808", strings.Repeat("1,", 200) + "1"} {
		l = append(l, oneLine("0 0 0 0 -", s, "-"))
	}
	for _, s := range []string{"", "1,0", "1,1", "16", "-1", "01", "1,", ",1", "0-1", "--", "a", "0,-", "+1", "9223372036854775808", "0,1,2,3,4,5,6,7,8,9,10,11,12,13,14,15,16"} {
		l = append(l, oneLine("0 0 0 0 - -", s))
	}
	l = append(l, oneLine("0 0 0 0 - -"), oneLine("0 0 0 0 -"), oneLine("0 0 0 0 - - - -"), oneLine("0 0 0 - - -"))
	for _, s := range l {
		if got, err := Parse(sealed(s)); err != api.ErrText || len(got) != 0 {
			t.Errorf("%.200q: %s %v, want %v", s, told(got), err, api.ErrText)
		}
	}
}

// K1, K3: as many pods, and containers, as may be, and one more.
func TestParseMany(t *testing.T) {
	for many, want := range map[int]error{1: nil, 12: nil, 13: api.ErrText, 60: api.ErrText} {
		s := ""
		for i := range many {
			s += "pod a" + strconv.Itoa(100+i) + " 1\ncont b 0 0 0 0 - - -\n"
		}
		if got, err := Parse(sealed(s)); err != want || want == nil && len(got) != many {
			t.Errorf("%d pods: %d %v, want %v", many, len(got), err, want)
		}
	}
	for many, want := range map[int]error{0: api.ErrText, 1: nil, 3: nil, 4: api.ErrText, 200: api.ErrText} {
		s := "pod a 1\n"
		for i := range many {
			s += "cont b" + strconv.Itoa(i) + " 0 0 0 0 - - -\n"
		}
		if got, err := Parse(sealed(s)); err != want || want == nil && len(got[0].Given) != many {
			t.Errorf("%d containers: %s %v, want %v", many, told(got), err, want)
		}
	}
}

// K3: texts whose sum is another one, or no sum, or not the last that there is.
func TestParseSum(t *testing.T) {
	right := sealed(richText)
	for _, s := range []string{
		"", "\n", "x", richText, "sum", "sum ", "sum \n", "sum 2166136261", "sum 2166136262\n", "sum 02166136261\n", "sum +2166136261\n", "sum -2166136261\n",
		"sum  2166136261\n", "sum 2166136261 \n", "sum 2166136261\r\n", "sum 2166136261\n\n", "sum 2166136261\nx", "sum 6461103557\n",
		"sum 811c9dc5\n", "sum -2128831035\n", " sum 2166136261\n", "\nsum 2166136261\n", "Sum 2166136261\n", "sum\t2166136261\n", "sum:2166136261\n",
		right + right, right + "x", right + "\n", "x" + right, right + "sum ", right + "sum 1\n", strings.TrimSuffix(right, "\n"), right[:len(right)-2] + "\n",
		strings.Replace(right, "pod a 0", "pod a 1", 1), "sum 2166136261\nsum 2166136261\n", strings.Repeat("sum ", 1500),
	} {
		if got, err := Parse(s); err != api.ErrSum || len(got) != 0 {
			t.Errorf("%q: %s %v, want %v", s, told(got), err, api.ErrSum)
		}
	}
}

// long: what is held, of so many bytes of text.
func long(t *testing.T, size int) []api.Held {
	t.Helper()
	l := crowd(api.MaxPods)
	most := amount(api.MaxMilli, api.MaxBytes)
	for i := range l {
		l[i].Pod.Conts = []api.Cont{{Name: "c0", Ask: most, Cap: most}, {Name: "c1", Ask: most, Cap: most}, {Name: "c2", Ask: most}}
		l[i].Given = []api.Given{{Devs: numbers(16)}, {Devs: numbers(16)}, {Devs: numbers(16)}}
	}
	r := rand.New(rand.NewSource(1))
	for range 10000 {
		s, err := Text(l)
		if err != nil {
			t.Fatal(err)
		}
		if len(s) == size {
			return l
		}
		if len(s) < size-5 {
			g := l[r.Intn(len(l))].Given
			g[r.Intn(3)].CPUs |= 1 << (2 * r.Intn(32))
		} else {
			l[r.Intn(len(l))].Pod.Prio = []int{1, 10, 100}[r.Intn(3)]
		}
	}
	t.Fatalf("no text of %d bytes was found", size)
	return nil
}

// K2, K3, K4: texts of as many bytes as a file may have, and of one more: these
// may be told, but neither read nor saved.
func TestParseLong(t *testing.T) {
	for size, want := range map[int]error{api.MaxFile - 1: nil, api.MaxFile: nil, api.MaxFile + 1: api.ErrMany, api.MaxFile + 300: api.ErrMany} {
		l := long(t, size)
		s, _ := Text(l)
		got, err := Parse(s)
		if err != want || want == nil && told(got) != told(l) || want != nil && len(got) != 0 {
			t.Errorf("Parse of %d bytes: %v, want %v", size, err, want)
		}
		d := disk.New()
		if err := Save(d, l); err != want {
			t.Errorf("Save of %d bytes: %v, want %v", size, err, want)
		}
		got, err = Load(d)
		if err != nil || want == nil && told(got) != told(l) || want != nil && len(got) != 0 {
			t.Errorf("Load of %d bytes: %d pods, %v", size, len(got), err)
		}
	}
	for size, want := range map[int]error{6000: api.ErrSum, 6001: api.ErrMany, 1 << 22: api.ErrMany} {
		if _, err := Parse(strings.Repeat("x", size)); err != want {
			t.Errorf("%d bytes: %v, want %v", size, err, want)
		}
	}
	for size, want := range map[int]error{5982: api.ErrText, 6000: api.ErrMany} {
		if _, err := Parse(sealed(strings.Repeat("x", size))); err != want {
			t.Errorf("%d bytes and their sum: %v, want %v", size, err, want)
		}
	}
}

// drawn: something that is held.
func drawn(r *rand.Rand) []api.Held {
	var l []api.Held
	for _, n := range []string{"a", "ab", "b0", "sum", "web", "z"} {
		if r.Intn(2) == 0 {
			continue
		}
		h := api.Held{Pod: api.Pod{Name: n, Prio: r.Intn(api.MaxPrio + 1)}}
		for _, c := range []string{"x", "sum", "a1"}[:1+r.Intn(3)] {
			ask := amount(r.Intn(2)*r.Intn(api.MaxMilli+1), r.Intn(2)*r.Intn(api.MaxBytes+1))
			most := amount(r.Intn(2)*ask.Milli, r.Intn(2)*ask.Bytes)
			var needs []api.Need
			for _, k := range []string{"gpu", "nic", "x9"} {
				if r.Intn(3) == 0 {
					needs = append(needs, api.Need{Kind: k, Many: 1 + r.Intn(api.MaxDevices)})
				}
			}
			h.Pod.Conts = append(h.Pod.Conts, api.Cont{Name: c, Ask: ask, Cap: most, Devs: needs})
			few := bits.List(api.Set(r.Uint64() & r.Uint64() & 0xffff))
			h.Given = append(h.Given, api.Given{CPUs: api.Set(r.Uint64() & r.Uint64()), Devs: few})
		}
		l = append(l, h)
	}
	return l
}

// K2, K3, W6: what is written is read; and what is read is just what would be written.
func TestDrawn(t *testing.T) {
	r := rand.New(rand.NewSource(2))
	for range 1500 {
		l := drawn(r)
		s, err := Text(l)
		if err != nil {
			t.Fatalf("%s: %v", told(l), err)
		}
		if got, err := Parse(s); err != nil || told(got) != told(l) {
			t.Fatalf("%s %v, want %s", told(got), err, told(l))
		}
		ahead := s[:strings.LastIndex(s, "sum ")]
		for range 40 {
			readOrNot(t, sealed(bent(r, ahead)))
		}
		if b := bent(r, s); b != s {
			if got, err := Parse(b); err != api.ErrSum {
				t.Errorf("%q: %s %v", b, told(got), err)
			}
		}
	}
}

// bent: a text with a byte that is another one, is gone, or has come.
func bent(r *rand.Rand, s string) string {
	if s == "" {
		return " "
	}
	at, few := r.Intn(len(s)), "0123456789 \n,:-abpodcnt\x00\xff"
	by := string(few[r.Intn(len(few))])
	switch r.Intn(3) {
	case 0:
		return s[:at] + by + s[at:]
	case 1:
		return s[:at] + s[at+1:]
	}
	return s[:at] + by + s[at+1:]
}

// readOrNot: a text can't be read, or is the text of what is read.
func readOrNot(t *testing.T, s string) {
	t.Helper()
	l, err := Parse(s)
	if err == nil {
		if again, err := Text(l); again != s || err != nil {
			t.Errorf("%q is read as that of %q %v", s, again, err)
		}
		return
	}
	if err != api.ErrText && err != api.ErrSum && err != api.ErrMany || len(l) != 0 {
		t.Errorf("%q: %s %v", s, told(l), err)
	}
}

// FuzzParse: no text makes it panic, and none is read that isn't so written.
func FuzzParse(f *testing.F) {
	f.Add(richText)
	f.Add(sealed(richText))
	f.Add(oneLine("1 2 3 4", "gpu:1,nic:2", "0-1,3", "0,1"))
	f.Fuzz(func(t *testing.T, s string) {
		readOrNot(t, s)
		readOrNot(t, sealed(s))
	})
}
