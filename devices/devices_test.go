package devices

import (
	"math"
	"math/rand"
	"slices"
	"strings"
	"testing"

	"ostlery/api"
)

// mixed: devices of two kinds, on all nodes but one, one of them sick.
func mixed() []api.Dev {
	return []api.Dev{
		{Kind: "gpu", Node: 1},
		{Kind: "nic", Node: 0},
		{Kind: "gpu", Node: 0},
		{Kind: "gpu", Node: 1, Sick: true},
		{Kind: "gpu", Node: 3},
		{Kind: "gpu", Node: 1},
		{Kind: "nic", Node: 3},
		{Kind: "gpu", Node: 0},
	}
}

// full: as many devices as may be, all of one kind, four on each node.
func full() []api.Dev {
	var l []api.Dev
	for n := range api.MaxDevices {
		l = append(l, api.Dev{Kind: "a", Node: n % api.MaxNodes})
	}
	return l
}

func poolOf(t *testing.T, l []api.Dev) *Pool {
	t.Helper()
	p, err := New(l)
	if err != nil || p == nil {
		t.Fatalf("New(%v): %v, %v", l, p, err)
	}
	return p
}

// usedOf: the numbers of those that are used, as the pool tells them.
func usedOf(t *testing.T, p *Pool) []int {
	t.Helper()
	var l []int
	for n := range p.Devices() {
		on, err := p.Used(n)
		if err != nil {
			t.Fatalf("Used(%d): %v", n, err)
		}
		if on {
			l = append(l, n)
		}
	}
	return l
}

func wantUsed(t *testing.T, name string, p *Pool, want []int) {
	t.Helper()
	if got := usedOf(t, p); !slices.Equal(got, want) {
		t.Errorf("%s: %v are used, want %v", name, got, want)
	}
}

// F1: what is a name, at each length and with each byte at each place.
func TestName(t *testing.T) {
	for _, s := range []string{"a", "z", "m", "gpu", "a0", "z9", "a0000000", "abcdefgh", "zzzzzzzz", "a1b2c3d4"} {
		if !Name(s) {
			t.Errorf("%q is a name", s)
		}
	}
	for _, s := range []string{
		"", "0", "9a", "A", "Gpu", "gpU", "abcdefghi", "a00000000", "1234567", " ", "a ", " a", "a-b", "a_b", "a.b", "a:b",
		"a/b", "a=1", "a+b", "a\n", "\x00", "a\x00", "\x7f", "\x80", "a\xff", "é", "aé", "ａ", "a\u0661", "-1",
		strings.Repeat("a", 255), strings.Repeat("a", 256), strings.Repeat("a", 257), strings.Repeat("a", 1<<20),
	} {
		if Name(s) {
			t.Errorf("%q is no name", s)
		}
	}
	for long := 1; long <= api.MaxName+1; long++ {
		for at := range long {
			for b := range 256 {
				s := []byte(strings.Repeat("q", long))
				s[at] = byte(b)
				want := strings.Contains("abcdefghijklmnopqrstuvwxyz", string(rune(b))) || at > 0 && strings.Contains("0123456789", string(rune(b)))
				if Name(string(s)) != (want && long <= api.MaxName) {
					t.Errorf("Name(%q): %v", s, Name(string(s)))
				}
			}
		}
	}
}

// F1: what is wrong with devices, and what of several wrong things is told. Z1:
// with an error there is no pool; Z3: it is a bare one.
func TestNewWrong(t *testing.T) {
	good, bad, far, near := api.Dev{Kind: "gpu"}, api.Dev{Kind: "Gpu"}, api.Dev{Kind: "gpu", Node: 4}, api.Dev{Kind: "gpu", Node: -1}
	for _, c := range []struct {
		name string
		l    []api.Dev
		want error
	}{
		{"none", nil, nil},
		{"as many as may be", full(), nil},
		{"one too many", append(full(), good), api.ErrMany},
		{"too many, and none of them may be", slices.Repeat([]api.Dev{bad}, 17), api.ErrMany},
		{"far too many", slices.Repeat([]api.Dev{good}, 100000), api.ErrMany},
		{"no kind", []api.Dev{{}}, api.ErrShape},
		{"no name", []api.Dev{bad}, api.ErrShape},
		{"a name too long", []api.Dev{{Kind: "abcdefghi"}}, api.ErrShape},
		{"the longest name", []api.Dev{{Kind: "abcdefgh"}}, nil},
		{"the lowest node", []api.Dev{{Kind: "gpu", Node: 0}}, nil},
		{"the greatest node", []api.Dev{{Kind: "gpu", Node: 3}}, nil},
		{"a node too great", []api.Dev{far}, api.ErrBound},
		{"a node far too great", []api.Dev{{Kind: "gpu", Node: math.MaxInt}}, api.ErrBound},
		{"a node below 0", []api.Dev{near}, api.ErrBound},
		{"a node far below 0", []api.Dev{{Kind: "gpu", Node: math.MinInt}}, api.ErrBound},
		{"no name on no node", []api.Dev{{Kind: "", Node: 4}}, api.ErrShape},
		{"no node, then no name", []api.Dev{good, far, bad}, api.ErrBound},
		{"no name, then no node", []api.Dev{good, bad, far}, api.ErrShape},
		{"the last one, sick", []api.Dev{good, good, {Kind: "1", Sick: true}}, api.ErrShape},
	} {
		p, err := New(c.l)
		if err != c.want || (p == nil) != (c.want != nil) {
			t.Errorf("%s: %v, %v, want %v", c.name, p, err, c.want)
		}
	}
}

// F1: a new pool has what it was made of, and nothing of it is used.
func TestNewPool(t *testing.T) {
	for _, l := range [][]api.Dev{nil, mixed(), full()} {
		p := poolOf(t, l)
		if got := p.Devices(); !slices.Equal(got, l) {
			t.Errorf("%v, want %v", got, l)
		}
		wantUsed(t, "new", p, nil)
	}
}

// F1: who is sick is told, and nothing but that changes; who is used stays so.
func TestSick(t *testing.T) {
	p, want := poolOf(t, mixed()), mixed()
	if err := p.Claim([]int{0, 3}); err != nil {
		t.Fatal(err)
	}
	for _, c := range []struct {
		n  int
		on bool
	}{{0, true}, {0, true}, {7, true}, {3, false}, {3, false}, {0, false}, {1, false}, {6, true}} {
		if err := p.Sick(c.n, c.on); err != nil {
			t.Errorf("Sick(%d, %v): %v", c.n, c.on, err)
		}
		want[c.n].Sick = c.on
		if got := p.Devices(); !slices.Equal(got, want) {
			t.Errorf("Sick(%d, %v): %v, want %v", c.n, c.on, got, want)
		}
		wantUsed(t, "sick or well", p, []int{0, 3})
	}
}

// F1: there is no such device: of a pool with some, with none, with all that may be.
func TestNoSuchDevice(t *testing.T) {
	for _, c := range []struct {
		l []api.Dev
		n []int
	}{
		{mixed(), []int{-1, 8, 9, 15, 16, 17, math.MinInt, math.MaxInt}},
		{nil, []int{-1, 0, 1, 15, 16}},
		{full(), []int{-1, 16, 17, math.MinInt, math.MaxInt}},
	} {
		p := poolOf(t, c.l)
		for _, n := range c.n {
			if on, err := p.Used(n); on || err != api.ErrBound {
				t.Errorf("Used(%d): %v, %v", n, on, err)
			}
			for _, on := range []bool{true, false} {
				if err := p.Sick(n, on); err != api.ErrBound {
					t.Errorf("Sick(%d, %v): %v", n, on, err)
				}
			}
		}
		if got := p.Devices(); !slices.Equal(got, c.l) {
			t.Errorf("%v, want %v", got, c.l)
		}
	}
}

type counts = [api.MaxNodes]int

// F2: of each kind so many are free and so many are there; sick ones are neither.
func TestCount(t *testing.T) {
	p := poolOf(t, mixed())
	check := func(name, kind string, free, all counts) {
		t.Helper()
		if f, a := p.Count(kind); f != free || a != all {
			t.Errorf("%s: %v of %v, want %v of %v", name, f, a, free, all)
		}
	}
	check("gpu", "gpu", counts{2, 2, 0, 1}, counts{2, 2, 0, 1})
	check("nic", "nic", counts{1, 0, 0, 1}, counts{1, 0, 0, 1})
	for _, kind := range []string{"", "gp", "gpuu", "GPU", "tpu", "\xff", strings.Repeat("gpu", 9999)} {
		check("none of that kind", kind, counts{}, counts{})
	}
	if err := p.Claim([]int{0, 3, 4, 6}); err != nil {
		t.Fatal(err)
	}
	check("used", "gpu", counts{2, 1, 0, 0}, counts{2, 2, 0, 1})
	check("used", "nic", counts{1, 0, 0, 0}, counts{1, 0, 0, 1})
	for n, sick := range map[int]bool{3: false, 0: true, 2: true} {
		if err := p.Sick(n, sick); err != nil {
			t.Fatal(err)
		}
	}
	check("a used one is well, a used one and a free one are sick", "gpu", counts{1, 1, 0, 0}, counts{1, 2, 0, 1})
	if err := p.Give([]int{0, 3}); err != nil {
		t.Fatal(err)
	}
	check("given back, one of them sick", "gpu", counts{1, 2, 0, 0}, counts{1, 2, 0, 1})
}

// F2: those on the nodes go first, then others, by rising numbers; what is told
// rises; what is wrong, and that nothing is taken then.
func TestTake(t *testing.T) {
	for _, c := range []struct {
		name  string
		claim []int
		kind  string
		many  int
		on    api.Mask
		want  []int
		err   error
	}{
		{"the lowest, no node being named", nil, "gpu", 2, 0, []int{0, 2}, nil},
		{"the lowest of a node", nil, "gpu", 1, 1, []int{2}, nil},
		{"of one node all, a sick one passed over", nil, "gpu", 2, 2, []int{0, 5}, nil},
		{"of one node more than it has", nil, "gpu", 3, 1, []int{0, 2, 7}, nil},
		{"of one node, then the lowest others", nil, "gpu", 3, 8, []int{0, 2, 4}, nil},
		{"of two nodes by numbers, not by nodes", nil, "gpu", 2, 3, []int{0, 2}, nil},
		{"of two nodes all, and one more", nil, "gpu", 4, 9, []int{0, 2, 4, 7}, nil},
		{"of a node that has none", nil, "gpu", 2, 4, []int{0, 2}, nil},
		{"of all nodes", nil, "gpu", 3, 15, []int{0, 2, 4}, nil},
		{"of nodes that may not be", nil, "gpu", 2, 0xf0, []int{0, 2}, nil},
		{"of a node, and of nodes that may not be", nil, "gpu", 1, 0xf8, []int{4}, nil},
		{"all that are well", nil, "gpu", 5, 8, []int{0, 2, 4, 5, 7}, nil},
		{"one more than are well", nil, "gpu", 6, 8, nil, api.ErrDevices},
		{"far more", nil, "gpu", math.MaxInt, 15, nil, api.ErrDevices},
		{"another kind", nil, "nic", 1, 8, []int{6}, nil},
		{"another kind, all of it", nil, "nic", 2, 8, []int{1, 6}, nil},
		{"used ones are passed over", []int{0, 2}, "gpu", 2, 3, []int{5, 7}, nil},
		{"used ones on the node, then others", []int{2}, "gpu", 2, 1, []int{0, 7}, nil},
		{"all that are free", []int{0, 2, 7}, "gpu", 2, 1, []int{4, 5}, nil},
		{"one more than are free", []int{0, 2, 7}, "gpu", 3, 1, nil, api.ErrDevices},
		{"none", nil, "gpu", 0, 1, nil, nil},
		{"none of a kind that there isn't", nil, "tpu", 0, 1, nil, nil},
		{"none of what is no name", nil, "", 0, 1, nil, nil},
		{"one of a kind that there isn't", nil, "tpu", 1, 15, nil, api.ErrDevices},
		{"one of what is no name", nil, "GPU", 1, 15, nil, api.ErrDevices},
		{"below 0", nil, "gpu", -1, 15, nil, api.ErrBound},
		{"far below 0", nil, "gpu", math.MinInt, 15, nil, api.ErrBound},
		{"below 0 of a kind that there isn't", nil, "tpu", -1, 15, nil, api.ErrBound},
	} {
		p := poolOf(t, mixed())
		if err := p.Claim(c.claim); err != nil {
			t.Fatal(err)
		}
		got, err := p.Take(c.kind, c.many, c.on)
		if !slices.Equal(got, c.want) || err != c.err {
			t.Errorf("%s: %v, %v, want %v, %v", c.name, got, err, c.want, c.err)
		}
		used := append(slices.Clone(c.claim), c.want...)
		slices.Sort(used)
		wantUsed(t, c.name, p, used)
		if got := p.Devices(); !slices.Equal(got, mixed()) {
			t.Errorf("%s: they are %v now", c.name, got)
		}
	}
}

// F2: what was taken is not taken again, until it is given back.
func TestTakeAgain(t *testing.T) {
	p := poolOf(t, full())
	for round := range 3 {
		for n := range api.MaxDevices {
			node, many := n/4, n%4
			got, err := p.Take("a", 1, 1<<node)
			if !slices.Equal(got, []int{many*4 + node}) || err != nil {
				t.Fatalf("round %d, %d: %v, %v", round, n, got, err)
			}
		}
		if got, err := p.Take("a", 1, 15); got != nil || err != api.ErrDevices {
			t.Fatalf("%v, %v", got, err)
		}
		if got, err := p.Take("a", 0, 15); len(got) != 0 || err != nil {
			t.Fatalf("%v, %v", got, err)
		}
		if err := p.Give(usedOf(t, p)); err != nil {
			t.Fatal(err)
		}
	}
}

// F3: what is claimed is used, all or none; what is wrong, in order; a sick one
// may be claimed.
func TestClaim(t *testing.T) {
	for _, c := range []struct {
		name  string
		first []int
		l     []int
		want  []int
		err   error
	}{
		{"none", nil, nil, nil, nil},
		{"none beside some", []int{4}, []int{}, []int{4}, nil},
		{"one", nil, []int{3}, []int{3}, nil},
		{"some, falling", []int{1}, []int{7, 5, 0}, []int{0, 1, 5, 7}, nil},
		{"all", nil, []int{0, 1, 2, 3, 4, 5, 6, 7}, []int{0, 1, 2, 3, 4, 5, 6, 7}, nil},
		{"one that there isn't", nil, []int{0, 8}, nil, api.ErrBound},
		{"one below 0", nil, []int{0, -1}, nil, api.ErrBound},
		{"far below 0", nil, []int{math.MinInt}, nil, api.ErrBound},
		{"far beyond", nil, []int{math.MaxInt}, nil, api.ErrBound},
		{"one that may be, but there isn't", nil, []int{15}, nil, api.ErrBound},
		{"one that is used", []int{4}, []int{0, 4, 5}, []int{4}, api.ErrExist},
		{"one twice", nil, []int{5, 5}, nil, api.ErrExist},
		{"one twice, apart", []int{1}, []int{5, 0, 2, 5}, []int{1}, api.ErrExist},
		{"used, then none", []int{4}, []int{4, 8}, []int{4}, api.ErrExist},
		{"none, then used", []int{4}, []int{8, 4}, []int{4}, api.ErrBound},
		{"twice, then none", nil, []int{0, 0, -1}, nil, api.ErrExist},
		{"none, then twice", nil, []int{-1, 0, 0}, nil, api.ErrBound},
		{"none, twice", nil, []int{8, 8}, nil, api.ErrBound},
	} {
		p := poolOf(t, mixed())
		if err := p.Claim(c.first); err != nil {
			t.Fatalf("%s: %v", c.name, err)
		}
		if err := p.Claim(c.l); err != c.err {
			t.Errorf("%s: %v, want %v", c.name, err, c.err)
		}
		wantUsed(t, c.name, p, c.want)
	}
}

// F3: what is given back is free, all or none; what is wrong, in order; one that
// stands there twice is given back.
func TestGive(t *testing.T) {
	for _, c := range []struct {
		name  string
		first []int
		l     []int
		want  []int
		err   error
	}{
		{"none of none", nil, nil, nil, nil},
		{"none", []int{1, 3}, []int{}, []int{1, 3}, nil},
		{"one", []int{1, 3}, []int{3}, []int{1}, nil},
		{"all, falling", []int{1, 3, 7}, []int{7, 3, 1}, nil, nil},
		{"one twice", []int{1, 3}, []int{3, 3}, []int{1}, nil},
		{"one twice, apart", []int{1, 3, 5}, []int{3, 1, 3}, []int{5}, nil},
		{"one that there isn't", []int{1, 3}, []int{1, 8}, []int{1, 3}, api.ErrBound},
		{"one below 0", []int{1, 3}, []int{1, -1}, []int{1, 3}, api.ErrBound},
		{"far below 0", nil, []int{math.MinInt}, nil, api.ErrBound},
		{"far beyond", nil, []int{math.MaxInt}, nil, api.ErrBound},
		{"one that may be, but there isn't", nil, []int{15}, nil, api.ErrBound},
		{"one that isn't used", []int{1, 3}, []int{3, 2, 1}, []int{1, 3}, api.ErrNone},
		{"not used, then none", []int{1}, []int{1, 2, 8}, []int{1}, api.ErrNone},
		{"none, then not used", []int{1}, []int{1, 8, 2}, []int{1}, api.ErrBound},
		{"not used, twice", []int{1}, []int{2, 2}, []int{1}, api.ErrNone},
	} {
		p := poolOf(t, mixed())
		if err := p.Claim(c.first); err != nil {
			t.Fatalf("%s: %v", c.name, err)
		}
		if err := p.Give(c.l); err != c.err {
			t.Errorf("%s: %v, want %v", c.name, err, c.err)
		}
		wantUsed(t, c.name, p, c.want)
	}
}

// Z1: long lists end: of those that may be claimed once, and given back often.
func TestLongLists(t *testing.T) {
	p, long := poolOf(t, full()), make([]int, 1<<20)
	if err := p.Claim(long); err != api.ErrExist {
		t.Error(err)
	}
	if err := p.Give(long); err != api.ErrNone {
		t.Error(err)
	}
	wantUsed(t, "none yet", p, nil)
	if err := p.Claim([]int{15, 0}); err != nil {
		t.Error(err)
	}
	if err := p.Give(long); err != nil {
		t.Error(err)
	}
	wantUsed(t, "one given back often", p, []int{15})
}

// slow: F1 to F3 read word by word: a device is a row of its own.
type row struct {
	api.Dev
	used bool
}

type slow []row

func (s slow) is(n int) bool { return 0 <= n && n < len(s) }

func (s slow) count(kind string) (free, all counts) {
	for node := 0; node < 4; node++ {
		for n := 0; n < len(s); n++ {
			if s[n].Kind == kind && s[n].Node == node && !s[n].Sick {
				all[node]++
				if !s[n].used {
					free[node]++
				}
			}
		}
	}
	return free, all
}

func (s slow) take(kind string, many int, on api.Mask) ([]int, error) {
	if many < 0 {
		return nil, api.ErrBound
	}
	may := func(n int) bool { return s[n].Kind == kind && !s[n].used && !s[n].Sick }
	there := 0
	for n := range s {
		if may(n) {
			there++
		}
	}
	if there < many {
		return nil, api.ErrDevices
	}
	var out []int
	for _, near := range []bool{true, false} {
		for n := 0; n < len(s); n++ {
			if len(out) < many && may(n) && (on&[]api.Mask{1, 2, 4, 8}[s[n].Node] != 0) == near {
				out = append(out, n)
				s[n].used = true
			}
		}
	}
	slices.Sort(out)
	return out, nil
}

func (s slow) claim(l []int) error {
	for i, n := range l {
		if !s.is(n) {
			return api.ErrBound
		}
		if s[n].used || slices.Contains(l[:i], n) {
			return api.ErrExist
		}
	}
	for _, n := range l {
		s[n].used = true
	}
	return nil
}

func (s slow) give(l []int) error {
	for _, n := range l {
		if !s.is(n) {
			return api.ErrBound
		}
		if !s[n].used {
			return api.ErrNone
		}
	}
	for _, n := range l {
		s[n].used = false
	}
	return nil
}

func (s slow) same(t *testing.T, p *Pool) {
	t.Helper()
	var devs []api.Dev
	var used []int
	for n, r := range s {
		devs = append(devs, r.Dev)
		if r.used {
			used = append(used, n)
		}
	}
	if got := p.Devices(); !slices.Equal(got, devs) {
		t.Fatalf("%v, want %v", got, devs)
	}
	wantUsed(t, "drawn", p, used)
	for _, kind := range []string{"a", "b", "c"} {
		free, all := s.count(kind)
		if f, a := p.Count(kind); f != free || a != all {
			t.Fatalf("Count(%q): %v, %v, want %v, %v", kind, f, a, free, all)
		}
	}
}

// F1 to F3, Z1: drawn pools and calls on them: each answers what the document's
// words say, and so it is behind it, behind errors too.
func TestDrawn(t *testing.T) {
	r := rand.New(rand.NewSource(7))
	told := map[error]int{}
	for range 1000 {
		var s slow
		var l []api.Dev
		for range r.Intn(api.MaxDevices + 1) {
			l = append(l, api.Dev{Kind: string(rune('a' + r.Intn(2))), Node: r.Intn(api.MaxNodes), Sick: r.Intn(5) == 0})
			s = append(s, row{Dev: l[len(l)-1]})
		}
		p := poolOf(t, l)
		for range 40 {
			some := r.Perm(len(l) + 1)[:r.Intn(min(5, len(l)+1))]
			if len(some) > 0 && r.Intn(6) == 0 {
				some = append(some, some[0], r.Intn(20)-2)
			}
			var got, want error
			switch n, on := r.Intn(len(l)+2)-1, r.Intn(2) == 0; r.Intn(4) {
			case 0:
				kind, many, nodes := string(rune('a'+r.Intn(3))), r.Intn(6)-1, api.Mask(r.Intn(256))
				var a, b []int
				a, got = p.Take(kind, many, nodes)
				b, want = s.take(kind, many, nodes)
				if !slices.Equal(a, b) {
					t.Fatalf("Take(%q, %d, %b): %v, want %v", kind, many, nodes, a, b)
				}
			case 1:
				got, want = p.Claim(some), s.claim(some)
			case 2:
				got, want = p.Give(some), s.give(some)
			case 3:
				got = p.Sick(n, on)
				if want = api.ErrBound; s.is(n) {
					want, s[n].Sick = nil, on
				}
			}
			if got != want {
				t.Fatalf("%v: %v, want %v", some, got, want)
			}
			told[got]++
			s.same(t, p)
		}
	}
	for _, e := range []error{nil, api.ErrBound, api.ErrDevices, api.ErrExist, api.ErrNone} {
		if told[e] < 500 {
			t.Errorf("only %d calls end with %v", told[e], e)
		}
	}
}

// Z2: a list that is handed in is not kept, written into, nor read behind.
func TestListsIn(t *testing.T) {
	room := append(mixed(), api.Dev{Kind: "No", Node: 9}, api.Dev{Kind: "No", Node: 9})
	p := poolOf(t, room[:8])
	if !slices.Equal(room[:8], mixed()) || room[8].Kind != "No" {
		t.Errorf("New wrote: %v", room)
	}
	for i := range room {
		room[i] = api.Dev{Kind: "tpu", Node: 2, Sick: true}
	}
	if err := p.Sick(0, true); err != nil || room[1].Kind != "tpu" {
		t.Error(err)
	}
	room[0].Sick = false
	want := mixed()
	want[0].Sick = true
	if got := p.Devices(); !slices.Equal(got, want) {
		t.Errorf("New kept: %v", got)
	}
	l := []int{7, 2, 5, -1, 99}
	for _, call := range []func([]int) error{p.Claim, p.Give, p.Claim} {
		if err := call(l[:3]); err != nil || !slices.Equal(l, []int{7, 2, 5, -1, 99}) {
			t.Errorf("%v, %v", err, l)
		}
	}
	clear(l)
	wantUsed(t, "behind a change of the list", p, []int{2, 5, 7})
}

// Z2: what comes out is the caller's; pools share nothing.
func TestListsOut(t *testing.T) {
	p, other := poolOf(t, mixed()), poolOf(t, mixed())
	a, b := p.Devices(), p.Devices()
	a = append(a[:4], api.Dev{Kind: "tpu"})
	if !slices.Equal(b, mixed()) || !slices.Equal(p.Devices(), mixed()) || len(a) != 5 {
		t.Errorf("%v, %v", b, p.Devices())
	}
	x, err := p.Take("gpu", 2, 0)
	y, again := p.Take("gpu", 2, 0)
	if err != nil || again != nil {
		t.Fatal(err, again)
	}
	x = append(x[:0], 7, 7, 7)
	if !slices.Equal(y, []int{4, 5}) || len(x) != 3 {
		t.Errorf("%v, %v", x, y)
	}
	wantUsed(t, "behind a change of what was taken", p, []int{0, 2, 4, 5})
	wantUsed(t, "another pool", other, nil)
	free, all := p.Count("nic")
	free[0], all[0] = 9, 9
	if free, all = p.Count("nic"); free[0] != 1 || all[0] != 1 {
		t.Errorf("%v, %v", free, all)
	}
}
