package pick

import (
	"math"
	"math/rand"
	"slices"
	"testing"

	"ostlery/api"
	"ostlery/bits"
	"ostlery/topo"
)

const every = ^api.Set(0)

// machine of so many sockets, cores a socket and processors a core; each
// socket is on a node of its own, as far as there are nodes. The second
// processors of cores are numbered behind all first ones.
func machine(sockets, cores, threads int) []api.CPU {
	var l []api.CPU
	for range threads {
		for c := range sockets * cores {
			l = append(l, api.CPU{Core: c, Socket: c / cores, Node: c / cores % api.MaxNodes})
		}
	}
	return l
}

// broad: one socket on the nodes 0 and 1, one on node 1; two processors a core,
// which stand beside each other.
func broad() []api.CPU {
	return []api.CPU{
		{Core: 0, Socket: 0, Node: 0}, {Core: 0, Socket: 0, Node: 0},
		{Core: 1, Socket: 0, Node: 1}, {Core: 1, Socket: 0, Node: 1},
		{Core: 2, Socket: 1, Node: 1}, {Core: 2, Socket: 1, Node: 1},
	}
}

// uneven: cores of one, two, three and four processors, in one socket.
func uneven() []api.CPU {
	var l []api.CPU
	for _, core := range []int{3, 2, 1, 0, 3, 2, 1, 3, 2, 3} {
		l = append(l, api.CPU{Core: core})
	}
	return l
}

// inSockets: a processor in each of these sockets, a core of its own.
func inSockets(sockets ...int) []api.CPU {
	var l []api.CPU
	for core, socket := range sockets {
		l = append(l, api.CPU{Core: core, Socket: socket})
	}
	return l
}

// backward: sockets and cores of falling numbers; the greatest numbers that
// there may be are among them.
func backward() []api.CPU {
	return []api.CPU{
		{Core: 63, Socket: 63, Node: 3}, {Core: 63, Socket: 63, Node: 3},
		{Core: 9, Socket: 63, Node: 3}, {Core: 9, Socket: 63, Node: 3},
		{Core: 8, Socket: 7, Node: 3}, {Core: 8, Socket: 7, Node: 3},
		{Core: 5, Socket: 7, Node: 3}, {Core: 5, Socket: 7, Node: 3},
	}
}

func topoOf(t *testing.T, l []api.CPU) *topo.Topo {
	t.Helper()
	m, err := topo.New(l)
	if err != nil {
		t.Fatalf("New(%v): %v", l, err)
	}
	return m
}

func setOf(t *testing.T, text string) api.Set {
	t.Helper()
	s, err := bits.Parse(text)
	if err != nil {
		t.Fatalf("Parse(%q): %v", text, err)
	}
	return s
}

type ask struct {
	name string
	cpus []api.CPU
	free string
	many int
	on   api.Mask
	want string
	err  error
}

func takeAll(t *testing.T, asks []ask) {
	t.Helper()
	for _, a := range asks {
		got, err := Take(topoOf(t, a.cpus), setOf(t, a.free), a.many, a.on)
		if got != setOf(t, a.want) || err != a.err {
			t.Errorf("%s: %q, %v, want %q, %v", a.name, bits.Text(got), err, a.want, a.err)
		}
	}
}

// E1: what is wrong, and what of several wrong things is told; Z3: each error
// is a bare one. Z1: with an error there is no set.
func TestWrong(t *testing.T) {
	full := machine(4, 8, 2)
	takeAll(t, []ask{
		{"below 0", full, "0-63", -1, 15, "", api.ErrBound},
		{"far below 0", full, "0-63", math.MinInt, 15, "", api.ErrBound},
		{"none of all", full, "0-63", 0, 15, "", nil},
		{"none of none", full, "", 0, 0, "", nil},
		{"as many as may be", full, "0-63", 64, 0, "0-63", nil},
		{"more than may be", full, "0-63", 65, 15, "", api.ErrBound},
		{"far more than may be", full, "0-63", math.MaxInt, 15, "", api.ErrBound},
		{"more than may be of a few", broad(), "0-5", 65, 3, "", api.ErrBound},
		{"one that there isn't", broad(), "0-6", 1, 3, "", api.ErrBound},
		{"one that there isn't, and nothing is wanted", broad(), "63", 0, 3, "", api.ErrBound},
		{"one that there isn't, and too many", broad(), "63", 5, 3, "", api.ErrBound},
		{"below 0 of none", broad(), "", -1, 3, "", api.ErrBound},
		{"one of none", broad(), "", 1, 3, "", api.ErrCPUs},
		{"one too many", broad(), "1,3-4", 4, 3, "", api.ErrCPUs},
		{"just as many", broad(), "1,3-4", 3, 3, "1,3-4", nil},
		{"more than there are", broad(), "0-5", 64, 3, "", api.ErrCPUs},
		{"more than there are at all", broad(), "0-5", 7, 0, "", api.ErrCPUs},
	})
}

// E1: those on the nodes go first, as many as can be, then the others.
func TestNodesFirst(t *testing.T) {
	full := machine(4, 2, 2) // socket i: processors 2i, 2i+1, 2i+8, 2i+9, on node i
	takeAll(t, []ask{
		{"on a node", full, "0-15", 4, 4, "4-5,12-13", nil},
		{"on two nodes", full, "0-15", 6, 10, "2-3,6,10-11,14", nil},
		{"on no node", full, "0-15", 5, 0, "0-2,8-9", nil},
		{"on nodes that may not be", full, "0-15", 5, 0xf0, "0-2,8-9", nil},
		{"on one that may be, and others", full, "0-15", 4, 0xf8, "6-7,14-15", nil},
		{"a socket more than the node has", full, "0-15", 8, 8, "0-1,6-9,14-15", nil},
		{"a core more than the node has", full, "0-15", 6, 8, "0,6-8,14-15", nil},
		{"one more than the node has", full, "0-15", 5, 8, "0,6-7,14-15", nil},
		{"broken cores of the node go ahead of whole ones elsewhere", full, "0-5,7-13", 2, 8, "0,7", nil},
		{"a whole core elsewhere, what the node has being taken", full, "0-5,7-13", 3, 8, "0,7-8", nil},
		{"the node has nothing free", full, "0-3,8-11", 5, 4, "0-2,8-9", nil},
		{"all nodes", full, "0-15", 16, 15, "0-15", nil},
		{"a socket on two nodes isn't whole on one of them", broad(), "0-5", 4, 2, "2-5", nil},
		{"of a socket on two nodes one single", broad(), "0-5", 3, 2, "2,4-5", nil},
		{"a socket on two nodes is whole on both", broad(), "0-5", 4, 3, "0-3", nil},
		{"what is left elsewhere is no whole socket", broad(), "0-5", 5, 2, "0,2-5", nil},
		{"a socket on two nodes, none of them named", broad(), "0-5", 4, 0, "0-3", nil},
	})
}

// E2: whole sockets, rising, then whole cores, rising, then single ones.
func TestWholesFirst(t *testing.T) {
	two := machine(2, 3, 2) // socket 0: 0-2,6-8; socket 1: 3-5,9-11
	growing, shrinking := inSockets(0, 1, 1, 2, 2, 2), inSockets(0, 0, 0, 1, 1, 2)
	takeAll(t, []ask{
		{"the first socket", two, "0-11", 6, 0, "0-2,6-8", nil},
		{"the second socket, one of the first being taken", two, "1-11", 6, 0, "3-5,9-11", nil},
		{"no socket, if it is one too many", two, "0-11", 5, 0, "0-2,6-7", nil},
		{"a socket and a core", two, "0-11", 8, 0, "0-3,6-9", nil},
		{"a socket and a core ahead of it", two, "1-11", 8, 0, "1,3-5,7,9-11", nil},
		{"a socket, a core and a single one", two, "0-11", 9, 0, "0-4,6-9", nil},
		{"both sockets", two, "0-11", 12, 0, "0-11", nil},
		{"small sockets ahead of a great one that would fit", growing, "0-5", 3, 0, "0-2", nil},
		{"a socket, and of one that is too great a core", growing, "0-5", 2, 0, "0-1", nil},
		{"the third socket, the second one being broken", growing, "0-1,3-5", 4, 0, "0,3-5", nil},
		{"no third socket, as too few are wanted still", growing, "0-1,3-5", 3, 0, "0-1,3", nil},
		{"a socket that is too great, and one behind it", shrinking, "0-5", 2, 0, "3-4", nil},
		{"two sockets that are too great, and one behind them", shrinking, "0-5", 1, 0, "5", nil},
		{"a socket, one that is too great still, and one behind it", shrinking, "0-5", 4, 0, "0-2,5", nil},
		{"cores rising", two, "0-11", 4, 0, "0-1,6-7", nil},
		{"a broken core is passed over", two, "0,2-5,7-11", 4, 0, "2-3,8-9", nil},
		{"a core of one processor", uneven(), "0-9", 1, 0, "3", nil},
		{"cores of one and two", uneven(), "0-9", 3, 0, "2-3,6", nil},
		{"cores of one, two and three", uneven(), "0-9", 6, 0, "1-3,5-6,8", nil},
		{"a core too great is passed over", uneven(), "0-1,3-9", 4, 0, "1,3,5,8", nil},
		{"a core, and a single one of no further core", backward(), "0-7", 3, 0, "0,6-7", nil},
		{"by numbers of sockets, not of processors", backward(), "0-7", 4, 8, "4-7", nil},
		{"by numbers of cores, not of processors", backward(), "0-7", 2, 8, "6-7", nil},
		{"the greatest core", backward(), "0-1,3,5,7", 2, 8, "0-1", nil},
		{"the greatest socket", backward(), "0-3,5,7", 4, 8, "0-3", nil},
	})
}

// E2: single ones go by how few of their core are free, then by their numbers.
func TestSingles(t *testing.T) {
	two := machine(2, 3, 2)
	one := machine(1, 64, 1)
	takeAll(t, []ask{
		{"a broken core ahead of whole ones", two, "0-4,6-11", 1, 0, "11", nil},
		{"a broken core ahead of whole ones with lower numbers", two, "0-3,5-10", 1, 0, "5", nil},
		{"the lowest of broken ones", two, "0,3,5-10", 1, 0, "5", nil},
		{"numbers, not cores, are in order", two, "2-3,7,9", 1, 0, "2", nil},
		{"a whole core ahead of broken ones", two, "1-3,6,8-10", 2, 0, "2,8", nil},
		{"two of broken cores", two, "1-2,6,9", 2, 0, "1-2", nil},
		{"fewest, then more", uneven(), "0-2,4-5,7", 1, 0, "2", nil},
		{"fewest first, then the next, by their numbers", uneven(), "0-2,4-5,7", 2, 0, "1-2", nil},
		{"all of the fewest, then the next", uneven(), "0-1,4-5,7", 3, 0, "0-1,5", nil},
		{"as it was when single ones began", uneven(), "0-1,4-5", 2, 0, "0-1", nil},
		{"behind a socket, of a broken core", broad(), "0-1,3-5", 3, 0, "3-5", nil},
		{"the last one", one, "63", 1, 0, "63", nil},
		{"each a core of its own", one, "5-63", 58, 0, "5-62", nil},
	})
}

// slow: E1 and E2 read word by word, on lists of numbers and by no other package.
func slow(cpus []api.CPU, free []int, many int, on api.Mask) []int {
	var near, far, out []int
	for _, n := range free {
		if on&(1<<cpus[n].Node) != 0 {
			near = append(near, n)
		} else {
			far = append(far, n)
		}
	}
	out = append(out, slowSome(cpus, near, many)...)
	if len(out) < many {
		out = append(out, slowSome(cpus, far, many-len(out))...)
	}
	slices.Sort(out)
	return out
}

func slowSome(cpus []api.CPU, these []int, wanted int) []int {
	var out []int
	taken := func(n int) bool { return slices.Contains(out, n) }
	whole := func(in func(api.CPU) bool) {
		var all []int
		for n, c := range cpus {
			if in(c) {
				all = append(all, n)
			}
		}
		for _, n := range all {
			if !slices.Contains(these, n) || taken(n) {
				return
			}
		}
		if len(all) <= wanted-len(out) {
			out = append(out, all...)
		}
	}
	for k := 0; k < 64; k++ {
		whole(func(c api.CPU) bool { return c.Socket == k })
	}
	for k := 0; k < 64; k++ {
		whole(func(c api.CPU) bool { return c.Core == k })
	}
	var begin []int
	for _, n := range these {
		if !taken(n) {
			begin = append(begin, n)
		}
	}
	for few := 1; few <= 64; few++ {
		for n := 0; n < 64; n++ {
			if !slices.Contains(begin, n) || len(out) == wanted {
				continue
			}
			beside := 0
			for _, m := range begin {
				if cpus[m].Core == cpus[n].Core {
					beside++
				}
			}
			if beside == few {
				out = append(out, n)
			}
		}
	}
	return out
}

// drawn machine: cores of numbers that aren't in a row, of uneven sizes, in
// few sockets, which may lie on several nodes.
func drawn(r *rand.Rand) []api.CPU {
	cores := make([]api.CPU, 1+r.Intn(12))
	numbers, places := r.Perm(api.MaxCPUs), r.Perm(api.MaxCPUs)
	for i := range cores {
		cores[i] = api.CPU{Core: numbers[i], Socket: places[r.Intn(1+r.Intn(6))], Node: r.Intn(api.MaxNodes)}
	}
	l := make([]api.CPU, 1+r.Intn(1+r.Intn(api.MaxCPUs)))
	for i := range l {
		l[i] = cores[r.Intn(len(cores))]
	}
	return l
}

// E1, E2: drawn machines; what is taken is what the document's words say.
func TestDrawn(t *testing.T) {
	r := rand.New(rand.NewSource(5))
	given := 0
	for range 4000 {
		cpus := drawn(r)
		m := topoOf(t, cpus)
		free := m.All() &^ api.Set(r.Uint64()&r.Uint64()&r.Uint64()&r.Uint64())
		if r.Intn(2) == 0 {
			free &= api.Set(r.Uint64() | r.Uint64())
		}
		many, on := r.Intn(1+bits.Count(free)), api.Mask(r.Intn(256))
		got, err := Take(m, free, many, on)
		want := slow(cpus, bits.List(free), many, on)
		if !slices.Equal(bits.List(got), want) || err != nil {
			t.Fatalf("Take(%v, %q, %d, %b): %q, %v, want %v", cpus, bits.Text(free), many, on, bits.Text(got), err, want)
		}
		if len(want) > 0 && len(want) < bits.Count(free) {
			given++
		}
	}
	if given < 2000 {
		t.Errorf("only %d draws choose", given)
	}
}

// E1, Z1: whatever is asked, so many are given, of what is free, or an error is
// told and nothing is given.
func TestWhateverIsAsked(t *testing.T) {
	r := rand.New(rand.NewSource(6))
	told := map[error]int{}
	for range 20000 {
		m := topoOf(t, drawn(r))
		free := api.Set(r.Uint64())
		if r.Intn(4) > 0 {
			free &= m.All()
		}
		many, on := r.Intn(70)-2, api.Mask(r.Intn(256))
		if r.Intn(2) == 0 {
			many = r.Intn(2 + bits.Count(free))
		}
		var want error
		switch {
		case many < 0 || many > 64 || free&^m.All() != 0:
			want = api.ErrBound
		case many > bits.Count(free):
			want = api.ErrCPUs
		}
		got, err := Take(m, free, many, on)
		if err != want {
			t.Fatalf("Take(%q of %q, %d): %v, want %v", bits.Text(free), bits.Text(m.All()), many, err, want)
		}
		if err != nil {
			many = 0
		}
		if bits.Count(got) != many || got&^free != 0 {
			t.Fatalf("Take(%q, %d): %q", bits.Text(free), many, bits.Text(got))
		}
		near := min(many, bits.Count(free&m.On(on)))
		if err == nil && bits.Count(got&m.On(on)) != near {
			t.Fatalf("Take(%q, %d, %b): %q, %d are to be on the nodes", bits.Text(free), many, on, bits.Text(got), near)
		}
		told[err]++
	}
	for _, e := range []error{nil, api.ErrBound, api.ErrCPUs} {
		if told[e] < 500 {
			t.Errorf("only %d draws end with %v", told[e], e)
		}
	}
}

// Z2: what is answered hangs on what is asked alone, and the machine stays.
func TestAskedAgain(t *testing.T) {
	m, other := topoOf(t, machine(4, 8, 2)), topoOf(t, uneven())
	for range 3 {
		got, err := Take(m, every&^1, 19, 2)
		if got != setOf(t, "1,8-15,32-33,40-47") || err != nil {
			t.Errorf("%q, %v", bits.Text(got), err)
		}
		if _, err := Take(m, every, -1, 2); err != api.ErrBound {
			t.Error(err)
		}
		if got, err := Take(other, 0x3ff, 1, 1); got != 1<<3 || err != nil {
			t.Errorf("%q, %v", bits.Text(got), err)
		}
		if m.All() != every || other.All() != 0x3ff {
			t.Errorf("%x %x", m.All(), other.All())
		}
	}
}
