package topo

import (
	"math"
	"math/rand"
	"slices"
	"testing"

	"ostlery/api"
)

const every = ^api.Set(0)

// many processors, each a core and a socket of its own.
func many(n int) []api.CPU {
	l := make([]api.CPU, n)
	for i := range l {
		l[i] = api.CPU{Core: i % api.MaxCPUs, Socket: i % api.MaxCPUs, Node: i % api.MaxNodes}
	}
	return l
}

// odd machine: cores and sockets of numbers that aren't in a row, sockets on
// two nodes, and a node that has none.
func odd() []api.CPU {
	return []api.CPU{
		{Core: 7, Socket: 63, Node: 3},
		{Core: 0, Socket: 5, Node: 0},
		{Core: 63, Socket: 63, Node: 1},
		{Core: 7, Socket: 63, Node: 3},
		{Core: 2, Socket: 0, Node: 3},
		{Core: 0, Socket: 5, Node: 0},
	}
}

func mustNew(t *testing.T, l []api.CPU) *Topo {
	t.Helper()
	m, err := New(l)
	if m == nil || err != nil {
		t.Fatalf("New(%v): %v, %v", l, m, err)
	}
	return m
}

// C1: which lists are a machine, and what is wrong with others.
func TestNew(t *testing.T) {
	good := api.CPU{Core: 1, Socket: 1, Node: 1}
	for _, c := range []struct {
		name string
		in   []api.CPU
		err  error
	}{
		{"nil", nil, api.ErrMany},
		{"none", []api.CPU{}, api.ErrMany},
		{"one", []api.CPU{{}}, nil},
		{"as many as can be", many(64), nil},
		{"one too many", many(65), api.ErrMany},
		{"far too many", many(1000), api.ErrMany},
		{"too many, one of them wrong", append([]api.CPU{{Core: -1}}, many(64)...), api.ErrMany},
		{"greatest numbers", []api.CPU{{Core: 63, Socket: 63, Node: 3}}, nil},
		{"core below", []api.CPU{{Core: -1}}, api.ErrBound},
		{"core above", []api.CPU{{Core: 64}}, api.ErrBound},
		{"socket below", []api.CPU{{Socket: -1}}, api.ErrBound},
		{"socket above", []api.CPU{{Socket: 64}}, api.ErrBound},
		{"node below", []api.CPU{{Node: -1}}, api.ErrBound},
		{"node above", []api.CPU{{Node: 4}}, api.ErrBound},
		{"core far below", []api.CPU{good, {Core: math.MinInt}}, api.ErrBound},
		{"socket far above", []api.CPU{good, {Socket: math.MaxInt}}, api.ErrBound},
		{"node far above", []api.CPU{good, {Node: math.MaxInt}}, api.ErrBound},
		{"the same three times", []api.CPU{good, good, good}, nil},
		{"odd", odd(), nil},
		{"a core in two sockets", []api.CPU{good, {Core: 1, Socket: 2, Node: 1}}, api.ErrShape},
		{"a core on two nodes", []api.CPU{good, {Core: 1, Socket: 1, Node: 2}}, api.ErrShape},
		{"a core in two sockets and on two nodes", []api.CPU{good, {Core: 1}}, api.ErrShape},
		{"a core in two places, others between", append(many(64)[:20], api.CPU{Core: 3, Socket: 4, Node: 3}), api.ErrShape},
		{"core 0 in two sockets", []api.CPU{{}, {Socket: 1}}, api.ErrShape},
		{"a socket on two nodes", []api.CPU{{Core: 0, Socket: 1}, {Core: 1, Socket: 1, Node: 1}}, nil},
		{"a node with two sockets", []api.CPU{{Core: 0}, {Core: 1, Socket: 1}}, nil},
		{"shape, then bound", []api.CPU{good, {Core: 1}, {Core: 64}}, api.ErrShape},
		{"bound, then shape", []api.CPU{good, {Core: 64}, {Core: 1}}, api.ErrBound},
		{"bound and shape of one", []api.CPU{good, {Core: 1, Socket: 1, Node: 4}}, api.ErrBound},
	} {
		m, err := New(c.in)
		if err != c.err || (m == nil) != (c.err != nil) {
			t.Errorf("%s: %v, %v, want %v", c.name, m, err, c.err)
		}
	}
}

// C2: a machine whose answers are written out.
func TestOddMachine(t *testing.T) {
	m := mustNew(t, odd())
	if got := m.All(); got != 0b111111 {
		t.Errorf("All: %b", got)
	}
	if got := m.Nodes(); got != 0b1011 {
		t.Errorf("Nodes: %b", got)
	}
	for n, want := range map[int]api.Set{7: 0b001001, 0: 0b100010, 63: 0b000100, 2: 0b010000, 1: 0, 5: 0, 62: 0, 64: 0, -1: 0, math.MaxInt: 0, math.MinInt: 0} {
		if got := m.Core(n); got != want {
			t.Errorf("Core(%d): %b, want %b", n, got, want)
		}
	}
	for n, want := range map[int]api.Set{63: 0b001101, 5: 0b100010, 0: 0b010000, 7: 0, 1: 0, 64: 0, -1: 0, math.MaxInt: 0, math.MinInt: 0} {
		if got := m.Socket(n); got != want {
			t.Errorf("Socket(%d): %b, want %b", n, got, want)
		}
	}
	for mask, want := range map[api.Mask]api.Set{0: 0, 1: 0b100010, 2: 0b000100, 4: 0, 8: 0b011001, 3: 0b100110, 10: 0b011101, 15: 0b111111, 0xf0: 0, 0xff: 0b111111, 0x18: 0b011001} {
		if got := m.On(mask); got != want {
			t.Errorf("On(%b): %b, want %b", mask, got, want)
		}
	}
	for s, want := range map[api.Set][api.MaxNodes]int{0: {}, every: {2, 1, 0, 3}, 0b111111: {2, 1, 0, 3}, ^api.Set(0b111111): {}, 1 << 63: {}, 0b010011: {1, 0, 0, 2}, 0b1000100: {0, 1, 0, 0}} {
		if got := m.Count(s); got != want {
			t.Errorf("Count(%b): %v, want %v", s, got, want)
		}
	}
}

// C2: a processor is told as it was given; of others there is none.
func TestOf(t *testing.T) {
	for _, l := range [][]api.CPU{odd(), many(1), many(64)} {
		m := mustNew(t, l)
		for n, want := range l {
			if got, err := m.Of(n); got != want || err != nil {
				t.Errorf("Of(%d): %v, %v, want %v", n, got, err, want)
			}
		}
		for _, n := range []int{-1, len(l), len(l) + 1, 64, 65, math.MaxInt, math.MinInt} {
			if got, err := m.Of(n); got != (api.CPU{}) || err != api.ErrBound {
				t.Errorf("Of(%d) of %d: %v, %v, want ErrBound", n, len(l), got, err)
			}
		}
	}
}

// C2: the last processor of the greatest machine is one as the others are.
func TestGreatestMachine(t *testing.T) {
	m := mustNew(t, many(64))
	if m.All() != every || m.On(0xf) != every || m.Nodes() != 0xf {
		t.Errorf("%x %x %x", m.All(), m.On(0xf), m.Nodes())
	}
	if m.Core(63) != 1<<63 || m.Socket(63) != 1<<63 {
		t.Errorf("%x %x", m.Core(63), m.Socket(63))
	}
	if got := m.Count(every); got != [api.MaxNodes]int{16, 16, 16, 16} {
		t.Errorf("%v", got)
	}
	if got := m.Count(1 << 63); got != [api.MaxNodes]int{0, 0, 0, 1} {
		t.Errorf("%v", got)
	}
}

// drawn machine, now and then with something wrong.
func drawn(r *rand.Rand) []api.CPU {
	cores := make([]api.CPU, 1+r.Intn(20))
	numbers := r.Perm(api.MaxCPUs)
	for i := range cores {
		cores[i] = api.CPU{Core: numbers[i], Socket: r.Intn(1 + r.Intn(api.MaxCPUs)), Node: r.Intn(api.MaxNodes)}
	}
	l := make([]api.CPU, r.Intn(67))
	for i := range l {
		l[i] = cores[r.Intn(len(cores))]
	}
	for range r.Intn(6) - 3 {
		if len(l) > 0 {
			l[r.Intn(len(l))] = api.CPU{Core: r.Intn(67) - 1, Socket: r.Intn(67) - 1, Node: r.Intn(6) - 1}
		}
	}
	return l
}

// wrong: what C1's words say of a list, read as they stand.
func wrong(l []api.CPU) error {
	if len(l) == 0 || len(l) > 64 {
		return api.ErrMany
	}
	for i, c := range l {
		if c.Core < 0 || c.Core > 63 || c.Socket < 0 || c.Socket > 63 || c.Node < 0 || c.Node > 3 {
			return api.ErrBound
		}
		for _, a := range l[:i] {
			if a.Core == c.Core && (a.Socket != c.Socket || a.Node != c.Node) {
				return api.ErrShape
			}
		}
	}
	return nil
}

// C1, C2: drawn machines tell of each processor what was given.
func TestDrawn(t *testing.T) {
	r := rand.New(rand.NewSource(3))
	told := map[error]int{}
	for range 3000 {
		l := drawn(r)
		m, err := New(l)
		if want := wrong(l); err != want {
			t.Fatalf("New(%v): %v, want %v", l, err, want)
		}
		if told[err]++; err != nil {
			continue
		}
		s := api.Set(r.Uint64())
		var all api.Set
		var nodes api.Mask
		var count [api.MaxNodes]int
		for i, c := range l {
			all |= 1 << i
			nodes |= 1 << c.Node
			count[c.Node] += int(s >> i & 1)
		}
		if m.All() != all || m.Nodes() != nodes || m.Count(s) != count {
			t.Fatalf("%v: %x %x %v", l, m.All(), m.Nodes(), m.Count(s))
		}
		for n := -1; n < 66; n++ {
			var core, socket api.Set
			for i, c := range l {
				if c.Core == n {
					core |= 1 << i
				}
				if c.Socket == n {
					socket |= 1 << i
				}
			}
			if m.Core(n) != core || m.Socket(n) != socket {
				t.Fatalf("%v: %d: %x %x", l, n, m.Core(n), m.Socket(n))
			}
		}
		for mask := range 256 {
			var on api.Set
			for i, c := range l {
				if mask&(1<<c.Node) != 0 {
					on |= 1 << i
				}
			}
			if got := m.On(api.Mask(mask)); got != on {
				t.Fatalf("%v: On(%b): %x, want %x", l, mask, got, on)
			}
		}
	}
	for _, e := range []error{nil, api.ErrMany, api.ErrBound, api.ErrShape} {
		if told[e] < 20 {
			t.Errorf("only %d draws end with %v", told[e], e)
		}
	}
}

// Z2: the list is not written into, nor kept, nor is what stands behind it read.
func TestListStaysTheCallers(t *testing.T) {
	whole := append(odd(), api.CPU{Core: 99}, api.CPU{Core: 7})
	was := slices.Clone(whole)
	m := mustNew(t, whole[:6])
	if !slices.Equal(whole, was) {
		t.Fatalf("written into: %v", whole)
	}
	for i := range whole {
		whole[i] = api.CPU{Core: 9, Socket: 9, Node: 2}
	}
	for n, want := range odd() {
		if got, err := m.Of(n); got != want || err != nil {
			t.Errorf("Of(%d): %v, %v, want %v", n, got, err, want)
		}
	}
	if m.All() != 0b111111 || m.Core(9) != 0 || m.On(4) != 0 {
		t.Errorf("kept: %b %b %b", m.All(), m.Core(9), m.On(4))
	}
}

// Z2: one machine says nothing of another one, and asking changes nothing.
func TestMachinesStandAlone(t *testing.T) {
	a := mustNew(t, odd())
	b := mustNew(t, many(64))
	for range 2 {
		if _, err := New([]api.CPU{{Core: -1}}); err != api.ErrBound {
			t.Error(err)
		}
		if a.All() != 0b111111 || b.All() != every || a.Count(every) != [api.MaxNodes]int{2, 1, 0, 3} {
			t.Errorf("%b %b %v", a.All(), b.All(), a.Count(every))
		}
	}
}
