package hints

import (
	"math"
	"math/rand"
	"slices"
	"testing"

	"ostlery/api"
)

type onNodes = [api.MaxNodes]int

func good(m api.Mask) api.Hint { return api.Hint{Mask: m, Good: true} }
func bad(m api.Mask) api.Hint  { return api.Hint{Mask: m} }

func wish(l ...api.Hint) api.Wish { return api.Wish{Hints: l} }

var anywhere = api.Wish{Any: true}

// D1: as many nodes as the mask has bits.
func TestNodes(t *testing.T) {
	for m := range 256 {
		want := 0
		for i := range 8 {
			want += m >> i & 1
		}
		if got := Nodes(api.Mask(m)); got != want {
			t.Errorf("Nodes(%b): %d, want %d", m, got, want)
		}
	}
}

// D1: places written out.
func TestFor(t *testing.T) {
	for _, c := range []struct {
		name      string
		free, all onNodes
		nodes     api.Mask
		many      int
		want      []api.Hint
	}{
		{"one node, just enough", onNodes{2}, onNodes{2}, 1, 2, []api.Hint{good(1)}},
		{"one node, one too few", onNodes{1}, onNodes{2}, 1, 2, nil},
		{"no nodes", onNodes{9, 9, 9, 9}, onNodes{9, 9, 9, 9}, 0, 1, nil},
		{"nothing at all", onNodes{}, onNodes{}, 15, 1, nil},
		{"two nodes, each enough", onNodes{2, 2}, onNodes{2, 2}, 3, 2, []api.Hint{good(1), good(2), bad(3)}},
		{"two nodes, together enough", onNodes{1, 1}, onNodes{1, 1}, 3, 2, []api.Hint{good(3)}},
		{"narrower, if others weren't taken", onNodes{1, 1}, onNodes{2, 1}, 3, 2, []api.Hint{bad(3)}},
		{"narrower, but not of these nodes", onNodes{1, 1, 0}, onNodes{1, 1, 2}, 3, 2, []api.Hint{good(3)}},
		{"one narrow is full", onNodes{0, 2}, onNodes{2, 2}, 3, 2, []api.Hint{good(2), bad(3)}},
		{"more free than there are", onNodes{2, 2}, onNodes{1, 2}, 3, 2, []api.Hint{bad(1), good(2), bad(3)}},
		{"free, but none there", onNodes{3}, onNodes{}, 1, 3, []api.Hint{bad(1)}},
		{"the greatest node", onNodes{0, 0, 0, 1}, onNodes{0, 0, 0, 1}, 8, 1, []api.Hint{good(8)}},
		{"nodes apart", onNodes{1, 5, 1, 5}, onNodes{1, 5, 1, 5}, 5, 2, []api.Hint{good(5)}},
		{"four nodes, of which two are enough", onNodes{1, 1, 1, 0}, onNodes{1, 1, 1, 1}, 15, 2,
			[]api.Hint{good(3), good(5), good(6), bad(7), bad(11), bad(13), bad(14), bad(15)}},
		{"all four are needed", onNodes{1, 1, 1, 1}, onNodes{1, 1, 1, 1}, 15, 4, []api.Hint{good(15)}},
		{"more than there are", onNodes{1, 1, 1, 1}, onNodes{1, 1, 1, 1}, 15, 5, nil},
		{"below nothing", onNodes{2, -1}, onNodes{2, -1}, 3, 2, []api.Hint{good(1)}},
		{"great numbers", onNodes{1 << 20, 1 << 20}, onNodes{1 << 20, 1 << 20}, 3, 1 << 20, []api.Hint{good(1), good(2), bad(3)}},
	} {
		got := For(c.free, c.all, c.nodes, c.many)
		if got.Any || !slices.Equal(got.Hints, c.want) {
			t.Errorf("%s: %v, want %v", c.name, got, c.want)
		}
	}
}

// D1: who wants none may lie anywhere.
func TestForNone(t *testing.T) {
	for _, many := range []int{0, -1, -1 << 20, math.MinInt} {
		for _, m := range []api.Mask{0, 1, 15} {
			for _, f := range []onNodes{{}, {1, 2, 3, 4}, {-1, -1, -1, -1}} {
				if w := For(f, f, m, many); !w.Any || len(w.Hints) != 0 {
					t.Errorf("For(%v, %v, %b, %d): %v", f, f, m, many, w)
				}
			}
		}
	}
}

// sum of what is on a mask's nodes.
func sum(of onNodes, m int) int {
	n := 0
	for i := range of {
		if m&(1<<i) != 0 {
			n += of[i]
		}
	}
	return n
}

// slowFor: D1's words, read as they stand.
func slowFor(free, all onNodes, nodes api.Mask, many int) []api.Hint {
	var l []api.Hint
	for m := 1; m < 16; m++ {
		if m&int(nodes) != m || sum(free, m) < many {
			continue
		}
		h := api.Hint{Mask: api.Mask(m), Good: sum(all, m) >= many}
		for o := 1; o < 16; o++ {
			if o&int(nodes) == o && Nodes(api.Mask(o)) < Nodes(h.Mask) && sum(all, o) >= many {
				h.Good = false
			}
		}
		l = append(l, h)
	}
	return l
}

// D1: drawn ones, also with numbers below 0 and more free than there are.
func TestForDrawn(t *testing.T) {
	r := rand.New(rand.NewSource(4))
	for range 20000 {
		var free, all onNodes
		for i := range all {
			all[i] = r.Intn(8) - 1
			free[i] = r.Intn(8) - 1
			if r.Intn(4) > 0 {
				free[i] = min(free[i], all[i])
			}
		}
		nodes, many := api.Mask(r.Intn(16)), 1+r.Intn(9)
		got, want := For(free, all, nodes, many), slowFor(free, all, nodes, many)
		if got.Any || !slices.Equal(got.Hints, want) {
			t.Fatalf("For(%v, %v, %b, %d): %v, want %v", free, all, nodes, many, got, want)
		}
	}
}

// Z1: whatever is handed in, it ends.
func TestForEnds(t *testing.T) {
	for m := range 256 {
		for _, many := range []int{math.MinInt, 1, math.MaxInt} {
			For(onNodes{math.MaxInt, math.MaxInt, math.MinInt, 1}, onNodes{math.MinInt, math.MinInt, -1, 0}, api.Mask(m), many)
		}
	}
}

// Z2: two answers share nothing.
func TestForAnswersFresh(t *testing.T) {
	f := onNodes{2, 2, 2, 2}
	a, b := For(f, f, 15, 2), For(f, f, 15, 2)
	for i := range a.Hints {
		a.Hints[i] = api.Hint{}
	}
	if !slices.Equal(b.Hints, slowFor(f, f, 15, 2)) || !slices.Equal(For(f, f, 15, 2).Hints, b.Hints) {
		t.Errorf("%v", b)
	}
}

// D2: which policies, nodes and numbers of wishes there may be.
func TestMergeErrors(t *testing.T) {
	four := []api.Wish{anywhere, anywhere, anywhere, anywhere}
	five := append(slices.Clone(four), anywhere)
	for _, c := range []struct {
		policy int
		nodes  api.Mask
		wishes []api.Wish
		err    error
	}{
		{-1, 1, nil, api.ErrBound},
		{4, 1, nil, api.ErrBound},
		{math.MaxInt, 1, nil, api.ErrBound},
		{math.MinInt, 1, nil, api.ErrBound},
		{api.Anyhow, 0, nil, api.ErrBound},
		{api.Single, 0, nil, api.ErrBound},
		{api.Anyhow, 16, nil, api.ErrBound},
		{api.Preferred, 17, nil, api.ErrBound},
		{api.Restricted, 128, nil, api.ErrBound},
		{api.Single, 255, nil, api.ErrBound},
		{api.Anyhow, 1, five, api.ErrMany},
		{api.Preferred, 1, five, api.ErrMany},
		{api.Single, 15, five, api.ErrMany},
		{-1, 1, five, api.ErrBound},
		{api.Preferred, 0, five, api.ErrBound},
		{api.Preferred, 16, five, api.ErrBound},
		{api.Anyhow, 1, four, nil},
		{api.Preferred, 15, four, nil},
		{api.Restricted, 15, four, nil},
		{api.Single, 15, four, nil},
	} {
		h, in, err := Merge(c.policy, c.nodes, c.wishes)
		want := good(c.nodes)
		if c.err != nil {
			want = api.Hint{}
		}
		if h != want || in != (c.err == nil) || err != c.err {
			t.Errorf("Merge(%d, %b, %d wishes): %v, %v, %v, want %v, %v", c.policy, c.nodes, len(c.wishes), h, in, err, want, c.err)
		}
	}
}

// D2: under each policy, written out: the place under Preferred and
// Restricted, and that under Single.
func TestMerge(t *testing.T) {
	for _, c := range []struct {
		name         string
		nodes        api.Mask
		wishes       []api.Wish
		want, single api.Hint
	}{
		{"no wishes", 3, nil, good(3), good(3)},
		{"anywhere", 5, []api.Wish{anywhere}, good(5), good(5)},
		{"anywhere, its hints not looked at", 3, []api.Wish{{Any: true, Hints: []api.Hint{bad(1)}}}, good(3), good(3)},
		{"no hints", 3, []api.Wish{wish()}, bad(3), bad(3)},
		{"no hints, and one that has", 3, []api.Wish{wish(), wish(good(2))}, bad(2), bad(2)},
		{"one place", 3, []api.Wish{wish(good(2))}, good(2), good(2)},
		{"the lesser one", 3, []api.Wish{wish(good(2), good(1))}, good(1), good(1)},
		{"fewer nodes, though greater", 15, []api.Wish{wish(good(3), good(8))}, good(8), good(8)},
		{"good, though more nodes", 15, []api.Wish{wish(bad(1), good(14))}, good(14), bad(15)},
		{"not good, fewer nodes", 15, []api.Wish{wish(bad(6), bad(8))}, bad(8), bad(15)},
		{"not good, the lesser one", 15, []api.Wish{wish(bad(8), bad(2), bad(4))}, bad(2), bad(15)},
		{"not good, all nodes", 3, []api.Wish{wish(bad(3))}, bad(3), bad(3)},
		{"in common", 7, []api.Wish{wish(good(3)), wish(good(6))}, good(2), bad(7)},
		{"nothing in common", 3, []api.Wish{wish(good(1)), wish(good(2))}, bad(3), bad(3)},
		{"one not good", 3, []api.Wish{wish(good(1)), wish(bad(1), bad(2))}, bad(1), bad(1)},
		{"good ones meet", 3, []api.Wish{wish(good(1), good(2)), wish(bad(1), good(2))}, good(2), good(2)},
		{"with anywhere", 3, []api.Wish{wish(good(2)), anywhere, wish(bad(1), good(2))}, good(2), good(2)},
		{"of nodes that aren't these", 3, []api.Wish{wish(good(4))}, bad(3), bad(3)},
		{"of nodes that may not be", 3, []api.Wish{wish(good(0x10))}, bad(3), bad(3)},
		{"partly of these nodes", 3, []api.Wish{wish(good(6))}, good(2), bad(3)},
		{"without nodes", 3, []api.Wish{wish(good(0), bad(1))}, bad(1), bad(3)},
		{"without nodes alone", 1, []api.Wish{wish(good(0))}, bad(1), bad(1)},
		{"two nodes, good", 3, []api.Wish{wish(good(3))}, good(3), bad(3)},
		{"four wishes", 15, []api.Wish{wish(good(7)), wish(good(14)), wish(good(13)), wish(good(6), good(4))}, good(4), bad(4)},
		{"the narrowest way is not of the first hints", 15, []api.Wish{wish(good(3), good(12)), wish(good(5), good(10))}, good(1), bad(15)},
	} {
		for policy := api.Preferred; policy <= api.Single; policy++ {
			want := c.want
			if policy == api.Single {
				want = c.single
			}
			h, in, err := Merge(policy, c.nodes, c.wishes)
			if h != want || in != (want.Good || policy == api.Preferred) || err != nil {
				t.Errorf("%s: policy %d: %v, %v, %v, want %v", c.name, policy, h, in, err, want)
			}
		}
		if h, in, err := Merge(api.Anyhow, c.nodes, c.wishes); h != good(c.nodes) || !in || err != nil {
			t.Errorf("%s: anyhow: %v, %v, %v", c.name, h, in, err)
		}
	}
}

// slowMerge: D2's words, read as they stand: each way is gone.
func slowMerge(policy int, nodes api.Mask, wishes []api.Wish) api.Hint {
	if policy == api.Anyhow {
		return good(nodes)
	}
	ways := []api.Hint{bad(nodes)}
	var choose func(int, api.Hint)
	choose = func(i int, h api.Hint) {
		if i == len(wishes) {
			if h.Mask != 0 {
				ways = append(ways, h)
			}
			return
		}
		some := false
		for _, c := range wishes[i].Hints {
			if wishes[i].Any || policy == api.Single && (!c.Good || Nodes(c.Mask) != 1) {
				continue
			}
			some = true
			choose(i+1, api.Hint{Mask: h.Mask & c.Mask, Good: h.Good && c.Good})
		}
		if !some {
			choose(i+1, api.Hint{Mask: h.Mask, Good: h.Good && wishes[i].Any})
		}
	}
	choose(0, good(nodes))
	slices.SortFunc(ways, func(a, b api.Hint) int {
		rank := func(h api.Hint) int {
			n := Nodes(h.Mask)*256 + int(h.Mask)
			if !h.Good {
				n += 1 << 20
			}
			return n
		}
		return rank(a) - rank(b)
	})
	return ways[0]
}

func drawnWishes(r *rand.Rand) []api.Wish {
	l := make([]api.Wish, r.Intn(5))
	for i := range l {
		l[i].Any = r.Intn(6) == 0
		for range r.Intn(5) {
			m := api.Mask(r.Intn(16))
			if r.Intn(2) == 0 {
				m = 1 << r.Intn(4)
			}
			if r.Intn(10) == 0 {
				m |= api.Mask(r.Intn(16)) << 4
			}
			l[i].Hints = append(l[i].Hints, api.Hint{Mask: m, Good: r.Intn(2) == 0})
		}
	}
	return l
}

// D2, W2: drawn wishes; and a stricter policy lets nobody in whom a looser one does not.
func TestMergeDrawn(t *testing.T) {
	r := rand.New(rand.NewSource(5))
	for range 20000 {
		nodes, wishes := api.Mask(1+r.Intn(15)), drawnWishes(r)
		looser := true
		for policy := api.Anyhow; policy <= api.Single; policy++ {
			h, in, err := Merge(policy, nodes, wishes)
			want := slowMerge(policy, nodes, wishes)
			if h != want || in != (want.Good || policy <= api.Preferred) || err != nil {
				t.Fatalf("Merge(%d, %b, %v): %v, %v, %v, want %v", policy, nodes, wishes, h, in, err, want)
			}
			if h.Mask == 0 || h.Mask&^nodes != 0 {
				t.Fatalf("Merge(%d, %b, %v): %v", policy, nodes, wishes, h)
			}
			if in && !looser {
				t.Fatalf("Merge(%d, %b, %v): let in, but not under %d", policy, nodes, wishes, policy-1)
			}
			looser = in
		}
	}
}

// Z1: long wishes have more ways than can be gone; it ends all the same.
func TestMergeLongWishes(t *testing.T) {
	long := make([]api.Hint, 100000)
	for i := range long {
		long[i] = api.Hint{Mask: api.Mask(i*7 + 3), Good: i%3 == 0}
	}
	w := []api.Wish{wish(long...), wish(long...), wish(long...), wish(long...)}
	for policy := api.Preferred; policy <= api.Single; policy++ {
		if h, in, err := Merge(policy, 15, w); h != good(1) || !in || err != nil {
			t.Errorf("policy %d: %v, %v, %v", policy, h, in, err)
		}
	}
}

// Z2: wishes are not written into, and what stands behind them is not read.
func TestMergeLeavesWishes(t *testing.T) {
	behind := []api.Hint{good(6), good(2), good(1)}
	wishes := []api.Wish{{Hints: behind[:1]}, {Hints: behind[:2]}, wish(good(1))}
	h, in, err := Merge(api.Preferred, 7, wishes[:2])
	if h != good(2) || !in || err != nil {
		t.Errorf("%v, %v, %v", h, in, err)
	}
	if !slices.Equal(behind, []api.Hint{good(6), good(2), good(1)}) || len(wishes[0].Hints) != 1 || len(wishes[1].Hints) != 2 {
		t.Errorf("%v %v", behind, wishes)
	}
}
