package qos

import (
	"math"
	"math/rand"
	"reflect"
	"slices"
	"strconv"
	"strings"
	"testing"

	"ostlery/api"
)

// amount of milli processors and bytes.
func amount(milli, bytes int) api.Amount { return api.Amount{Milli: milli, Bytes: bytes} }

// cont: a container that asks for so much, and may have so much.
func cont(name string, ask, most api.Amount) api.Cont {
	return api.Cont{Name: name, Ask: ask, Cap: most}
}

// podOf: a pod of these containers.
func podOf(name string, l ...api.Cont) api.Pod { return api.Pod{Name: name, Conts: l} }

// rich: a pod with all that may be in one.
func rich() api.Pod {
	return api.Pod{Name: "abcdefgh", Prio: api.MaxPrio, Conts: []api.Cont{
		{Name: "a", Ask: amount(0, 1), Cap: amount(1, 1), Devs: []api.Need{{Kind: "a", Many: 1}, {Kind: "a0", Many: 16}, {Kind: "b", Many: 2}}},
		{Name: "b", Ask: amount(api.MaxMilli, api.MaxBytes), Cap: amount(0, 0), Devs: []api.Need{{Kind: "gpu", Many: 3}, {Kind: "nic", Many: 1}}},
		{Name: "c9", Ask: amount(7, 0), Cap: amount(api.MaxMilli, api.MaxBytes)},
	}}
}

// turned: rich, but for one thing, or several.
func turned(f func(p *api.Pod)) api.Pod {
	p := rich()
	f(&p)
	return p
}

// G1: pods that may be, at the edges of what may be.
func TestCheckRight(t *testing.T) {
	for name, p := range map[string]api.Pod{
		"all there is":      rich(),
		"as little as can":  podOf("a", api.Cont{Name: "a"}),
		"the least Prio":    turned(func(p *api.Pod) { p.Prio = 0 }),
		"pod as container":  turned(func(p *api.Pod) { p.Conts[0].Name = p.Name }),
		"names falling":     podOf("z", api.Cont{Name: "c"}, api.Cont{Name: "b"}, api.Cont{Name: "a"}),
		"ask as cap":        podOf("a", cont("a", amount(1, 1), amount(1, 1))),
		"ask without cap":   podOf("a", cont("a", amount(5, 5), amount(0, 0))),
		"cap without ask":   podOf("a", cont("a", amount(0, 0), amount(5, 5))),
		"cap of one alone":  podOf("a", cont("a", amount(5, 5), amount(5, 0))),
		"cap of the other":  podOf("a", cont("a", amount(5, 5), amount(0, 5))),
		"no needs, not nil": podOf("a", api.Cont{Name: "a", Devs: []api.Need{}}),
		"kinds in each":     turned(func(p *api.Pod) { p.Conts[1].Devs = p.Conts[0].Devs; p.Conts[2].Devs = p.Conts[0].Devs }),
	} {
		if err := Check(p); err != nil {
			t.Errorf("%s: %v", name, err)
		}
	}
}

// G1: what is wrong with a pod. Z3: it is a bare api.Errno.
func TestCheckWrong(t *testing.T) {
	for _, c := range []struct {
		name string
		f    func(p *api.Pod)
		want error
	}{
		{"no name", func(p *api.Pod) { p.Name = "" }, api.ErrShape},
		{"a name too long", func(p *api.Pod) { p.Name = "abcdefghi" }, api.ErrShape},
		{"a digit ahead", func(p *api.Pod) { p.Name = "9" }, api.ErrShape},
		{"a great letter", func(p *api.Pod) { p.Name = "A" }, api.ErrShape},
		{"Prio below 0", func(p *api.Pod) { p.Prio = -1 }, api.ErrBound},
		{"Prio too great", func(p *api.Pod) { p.Prio = 1001 }, api.ErrBound},
		{"Prio far too great", func(p *api.Pod) { p.Prio = math.MaxInt }, api.ErrBound},
		{"Prio far below 0", func(p *api.Pod) { p.Prio = math.MinInt }, api.ErrBound},
		{"no containers", func(p *api.Pod) { p.Conts = nil }, api.ErrMany},
		{"no containers, not nil", func(p *api.Pod) { p.Conts = p.Conts[:0] }, api.ErrMany},
		{"a container too many", func(p *api.Pod) { p.Conts = append(p.Conts, api.Cont{Name: "d"}) }, api.ErrMany},
		{"far too many", func(p *api.Pod) { p.Conts = slices.Repeat(p.Conts, 100000) }, api.ErrMany},
		{"a container without a name", func(p *api.Pod) { p.Conts[2].Name = "" }, api.ErrShape},
		{"a container's name too long", func(p *api.Pod) { p.Conts[0].Name = "abcdefghi" }, api.ErrShape},
		{"a container's name is none", func(p *api.Pod) { p.Conts[1].Name = "a-b" }, api.ErrShape},
		{"the second is called as the first", func(p *api.Pod) { p.Conts[1].Name = "a" }, api.ErrExist},
		{"the third is called as the first", func(p *api.Pod) { p.Conts[2].Name = "a" }, api.ErrExist},
		{"the third is called as the second", func(p *api.Pod) { p.Conts[2].Name = "b" }, api.ErrExist},
		{"Ask's Milli below 0", func(p *api.Pod) { p.Conts[0].Ask.Milli = -1 }, api.ErrBound},
		{"Ask's Milli too great", func(p *api.Pod) { p.Conts[1].Ask.Milli = 1000001 }, api.ErrBound},
		{"Ask's Bytes below 0", func(p *api.Pod) { p.Conts[2].Ask.Bytes = -1 }, api.ErrBound},
		{"Ask's Bytes too great", func(p *api.Pod) { p.Conts[1].Ask.Bytes = 1125899906842625 }, api.ErrBound},
		{"Cap's Milli below 0", func(p *api.Pod) { p.Conts[1].Cap.Milli = -1 }, api.ErrBound},
		{"Cap's Milli too great", func(p *api.Pod) { p.Conts[2].Cap.Milli = 1000001 }, api.ErrBound},
		{"Cap's Bytes below 0", func(p *api.Pod) { p.Conts[1].Cap.Bytes = -1 }, api.ErrBound},
		{"Cap's Bytes too great", func(p *api.Pod) { p.Conts[2].Cap.Bytes = 1125899906842625 }, api.ErrBound},
		{"numbers far beyond", func(p *api.Pod) { p.Conts[0].Ask = amount(math.MinInt, math.MaxInt) }, api.ErrBound},
		{"more Milli than may be had", func(p *api.Pod) { p.Conts[0].Ask.Milli = 2 }, api.ErrShape},
		{"more Bytes than may be had", func(p *api.Pod) { p.Conts[0].Ask.Bytes = 2 }, api.ErrShape},
		{"more Milli, the last one", func(p *api.Pod) { p.Conts[2].Cap.Milli = 6 }, api.ErrShape},
		{"a kind too many", func(p *api.Pod) { p.Conts[0].Devs = append(p.Conts[0].Devs, api.Need{Kind: "c", Many: 1}) }, api.ErrMany},
		{"far too many kinds", func(p *api.Pod) { p.Conts[2].Devs = make([]api.Need, 100000) }, api.ErrMany},
		{"a kind without a name", func(p *api.Pod) { p.Conts[0].Devs[0].Kind = "" }, api.ErrShape},
		{"a kind whose name is none", func(p *api.Pod) { p.Conts[1].Devs[1].Kind = "n c" }, api.ErrShape},
		{"a kind twice", func(p *api.Pod) { p.Conts[1].Devs[1].Kind = "gpu" }, api.ErrShape},
		{"a kind below the one ahead", func(p *api.Pod) { p.Conts[1].Devs[1].Kind = "gpa" }, api.ErrShape},
		{"a kind that is the beginning of the one ahead", func(p *api.Pod) { p.Conts[1].Devs[1].Kind = "gp" }, api.ErrShape},
		{"a kind above the first, not the second", func(p *api.Pod) { p.Conts[0].Devs[2].Kind = "a00"; p.Conts[0].Devs[1].Kind = "b" }, api.ErrShape},
		{"none of a kind", func(p *api.Pod) { p.Conts[0].Devs[2].Many = 0 }, api.ErrBound},
		{"less than none of a kind", func(p *api.Pod) { p.Conts[1].Devs[0].Many = math.MinInt }, api.ErrBound},
		{"too many of a kind", func(p *api.Pod) { p.Conts[1].Devs[1].Many = 17 }, api.ErrBound},
		{"far too many of a kind", func(p *api.Pod) { p.Conts[0].Devs[0].Many = math.MaxInt }, api.ErrBound},
	} {
		if err := Check(turned(c.f)); err != c.want {
			t.Errorf("%s: %v, want %v", c.name, err, c.want)
		}
	}
}

// fault: one way of making a pod wrong, with the error that it is to give.
type fault struct {
	f    func(p *api.Pod)
	want error
}

// contFaults: what may be wrong with the container i, in the order in which it is told.
func contFaults(i int) []fault {
	l := []fault{
		{func(p *api.Pod) { p.Conts[i].Name = "?" }, api.ErrShape},
		{func(p *api.Pod) { p.Conts[i].Ask.Bytes = -1 }, api.ErrBound},
		{func(p *api.Pod) { p.Conts[i].Cap.Milli, p.Conts[i].Ask.Milli = 1, 2 }, api.ErrShape},
		{func(p *api.Pod) { p.Conts[i].Devs = append(p.Conts[i].Devs, make([]api.Need, 4)...) }, api.ErrMany},
		{func(p *api.Pod) { p.Conts[i].Devs[0].Many = 0 }, api.ErrBound},
		{func(p *api.Pod) { p.Conts[i].Devs[1].Kind = "a" }, api.ErrShape},
		{func(p *api.Pod) { p.Conts[i].Devs[1].Many = 17 }, api.ErrBound},
	}
	if i > 0 {
		l = slices.Insert(l, 1, fault{func(p *api.Pod) { p.Conts[i].Name = p.Conts[i-1].Name }, api.ErrExist})
	}
	return l
}

// G1, Z3: of two things that are wrong the one that is named first is told, the
// first container's ahead of the second's.
func TestCheckFirst(t *testing.T) {
	l := []fault{
		{func(p *api.Pod) { p.Name = "A" }, api.ErrShape},
		{func(p *api.Pod) { p.Prio = -1 }, api.ErrBound},
		{func(p *api.Pod) { p.Conts = append(p.Conts, api.Cont{}, api.Cont{}) }, api.ErrMany},
	}
	l = slices.Concat(l, contFaults(0), contFaults(1))
	base := func() api.Pod {
		p := podOf("p")
		for _, n := range []string{"a", "b"} {
			c := api.Cont{Name: n, Devs: []api.Need{{Kind: "d", Many: 1}, {Kind: "e", Many: 1}}}
			p.Conts = append(p.Conts, c)
		}
		return p
	}
	if err := Check(base()); err != nil {
		t.Fatal(err)
	}
	for i, one := range l {
		for j, other := range l[i:] {
			p := base()
			other.f(&p)
			one.f(&p)
			if err := Check(p); err != one.want {
				t.Errorf("the faults %d and %d: %v, want %v", i, i+j, err, one.want)
			}
		}
	}
}

// G2: classes, by all containers of two numbers each from 0 to 2 in Ask and Cap,
// and by drawn pods of several of them.
func TestClass(t *testing.T) {
	var all []api.Cont
	for n := range 81 {
		all = append(all, cont("a", amount(n%3, n/3%3), amount(n/9%3, n/27)))
	}
	for _, c := range all {
		wantClass(t, podOf("p", c))
	}
	r := rand.New(rand.NewSource(1))
	for range 20000 {
		p := podOf("p")
		for range 1 + r.Intn(api.MaxConts) {
			few := all[r.Intn(len(all))]
			switch r.Intn(3) {
			case 0:
				few = api.Cont{}
			case 1:
				few = cont("a", amount(1, 2), amount(1, 2))
			}
			p.Conts = append(p.Conts, few)
		}
		wantClass(t, p)
	}
}

// wantClass: the class by the document's words, one number after the other.
func wantClass(t *testing.T, p api.Pod) {
	t.Helper()
	told, unlike, none := 0, 0, 0
	for _, c := range p.Conts {
		for _, x := range [][2]int{{c.Ask.Milli, c.Cap.Milli}, {c.Ask.Bytes, c.Cap.Bytes}} {
			if x[0] != 0 || x[1] != 0 {
				told++
			}
			if x[0] != x[1] {
				unlike++
			}
			if x[0] == 0 {
				none++
			}
		}
	}
	want := api.Middle
	if told == 0 {
		want = api.Lowest
	} else if unlike == 0 && none == 0 {
		want = api.Certain
	}
	if got := Class(p); got != want {
		t.Errorf("%v: %d, want %d", p, got, want)
	}
}

// G2: names, Prio and devices do not make a class.
func TestClassRest(t *testing.T) {
	dev := []api.Need{{Kind: "gpu", Many: 1}}
	for want, a := range map[int]api.Amount{api.Lowest: {}, api.Certain: amount(1, 1), api.Middle: amount(1, 0)} {
		p := api.Pod{Name: "p", Prio: 1000, Conts: []api.Cont{{Name: "a", Ask: a, Cap: a, Devs: dev}, {Name: "b", Ask: a, Cap: a}}}
		if got := Class(p); got != want {
			t.Errorf("%v: %d, want %d", p, got, want)
		}
	}
}

// G2: who has processors of its own, and how many.
func TestOwn(t *testing.T) {
	certain := func(milli int) api.Cont { return cont("a", amount(milli, 1), amount(milli, 1)) }
	for _, c := range []struct {
		name string
		pod  api.Pod
		want []int
	}{
		{"one", podOf("p", certain(1000)), []int{1}},
		{"none that is whole", podOf("p", certain(999), certain(1), certain(1001)), []int{0, 0, 0}},
		{"whole beside others", podOf("p", certain(2000), certain(1500), certain(1000)), []int{2, 0, 1}},
		{"as many as may be asked for", podOf("p", certain(api.MaxMilli)), []int{1000}},
		{"Middle, by another container", podOf("p", certain(2000), cont("b", amount(0, 0), amount(0, 0))), []int{0, 0}},
		{"Middle, without Cap", podOf("p", cont("a", amount(2000, 1), amount(0, 0))), []int{0}},
		{"Middle, of a greater Cap", podOf("p", cont("a", amount(2000, 1), amount(3000, 1))), []int{0}},
		{"Middle, without Bytes", podOf("p", cont("a", amount(2000, 0), amount(2000, 0))), []int{0}},
		{"Lowest", podOf("p", cont("a", amount(0, 0), amount(0, 0))), []int{0}},
	} {
		for i, x := range c.pod.Conts {
			if got := Own(c.pod, x); got != c.want[i] {
				t.Errorf("%s: %d of the container %d, want %d", c.name, got, i, c.want[i])
			}
		}
	}
}

// G2: what is asked for together: Ask alone counts, of each container.
func TestSum(t *testing.T) {
	most := amount(api.MaxMilli, api.MaxBytes)
	for _, c := range []struct {
		pod  api.Pod
		want api.Amount
	}{
		{podOf("p", cont("a", amount(0, 0), amount(5, 6))), amount(0, 0)},
		{podOf("p", cont("a", amount(1, 2), amount(5, 6))), amount(1, 2)},
		{podOf("p", cont("a", amount(1, 20), amount(5, 60)), cont("b", amount(300, 4000), amount(0, 0))), amount(301, 4020)},
		{podOf("p", cont("a", most, most), cont("b", most, amount(0, 0)), cont("c", most, most)), amount(3000000, 3377699720527872)},
	} {
		if got := Sum(c.pod); got != c.want {
			t.Errorf("%v: %v, want %v", c.pod, got, c.want)
		}
	}
}

// G3: shares, at the edges and where they are rounded.
func TestShares(t *testing.T) {
	for milli, want := range map[int]int{
		0: 2, 1: 2, 2: 2, 3: 3, 41: 41, 42: 43, 100: 102, 125: 128, 500: 512, 999: 1022, 1000: 1024, 1001: 1025,
		255998: 262141, 255999: 262142, 256000: 262144, 256001: 262144, 1000000: 262144, 3000000: 262144,
		1 << 30: 262144, 1<<30 - 1: 262144,
	} {
		if got := Shares(milli); got != want {
			t.Errorf("Shares(%d): %d, want %d", milli, got, want)
		}
	}
	for milli := range 300000 {
		got := Shares(milli)
		if got > 2 && got < 262144 && (got*1000 > milli*1024 || (got+1)*1000 <= milli*1024) {
			t.Errorf("Shares(%d): %d isn't it, rounded down", milli, got)
		}
		if got < 2 || got > 262144 || got == 2 && milli > 2 || got == 262144 && milli < 256000 {
			t.Errorf("Shares(%d): %d", milli, got)
		}
	}
}

// G3: quotas, at the edges.
func TestQuota(t *testing.T) {
	for milli, want := range map[int]int{
		0: -1, 1: 1000, 9: 1000, 10: 1000, 11: 1100, 12: 1200, 500: 50000, 1000: 100000, 2000: 200000, 1000000: 100000000,
		3000000: 300000000, 1 << 30: 107374182400,
	} {
		if got := Quota(milli); got != want {
			t.Errorf("Quota(%d): %d, want %d", milli, got, want)
		}
	}
}

// told: groups as the document's sessions tell them.
func told(l []api.Group) string {
	var s []string
	for _, g := range l {
		s = append(s, g.Path+" "+strconv.Itoa(g.Shares)+" "+strconv.Itoa(g.Quota)+" "+strconv.Itoa(g.Bytes))
	}
	return strings.Join(s, "; ")
}

// G3: groups, of the document's example first.
func TestGroups(t *testing.T) {
	web := podOf("web", cont("x", amount(2000, 64<<20), amount(2000, 64<<20)))
	job := podOf("job", cont("y", amount(500, 32<<20), amount(0, 0)))
	low := podOf("low", cont("z", amount(0, 0), amount(0, 0)))
	two := podOf("two", cont("a", amount(100, 1), amount(200, 5)), cont("b", amount(0, 3), amount(9, 7)))
	half := podOf("half", cont("a", amount(100, 1), amount(200, 0)), cont("b", amount(0, 3), amount(0, 7)))
	pair := podOf("pair", cont("a", amount(4, 2), amount(4, 2)), cont("b", amount(5, 3), amount(5, 3)), cont("c", amount(1, 1), amount(1, 1)))
	for _, c := range []struct {
		name string
		l    []api.Pod
		want string
	}{
		{"the document's", []api.Pod{job, low, web}, "/mid 512 -1 0; /low 2 -1 0; /mid/job 512 -1 0; /mid/job/y 512 -1 0; /low/low 2 -1 0; /low/low/z 2 -1 0; /web 2048 200000 67108864; /web/x 2048 200000 67108864"},
		{"of no pods", nil, "/mid 2 -1 0; /low 2 -1 0"},
		{"in their order", []api.Pod{web, low}, "/mid 2 -1 0; /low 2 -1 0; /web 2048 200000 67108864; /web/x 2048 200000 67108864; /low/low 2 -1 0; /low/low/z 2 -1 0"},
		{"limits together", []api.Pod{two}, "/mid 102 -1 0; /low 2 -1 0; /mid/two 102 20900 12; /mid/two/a 102 20000 5; /mid/two/b 2 1000 7"},
		{"limits that one has not", []api.Pod{half}, "/mid 102 -1 0; /low 2 -1 0; /mid/half 102 -1 0; /mid/half/a 102 20000 0; /mid/half/b 2 -1 7"},
		{"of Middle ones together", []api.Pod{two, web, half, job}, "/mid 716 -1 0; /low 2 -1 0; " +
			"/mid/two 102 20900 12; /mid/two/a 102 20000 5; /mid/two/b 2 1000 7; /web 2048 200000 67108864; /web/x 2048 200000 67108864; " +
			"/mid/half 102 -1 0; /mid/half/a 102 20000 0; /mid/half/b 2 -1 7; /mid/job 512 -1 0; /mid/job/y 512 -1 0"},
		{"sums first, then bounds and rounding", []api.Pod{pair}, "/mid 2 -1 0; /low 2 -1 0; /pair 10 1000 6; /pair/a 4 1000 2; /pair/b 5 1000 3; /pair/c 2 1000 1"},
	} {
		if got := told(Groups(c.l)); got != c.want {
			t.Errorf("%s:\n%s, want\n%s", c.name, got, c.want)
		}
	}
}

// slowGroups: the document's words, one after the other.
func slowGroups(l []api.Pod) []api.Group {
	prefix := map[int]string{api.Lowest: "/low/", api.Middle: "/mid/", api.Certain: "/"}
	all := 0
	var out []api.Group
	for _, p := range l {
		if Class(p) == api.Middle {
			all += Sum(p).Milli
		}
		milli, bytes, noMilli, noBytes := 0, 0, false, false
		var inner []api.Group
		for _, c := range p.Conts {
			milli, bytes = milli+c.Cap.Milli, bytes+c.Cap.Bytes
			noMilli, noBytes = noMilli || c.Cap.Milli == 0, noBytes || c.Cap.Bytes == 0
			inner = append(inner, api.Group{Path: prefix[Class(p)] + p.Name + "/" + c.Name, Shares: Shares(c.Ask.Milli), Quota: Quota(c.Cap.Milli), Bytes: c.Cap.Bytes})
		}
		if noMilli {
			milli = 0
		}
		if noBytes {
			bytes = 0
		}
		out = append(out, api.Group{Path: prefix[Class(p)] + p.Name, Shares: Shares(Sum(p).Milli), Quota: Quota(milli), Bytes: bytes})
		out = append(out, inner...)
	}
	return append([]api.Group{{Path: "/mid", Shares: Shares(all), Quota: -1}, {Path: "/low", Shares: 2, Quota: -1}}, out...)
}

// drawn: a pod that may be.
func drawn(r *rand.Rand, name string) api.Pod {
	p := api.Pod{Name: name, Prio: r.Intn(api.MaxPrio + 1)}
	class := r.Intn(3)
	for i := range 1 + r.Intn(api.MaxConts) {
		c := api.Cont{Name: "c" + strconv.Itoa(i)}
		if class > 0 {
			c.Ask = amount(r.Intn(3)*r.Intn(api.MaxMilli/2), r.Intn(3)*r.Intn(api.MaxBytes/2))
			c.Cap = c.Ask
		}
		if class == 1 {
			c.Cap = amount(r.Intn(2)*(c.Ask.Milli+r.Intn(3)), r.Intn(2)*(c.Ask.Bytes+r.Intn(3)))
		}
		p.Conts = append(p.Conts, c)
	}
	return p
}

// G3, W5: drawn pods; no container may have more than its pod.
func TestGroupsDrawn(t *testing.T) {
	r := rand.New(rand.NewSource(2))
	for range 3000 {
		var l []api.Pod
		for i := range r.Intn(api.MaxPods + 1) {
			p := drawn(r, "p"+strconv.Itoa(i))
			if Check(p) == nil {
				l = append(l, p)
			}
		}
		got := Groups(l)
		if !slices.Equal(got, slowGroups(l)) {
			t.Fatalf("%v:\n%s, want\n%s", l, told(got), told(slowGroups(l)))
		}
		for _, g := range got {
			for _, in := range got {
				if strings.HasPrefix(in.Path, g.Path+"/") && (g.Quota > 0 && in.Quota > g.Quota || g.Bytes > 0 && in.Bytes > g.Bytes) {
					t.Errorf("%v may have more than %v", in, g)
				}
			}
		}
	}
}

// Z2: nothing that is handed in is changed, nor is what stands behind a list
// read; what is answered is the caller's, twice the same.
func TestHandedIn(t *testing.T) {
	long := rich()
	long.Conts = append(long.Conts, api.Cont{Name: "wrong name", Ask: amount(-1, -1)})
	long.Conts[1].Devs = append(long.Conts[1].Devs, api.Need{Kind: "?", Many: -1}, api.Need{})
	p := long
	p.Conts = long.Conts[:3]
	p.Conts[1].Devs = long.Conts[1].Devs[:2]
	l := []api.Pod{p, podOf("other", api.Cont{Name: "a"}), podOf("behind", cont("a", amount(5, 5), amount(0, 0)))}
	before := told(Groups(l[:2]))
	if err := Check(p); err != nil {
		t.Errorf("%v: what stands behind a list is read", err)
	}
	if Sum(p) != amount(api.MaxMilli+7, api.MaxBytes+1) || Class(p) != api.Middle || Own(p, p.Conts[0]) != 0 {
		t.Errorf("%v, %d, %d", Sum(p), Class(p), Own(p, p.Conts[0]))
	}
	if !reflect.DeepEqual(p, rich()) || long.Conts[3].Name != "wrong name" || l[2].Name != "behind" {
		t.Errorf("%v was changed", p)
	}
	g := Groups(l[:2])
	clear(g)
	if got := told(Groups(l[:2])); got != before || strings.Contains(got, "behind") {
		t.Errorf("%s, it was %s", got, before)
	}
}

// Z1: no call panics, whatever the pod is; and Check refuses what may not be.
func TestAnyPod(t *testing.T) {
	far := amount(math.MaxInt, math.MinInt)
	for _, p := range []api.Pod{
		{},
		podOf(strings.Repeat("a", 1<<20), api.Cont{Name: "a"}),
		podOf("p", make([]api.Cont, 1000)...),
		podOf("p", cont("a", far, far), cont("a", far, far), cont("\xff", far, amount(0, 0))),
		podOf("p", api.Cont{Name: "a", Devs: make([]api.Need, 1000)}),
	} {
		if Check(p) == nil {
			t.Errorf("%.80v may not be", p)
		}
		Class(p)
		Sum(p)
		Groups([]api.Pod{p, p})
		Own(p, cont("x", far, far))
	}
	for _, n := range []int{math.MinInt, -1, math.MaxInt} {
		Shares(n)
		Quota(n)
	}
	if got := Groups(slices.Repeat([]api.Pod{podOf("p", cont("a", amount(1, 0), amount(0, 0)))}, 100000)); len(got) != 200002 || got[0].Shares != 102400 {
		t.Errorf("%d groups, the first one %v", len(got), got[0])
	}
}
