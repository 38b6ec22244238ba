package evict

import (
	"math"
	"math/rand"
	"reflect"
	"slices"
	"strconv"
	"strings"
	"testing"

	"ostlery/api"
	"ostlery/qos"
)

// podOf: a pod of one container for each of the amounts of bytes that it asks for.
func podOf(name string, prio int, ask ...int) api.Pod {
	p := api.Pod{Name: name, Prio: prio}
	for i, n := range ask {
		p.Conts = append(p.Conts, api.Cont{Name: "c" + strconv.Itoa(i), Ask: api.Amount{Bytes: n}})
	}
	return p
}

// useOf: uses, as "name=bytes" one after the other.
func useOf(t *testing.T, s string) []api.Use {
	t.Helper()
	var u []api.Use
	for _, f := range strings.Fields(s) {
		name, number, _ := strings.Cut(f, "=")
		n, err := strconv.Atoi(number)
		if err != nil {
			t.Fatal(err)
		}
		u = append(u, api.Use{Name: name, Bytes: n})
	}
	return u
}

// H1: who goes first, by each of the things that say so, and by which of them first.
func TestRank(t *testing.T) {
	ten := []api.Pod{podOf("c", 5, 10), podOf("a", 5, 10), podOf("b", 5, 10)}
	for _, c := range []struct {
		name string
		l    []api.Pod
		u    string
		want string
	}{
		{"none", nil, "a=1", ""},
		{"one", []api.Pod{podOf("a", 0, 0)}, "", "a"},
		{"by names alone", ten, "", "a b c"},
		{"names as bytes", []api.Pod{podOf("b", 0, 0), podOf("ab", 0, 0), podOf("a9", 0, 0), podOf("a", 0, 0), podOf("aa", 0, 0)}, "", "a a9 aa ab b"},
		{"most above first", ten, "a=11 b=13 c=12", "b c a"},
		{"least below first", ten, "a=1 b=9 c=5", "b c a"},
		{"as much as is asked for is not more", ten, "a=10 b=11 c=10", "b a c"},
		{"less is further behind than just as much", ten, "a=9 b=10 c=8", "b a c"},
		{"who uses more, whatever its Prio", []api.Pod{podOf("a", 0, 5), podOf("b", 1000, 5), podOf("c", 1, 5)}, "a=5 b=6 c=4", "b a c"},
		{"Prio ahead of how much more", []api.Pod{podOf("a", 3, 0), podOf("b", 2, 0), podOf("c", 1, 0)}, "a=900 b=50 c=1", "c b a"},
		{"Prio ahead of how much less", []api.Pod{podOf("a", 3, 90), podOf("b", 2, 90), podOf("c", 1, 90)}, "a=90 b=50 c=1", "c b a"},
		{"how much above, not how much", []api.Pod{podOf("a", 1, 100), podOf("b", 1, 1)}, "a=101 b=3", "b a"},
		{"how much below, not how much", []api.Pod{podOf("a", 1, 100), podOf("b", 1, 5)}, "a=90 b=1", "b a"},
		{"how much above ahead of names", []api.Pod{podOf("a", 1, 1), podOf("b", 1, 1), podOf("z", 1, 1)}, "z=3 b=2 a=2", "z a b"},
		{"all containers' Ask together", []api.Pod{podOf("a", 1, 1, 2, 3), podOf("b", 0, 1, 2, 4)}, "a=7 b=7", "a b"},
		{"who is not told uses nothing", []api.Pod{podOf("a", 1, 7), podOf("b", 1, 5), podOf("c", 1, 0)}, "a=1", "c b a"},
		{"the first use of a name", ten, "a=12 b=11 a=1 b=90 c=13 c=0", "c a b"},
		{"the first use, though it is 0", ten, "c=0 c=90", "a b c"},
		{"the first use, though it is 0, of one that asks for nothing", []api.Pod{podOf("b", 1, 0), podOf("a", 1, 0)}, "b=0 b=9", "a b"},
		{"uses of others", ten, "d=99 b=11 =5 aa=100", "b a c"},
		{"uses below 0", []api.Pod{podOf("a", 1, 0), podOf("b", 1, 0), podOf("c", 1, 0)}, "a=-2 b=-1", "c b a"},
		{"at the bounds", []api.Pod{podOf("a", 1000, api.MaxBytes, api.MaxBytes, api.MaxBytes), podOf("b", 1000, 0), podOf("c", 1000, api.MaxBytes)},
			"a=-1125899906842624 b=1125899906842624 c=1125899906842624", "b c a"},
	} {
		if got := strings.Join(Rank(c.l, useOf(t, c.u)), " "); got != c.want {
			t.Errorf("%s: %q, want %q", c.name, got, c.want)
		}
	}
}

// H1: what a container may have, and its processors, say nothing of who goes first.
func TestRankRest(t *testing.T) {
	l := []api.Pod{podOf("b", 1, 5), podOf("a", 1, 5)}
	l[0].Conts[0].Ask.Milli, l[0].Conts[0].Cap = 500, api.Amount{Milli: 900, Bytes: 9}
	l[0].Conts[0].Devs = []api.Need{{Kind: "gpu", Many: 1}}
	if got := Rank(l, useOf(t, "a=6 b=6")); !slices.Equal(got, []string{"a", "b"}) {
		t.Errorf("%v", got)
	}
}

// H2: how many go.
func TestRelieve(t *testing.T) {
	l := []api.Pod{podOf("a", 1, 0), podOf("b", 2, 0), podOf("c", 3, 0), podOf("d", 4, 100)}
	fall := []api.Pod{podOf("b", 2, 10), podOf("a", 1, 10)}
	for _, c := range []struct {
		name string
		l    []api.Pod
		u    string
		most int
		want string
	}{
		{"no pods", nil, "a=5", 0, ""},
		{"no pods, less than nothing", nil, "", -1, ""},
		{"nothing is used", l, "", 0, ""},
		{"just as much as may be", l, "a=1 b=2 c=3 d=4", 10, ""},
		{"one too much", l, "a=1 b=2 c=3 d=4", 9, "a"},
		{"the first is not enough", l, "a=1 b=2 c=3 d=4", 8, "a b"},
		{"the others use just so much", l, "a=1 b=2 c=3 d=4", 7, "a b"},
		{"one less", l, "a=1 b=2 c=3 d=4", 6, "a b c"},
		{"the last use just so much", l, "a=1 b=2 c=3 d=4", 4, "a b c"},
		{"nothing may be used", l, "a=1 b=2 c=3 d=4", 0, "a b c d"},
		{"the last ones use nothing", l, "a=1 b=2", 0, "a b"},
		{"less than nothing", l, "a=1 b=2 c=3 d=4", -1, "a b c d"},
		{"less than nothing, and nothing is used", l, "", -1, "a b c d"},
		{"far less than nothing", l, "a=1", math.MinInt, "a b c d"},
		{"as much as there is", l, "a=1 b=2 c=3 d=4", math.MaxInt, ""},
		{"uses of others do not count", l, "x=99 a=1", 1, ""},
		{"the second use of a name does not count", l, "a=1 a=50", 1, ""},
		{"the first use of a name does", l, "a=50 a=1", 1, "a"},
		{"those that use nothing go in their turn", l, "d=101 a=0 b=4", 3, "b d"},
		{"in the order of their rank", []api.Pod{podOf("a", 9, 0), podOf("b", 1, 0), podOf("c", 5, 0)}, "a=5 b=5 c=5", 6, "b c"},
		{"uses below 0 make up for others", l, "a=3 b=3 c=-6", 0, ""},
		{"who goes last, makes up for all", l, "a=5 b=5 d=-10", 0, ""},
		{"only those that must", l, "b=2 a=-4 c=1", -2, "b"},
		{"as few as can be, though with one more it would be too much", fall, "a=-5 b=8", 3, ""},
		{"the first makes it worse", fall, "a=-5 b=8", 2, "a b"},
		{"no more than what is used below 0", l, "a=-1 b=-2 c=-3 d=-4", -10, ""},
		{"no such number", l, "a=-1 b=-2 c=-3 d=-4", -11, "a b c d"},
	} {
		if got := strings.Join(Relieve(c.l, useOf(t, c.u), c.most), " "); got != c.want {
			t.Errorf("%s: %q, want %q", c.name, got, c.want)
		}
	}
}

// crowd: many pods that ask for nothing, of names that rise, and what they use, each as much.
func crowd(many, bytes int) ([]api.Pod, []api.Use) {
	var l []api.Pod
	var u []api.Use
	for i := range many {
		name := "p" + strconv.Itoa(1000000+i)
		l = append(l, podOf(name, 0, 0))
		u = append(u, api.Use{Name: name, Bytes: bytes})
	}
	return l, u
}

// H2: many pods may use more, together, than a number of 64 bits holds.
func TestRelieveMany(t *testing.T) {
	const fit = 1 << 13 // so many times MaxBytes is one more than the greatest number
	for _, c := range []struct {
		many, bytes, most, want int
	}{
		{fit - 1, api.MaxBytes, math.MaxInt, 0},
		{fit, api.MaxBytes, math.MaxInt, 1},
		{fit + 1, api.MaxBytes, math.MaxInt, 2},
		{fit + 1, api.MaxBytes, math.MaxInt - api.MaxBytes, 3},
		{4 * fit, api.MaxBytes, math.MaxInt, 3*fit + 1},
		{4 * fit, api.MaxBytes, 0, 4 * fit},
		{2 * fit, api.MaxBytes, -1, 2 * fit},
		{2 * fit, api.MaxBytes, api.MaxBytes, 2*fit - 1},
		{fit, -api.MaxBytes, math.MinInt, 0},
		{fit - 1, -api.MaxBytes, math.MinInt, fit - 1},
		{2 * fit, -api.MaxBytes, math.MinInt, 0},
		{2 * fit, -api.MaxBytes, 0, 0},
	} {
		l, u := crowd(c.many, c.bytes)
		got := Relieve(l, u, c.most)
		if len(got) != c.want {
			t.Errorf("%d that use %d, %d at most: %d go, want %d", c.many, c.bytes, c.most, len(got), c.want)
		}
		if !slices.Equal(got, Rank(l, u)[:len(got)]) {
			t.Errorf("%d that use %d, %d at most: others than the first go", c.many, c.bytes, c.most)
		}
	}
}

// usedBy: what the first of u that has a name says.
func usedBy(u []api.Use, name string) int {
	for _, x := range u {
		if x.Name == name {
			return x.Bytes
		}
	}
	return 0
}

// ahead: does a go ahead of b, by the document's words?
func ahead(a, b api.Pod, u []api.Use) bool {
	overA, overB := usedBy(u, a.Name)-qos.Sum(a).Bytes, usedBy(u, b.Name)-qos.Sum(b).Bytes
	if (overA > 0) != (overB > 0) {
		return overA > 0
	}
	if a.Prio != b.Prio {
		return a.Prio < b.Prio
	}
	if overA != overB {
		return overA > overB
	}
	return a.Name < b.Name
}

// slowRank: each stands behind as many as go ahead of it.
func slowRank(l []api.Pod, u []api.Use) []string {
	out := make([]string, len(l))
	for _, p := range l {
		at := 0
		for _, o := range l {
			if ahead(o, p, u) {
				at++
			}
		}
		out[at] = p.Name
	}
	return out
}

// slowRelieve: each number of those that go is tried, none first.
func slowRelieve(rank []string, u []api.Use, most int) []string {
	for n := range rank {
		left := 0
		for _, name := range rank[n:] {
			left += usedBy(u, name)
		}
		if left <= most {
			return rank[:n]
		}
	}
	return rank
}

// drawn: pods that may be, of unlike names, and uses, some of nobody, some twice.
func drawn(r *rand.Rand) ([]api.Pod, []api.Use) {
	names := []string{"a", "b", "c", "ab", "a0", "web", "x9", "zz"}
	r.Shuffle(len(names), func(i, j int) { names[i], names[j] = names[j], names[i] })
	var l []api.Pod
	for _, n := range names[:r.Intn(len(names)+1)] {
		l = append(l, podOf(n, r.Intn(3), slices.Repeat([]int{r.Intn(5)}, 1+r.Intn(3))...))
	}
	var u []api.Use
	for range r.Intn(12) {
		u = append(u, api.Use{Name: names[r.Intn(len(names))], Bytes: r.Intn(18) - 4})
	}
	return l, u
}

// H1, H2: drawn pods and uses.
func TestDrawn(t *testing.T) {
	r := rand.New(rand.NewSource(1))
	for range 20000 {
		l, u := drawn(r)
		rank := slowRank(l, u)
		if got := Rank(l, u); !slices.Equal(got, rank) {
			t.Fatalf("%v, %v: %v, want %v", l, u, got, rank)
		}
		most := r.Intn(60) - 10
		if got, want := Relieve(l, u, most), slowRelieve(rank, u, most); !slices.Equal(got, want) {
			t.Fatalf("%v, %v, %d: %v, want %v", l, u, most, got, want)
		}
	}
}

// H1: the order in which pods come says nothing.
func TestOrderOfPods(t *testing.T) {
	r := rand.New(rand.NewSource(2))
	for range 300 {
		l, u := drawn(r)
		want := Rank(l, u)
		r.Shuffle(len(l), func(i, j int) { l[i], l[j] = l[j], l[i] })
		if got := Rank(l, u); !slices.Equal(got, want) {
			t.Errorf("%v, %v: %v, it was %v", l, u, got, want)
		}
	}
}

// Z2: nothing that is handed in is changed, nor is what stands behind a list
// read; what is answered is the caller's.
func TestHandedIn(t *testing.T) {
	pods := func() []api.Pod {
		return []api.Pod{podOf("c", 1, 5), podOf("b", 2, 5, 6), podOf("a", 3, 0), podOf("behind", 0, 0)}
	}
	l, u := pods(), useOf(t, "b=20 c=1 a=4 b=9")
	l[1].Conts = append(l[1].Conts, api.Cont{Name: "x", Ask: api.Amount{Bytes: 100}})[:2]
	want := []string{"b", "a", "c"}
	for range 2 {
		one, two := Rank(l[:3], u[:2]), Relieve(l[:3], u[:2], -1)
		if !slices.Equal(one, []string{"b", "c", "a"}) || !slices.Equal(two, one) {
			t.Errorf("%v, %v", one, two)
		}
		if got := Rank(l[:3], u); !slices.Equal(got, want) {
			t.Errorf("%v, want %v", got, want)
		}
		clear(one)
		clear(two)
	}
	if !reflect.DeepEqual(l, pods()) || !slices.Equal(u, useOf(t, "b=20 c=1 a=4 b=9")) {
		t.Errorf("changed: %v, %v", l, u)
	}
}

// Z1: no call panics, and all end, whatever the pods and uses are.
func TestAnything(t *testing.T) {
	far := []api.Use{{Name: "a", Bytes: math.MinInt}, {Name: "b", Bytes: math.MaxInt}, {Name: "", Bytes: -1}}
	odd := []api.Pod{{}, {}, podOf("a", -5, math.MaxInt, math.MaxInt), podOf("b", 5, math.MinInt), podOf("a", 5)}
	for _, most := range []int{math.MinInt, -1, 0, math.MaxInt} {
		if got := Relieve(odd, far, most); len(got) > len(odd) {
			t.Errorf("%v", got)
		}
	}
	if got := Rank(odd, far); len(got) != len(odd) {
		t.Errorf("%v", got)
	}
	l, u := crowd(200000, 1)
	slices.Reverse(l)
	if got := Relieve(l, u, 100000); len(got) != 100000 || got[0] != "p1000000" {
		t.Errorf("%d go, %s first", len(got), got[0])
	}
}
