package console

import (
	"cmp"
	"fmt"
	"math/rand"
	"slices"
	"strconv"
	"strings"
	"testing"

	"ostlery/amount"
	"ostlery/api"
	"ostlery/bits"
	"ostlery/qos"
)

// place where a drawn session takes place: as the document's 'machine' has it.
type place struct {
	sockets, cores, threads, policy int
	keep                            api.Set
	devs                            []api.Dev
}

// drawnPlace, of up to four nodes.
func drawnPlace(r *rand.Rand) place {
	p := place{sockets: 1 + r.Intn(4), cores: 1 + r.Intn(3), threads: 1 + r.Intn(2), policy: r.Intn(4)}
	p.keep = api.Set(r.Intn(4)) & p.all()
	for range r.Intn(6) {
		p.devs = append(p.devs, api.Dev{Kind: one(r, "gpu", "nic"), Node: r.Intn(p.sockets)})
	}
	return p
}

// all processors.
func (p place) all() api.Set { return 1<<(p.sockets*p.cores*p.threads) - 1 }

// node of a processor.
func (p place) node(cpu int) int { return cpu % (p.sockets * p.cores) / p.cores }

// lines that begin it.
func (p place) lines() []string {
	var l []string
	for _, d := range p.devs {
		l = append(l, fmt.Sprintf("device %s %d", d.Kind, d.Node))
	}
	return append(l, fmt.Sprintf("machine %d %d %d %d 1Ki %s", p.sockets, p.cores, p.threads, p.policy, dash(bits.Text(p.keep))))
}

// drawnPod of any class.
func drawnPod(r *rand.Rand) api.Pod {
	p := api.Pod{Name: one(r, "a", "b", "c", "web", "job"), Prio: r.Intn(3)}
	kind := r.Intn(4)
	for i := range 1 + r.Intn(2) {
		c := api.Cont{Name: string(rune('x' + i))}
		if kind > 0 {
			c.Ask = api.Amount{Milli: []int{1, 500, 1000, 1000, 2000, 3000, 4500}[r.Intn(7)], Bytes: []int{1, 100, 300, 512}[r.Intn(4)]}
		}
		switch kind {
		case 1:
			c.Cap.Bytes = c.Ask.Bytes + r.Intn(2)
		case 2, 3:
			c.Cap = c.Ask
		}
		for _, k := range []string{"gpu", "nic"} {
			if r.Intn(4) == 0 {
				c.Devs = append(c.Devs, api.Need{Kind: k, Many: 1 + r.Intn(2)})
			}
		}
		p.Conts = append(p.Conts, c)
	}
	return p
}

// amountWord of an amount: nothing, if both are 0.
func amountWord(a api.Amount) string {
	if a == (api.Amount{}) {
		return ""
	}
	milli, _ := amount.MilliText(a.Milli)
	size, _ := amount.BytesText(a.Bytes)
	return milli + "/" + size
}

// admitLine of a pod.
func admitLine(p api.Pod) string {
	words := []string{"admit", p.Name, strconv.Itoa(p.Prio)}
	for _, c := range p.Conts {
		var needs []string
		for _, n := range c.Devs {
			needs = append(needs, n.Kind+"="+strconv.Itoa(n.Many))
		}
		words = append(words, strings.Join([]string{c.Name, amountWord(c.Ask), amountWord(c.Cap), strings.Join(needs, "+")}, ":"))
	}
	return strings.Join(words, " ")
}

// whole: a session that goes on line by line, and what is known of it by its answers alone.
type whole struct {
	t     *testing.T
	place place
	lines []string           // that were answered without an error
	pods  map[string]api.Pod // that were let in
}

// began: a session of a machine.
func began(t *testing.T, p place) *whole {
	w := &whole{t: t, place: p, pods: map[string]api.Pod{}}
	for _, line := range p.lines() {
		if got := w.try(line)[0]; got != "ok" {
			t.Fatalf("%s: %s", line, got)
		}
		w.lines = append(w.lines, line)
	}
	return w
}

// try lines behind those that there are: their answers.
func (w *whole) try(lines ...string) []string {
	w.t.Helper()
	return run(w.t, slices.Concat(w.lines, lines)...)[len(w.lines):]
}

// look: what is told of the machine, behind some more lines.
func (w *whole) look(lines ...string) [4]string {
	w.t.Helper()
	return [4]string(w.try(append(slices.Clone(lines), "held", "running", "groups", "shared")...)[len(lines):])
}

// given: what is told of a container.
type given struct {
	pod, cont string
	cpus      api.Set
	devs      []int
}

// set that is told, or '-'.
func (w *whole) set(s string) api.Set {
	w.t.Helper()
	if s == "-" {
		return 0
	}
	set, err := bits.Parse(s)
	if err != nil || bits.Text(set) != s || set == 0 { // W6
		w.t.Fatalf("%q is told as a set", s)
	}
	return set
}

// list of devices that is told, or '-'.
func (w *whole) list(s string) []int {
	w.t.Helper()
	var l []int
	for _, x := range strings.Split(s, ",") {
		n, err := strconv.Atoi(x)
		if s == "-" {
			break
		}
		if err != nil || n < 0 || n >= len(w.place.devs) {
			w.t.Fatalf("%q is told as devices", s)
		}
		l = append(l, n)
	}
	return l
}

// heldOf an answer: of each container what it was given, in order.
func (w *whole) heldOf(s string) []given {
	w.t.Helper()
	var l []given
	last := ""
	for _, x := range strings.Split(s, "; ") {
		words := strings.Split(x, " ")
		if s == "-" {
			break
		}
		if len(words)%3 != 1 || words[0] <= last {
			w.t.Fatalf("%q is told as what is held", s)
		}
		last = words[0]
		for g := range slices.Chunk(words[1:], 3) {
			l = append(l, given{words[0], g[0], w.set(g[1]), w.list(g[2])})
		}
	}
	return l
}

// sound: W1, W2, W4 and W5 of what is told.
func (w *whole) sound(told [4]string) {
	w.t.Helper()
	l := w.heldOf(told[0])
	free := w.place.all() &^ w.place.keep
	milli, size, loose, at := 0, 0, 0, 0
	used := map[int]bool{}
	var runs []string
	for _, name := range sortedNames(w.pods) {
		p := w.pods[name]
		for _, c := range p.Conts {
			if at == len(l) || l[at].pod != name || l[at].cont != c.Name {
				w.t.Fatalf("%v is held, of %v", told[0], w.pods)
			}
			g := l[at]
			at++
			if bits.Count(g.cpus) != qos.Own(p, c) || !bits.Inside(g.cpus, free) {
				w.t.Errorf("W1: %s: %s %s has processors that it may not have", told[0], name, c.Name)
			}
			free &^= g.cpus
			w.devices(g, c, used)
			w.oneNode(g)
			if g.cpus == 0 {
				loose += c.Ask.Milli
			}
			milli, size = milli+c.Ask.Milli, size+c.Ask.Bytes
			runs = append(runs, fmt.Sprintf("%s %s %s %s", name, c.Name, dash(bits.Text(g.cpus)), numbers(g.devs)))
		}
	}
	if at != len(l) {
		w.t.Errorf("W1: %s is held, of %v", told[0], w.pods)
	}
	if w.set(told[3]) != free || loose > 1000*bits.Count(free) {
		w.t.Errorf("W1: %s is shared, of %s for %d", told[3], bits.Text(free), loose)
	}
	if milli > 1000*bits.Count(w.place.all()&^w.place.keep) || size > 1024 {
		w.t.Errorf("W1: %d and %d are asked for", milli, size)
	}
	if want := dash(strings.Join(runs, "; ")); told[1] != want {
		w.t.Errorf("W4: %s runs, %s is held", told[1], want)
	}
	w.groups(told[2])
}

// sortedNames of pods.
func sortedNames(pods map[string]api.Pod) []string {
	var l []string
	for name := range pods {
		l = append(l, name)
	}
	slices.Sort(l)
	return l
}

// devices: W1: just as many of each kind as a container needs, of which nobody else has one.
func (w *whole) devices(g given, c api.Cont, used map[int]bool) {
	w.t.Helper()
	kinds := map[string]int{}
	for _, n := range g.devs {
		if used[n] {
			w.t.Errorf("W1: device %d is given twice", n)
		}
		used[n] = true
		kinds[w.place.devs[n].Kind]++
	}
	for _, n := range c.Devs {
		if kinds[n.Kind] != n.Many {
			w.t.Errorf("W1: %s %s has %d of %s, needs %d", g.pod, g.cont, kinds[n.Kind], n.Kind, n.Many)
		}
		delete(kinds, n.Kind)
	}
	if len(kinds) > 0 {
		w.t.Errorf("W1: %s %s has %v too", g.pod, g.cont, kinds)
	}
}

// oneNode: W2: what is to lie on one node does.
func (w *whole) oneNode(g given) {
	w.t.Helper()
	nodes := map[int]bool{}
	for _, n := range bits.List(g.cpus) {
		nodes[w.place.node(n)] = true
	}
	for _, n := range g.devs {
		nodes[w.place.devs[n].Node] = true
	}
	if w.place.policy == api.Single && len(nodes) > 1 {
		w.t.Errorf("W2: %v lies on %d nodes", g, len(nodes))
	}
}

// groups: W5, W6: as pods that were read say, and no container may have more than its pod.
func (w *whole) groups(told string) {
	w.t.Helper()
	var pods []api.Pod
	for _, name := range sortedNames(w.pods) {
		pods = append(pods, w.pods[name])
	}
	var want []string
	for _, g := range qos.Groups(pods) {
		want = append(want, fmt.Sprintf("%s %d %d %d", g.Path, g.Shares, g.Quota, g.Bytes))
	}
	if told != strings.Join(want, "; ") {
		w.t.Errorf("W6: groups %s, want %q", told, want)
	}
	limits := map[string][2]int{}
	for _, s := range strings.Split(told, "; ") {
		words := strings.Split(s, " ")
		quota, _ := strconv.Atoi(words[2])
		size, _ := strconv.Atoi(words[3])
		limits[words[0]] = [2]int{quota, size}
		above, ok := limits[words[0][:strings.LastIndex(words[0], "/")]]
		if ok && above[0] >= 0 && (quota < 0 || quota > above[0]) || ok && above[1] > 0 && (size == 0 || size > above[1]) {
			w.t.Errorf("W5: %s may have more than its pod: %s", words[0], told)
		}
	}
}

// room: W3: is there some for a pod beside what is held?
func (w *whole) room(p api.Pod) bool {
	milli, size := 0, 0
	for _, q := range w.pods {
		milli, size = milli+qos.Sum(q).Milli, size+qos.Sum(q).Bytes
	}
	milli, size = milli+qos.Sum(p).Milli, size+qos.Sum(p).Bytes
	return milli <= 1000*bits.Count(w.place.all()&^w.place.keep) && size <= 1024
}

// needy: has it a wish of where something lies?
func needy(p api.Pod) bool {
	return slices.ContainsFunc(p.Conts, func(c api.Cont) bool { return qos.Own(p, c) > 0 || len(c.Devs) > 0 })
}

// admit a pod, if it is let in.
func (w *whole) admit(p api.Pod) {
	w.t.Helper()
	line := admitLine(p)
	ahead := w.look()
	got := w.try(line)[0]
	_, there := w.pods[p.Name]
	switch {
	case there:
		if got != "error 5" {
			w.t.Errorf("%s: %s, it is held", line, got)
		}
	case !w.room(p):
		if got != "error 7" {
			w.t.Errorf("W3: %s: %s, there is no room", line, got)
		}
	case got != "ok" && !needy(p):
		w.t.Errorf("W3: %s: %s, there is room", line, got)
	}
	if got != "ok" {
		if behind := w.look(line); behind != ahead {
			w.t.Errorf("%s: %s, and %q became %q", line, got, ahead, behind)
		}
		return
	}
	if behind := w.look(line, "remove "+p.Name); behind != ahead {
		w.t.Errorf("W3: %s, and let go: %q became %q", line, ahead, behind)
	}
	w.fall(line, ahead)
	w.lines = append(w.lines, line)
	w.pods[p.Name] = p
}

// fall: W4: behind a fall at any step of a line all is as ahead of it, or behind it.
func (w *whole) fall(line string, ahead [4]string) {
	w.t.Helper()
	behind := w.look(line)
	for steps := range 9 {
		arm := fmt.Sprint("arm ", steps)
		for _, restart := range []string{"restart 0 0", "restart 0 9", "restart 1 0", "restart 9 9", "restart -1 -1"} {
			got := w.look(arm, line, restart)
			if got != ahead && got != behind {
				w.t.Fatalf("W4: %s, %s, %s: %q, ahead %q, behind %q", arm, line, restart, got, ahead, behind)
			}
			// Whatever fell, it can be done then, if it wasn't.
			if got == ahead {
				if got := w.look(arm, line, restart, line); got != behind {
					w.t.Fatalf("W4: %s, %s, %s, and again: %q, want %q", arm, line, restart, got, behind)
				}
			}
		}
	}
}

// remove a pod, if it is there.
func (w *whole) remove(name string) {
	w.t.Helper()
	line := "remove " + name
	got := w.try(line)[0]
	if _, there := w.pods[name]; !there {
		if got != "error 6" {
			w.t.Errorf("%s: %s, it isn't held", line, got)
		}
		return
	}
	if got != "ok" {
		w.t.Fatalf("%s: %s", line, got)
	}
	w.fall(line, w.look())
	w.lines = append(w.lines, line)
	delete(w.pods, name)
}

// rank of a pod that uses so much: W5's order.
func rank(p api.Pod, uses int) (over, prio, above int, name string) {
	above = uses - qos.Sum(p).Bytes
	if above <= 0 {
		over = 1
	}
	return over, p.Prio, -above, p.Name
}

// press: W5: who goes is ahead of who stays, in one order, and no more go than must.
func (w *whole) press(r *rand.Rand) {
	w.t.Helper()
	uses := map[string]int{}
	words := []string{"press", strconv.Itoa(r.Intn(900))}
	names := sortedNames(w.pods)
	for _, name := range names {
		uses[name] = r.Intn(600)
		words = append(words, fmt.Sprintf("%s=%d", name, uses[name]))
	}
	line := strings.Join(words, " ")
	slices.SortFunc(names, func(a, b string) int {
		o1, p1, u1, n1 := rank(w.pods[a], uses[a])
		o2, p2, u2, n2 := rank(w.pods[b], uses[b])
		return cmp.Or(cmp.Compare(o1, o2), cmp.Compare(p1, p2), cmp.Compare(u1, u2), cmp.Compare(n1, n2))
	})
	most, _ := strconv.Atoi(words[1])
	sum := 0
	for _, n := range uses {
		sum += n
	}
	gone := 0
	for ; sum > most; gone++ {
		sum -= uses[names[gone]]
	}
	want := dash(strings.Join(names[:gone], " "))
	if got := w.try(line)[0]; got != want {
		w.t.Fatalf("W5: %s: %s, want %s", line, got, want)
	}
	w.fall(line, w.look())
	w.lines = append(w.lines, line)
	for _, name := range names[:gone] {
		delete(w.pods, name)
	}
}

// W1 to W6, in drawn sessions, by what is answered.
func TestWhole(t *testing.T) {
	r := rand.New(rand.NewSource(7))
	for range 40 {
		w := began(t, drawnPlace(r))
		for range 14 {
			switch r.Intn(8) {
			case 0:
				w.remove(one(r, "a", "b", "c", "web", "job"))
			case 1:
				w.press(r)
			case 2:
				w.lines = append(w.lines, one(r, "restart 0 0", "restart 2 3"))
			default:
				w.admit(drawnPod(r))
			}
			w.sound(w.look())
			if t.Failed() {
				t.Fatalf("%q", w.lines)
			}
		}
		w.keeps()
	}
}

// keeps: W6: the set that is told as shared is read as one that is kept.
func (w *whole) keeps() {
	w.t.Helper()
	told := w.look()[3]
	p := w.place
	p.keep = w.set(told)
	l := append(p.lines(), "shared")
	got := run(w.t, l...)
	if want := dash(bits.Text(p.all() &^ p.keep)); got[len(got)-1] != want {
		w.t.Errorf("W6: %s is kept, %s is shared, want %s", told, got[len(got)-1], want)
	}
}

// W2: from where nothing is held a stricter policy lets nobody in whom a looser one does not.
func TestStricter(t *testing.T) {
	r := rand.New(rand.NewSource(8))
	let := [4]int{}
	for range 2000 {
		p := drawnPlace(r)
		line := admitLine(drawnPod(r))
		before := "ok"
		for policy := range 4 {
			p.policy = policy
			l := run(t, append(p.lines(), line)...)
			got := l[len(l)-1]
			if got == "ok" {
				let[policy]++
				if before != "ok" {
					t.Errorf("W2: %q, %s: policy %d lets in, %d doesn't: %s", p.lines(), line, policy, policy-1, before)
				}
			}
			before = got
		}
	}
	if !(let[0] >= let[1] && let[1] > let[2] && let[2] > let[3] && let[3] > 0) {
		t.Errorf("let in: %v", let)
	}
}
