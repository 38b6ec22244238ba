package ostler

import (
	"fmt"
	"slices"
	"strconv"
	"strings"
	"testing"

	"ostlery/amount"
	"ostlery/api"
	"ostlery/bits"
	"ostlery/disk"
	"ostlery/engine"
	"ostlery/save"
)

// board: so many sockets, each on a node of its own, of so many cores with so many processors.
func board(sockets, cores, threads int) []api.CPU {
	var l []api.CPU
	for range threads {
		for c := range sockets * cores {
			l = append(l, api.CPU{Core: c, Socket: c / cores, Node: c / cores})
		}
	}
	return l
}

// example: the machine of the document's example: cores of the processors n and n + 4; 0, 1, 4, 5 on node 0, the others on node 1.
func example() api.Config {
	return api.Config{
		CPUs:   board(2, 2, 2),
		Keep:   1,
		Bytes:  1 << 30,
		Devs:   []api.Dev{{Kind: "gpu", Node: 0}, {Kind: "gpu", Node: 1}, {Kind: "nic", Node: 1}},
		Policy: api.Restricted,
	}
}

// under: the example, under another policy.
func under(policy int) api.Config {
	c := example()
	c.Policy = policy
	return c
}

// amountOf a text: processors, '/', bytes; or nothing.
func amountOf(s string) api.Amount {
	if s == "" {
		return api.Amount{}
	}
	m, b, _ := strings.Cut(s, "/")
	milli, err := amount.Milli(m)
	size, err2 := amount.Bytes(b)
	if err != nil || err2 != nil {
		panic(s)
	}
	return api.Amount{Milli: milli, Bytes: size}
}

// pod with containers, each a text of name:ask:cap:needs.
func pod(name string, prio int, conts ...string) api.Pod {
	p := api.Pod{Name: name, Prio: prio}
	for _, s := range conts {
		w := strings.Split(s, ":")
		c := api.Cont{Name: w[0], Ask: amountOf(w[1]), Cap: amountOf(w[2])}
		for n := range strings.SplitSeq(w[3], "+") {
			if kind, many, two := strings.Cut(n, "="); two {
				k, _ := strconv.Atoi(many)
				c.Devs = append(c.Devs, api.Need{Kind: kind, Many: k})
			}
		}
		p.Conts = append(p.Conts, c)
	}
	return p
}

// own: a pod of one container with so many processors for itself, and needs.
func own(name string, many int, needs string) api.Pod {
	a := strconv.Itoa(many) + "/1Mi"
	return pod(name, 0, "x:"+a+":"+a+":"+needs)
}

// uses of a text: names, each with '=' and its bytes, with blanks between.
func uses(s string) []api.Use {
	var l []api.Use
	for _, w := range strings.Fields(s) {
		name, n, _ := strings.Cut(w, "=")
		bytes, err := strconv.Atoi(n)
		if err != nil {
			panic(s)
		}
		l = append(l, api.Use{Name: name, Bytes: bytes})
	}
	return l
}

// part of a machine, told.
func part(cpus api.Set, devs []int) string {
	var s []string
	for _, n := range devs {
		s = append(s, strconv.Itoa(n))
	}
	both := []string{bits.Text(cpus), strings.Join(s, ",")}
	for i := range both {
		if both[i] == "" {
			both[i] = "-"
		}
	}
	return strings.Join(both, " ")
}

// told: who holds what.
func told(l []api.Held) string {
	var all []string
	for _, h := range l {
		s := h.Pod.Name
		for i, g := range h.Given {
			s += " " + h.Pod.Conts[i].Name + " " + part(g.CPUs, g.Devs)
		}
		all = append(all, s)
	}
	return strings.Join(all, "; ")
}

// ran: what runs, told; each container by itself.
func ran(l []api.Running) string {
	var all []string
	for _, r := range l {
		all = append(all, r.Pod+" "+r.Cont+" "+part(r.CPUs, r.Devs))
	}
	return strings.Join(all, "; ")
}

// wanted: what is to run, if this is held, told as ran does.
func wanted(l []api.Held) string {
	var all []api.Running
	for _, h := range l {
		for i, g := range h.Given {
			all = append(all, api.Running{Pod: h.Pod.Name, Cont: h.Pod.Conts[i].Name, CPUs: g.CPUs, Devs: g.Devs})
		}
	}
	slices.SortFunc(all, func(a, b api.Running) int {
		if a.Pod != b.Pod {
			return strings.Compare(a.Pod, b.Pod)
		}
		return strings.Compare(a.Cont, b.Cont)
	})
	return ran(all)
}

// stable: an ostler, with its disk and engine.
type stable struct {
	*Ostler
	t *testing.T
	c api.Config
	d *disk.Disk
	e *engine.Engine
}

// opened: an ostler on a new machine, with these pods.
func opened(t *testing.T, c api.Config, l ...api.Pod) *stable {
	t.Helper()
	s := &stable{t: t, c: c, d: disk.New()}
	s.e = engine.New(s.d)
	s.again()
	for _, p := range l {
		s.admits(p)
	}
	return s
}

// again: a new ostler on the same machine.
func (s *stable) again() {
	s.t.Helper()
	a, err := New(s.c, s.d, s.e)
	if err != nil || a == nil {
		s.t.Fatalf("New: %v, %v", a, err)
	}
	s.Ostler = a
}

// fallen: the disk falls, and starts again with so much kept; a new ostler.
func (s *stable) fallen(keep, torn int) {
	s.t.Helper()
	s.d.Restart(keep, torn)
	s.again()
}

// admits a pod.
func (s *stable) admits(p api.Pod) {
	s.t.Helper()
	if err := s.Admit(p); err != nil {
		s.t.Fatalf("Admit %v: %v", p, err)
	}
}

// sound: is all as it is to be, whoever holds what? Who has what is told.
func (s *stable) sound(name string) string {
	s.t.Helper()
	l := s.Held()
	if got, want := ran(s.e.List()), wanted(l); got != want {
		s.t.Errorf("%s: %s runs, want %s", name, got, want)
	}
	if err := soundly(s.c, l); err != "" {
		s.t.Errorf("%s: %s: %s", name, told(l), err)
	}
	return told(l)
}

// holds: is this held, and does just that run?
func (s *stable) holds(name, want string) {
	s.t.Helper()
	if got := s.sound(name); got != want {
		s.t.Errorf("%s: %q is held, want %q", name, got, want)
	}
}

// shown: all that can be seen of a machine.
func (s *stable) shown() string {
	file, err := s.d.Read()
	return fmt.Sprintf("%+v %v %v %v %v %q %v", s.Held(), s.Shared(), s.Groups(), s.Devices(), ran(s.e.List()), file, err)
}

// written: the text of what is held.
func written(t *testing.T, l []api.Held) string {
	t.Helper()
	s, err := save.Text(l)
	if err != nil {
		t.Fatal(err)
	}
	return s
}
