package ostler

import (
	"fmt"
	"slices"
	"strings"

	"ostlery/api"
	"ostlery/bits"
	"ostlery/devices"
	"ostlery/evict"
	"ostlery/hints"
	"ostlery/pick"
	"ostlery/qos"
	"ostlery/save"
	"ostlery/topo"
)

// model: the document's words, read slowly: nothing is kept but what is held, and who is sick.
type model struct {
	c    api.Config
	sick map[int]bool
	held map[string]api.Held
}

func newModel(c api.Config) *model {
	m := &model{c: c, sick: map[int]bool{}, held: map[string]api.Held{}}
	m.heal()
	return m
}

// heal: devices are as sick as the config says.
func (m *model) heal() {
	for n, d := range m.c.Devs {
		m.sick[n] = d.Sick
	}
}

// list of what is held, by rising names.
func (m *model) list() []api.Held {
	var l []api.Held
	for _, h := range m.held {
		l = append(l, h)
	}
	slices.SortFunc(l, func(a, b api.Held) int { return strings.Compare(a.Pod.Name, b.Pod.Name) })
	return l
}

func (m *model) pods() []api.Pod {
	var l []api.Pod
	for _, h := range m.list() {
		l = append(l, h.Pod)
	}
	return l
}

func (m *model) devices() []api.Dev {
	var l []api.Dev
	for n, d := range m.c.Devs {
		l = append(l, api.Dev{Kind: d.Kind, Node: d.Node, Sick: m.sick[n]})
	}
	return l
}

// without what these and those that are held have: the processors that are shared.
func (m *model) shared(ahead []api.Given) api.Set {
	var s api.Set
	for n := range m.c.CPUs {
		if !bits.Has(m.c.Keep, n) && !slices.ContainsFunc(m.given(ahead), func(g api.Given) bool { return bits.Has(g.CPUs, n) }) {
			s |= 1 << n
		}
	}
	return s
}

// given: all that is, and that ahead.
func (m *model) given(ahead []api.Given) []api.Given {
	l := slices.Clone(ahead)
	for _, h := range m.held {
		l = append(l, h.Given...)
	}
	return l
}

// pool in which what was given is used.
func (m *model) pool(ahead []api.Given) *devices.Pool {
	p, err := devices.New(m.devices())
	for _, g := range m.given(ahead) {
		if err == nil {
			err = p.Claim(g.Devs)
		}
	}
	if err != nil {
		panic(err)
	}
	return p
}

func (m *model) admit(p api.Pod) error {
	if err := qos.Check(p); err != nil {
		return err
	}
	if _, held := m.held[p.Name]; held {
		return api.ErrExist
	}
	if len(m.held) == 12 {
		return api.ErrMany
	}
	if asks(m.c, append(m.pods(), p)) != "" {
		return api.ErrRoom
	}
	var given []api.Given
	for _, c := range p.Conts {
		g, err := m.give(p, c, given)
		if err != nil {
			return err
		}
		given = append(given, g)
	}
	m.held[p.Name] = api.Held{Pod: p, Given: given}
	return nil
}

// give a container what it needs, if this was given to those ahead of it.
func (m *model) give(p api.Pod, c api.Cont, ahead []api.Given) (api.Given, error) {
	t, err := topo.New(m.c.CPUs)
	if err != nil {
		panic(err)
	}
	var nodes api.Mask
	for _, x := range m.c.CPUs {
		nodes |= 1 << x.Node
	}
	for _, x := range m.c.Devs {
		nodes |= 1 << x.Node
	}
	free, pool := m.shared(ahead), m.pool(ahead)
	many := qos.Own(p, c)
	wishes := []api.Wish{hints.For(t.Count(free), t.Count(^m.c.Keep), nodes, many)}
	for _, n := range c.Devs {
		f, a := pool.Count(n.Kind)
		wishes = append(wishes, hints.For(f, a, nodes, n.Many))
	}
	h, in, err := hints.Merge(m.c.Policy, nodes, wishes)
	if err != nil {
		return api.Given{}, err
	}
	if !in {
		return api.Given{}, api.ErrPlace
	}
	g := api.Given{}
	if g.CPUs, err = pick.Take(t, free, many, h.Mask); err != nil {
		return api.Given{}, err
	}
	for _, n := range c.Devs {
		l, err := pool.Take(n.Kind, n.Many, h.Mask)
		if err != nil {
			return api.Given{}, err
		}
		g.Devs = append(g.Devs, l...)
	}
	slices.Sort(g.Devs)
	return g, nil
}

func (m *model) remove(name string) error {
	if _, held := m.held[name]; !held {
		return api.ErrNone
	}
	delete(m.held, name)
	return nil
}

func (m *model) makeSick(n int, on bool) error {
	if n < 0 || n >= len(m.c.Devs) {
		return api.ErrBound
	}
	m.sick[n] = on
	return nil
}

func (m *model) press(u []api.Use, most int) []string {
	l := evict.Relieve(m.pods(), u, most)
	for _, name := range l {
		if err := m.remove(name); err != nil {
			panic(err)
		}
	}
	return l
}

// again: a new ostler, with this in the file.
func (m *model) again(file string) {
	m.heal()
	m.held = map[string]api.Held{}
	l, err := save.Parse(file)
	if err != nil || soundly(m.c, l) != "" {
		return
	}
	for _, h := range l {
		m.held[h.Pod.Name] = h
	}
}

// shown: all that can be seen, with this in the file, as stable's.
func (m *model) shown(file string, err error) string {
	return fmt.Sprintf("%+v %v %v %v %v %q %v", m.list(), m.shared(nil), qos.Groups(m.pods()), m.devices(), wanted(m.list()), file, err)
}

// soundly: W1: what is wrong with what is held on a machine? Nothing: a text without bytes.
func soundly(c api.Config, l []api.Held) string {
	cpus, devs := map[int]int{}, map[int]int{}
	for _, h := range l {
		for i, g := range h.Given {
			for _, n := range bits.List(g.CPUs) {
				if cpus[n]++; cpus[n] > 1 || n >= len(c.CPUs) || bits.Has(c.Keep, n) {
					return fmt.Sprintf("%s: processor %d", h.Pod.Name, n)
				}
			}
			if many := qos.Own(h.Pod, h.Pod.Conts[i]); len(bits.List(g.CPUs)) != many {
				return fmt.Sprintf("%s: not %d processors", h.Pod.Name, many)
			}
			kinds := map[string]int{}
			for _, n := range g.Devs {
				if devs[n]++; devs[n] > 1 || n >= len(c.Devs) {
					return fmt.Sprintf("%s: device %d", h.Pod.Name, n)
				}
				kinds[c.Devs[n].Kind]++
			}
			needs := map[string]int{}
			for _, n := range h.Pod.Conts[i].Devs {
				needs[n.Kind] += n.Many
			}
			if fmt.Sprint(kinds) != fmt.Sprint(needs) {
				return fmt.Sprintf("%s: %v, not %v", h.Pod.Name, kinds, needs)
			}
		}
	}
	var pods []api.Pod
	for _, h := range l {
		pods = append(pods, h.Pod)
	}
	return asks(c, pods)
}

// asks: do pods ask for more than there is? What of.
func asks(c api.Config, l []api.Pod) string {
	milli, bytes := 0, 0
	for n := range c.CPUs {
		if !bits.Has(c.Keep, n) {
			milli += 1000
		}
	}
	for _, p := range l {
		for _, x := range p.Conts {
			milli -= x.Ask.Milli
			bytes += x.Ask.Bytes
		}
	}
	switch {
	case milli < 0:
		return "more processors than there are"
	case bytes > c.Bytes:
		return "more bytes than there are"
	}
	return ""
}
