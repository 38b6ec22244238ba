package ostler

import (
	"slices"

	"ostlery/api"
	"ostlery/bits"
	"ostlery/devices"
	"ostlery/hints"
	"ostlery/pick"
	"ostlery/qos"
	"ostlery/topo"
)

// machine: what stays as it is, whatever is held.
type machine struct {
	topo   *topo.Topo
	open   api.Set  // processors that it does not keep for itself
	nodes  api.Mask // those of processors and devices
	bytes  int
	policy int
}

// begin a machine, and all that it has to give.
func begin(c api.Config) (machine, stock, error) {
	t, err := topo.New(c.CPUs)
	if err != nil {
		return machine{}, stock{}, err
	}
	if !bits.Inside(c.Keep, t.All()) || !within(c.Bytes, 0, api.MaxBytes) || !within(c.Policy, api.Anyhow, api.Single) {
		return machine{}, stock{}, api.ErrBound
	}
	pool, err := devices.New(c.Devs)
	if err != nil {
		return machine{}, stock{}, err
	}
	m := machine{topo: t, open: t.All() &^ c.Keep, nodes: t.Nodes(), bytes: c.Bytes, policy: c.Policy}
	for _, d := range c.Devs {
		m.nodes |= 1 << d.Node
	}
	return m, stock{cpus: m.open, pool: pool}, nil
}

// room: do these ask, together, for no more than there is?
func (m machine) room(l []api.Pod) bool {
	var sum api.Amount
	for _, p := range l {
		s := qos.Sum(p)
		sum.Milli += s.Milli
		sum.Bytes += s.Bytes
	}
	return sum.Milli <= 1000*bits.Count(m.open) && sum.Bytes <= m.bytes
}

// left: what is free of a machine with these devices, if this is held; false, if
// what was given is not just what is needed, or not there to be given.
func (m machine) left(devs []api.Dev, l []api.Held) (stock, bool) {
	pool, err := devices.New(devs)
	if err != nil {
		return stock{}, false
	}
	s := stock{cpus: m.open, pool: pool}
	for _, h := range l {
		for i, g := range h.Given {
			c := h.Pod.Conts[i]
			if !s.claim(g, qos.Own(h.Pod, c), c.Devs) {
				return stock{}, false
			}
		}
	}
	return s, true
}

// give each container of a pod what it needs, of a stock.
func (m machine) give(s stock, p api.Pod) ([]api.Given, error) {
	var l []api.Given
	for _, c := range p.Conts {
		g, err := m.giveOne(s, qos.Own(p, c), c.Devs)
		if err != nil {
			return nil, err
		}
		s.cpus &^= g.CPUs
		l = append(l, g)
	}
	return l, nil
}

// giveOne: so many processors, and devices, where they lie best.
func (m machine) giveOne(s stock, own int, needs []api.Need) (api.Given, error) {
	place, in, err := hints.Merge(m.policy, m.nodes, m.wishes(s, own, needs))
	if err != nil {
		return api.Given{}, err
	}
	if !in {
		return api.Given{}, api.ErrPlace
	}
	cpus, err := pick.Take(m.topo, s.cpus, own, place.Mask)
	if err != nil {
		return api.Given{}, err
	}
	var devs []int
	for _, n := range needs {
		l, err := s.pool.Take(n.Kind, n.Many, place.Mask)
		if err != nil {
			return api.Given{}, err
		}
		devs = append(devs, l...)
	}
	slices.Sort(devs) // they rise in each kind alone
	return api.Given{CPUs: cpus, Devs: devs}, nil
}

// wishes of where so many processors, and devices, may lie.
func (m machine) wishes(s stock, own int, needs []api.Need) []api.Wish {
	l := []api.Wish{hints.For(m.topo.Count(s.cpus), m.topo.Count(m.open), m.nodes, own)}
	for _, n := range needs {
		free, all := s.pool.Count(n.Kind)
		l = append(l, hints.For(free, all, m.nodes, n.Many))
	}
	return l
}

// within: is n from least to most?
func within(n, least, most int) bool { return n >= least && n <= most }
