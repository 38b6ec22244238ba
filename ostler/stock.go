package ostler

import (
	"ostlery/api"
	"ostlery/bits"
	"ostlery/devices"
)

// stock: processors and devices, of which some are nobody's.
type stock struct {
	cpus api.Set // those that are nobody's
	pool *devices.Pool
}

// claim what a container was given; false, if it isn't free, or not just what it needs.
func (s *stock) claim(g api.Given, own int, needs []api.Need) bool {
	if !bits.Inside(g.CPUs, s.cpus) || bits.Count(g.CPUs) != own || s.pool.Claim(g.Devs) != nil {
		return false
	}
	s.cpus &^= g.CPUs
	return just(s.pool.Devices(), g.Devs, needs)
}

// just: are those of these numbers as many of each kind as are needed, and no others?
func just(devs []api.Dev, l []int, needs []api.Need) bool {
	wanted := make(map[string]int) // below 0: more are there than are needed
	for _, n := range needs {
		wanted[n.Kind] = n.Many
	}
	for _, n := range l {
		kind := devs[n].Kind
		wanted[kind]--
		if wanted[kind] == 0 {
			delete(wanted, kind)
		}
	}
	return len(wanted) == 0
}
