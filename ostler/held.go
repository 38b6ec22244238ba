package ostler

import (
	"cmp"
	"slices"

	"ostlery/api"
)

// find a pod by its name: where it is, or would be; is it there?
func find(l []api.Held, name string) (int, bool) {
	return slices.BinarySearchFunc(l, name, func(h api.Held, name string) int {
		return cmp.Compare(h.Pod.Name, name)
	})
}

// podsOf: the pods that are held.
func podsOf(l []api.Held) []api.Pod {
	var pods []api.Pod
	for _, h := range l {
		pods = append(pods, h.Pod)
	}
	return pods
}

// podApart: the same pod, with lists of its own.
func podApart(p api.Pod) api.Pod {
	p.Conts = slices.Clone(p.Conts)
	for i, c := range p.Conts {
		p.Conts[i].Devs = slices.Clone(c.Devs)
	}
	return p
}

// givenApart: the same, with lists of their own.
func givenApart(l []api.Given) []api.Given {
	l = slices.Clone(l)
	for i, g := range l {
		l[i].Devs = slices.Clone(g.Devs)
	}
	return l
}
