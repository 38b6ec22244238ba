package ostler

import (
	"slices"

	"ostlery/api"
	"ostlery/engine"
)

// runJust what is held: what runs otherwise is stopped, what does not run is started.
func runJust(e *engine.Engine, l []api.Held) error {
	runs, wanted := e.List(), running(l)
	for _, r := range runs {
		if has(wanted, r) {
			continue
		}
		if err := e.Stop(r.Pod, r.Cont); err != nil {
			return err
		}
	}
	for _, r := range wanted {
		if has(runs, r) {
			continue
		}
		if err := e.Start(r); err != nil {
			return err
		}
	}
	return nil
}

// running: the containers of what is held, as they are to run.
func running(l []api.Held) []api.Running {
	var all []api.Running
	for _, h := range l {
		for i, g := range h.Given {
			all = append(all, api.Running{Pod: h.Pod.Name, Cont: h.Pod.Conts[i].Name, CPUs: g.CPUs, Devs: g.Devs})
		}
	}
	return all
}

// has: is there just such a container among these?
func has(l []api.Running, r api.Running) bool {
	return slices.ContainsFunc(l, func(o api.Running) bool {
		return o.Pod == r.Pod && o.Cont == r.Cont && o.CPUs == r.CPUs && slices.Equal(o.Devs, r.Devs)
	})
}
