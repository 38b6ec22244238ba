package console

import (
	"fmt"
	"regexp"
	"strings"

	"ostlery/amount"
	"ostlery/api"
	"ostlery/bits"
	"ostlery/devices"
	"ostlery/disk"
	"ostlery/engine"
	"ostlery/ostler"
)

// model of a session: lines are told apart by their forms, and the layers called by hand.
type model struct {
	devs   []api.Dev
	config api.Config
	d      *disk.Disk
	e      *engine.Engine
	a      *ostler.Ostler
}

// form of a line: WORD stands for a word, NUM for a number.
func form(s string) *regexp.Regexp {
	s = strings.ReplaceAll(s, "WORD", `([^ ]*)`)
	s = strings.ReplaceAll(s, "NUM", `(0|[1-9][0-9]{0,3}|-1)`)
	return regexp.MustCompile(`(?s)^` + s + `$`)
}

var (
	deviceForm  = form(`device WORD NUM`)
	machineForm = form(`machine NUM NUM NUM NUM WORD WORD`)
	admitForm   = form(`admit WORD WORD((?: [^ ]*)*)`)
	removeForm  = form(`remove WORD`)
	sickForm    = form(`(sick|well) NUM`)
	pressForm   = form(`press WORD((?: [^ ]*)*)`)
	armForm     = form(`arm NUM`)
	restartForm = form(`restart NUM NUM`)
	numberForm  = form(`NUM`)
	contForm    = form(`([^:]*):([^:]*):([^:]*):([^:]*)`)
	amountForm  = form(`([^/]*)/(.*)`)
	pairForm    = form(`([^=]*)=(.*)`)
)

// number of digits that are one.
func num(s string) int {
	n := 0
	fmt.Sscan(s, &n)
	return n
}

// answer of a line.
func (m *model) answer(line string) string {
	s, err := m.answered(line)
	if err != nil {
		return fmt.Sprintf("error %d", err)
	}
	return s
}

// answered: what is told of a line, or which error.
func (m *model) answered(line string) (string, error) {
	if len(line) > 300 {
		return "", api.ErrText
	}
	first := strings.SplitN(line, " ", 2)[0]
	if m.a == nil && first != "device" && first != "machine" {
		return "", api.ErrState
	}
	switch line {
	case "held":
		return m.held(), nil
	case "running":
		return m.running(), nil
	case "groups":
		return m.groups(), nil
	case "shared":
		return dash(bits.Text(m.a.Shared())), nil
	}
	if w := deviceForm.FindStringSubmatch(line); w != nil {
		devs := append(append([]api.Dev{}, m.devs...), api.Dev{Kind: w[1], Node: num(w[2])})
		if _, err := devices.New(devs); err != nil {
			return "", err
		}
		m.devs = devs
		return "ok", nil
	}
	if w := machineForm.FindStringSubmatch(line); w != nil {
		return "ok", m.machine(num(w[1]), num(w[2]), num(w[3]), num(w[4]), w[5], w[6])
	}
	if w := admitForm.FindStringSubmatch(line); w != nil {
		return "ok", m.admit(w[1], w[2], w[3])
	}
	if w := removeForm.FindStringSubmatch(line); w != nil {
		return "ok", m.a.Remove(w[1])
	}
	if w := sickForm.FindStringSubmatch(line); w != nil {
		return "ok", m.a.Sick(num(w[2]), w[1] == "sick")
	}
	if w := pressForm.FindStringSubmatch(line); w != nil {
		return m.press(w[1], w[2])
	}
	if w := armForm.FindStringSubmatch(line); w != nil {
		m.d.Arm(num(w[1]))
		return "ok", nil
	}
	if w := restartForm.FindStringSubmatch(line); w != nil {
		m.d.Restart(num(w[1]), num(w[2]))
		a, err := ostler.New(m.config, m.d, m.e)
		m.a = a
		return "ok", err
	}
	return "", api.ErrText
}

// machine: a new one.
func (m *model) machine(sockets, cores, threads, policy int, size, keep string) error {
	if sockets < 1 || cores < 1 || threads < 1 || sockets*cores*threads > 64 {
		return api.ErrBound
	}
	n, err := amount.Bytes(size)
	if err != nil {
		return err
	}
	if keep == "-" {
		keep = ""
	}
	set, err := bits.Parse(keep)
	if err != nil {
		return err
	}
	cpus := make([]api.CPU, sockets*cores*threads)
	for c := range sockets * cores {
		for t := range threads {
			cpus[t*sockets*cores+c] = api.CPU{Core: c, Socket: c / cores, Node: c / cores}
		}
	}
	config := api.Config{CPUs: cpus, Keep: set, Bytes: n, Devs: m.devs, Policy: policy}
	d := disk.New()
	e := engine.New(d)
	a, err := ostler.New(config, d, e)
	if err != nil {
		return err
	}
	m.config, m.d, m.e, m.a = config, d, e, a
	return nil
}

// admit a pod.
func (m *model) admit(name, prio, conts string) error {
	if !numberForm.MatchString(prio) {
		return api.ErrText
	}
	p := api.Pod{Name: name, Prio: num(prio)}
	for _, s := range strings.Split(conts, " ")[1:] {
		w := contForm.FindStringSubmatch(s)
		if w == nil {
			return api.ErrText
		}
		c := api.Cont{Name: w[1]}
		for i, a := range []*api.Amount{&c.Ask, &c.Cap} {
			if err := readInto(a, w[2+i]); err != nil {
				return err
			}
		}
		for _, s := range strings.Split(w[4], "+") {
			x := pairForm.FindStringSubmatch(s)
			if w[4] == "" {
				break
			}
			if x == nil || !numberForm.MatchString(x[2]) {
				return api.ErrText
			}
			c.Devs = append(c.Devs, api.Need{Kind: x[1], Many: num(x[2])})
		}
		p.Conts = append(p.Conts, c)
	}
	return m.a.Admit(p)
}

// readInto an amount.
func readInto(a *api.Amount, s string) (err error) {
	w := amountForm.FindStringSubmatch(s)
	switch {
	case s == "":
		return nil
	case w == nil:
		return api.ErrText
	}
	if a.Milli, err = amount.Milli(w[1]); err == nil {
		a.Bytes, err = amount.Bytes(w[2])
	}
	return err
}

// press: who goes.
func (m *model) press(most, uses string) (string, error) {
	n, err := amount.Bytes(most)
	if err != nil {
		return "", err
	}
	var l []api.Use
	for _, s := range strings.Split(uses, " ")[1:] {
		w := pairForm.FindStringSubmatch(s)
		if w == nil {
			return "", api.ErrText
		}
		size, err := amount.Bytes(w[2])
		if err != nil {
			return "", err
		}
		l = append(l, api.Use{Name: w[1], Bytes: size})
	}
	names, err := m.a.Press(l, n)
	return dash(strings.Join(names, " ")), err
}

// dash of nothing.
func dash(s string) string {
	if s == "" {
		return "-"
	}
	return s
}

// numbers of devices.
func numbers(l []int) string {
	return dash(strings.ReplaceAll(strings.Trim(fmt.Sprint(l), "[]"), " ", ","))
}

// held, as it is told.
func (m *model) held() string {
	s := ""
	for _, h := range m.a.Held() {
		s += "; " + h.Pod.Name
		for i, c := range h.Pod.Conts {
			s += fmt.Sprintf(" %s %s %s", c.Name, dash(bits.Text(h.Given[i].CPUs)), numbers(h.Given[i].Devs))
		}
	}
	return dash(strings.TrimPrefix(s, "; "))
}

// running, as it is told.
func (m *model) running() string {
	s := ""
	for _, r := range m.e.List() {
		s += fmt.Sprintf("; %s %s %s %s", r.Pod, r.Cont, dash(bits.Text(r.CPUs)), numbers(r.Devs))
	}
	return dash(strings.TrimPrefix(s, "; "))
}

// groups, as they are told.
func (m *model) groups() string {
	s := ""
	for _, g := range m.a.Groups() {
		s += fmt.Sprintf("; %s %d %d %d", g.Path, g.Shares, g.Quota, g.Bytes)
	}
	return strings.TrimPrefix(s, "; ")
}
