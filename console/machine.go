package console

import (
	"ostlery/api"
	"ostlery/disk"
	"ostlery/engine"
	"ostlery/ostler"
)

// machine that takes pods in.
type machine struct {
	config api.Config // as it was begun, for the ostlers behind a restart
	disk   *disk.Disk
	engine *engine.Engine
	ostler *ostler.Ostler
}

// newMachine, on which nothing is held and nothing runs.
func newMachine(c api.Config) (*machine, error) {
	d := disk.New()
	m := &machine{config: c, disk: d, engine: engine.New(d)}
	if err := m.open(); err != nil {
		return nil, err
	}
	return m, nil
}

// open: a new ostler takes the machine over.
func (m *machine) open() error {
	a, err := ostler.New(m.config, m.disk, m.engine)
	if err != nil {
		return err
	}
	m.ostler = a
	return nil
}

// obey a line: its first word, and those behind it.
func (m *machine) obey(verb string, words []string) (string, error) {
	switch verb {
	case "admit":
		return done, m.admit(words)
	case "remove":
		return done, m.remove(words)
	case "sick":
		return done, m.sick(words, true)
	case "well":
		return done, m.sick(words, false)
	case "press":
		return m.press(words)
	case "arm":
		return done, m.arm(words)
	case "restart":
		return done, m.restart(words)
	}
	if len(words) > 0 {
		return "", api.ErrText
	}
	return m.tell(verb)
}

// tell what there is.
func (m *machine) tell(what string) (string, error) {
	switch what {
	case "held":
		return listText(m.ostler.Held(), heldText), nil
	case "running":
		return listText(m.engine.List(), runningText), nil
	case "groups":
		return listText(m.ostler.Groups(), groupText), nil
	case "shared":
		return setText(m.ostler.Shared()), nil
	}
	return "", api.ErrText
}

// admit a pod.
func (m *machine) admit(words []string) error {
	p, err := readPod(words)
	if err != nil {
		return err
	}
	return m.ostler.Admit(p)
}

// remove a pod.
func (m *machine) remove(words []string) error {
	if len(words) != 1 {
		return api.ErrText
	}
	return m.ostler.Remove(words[0])
}

// sick: a device is, or is not any more.
func (m *machine) sick(words []string, on bool) error {
	l, err := readNumbers(words, 1)
	if err != nil {
		return err
	}
	return m.ostler.Sick(l[0], on)
}

// press: who goes?
func (m *machine) press(words []string) (string, error) {
	uses, most, err := readPress(words)
	if err != nil {
		return "", err
	}
	names, err := m.ostler.Press(uses, most)
	if err != nil {
		return "", err
	}
	return namesText(names), nil
}

// arm the disk.
func (m *machine) arm(words []string) error {
	l, err := readNumbers(words, 1)
	if err != nil {
		return err
	}
	m.disk.Arm(l[0])
	return nil
}

// restart the disk.
func (m *machine) restart(words []string) error {
	l, err := readNumbers(words, 2)
	if err != nil {
		return err
	}
	m.disk.Restart(l[0], l[1])
	return m.open()
}
