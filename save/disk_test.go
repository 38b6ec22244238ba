package save

import (
	"fmt"
	"reflect"
	"strings"
	"testing"

	"ostlery/api"
	"ostlery/disk"
)

// textOf what is held.
func textOf(t *testing.T, l []api.Held) string {
	t.Helper()
	s, err := Text(l)
	if err != nil {
		t.Fatal(err)
	}
	return s
}

// saved: a disk on which these were saved, one after the other.
func saved(t *testing.T, l ...[]api.Held) *disk.Disk {
	t.Helper()
	d := disk.New()
	for _, h := range l {
		if err := Save(d, h); err != nil {
			t.Fatal(err)
		}
	}
	return d
}

// K4: what is saved is loaded, and is kept.
func TestSave(t *testing.T) {
	for _, l := range [][]api.Held{nil, rich(), rich()[:1], crowd(api.MaxPods)} {
		d := saved(t, crowd(2), l)
		d.Restart(0, 0)
		if s, err := d.Read(); s != textOf(t, l) || err != nil {
			t.Errorf("%q %v", s, err)
		}
		if err := d.Move(); err != api.ErrNone {
			t.Errorf("a draft is left: %v", err)
		}
		if got, err := Load(d); told(got) != told(l) || err != nil {
			t.Errorf("%s %v, want %s", told(got), err, told(l))
		}
	}
}

// K4: the steps of saving, by what a fall at each of them leaves.
func TestSteps(t *testing.T) {
	for _, c := range []struct {
		steps, keep, torn int
		file, draft       string
	}{
		{0, 9, 9, "old", "none"},
		{1, 0, 0, "old", "none"},
		{1, 0, 3, "old", "pod"},
		{1, 1, 0, "old", "new"},
		{2, 0, 0, "old", "new"},
		{2, 9, 9, "old", "new"},
		{3, 0, 9, "old", "new"},
		{3, 1, 0, "new", "none"},
		{4, 0, 0, "new", "none"},
	} {
		d := saved(t, rich())
		d.Arm(c.steps)
		err := Save(d, crowd(3))
		if c.steps < 4 && err != api.ErrDown || c.steps == 4 && err != nil || d.Down() != (c.steps < 4) {
			t.Errorf("%d steps: %v, down: %v", c.steps, err, d.Down())
		}
		if err := d.Step(); err != api.ErrDown {
			t.Errorf("%d steps: there was one more left", c.steps)
		}
		d.Restart(c.keep, c.torn)
		words := map[string]string{textOf(t, rich()): "old", textOf(t, crowd(3)): "new", "pod": "pod"}
		file, _ := d.Read()
		draft := "none"
		if d.Move() == nil {
			s, _ := d.Read()
			draft = words[s]
		}
		if words[file] != c.file || draft != c.draft {
			t.Errorf("%d steps, %d and %d kept: %s, %s; want %s, %s", c.steps, c.keep, c.torn, words[file], draft, c.file, c.draft)
		}
	}
}

// pasts: how a disk may be ahead of a save, all of it kept.
func pasts(t *testing.T) map[string]func() *disk.Disk {
	return map[string]func() *disk.Disk{
		"new":           func() *disk.Disk { return saved(t) },
		"saved":         func() *disk.Disk { return saved(t, rich()) },
		"saved nothing": func() *disk.Disk { return saved(t, nil) },
		"spoilt": func() *disk.Disk {
			d := saved(t, rich())
			d.Spoil("sum 1\n")
			return d
		},
		"torn": func() *disk.Disk {
			d := saved(t, rich())
			d.Arm(1)
			Save(d, crowd(4))
			d.Restart(0, 5)
			return d
		},
		"a draft": func() *disk.Disk {
			d := disk.New()
			d.Write("x")
			d.Sync()
			return d
		},
	}
}

// K4, W4: behind a fall at any step, and whatever is kept, the file has the new text, or what it had.
func TestFall(t *testing.T) {
	for name, past := range pasts(t) {
		for _, l := range [][]api.Held{nil, crowd(5), rich()} {
			size := len(textOf(t, l))
			for steps := range 5 {
				for keep := -1; keep < 4; keep++ {
					for _, torn := range []int{-1, 0, 1, size / 2, size - 1, size, size + 1} {
						fall(t, fmt.Sprint(name, len(l), steps, keep, torn), past(), l, steps, keep, torn)
					}
				}
			}
		}
	}
}

// fall in a save, and save again.
func fall(t *testing.T, name string, d *disk.Disk, l []api.Held, steps, keep, torn int) {
	t.Helper()
	want := textOf(t, l)
	had, hadErr := d.Read()
	d.Arm(steps)
	err := Save(d, l)
	if (err == nil) != (steps == 4) {
		t.Errorf("%s: %v", name, err)
	}
	d.Restart(keep, torn)
	s, errRead := d.Read()
	if s != want && s != had || errRead != nil && errRead != hadErr || err == nil && s != want {
		t.Errorf("%s: %q %v, it was %q, was to be %q", name, s, errRead, had, want)
	}
	if err := Save(d, l); err != nil {
		t.Errorf("%s: again: %v", name, err)
	}
	if got, err := Load(d); told(got) != told(l) || err != nil {
		t.Errorf("%s: again: %s %v", name, told(got), err)
	}
}

// K4: which error is told, and what saving with one leaves.
func TestSaveErrors(t *testing.T) {
	wrong := crowd(2)
	wrong[1].Given = nil
	for _, c := range []struct {
		name string
		l    []api.Held
		down bool
		want error
	}{
		{"may not be", wrong, false, api.ErrShape},
		{"may not be, down", wrong, true, api.ErrShape},
		{"too long", long(t, api.MaxFile+1), false, api.ErrMany},
		{"too long, down", long(t, api.MaxFile+1), true, api.ErrMany},
		{"down", rich(), true, api.ErrDown},
	} {
		d := saved(t, rich()[:1])
		d.Arm(1)
		if c.down {
			d.Step()
			d.Step()
		}
		if err := Save(d, c.l); err != c.want {
			t.Errorf("%s: %v, want %v", c.name, err, c.want)
		}
		if !c.down && d.Step() != nil {
			t.Errorf("%s: it was a step", c.name)
		}
		d.Restart(9, 9)
		if got, err := Load(d); told(got) != told(rich()[:1]) || err != nil || d.Move() != api.ErrNone {
			t.Errorf("%s: %s %v is left", c.name, told(got), err)
		}
	}
}

// K4: what can't be loaded, and what holds nothing.
func TestLoad(t *testing.T) {
	for _, c := range []struct {
		name string
		f    func(d *disk.Disk)
		want error
	}{
		{"no file", func(d *disk.Disk) {}, nil},
		{"a draft alone", func(d *disk.Disk) { d.Write(sealed(richText)) }, nil},
		{"nothing is held", func(d *disk.Disk) { d.Spoil("sum 2166136261\n") }, nil},
		{"no bytes", func(d *disk.Disk) { d.Spoil("") }, api.ErrSum},
		{"another sum", func(d *disk.Disk) { d.Spoil(richText + "sum 1\n") }, api.ErrSum},
		{"a piece", func(d *disk.Disk) { d.Spoil(richText[:40]) }, api.ErrSum},
		{"no text", func(d *disk.Disk) { d.Spoil(sealed("pod a 1\n")) }, api.ErrText},
		{"down, no file", func(d *disk.Disk) { d.Arm(0); d.Step() }, api.ErrDown},
		{"down", func(d *disk.Disk) { d.Spoil(sealed(richText)); d.Arm(0); d.Step() }, api.ErrDown},
		{"down, another sum", func(d *disk.Disk) { d.Spoil("x"); d.Arm(0); d.Step() }, api.ErrDown},
	} {
		d := disk.New()
		c.f(d)
		if got, err := Load(d); err != c.want || len(got) != 0 {
			t.Errorf("%s: %s %v, want %v", c.name, told(got), err, c.want)
		}
	}
	d := disk.New()
	d.Spoil(sealed(richText))
	d.Arm(0)
	if got, err := Load(d); told(got) != told(rich()) || err != nil || d.Down() {
		t.Errorf("%s %v: Load is no step", told(got), err)
	}
}

// Z2: nothing that is handed in is changed, nor is what stands behind a list read.
func TestHandedIn(t *testing.T) {
	all := append(rich(), api.Held{Pod: api.Pod{Name: "?"}})
	l := all[:3]
	for i := range l {
		p, g := &l[i].Pod, l[i].Given
		p.Conts = append(p.Conts, api.Cont{Name: "?"})[:len(p.Conts)]
		for k := range p.Conts {
			p.Conts[k].Devs = append(p.Conts[k].Devs, api.Need{Kind: "?"})[:len(p.Conts[k].Devs)]
			g[k].Devs = append(g[k].Devs, 99)[:len(g[k].Devs)]
		}
		l[i].Given = append(g, api.Given{Devs: []int{-1}})[:len(g)]
	}
	before := told(l)
	d := disk.New()
	if err := Check(l); err != nil {
		t.Errorf("%v: what stands behind a list is read", err)
	}
	if s, err := Text(l); s != sealed(richText) || err != nil {
		t.Errorf("%q %v", s, err)
	}
	if err := Save(d, l); err != nil {
		t.Error(err)
	}
	if PodText(l[1].Pod) != "pod a0 7\ncont a0 0 0 0 0 -\n" {
		t.Errorf("%q", PodText(l[1].Pod))
	}
	behind := l[2].Pod.Conts[:4][3].Name + l[2].Pod.Conts[1].Devs[:2][1].Kind + all[3].Pod.Name
	if told(l) != before || behind != "???" || l[2].Given[0].Devs[:3][2] != 99 || l[0].Given[:3][2].Devs[0] != -1 {
		t.Errorf("%s was changed", told(all))
	}
	clear(l)
	if got, err := Load(d); told(got) != before || err != nil {
		t.Errorf("%s %v: a list was kept", told(got), err)
	}
}

// Z2: what is answered is the caller's, and no two lists of it share memory.
func TestAnswer(t *testing.T) {
	d := saved(t, rich())
	for range 2 {
		l, err := Load(d)
		if err != nil || told(l) != told(rich()) {
			t.Fatalf("%s %v", told(l), err)
		}
		for i := range l {
			p := &l[i].Pod
			for k := range p.Conts {
				fill(p.Conts[k].Devs, api.Need{Kind: "?"})
				fill(l[i].Given[k].Devs, 99)
			}
			fill(l[i].Given, api.Given{CPUs: 99})
			fill(p.Conts, api.Cont{Name: "?"})
		}
		fill(l, api.Held{})
		if told(l) != told(rich()) {
			t.Errorf("lists share memory: %s", told(l))
		}
		for i := range l {
			clear(l[i].Given[0].Devs)
			clear(l[i].Pod.Conts)
		}
	}
}

// fill what stands behind a list, as far as its memory goes.
func fill[T any](l []T, x T) {
	for i := len(l); i < cap(l); i++ {
		l[:cap(l)][i] = x
	}
}

// Z1: no call panics, whatever is held and whatever a text is.
func TestAnything(t *testing.T) {
	odd := []api.Pod{
		{},
		{Name: "a\nb", Prio: -5, Conts: make([]api.Cont, 3)},
		{Name: strings.Repeat("p", 1<<20), Conts: []api.Cont{{Name: "-", Ask: amount(-1, -1), Devs: make([]api.Need, 100)}}},
		{Conts: make([]api.Cont, 200000)},
	}
	for _, p := range odd {
		if PodText(p) == "" || Check([]api.Held{{Pod: p}}) == nil {
			t.Errorf("%.80v", p)
		}
	}
	if got := PodText(odd[1]); got != "pod a\nb -5\ncont  0 0 0 0 -\ncont  0 0 0 0 -\ncont  0 0 0 0 -\n" {
		t.Errorf("%q", got)
	}
	for n := range 300 {
		for _, s := range []string{"\n", " ", "pod ", "cont ", "sum ", "-", ",", "cont a 0 0 0 0 - - -\n", "pod a 0\n", "\xff"} {
			readOrNot(t, strings.Repeat(s, n))
			readOrNot(t, sealed(strings.Repeat(s, n)))
			readOrNot(t, sealed(oneLine("0 0 0 0", strings.Repeat(s, n), "- -")))
			readOrNot(t, sealed(oneLine("0 0 0 0 -", strings.Repeat(s, n), "-")))
		}
	}
	if !reflect.DeepEqual(odd[0], api.Pod{}) {
		t.Errorf("%v was changed", odd[0])
	}
}
