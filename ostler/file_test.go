package ostler

import (
	"fmt"
	"strings"
	"testing"

	"ostlery/api"
	"ostlery/disk"
	"ostlery/engine"
	"ostlery/save"
)

// inFile: what a file may hold on the example's machine, which it fills: all its milli processors, bytes and devices.
func inFile() []api.Held {
	return []api.Held{
		{Pod: pod("a", 0, "x:2/1Mi:2/1Mi:gpu=1", "y:1/1Mi:1/1Mi:"), Given: []api.Given{{CPUs: 1<<1 | 1<<2, Devs: []int{1}}, {CPUs: 1 << 7}}},
		{Pod: pod("b", 0, "x:1/1020Mi::gpu=1+nic=1", "y:500m/0::"), Given: []api.Given{{Devs: []int{0, 2}}, {}}},
		{Pod: pod("c", 0, "x:2500m/2Mi:2500m/2Mi:"), Given: []api.Given{{}}},
	}
}

// M1: what fits, and what does not. Who does not fit is not held, and neither is anybody else.
func TestFits(t *testing.T) {
	cpus := func(i, k int, s api.Set) func(l []api.Held) { return func(l []api.Held) { l[i].Given[k].CPUs = s } }
	devs := func(i, k int, d ...int) func(l []api.Held) { return func(l []api.Held) { l[i].Given[k].Devs = d } }
	for _, c := range []struct {
		name string
		f    func(l []api.Held)
		fits bool
	}{
		{"as it is", func(l []api.Held) {}, true},
		{"other processors", cpus(0, 0, 1<<3|1<<6), true},
		{"other devices", func(l []api.Held) { l[0].Given[0].Devs, l[1].Given[0].Devs = []int{0}, []int{1, 2} }, true},

		{"a processor twice in a pod", cpus(0, 1, 1<<1), false},
		{"one that is kept", cpus(0, 0, 1<<0|1<<1), false},
		{"one that there isn't", cpus(0, 1, 1<<8), false},
		{"the last one of all", cpus(0, 1, 1<<63), false},
		{"one too few", cpus(0, 0, 1<<1), false},
		{"none", cpus(0, 1, 0), false},
		{"one too many", cpus(0, 0, 1<<1|1<<2|1<<3), false},
		{"one of who has none", cpus(1, 1, 1<<3), false},
		{"one of who has a part", cpus(2, 0, 1<<3), false},
		{"a processor twice in two pods", func(l []api.Held) {
			l[1].Pod, l[1].Given = pod("b", 0, "x:1/1:1/1:"), []api.Given{{CPUs: 1 << 2}}
		}, false},

		{"a device twice in two pods", devs(0, 0, 0), false},
		{"a device twice in a pod", func(l []api.Held) {
			l[1].Pod.Conts[1].Devs, l[1].Given[1].Devs = []api.Need{{Kind: "nic", Many: 1}}, []int{2}
		}, false},
		{"a device that there isn't", devs(0, 0, 3), false},
		{"the last one that may be", devs(0, 0, 15), false},
		{"no device", devs(0, 0), false},
		{"a kind too few", devs(1, 0, 0), false},
		{"another kind too few", devs(1, 0, 2), false},
		{"a device of who needs none", func(l []api.Held) { l[1].Pod.Conts[0].Devs = l[1].Pod.Conts[0].Devs[:1] }, false},
		{"devices of who needs none", func(l []api.Held) { l[1].Pod.Conts[0].Devs = nil }, false},
		{"another kind", func(l []api.Held) { l[0].Given[0].Devs, l[1].Given[0].Devs = []int{2}, []int{0, 1} }, false},
		{"one too many of a kind", func(l []api.Held) {
			l[0].Pod.Conts[0].Devs, l[0].Given[0].Devs, l[1].Given[0].Devs = nil, nil, []int{0, 1, 2}
		}, false},
		{"more is needed", func(l []api.Held) { l[0].Pod.Conts[0].Devs[0].Many = 2 }, false},
		{"a kind that there isn't", func(l []api.Held) { l[0].Pod.Conts[0].Devs[0].Kind = "tpu" }, false},

		{"a thousandth too many", func(l []api.Held) { l[1].Pod.Conts[1].Ask.Milli++ }, false},
		{"a thousandth less", func(l []api.Held) { l[1].Pod.Conts[1].Ask.Milli-- }, true},
		{"a byte too many", func(l []api.Held) { l[1].Pod.Conts[1].Ask.Bytes++ }, false},
		{"a byte less", func(l []api.Held) { l[1].Pod.Conts[0].Ask.Bytes-- }, true},
		{"most of all", func(l []api.Held) { l[1].Pod.Conts[0].Ask.Bytes = api.MaxBytes }, false},
		{"a limit is no room", func(l []api.Held) { l[1].Pod.Conts[0].Cap = api.Amount{Milli: api.MaxMilli, Bytes: api.MaxBytes} }, true},
	} {
		l := inFile()
		c.f(l)
		s := opened(t, example(), own("was", 1, "gpu=1"))
		file := written(t, l)
		s.d.Spoil(file)
		s.again()
		want, wantFile := told(l), file
		if !c.fits {
			want, wantFile = "", written(t, nil)
		}
		s.holds(c.name, want)
		s.d.Restart(0, 0)
		if got, err := s.d.Read(); got != wantFile || err != nil {
			t.Errorf("%s: %q is in the file", c.name, got)
		}
	}
}

// M1: what fits on one machine need not fit on another one.
func TestFitsElsewhere(t *testing.T) {
	for _, c := range []struct {
		name string
		f    func(c *api.Config)
		fits bool
	}{
		{"all policies", func(c *api.Config) { c.Policy = api.Single }, true},
		{"sick ones", func(c *api.Config) { c.Devs[0].Sick, c.Devs[1].Sick, c.Devs[2].Sick = true, true, true }, true},
		{"other nodes", func(c *api.Config) { c.Devs[0].Node, c.CPUs = 3, board(1, 8, 1) }, true},
		{"one more device", func(c *api.Config) { c.Devs = append(c.Devs, c.Devs[0]) }, true},
		{"one fewer", func(c *api.Config) { c.Devs = c.Devs[:2] }, false},
		{"another kind", func(c *api.Config) { c.Devs[2].Kind = "gpu" }, false},
		{"a byte fewer", func(c *api.Config) { c.Bytes-- }, false},
		{"more bytes", func(c *api.Config) { c.Bytes++ }, true},
		{"another one is kept", func(c *api.Config) { c.Keep = 1 << 2 }, false},
		{"one more is kept, that nobody has", func(c *api.Config) { c.Keep |= 1 << 3 }, false},
		{"another one is kept, that nobody has", func(c *api.Config) { c.Keep = 1 << 3 }, true},
		{"fewer processors", func(c *api.Config) { c.CPUs, c.Keep = board(1, 7, 1), 0 }, false},
	} {
		s := opened(t, example())
		s.d.Spoil(written(t, inFile()))
		c.f(&s.c)
		s.again()
		want := ""
		if c.fits {
			want = told(inFile())
		}
		s.holds(c.name, want)
	}
}

// M1: what can't be read holds nothing, and that is saved, so that it is kept.
func TestUnreadable(t *testing.T) {
	whole := written(t, inFile())
	for _, file := range []string{
		"", "spoilt", "sum 1\n", whole[1:], whole[:len(whole)-1], whole + "\n", strings.Replace(whole, "1-2 1", "1-2 0", 1),
		"pod a 0\nsum " + fmt.Sprint(save.Sum("pod a 0\n")) + "\n", strings.Repeat("x", api.MaxFile),
	} {
		s := opened(t, example(), own("web", 1, ""))
		s.d.Spoil(file)
		s.again()
		s.holds(file, "")
		s.d.Restart(0, 0)
		if got, err := s.d.Read(); got != written(t, nil) || err != nil {
			t.Errorf("%q: %q is in the file, %v", file, got, err)
		}
		if s.Shared() != 254 || len(s.Devices()) != 3 {
			t.Errorf("%q: %b is shared", file, s.Shared())
		}
		s.admits(own("web", 1, "gpu=1"))
	}
}

// M1, M2: what runs and isn't held so is stopped, what is held and does not run is started, what runs as it is held runs on.
func TestRuns(t *testing.T) {
	run := func(pod, cont string, cpus api.Set, devs ...int) api.Running {
		return api.Running{Pod: pod, Cont: cont, CPUs: cpus, Devs: devs}
	}
	right := []api.Running{run("a", "x", 1<<1|1<<2, 1), run("a", "y", 1<<7), run("b", "x", 0, 0, 2), run("b", "y", 0), run("c", "x", 0)}
	for _, c := range []struct {
		name  string
		l     []api.Running
		steps int
	}{
		{"nothing", nil, 5},
		{"just this", right, 0},
		{"all but one", right[1:], 1},
		{"one more", append([]api.Running{run("d", "x", 0)}, right...), 1},
		{"another container", append([]api.Running{run("a", "z", 0)}, right...), 1},
		{"a name that is none", append([]api.Running{run("", "", ^api.Set(0), 1, 1, -5)}, right...), 1},
		{"other processors", append([]api.Running{run("a", "y", 1<<6)}, right[2:]...), 3},
		{"no processors", append([]api.Running{run("a", "x", 0, 1)}, right[1:]...), 2},
		{"other devices", append([]api.Running{run("a", "x", 1<<1|1<<2, 0)}, right[1:]...), 2},
		{"a device more", append([]api.Running{run("a", "x", 1<<1|1<<2, 1, 2)}, right[1:]...), 2},
		{"no devices", append([]api.Running{run("a", "x", 1<<1|1<<2)}, right[1:]...), 2},
		{"a device of who has none", append([]api.Running{run("b", "y", 0, 0)}, right[:3]...), 3},
		{"others alone", []api.Running{run("p", "x", 1), run("q", "x", 2), run("a", "q", 4)}, 8},
		{"what they have is changed", []api.Running{run("a", "y", 1<<1|1<<2, 1), run("a", "x", 1<<7)}, 7},
	} {
		s := &stable{t: t, c: example(), d: disk.New()}
		s.e = engine.New(s.d)
		s.d.Spoil(written(t, inFile()))
		for _, r := range c.l {
			if err := s.e.Start(r); err != nil {
				t.Fatal(err)
			}
		}
		s.d.Arm(c.steps)
		s.again()
		s.holds(c.name, told(inFile()))
		if err := s.d.Step(); err != api.ErrDown {
			t.Errorf("%s: it took fewer than %d steps", c.name, c.steps)
		}
	}
}

// M1: a file that isn't there holds nothing, and need not be saved.
func TestNoFile(t *testing.T) {
	d := disk.New()
	e := engine.New(d)
	e.Start(api.Running{Pod: "a", Cont: "x"})
	a, err := New(example(), d, e)
	if err != nil || len(a.Held()) != 0 || len(e.List()) != 0 {
		t.Errorf("%v, %v", a, err)
	}
	if _, err := d.Read(); err != api.ErrNone {
		t.Errorf("%v", err)
	}
}

// M1, W4: what is held was in the file, but not kept, as somebody moved it there: it is kept from then on.
func TestNotKept(t *testing.T) {
	for keep := range 4 {
		s := opened(t, example(), own("was", 1, ""))
		s.d.Write(written(t, inFile()))
		s.d.Move()
		s.again()
		s.holds("moved", told(inFile()))
		s.d.Restart(keep, 0)
		s.again()
		s.holds("behind a fall", told(inFile()))

		s.d.Write(written(t, nil))
		s.d.Move()
		s.d.Spoil(written(t, inFile()))
		s.again()
		s.fallen(keep, 9)
		s.holds("spoilt, behind a fall", told(inFile()))
	}
	s := opened(t, example(), own("was", 1, ""))
	s.d.Write("x")
	s.d.Arm(0)
	if a, err := New(s.c, s.d, s.e); a != nil || err != api.ErrDown {
		t.Errorf("%v, %v", a, err)
	}
	s.fallen(1, 0)
	s.holds("a draft alone", "was x 4 -")
}
