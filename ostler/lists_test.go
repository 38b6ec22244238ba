package ostler

import (
	"fmt"
	"math"
	"math/rand"
	"slices"
	"strings"
	"testing"

	"ostlery/api"
	"ostlery/disk"
	"ostlery/engine"
)

// behind: the same list, with another one behind it in memory.
func behind[T any](l []T, x T) []T { return append(slices.Clone(l), x, x)[:len(l)] }

// overwrite a list, and what is behind it in memory, as far as it goes.
func overwrite[T any](l []T, x T) {
	l = l[:cap(l)]
	for i := range l {
		l[i] = x
	}
}

// trapped: a pod whose lists have more behind them, which must not be read.
func trapped(p api.Pod) api.Pod {
	for i, c := range p.Conts {
		p.Conts[i].Devs = behind(c.Devs, api.Need{Kind: "tpu", Many: 9})
	}
	p.Conts = behind(p.Conts, api.Cont{Name: "?"})
	return p
}

// Z2: what is handed in is neither written into nor kept, nor is what stands behind it read.
func TestHandedIn(t *testing.T) {
	c := example()
	c.CPUs = behind(c.CPUs, api.CPU{Core: 99})
	c.Devs = behind(c.Devs, api.Dev{Kind: "?"})
	was := fmt.Sprint(c, c.CPUs[:10], c.Devs[:5])
	s := opened(t, c)
	p := trapped(pod("web", 0, "x:1/1Mi:1/1Mi:gpu=1+nic=1", "y:1/1Mi:1/1Mi:gpu=1"))
	wasPod := fmt.Sprint(p, p.Conts[:4], p.Conts[0].Devs[:4], p.Conts[1].Devs[:3])
	s.admits(p)
	u := behind(uses("web=5"), api.Use{Name: "web", Bytes: -9})
	if l, err := s.Press(u, 7); len(l) != 0 || err != nil {
		t.Errorf("%v, %v", l, err)
	}
	if got := fmt.Sprint(c, c.CPUs[:10], c.Devs[:5]); got != was {
		t.Errorf("%s, it was %s", got, was)
	}
	if got := fmt.Sprint(p, p.Conts[:4], p.Conts[0].Devs[:4], p.Conts[1].Devs[:3]); got != wasPod {
		t.Errorf("%s, it was %s", got, wasPod)
	}
	if got := fmt.Sprint(u[:3]); got != "[{web 5} {web -9} {web -9}]" {
		t.Errorf("%s", got)
	}
	shown := s.shown()
	for i := range p.Conts {
		overwrite(p.Conts[i].Devs, api.Need{Kind: "q"})
	}
	overwrite(p.Conts, api.Cont{})
	overwrite(c.CPUs, api.CPU{})
	overwrite(c.Devs, api.Dev{})
	if s.shown() != shown {
		t.Errorf("%s, it was %s", s.shown(), shown)
	}
	s.c = example()
	s.holds("web", "web x 2 1,2 y 4 0")
}

// Z2: what is told is the caller's, and no two lists share memory.
func TestAnswers(t *testing.T) {
	s := opened(t, example(), pod("a", 0, "x:1/1Mi:1/1Mi:gpu=1", "y:1/1Mi:1/1Mi:nic=1"), pod("b", 0, "x:::gpu=1", "y:::", "z:::"))
	for range 2 {
		shown := s.shown()
		l := s.Held()
		all := fmt.Sprint(l)
		for i := range l {
			for k := range l[i].Given {
				overwriteBehind(l[i].Given[k].Devs, 99)
				overwriteBehind(l[i].Pod.Conts[k].Devs, api.Need{Kind: "?"})
			}
			overwriteBehind(l[i].Given, api.Given{CPUs: 99})
			overwriteBehind(l[i].Pod.Conts, api.Cont{Name: "?"})
		}
		overwriteBehind(l, api.Held{})
		if fmt.Sprint(l) != all {
			t.Errorf("%v, it was %s: lists share memory", l, all)
		}
		for i := range l {
			for k := range l[i].Given {
				overwrite(l[i].Given[k].Devs, 99)
				overwrite(l[i].Pod.Conts[k].Devs, api.Need{Kind: "?"})
			}
			overwrite(l[i].Given, api.Given{CPUs: 99})
			overwrite(l[i].Pod.Conts, api.Cont{Name: "?"})
		}
		overwrite(l, api.Held{})
		overwrite(s.Devices(), api.Dev{Kind: "?"})
		overwrite(s.Groups(), api.Group{})
		overwrite(s.e.List(), api.Running{})
		if s.shown() != shown {
			t.Errorf("%s, it was %s", s.shown(), shown)
		}
		s.again()
	}
	names, err := s.Press(nil, -1)
	if overwrite(names, "?"); err != nil || len(names) != 2 {
		t.Errorf("%v, %v", names, err)
	}
	s.holds("pressed", "")
}

// overwriteBehind: what is behind a list in memory, as far as it goes.
func overwriteBehind[T any](l []T, x T) { overwrite(l[len(l):], x) }

// Z2: an ostler hangs on its own disk and engine alone.
func TestApart(t *testing.T) {
	one, two := opened(t, example()), opened(t, example())
	one.admits(own("a", 2, "gpu=1"))
	two.admits(own("b", 2, "gpu=1"))
	one.Sick(2, true)
	one.d.Arm(0)
	one.d.Step()
	two.admits(own("c", 1, "nic=1"))
	two.holds("two", "b x 1,5 0; c x 2 2")
	one.fallen(0, 0)
	one.holds("one", "a x 1,5 0")
}

// Z1: no call panics, whatever it is given.
func TestAnything(t *testing.T) {
	long := strings.Repeat("p", 1<<20)
	numbers := []int{0, -1, 1, 15, 16, 17, 63, 64, 1000, 1001, api.MaxMilli, api.MaxBytes, api.MaxBytes + 1, math.MaxInt, math.MinInt}
	texts := []string{"", "a", "gpu", "x", long, "\x00", "A", "a b", "\xff"}
	r := rand.New(rand.NewSource(4))
	n := func() int { return numbers[r.Intn(len(numbers))] }
	text := func() string { return texts[r.Intn(len(texts))] }
	s := opened(t, example())
	for range 5000 {
		p := api.Pod{Name: text(), Prio: n(), Conts: make([]api.Cont, r.Intn(5))}
		for i := range p.Conts {
			p.Conts[i] = api.Cont{Name: text(), Ask: api.Amount{Milli: n(), Bytes: n()}, Cap: api.Amount{Milli: n(), Bytes: n()}, Devs: make([]api.Need, r.Intn(4))}
			for k := range p.Conts[i].Devs {
				p.Conts[i].Devs[k] = api.Need{Kind: text(), Many: n()}
			}
		}
		s.Admit(p)
		s.Remove(text())
		s.Sick(n(), r.Intn(2) == 0)
		s.Press([]api.Use{{Name: text(), Bytes: n()}}, n())
		s.d.Spoil(text())
		if r.Intn(9) == 0 {
			s.again()
		}
		c := api.Config{CPUs: make([]api.CPU, r.Intn(70)), Keep: api.Set(r.Uint64()), Bytes: n(), Policy: n(), Devs: make([]api.Dev, r.Intn(20))}
		for i := range c.Devs {
			c.Devs[i] = api.Dev{Kind: text(), Node: n()}
		}
		d := disk.New()
		if a, err := New(c, d, engine.New(d)); (a == nil) != (err != nil) || err != Check(c) {
			t.Errorf("%v, %v", a, err)
		}
	}
	s.sound("behind all")
	if err := Check(api.Config{CPUs: make([]api.CPU, 1<<22), Devs: make([]api.Dev, 1<<22)}); err != api.ErrMany {
		t.Error(err)
	}
}

// Z1: the greatest that can be held can be saved: every pod, container, processor and device, all names as long as may be.
func TestFull(t *testing.T) {
	c := api.Config{CPUs: board(4, 16, 1), Bytes: api.MaxBytes}
	for n := range api.MaxDevices {
		c.Devs = append(c.Devs, api.Dev{Kind: fmt.Sprint("kind", 1000+n), Node: n % 4})
	}
	s := opened(t, c)
	dev := 0
	for i := range api.MaxPods {
		p := api.Pod{Name: fmt.Sprint("pod", 10000+i), Prio: api.MaxPrio}
		for k := range api.MaxConts {
			ask := api.Amount{Milli: 1000, Bytes: api.MaxBytes / 36}
			x := api.Cont{Name: fmt.Sprint("cont", 1000+k), Ask: ask, Cap: ask}
			if dev < api.MaxDevices {
				x.Devs = []api.Need{{Kind: c.Devs[dev].Kind, Many: 1}}
				dev++
			}
			p.Conts = append(p.Conts, x)
		}
		s.admits(p)
	}
	was := s.sound("full")
	if file, err := s.d.Read(); err != nil || len(file) > api.MaxFile || file != written(t, s.Held()) {
		t.Errorf("%d bytes, %v", len(file), err)
	}
	s.fallen(0, 0)
	s.holds("again", was)
}
