package ostler

import (
	"fmt"
	"testing"

	"ostlery/api"
)

// manySteps: more than any call takes.
const manySteps = 100

// falling: something that is done on a machine, in which it falls.
type falling struct {
	name  string
	ahead func(s *stable)
	do    func(s *stable) error
}

// fallings: all that takes steps.
func fallings(t *testing.T) []falling {
	pods := []api.Pod{own("a", 2, "gpu=1"), pod("b", 1, "x:500m/1Mi::", "y:::nic=1"), pod("d", 2, "x:::", "y:::", "z:::")}
	some := func(s *stable) {
		for _, p := range pods {
			s.admits(p)
		}
	}
	none := func(s *stable) {}
	renew := func(s *stable) error {
		a, err := New(s.c, s.d, s.e)
		if (a == nil) != (err != nil) {
			t.Errorf("New: %v, %v", a, err)
		}
		return err
	}
	press := func(u []api.Use, most int) func(s *stable) error {
		return func(s *stable) error {
			l, err := s.Press(u, most)
			if err != nil && l != nil {
				t.Errorf("Press: %v, %v", l, err)
			}
			return err
		}
	}
	admit := func(p api.Pod) func(s *stable) error {
		return func(s *stable) error { return s.Admit(p) }
	}
	remove := func(name string) func(s *stable) error {
		return func(s *stable) error { return s.Remove(name) }
	}
	return []falling{
		{"the first of all", none, admit(own("c", 2, "gpu=1"))},
		{"one more", some, admit(own("c", 2, "gpu=1"))},
		{"one of many containers", some, admit(pod("c", 0, "x:1/1Mi:1/1Mi:", "y:1/1Mi:1/1Mi:gpu=1", "z:2/1Mi:2/1Mi:"))},
		{"the last one goes", func(s *stable) { s.admits(pods[0]) }, remove("a")},
		{"one goes", some, remove("a")},
		{"one of many containers goes", some, remove("d")},
		{"one is pressed", some, press(uses("a=1 b=9999999"), 100)},
		{"all are pressed", some, press(nil, -1)},
		{"two are pressed", some, press(uses("d=5 b=9999999 a=3"), 4)},
		{"a new ostler", some, renew},
		{"a new ostler of what can't be read", func(s *stable) { some(s); s.d.Spoil("spoilt") }, renew},
		{"a new ostler of what does not fit", func(s *stable) { some(s); s.c.Bytes = 5 }, renew},
		{"a new ostler of what else runs", func(s *stable) {
			some(s)
			s.e.Stop("b", "y")
			s.e.Stop("a", "x")
			s.e.Start(api.Running{Pod: "a", Cont: "x", CPUs: 2, Devs: []int{1}})
			s.e.Start(api.Running{Pod: "q", Cont: "x", CPUs: 4})
		}, renew},
	}
}

// whole: what is held behind it, if nothing falls; and how many steps it takes.
func (f falling) whole(t *testing.T) (held string, steps int) {
	t.Helper()
	s := opened(t, example())
	f.ahead(s)
	s.d.Arm(manySteps)
	if err := f.do(s); err != nil {
		t.Fatalf("%s: %v", f.name, err)
	}
	steps = manySteps
	for s.d.Step() == nil {
		steps--
	}
	s.fallen(0, 0)
	return s.sound(f.name), steps
}

// before: what is held ahead of it.
func (f falling) before(t *testing.T) string {
	t.Helper()
	s := opened(t, example())
	f.ahead(s)
	s.again()
	return s.sound(f.name)
}

// M1, W4: behind a fall at any step, and whatever is kept, a new ostler holds what was held ahead, or behind it; just that runs; and it works on.
func TestFalls(t *testing.T) {
	for _, f := range fallings(t) {
		before := f.before(t)
		behind, steps := f.whole(t)
		for at := range steps {
			for keep := range 4 {
				for _, torn := range []int{-1, 0, 1, 17, api.MaxFile} {
					name := fmt.Sprint(f.name, ", ", at, " of ", steps, " steps, ", keep, ", ", torn)
					s := opened(t, example())
					f.ahead(s)
					s.d.Arm(at)
					if err := f.do(s); err != api.ErrDown || !s.d.Down() {
						t.Fatalf("%s: %v", name, err)
					}
					s.fallen(keep, torn)
					got := s.sound(name)
					if got != before && got != behind {
						t.Errorf("%s: %q is held; ahead %q, behind %q", name, got, before, behind)
					}
					worksOn(s, name)
				}
			}
		}
	}
}

// worksOn: pods come and go.
func worksOn(s *stable, name string) {
	s.t.Helper()
	was, shared := s.sound(name), s.Shared()
	s.admits(pod("next", 0, "x:::", "y:::"))
	s.sound(name)
	if err := s.Remove("next"); err != nil || s.sound(name) != was || s.Shared() != shared {
		s.t.Errorf("%s: %v, %s, it was %s", name, err, told(s.Held()), was)
	}
}

// M1: a new ostler falls, too, and the next one, at every step.
func TestFallsAgain(t *testing.T) {
	for _, f := range fallings(t) {
		before := f.before(t)
		behind, steps := f.whole(t)
		for at := range steps {
			for keep := range 2 {
				name := fmt.Sprint(f.name, ", ", at, " of ", steps, " steps, ", keep)
				s := opened(t, example())
				f.ahead(s)
				s.d.Arm(at)
				f.do(s)
				var err error = api.ErrDown
				for n := 0; err != nil; n++ {
					s.d.Restart(keep, n)
					s.d.Arm(n)
					if _, err = New(s.c, s.d, s.e); err != nil && err != api.ErrDown || n > manySteps {
						t.Fatalf("%s: %v", name, err)
					}
				}
				s.fallen(0, 0)
				if got := s.sound(name); got != before && got != behind {
					t.Errorf("%s: %q is held; ahead %q, behind %q", name, got, before, behind)
				}
			}
		}
	}
}

// M1: what was moved into the file, and isn't kept, is held behind a fall, or what was there ahead of it.
func TestFallsMoved(t *testing.T) {
	for at := range 4 {
		for keep := range 4 {
			name := fmt.Sprint(at, " steps, ", keep)
			s := opened(t, example(), own("a", 2, "gpu=1"), own("b", 1, "nic=1"))
			ahead, behind := told(s.Held()), told(s.Held()[:1])
			s.d.Write(written(t, s.Held()[:1]))
			s.d.Move()
			s.d.Write("more")
			s.d.Arm(at)
			_, err := New(s.c, s.d, s.e)
			s.fallen(keep, 2)
			if got := s.sound(name); got != behind && (err == nil || got != ahead) {
				t.Errorf("%s: %q is held; ahead %q, behind %q", name, got, ahead, behind)
			}
			worksOn(s, name)
		}
	}
}

// M3: all is saved ahead of what is started; M4: what is stopped, ahead of what is saved: so at no step more runs than is in the file.
func TestOrder(t *testing.T) {
	for _, f := range fallings(t)[:9] {
		_, steps := f.whole(t)
		for at := range steps {
			s := opened(t, example())
			f.ahead(s)
			s.d.Arm(at)
			f.do(s)
			runs := s.e.List()
			s.d.Restart(0, 0)
			file, err := s.d.Read()
			if err != nil {
				file = written(t, nil)
			}
			s.again()
			for _, r := range runs {
				if !has(s.e.List(), r) {
					t.Errorf("%s, %d of %d steps: %v ran, but is not in the file: %q", f.name, at, steps, r, file)
				}
			}
		}
	}
}

// M5: who is pressed is stopped in the order in which it is told.
func TestPressOrder(t *testing.T) {
	pods := []api.Pod{pod("a", 3, "x:::", "y:::"), pod("b", 1, "x:::"), pod("c", 2, "x:::")}
	want := []string{
		"a x - -; a y - -; b x - -; c x - -",
		"a x - -; a y - -; c x - -",
		"a x - -; a y - -",
	}
	for at, runs := range want {
		s := opened(t, example(), pods...)
		s.d.Arm(at)
		if l, err := s.Press(nil, -1); l != nil || err != api.ErrDown {
			t.Errorf("%d: %v, %v", at, l, err)
		}
		if got := ran(s.e.List()); got != runs {
			t.Errorf("%d: %s runs, want %s", at, got, runs)
		}
	}
}

// M3, M4, M5: what is refused takes no step, nor does what has nothing to do: it can't fall.
func TestNoSteps(t *testing.T) {
	s := opened(t, example(), own("a", 2, "gpu=1"))
	before := s.shown()
	s.d.Arm(0)
	for _, c := range []struct {
		name string
		err  error
		want error
	}{
		{"Admit", s.Admit(own("a", 1, "")), api.ErrExist},
		{"Admit of much", s.Admit(own("b", 6, "")), api.ErrRoom},
		{"Remove", s.Remove("b"), api.ErrNone},
		{"Sick", s.Sick(9, true), api.ErrBound},
		{"Sick", s.Sick(2, false), nil},
	} {
		if c.err != c.want {
			t.Errorf("%s: %v, want %v", c.name, c.err, c.want)
		}
	}
	if l, err := s.Press(uses("a=5"), 5); len(l) != 0 || err != nil {
		t.Errorf("Press: %v, %v", l, err)
	}
	if s.shown() != before || s.d.Down() {
		t.Errorf("%s, it was %s", s.shown(), before)
	}
	s.again()
	s.holds("again", "a x 1,5 0")
}
