package engine

import (
	"fmt"
	"math/rand"
	"reflect"
	"slices"
	"strings"
	"testing"

	"ostlery/api"
	"ostlery/disk"
)

// run: a container that runs.
func run(pod, cont string, cpus api.Set, devs ...int) api.Running {
	return api.Running{Pod: pod, Cont: cont, CPUs: cpus, Devs: devs}
}

// started: an engine on which these run, and its disk.
func started(t *testing.T, l ...api.Running) (*Engine, *disk.Disk) {
	t.Helper()
	d := disk.New()
	e := New(d)
	for _, r := range l {
		if err := e.Start(r); err != nil {
			t.Fatalf("%v: %v", r, err)
		}
	}
	return e, d
}

// names of what runs, in its order.
func names(e *Engine) string {
	var s []string
	for _, r := range e.List() {
		s = append(s, r.Pod+"."+r.Cont)
	}
	return strings.Join(s, " ")
}

// L1: what runs, with all that was told of it.
func TestStart(t *testing.T) {
	e, _ := started(t)
	if got := e.List(); len(got) != 0 {
		t.Errorf("%v runs on a new engine", got)
	}
	all := []api.Running{
		run("a", "x", 0),
		run("a", "y", 5, 1, 2),
		run("b", "x", ^api.Set(0), 0, 15),
	}
	e, _ = started(t, all[2], all[0], all[1])
	if got := e.List(); fmt.Sprint(got) != fmt.Sprint(all) {
		t.Errorf("%v, want %v", got, all)
	}
}

// L1: by rising Pod, then Cont, as bytes; two texts that together are alike are two names.
func TestOrder(t *testing.T) {
	e, _ := started(t, run("b", "a", 0), run("ab", "c", 0), run("a", "z", 0), run("a", "bc", 0), run("aa", "a", 0),
		run("a", "b", 0), run("a", "", 0), run("", "a", 0), run("", "", 0), run("\xff", "a", 0), run("a9", "a", 0), run("Z", "a", 0), run("a\x00", "a", 0))
	want := ". .a Z.a a. a.b a.bc a.z a\x00.a a9.a aa.a ab.c b.a \xff.a"
	if got := names(e); got != want {
		t.Errorf("%q, want %q", got, want)
	}
}

// L1: one of that Pod and Cont runs already, or there is none.
func TestErrors(t *testing.T) {
	e, _ := started(t, run("a", "x", 1, 1), run("b", "y", 2))
	for _, c := range []struct {
		name string
		err  error
		want error
	}{
		{"again", e.Start(run("a", "x", 1, 1)), api.ErrExist},
		{"again, with others", e.Start(run("a", "x", 4, 2)), api.ErrExist},
		{"another Cont", e.Start(run("a", "y", 1, 1)), nil},
		{"another Pod", e.Start(run("b", "x", 1, 1)), nil},
		{"stop none", e.Stop("c", "x"), api.ErrNone},
		{"stop another Cont", e.Stop("b", "z"), api.ErrNone},
		{"stop no name", e.Stop("", ""), api.ErrNone},
		{"stop one", e.Stop("b", "y"), nil},
		{"stop it again", e.Stop("b", "y"), api.ErrNone},
		{"stop another one", e.Stop("a", "y"), nil},
		{"start it again", e.Start(run("a", "y", 8, 3)), nil},
	} {
		if c.err != c.want {
			t.Errorf("%s: %v, want %v", c.name, c.err, c.want)
		}
	}
	want := []api.Running{run("a", "x", 1, 1), run("a", "y", 8, 3), run("b", "x", 1, 1)}
	if got := e.List(); !reflect.DeepEqual(got, want) {
		t.Errorf("%v, want %v", got, want)
	}
}

// L1: each Start and each Stop is a step of the disk, also with an error; List is none.
func TestSteps(t *testing.T) {
	for _, c := range []struct {
		name string
		f    func(e *Engine) error
		want int
	}{
		{"Start", func(e *Engine) error { return e.Start(run("b", "x", 0)) }, 1},
		{"Start again", func(e *Engine) error { return e.Start(run("a", "x", 0)) }, 1},
		{"Stop", func(e *Engine) error { return e.Stop("a", "x") }, 1},
		{"Stop none", func(e *Engine) error { return e.Stop("b", "x") }, 1},
		{"List", func(e *Engine) error { e.List(); return nil }, 0},
	} {
		e, d := started(t, run("a", "x", 0))
		d.Arm(5)
		c.f(e)
		left := 0
		for d.Step() == nil {
			left++
		}
		if left != 5-c.want {
			t.Errorf("%s: %d of 5 steps are left", c.name, left)
		}
	}
}

// L1: it falls with the disk, at any step of it, but loses nothing.
func TestFall(t *testing.T) {
	e, d := started(t, run("a", "x", 3, 1), run("b", "x", 4))
	d.Arm(1)
	if err := e.Start(run("c", "x", 0)); err != nil {
		t.Errorf("ahead of the fall: %v", err)
	}
	for name, err := range map[string]error{
		"Start":       e.Start(run("d", "x", 0)),
		"Start again": e.Start(run("a", "x", 0)),
		"Stop":        e.Stop("a", "x"),
		"Stop none":   e.Stop("d", "x"),
	} {
		if err != api.ErrDown {
			t.Errorf("%s: %v, want %v", name, err, api.ErrDown)
		}
	}
	if !d.Down() {
		t.Error("the disk is not down")
	}
	if got := names(e); got != "a.x b.x c.x" {
		t.Errorf("while it is down: %s", got)
	}
	d.Restart(0, 0)
	if got := names(e); got != "a.x b.x c.x" {
		t.Errorf("behind it: %s", got)
	}
	if got := e.List()[0]; !reflect.DeepEqual(got, run("a", "x", 3, 1)) {
		t.Errorf("%v", got)
	}
	if e.Stop("a", "x") != nil || e.Start(run("d", "x", 0)) != nil || names(e) != "b.x c.x d.x" {
		t.Errorf("behind it: %s", names(e))
	}
}

// L1: it falls with its disk, whoever makes the step, and with no other one.
func TestWhoseDisk(t *testing.T) {
	one, d := started(t, run("a", "x", 0))
	two := New(d)
	if got := names(two); got != "" {
		t.Errorf("%s runs on a new engine", got)
	}
	if err := two.Start(run("a", "x", 0)); err != nil {
		t.Errorf("%v: it runs on another engine alone", err)
	}
	other, _ := started(t)
	d.Arm(0)
	d.Sync()
	if one.Stop("a", "x") != api.ErrDown || two.Stop("a", "x") != api.ErrDown {
		t.Error("its disk is down")
	}
	if err := other.Start(run("a", "x", 0)); err != nil {
		t.Errorf("%v: another disk is down", err)
	}
}

// Z2: no list that is handed in is kept, and those that come out are the caller's.
func TestLists(t *testing.T) {
	e, _ := started(t)
	devs := []int{1, 2, 3, 4}
	e.Start(run("a", "x", 1, devs[:2]...))
	e.Start(run("b", "x", 2, devs[1:3]...))
	if !slices.Equal(devs, []int{1, 2, 3, 4}) {
		t.Errorf("%v was changed", devs)
	}
	clear(devs)
	want := []api.Running{run("a", "x", 1, 1, 2), run("b", "x", 2, 2, 3)}
	for range 2 {
		got := e.List()
		if !reflect.DeepEqual(got, want) {
			t.Errorf("%v, want %v", got, want)
		}
		_ = append(got[0].Devs, 7, 7)
		clear(got[0].Devs)
		if !reflect.DeepEqual(got[1], want[1]) {
			t.Errorf("%v shares its list", got[1])
		}
		clear(got[1].Devs)
		clear(got)
	}
}

// slow: what runs, in the order in which it was started.
type slow []api.Running

func (s *slow) start(r api.Running) error {
	for _, o := range *s {
		if o.Pod == r.Pod && o.Cont == r.Cont {
			return api.ErrExist
		}
	}
	*s = append(*s, r)
	return nil
}

func (s *slow) stop(pod, cont string) error {
	for i, o := range *s {
		if o.Pod == pod && o.Cont == cont {
			*s = slices.Concat((*s)[:i], (*s)[i+1:])
			return nil
		}
	}
	return api.ErrNone
}

// list: each stands behind as many as are below it.
func (s *slow) list() []api.Running {
	out := make([]api.Running, len(*s))
	for _, r := range *s {
		at := 0
		for _, o := range *s {
			if o.Pod < r.Pod || o.Pod == r.Pod && o.Cont < r.Cont {
				at++
			}
		}
		out[at] = r
	}
	return out
}

// L1: drawn acts, while the disk falls now and then.
func TestDrawn(t *testing.T) {
	r := rand.New(rand.NewSource(1))
	some := []string{"a", "b", "ab", "a0", "", "web"}
	for range 2000 {
		e, d := started(t)
		var x slow
		for range 40 {
			pod, cont := some[r.Intn(len(some))], some[r.Intn(3)]
			var got, want error
			act := r.Intn(8)
			switch {
			case act == 0:
				d.Arm(r.Intn(6) - 1)
			case act == 1:
				d.Restart(r.Intn(3), 0)
			case act < 6:
				c := run(pod, cont, api.Set(r.Intn(9)), r.Perm(3)...)
				got = e.Start(c)
				if want = api.ErrDown; !d.Down() {
					want = x.start(c)
				}
			default:
				got = e.Stop(pod, cont)
				if want = api.ErrDown; !d.Down() {
					want = x.stop(pod, cont)
				}
			}
			if list := e.List(); got != want || fmt.Sprint(list) != fmt.Sprint(x.list()) {
				t.Fatalf("%d of %q %q: %v %v, want %v %v", act, pod, cont, got, list, want, x.list())
			}
		}
	}
}

// Z1: many that run, of long names.
func TestMany(t *testing.T) {
	e, _ := started(t)
	long := strings.Repeat("p", 1000)
	for i := range 20000 {
		if err := e.Start(run(long, fmt.Sprint(20000+(i*7919)%20000), api.Set(i), i)); err != nil {
			t.Fatal(err)
		}
	}
	l := e.List()
	if len(l) != 20000 || l[0].Cont != "20000" || l[19999].Cont != "39999" {
		t.Errorf("%d, from %s", len(l), l[0].Cont)
	}
}
