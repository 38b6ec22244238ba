package ostler

import (
	"fmt"
	"math"
	"slices"
	"testing"

	"ostlery/api"
	"ostlery/qos"
)

// The document's example, as far as it is an ostler's.
func TestExample(t *testing.T) {
	s := opened(t, example())
	shared := func(want api.Set) {
		t.Helper()
		if got := s.Shared(); got != want {
			t.Errorf("%b is shared, want %b", got, want)
		}
	}
	admit := func(p api.Pod, want error) {
		t.Helper()
		if err := s.Admit(p); err != want {
			t.Errorf("Admit %s: %v, want %v", p.Name, err, want)
		}
	}
	shared(0b11111110)
	admit(pod("web", 5, "x:2/64Mi:2/64Mi:gpu=1"), nil)
	s.holds("web", "web x 1,5 0")
	shared(0b11011100)
	admit(pod("job", 1, "y:500m/32Mi::"), nil)
	admit(pod("low", 0, "z:::"), nil)
	want := "[{/mid 512 -1 0} {/low 2 -1 0} {/mid/job 512 -1 0} {/mid/job/y 512 -1 0} {/low/low 2 -1 0} {/low/low/z 2 -1 0} {/web 2048 200000 67108864} {/web/x 2048 200000 67108864}]"
	if got := fmt.Sprint(s.Groups()); got != want {
		t.Errorf("%s, want %s", got, want)
	}
	if got := ran(s.e.List()); got != "job y - -; low z - -; web x 1,5 0" {
		t.Errorf("%s runs", got)
	}
	admit(pod("big", 9, "x:3/16Mi:3/16Mi:gpu=1+nic=1"), nil)
	admit(pod("fit", 9, "x:2/16Mi:2/16Mi:gpu=1+nic=1"), api.ErrRoom)
	s.holds("big", "big x 2-3,6 1,2; job y - -; low z - -; web x 1,5 0")
	shared(0b10010000)
	if s.Sick(0, true) != nil || s.Remove("web") != nil {
		t.Error("Sick, Remove")
	}
	admit(pod("web", 5, "x:1/1Mi:1/1Mi:gpu=1"), api.ErrPlace)
	if s.Sick(0, false) != nil {
		t.Error("Sick")
	}
	admit(pod("web", 5, "x:1/1Mi:1/1Mi:gpu=1"), nil)
	s.holds("web again", "big x 2-3,6 1,2; job y - -; low z - -; web x 4 0")
	admit(pod("huge", 1, "x:8/1Mi:8/1Mi:"), api.ErrRoom)
	admit(pod("a", 1, "x:1.5/1Mi:1/1Mi:"), api.ErrShape)
	admit(pod("web", 1, "x:::"), api.ErrExist)
	l, err := s.Press(uses("job=62914560 web=10485760 fit=16777216 low=1048576"), 64<<20)
	if fmt.Sprint(l) != "[low job]" || err != nil {
		t.Errorf("Press: %v, %v", l, err)
	}
	s.holds("pressed", "big x 2-3,6 1,2; web x 4 0")
	s.fallen(0, 0)
	s.holds("again", "big x 2-3,6 1,2; web x 4 0")
	s.d.Arm(2)
	admit(pod("new", 3, "x:1/1Mi:1/1Mi:"), api.ErrDown)
	s.fallen(2, 0)
	s.holds("behind the fall", "big x 2-3,6 1,2; web x 4 0")
	if err := s.Remove("new"); err != api.ErrNone {
		t.Errorf("Remove: %v", err)
	}
}

// many devices of a kind.
func many(n int) []api.Dev { return slices.Repeat([]api.Dev{{Kind: "gpu"}}, n) }

// configs: what is wrong with one, and which of several things is told first.
var configs = []struct {
	name string
	f    func(c *api.Config)
	want error
}{
	{"as it is", func(c *api.Config) {}, nil},
	{"no processors", func(c *api.Config) { c.CPUs = nil }, api.ErrMany},
	{"as many as may be", func(c *api.Config) { c.CPUs, c.Keep = board(4, 8, 2), 1<<63 }, nil},
	{"one too many", func(c *api.Config) { c.CPUs = append(board(4, 8, 2), api.CPU{}) }, api.ErrMany},
	{"a node that may not be", func(c *api.Config) { c.CPUs[3].Node = 4 }, api.ErrBound},
	{"a core in two sockets", func(c *api.Config) { c.CPUs[4].Socket = 1 }, api.ErrShape},
	{"all is kept", func(c *api.Config) { c.Keep = 0xff }, nil},
	{"nothing is kept", func(c *api.Config) { c.Keep = 0 }, nil},
	{"one is kept that there isn't", func(c *api.Config) { c.Keep = 0x100 }, api.ErrBound},
	{"the last of all is kept", func(c *api.Config) { c.Keep = 1 << 63 }, api.ErrBound},
	{"no bytes", func(c *api.Config) { c.Bytes = 0 }, nil},
	{"all bytes", func(c *api.Config) { c.Bytes = api.MaxBytes }, nil},
	{"bytes below", func(c *api.Config) { c.Bytes = -1 }, api.ErrBound},
	{"bytes far below", func(c *api.Config) { c.Bytes = math.MinInt }, api.ErrBound},
	{"bytes above", func(c *api.Config) { c.Bytes = api.MaxBytes + 1 }, api.ErrBound},
	{"anyhow", func(c *api.Config) { c.Policy = 0 }, nil},
	{"single", func(c *api.Config) { c.Policy = 3 }, nil},
	{"policy below", func(c *api.Config) { c.Policy = -1 }, api.ErrBound},
	{"policy above", func(c *api.Config) { c.Policy = 4 }, api.ErrBound},
	{"no devices", func(c *api.Config) { c.Devs = nil }, nil},
	{"as many devices as may be", func(c *api.Config) { c.Devs = many(16) }, nil},
	{"one device too many", func(c *api.Config) { c.Devs = many(17) }, api.ErrMany},
	{"a kind that is no name", func(c *api.Config) { c.Devs[1].Kind = "G" }, api.ErrShape},
	{"a device on no node", func(c *api.Config) { c.Devs[2].Node = -1 }, api.ErrBound},
	{"a device on another node than all processors", func(c *api.Config) { c.Devs[2].Node = 3 }, nil},
	{"processors ahead of what is kept", func(c *api.Config) { c.CPUs, c.Keep = nil, 1<<63 }, api.ErrMany},
	{"processors ahead of devices", func(c *api.Config) { c.CPUs[0].Core, c.Devs = 64, many(17) }, api.ErrBound},
	{"what is kept ahead of devices", func(c *api.Config) { c.Keep, c.Devs = 1<<9, many(17) }, api.ErrBound},
	{"policy ahead of devices", func(c *api.Config) { c.Policy, c.Devs[0].Kind = 9, "" }, api.ErrBound},
}

// M1: what may be a config; with an error nothing is taken up, nor changed.
func TestCheck(t *testing.T) {
	for _, k := range configs {
		c := example()
		k.f(&c)
		if err := Check(c); err != k.want {
			t.Errorf("%s: Check: %v, want %v", k.name, err, k.want)
		}
		s := opened(t, example(), own("web", 2, "gpu=1"))
		s.d.Spoil("spoilt")
		was := ran(s.e.List())
		a, err := New(c, s.d, s.e)
		if err != k.want || (a == nil) != (err != nil) {
			t.Errorf("%s: New: %v %v, want %v", k.name, a, err, k.want)
		}
		if file, _ := s.d.Read(); err != nil && (file != "spoilt" || ran(s.e.List()) != was) {
			t.Errorf("%s: with an error %q is in the file, %s runs", k.name, file, ran(s.e.List()))
		}
	}
}

// M1: a disk that is down; what is wrong with the config is told first.
func TestNewDown(t *testing.T) {
	s := opened(t, example(), own("web", 1, ""))
	s.d.Arm(0)
	s.d.Step()
	if a, err := New(s.c, s.d, s.e); a != nil || err != api.ErrDown {
		t.Errorf("%v, %v", a, err)
	}
	if a, err := New(api.Config{}, s.d, s.e); a != nil || err != api.ErrMany {
		t.Errorf("%v, %v", a, err)
	}
	s.fallen(0, 0)
	s.holds("behind it", "web x 4 -")
}

// M2: who holds what, by rising names; what is shared; groups; devices.
func TestTold(t *testing.T) {
	s := opened(t, example())
	s.holds("new", "")
	if got := fmt.Sprint(s.Held(), s.Shared(), s.Devices(), s.Groups()); got != "[] 254 [{gpu 0 false} {gpu 1 false} {nic 1 false}] [{/mid 2 -1 0} {/low 2 -1 0}]" {
		t.Errorf("%s", got)
	}
	pods := []api.Pod{
		pod("b", 3, "y:1/1Mi:1/1Mi:", "x:1/2Mi:1/2Mi:gpu=1"),
		pod("a9", 0, "z:::nic=1"),
		pod("a", 1, "x:300m/1Mi::"),
		pod("ab", 7, "x:1500m/1:1500m/1:gpu=1"),
	}
	for _, p := range pods {
		s.admits(p)
	}
	s.holds("all", "a x - -; a9 z - 2; ab x - 1; b y 4 - x 1 0")
	want := []api.Held{
		{Pod: pods[2], Given: []api.Given{{}}},
		{Pod: pods[1], Given: []api.Given{{Devs: []int{2}}}},
		{Pod: pods[3], Given: []api.Given{{Devs: []int{1}}}},
		{Pod: pods[0], Given: []api.Given{{CPUs: 1 << 4}, {CPUs: 1 << 1, Devs: []int{0}}}},
	}
	if got := s.Held(); fmt.Sprint(got) != fmt.Sprint(want) {
		t.Errorf("%v, want %v", got, want)
	}
	if got := s.Shared(); got != 0b11101100 {
		t.Errorf("%b is shared", got)
	}
	groups := qos.Groups([]api.Pod{pods[2], pods[1], pods[3], pods[0]})
	if got := s.Groups(); !slices.Equal(got, groups) {
		t.Errorf("%v, want %v", got, groups)
	}
	s.again()
	if got := s.Held(); fmt.Sprint(got) != fmt.Sprint(want) || s.Shared() != 0b11101100 {
		t.Errorf("again: %v, want %v", got, want)
	}
}

// M4: who goes leaves the machine as it was; who isn't held can't go.
func TestRemove(t *testing.T) {
	s := opened(t, example(), own("web", 2, "gpu=1"), pod("job", 0, "x:1/1Mi::nic=1", "y:::"))
	before := s.shown()
	for _, name := range []string{"", "we", "webs", "WEB", "x", "\xff"} {
		if err := s.Remove(name); err != api.ErrNone {
			t.Errorf("%q: %v", name, err)
		}
	}
	if s.shown() != before {
		t.Errorf("%s, it was %s", s.shown(), before)
	}
	s.admits(own("big", 3, "gpu=1"))
	if err := s.Remove("big"); err != nil {
		t.Error(err)
	}
	if s.shown() != before {
		t.Errorf("%s, it was %s", s.shown(), before)
	}
	if err := s.Remove("big"); err != api.ErrNone {
		t.Errorf("again: %v", err)
	}
	if s.Remove("web") != nil || s.Shared() != 254 {
		t.Errorf("%b is shared", s.Shared())
	}
	s.holds("without web", "job x - 2 y - -")
	s.fallen(0, 0)
	s.holds("behind a fall", "job x - 2 y - -")
	s.admits(own("web", 2, "gpu=2"))
	if s.Remove("job") != nil || s.Remove("web") != nil {
		t.Error("Remove")
	}
	s.holds("without all", "")
	if file, err := s.d.Read(); file != written(t, nil) || err != nil {
		t.Errorf("%q, %v", file, err)
	}
}

// M4: a sick device is given to nobody, but who has it keeps it, also with a new ostler.
func TestSick(t *testing.T) {
	s := opened(t, under(api.Anyhow), own("web", 1, "gpu=1"))
	for _, n := range []int{-1, 3, 16, math.MaxInt, math.MinInt} {
		if err := s.Sick(n, true); err != api.ErrBound {
			t.Errorf("Sick(%d): %v", n, err)
		}
	}
	sick := func(n int, on bool) {
		t.Helper()
		if err := s.Sick(n, on); err != nil {
			t.Errorf("Sick(%d): %v", n, err)
		}
	}
	sick(0, true)
	sick(1, true)
	if got := fmt.Sprint(s.Devices()); got != "[{gpu 0 true} {gpu 1 true} {nic 1 false}]" {
		t.Errorf("%s", got)
	}
	s.holds("it keeps it", "web x 4 0")
	if err := s.Admit(own("two", 1, "gpu=1")); err != api.ErrDevices {
		t.Errorf("%v", err)
	}
	s.admits(own("nic", 1, "nic=1"))
	if err := s.Remove("web"); err != nil {
		t.Error(err)
	}
	if err := s.Admit(own("two", 1, "gpu=1")); err != api.ErrDevices {
		t.Errorf("it is sick still: %v", err)
	}
	sick(1, false)
	s.admits(own("two", 1, "gpu=1"))
	s.holds("the other one", "nic x 1 2; two x 4 1")
	sick(1, true)
	s.c.Devs[0].Sick = true
	s.c.Devs[2].Sick = true
	s.again()
	s.holds("who has a sick one keeps it", "nic x 1 2; two x 4 1")
	if got := fmt.Sprint(s.Devices()); got != "[{gpu 0 true} {gpu 1 false} {nic 1 true}]" {
		t.Errorf("they are as sick as the config says: %s", got)
	}
	if err := s.Admit(own("more", 1, "gpu=1")); err != api.ErrDevices {
		t.Errorf("%v", err)
	}
	sick(0, false)
	s.admits(own("more", 1, "gpu=1"))
}

// M5: who goes, in which order.
func TestPress(t *testing.T) {
	pods := []api.Pod{
		pod("a", 2, "x:1/10:1/10:gpu=1"),
		pod("b", 1, "x:1/10:1/10:nic=1"),
		pod("c", 1, "x:::", "y:::"),
		pod("d", 0, "x:0/30::"),
	}
	all := "a x 4 0; b x 2 2; c x - - y - -; d x - -"
	for _, c := range []struct {
		name string
		u    []api.Use
		most int
		want string
		held string
	}{
		{"enough", uses("a=50 d=50"), 100, "[]", all},
		{"nothing is used", nil, 0, "[]", all},
		{"who is not held uses none", uses("z=999"), 0, "[]", all},
		{"above what it asks for, though of more", uses("a=50 d=30"), 79, "[a]", "b x 2 2; c x - - y - -; d x - -"},
		{"the lesser first", uses("a=50 b=11"), 60, "[b]", "a x 4 0; c x - - y - -; d x - -"},
		{"of two alike who is further above", uses("b=15 c=9"), 20, "[c]", "a x 4 0; b x 2 2; d x - -"},
		{"the first word on each", uses("a=1 a=999 b=2"), 2, "[d c b]", "a x 4 0"},
		{"one by one", uses("a=11 b=12 c=13 d=14"), 24, "[c b a]", "d x - -"},
		{"all", uses("a=11 b=12 c=13 d=31"), 0, "[d c b a]", ""},
		{"all, and more is used", nil, -1, "[d c b a]", ""},
	} {
		s := opened(t, example(), pods...)
		if s.sound(c.name) != all {
			t.Fatalf("%s", s.sound(c.name))
		}
		l, err := s.Press(c.u, c.most)
		if fmt.Sprint(l) != c.want || err != nil {
			t.Errorf("%s: %v, %v, want %s", c.name, l, err, c.want)
		}
		s.holds(c.name, c.held)
		s.fallen(0, 0)
		s.holds(c.name+", again", c.held)
	}
}
