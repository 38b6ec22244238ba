package ostler

import (
	"fmt"
	"testing"

	"ostlery/api"
)

// M3: which processors and devices are given, under which policy.
func TestAdmit(t *testing.T) {
	one := "x:1/1:1/1:"
	for _, c := range []struct {
		name   string
		policy int
		pods   []api.Pod
		want   string
	}{
		{"own ones", 2, []api.Pod{own("a", 2, "")}, "a x 1,5 -"},
		{"none of a part of one", 2, []api.Pod{pod("a", 0, "x:1500m/1:1500m/1:")}, "a x - -"},
		{"none, as it is in the middle", 2, []api.Pod{pod("a", 0, "x:2/1:3/1:"), pod("b", 0, "x:2/0:2/0:"), pod("c", 0, "x:2/1:2/2:")}, "a x - -; b x - -; c x - -"},
		{"none of any, as one is in the middle", 2, []api.Pod{pod("a", 0, one, "y:::")}, "a x - - y - -"},
		{"whole ones beside a part", 2, []api.Pod{pod("a", 0, one, "y:500m/1:500m/1:", "z:2/1:2/1:")}, "a x 4 - y - - z 1,5 -"},
		{"each container by itself", 3, []api.Pod{pod("a", 0, "x:3/1:3/1:", "y:4/1:4/1:")}, "a x 1,4-5 - y 2-3,6-7 -"},
		{"those ahead have theirs", 2, []api.Pod{pod("a", 0, "x:2/1:2/1:gpu=1", "y:2/1:2/1:gpu=1", "z:1/1:1/1:nic=1")}, "a x 1,5 0 y 2,6 1 z 3 2"},
		{"where the device is", 2, []api.Pod{own("a", 1, "nic=1")}, "a x 2 2"},
		{"where both are", 2, []api.Pod{own("a", 1, "gpu=1+nic=1")}, "a x 2 1,2"},
		{"wherever it is", 0, []api.Pod{own("a", 1, "gpu=1+nic=1")}, "a x 4 0,2"},
		{"numbers rise over kinds", 1, []api.Pod{own("a", 1, "gpu=2+nic=1")}, "a x 2 0,1,2"},
		{"devices alone", 2, []api.Pod{pod("a", 0, "x:::nic=1"), pod("b", 0, "x:100m/1::gpu=1")}, "a x - 2; b x - 0"},
		{"well as two nodes", 2, []api.Pod{own("a", 5, "")}, "a x 2-4,6-7 -"},
		{"as well as can be", 1, []api.Pod{own("a", 3, ""), own("b", 3, ""), own("c", 1, "")}, "a x 1,4-5 -; b x 2-3,6 -; c x 7 -"},
		{"some that lie elsewhere", 1, []api.Pod{own("a", 2, ""), own("b", 2, "gpu=2"), own("c", 3, "")}, "a x 1,5 -; b x 2,6 0,1; c x 3-4,7 -"},
		{"names in any order", 2, []api.Pod{own("c", 1, ""), own("a", 1, ""), own("b", 1, "")}, "a x 1 -; b x 5 -; c x 4 -"},
	} {
		s := opened(t, under(c.policy), c.pods...)
		s.holds(c.name, c.want)
		if file, _ := s.d.Read(); file != written(t, s.Held()) {
			t.Errorf("%s: the file is %q", c.name, file)
		}
		s.fallen(0, 0)
		s.holds(c.name+", again", c.want)
	}
}

// crowd: so many pods that ask for nothing.
func crowd(n int) []api.Pod {
	var l []api.Pod
	for i := range n {
		l = append(l, pod(fmt.Sprint("p", i), 0, "x:::"))
	}
	return l
}

// M3: who is not let in, and why. With an error nothing is given, nor anything changed.
func TestAdmitErrors(t *testing.T) {
	for _, c := range []struct {
		name   string
		policy int
		ahead  []api.Pod
		p      api.Pod
		want   error
	}{
		{"no name", 2, nil, own("", 1, ""), api.ErrShape},
		{"no containers", 2, nil, pod("a", 0), api.ErrMany},
		{"too many containers", 2, nil, pod("a", 0, "x:::", "y:::", "z:::", "w:::"), api.ErrMany},
		{"a container twice", 2, nil, pod("a", 0, "x:::", "x:::"), api.ErrExist},
		{"Prio", 2, nil, pod("a", 1001, "x:::"), api.ErrBound},
		{"no device is needed", 2, nil, own("a", 1, "gpu=0"), api.ErrBound},
		{"kinds that don't rise", 2, nil, own("a", 1, "nic=1+gpu=1"), api.ErrShape},
		{"what it is ahead of its name", 2, crowd(1), pod("p0", -1, "x:::"), api.ErrBound},

		{"it is held", 2, crowd(1), pod("p0", 0, "x:::"), api.ErrExist},
		{"it is held, as another one", 2, crowd(2), own("p1", 1, ""), api.ErrExist},
		{"it is held, and there are many", 2, crowd(12), pod("p3", 0, "x:::"), api.ErrExist},
		{"it is held, and asks for much", 2, crowd(1), own("p0", 64, ""), api.ErrExist},
		{"as many as may be", 2, crowd(11), pod("q", 0, "x:::"), nil},
		{"one too many", 2, crowd(12), pod("q", 0, "x:::"), api.ErrMany},
		{"one too many, that asks for much", 2, crowd(12), own("q", 64, ""), api.ErrMany},

		{"all processors that aren't kept", 2, nil, own("a", 7, ""), nil},
		{"one more", 2, nil, own("a", 8, ""), api.ErrRoom},
		{"all processors, in parts", 2, []api.Pod{own("b", 3, "")}, pod("a", 0, "x:2500m/1::", "y:1500m/1::"), nil},
		{"a thousandth more", 2, []api.Pod{own("b", 3, "")}, pod("a", 0, "x:2501m/1::", "y:1500m/1::"), api.ErrRoom},
		{"a thousandth more of who has its own", 2, []api.Pod{pod("b", 0, "x:1m/0::")}, own("a", 7, ""), api.ErrRoom},
		{"all bytes", 2, []api.Pod{pod("b", 0, "x:0/1Mi::")}, pod("a", 0, "x:0/1023Mi::"), nil},
		{"one byte more", 2, []api.Pod{pod("b", 0, "x:0/1Mi::")}, pod("a", 0, "x:0/1023Mi::", "y:0/1::"), api.ErrRoom},
		{"most of all", 2, nil, pod("a", 0, "x:1000/1024Ti::", "y:1000/1024Ti::", "z:1000/1024Ti::"), api.ErrRoom},
		{"what may be had is not asked for", 2, nil, pod("a", 0, "x:1/1:1000/1024Ti:"), nil},
		{"it asks for much, and lies nowhere", 3, nil, own("a", 8, "nic=2"), api.ErrRoom},
		{"nothing, where all is asked for", 2, []api.Pod{pod("b", 0, "x:7/1Gi:7/1Gi:")}, pod("a", 0, "x:::"), nil},

		{"anyhow", 0, nil, own("a", 4, "gpu=2+nic=1"), nil},
		{"as well as can be", 1, nil, own("a", 4, "gpu=2+nic=1"), nil},
		{"not on the node of both", 2, []api.Pod{own("b", 1, "gpu=1+nic=1")}, own("a", 1, "gpu=1+nic=1"), api.ErrPlace},
		{"well on both nodes", 2, nil, own("a", 5, "gpu=2"), nil},
		{"not on one node", 3, nil, own("a", 5, ""), api.ErrPlace},
		{"on one node", 3, nil, own("a", 4, "gpu=1+nic=1"), nil},
		{"devices on two nodes", 3, nil, own("a", 1, "gpu=2"), api.ErrPlace},
		{"devices alone on two nodes", 3, nil, pod("a", 0, "x:::gpu=2"), api.ErrPlace},
		{"they would lie well, were none of them used", 2, []api.Pod{own("b", 1, ""), own("c", 3, "")}, own("a", 3, ""), api.ErrPlace},
		{"not so many devices, looked at", 2, nil, own("a", 1, "gpu=3"), api.ErrPlace},
		{"not so many devices", 1, nil, own("a", 1, "gpu=3"), api.ErrDevices},
		{"not so many devices, anyhow", 0, nil, own("a", 1, "gpu=3"), api.ErrDevices},
		{"no such device", 0, nil, own("a", 1, "tpu=1"), api.ErrDevices},
		{"the second kind", 0, nil, own("a", 1, "gpu=1+nic=2"), api.ErrDevices},
		{"the second container", 1, nil, pod("a", 0, "x:1/1:1/1:gpu=2", "y:1/1:1/1:gpu=1"), api.ErrDevices},
		{"the last container's place", 3, nil, pod("a", 0, "x:1/1:1/1:gpu=1", "y:1/1:1/1:nic=1", "z:5/1:5/1:"), api.ErrPlace},
		{"the first container's error", 1, nil, pod("a", 0, "x:1/1:1/1:nic=2", "y:1/1:1/1:"), api.ErrDevices},
	} {
		s := opened(t, under(c.policy), c.ahead...)
		before := s.shown()
		s.d.Arm(100)
		if err := s.Admit(c.p); err != c.want {
			t.Errorf("%s: %v, want %v", c.name, err, c.want)
		}
		steps := 100
		for s.d.Step() == nil {
			steps--
		}
		s.d.Restart(0, 0)
		if c.want != nil && (steps != 0 || s.shown() != before) {
			t.Errorf("%s: %d steps, %s, it was %s", c.name, steps, s.shown(), before)
		}
		if c.want == nil {
			s.sound(c.name)
		}
	}
}

// M3: behind an error all is still to be given.
func TestAdmitBehindError(t *testing.T) {
	s := opened(t, under(api.Anyhow))
	for range 20 {
		if err := s.Admit(pod("a", 0, "x:3/1:3/1:gpu=1", "y:3/1:3/1:gpu=1+nic=1", "z:1/1:1/1:nic=1")); err != api.ErrDevices {
			t.Fatal(err)
		}
	}
	if s.Shared() != 254 {
		t.Errorf("%b is shared", s.Shared())
	}
	s.admits(pod("a", 0, "x:3/1:3/1:gpu=1", "y:4/1:4/1:gpu=1+nic=1"))
	s.holds("all", "a x 1,4-5 0 y 2-3,6-7 1,2")
}

// M3: a sick device lies nowhere; one that is used lies where it is.
func TestAdmitSick(t *testing.T) {
	c := under(api.Single)
	c.Devs = append(c.Devs, api.Dev{Kind: "nic", Node: 0, Sick: true})
	s := opened(t, c)
	s.admits(own("a", 1, "nic=1"))
	s.holds("on the node of the one that is well", "a x 2 2")
	if err := s.Admit(own("b", 1, "nic=1")); err != api.ErrPlace {
		t.Error(err)
	}
	if err := s.Sick(3, false); err != nil {
		t.Error(err)
	}
	s.admits(own("b", 1, "nic=1"))
	s.holds("both", "a x 2 2; b x 4 3")
}

// M3: nodes of devices alone, and of kept processors, are places too.
func TestAdmitNodes(t *testing.T) {
	c := api.Config{CPUs: board(2, 1, 1), Keep: 2, Bytes: 9, Policy: api.Restricted, Devs: []api.Dev{{Kind: "gpu", Node: 3}, {Kind: "nic", Node: 1}}}
	s := opened(t, c, pod("a", 0, "x:::gpu=1"), pod("b", 0, "x:::nic=1"))
	s.holds("where there is no processor", "a x - 0; b x - 1")
	for _, p := range []api.Pod{pod("c", 0, "x:1/1:1/1:gpu=1"), pod("c", 0, "x:1/1:1/1:nic=1")} {
		s := opened(t, c)
		if err := s.Admit(p); err != api.ErrPlace {
			t.Errorf("%v: %v", p, err)
		}
		c := c
		c.Policy = api.Preferred
		s = opened(t, c, p)
		if got := s.Held()[0].Given[0]; got.CPUs != 1 || len(got.Devs) != 1 {
			t.Errorf("%v", got)
		}
	}
}
