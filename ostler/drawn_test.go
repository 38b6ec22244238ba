package ostler

import (
	"fmt"
	"math/rand"
	"slices"
	"strings"
	"testing"

	"ostlery/api"
	"ostlery/bits"
	"ostlery/disk"
	"ostlery/engine"
	"ostlery/save"
)

var kinds = []string{"gpu", "nic", "tpu"}

// drawnConfig: a machine that may be; cores lie anywhere.
func drawnConfig(r *rand.Rand) api.Config {
	c := api.Config{Bytes: 40 + r.Intn(200), Policy: r.Intn(4)}
	cores := make([]api.CPU, 1+r.Intn(10))
	for i, nodes, sockets := 0, 1+r.Intn(4), 1+r.Intn(4); i < len(cores); i++ {
		cores[i] = api.CPU{Core: i, Socket: r.Intn(sockets), Node: r.Intn(nodes)}
	}
	for range 1 + r.Intn(24) {
		c.CPUs = append(c.CPUs, cores[r.Intn(len(cores))])
	}
	c.Keep = api.Set(r.Uint64()) & api.Set(r.Uint64()) & (1<<len(c.CPUs) - 1)
	for range r.Intn(17) {
		c.Devs = append(c.Devs, api.Dev{Kind: kinds[r.Intn(3)], Node: r.Intn(4), Sick: r.Intn(9) == 0})
	}
	return c
}

// drawnPod: of any class, most often one that may be.
func drawnPod(r *rand.Rand) api.Pod {
	p := api.Pod{Name: drawnName(r), Prio: r.Intn(3)}
	class := r.Intn(4)
	for i := range 1 + r.Intn(3) {
		c := api.Cont{Name: "c" + string(rune('2'-i))}
		switch class {
		case 1:
			c.Ask = api.Amount{Milli: 50 * r.Intn(20), Bytes: r.Intn(10)}
			if r.Intn(2) == 0 {
				c.Cap = api.Amount{Milli: c.Ask.Milli + r.Intn(2), Bytes: c.Ask.Bytes}
			}
		case 2, 3:
			c.Ask = api.Amount{Milli: 1000*(1+r.Intn(3)) + 500*(r.Intn(6)/5), Bytes: 1 + r.Intn(10)}
			c.Cap = c.Ask
		}
		for _, k := range kinds {
			if r.Intn(5) == 0 {
				c.Devs = append(c.Devs, api.Need{Kind: k, Many: 1 + r.Intn(2)})
			}
		}
		p.Conts = append(p.Conts, c)
	}
	switch r.Intn(30) {
	case 0:
		p.Prio = -1
	case 1:
		p.Conts[0].Name = "c1"
	case 2:
		p.Conts = nil
	}
	return p
}

func drawnName(r *rand.Rand) string { return "p" + string(rune('a'+r.Intn(15))) }

func drawnUses(r *rand.Rand) []api.Use {
	var l []api.Use
	for range r.Intn(8) {
		l = append(l, api.Use{Name: drawnName(r), Bytes: r.Intn(40)})
	}
	return l
}

// drawnFile: the text of something like what is held.
func drawnFile(r *rand.Rand, l []api.Held) string {
	for range r.Intn(3) {
		if len(l) == 0 {
			break
		}
		i := r.Intn(len(l))
		k := r.Intn(len(l[i].Given))
		g, c := &l[i].Given[k], &l[i].Pod.Conts[k]
		switch r.Intn(8) {
		case 0:
			g.CPUs ^= 1 << r.Intn(26)
		case 1:
			n := r.Intn(26)
			g.CPUs = g.CPUs<<n | g.CPUs>>(26-n)
		case 2:
			g.Devs = append(g.Devs, r.Intn(16))
			slices.Sort(g.Devs)
		case 3:
			if len(g.Devs) > 0 {
				g.Devs[r.Intn(len(g.Devs))] = r.Intn(16)
			}
		case 4:
			c.Ask.Bytes += r.Intn(200)
		case 5:
			c.Ask.Milli += r.Intn(2000)
		case 6:
			c.Devs = append(c.Devs, api.Need{Kind: "zzz", Many: 1})
		case 7:
			l = slices.Delete(l, i, i+1)
		}
	}
	s, err := save.Text(l)
	if err != nil || r.Intn(9) == 0 {
		return strings.Replace(s, "1", "2", 1)
	}
	return s
}

// M1 to M5: drawn acts, held against the document's words read slowly.
func TestDrawn(t *testing.T) {
	r := rand.New(rand.NewSource(1))
	seen := map[error]int{}
	for range 800 {
		c := drawnConfig(r)
		s, m := opened(t, c), newModel(c)
		for range 30 {
			var got, want error
			var act string
			switch k := r.Intn(12); {
			case k < 6:
				p := drawnPod(r)
				act = fmt.Sprint("Admit ", p)
				got, want = s.Admit(p), m.admit(p)
			case k < 8:
				name := drawnName(r)
				act = fmt.Sprint("Remove ", name)
				got, want = s.Remove(name), m.remove(name)
			case k == 8:
				n, on := r.Intn(18)-1, r.Intn(2) == 0
				act = fmt.Sprint("Sick ", n, on)
				got, want = s.Sick(n, on), m.makeSick(n, on)
			case k == 9:
				u, most := drawnUses(r), r.Intn(60)
				act = fmt.Sprint("Press ", u, most)
				l, err := s.Press(u, most)
				if wanted := m.press(u, most); err != nil || !slices.Equal(l, wanted) {
					t.Fatalf("%s: %v %v, want %v", act, l, err, wanted)
				}
			case k == 10:
				s.d.Restart(r.Intn(3), r.Intn(3))
				act = "again"
				s.again()
				m.heal()
			default:
				act = drawnFile(r, s.Held())
				s.d.Spoil(act)
				s.again()
				m.again(act)
			}
			seen[got]++
			file, err := s.d.Read()
			if err == nil && file != written(t, m.list()) || err != nil && len(m.held) > 0 {
				t.Fatalf("%s: %q, %v is in the file", act, file, err)
			}
			if got != want || s.shown() != m.shown(file, err) {
				t.Fatalf("%v: %s: %v, want %v\n%s\n%s", c, act, got, want, s.shown(), m.shown(file, err))
			}
			s.sound(act)
			shares(s)
		}
	}
	for _, err := range []error{nil, api.ErrExist, api.ErrNone, api.ErrMany, api.ErrRoom, api.ErrPlace, api.ErrDevices, api.ErrBound} {
		if seen[err] < 20 {
			t.Errorf("%v was seen %d times alone", err, seen[err])
		}
	}
}

// shares: W1: what is nobody's own is enough for all that others ask for; W5: no container may have more than its pod.
func shares(s *stable) {
	s.t.Helper()
	others := 0
	for _, h := range s.Held() {
		for i, g := range h.Given {
			if g.CPUs == 0 {
				others += h.Pod.Conts[i].Ask.Milli
			}
		}
	}
	if others > 1000*bits.Count(s.Shared()) {
		s.t.Errorf("%d milli of %b", others, s.Shared())
	}
	groups := s.Groups()
	for _, a := range groups[2:] {
		for _, b := range groups {
			if strings.HasPrefix(b.Path, a.Path+"/") && (a.Quota >= 0 && (b.Quota < 0 || b.Quota > a.Quota) || a.Bytes > 0 && (b.Bytes == 0 || b.Bytes > a.Bytes)) {
				s.t.Errorf("%v in %v", b, a)
			}
		}
	}
}

// alike: the same machine, under another policy.
func (s *stable) alike(policy int) *stable {
	s.t.Helper()
	o := &stable{t: s.t, c: s.c, d: disk.New()}
	o.c.Policy = policy
	o.e = engine.New(o.d)
	o.d.Spoil(written(s.t, s.Held()))
	o.again()
	if told(o.Held()) != told(s.Held()) {
		s.t.Fatalf("%s, want %s", told(o.Held()), told(s.Held()))
	}
	return o
}

// nodesOf: where what a container was given lies.
func nodesOf(c api.Config, g api.Given) (on api.Mask) {
	for _, n := range bits.List(g.CPUs) {
		on |= 1 << c.CPUs[n].Node
	}
	for _, n := range g.Devs {
		on |= 1 << c.Devs[n].Node
	}
	return on
}

// W2, W3: whom which policy lets in, and where; who goes leaves the machine as it was.
func TestPolicies(t *testing.T) {
	r := rand.New(rand.NewSource(2))
	in := [4]int{}
	for range 1500 {
		c := drawnConfig(r)
		c.Policy = api.Anyhow
		s := opened(t, c)
		for range 8 {
			s.Admit(drawnPod(r))
		}
		p := drawnPod(r)
		if len(p.Conts) == 0 {
			continue
		}
		p.Name = "q" // it is not held
		looser := error(nil)
		for policy := range 4 {
			o := s.alike(policy)
			before := o.shown()
			err := o.Admit(p)
			if err == nil && looser != nil {
				t.Fatalf("%v: %v is let in under %d alone", c, p, policy)
			}
			looser = err
			if !slices.ContainsFunc(p.Conts, func(x api.Cont) bool { return x.Ask.Milli%1000 == 0 && x.Ask.Milli > 0 || x.Devs != nil }) && err == api.ErrPlace {
				t.Fatalf("%v need not lie anywhere", p)
			}
			if err != nil {
				continue
			}
			in[policy]++
			at, _ := find(o.held, "q")
			for _, g := range o.Held()[at].Given {
				if on := nodesOf(c, g); policy == api.Single && on&(on-1) != 0 {
					t.Fatalf("%v: %v lies on %b", c, g, on)
				}
			}
			o.sound("in")
			if err := o.Remove("q"); err != nil || o.shown() != before {
				t.Fatalf("%v: %s, it was %s", err, o.shown(), before)
			}
		}
	}
	if in[0] < 300 || in[3] < 100 || in[3] >= in[1] {
		t.Errorf("%v are let in", in)
	}
}

// W3: who asks for what is left is let in, who asks for more is not.
func TestRoom(t *testing.T) {
	r := rand.New(rand.NewSource(3))
	for range 1500 {
		s := opened(t, drawnConfig(r))
		for range 6 {
			s.Admit(drawnPod(r))
		}
		milli, bytes := 1000*(len(s.c.CPUs)-bits.Count(s.c.Keep)), s.c.Bytes
		for _, h := range s.Held() {
			for _, c := range h.Pod.Conts {
				milli, bytes = milli-c.Ask.Milli, bytes-c.Ask.Bytes
			}
		}
		for _, c := range []struct {
			ask  api.Amount
			want error
		}{
			{api.Amount{Milli: milli + 1, Bytes: bytes}, api.ErrRoom},
			{api.Amount{Milli: milli, Bytes: bytes + 1}, api.ErrRoom},
			{api.Amount{Milli: milli, Bytes: bytes}, nil},
		} {
			if err := s.Admit(api.Pod{Name: "q", Conts: []api.Cont{{Name: "x", Ask: c.ask}}}); err != c.want {
				t.Fatalf("%v: %v, want %v", c.ask, err, c.want)
			}
		}
		s.sound("full")
	}
}
