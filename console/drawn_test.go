package console

import (
	"fmt"
	"math/rand"
	"slices"
	"strings"
	"testing"

	"ostlery/api"
)

// one of some.
func one(r *rand.Rand, l ...string) string { return l[r.Intn(len(l))] }

// often: mostly the first, now and then one of the others.
func often(r *rand.Rand, first string, others ...string) string {
	if len(others) == 0 || r.Intn(8) > 0 {
		return first
	}
	return one(r, others...)
}

// drawnName of a pod.
func drawnName(r *rand.Rand) string {
	return often(r, one(r, "a", "b", "web", "job2"), "A", "", "toolongname", "a!", "-")
}

// drawnNumber up to most, or something else.
func drawnNumber(r *rand.Rand, most int) string {
	return often(r, fmt.Sprint(r.Intn(most+1)), "-1", "-2", "01", "x", "", "9999", "10000", "-0")
}

// drawnBytes: how many, or something else.
func drawnBytes(r *rand.Rand) string {
	return often(r, one(r, "0", "1", "10", "60", "1Ki", "3Mi", "1Gi"), "x", "1025Ti", "1024Ti", "01", "", "-1", "1K")
}

// drawnAmount, or something else.
func drawnAmount(r *rand.Rand) string {
	whole := one(r, "1", "2", "3", "500m", "1.5", "0")
	return often(r, one(r, "", whole+"/"+one(r, "1", "10", "1Ki", "0")), "1", "1001/1", "1/1025Ti", "x/1", "1/x", "/", "1/1/1", "1001/x", "x/1025Ti")
}

// drawnNeeds, or something else.
func drawnNeeds(r *rand.Rand) string {
	return often(r, one(r, "", "gpu=1", "gpu=2", "nic=1", "gpu=1+nic=1"), "gpu", "gpu=", "gpu=x", "=1", "nic=1+gpu=1", "gpu=0", "gpu=17", "gpu=-1", "gpu=1+", "+", "A=1", "gpu=10000", "gpu=1=1")
}

// drawnCont, or something else.
func drawnCont(r *rand.Rand) string {
	ask := drawnAmount(r)
	parts := []string{often(r, one(r, "x", "y", "z"), "X", ""), ask, one(r, ask, ask, "", drawnAmount(r)), drawnNeeds(r)}
	return often(r, strings.Join(parts, ":"), "x", "x::", "x::::", "", "x:1:1:gpu=1")
}

// drawnLine of some kind, mostly one that may be.
func drawnLine(r *rand.Rand) string {
	words := []string{}
	switch r.Intn(16) {
	case 0, 1, 2, 3, 4:
		words = append(words, "admit", drawnName(r), drawnNumber(r, 5))
		for range 1 + r.Intn(6)/3 {
			words = append(words, drawnCont(r))
		}
	case 5, 6:
		words = append(words, "remove", drawnName(r))
	case 7, 8:
		words = append(words, one(r, "sick", "well"), drawnNumber(r, 3))
	case 9, 10:
		words = append(words, "press", drawnBytes(r))
		for range r.Intn(4) {
			words = append(words, often(r, drawnName(r)+"="+drawnBytes(r), "a", "=", "a=1=1", ""))
		}
	case 11:
		words = append(words, "restart", drawnNumber(r, 3), drawnNumber(r, 9))
	case 12:
		words = append(words, "device", often(r, one(r, "gpu", "nic"), "A", "", "cpu"), drawnNumber(r, 2))
	case 13:
		words = append(words, drawnMachine(r))
	default:
		return one(r, "held", "running", "groups", "shared")
	}
	return strings.Join(words, " ")
}

// drawnMachine, or something else.
func drawnMachine(r *rand.Rand) string {
	size := []string{"machine"}
	for range 3 {
		size = append(size, often(r, fmt.Sprint(1+r.Intn(3)), drawnNumber(r, 40)))
	}
	return strings.Join(append(size, drawnNumber(r, 4), often(r, "1Gi", drawnBytes(r)), often(r, one(r, "-", "0", "0-1"), "", "63", "64", "x", "1,0", "1-0", "0,")), " ")
}

// bent: a line with something wrong in it.
func bent(r *rand.Rand, s string) string {
	i := r.Intn(len(s) + 1)
	switch r.Intn(6) {
	case 0:
		return s[:i] + one(r, " ", ":", "/", "=", "+", "-", "0", "x", ",", "\t", "\n", "\x00", "\xff") + s[i:]
	case 1:
		return s[:i]
	case 2:
		return s[i:]
	case 3:
		return s + " " + one(r, s, "x", "", "0")
	case 4:
		return strings.Replace(s, one(r, " ", ":", "/", "=", "+"), one(r, "", " ", "  ", ":", "="), 1)
	default:
		j := r.Intn(len(s) + 1)
		return s[:min(i, j)] + s[max(i, j):]
	}
}

// drawnSession: devices, a machine, and what comes to it; no line that arms.
func drawnSession(r *rand.Rand) []string {
	var lines []string
	devs := r.Intn(5)
	if r.Intn(10) == 0 {
		devs = api.MaxDevices
	}
	for range devs {
		lines = append(lines, "device "+one(r, "gpu", "nic")+" "+one(r, "0", "1", "2"))
	}
	if r.Intn(20) > 0 {
		lines = append(lines, fmt.Sprintf("machine %d %d %d %d 1Gi %s", 1+r.Intn(2), 1+r.Intn(3), 1+r.Intn(2), r.Intn(4), one(r, "-", "0")))
	}
	for len(lines) < api.MaxLines {
		line := drawnLine(r)
		if r.Intn(12) == 0 {
			line = bent(r, line)
		}
		lines = append(lines, line)
	}
	return lines
}

// N1, N2: drawn lines are answered as by the model.
func TestDrawn(t *testing.T) {
	r := rand.New(rand.NewSource(13))
	seen := map[string]int{}
	for range 1500 {
		lines := drawnSession(r)
		got := run(t, lines...)
		var m model
		for i, line := range lines {
			want := m.answer(line)
			if got[i] != want {
				t.Fatalf("%q: line %d %q => %s, want %s", lines[:i], i, line, got[i], want)
			}
			seen[strings.SplitN(line, " ", 2)[0]+" "+kindOf(want)]++
		}
	}
	for _, s := range strings.Split("admit ok,admit error 1,admit error 2,admit error 3,admit error 4,admit error 5,admit error 7,admit error 9,admit error 10,admit error 13,remove ok,remove error 6,sick ok,well ok,sick error 1,press -,press told,press error 4,press error 1,held -,held told,running -,running told,groups told,shared -,shared told,restart ok,restart error 4,device ok,device error 1,device error 2,device error 3,device error 4,machine ok,machine error 1,machine error 4", ",") {
		if seen[s] < 5 {
			t.Errorf("drawn too seldom: %s: %d", s, seen[s])
		}
	}
}

// kindOf an answer.
func kindOf(s string) string {
	if s == "ok" || s == "-" || strings.HasPrefix(s, "error ") {
		return s
	}
	return "told"
}

// N2, Z1: also from an arm on each line is answered, and so it is for any bytes.
func TestAnything(t *testing.T) {
	r := rand.New(rand.NewSource(1313))
	for range 1500 {
		lines := drawnSession(r)
		for range 5 {
			lines[r.Intn(len(lines))] = "arm " + drawnNumber(r, 12)
		}
		for range 3 {
			b := make([]byte, r.Intn(320))
			for i := range b {
				b[i] = byte(r.Intn(256))
			}
			lines[r.Intn(len(lines))] = string(b)
		}
		kept := slices.Clone(lines)
		got := run(t, lines...)
		if slices.Contains(got, "") {
			t.Fatalf("%q: %q", lines, got)
		}
		// Z2: lines stay as they are, and the answers hang on them alone.
		if !slices.Equal(lines, kept) {
			t.Fatalf("%q became %q", kept, lines)
		}
		if again := run(t, lines...); !slices.Equal(got, again) {
			t.Fatalf("%q: %q, then %q", lines, got, again)
		}
	}
}

// Z2: what stands behind the lines in memory is not read, and the answers are the caller's.
func TestLists(t *testing.T) {
	lines, _ := script(examples)
	want := run(t, lines...)
	space := append(slices.Clone(lines), slices.Repeat([]string{"remove web"}, 100)...)
	got := run(t, space[:len(lines)]...)
	if !slices.Equal(got, want) {
		t.Errorf("with lines behind: %q", got)
	}
	for i := range got {
		got[i] = "spoilt"
	}
	_ = append(got, "spoilt")
	if again := run(t, lines...); !slices.Equal(again, want) {
		t.Errorf("again: %q", again)
	}
}

// Z1: any line, behind others, ends, and is answered.
func FuzzRun(f *testing.F) {
	for _, w := range wrong {
		for _, line := range w.lines {
			f.Add(line)
		}
	}
	lines, _ := script(examples)
	for _, line := range lines {
		f.Add(line)
	}
	f.Fuzz(func(t *testing.T, line string) {
		all := append(busy(), line, "held", "groups")
		got := run(t, all...)
		if strings.HasPrefix(line, "arm") {
			return
		}
		var m model
		for i, s := range all {
			if want := m.answer(s); got[i] != want {
				t.Errorf("%q => %s, want %s", s, got[i], want)
			}
		}
	})
}
