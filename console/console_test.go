package console

import (
	"fmt"
	"slices"
	"strings"
	"testing"

	"ostlery/api"
)

// The document's section 'Examples'.
const examples = `
held => error 13
device gpu 0 => ok
device gpu 1 => ok
device nic 1 => ok
machine 2 2 2 2 1Gi 0 => ok
shared => 1-7
admit web 5 x:2/64Mi:2/64Mi:gpu=1 => ok
held => web x 1,5 0
shared => 2-4,6-7
admit job 1 y:500m/32Mi:: => ok
admit low 0 z::: => ok
groups => /mid 512 -1 0; /low 2 -1 0; /mid/job 512 -1 0; /mid/job/y 512 -1 0; /low/low 2 -1 0; /low/low/z 2 -1 0; /web 2048 200000 67108864; /web/x 2048 200000 67108864
running => job y - -; low z - -; web x 1,5 0
admit big 9 x:3/16Mi:3/16Mi:gpu=1+nic=1 => ok
admit fit 9 x:2/16Mi:2/16Mi:gpu=1+nic=1 => error 7
held => big x 2-3,6 1,2; job y - -; low z - -; web x 1,5 0
shared => 4,7
sick 0 => ok
remove web => ok
admit web 5 x:1/1Mi:1/1Mi:gpu=1 => error 10
well 0 => ok
admit web 5 x:1/1Mi:1/1Mi:gpu=1 => ok
held => big x 2-3,6 1,2; job y - -; low z - -; web x 4 0
admit huge 1 x:8/1Mi:8/1Mi: => error 7
admit a 1 x:1.5/1Mi:1/1Mi: => error 3
admit web 1 x::: => error 5
press 64Mi job=60Mi web=10Mi fit=16Mi low=1Mi => low job
held => big x 2-3,6 1,2; web x 4 0
restart 0 0 => ok
held => big x 2-3,6 1,2; web x 4 0
arm 2 => ok
admit new 3 x:1/1Mi:1/1Mi: => error 11
restart 2 0 => ok
held => big x 2-3,6 1,2; web x 4 0
running => big x 2-3,6 1,2; web x 4 0
remove new => error 6
remove new => error 6
admit x => error 4
fly high => error 4
`

// N1, N2: the document's example; each line is answered alike, whatever comes behind it.
func TestExamples(t *testing.T) {
	talk(t, examples)
	lines, want := script(examples)
	for i := range lines {
		if got := run(t, lines[:i+1]...); !slices.Equal(got, want[:i+1]) {
			t.Errorf("%d lines: %q", i+1, got)
		}
	}
}

// N1: MaxLines are answered, one more is ErrMany.
func TestManyLines(t *testing.T) {
	if l, err := Run(nil); len(l) != 0 || err != nil {
		t.Errorf("no lines: %q, %v", l, err)
	}
	if l, err := Run([]string{}); len(l) != 0 || err != nil {
		t.Errorf("no lines: %q, %v", l, err)
	}
	lines := slices.Repeat([]string{"held"}, api.MaxLines)
	if l := run(t, lines...); !slices.Equal(l, slices.Repeat([]string{"error 13"}, api.MaxLines)) {
		t.Errorf("MaxLines: %q", l)
	}
	for _, more := range []string{"held", "", "device gpu 0"} {
		if l, err := Run(append(slices.Clone(lines), more)); len(l) != 0 || err != api.ErrMany {
			t.Errorf("one line more: %q, %v", l, err)
		}
	}
	if l, err := Run(make([]string, 100000)); len(l) != 0 || err != api.ErrMany {
		t.Errorf("many lines: %d answers, %v", len(l), err)
	}
}

// N1, N2: MaxLine bytes of a line are read, one more is error 4, also while there is no machine.
func TestLongLines(t *testing.T) {
	fits := "press 1Gi aaaa=1" + strings.Repeat(" a=1", 71)
	if len(fits) != api.MaxLine {
		t.Fatalf("%d bytes", len(fits))
	}
	over := fits + "0"
	begun := "machine 1 1 1 0 1Gi -"
	if l := run(t, begun, fits, over); l[1] != "-" || l[2] != "error 4" {
		t.Errorf("%d and %d bytes: %q", len(fits), len(over), l)
	}
	if l := run(t, fits, over); l[0] != "error 13" || l[1] != "error 4" {
		t.Errorf("no machine: %q", l)
	}
	wide := strings.Repeat("\u00e9", 150) // bytes are counted, not letters
	if l := run(t, wide, wide+"\u00e9", wide+"x"); l[0] != "error 13" || l[1] != "error 4" || l[2] != "error 4" {
		t.Errorf("of two bytes each: %q", l)
	}
	for _, size := range []int{301, 302, 1000, 1 << 20} {
		for _, s := range []string{"device ", "machine ", "admit ", "held", ""} {
			line := s + strings.Repeat("x", size-len(s))
			noTrace(t, busy(), line, "error 4")
			noTrace(t, nil, line, "error 4")
		}
	}
	name := "device " + strings.Repeat("x", 291) + " 0" // of just MaxLine bytes it is the kind that is wrong
	if l := run(t, name, name+"0"); len(name) != api.MaxLine || l[0] != "error 3" || l[1] != "error 4" {
		t.Errorf("device: %q", l)
	}
}

// every line that a machine answers without an error, if there is one that is busy.
func everyLine() []string {
	return []string{
		"admit new 1 x:::", "remove web", "sick 0", "well 2", "press 1Mi job=32Mi", "held", "running", "groups", "shared", "arm 1", "restart 0 0",
	}
}

// N2: while there is no machine every other line than device and machine is error 13, whatever is wrong with it.
func TestNoMachine(t *testing.T) {
	lines := append(everyLine(), "", " ", "fly", "fly high", "admit", "admit a", "admit a 01 x:::", "remove", "sick x", "press x", "held now",
		"restart 1", "arm", " device gpu 0", " machine 1 1 1 0 1 -", "Device gpu 0", "devices gpu 0", "machines 1 1 1 0 1 -", "\x00", "\xff\xfe")
	for _, line := range lines {
		noTrace(t, nil, line, "error 13")
		noTrace(t, []string{"device gpu 0", "machine 0 1 1 0 1 -", "device gpu 1"}, line, "error 13")
	}
	for _, line := range everyLine() {
		if l := run(t, append(busy(), line)...); strings.HasPrefix(l[len(l)-1], "error") {
			t.Errorf("%q, with a machine: %s", line, l[len(l)-1])
		}
	}
}

// N1: a device is there for machines that are begun behind it, and for no other ones.
func TestDevice(t *testing.T) {
	talk(t, `
	device gpu 0 => ok
	machine 1 2 1 0 1Gi - => ok
	sick 0 => ok
	sick 1 => error 1
	device nic 3 => ok
	sick 1 => error 1
	admit a 1 x:::nic=1 => error 9
	restart 0 0 => ok
	sick 1 => error 1
	admit a 1 x:::gpu=1 => ok
	device a2345678 2 => ok
	machine 1 2 1 0 1Gi - => ok
	held => -
	sick 2 => ok
	sick 3 => error 1
	admit a 1 x:::gpu=1+nic=1 => ok
	held => a x - 0,1
	admit b 1 x:::a2345678=1 => error 9
	well 2 => ok
	admit b 1 x:::a2345678=1 => ok
	held => a x - 0,1; b x - 2
	`)
	var lines []string
	for i := range api.MaxDevices {
		lines = append(lines, fmt.Sprint("device gpu ", i%api.MaxNodes))
	}
	lines = append(lines, "device gpu 0", "device A 9", "machine 1 1 1 0 1 -", "sick 15", "sick 16")
	if got := strings.Join(run(t, lines...), " "); got != strings.Repeat("ok ", 16)+"error 2 error 2 ok ok error 1" {
		t.Errorf("MaxDevices: %s", got)
	}
}

// N1: of a machine each processor lies where the document says.
func TestLay(t *testing.T) {
	for sockets := 1; sockets <= 4; sockets++ {
		for cores := 1; cores <= 5; cores++ {
			for threads := 1; threads <= 3; threads++ {
				l := lay(sockets, cores, threads)
				if len(l) != sockets*cores*threads {
					t.Fatalf("%d %d %d: %d processors", sockets, cores, threads, len(l))
				}
				for c := range sockets * cores {
					for k := range threads {
						want := api.CPU{Core: c, Socket: c / cores, Node: c / cores}
						if got := l[k*sockets*cores+c]; got != want {
							t.Errorf("%d %d %d: %d of %d: %v", sockets, cores, threads, k, c, got)
						}
					}
				}
			}
		}
	}
}

// N1: where processors lie is seen in what is given.
func TestPlaces(t *testing.T) {
	talk(t, `
	machine 2 3 2 3 1Gi - => ok
	shared => 0-11
	admit a 1 x:1/1:1/1: => ok
	admit b 1 x:6/1:6/1: => ok
	admit c 1 x:2/1:2/1: => ok
	held => a x 0 -; b x 3-5,9-11 -; c x 1,7 -
	admit d 1 x:1/1:1/1: y:2/1:2/1: => ok
	held => a x 0 -; b x 3-5,9-11 -; c x 1,7 -; d x 6 - y 2,8 -
	shared => -
	machine 3 1 4 0 1Gi - => ok
	admit a 1 x:4/1:4/1: => ok
	held => a x 0,3,6,9 -
	machine 1 4 2 0 1Gi - => ok
	admit a 1 x:2/1:2/1: y:3/1:3/1: => ok
	held => a x 0,4 - y 1-2,5 -
	device gpu 1 => ok
	machine 2 1 2 3 1Gi 3 => ok
	admit a 1 x:1/1:1/1:gpu=1 => ok
	admit b 1 x:1/1:1/1:gpu=1 => error 10
	held => a x 1 0
	`)
}

// N1: a machine is a new one each time, as great as it may be, with what it keeps.
func TestMachine(t *testing.T) {
	talk(t, `
	machine 1 1 1 0 0 - => ok
	shared => 0
	machine 4 16 1 3 1024Ti 0-63 => ok
	shared => -
	machine 4 4 4 1 1024Ti 5,1-3,2 => ok
	shared => 0,4,6-63
	machine 1 64 1 0 1Gi 63 => ok
	shared => 0-62
	machine 1 1 64 0 1Gi 0 => ok
	shared => 1-63
	admit a 1 x:1/1:1/1: => ok
	sick 0 => error 1
	device gpu 0 => ok
	machine 1 2 1 0 1Gi - => ok
	held => -
	running => -
	groups => /mid 2 -1 0; /low 2 -1 0
	shared => 0-1
	sick 0 => ok
	admit a 1 x:::gpu=1 => error 9
	restart 0 0 => ok
	held => -
	admit a 1 x:::gpu=1 => ok
	sick 0 => ok
	restart 0 0 => ok
	held => a x - 0
	machine 1 2 1 0 1Gi - => ok
	held => -
	restart 9999 9999 => ok
	held => -
	running => -
	machine 1 2 1 0 10 - => ok
	admit a 1 x:0/10:: => ok
	admit b 1 x:0/1:: => error 7
	machine 1 2 1 0 1 - => ok
	admit a 1 x:0/2:: => error 7
	machine 1 2 1 0 1  => ok
	shared => 0-1
	`)
}

// N1: policies 0 to 3 are what package api says.
func TestPolicies(t *testing.T) {
	for policy, want := range []string{"ok", "ok", "ok", "error 10"} {
		l := run(t, "device gpu 0", "device gpu 1", fmt.Sprintf("machine 2 2 1 %d 1Gi -", policy), "admit a 1 x:3/1:3/1:gpu=2")
		if l[2] != "ok" || l[3] != want {
			t.Errorf("policy %d: %q", policy, l)
		}
	}
	for policy, want := range []string{"ok", "ok", "error 10", "error 10"} {
		l := run(t, "device gpu 0", fmt.Sprintf("machine 2 1 1 %d 1Gi 0", policy), "admit a 1 x:1/1:1/1:gpu=1")
		if l[1] != "ok" || l[2] != want {
			t.Errorf("policy %d, apart: %q", policy, l)
		}
	}
}

// N1: a pod's words, with all that may stand in them.
func TestAdmit(t *testing.T) {
	talk(t, `
	device gpu 0 => ok
	device gpu 0 => ok
	device nic 0 => ok
	device tpu 0 => ok
	machine 1 8 1 0 1Ti - => ok
	admit a 0 x::: => ok
	admit b2345678 1000 x:500m/0:1.5/0: y:0/1Ki:: z::/: => error 4
	admit b2345678 1000 x:500m/0:1.5/0: y:0/1Ki:: z::0/2Mi: => ok
	admit c 3 x:1/1:1/1:gpu=1+nic=1+tpu=1 y:2/1:2/1:gpu=1 => ok
	held => a x - -; b2345678 x - - y - - z - -; c x 0 0,2,3 y 1-2 1
	groups => /mid 512 -1 0; /low 2 -1 0; /low/a 2 -1 0; /low/a/x 2 -1 0; /mid/b2345678 512 -1 0; /mid/b2345678/x 512 150000 0; /mid/b2345678/y 2 -1 0; /mid/b2345678/z 2 -1 2097152; /c 3072 300000 2; /c/x 1024 100000 1; /c/y 2048 200000 1
	running => a x - -; b2345678 x - -; b2345678 y - -; b2345678 z - -; c x 0 0,2,3; c y 1-2 1
	shared => 3-7
	admit d 1 x:0.001/1Gi:: => ok
	admit e 1 x:4.499/1Gi:: => ok
	admit f 1 x:1m/0:: => error 7
	admit f 1 x:0m/0:: => ok
	admit g 1 x:0/1Ti:: => error 7
	remove e => ok
	remove d => ok
	admit g 1 x:0/1023Gi:: => ok
	remove g => ok
	admit x x x::: => error 4
	admit x 1 x::: x::: => error 5
	`)
}

// N1, M3: MaxPods are taken in, and no more.
func TestFull(t *testing.T) {
	lines := []string{"machine 1 1 1 0 1 -"}
	want := []string{"ok"}
	for i := range api.MaxPods {
		lines = append(lines, fmt.Sprintf("admit p%d 1 x:::", i))
		want = append(want, "ok")
	}
	lines = append(lines, "admit q 1 x:::", "remove p0", "admit q 1 x:::")
	want = append(want, "error 2", "ok", "ok")
	if got := run(t, lines...); !slices.Equal(got, want) {
		t.Errorf("%q", got)
	}
}

// N1: press tells who goes, in order; uses may be few, none, or of somebody who isn't there.
func TestPress(t *testing.T) {
	talk(t, `
	machine 1 4 1 0 1Gi - => ok
	press 0 => -
	admit a 2 x:0/10:: => ok
	admit b 1 x:0/10:: => ok
	admit c 1 x::: => ok
	press 1024Ti a=1Gi b=1Gi => -
	press 0 => -
	press 60 a=20 b=20 c=20 => -
	press 59 z=5 a=20 b=20 a=1 => -
	press 59 a=20 b=20 c=20 z=9 => c
	held => a x - -; b x - -
	admit c 1 x::: => ok
	press 20 c=19 a=5 b=11 => c
	admit c 1 x::: => ok
	press 0 a=11 b=1Ki c=1 => b c a
	held => -
	running => -
	groups => /mid 2 -1 0; /low 2 -1 0
	press 0 a=11 => -
	admit a 2 x::: => ok
	press 0 =1 A!=1 => -
	press 0 a=1 a=0 => a
	admit a 2 x::: => ok
	press 0 a=0 a=1 => -
	`)
}

// N1: restart, without anything that is armed, keeps what is held; devices are well again.
func TestRestart(t *testing.T) {
	numbers := []string{"-1", "0", "1", "2", "9999"}
	want := run(t, append(busy(), "held", "running", "groups", "shared", "admit b 1 x:1/1:1/1:nic=1")...)[len(busy()):]
	if want[4] != "error 10" {
		t.Fatalf("device 2 is sick: %q", want)
	}
	want[4] = "ok"
	for _, keep := range numbers {
		for _, torn := range numbers {
			line := "restart " + keep + " " + torn
			l := run(t, append(busy(), line, line, "held", "running", "groups", "shared", "admit b 1 x:1/1:1/1:nic=1")...)[len(busy()):]
			if l[0] != "ok" || l[1] != "ok" || !slices.Equal(l[2:], want) {
				t.Errorf("%s: %q, want %q", line, l, want)
			}
		}
	}
}

// N1: of what a fall left unkept restart keeps as many changes as its first number says: here the move of the draft.
func TestRestartKeeps(t *testing.T) {
	for _, c := range []struct{ line, held string }{
		{"restart 0 1", "-"}, {"restart -1 9999", "-"}, {"restart 1 0", "a x - -"}, {"restart 9999 -1", "a x - -"},
	} {
		l := run(t, "machine 1 1 1 0 1 -", "arm 3", "admit a 1 x:::", c.line, "held", "running")
		if l[2] != "error 11" || l[3] != "ok" || l[4] != c.held || l[5] != c.held {
			t.Errorf("%s: %q", c.line, l)
		}
	}
	l := run(t, "machine 1 1 1 0 1 -", "arm 0", "arm -1", "admit a 1 x:::", "arm 0", "machine 1 1 1 0 1 -", "admit a 1 x:::", "held")
	if !slices.Equal(l, []string{"ok", "ok", "ok", "ok", "ok", "ok", "ok", "a x - -"}) {
		t.Errorf("armed no more: %q", l)
	}
}

// N1, N2: every error that lines may have is told by its number.
func TestErrorNumbers(t *testing.T) {
	l := run(t, append(busy(), "sick 3", "admit d 1 x::: y::: z::: w:::", "admit A 1 x:::", "fly", "admit web 1 x:::", "remove d",
		"admit d 1 x:9/1:9/1:", "machine 1 1 1 0 1 -", "admit d 1 x:::gpu=3", "machine 2 1 1 3 1Gi -", "admit d 1 x:2/1:2/1:", "arm 0", "admit d 1 x:::")...)[len(busy()):]
	if got := strings.Join(l, " "); got != "error 1 error 2 error 3 error 4 error 5 error 6 error 7 ok error 9 ok error 10 ok error 11" {
		t.Error(got)
	}
	for n := api.OK; n <= api.ErrState; n++ {
		if got := errorText(n); got != fmt.Sprintf("error %d", int(n)) {
			t.Errorf("%d: %s", n, got)
		}
	}
}
