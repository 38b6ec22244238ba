package console

import (
	"fmt"
	"slices"
	"strings"
	"testing"
)

// wrong lines, if there is a machine that is busy: which error is told.
var wrong = []struct {
	want  int
	lines []string
}{
	// N2: none of these.
	{4, []string{"", " ", "  ", "fly", "fly high", "ok", "error 4", "-", "hel", "heldx", "HELD", "Held", "\theld", "held\t", "held\n", "held\r", "\x00held", "held\x00", "\xff", "h\u00e9ld"}},
	// N1: words have one blank between, none ahead and none behind.
	{4, []string{" held", "held ", "held  ", "held now", "running ", "running 1", "groups ", "groups 0", "shared ", "shared -"}},
	{4, []string{" remove web", "remove  web", "remove web ", "remove\tweb", "remove\u00a0web"}},
	{4, []string{" admit a 1 x:::", "admit  a 1 x:::", "admit a  1 x:::", "admit a 1  x:::", "admit a 1 x::: ", "admit a 1 x:::  y:::", "admit a\t1 x:::", "admit\ta\t1\tx:::"}},
	{4, []string{" sick 0", "sick  0", "sick 0 ", "sick\t0", " well 0", "well  0", "well 0 ", " restart 0 0", "restart  0 0", "restart 0  0", "restart 0 0 ", " arm 1", "arm  1", "arm 1 "}},
	{4, []string{" press 1", "press  1", "press 1 ", "press 1  a=1", "press 1 a=1 ", "press 1 a =1", "press 1 a= 1", "press\t1"}},
	{4, []string{" device gpu 0", "device  gpu 0", "device gpu  0", "device gpu 0 ", "device gpu\t0"}},
	{4, []string{" machine 1 1 1 0 1 -", "machine  1 1 1 0 1 -", "machine 1  1 1 0 1 -", "machine 1 1 1 0  1 -", "machine 1 1 1 0 1 - ", "machine 1 1 1 0 1  -"}},
	// As many words as there are, no fewer and no more.
	{4, []string{"device", "device gpu", "device gpu 0 0", "device 0", "device A", "machine", "machine 1", "machine 1 1", "machine 1 1 1", "machine 1 1 1 0", "machine 1 1 1 0 1", "machine 1 1 1 0 1 - -", "machine 0", "machine 0 0 0 0 0"}},
	{4, []string{"admit", "admit a", "admit web", "admit A", "remove", "remove web low", "remove web -", "sick", "sick 0 1", "sick 9 9", "well", "well 0 1", "press", "arm", "arm 1 1", "restart", "restart 0", "restart 0 0 0"}},
	// Where there is nothing between two blanks a word is without bytes: no number, no container, no use.
	{4, []string{"device gpu ", "sick ", "well ", "arm ", "restart  ", "restart 0 ", "press ", "press  a=1", "machine  1 1 0 1 -", "machine 1 1 1  1 -", "machine 1 1 1 0  -", "admit a ", "admit a  x:::", "admit a 1 "}},
	// No name has no bytes: what is told of other texts that are no names.
	{3, []string{"device  0", "admit  1 x:::", "admit a 1 :::", "admit a 1 x:::=1"}},
	{6, []string{"remove "}},
	// device: F1's errors of all.
	{3, []string{"device A 0", "device 1 0", "device a! 0", "device a23456789 0", "device A 9", "device - 0"}},
	{1, []string{"device gpu 4", "device gpu -1", "device gpu 9999", "device a2345678 4"}},
	{4, []string{"device A x", "device A 10000"}},
	// machine: the first three, multiplied.
	{1, []string{"machine 0 1 1 0 1 -", "machine 1 0 1 0 1 -", "machine 1 1 0 0 1 -", "machine -1 1 1 0 1 -", "machine 1 -1 1 0 1 -", "machine 1 1 -1 0 1 -", "machine -1 -1 1 0 1 -", "machine 1 -1 -1 0 1 -", "machine 0 0 0 0 1 -"}},
	{1, []string{"machine 1 65 1 0 1 -", "machine 65 1 1 0 1 -", "machine 1 1 65 0 1 -", "machine 5 13 1 0 1 -", "machine 4 4 5 0 1 -", "machine 9999 9999 9999 0 1 -", "machine 9999 1 1 0 1 -"}},
	{4, []string{"machine x 1 1 0 1 -", "machine 1 x 1 0 1 -", "machine 1 1 x 0 1 -", "machine 1 1 1 x 1 -", "machine 0 1 1 x 1 -", "machine 1 1 10000 0 1 -", "machine 1 1 1 0.5 1 -"}},
	// Of several errors of a machine the one named first: bounds, bytes, what is kept, the config's.
	{1, []string{"machine 0 1 1 0 x -", "machine 0 1 1 0 x x", "machine 65 1 1 9 x x", "machine 1 1 1 0 1025Ti x", "machine 1 1 1 9 1025Ti x"}},
	{4, []string{"machine 1 1 1 0 x 64", "machine 1 1 1 9 x 64", "machine 1 1 1 9 1 x", "machine 5 1 1 0 1 x", "machine 1 1 1 0 x -", "machine 1 1 1 0 -1 -", "machine 1 1 1 0 01 -", "machine 1 1 1 0 1K -", "machine 1 1 1 0 1Pi -", "machine 1 1 1 0 12345678901234567 -"}},
	{1, []string{"machine 1 1 1 0 1125899906842625 -", "machine 1 1 1 0 1025Ti -", "machine 1 1 1 0 1 64", "machine 1 1 1 0 1 0-64", "machine 1 1 1 0 1 99999", "machine 1 1 1 0 1 0,64,x"}},
	{4, []string{"machine 1 1 1 0 1 x", "machine 1 1 1 0 1 1-0", "machine 1 1 1 0 1 00", "machine 1 1 1 0 1 --", "machine 1 1 1 0 1 0,", "machine 1 1 1 0 1 ,", "machine 1 1 1 0 1 -1", "machine 1 1 1 0 1 0-", "machine 1 1 1 0 1 -,0", "machine 1 1 1 0 1 x,64"}},
	{1, []string{"machine 1 1 1 4 1 -", "machine 1 1 1 -1 1 -", "machine 1 1 1 9999 1 -", "machine 5 1 1 0 1 -", "machine 1 1 1 0 1 1", "machine 2 2 2 0 1 8", "machine 2 2 2 0 1 0-63"}},
	// admit: numbers and containers that can't be read.
	{4, []string{"admit a x x:::", "admit a 01 x:::", "admit a -2 x:::", "admit a 10000 x:::", "admit a 1.0 x:::", "admit a x:::", "admit a x::: 1", "admit A x x:::", "admit web x x:::"}},
	{4, []string{"admit a 1 x", "admit a 1 x:", "admit a 1 x::", "admit a 1 x::::", "admit a 1 x:::gpu=1:", "admit a 1 x::: y", "admit a 1 x y:::", "admit A 1 x", "admit web 1 x", "admit a 1 x::: y::: z::: w"}},
	{4, []string{"admit a 1 x:1::", "admit a 1 x:/::", "admit a 1 x:1/::", "admit a 1 x:/1::", "admit a 1 x::1:", "admit a 1 x::/:", "admit a 1 x::1/:", "admit a 1 x::/1:", "admit a 1 x:1/1/1::", "admit a 1 x:-/-::", "admit a 1 x:-1/1::", "admit a 1 x:1/-1::", "admit a 1 x:01/1::", "admit a 1 x:1/01::", "admit a 1 x:1K/1::", "admit a 1 x:1/1m::", "admit a 1 x:1.0000/1::", "admit a 1 x:1234567890m/1::", "admit a 1 x:1/12345678901234567::", "admit a 1 x:1000001000m::"}},
	{4, []string{"admit a 1 x:::gpu", "admit a 1 x:::gpu=", "admit a 1 x:::gpu=x", "admit a 1 x:::gpu=01", "admit a 1 x:::gpu=-2", "admit a 1 x:::gpu=10000", "admit a 1 x:::gpu=1=1", "admit a 1 x:::gpu=1+", "admit a 1 x:::+gpu=1", "admit a 1 x:::gpu=1++nic=1", "admit a 1 x:::gpu=1,nic=1", "admit a 1 x:::gpu:1", "admit a 1 x:::-", "admit a 1 x:::+", "admit a 1 x:::=", "admit a 1 x:::A=x"}},
	// Their errors, one by one: of several the first one's, and all of them ahead of what is wrong with the pod.
	{1, []string{"admit a 1 x:1001/1::", "admit a 1 x:1000001m/1::", "admit a 1 x:1000.001/1::", "admit a 1 x:1/1025Ti::", "admit a 1 x::999999/1:", "admit a 1 x::1/1125899906842625:", "admit A 1 x:1001/1::", "admit web 1 x:1001/1::"}},
	{1, []string{"admit a 1 x:1001/x::", "admit a 1 x:1001/1:x:", "admit a 1 x:1001/1::x", "admit a 1 x:1001/1:: y", "admit a 1 x:1/1025Ti:x:", "admit a 1 x::1001/1:x", "admit a 1 x::: y:1001/1:: z", "admit a 1 x::: y::: z::: w:1001/1::"}},
	{4, []string{"admit a x x:1001/1::", "admit a 1 x:x/1025Ti::", "admit a 1 x:x:1001/1:", "admit a 1 x y:1001/1::", "admit a 1 x:::gpu y:1001/1::", "admit a 1 x:1001/1::: y:::"}},
	// Admit's errors: the pod's (G1), then the machine's (M3).
	{3, []string{"admit A 1 x:::", "admit a23456789 1 x:::", "admit 1 1 x:::", "admit a 1 X:::", "admit A 1001 x:::", "admit a 1 x:2/1:1/1:", "admit a 1 x:1/2:1/1:", "admit a 1 x:::A=1", "admit a 1 x:::nic=1+gpu=1", "admit a 1 x:::gpu=1+gpu=1", "admit A 1"}},
	{1, []string{"admit a -1 x:::", "admit a 1001 x:::", "admit a 9999 x:::", "admit a 1 x:::gpu=0", "admit a 1 x:::gpu=17", "admit a 1 x:::gpu=-1", "admit a 1 x:::gpu=9999", "admit web 1001 x:::", "admit a -1"}},
	{2, []string{"admit a 1", "admit web 1", "admit a 1 x::: y::: z::: w:::", "admit a 1 x:::a=1+b=1+c=1+d=1"}},
	{5, []string{"admit web 5 x:2/64Mi:2/64Mi:gpu=1", "admit web 1 x:::", "admit low 0 z:::", "admit job 1 x:8/1:8/1:", "admit a 1 x::: y::: x:::"}},
	{7, []string{"admit a 1 x:8/1:8/1:", "admit a 1 x:0/1Gi::", "admit a 1 x:4.001/0::", "admit a 1 x:4/1:4/1:gpu=9 y:1m/0::"}},
	{10, []string{"admit a 1 x:1/1:1/1:nic=1", "admit a 1 x:1/1:1/1:gpu=2", "admit a 1 x:1/1:1/1: y:1/1:1/1:nic=1"}},
	// remove, sick, well.
	{6, []string{"remove we", "remove webx", "remove WEB", "remove -", "remove A!", "remove x", "remove web;", "remove web\n", "remove web\t", "remove 1"}},
	{1, []string{"sick 3", "sick 9999", "sick -1", "well 3", "well -1", "well 9999", "well 16"}},
	{4, []string{"sick x", "sick 00", "sick 01", "sick -0", "sick -2", "sick 10000", "sick +1", "sick 1.0", "sick 1_0", "sick 0x1", "sick \u0661", "sick gpu", "well x", "well 01", "well -2", "well 10000"}},
	// press: each text in order.
	{4, []string{"press x", "press -1", "press 01", "press 1K", "press 1.5", "press -", "press x a=1", "press a=1", "press 1 a", "press 1 a=", "press 1 a=x", "press 1 =", "press 1 a=1=1", "press 1 a=-1", "press 1 a=01", "press 0 job=32Mi x", "press 0 x job=32Mi", "press 1 a x=1025Ti", "press x a=1025Ti", "press 0 job:1", "press 0 job=1,low=1"}},
	{1, []string{"press 1025Ti", "press 1125899906842625", "press 1025Ti x", "press 1 a=1025Ti", "press 1 a=1025Ti x", "press 0 job=32Mi a=1025Ti"}},
	// arm and restart.
	{4, []string{"arm x", "arm 01", "arm -2", "arm 10000", "arm 1Ki", "restart x 0", "restart 0 x", "restart 01 0", "restart 0 01", "restart -2 0", "restart 0 -2", "restart 10000 0", "restart 0 10000", "restart 0,0", "restart - -", "restart 0-1 0"}},
}

// N2: what is told of wrong lines; with an error nothing changes.
func TestWrong(t *testing.T) {
	for _, w := range wrong {
		for _, line := range w.lines {
			noTrace(t, busy(), line, fmt.Sprint("error ", w.want))
		}
	}
}

// N2: device and machine, where there is no machine: what is told of them is no other; it begins none.
func TestWrongBegin(t *testing.T) {
	for _, w := range wrong {
		for _, line := range w.lines {
			first, _, _ := strings.Cut(line, " ")
			if first == "device" || first == "machine" {
				noTrace(t, nil, line, fmt.Sprint("error ", w.want))
				noTrace(t, []string{"device gpu 1", line}, line, fmt.Sprint("error ", w.want))
			}
		}
	}
}

// N2: wrong lines one behind the other leave nothing either.
func TestAllWrong(t *testing.T) {
	want := run(t, slices.Concat(busy(), probes())...)[len(busy()):]
	var all []string
	for _, w := range wrong {
		all = append(all, w.lines...)
	}
	for lines := range slices.Chunk(all, 80-len(busy())-len(probes())) {
		got := run(t, slices.Concat(busy(), lines, probes())...)
		if got = got[len(got)-len(probes()):]; !slices.Equal(got, want) {
			t.Errorf("behind %q\n%q, want\n%q", lines, got, want)
		}
	}
}

// N2: MaxDevices are there: one more is ErrMany, whatever else is wrong with it, and leaves nothing.
func TestWrongMany(t *testing.T) {
	ahead := slices.Repeat([]string{"device gpu 0"}, 15)
	full := append(slices.Clone(ahead), "device nic 3")
	after := []string{"machine 4 1 1 0 1 -", "sick 14", "sick 15", "sick 16", "admit a 1 x:::gpu=16", "admit b 1 x:::nic=1", "well 15", "admit b 1 x:::nic=1", "held"}
	want := run(t, slices.Concat(full, after)...)[len(full):]
	for _, line := range []string{"device gpu 0", "device A 0", "device gpu 4"} {
		got := run(t, slices.Concat(full, []string{line}, after)...)[len(full):]
		if got[0] != "error 2" || !slices.Equal(got[1:], want) {
			t.Errorf("%q: %q, want %q", line, got, want)
		}
	}
	if got := run(t, slices.Concat(full, []string{"device gpu x", "device gpu"})...)[len(full):]; !slices.Equal(got, []string{"error 4", "error 4"}) {
		t.Errorf("no numbers: %q", got)
	}
	if want[2] != "ok" || want[3] != "error 1" || want[len(want)-1] != "b x - 15" {
		t.Errorf("MaxDevices: %q", want)
	}
}
