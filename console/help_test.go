package console

import (
	"slices"
	"strings"
	"testing"
)

// run lines, of which there are not too many.
func run(t *testing.T, lines ...string) []string {
	t.Helper()
	l, err := Run(lines)
	if err != nil || len(l) != len(lines) {
		t.Fatalf("%q: %d answers, %v", lines, len(l), err)
	}
	return l
}

// script: lines with ' => ' and the answer behind each.
func script(s string) (lines, answers []string) {
	for row := range strings.Lines(strings.TrimSpace(s)) {
		line, answer, _ := strings.Cut(strings.Trim(row, "\t\n"), " => ")
		lines = append(lines, line)
		answers = append(answers, answer)
	}
	return lines, answers
}

// talk: is each line answered as the script has it?
func talk(t *testing.T, s string) {
	t.Helper()
	lines, want := script(s)
	for i, got := range run(t, lines...) {
		if got != want[i] {
			t.Errorf("line %d: %s => %s, want %s", i+1, lines[i], got, want[i])
		}
	}
}

// busy: lines that leave a machine with something of everything: three devices, one of them sick, and pods of each class.
func busy() []string {
	return []string{
		"device gpu 0", "device gpu 1", "device nic 1",
		"machine 2 2 2 2 1Gi 0",
		"admit web 5 x:2/64Mi:2/64Mi:gpu=1",
		"admit job 1 y:500m/32Mi:: w:500m/1Mi:1/2Mi:",
		"admit low 0 z:::",
		"sick 2",
	}
}

// probes: lines whose answers tell all that lines ahead of them left behind.
func probes() []string {
	return []string{
		"held", "running", "groups", "shared",
		"admit pa 9 x:1/1Mi:1/1Mi:gpu=1", "admit pb 9 x:1/1Mi:1/1Mi:nic=1", "held",
		"sick 0", "sick 1", "sick 2", "sick 3",
		"restart 0 0", "held", "running", "groups", "shared",
		"admit pb 9 x:1/1Mi:1/1Mi:nic=1", "held",
		"machine 1 8 1 0 1Gi -", "held", "running", "groups", "shared", "sick 3",
		"admit pc 1 x:1/1:1/1:gpu=2+nic=1", "held", "admit pd 1 x::: y:::gpu=1",
		"device last 3", "machine 4 1 1 0 1Gi -", "sick 4", "sick 3", "well 3",
		"admit pe 1 x:::last=1", "held",
	}
}

// noTrace: is a line, behind some, answered so, and is all as if it hadn't been there?
func noTrace(t *testing.T, ahead []string, line, want string) {
	t.Helper()
	all := run(t, slices.Concat(ahead, probes())...)
	got := run(t, slices.Concat(ahead, []string{line}, probes())...)
	at := len(ahead)
	if got[at] != want {
		t.Errorf("%q => %s, want %s", line, got[at], want)
	}
	if rest := slices.Delete(slices.Clone(got), at, at+1); !slices.Equal(rest, all) {
		t.Errorf("%q: behind it\n%q, without it\n%q", line, rest[at:], all[at:])
	}
}
