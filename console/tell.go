package console

import (
	"strconv"
	"strings"

	"ostlery/api"
	"ostlery/bits"
	"ostlery/save"
)

// What is answered, and what stands between its parts.
const (
	done    = "ok"
	failed  = "error "
	none    = "-"
	between = "; "
)

// errorText tells an error by its number: the errors of all layers are of one type.
func errorText(err error) string {
	n, _ := err.(api.Errno)
	return failed + strconv.Itoa(int(n))
}

// heldText: a pod, with what each of its containers was given.
func heldText(h api.Held) string {
	words := []string{h.Pod.Name}
	for i, g := range h.Given {
		words = append(words, h.Pod.Conts[i].Name)
		words = append(words, save.GivenWords(g)...)
	}
	return strings.Join(words, blank)
}

// runningText: a container that runs.
func runningText(r api.Running) string {
	words := []string{r.Pod, r.Cont}
	words = append(words, save.GivenWords(api.Given{CPUs: r.CPUs, Devs: r.Devs})...)
	return strings.Join(words, blank)
}

// groupText: a group of processes.
func groupText(g api.Group) string {
	words := []string{g.Path, strconv.Itoa(g.Shares), strconv.Itoa(g.Quota), strconv.Itoa(g.Bytes)}
	return strings.Join(words, blank)
}

// namesText: names, or that there are none.
func namesText(names []string) string { return orNone(strings.Join(names, blank)) }

// setText: a set, or that it has none.
func setText(s api.Set) string { return orNone(bits.Text(s)) }

// listText of things, each as text tells it, or that there are none.
func listText[T any](l []T, text func(T) string) string {
	var parts []string
	for _, x := range l {
		parts = append(parts, text(x))
	}
	return orNone(strings.Join(parts, between))
}

// orNone: an answer is never without bytes.
func orNone(s string) string {
	if s == "" {
		return none
	}
	return s
}
