package save

import (
	"strconv"
	"strings"

	"ostlery/api"
	"ostlery/bits"
)

// What a text is made of.
const (
	podWord  = "pod"
	contWord = "cont"
	sumWord  = "sum "
	blank    = " "
	comma    = ","
	colon    = ":"
	nothing  = "-"
	end      = "\n"
)

// PodText: a line of a pod, and one of each container.
func PodText(p api.Pod) string {
	return podText(p, func(int) []string { return nil })
}

// Text of what is held: lines, the last one with a sum of those ahead.
func Text(l []api.Held) (string, error) {
	if err := Check(l); err != nil {
		return "", err
	}
	var b strings.Builder
	for _, h := range l {
		b.WriteString(podText(h.Pod, func(i int) []string { return GivenWords(h.Given[i]) }))
	}
	ahead := b.String()
	return ahead + sumLine(ahead), nil
}

// podText: the lines of a pod, each container's with what stands behind it.
func podText(p api.Pod, behind func(i int) []string) string {
	var b strings.Builder
	b.WriteString(line([]string{podWord, p.Name, strconv.Itoa(p.Prio)}))
	for i, c := range p.Conts {
		b.WriteString(line(append(contWords(c), behind(i)...)))
	}
	return b.String()
}

// contWords: what a line tells of a container.
func contWords(c api.Cont) []string {
	return []string{
		contWord, c.Name,
		strconv.Itoa(c.Ask.Milli), strconv.Itoa(c.Ask.Bytes),
		strconv.Itoa(c.Cap.Milli), strconv.Itoa(c.Cap.Bytes),
		listText(c.Devs, func(n api.Need) string { return n.Kind + colon + strconv.Itoa(n.Many) }),
	}
}

// GivenWords: what a line tells of what a container was given.
func GivenWords(g api.Given) []string {
	return []string{orNothing(bits.Text(g.CPUs)), listText(g.Devs, strconv.Itoa)}
}

// sumLine: the line behind all that is ahead of it.
func sumLine(ahead string) string {
	return sumWord + strconv.FormatUint(uint64(Sum(ahead)), 10) + end
}

// line of words.
func line(words []string) string { return strings.Join(words, blank) + end }

// listText of things, each as text tells it.
func listText[T any](l []T, text func(T) string) string {
	var words []string
	for _, x := range l {
		words = append(words, text(x))
	}
	return orNothing(strings.Join(words, comma))
}

// orNothing: a word, or that of nothing: a line has no words without bytes.
func orNothing(s string) string {
	if s == "" {
		return nothing
	}
	return s
}
