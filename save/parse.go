package save

import (
	"strings"

	"ostlery/api"
	"ostlery/bits"
	"ostlery/number"
)

// How many words the lines of a pod and of a container have.
const (
	podCount  = 3
	contCount = 9
)

// mostDigits: MaxBytes, than which nothing in a text is greater, has so many.
const mostDigits = 16

// Parse a text.
func Parse(t string) ([]api.Held, error) {
	if len(t) > api.MaxFile {
		return nil, api.ErrMany
	}
	ahead, ok := cutSum(t)
	if !ok {
		return nil, api.ErrSum
	}
	l, ok := readHeld(ahead)
	if !ok {
		return nil, api.ErrText
	}
	// Lines are read loosely: whether they are just as they would be written is seen by writing them.
	if again, err := Text(l); err != nil || again != t {
		return nil, api.ErrText
	}
	return l, nil
}

// cutSum: all that is ahead of the sum, if that is its sum.
func cutSum(t string) (ahead string, ok bool) {
	i := strings.LastIndex(t, sumWord)
	if i < 0 {
		return "", false
	}
	return t[:i], t[i:] == sumLine(t[:i])
}

// readHeld reads lines of pods, each with those of its containers behind it.
func readHeld(t string) ([]api.Held, bool) {
	var l []api.Held
	for s := range strings.Lines(t) {
		words := strings.Split(strings.TrimSuffix(s, end), blank)
		switch {
		case words[0] == podWord && len(words) == podCount:
			p, ok := readPod(words)
			if !ok {
				return nil, false
			}
			l = append(l, api.Held{Pod: p})
		case words[0] == contWord && len(words) == contCount && len(l) > 0:
			c, g, ok := readCont(words)
			if !ok {
				return nil, false
			}
			h := &l[len(l)-1]
			h.Pod.Conts = append(h.Pod.Conts, c)
			h.Given = append(h.Given, g)
		default:
			return nil, false
		}
	}
	return l, true
}

// readPod reads the words of a pod's line.
func readPod(words []string) (api.Pod, bool) {
	prio, ok := readNumber(words[2])
	return api.Pod{Name: words[1], Prio: prio}, ok
}

// readCont reads the words of a container's line.
func readCont(words []string) (api.Cont, api.Given, bool) {
	ask, okAsk := readAmount(words[2], words[3])
	most, okMost := readAmount(words[4], words[5])
	needs, okNeeds := readList(words[6], readNeed)
	cpus, okCPUs := readCPUs(words[7])
	devs, okDevs := readList(words[8], readNumber)
	c := api.Cont{Name: words[1], Ask: ask, Cap: most, Devs: needs}
	g := api.Given{CPUs: cpus, Devs: devs}
	return c, g, okAsk && okMost && okNeeds && okCPUs && okDevs
}

// readAmount reads two words.
func readAmount(milli, bytes string) (api.Amount, bool) {
	m, okMilli := readNumber(milli)
	b, okBytes := readNumber(bytes)
	return api.Amount{Milli: m, Bytes: b}, okMilli && okBytes
}

// readNeed reads a kind, and how many of it.
func readNeed(s string) (api.Need, bool) {
	kind, many, _ := strings.Cut(s, colon)
	n, ok := readNumber(many)
	return api.Need{Kind: kind, Many: n}, ok
}

// readCPUs reads a set, or that there are none.
func readCPUs(s string) (api.Set, bool) {
	if s == nothing {
		return 0, true
	}
	set, err := bits.Parse(s)
	return set, err == nil
}

// readNumber reads a number from 0 on.
func readNumber(s string) (int, bool) { return number.Read(s, mostDigits) }

// readList reads things, each by read, or that there are none.
func readList[T any](s string, read func(string) (T, bool)) ([]T, bool) {
	if s == nothing {
		return nil, true
	}
	var l []T
	for w := range strings.SplitSeq(s, comma) {
		x, ok := read(w)
		if !ok {
			return nil, false
		}
		l = append(l, x)
	}
	return l, true
}
