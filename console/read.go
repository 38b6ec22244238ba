package console

import (
	"strings"

	"ostlery/amount"
	"ostlery/api"
	"ostlery/bits"
	"ostlery/number"
)

// What stands between words, and between the parts of one.
const (
	blank  = " "
	colon  = ":"
	slash  = "/"
	plus   = "+"
	equals = "="
)

// below is the one number below 0 that is read.
const below = "-1"

// mostDigits of a number.
const mostDigits = 4

// How many words and parts there are.
const (
	devWords    = 2 // behind 'device'
	configWords = 6 // behind 'machine'
	sizeWords   = 4 // of these the numbers, which are the first ones
	podWords    = 2 // behind 'admit', ahead of containers
	contParts   = 4
)

// readDev reads the words of a device.
func readDev(words []string) (api.Dev, error) {
	if len(words) != devWords {
		return api.Dev{}, api.ErrText
	}
	node, err := readNumber(words[1])
	if err != nil {
		return api.Dev{}, err
	}
	return api.Dev{Kind: words[0], Node: node}, nil
}

// readConfig reads the words of a machine; it has no devices yet.
func readConfig(words []string) (api.Config, error) {
	if len(words) != configWords {
		return api.Config{}, api.ErrText
	}
	l, err := readNumbers(words[:sizeWords], sizeWords)
	if err != nil {
		return api.Config{}, err
	}
	sockets, cores, threads, policy := l[0], l[1], l[2], l[3]
	if min(sockets, cores, threads) < 1 || sockets*cores*threads > api.MaxCPUs {
		return api.Config{}, api.ErrBound
	}
	size, err := amount.Bytes(words[4])
	if err != nil {
		return api.Config{}, err
	}
	keep, err := readSet(words[5])
	if err != nil {
		return api.Config{}, err
	}
	return api.Config{CPUs: lay(sockets, cores, threads), Keep: keep, Bytes: size, Policy: policy}, nil
}

// lay processors: the first one of every core, then the second ones, and so on.
func lay(sockets, cores, threads int) []api.CPU {
	var l []api.CPU
	for range threads {
		for core := range sockets * cores {
			socket := core / cores
			l = append(l, api.CPU{Core: core, Socket: socket, Node: socket})
		}
	}
	return l
}

// readPod reads the words of a pod.
func readPod(words []string) (api.Pod, error) {
	if len(words) < podWords {
		return api.Pod{}, api.ErrText
	}
	prio, err := readNumber(words[1])
	if err != nil {
		return api.Pod{}, err
	}
	conts, err := readEach(words[podWords:], readCont)
	if err != nil {
		return api.Pod{}, err
	}
	return api.Pod{Name: words[0], Prio: prio, Conts: conts}, nil
}

// readCont reads the word of a container.
func readCont(s string) (api.Cont, error) {
	parts := strings.Split(s, colon)
	if len(parts) != contParts {
		return api.Cont{}, api.ErrText
	}
	ask, err := readAmount(parts[1])
	if err != nil {
		return api.Cont{}, err
	}
	most, err := readAmount(parts[2])
	if err != nil {
		return api.Cont{}, err
	}
	needs, err := readNeeds(parts[3])
	if err != nil {
		return api.Cont{}, err
	}
	return api.Cont{Name: parts[0], Ask: ask, Cap: most, Devs: needs}, nil
}

// readAmount reads processors and bytes, or nothing.
func readAmount(s string) (api.Amount, error) {
	if s == "" {
		return api.Amount{}, nil
	}
	left, right, two := strings.Cut(s, slash)
	if !two {
		return api.Amount{}, api.ErrText
	}
	milli, err := amount.Milli(left)
	if err != nil {
		return api.Amount{}, err
	}
	size, err := amount.Bytes(right)
	if err != nil {
		return api.Amount{}, err
	}
	return api.Amount{Milli: milli, Bytes: size}, nil
}

// readNeeds reads needs of devices, or nothing.
func readNeeds(s string) ([]api.Need, error) {
	if s == "" {
		return nil, nil
	}
	return readEach(strings.Split(s, plus), readNeed)
}

// readNeed reads a kind, and how many of it.
func readNeed(s string) (api.Need, error) {
	kind, many, _ := strings.Cut(s, equals) // if it isn't there, nothing is behind it: no number
	n, err := readNumber(many)
	if err != nil {
		return api.Need{}, err
	}
	return api.Need{Kind: kind, Many: n}, nil
}

// readPress reads what pods use, and how much they may use at most.
func readPress(words []string) ([]api.Use, int, error) {
	if len(words) == 0 {
		return nil, 0, api.ErrText
	}
	most, err := amount.Bytes(words[0])
	if err != nil {
		return nil, 0, err
	}
	uses, err := readEach(words[1:], readUse)
	if err != nil {
		return nil, 0, err
	}
	return uses, most, nil
}

// readUse reads a name, and how much it uses.
func readUse(s string) (api.Use, error) {
	name, size, _ := strings.Cut(s, equals) // if it isn't there, nothing is behind it: no bytes' text
	n, err := amount.Bytes(size)
	if err != nil {
		return api.Use{}, err
	}
	return api.Use{Name: name, Bytes: n}, nil
}

// readSet reads a set, or that it has none.
func readSet(s string) (api.Set, error) {
	if s == none {
		return 0, nil
	}
	return bits.Parse(s)
}

// readNumbers reads words that are numbers, just so many.
func readNumbers(words []string, many int) ([]int, error) {
	if len(words) != many {
		return nil, api.ErrText
	}
	return readEach(words, readNumber)
}

// readNumber reads a number.
func readNumber(s string) (int, error) {
	if s == below {
		return -1, nil
	}
	n, ok := number.Read(s, mostDigits)
	if !ok {
		return 0, api.ErrText
	}
	return n, nil
}

// readEach of some texts, up to the first one that can't be read.
func readEach[T any](texts []string, read func(string) (T, error)) ([]T, error) {
	var l []T
	for _, s := range texts {
		x, err := read(s)
		if err != nil {
			return nil, err
		}
		l = append(l, x)
	}
	return l, nil
}
