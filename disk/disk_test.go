package disk

import (
	"fmt"
	"math"
	"math/rand"
	"slices"
	"strings"
	"testing"

	"ostlery/api"
)

// act on a disk.
type act func(d *Disk) error

func write(s string) act { return func(d *Disk) error { return d.Write(s) } }

func arm(n int) act { return func(d *Disk) error { d.Arm(n); return nil } }

func spoil(s string) act { return func(d *Disk) error { d.Spoil(s); return nil } }

func restart(keep, torn int) act {
	return func(d *Disk) error { d.Restart(keep, torn); return nil }
}

func move(d *Disk) error { return d.Move() }

func sync(d *Disk) error { return d.Sync() }

func step(d *Disk) error { return d.Step() }

// after: a disk on which this was done, whatever it answered.
func after(l ...act) *Disk {
	d := New()
	for _, a := range l {
		a(d)
	}
	return d
}

// file of a disk, as it is read.
func file(d *Disk) string {
	s, err := d.Read()
	if err == api.ErrNone && s == "" {
		return "none"
	}
	if err != nil {
		return s + err.Error()
	}
	return fmt.Sprintf("%q", s)
}

// both: the file and the draft of a disk, which is not used any more behind it.
func both(d *Disk) string {
	s := file(d) + " "
	switch err := d.Move(); err {
	case nil:
		return s + file(d)
	case api.ErrNone:
		return s + "none"
	default:
		return s + err.Error()
	}
}

// I1: a file, and a draft.
func TestFileAndDraft(t *testing.T) {
	full := strings.Repeat("x", api.MaxFile)
	for _, c := range []struct {
		name string
		l    []act
		want string
	}{
		{"new", nil, `none none`},
		{"a draft is no file", []act{write("a")}, `none "a"`},
		{"the last draft is it", []act{write("aaa"), write("b")}, `none "b"`},
		{"it takes the file's place", []act{write("a"), move}, `"a" none`},
		{"the file stays while a draft is there", []act{write("a"), move, write("b")}, `"a" "b"`},
		{"it takes another file's place", []act{write("aaa"), move, write("b"), move}, `"b" none`},
		{"a move without a draft", []act{move}, `none none`},
		{"a second move", []act{write("a"), move, move}, `"a" none`},
		{"no bytes are a draft", []act{write("")}, `none ""`},
		{"no bytes are a file", []act{write(""), move}, `"" none`},
		{"no bytes in place of some", []act{write("a"), move, write(""), move}, `"" none`},
		{"any bytes", []act{write("\x00\xff\n\r"), move}, `"\x00\xff\n\r" none`},
		{"as many as may be", []act{write(full)}, `none "` + full + `"`},
		{"one too many", []act{write("a"), write(full + "x")}, `none "a"`},
		{"the file of one too many", []act{write("a"), move, write(full + "x"), move}, `"a" none`},
		{"kept", []act{write("a"), move, write("b"), sync}, `"a" "b"`},
		{"steps and arms", []act{step, write("a"), arm(2), step, arm(-1), step, step}, `none "a"`},
	} {
		if got := both(after(c.l...)); got != c.want {
			t.Errorf("%s: %.80s, want %.80s", c.name, got, c.want)
		}
	}
}

// I1, I2, Z3: errors, each a bare api.Errno, and which of them is told first.
func TestErrors(t *testing.T) {
	long := write(strings.Repeat("x", api.MaxFile+1))
	down := []act{arm(0), step}
	read := func(d *Disk) error {
		s, err := d.Read()
		if err != nil && s != "" {
			t.Errorf("%q with %v", s, err)
		}
		return err
	}
	for _, c := range []struct {
		name string
		l    []act
		then act
		want error
	}{
		{"write", nil, write("a"), nil},
		{"write too much", nil, long, api.ErrMany},
		{"write far too much", nil, write(strings.Repeat("x", 1<<20)), api.ErrMany},
		{"write, down", down, write("a"), api.ErrDown},
		{"write too much, down", down, long, api.ErrMany},
		{"move", []act{write("")}, move, nil},
		{"move nothing", nil, move, api.ErrNone},
		{"move, moved", []act{write("a"), move}, move, api.ErrNone},
		{"move, down", slices.Concat([]act{write("a")}, down), move, api.ErrDown},
		{"move nothing, down", down, move, api.ErrNone},
		{"sync", nil, sync, nil},
		{"sync, down", down, sync, api.ErrDown},
		{"step", nil, step, nil},
		{"step, down", down, step, api.ErrDown},
		{"read", []act{write(""), move}, read, nil},
		{"read nothing", nil, read, api.ErrNone},
		{"read nothing, but a draft", []act{write("a")}, read, api.ErrNone},
		{"read, down", slices.Concat([]act{write("a"), move}, down), read, api.ErrDown},
		{"read nothing, down", down, read, api.ErrDown},
	} {
		if err := c.then(after(c.l...)); err != c.want {
			t.Errorf("%s: %v, want %v", c.name, err, c.want)
		}
	}
}

// I2: it falls at the step behind so many more, and stays down.
func TestArm(t *testing.T) {
	for n := range 20 {
		d := after(arm(n))
		for i := range n {
			if err := d.Step(); err != nil || d.Down() {
				t.Errorf("armed by %d: step %d: %v", n, i, err)
			}
		}
		if d.Down() {
			t.Errorf("armed by %d: down ahead of a step", n)
		}
		for range 3 {
			if err := d.Step(); err != api.ErrDown || !d.Down() {
				t.Errorf("armed by %d: %v, down: %v", n, err, d.Down())
			}
		}
	}
}

// I2: what is armed again, or not any more, and what raises a disk that is down.
func TestArmAgain(t *testing.T) {
	for _, c := range []struct {
		name string
		l    []act
		left int // steps till it is down; -1: many
	}{
		{"never armed", nil, -1},
		{"below 0", []act{arm(-1)}, -1},
		{"far below 0", []act{arm(math.MinInt)}, -1},
		{"far off", []act{arm(math.MaxInt)}, -1},
		{"no more", []act{arm(3), step, arm(-5)}, -1},
		{"no more, though none was left", []act{arm(1), step, arm(-1)}, -1},
		{"again, more", []act{arm(1), step, arm(2)}, 2},
		{"again, fewer", []act{arm(9), step, arm(0)}, 0},
		{"not added", []act{arm(3), arm(3)}, 3},
		{"down, armed again", []act{arm(0), step, arm(5)}, 0},
		{"down, not armed any more", []act{arm(0), step, arm(-1)}, 0},
		{"down, restarted", []act{arm(0), step, restart(0, 0)}, -1},
		{"armed, restarted", []act{arm(2), step, restart(0, 0)}, -1},
		{"none left, restarted", []act{arm(0), restart(0, 0)}, -1},
		{"down, spoilt", []act{arm(0), step, spoil("a")}, 0},
		{"armed, spoilt", []act{arm(2), spoil("a")}, 2},
	} {
		d := after(c.l...)
		left := 0
		for left < 100 && d.Step() == nil {
			left++
		}
		if c.left < 0 && left < 100 || c.left >= 0 && left != c.left || d.Down() != (c.left >= 0) {
			t.Errorf("%s: down: %v, behind %d steps", c.name, d.Down(), left)
		}
	}
}

// I1, I2: what is a step, and what is none.
func TestWhatIsAStep(t *testing.T) {
	draft := []act{write("b")}
	for _, c := range []struct {
		name string
		l    []act
		a    act
		want int
	}{
		{"Write", nil, write("a"), 1},
		{"Move", draft, move, 1},
		{"Sync", nil, sync, 1},
		{"Sync of a change", draft, sync, 1},
		{"Step", nil, step, 1},
		{"a Write of too much", nil, write(strings.Repeat("x", api.MaxFile+1)), 0},
		{"a Move of nothing", nil, move, 0},
		{"Read", draft, func(d *Disk) error { _, err := d.Read(); return err }, 0},
		{"Down", draft, func(d *Disk) error { d.Down(); return nil }, 0},
		{"Spoil", draft, spoil("a"), 0},
	} {
		d := after(slices.Concat(c.l, []act{arm(5), c.a})...)
		left := 0
		for d.Step() == nil {
			left++
		}
		if left != 5-c.want {
			t.Errorf("%s: %d of 5 steps are left", c.name, left)
		}
	}
}

// I1, I2, Z1: what falls at its step does nothing, whatever is kept behind it.
func TestFallDoesNothing(t *testing.T) {
	for _, c := range []struct {
		name string
		a    act
		keep int
		want string
	}{
		{"Write", write("c"), 9, `"a" "b"`},
		{"Move", move, 9, `"a" "b"`},
		{"Sync", sync, 9, `"a" "b"`},
		{"Sync keeps nothing", sync, 0, `none none`},
	} {
		d := after(write("a"), move, write("b"), arm(0), c.a)
		if !d.Down() {
			t.Errorf("%s: it is not down", c.name)
		}
		d.Restart(c.keep, 0)
		if got := both(d); got != c.want {
			t.Errorf("%s: %s, want %s", c.name, got, c.want)
		}
	}
}

// I3: which changes are kept, and how much of the next one.
func TestRestart(t *testing.T) {
	four := []act{write("old"), move, sync, write("one"), move, write("two"), write("three")}
	moves := []act{write("a"), sync, move, write("b")}
	for _, c := range []struct {
		name       string
		l          []act
		keep, torn int
		want       string
	}{
		{"nothing at all", nil, 5, 5, `none none`},
		{"none", four, 0, 0, `"old" none`},
		{"below 0", four, -1, 0, `"old" none`},
		{"far below 0", four, math.MinInt, math.MinInt, `"old" none`},
		{"one", four, 1, 0, `"old" "one"`},
		{"two", four, 2, 0, `"one" none`},
		{"three", four, 3, 0, `"one" "two"`},
		{"all", four, 4, 0, `"one" "three"`},
		{"more than all", four, 5, 7, `"one" "three"`},
		{"far more than all", four, math.MaxInt, math.MaxInt, `"one" "three"`},
		{"one byte of the first", four, 0, 1, `"old" "o"`},
		{"one byte of the first, keep below 0", four, -7, 1, `"old" "o"`},
		{"but one of the first", four, 0, 2, `"old" "on"`},
		{"all bytes of the first", four, 0, 3, `"old" "one"`},
		{"more bytes than the first has", four, 0, math.MaxInt, `"old" "one"`},
		{"torn below 0", four, 0, -1, `"old" none`},
		{"a move is not torn", four, 1, 1, `"old" "one"`},
		{"a piece of the one behind", four, 2, 2, `"one" "tw"`},
		{"a piece over another draft", four, 3, 2, `"one" "th"`},
		{"a move of what is kept", moves, 0, 1, `none "a"`},
		{"a move of what is kept, kept", moves, 1, 0, `"a" none`},
		{"a piece behind a move", moves, 1, 1, `"a" "b"`},
		{"all is kept", []act{write("a"), move, write("b"), sync}, 0, 0, `"a" "b"`},
		{"kept, and one more", []act{write("a"), sync, write("b")}, 0, 0, `none "a"`},
		{"kept twice", []act{write("a"), sync, move, sync, sync}, 0, 0, `"a" none`},
		{"no bytes are lost", []act{write("a"), sync, write("")}, 0, 0, `none "a"`},
		{"no bytes are kept", []act{write("a"), sync, write("")}, 1, 0, `none ""`},
		{"no bytes are torn", []act{write("a"), sync, write("")}, 0, 1, `none ""`},
		{"what was lost doesn't come again", []act{write("a"), restart(0, 0)}, 1, 9, `none none`},
		{"what was kept is kept", []act{write("a"), move, restart(2, 0)}, 0, 0, `"a" none`},
		{"a piece is kept", []act{write("abc"), restart(0, 2)}, 0, 0, `none "ab"`},
		{"what waited behind is no more counted", []act{write("a"), move, restart(1, 0), write("b")}, 1, 0, `none "b"`},
		{"what failed is no change", []act{move, write("a"), move, move, write("b")}, 2, 1, `"a" "b"`},
	} {
		d := after(c.l...)
		d.Restart(c.keep, c.torn)
		if got := both(d); got != c.want {
			t.Errorf("%s: %s, want %s", c.name, got, c.want)
		}
	}
}

// I3: what somebody else wrote.
func TestSpoil(t *testing.T) {
	full := strings.Repeat("s", api.MaxFile)
	wait := []act{write("a"), move, write("b"), spoil("s")}
	for _, c := range []struct {
		name string
		l    []act
		want string
	}{
		{"no file", []act{spoil("s")}, `"s" none`},
		{"a file", []act{write("a"), move, spoil("s")}, `"s" none`},
		{"a draft stays", []act{write("a"), spoil("s")}, `"s" "a"`},
		{"no bytes", []act{write("a"), move, spoil("")}, `"" none`},
		{"as many as may be", []act{spoil(full)}, `"` + full + `" none`},
		{"one too many", []act{write("a"), move, spoil(full + "s")}, `"a" none`},
		{"one too many, no file", []act{spoil(full + "s")}, `none none`},
		{"it is kept", []act{spoil("s"), restart(0, 0)}, `"s" none`},
		{"it is kept over a file", []act{write("a"), move, sync, spoil("s"), restart(0, 0)}, `"s" none`},
		{"one too many is not kept", []act{write("a"), move, sync, spoil(full + "s"), restart(0, 0)}, `"a" none`},
		{"it is no change", []act{write("a"), spoil("s"), write("b"), restart(2, 0)}, `"s" "b"`},
		{"what waits is not kept by it", append(wait, restart(0, 0)), `"s" none`},
		{"what waits still waits: one", append(wait, restart(1, 0)), `"s" "a"`},
		{"what waits still waits: two", append(wait, restart(2, 0)), `"a" none`},
		{"what waits still waits: two, and a piece", append(wait, restart(2, 1)), `"a" "b"`},
		{"what waits still waits: all", append(wait, restart(3, 0)), `"a" "b"`},
		{"as it is", wait, `"s" "b"`},
		{"as it is, it is kept", append(wait, sync, restart(0, 0)), `"s" "b"`},
		{"while it is down", []act{write("a"), move, arm(0), step, spoil("s"), restart(0, 0)}, `"s" none`},
		{"another draft takes its place", []act{spoil("s"), write("a"), move}, `"a" none`},
	} {
		if got := both(after(c.l...)); got != c.want {
			t.Errorf("%s: %.80s, want %.80s", c.name, got, c.want)
		}
	}
}

// Z2: two disks have nothing in common.
func TestApart(t *testing.T) {
	a, b := New(), New()
	a.Write("a")
	a.Move()
	a.Arm(0)
	a.Step()
	if b.Down() || file(b) != "none" || b.Step() != nil {
		t.Errorf("%s, down: %v", file(b), b.Down())
	}
}

// event that made a disk what it is: w: a Write, m: a Move, s: a Spoil.
type event struct {
	kind  byte
	bytes string
}

// slow: a disk as the document tells it, which goes through all that ever was.
type slow struct {
	seen, sure, wait []event // all, as they were; those that are kept; the changes that aren't
	armed, down      bool
	left             int
}

// state of what was: the file and the draft, if there are.
func (x *slow) state() (file, draft *string) {
	for _, e := range x.seen {
		switch e.kind {
		case 'w':
			draft = &e.bytes
		case 'm':
			file, draft = draft, nil
		case 's':
			file = &e.bytes
		}
	}
	return file, draft
}

func (x *slow) step() error {
	if !x.down && x.armed && x.left == 0 {
		x.down = true
	}
	if x.down {
		return api.ErrDown
	}
	x.left--
	return nil
}

func (x *slow) change(e event) error {
	if err := x.step(); err != nil {
		return err
	}
	x.seen, x.wait = append(x.seen, e), append(x.wait, e)
	return nil
}

func (x *slow) write(s string) error {
	if len(s) > api.MaxFile {
		return api.ErrMany
	}
	return x.change(event{'w', s})
}

func (x *slow) move() error {
	if _, draft := x.state(); draft == nil {
		return api.ErrNone
	}
	return x.change(event{'m', ""})
}

func (x *slow) sync() error {
	if err := x.step(); err != nil {
		return err
	}
	x.sure, x.wait = slices.Clone(x.seen), nil
	return nil
}

func (x *slow) read() (string, error) {
	if x.down {
		return "", api.ErrDown
	}
	if file, _ := x.state(); file != nil {
		return *file, nil
	}
	return "", api.ErrNone
}

func (x *slow) restart(keep, torn int) {
	for i, e := range x.wait {
		switch {
		case i < keep:
			x.sure = append(x.sure, e)
		case i == max(keep, 0) && e.kind == 'w' && torn >= 1:
			for len(e.bytes) > torn {
				e.bytes = e.bytes[:len(e.bytes)-1]
			}
			x.sure = append(x.sure, e)
		}
	}
	x.seen, x.wait = slices.Clone(x.sure), nil
	x.armed, x.down = false, false
}

func (x *slow) spoil(s string) {
	if len(s) <= api.MaxFile {
		x.seen, x.sure = append(x.seen, event{'s', s}), append(x.sure, event{'s', s})
	}
}

// I1, I2, I3: drawn acts.
func TestDrawn(t *testing.T) {
	r := rand.New(rand.NewSource(1))
	for range 4000 {
		d, x := New(), &slow{}
		said := ""
		for range 60 {
			s := strings.Repeat(string(rune('a'+r.Intn(26))), r.Intn(5))
			if r.Intn(40) == 0 {
				s = strings.Repeat("x", api.MaxFile+r.Intn(2))
			}
			n, m := r.Intn(8)-1, r.Intn(6)-1
			var got, want error
			act := r.Intn(16)
			switch act {
			case 0, 1, 2, 3:
				got, want = d.Write(s), x.write(s)
			case 4, 5, 6:
				got, want = d.Move(), x.move()
			case 7, 8:
				got, want = d.Sync(), x.sync()
			case 9:
				got, want = d.Step(), x.step()
			case 10, 11:
				n += r.Intn(9)
				d.Arm(n)
				x.armed, x.left = n >= 0, n
			case 12:
				d.Spoil(s)
				x.spoil(s)
			default:
				d.Restart(m, n)
				x.restart(m, n)
			}
			said += fmt.Sprintf(" %d(%.4s %d %d)", act, s, m, n)
			a, errA := d.Read()
			b, errB := x.read()
			if got != want || a != b || errA != errB || d.Down() != x.down {
				t.Fatalf("%s: %v %q %v %v, want %v %q %v %v", said, got, a, errA, d.Down(), want, b, errB, x.down)
			}
		}
	}
}

// Z1: many changes, none of them kept till the end.
func TestMany(t *testing.T) {
	d := New()
	for range 100000 {
		d.Write("a")
		d.Move()
	}
	d.Restart(199999, 1)
	if got := both(d); got != `"a" "a"` {
		t.Errorf("%s", got)
	}
}

// Waits: are there changes that aren't kept?
func TestWaits(t *testing.T) {
	for _, c := range []struct {
		name string
		l    []act
		want bool
	}{
		{"new", nil, false},
		{"a draft", []act{write("")}, true},
		{"kept", []act{write("a"), sync}, false},
		{"moved", []act{write("a"), sync, move}, true},
		{"nothing to move", []act{move}, false},
		{"moved, kept", []act{write("a"), move, sync}, false},
		{"too much", []act{write(strings.Repeat("x", api.MaxFile+1))}, false},
		{"spoilt", []act{spoil("a")}, false},
		{"it still waits", []act{write("a"), spoil("a")}, true},
		{"a step", []act{step}, false},
		{"down", []act{write("a"), arm(0), sync}, true},
		{"down ahead of it", []act{arm(0), write("a")}, false},
		{"behind a fall", []act{write("a"), arm(0), sync, restart(0, 0)}, false},
		{"behind a fall, torn", []act{write("ab"), arm(0), sync, restart(0, 1)}, false},
	} {
		d := after(c.l...)
		was := d.Down()
		if got := d.Waits(); got != c.want || d.Down() != was {
			t.Errorf("%s: %v, want %v", c.name, got, c.want)
		}
	}
}
