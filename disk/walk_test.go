package disk_test

import (
	"fmt"
	"math"
	"math/rand"
	"slices"
	"strings"
	"testing"

	"missive/api"
	"missive/disk"
)

// plainFile and plain are a disk in the document's own words, in which each step makes a new list of files, kept in the order of names.
type plainFile struct {
	name, data string
	synced     int
}

type plain struct {
	room        int
	files       []plainFile
	down, armed bool
	left        int
	sizes       []int
}

func (p *plain) at(name string) int {
	return slices.IndexFunc(p.files, func(f plainFile) bool { return f.name == name })
}

func (p *plain) used() int {
	n := 0
	for _, f := range p.files {
		n += len(f.data)
	}
	return n
}

// with is the list of files with f in the place of those of both names.
func (p *plain) with(f plainFile, old string) []plainFile {
	out := []plainFile{f}
	for _, x := range p.files {
		if x.name != f.name && x.name != old {
			out = append(out, x)
		}
	}
	slices.SortFunc(out, func(a, b plainFile) int { return strings.Compare(a.name, b.name) })
	return out
}

func (p *plain) copied() *plain {
	c := *p
	c.files, c.sizes = slices.Clone(p.files), slices.Clone(p.sizes)
	return &c
}

// step is a call that changes a disk.
type step struct {
	kind   string
	a, b   string
	number int
	keep   []int
}

func (p *plain) do(s step) api.Errno {
	switch s.kind {
	case "arm":
		if p.down {
			return api.ErrDown
		}
		if s.number < 0 {
			return api.ErrArg
		}
		p.armed, p.left = s.number != 0, s.number
		return api.OK
	case "wake":
		p.wake(s.keep)
		return api.OK
	}
	if p.down {
		return api.ErrDown
	}
	if p.armed {
		p.left--
		if p.left == 0 {
			p.armed, p.down = false, true
			return api.ErrDown
		}
	}
	e := p.operate(s)
	if e == api.OK {
		n := 0
		if s.kind == "append" {
			n = len(s.b)
		}
		p.sizes = append(p.sizes, n)
	}
	return e
}

func (p *plain) operate(s step) api.Errno {
	i := p.at(s.a)
	name := s.a
	if s.kind == "rename" {
		name = s.b
	}
	isName := len(name) >= 1 && len(name) <= 64
	switch {
	case s.kind == "append" && !isName:
		return api.ErrArg
	case s.kind == "append" && len(s.b) > p.room-p.used():
		return api.ErrFull
	case s.kind == "append" && i < 0:
		p.files = p.with(plainFile{s.a, s.b, 0}, s.a)
		return api.OK
	case i < 0:
		return api.ErrNone
	case !isName:
		return api.ErrArg
	}
	f := p.files[i]
	switch s.kind {
	case "append":
		f.data += s.b
	case "sync":
		f.synced = len(f.data)
	case "rename":
		f.name = s.b
	case "remove":
		p.files = slices.Delete(slices.Clone(p.files), i, i+1)
		return api.OK
	}
	p.files = p.with(f, s.a)
	return api.OK
}

func (p *plain) wake(keep []int) {
	p.down, p.armed, p.left = false, false, 0
	p.files = slices.Clone(p.files)
	for k, f := range p.files {
		u := len(f.data) - f.synced
		n := 0
		if k < len(keep) {
			n = keep[k] % (u + 1)
			if n < 0 {
				n += u + 1
			}
		}
		f.data = f.data[:f.synced+n]
		f.synced += n
		p.files[k] = f
	}
}

// did does a step to a disk.
func did(d *disk.Disk, s step) api.Errno {
	switch s.kind {
	case "append":
		return d.Append(s.a, s.b)
	case "sync":
		return d.Sync(s.a)
	case "rename":
		return d.Rename(s.a, s.b)
	case "remove":
		return d.Remove(s.a)
	case "arm":
		return d.Arm(s.number)
	}
	return d.Wake(s.keep)
}

// told is all that a disk tells, in one text.
func told(d *disk.Disk, names []string) string {
	var b strings.Builder
	fmt.Fprintln(&b, d.Down(), d.Free(), d.Sizes())
	for _, prefix := range []string{"", "a", "ab", "\xff", "none"} {
		fmt.Fprintf(&b, "%q\n", d.List(prefix))
	}
	for _, name := range names {
		s, e := d.Read(name)
		fmt.Fprintln(&b, s, e, d.Synced(name))
	}
	return b.String()
}

func (p *plain) told(names []string) string {
	var b strings.Builder
	free := p.room - p.used()
	if p.down {
		free = 0
	}
	fmt.Fprintln(&b, p.down, free, p.sizes)
	for _, prefix := range []string{"", "a", "ab", "\xff", "none"} {
		list := []string{}
		for _, f := range p.files {
			if strings.HasPrefix(f.name, prefix) && !p.down {
				list = append(list, f.name)
			}
		}
		fmt.Fprintf(&b, "%q\n", list)
	}
	for _, name := range names {
		i := p.at(name)
		switch {
		case p.down:
			fmt.Fprintln(&b, "", api.ErrDown, 0)
		case i < 0:
			fmt.Fprintln(&b, "", api.ErrNone, 0)
		default:
			fmt.Fprintln(&b, p.files[i].data, api.OK, p.files[i].synced)
		}
	}
	return b.String()
}

// someNames are names of files, and two that are none.
func someNames() []string {
	return []string{"a", "ab", "abc", "b", "\xff", "\x00", strings.Repeat("n", 64), strings.Repeat("n", 65), ""}
}

// anyStep is one of those that a walk takes.
func anyStep(r *rand.Rand) step {
	names := someNames()
	name := func() string { return names[r.Intn(len(names))] }
	kinds := []string{"append", "append", "append", "append", "sync", "sync", "rename", "rename", "remove", "arm", "wake"}
	s := step{kind: kinds[r.Intn(len(kinds))], a: name(), b: name(), number: r.Intn(12) - 1}
	if s.kind == "append" {
		s.b = "0123456789abcdef"[:r.Intn(17)]
	}
	for range r.Intn(9) {
		s.keep = append(s.keep, []int{r.Intn(40) - 20, r.Int(), -r.Int(), math.MinInt, -1}[r.Intn(5)])
	}
	return s
}

func TestWalksAsTheDocumentSays(t *testing.T) {
	for seed := range 60 {
		r := rand.New(rand.NewSource(int64(seed)))
		room := r.Intn(120) - 10
		d, p := disk.New(room), &plain{room: max(room, 0)}
		oldDisk, oldPlain := d.Copy(), p.copied()
		for i := range 400 {
			s := anyStep(r)
			got, want := did(d, s), p.do(s)
			if got != want {
				t.Fatalf("walk %d, step %d, %+v: %d in the place of %d", seed, i, s, got, want)
			}
			if a, b := told(d, someNames()), p.told(someNames()); a != b {
				t.Fatalf("walk %d, step %d, %+v:\n%s in the place of\n%s", seed, i, s, a, b)
			}
			switch r.Intn(30) {
			case 0:
				oldDisk, oldPlain = d.Copy(), p.copied()
			case 1:
				d, p, oldDisk, oldPlain = oldDisk, oldPlain, d, p
			}
		}
	}
}

// R6
func TestSameStepsSameAnswers(t *testing.T) {
	run := func() string {
		r := rand.New(rand.NewSource(7))
		d := disk.New(100)
		var b strings.Builder
		for range 500 {
			fmt.Fprintln(&b, did(d, anyStep(r)), told(d, someNames()))
		}
		return b.String()
	}
	first := run()
	for range 5 {
		if run() != first {
			t.Fatal("other answers to the same steps")
		}
	}
}

// P11.7: power goes at each operation of a history, and whatever is kept, each file has what was synced of it, and some beginning of what was put behind that.
func TestLossOfPower(t *testing.T) {
	history := []step{
		{kind: "append", a: "a", b: "abc"}, {kind: "sync", a: "a"}, {kind: "append", a: "a", b: "de"},
		{kind: "append", a: "b", b: "uvw"}, {kind: "append", a: "b", b: "123456789012345678901234567890"}, {kind: "append", a: "", b: "x"},
		{kind: "append", a: "b", b: "xyz"}, {kind: "rename", a: "a", b: "c"}, {kind: "sync", a: "b"}, {kind: "append", a: "b", b: "!"},
		{kind: "rename", a: "b", b: "c"}, {kind: "append", a: "c", b: "?"}, {kind: "remove", a: "z"}, {kind: "append", a: "e", b: "123"}, {kind: "remove", a: "c"},
	}
	for after := 1; after <= len(history)+1; after++ {
		ahead := disk.New(20) // as it was when the power went
		for _, s := range history[:after-1] {
			did(ahead, s)
		}
		d := disk.New(20)
		fine(t, d.Arm(after))
		for _, s := range history {
			did(d, s)
		}
		d.Append("last", "x") // the operation behind all of them
		is(t, "Down", d.Down(), true)
		for first := -2; first < 10; first++ {
			for second := -2; second < 10; second++ {
				c := d.Copy()
				fine(t, c.Wake([]int{first, second}))
				lostNoMore(t, ahead, c)
			}
		}
	}
}

// lostNoMore holds what is there behind a loss of power against what was there ahead of it.
func lostNoMore(t *testing.T, ahead, behind *disk.Disk) {
	t.Helper()
	are(t, "List", behind.List(""), ahead.List("")...)
	are(t, "Sizes", behind.Sizes(), ahead.Sizes()...)
	used := 0
	for _, name := range ahead.List("") {
		was, _ := ahead.Read(name)
		left, e := behind.Read(name)
		if e != api.OK || !strings.HasPrefix(was, left) || len(left) < ahead.Synced(name) || behind.Synced(name) != len(left) {
			t.Errorf("of %q, %d of it synced, is left %q, %d of it synced", was, ahead.Synced(name), left, behind.Synced(name))
		}
		used += len(left)
	}
	if used > 20 || behind.Free() != 20-used {
		t.Errorf("%d bytes are used of 20, and free are %d", used, behind.Free())
	}
}

// All beginnings can be left: no more and no fewer.
func TestEachBeginningCanBeLeft(t *testing.T) {
	left := map[string]int{}
	for keep := range 12 {
		d := disk.New(10)
		fine(t, d.Append("a", "ab"), d.Sync("a"), d.Append("a", "cde"))
		cut(t, d)
		fine(t, d.Wake([]int{keep}))
		s, _ := d.Read("a")
		left[s]++
	}
	for _, s := range []string{"ab", "abc", "abcd", "abcde"} {
		is(t, s, left[s], 3)
	}
}

// What is put piece by piece, and many files, are gone through in time.
func TestManyPieces(t *testing.T) {
	d := disk.New(1 << 20)
	for range 1 << 17 {
		fine(t, d.Append("log", "12345678"))
	}
	is(t, "full", d.Append("log", "x"), api.ErrFull)
	s, _ := d.Read("log")
	is(t, "bytes", len(s), 1<<20)
	is(t, "Sizes", len(d.Sizes()), 1<<17)
	fine(t, d.Remove("log"))
	for i := range 20000 {
		fine(t, d.Append(fmt.Sprint(i), "x"), d.Rename(fmt.Sprint(i), fmt.Sprint("n", i)))
	}
	fine(t, d.Wake([]int{1, 1}))
	is(t, "Free", d.Free(), 1<<20-2)
	is(t, "List", len(d.List("n")), 20000)
}
