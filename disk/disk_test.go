package disk_test

import (
	"math"
	"slices"
	"strings"
	"testing"
	"unsafe"

	"missive/api"
	"missive/disk"
)

// is holds an answer against that which the document asks for.
func is[T comparable](t *testing.T, what string, got, want T) {
	t.Helper()
	if got != want {
		t.Errorf("%s: %v in the place of %v", what, got, want)
	}
}

// are holds a list against that which the document asks for.
func are[T comparable](t *testing.T, what string, got []T, want ...T) {
	t.Helper()
	if !slices.Equal(got, want) {
		t.Errorf("%s: %v in the place of %v", what, got, want)
	}
}

// reads holds what Read answers against a file's bytes.
func reads(t *testing.T, d *disk.Disk, name, want string) {
	t.Helper()
	if s, e := d.Read(name); e != api.OK || s != want {
		t.Errorf("Read(%.20q): %.40q, %d in the place of %.40q", name, s, e, want)
	}
}

// readsNot holds what Read answers against an error.
func readsNot(t *testing.T, d *disk.Disk, name string, want api.Errno) {
	t.Helper()
	if s, e := d.Read(name); e != want || s != "" {
		t.Errorf("Read(%.20q): %.40q, %d in the place of %d", name, s, e, want)
	}
}

// fine takes answers that are to be OK.
func fine(t *testing.T, answers ...api.Errno) {
	t.Helper()
	for i, e := range answers {
		if e != api.OK {
			t.Fatalf("answer %d: %d", i, e)
		}
	}
}

// cut brings a disk's power away, without an operation that is done.
func cut(t *testing.T, d *disk.Disk) {
	t.Helper()
	fine(t, d.Arm(1))
	is(t, "the last operation", d.Sync("nobody"), api.ErrDown)
	is(t, "Down", d.Down(), true)
}

func TestExamples(t *testing.T) {
	d := disk.New(5)
	is(t, "Append(a, abc)", d.Append("a", "abc"), api.OK)
	is(t, "Append(b, xyz)", d.Append("b", "xyz"), api.ErrFull)
	is(t, "Append(b, x)", d.Append("b", "x"), api.OK)
	is(t, "Free", d.Free(), 1)

	is(t, "Sync(a)", d.Sync("a"), api.OK)
	is(t, "Append(a, d)", d.Append("a", "d"), api.OK)
	is(t, "Wake(none)", d.Wake(nil), api.OK)
	reads(t, d, "a", "abc")
	reads(t, d, "b", "")
	are(t, "List", d.List(""), "a", "b")

	is(t, "Append(a, de)", d.Append("a", "de"), api.OK)
	is(t, "Wake(-1)", d.Wake([]int{-1}), api.OK)
	reads(t, d, "a", "abcde")
	is(t, "Synced(a)", d.Synced("a"), 5)

	is(t, "Arm(2)", d.Arm(2), api.OK)
	is(t, "Sync(b)", d.Sync("b"), api.OK)
	is(t, "Rename(a, b)", d.Rename("a", "b"), api.ErrDown)
	is(t, "Down", d.Down(), true)
	readsNot(t, d, "a", api.ErrDown)
	is(t, "Remove(a)", d.Remove("a"), api.ErrDown)
	is(t, "Arm(1)", d.Arm(1), api.ErrDown)

	is(t, "Wake(none)", d.Wake(nil), api.OK)
	is(t, "Rename(a, b)", d.Rename("a", "b"), api.OK)
	reads(t, d, "b", "abcde")
	is(t, "Sync(a)", d.Sync("a"), api.ErrNone)
	is(t, "Arm(-1)", d.Arm(-1), api.ErrArg)
	are(t, "Sizes", d.Sizes(), 3, 1, 0, 1, 2, 0, 0)
}

// P11.1

func TestNew(t *testing.T) {
	for _, x := range []struct{ room, free int }{{0, 0}, {1, 1}, {1 << 30, 1 << 30}, {math.MaxInt, math.MaxInt}, {-1, 0}, {math.MinInt, 0}} {
		d := disk.New(x.room)
		is(t, "Free", d.Free(), x.free)
		is(t, "Down", d.Down(), false)
		are(t, "List", d.List(""))
		are(t, "Sizes", d.Sizes())
		readsNot(t, d, "a", api.ErrNone)
		for range 100 {
			fine(t, d.Append("a", ""))
		}
		if x.free == 0 {
			is(t, "no room", d.Append("a", "x"), api.ErrFull)
			continue
		}
		fine(t, d.Append("a", "x"))
		is(t, "Free", d.Free(), x.free-1)
	}
}

func TestNewDisksAreTheirOwn(t *testing.T) {
	a, b := disk.New(3), disk.New(3)
	fine(t, a.Append("f", "abc"))
	is(t, "Free", b.Free(), 3)
	are(t, "List", b.List(""))
	are(t, "Sizes", b.Sizes())
}

// worn is a disk to which something of each kind was done.
func worn(t *testing.T) *disk.Disk {
	t.Helper()
	d := disk.New(20)
	fine(t, d.Append("a", "abc"), d.Sync("a"), d.Append("a", "de"), d.Append("b", "xyz"), d.Append("c", ""), d.Arm(3))
	return d
}

// seemsWorn holds a disk against what worn made; it goes down by that.
func seemsWorn(t *testing.T, d *disk.Disk) {
	t.Helper()
	reads(t, d, "a", "abcde")
	reads(t, d, "b", "xyz")
	are(t, "List", d.List(""), "a", "b", "c")
	is(t, "Synced(a)", d.Synced("a"), 3)
	is(t, "Synced(b)", d.Synced("b"), 0)
	is(t, "Free", d.Free(), 12)
	are(t, "Sizes", d.Sizes(), 3, 0, 2, 3, 0)
	fine(t, d.Append("b", "!"), d.Append("b", "?"))
	is(t, "the last operation", d.Remove("a"), api.ErrDown)
	fine(t, d.Wake([]int{1, 4}))
	reads(t, d, "a", "abcd")
	reads(t, d, "b", "xyz!")
}

func TestCopy(t *testing.T) {
	t.Run("as this one", func(t *testing.T) { seemsWorn(t, worn(t).Copy()) })
	t.Run("of a copy", func(t *testing.T) { seemsWorn(t, worn(t).Copy().Copy()) })
	for _, way := range []func(d *disk.Disk){
		func(d *disk.Disk) { d.Append("a", "XYZ"); d.Append("b", "XYZ"); d.Append("new", "x") },
		func(d *disk.Disk) { d.Sync("a"); d.Sync("b"); d.Arm(0) },
		func(d *disk.Disk) { d.Rename("a", "b"); d.Remove("b"); d.Sync("c") },
		func(d *disk.Disk) { d.Wake(nil); d.Append("a", "DE"); d.Append("b", "XYZ") },
	} {
		d := worn(t)
		c := d.Copy()
		way(d)
		seemsWorn(t, c)
		d = worn(t)
		c = d.Copy()
		way(c)
		seemsWorn(t, d)
	}
}

func TestCopyOfOneThatIsDown(t *testing.T) {
	d := worn(t)
	cut(t, d)
	c := d.Copy()
	is(t, "Down of the copy", c.Down(), true)
	fine(t, d.Wake(nil))
	is(t, "Down of the copy", c.Down(), true)
	is(t, "Down", d.Down(), false)
	fine(t, c.Wake([]int{-1, -1}))
	reads(t, c, "a", "abcde")
	reads(t, d, "a", "abc")
}

// A copy is taken while there is room behind the bytes that both have.
func TestCopySharesNoRoom(t *testing.T) {
	d := disk.New(1 << 10)
	for range 5 {
		fine(t, d.Append("a", "x"), d.Sync("a"))
	}
	c := d.Copy()
	fine(t, d.Append("a", "d"), c.Append("a", "c"), d.Append("b", "d"), c.Append("b", "c"))
	reads(t, d, "a", "xxxxxd")
	reads(t, c, "a", "xxxxxc")
	are(t, "Sizes", d.Sizes(), 1, 0, 1, 0, 1, 0, 1, 0, 1, 0, 1, 1)
	are(t, "Sizes", c.Sizes(), d.Sizes()...)
	fine(t, d.Sync("a"))
	is(t, "sizes of the copy", len(c.Sizes()), 12)
}

// P11.2

func TestAppend(t *testing.T) {
	d := disk.New(10)
	fine(t, d.Append("a", "abc"), d.Append("b", "x"), d.Append("a", "de"), d.Append("a", ""))
	reads(t, d, "a", "abcde")
	reads(t, d, "b", "x")
	is(t, "Synced", d.Synced("a"), 0)
	is(t, "Free", d.Free(), 4)
	is(t, "one byte too many", d.Append("a", "12345"), api.ErrFull)
	is(t, "one byte too many of a new file", d.Append("c", "12345"), api.ErrFull)
	are(t, "List", d.List(""), "a", "b")
	is(t, "Free", d.Free(), 4)
	fine(t, d.Append("a", "1234"))
	is(t, "Free", d.Free(), 0)
	is(t, "full", d.Append("a", "1"), api.ErrFull)
	fine(t, d.Append("a", ""), d.Append("c", ""))
	reads(t, d, "a", "abcde1234")
	reads(t, d, "c", "")
	are(t, "List", d.List(""), "a", "b", "c")
	are(t, "Sizes", d.Sizes(), 3, 1, 2, 0, 4, 0, 0)
}

func TestAppendLeavesWhatIsSynced(t *testing.T) {
	d := disk.New(10)
	fine(t, d.Append("a", "abc"), d.Sync("a"), d.Append("a", "d"))
	is(t, "Synced", d.Synced("a"), 3)
}

func TestAnyBytes(t *testing.T) {
	all := make([]byte, 256)
	for i := range all {
		all[i] = byte(i)
	}
	d := disk.New(1 << 20)
	fine(t, d.Append("a", string(all)), d.Append("a", string(all)))
	reads(t, d, "a", string(all)+string(all))
	names := []string{"\x00", "\x00\x00", " ", "..", "/", "A", "\u00e9", "\xff", strings.Repeat("\xff", 64), strings.Repeat("n", 64)}
	for _, name := range names {
		fine(t, d.Append(name, name), d.Sync(name), d.Rename(name, "t"), d.Rename("t", name))
		reads(t, d, name, name)
	}
	names = append(names, "a")
	slices.Sort(names)
	are(t, "List", d.List(""), names...)
	for _, name := range names {
		fine(t, d.Remove(name))
	}
	are(t, "List", d.List(""))
}

func TestNamesThatAreNone(t *testing.T) {
	for _, name := range []string{"", strings.Repeat("n", 65), strings.Repeat("\u00e9", 33), strings.Repeat("x", 1<<16)} {
		d := disk.New(5)
		fine(t, d.Append("a", "abc"))
		is(t, "Append", d.Append(name, ""), api.ErrArg)
		is(t, "Append of too much", d.Append(name, "123456"), api.ErrArg)
		is(t, "Rename to it", d.Rename("a", name), api.ErrArg)
		is(t, "Rename of none to it", d.Rename("b", name), api.ErrNone)
		is(t, "Rename of it", d.Rename(name, "a"), api.ErrNone)
		is(t, "Rename of it to itself", d.Rename(name, name), api.ErrNone)
		is(t, "Sync", d.Sync(name), api.ErrNone)
		is(t, "Remove", d.Remove(name), api.ErrNone)
		is(t, "Synced", d.Synced(name), 0)
		readsNot(t, d, name, api.ErrNone)
		reads(t, d, "a", "abc")
		are(t, "List", d.List(""), "a")
		are(t, "Sizes", d.Sizes(), 3)
	}
}

func TestSync(t *testing.T) {
	d := disk.New(10)
	fine(t, d.Append("a", "abc"), d.Append("b", "xy"), d.Sync("a"))
	is(t, "Synced(a)", d.Synced("a"), 3)
	is(t, "Synced(b)", d.Synced("b"), 0)
	fine(t, d.Append("a", "d"), d.Sync("a"), d.Sync("a"))
	is(t, "Synced(a)", d.Synced("a"), 4)
	is(t, "no such file", d.Sync("c"), api.ErrNone)
	are(t, "List", d.List(""), "a", "b")
	fine(t, d.Append("e", ""), d.Sync("e"))
	is(t, "Synced(e)", d.Synced("e"), 0)
	is(t, "Free", d.Free(), 4)
}

func TestRename(t *testing.T) {
	d := disk.New(20)
	fine(t, d.Append("a", "abc"), d.Sync("a"), d.Append("a", "de"), d.Append("b", "wxyz"), d.Append("c", "1"))
	fine(t, d.Rename("a", "b"))
	are(t, "List", d.List(""), "b", "c")
	reads(t, d, "b", "abcde")
	is(t, "Synced", d.Synced("b"), 3)
	is(t, "Free: the other file is gone", d.Free(), 14)
	readsNot(t, d, "a", api.ErrNone)
	is(t, "Rename of what is no more", d.Rename("a", "x"), api.ErrNone)
	is(t, "of what is no more, over a file", d.Rename("a", "b"), api.ErrNone)

	fine(t, d.Rename("b", "z"))
	are(t, "List", d.List(""), "c", "z")
	is(t, "Synced", d.Synced("z"), 3)
	is(t, "Free", d.Free(), 14)

	fine(t, d.Append("b", "new"), d.Append("z", "f"))
	reads(t, d, "b", "new")
	reads(t, d, "z", "abcdef")
	fine(t, d.Wake(nil))
	reads(t, d, "z", "abc")
}

func TestRenameOfOneName(t *testing.T) {
	d := disk.New(10)
	fine(t, d.Append("a", "abc"), d.Sync("a"), d.Append("a", "de"), d.Rename("a", "a"))
	reads(t, d, "a", "abcde")
	is(t, "Synced", d.Synced("a"), 3)
	is(t, "Free", d.Free(), 5)
	are(t, "List", d.List(""), "a")
	are(t, "Sizes", d.Sizes(), 3, 0, 2, 0)
	is(t, "no such file", d.Rename("b", "b"), api.ErrNone)
}

func TestRemove(t *testing.T) {
	d := disk.New(10)
	fine(t, d.Append("a", "abc"), d.Sync("a"), d.Append("b", "de"), d.Remove("a"))
	readsNot(t, d, "a", api.ErrNone)
	is(t, "Synced", d.Synced("a"), 0)
	is(t, "Free", d.Free(), 8)
	are(t, "List", d.List(""), "b")
	is(t, "again", d.Remove("a"), api.ErrNone)
	is(t, "of none", d.Remove("c"), api.ErrNone)
	fine(t, d.Append("a", "12345678"))
	reads(t, d, "a", "12345678")
	is(t, "Synced: it is another file", d.Synced("a"), 0)
}

// That there is a file, what it is called, and that it is gone lasts at once.
func TestNamesLastAtOnce(t *testing.T) {
	d := disk.New(10)
	fine(t, d.Append("a", "abc"), d.Append("b", "x"), d.Sync("b"), d.Append("c", "y"))
	fine(t, d.Rename("b", "d"), d.Remove("c"), d.Append("e", ""))
	cut(t, d)
	fine(t, d.Wake(nil))
	are(t, "List", d.List(""), "a", "d", "e")
	reads(t, d, "a", "")
	reads(t, d, "d", "x")
	reads(t, d, "e", "")
	is(t, "Free", d.Free(), 9)
}

// P11.3

func TestList(t *testing.T) {
	d := disk.New(0)
	for _, name := range []string{"b", "ab", "\xff", "a", "abc", "B", "\x00", "b\x00", "ac", "aB"} {
		fine(t, d.Append(name, ""))
	}
	are(t, "all", d.List(""), "\x00", "B", "a", "aB", "ab", "abc", "ac", "b", "b\x00", "\xff")
	are(t, "a", d.List("a"), "a", "aB", "ab", "abc", "ac")
	are(t, "ab", d.List("ab"), "ab", "abc")
	are(t, "abc", d.List("abc"), "abc")
	are(t, "abcd", d.List("abcd"))
	are(t, "c", d.List("c"))
	are(t, "b", d.List("b"), "b", "b\x00")
	are(t, "ff", d.List("\xff"), "\xff")
	are(t, "long", d.List(strings.Repeat("a", 1000)))
}

func TestLooksAreNoOperations(t *testing.T) {
	d := disk.New(10)
	fine(t, d.Append("a", "abc"), d.Arm(1))
	for range 10 {
		reads(t, d, "a", "abc")
		readsNot(t, d, "b", api.ErrNone)
		d.List("")
		d.Synced("a")
		d.Free()
		d.Down()
		d.Sizes()
		d.Copy()
	}
	is(t, "Down", d.Down(), false)
	is(t, "the first operation", d.Sync("a"), api.ErrDown)
	are(t, "Sizes", d.Sizes(), 3)
}

func TestDown(t *testing.T) {
	d := worn(t)
	cut(t, d)
	is(t, "Append", d.Append("a", "x"), api.ErrDown)
	is(t, "Append, of no name", d.Append("", "x"), api.ErrDown)
	is(t, "Append of too much", d.Append("a", strings.Repeat("x", 100)), api.ErrDown)
	is(t, "Sync", d.Sync("a"), api.ErrDown)
	is(t, "Sync of none", d.Sync("z"), api.ErrDown)
	is(t, "Rename", d.Rename("a", "b"), api.ErrDown)
	is(t, "Rename to no name", d.Rename("z", ""), api.ErrDown)
	is(t, "Remove", d.Remove("a"), api.ErrDown)
	is(t, "Remove of none", d.Remove("z"), api.ErrDown)
	readsNot(t, d, "a", api.ErrDown)
	readsNot(t, d, "z", api.ErrDown)
	are(t, "List", d.List(""))
	is(t, "Synced", d.Synced("a"), 0)
	is(t, "Free", d.Free(), 0)
	is(t, "Arm(0)", d.Arm(0), api.ErrDown)
	is(t, "Arm(1)", d.Arm(1), api.ErrDown)
	is(t, "Arm(-1)", d.Arm(-1), api.ErrDown)
	is(t, "Down", d.Down(), true)
	are(t, "Sizes", d.Sizes(), 3, 0, 2, 3, 0)
	fine(t, d.Wake([]int{2, 3}), d.Arm(3))
	is(t, "Synced", d.Synced("a"), 5)
	fine(t, d.Append("c", "1"), d.Remove("c"))
	is(t, "Down", d.Down(), false)
}

// P11.4

// tries are operations that are done, and such as are refused, on a disk that has a file "a" and some room.
func tries() []func(d *disk.Disk) api.Errno {
	return []func(d *disk.Disk) api.Errno{
		func(d *disk.Disk) api.Errno { return d.Append("a", "x") },
		func(d *disk.Disk) api.Errno { return d.Append("b", "") },
		func(d *disk.Disk) api.Errno { return d.Append("", "x") },
		func(d *disk.Disk) api.Errno { return d.Append("a", strings.Repeat("x", 100)) },
		func(d *disk.Disk) api.Errno { return d.Sync("a") },
		func(d *disk.Disk) api.Errno { return d.Sync("z") },
		func(d *disk.Disk) api.Errno { return d.Rename("a", "a") },
		func(d *disk.Disk) api.Errno { return d.Rename("a", "") },
		func(d *disk.Disk) api.Errno { return d.Rename("z", "a") },
		func(d *disk.Disk) api.Errno { return d.Rename("a", "c") },
		func(d *disk.Disk) api.Errno { return d.Remove("c") },
		func(d *disk.Disk) api.Errno { return d.Remove("z") },
	}
}

func TestArm(t *testing.T) {
	var want []api.Errno
	calm := disk.New(50)
	fine(t, calm.Append("a", "abc"))
	for _, try := range tries() {
		want = append(want, try(calm))
	}
	ok, arg, none := api.OK, api.ErrArg, api.ErrNone
	are(t, "not armed", want, ok, ok, arg, api.ErrFull, ok, none, ok, arg, none, ok, ok, none)
	for after := 1; after <= len(want)+1; after++ {
		d := disk.New(50)
		fine(t, d.Append("a", "abc"), d.Arm(after))
		for i, try := range tries() {
			e := try(d)
			if i+1 < after {
				is(t, "while it has power", e, want[i])
			} else {
				is(t, "when it is down", e, api.ErrDown)
			}
			is(t, "Down", d.Down(), i+1 >= after)
		}
	}
}

// The operation by which the disk goes down is not done, whichever it is.
func TestLastOperationIsNotDone(t *testing.T) {
	for i, try := range tries() {
		d := disk.New(50)
		fine(t, d.Append("a", "abc"), d.Sync("a"), d.Append("a", "de"), d.Append("c", "xyz"), d.Arm(1))
		is(t, "the last operation", try(d), api.ErrDown)
		is(t, "Down", d.Down(), true)
		are(t, "Sizes", d.Sizes(), 3, 0, 2, 3)
		fine(t, d.Wake([]int{2, 1}))
		are(t, "List", d.List(""), "a", "c")
		reads(t, d, "a", "abcde")
		reads(t, d, "c", "x")
		if d.Free() != 44 || t.Failed() {
			t.Fatalf("operation %d: Free is %d", i, d.Free())
		}
		if try(d) == api.ErrDown {
			t.Errorf("operation %d: armed behind a Wake", i)
		}
	}
}

func TestSyncThatIsNotDone(t *testing.T) {
	d := disk.New(50)
	fine(t, d.Append("a", "abc"), d.Arm(1))
	is(t, "Sync", d.Sync("a"), api.ErrDown)
	fine(t, d.Wake(nil))
	reads(t, d, "a", "")
}

func TestArmAnew(t *testing.T) {
	d := disk.New(10)
	fine(t, d.Append("a", ""), d.Arm(2), d.Sync("a"), d.Arm(2), d.Sync("a"))
	is(t, "a later one counts from now on", d.Sync("a"), api.ErrDown)
	fine(t, d.Wake(nil), d.Arm(5), d.Arm(1))
	is(t, "a sooner one too", d.Sync("a"), api.ErrDown)
	fine(t, d.Wake(nil), d.Arm(1), d.Arm(0))
	for range 10 {
		fine(t, d.Sync("a"))
	}
	fine(t, d.Arm(math.MaxInt))
	for range 10 {
		fine(t, d.Sync("a"))
	}
	fine(t, d.Arm(2))
	is(t, "below 0", d.Arm(-1), api.ErrArg)
	is(t, "far below 0", d.Arm(math.MinInt), api.ErrArg)
	fine(t, d.Sync("a"))
	is(t, "it is armed as before", d.Sync("a"), api.ErrDown)
	fine(t, d.Wake(nil))
	is(t, "below 0", d.Arm(-1), api.ErrArg)
	fine(t, d.Sync("a"), d.Sync("a"))
	is(t, "Down", d.Down(), false)
}

// P11.5

func TestWake(t *testing.T) {
	for _, x := range []struct{ keep, stay int }{
		{0, 0}, {1, 1}, {2, 2}, {3, 3}, {4, 0}, {5, 1}, {7, 3}, {8, 0}, {-1, 3}, {-2, 2}, {-3, 1}, {-4, 0}, {-5, 3},
		{math.MaxInt, 3}, {math.MaxInt - 1, 2}, {math.MinInt, 0}, {math.MinInt + 1, 1},
	} {
		for _, down := range []bool{false, true} {
			d := disk.New(10)
			fine(t, d.Append("a", "ab"), d.Sync("a"), d.Append("a", "cde"))
			if down {
				cut(t, d)
			}
			fine(t, d.Wake([]int{x.keep}))
			is(t, "Down", d.Down(), false)
			reads(t, d, "a", "abcde"[:2+x.stay])
			is(t, "Synced", d.Synced("a"), 2+x.stay)
			is(t, "Free", d.Free(), 8-x.stay)
			fine(t, d.Append("a", "!"), d.Wake([]int{0}))
			reads(t, d, "a", "abcde"[:2+x.stay])
		}
	}
}

func TestWakeInTheOrderOfNames(t *testing.T) {
	fill := func() *disk.Disk {
		d := disk.New(100)
		fine(t, d.Append("c", "c0"), d.Append("\xff", "f01"), d.Append("b", "b"), d.Append("a", "a0123"))
		fine(t, d.Sync("b"), d.Append("B", ""))
		return d
	}
	for _, x := range []struct {
		keep       []int
		a, b, c, f string
	}{
		{nil, "", "b", "", ""},
		{[]int{}, "", "b", "", ""},
		{[]int{9}, "", "b", "", ""}, // the first one is B, of no bytes
		{[]int{9, 3}, "a01", "b", "", ""},
		{[]int{9, 3, 1}, "a01", "b", "", ""},
		{[]int{9, 3, 1, 1}, "a01", "b", "c", ""},
		{[]int{9, 3, 1, -1, 2}, "a01", "b", "c0", "f0"},
		{[]int{-9, -1, -1, -1, -1, 5, 6, 7}, "a0123", "b", "c0", "f01"},
		{[]int{0, 6, 7, 4, 5}, "", "b", "c", "f"},
	} {
		d := fill()
		fine(t, d.Wake(x.keep))
		are(t, "List", d.List(""), "B", "a", "b", "c", "\xff")
		reads(t, d, "B", "")
		reads(t, d, "a", x.a)
		reads(t, d, "b", x.b)
		reads(t, d, "c", x.c)
		reads(t, d, "\xff", x.f)
		is(t, "Free", d.Free(), 100-len(x.a+x.b+x.c+x.f))
	}
}

func TestWakeArmsNoMore(t *testing.T) {
	d := disk.New(10)
	fine(t, d.Append("a", "x"), d.Arm(1), d.Wake(nil))
	for range 5 {
		fine(t, d.Append("a", "x"))
	}
	is(t, "Down", d.Down(), false)
	reads(t, d, "a", "xxxxx")
}

func TestWakeOfNoFiles(t *testing.T) {
	d := disk.New(10)
	fine(t, d.Wake(nil), d.Wake([]int{1, 2, 3}))
	are(t, "List", d.List(""))
	is(t, "Free", d.Free(), 10)
	are(t, "Sizes", d.Sizes())
}

// P11.6

func TestSizes(t *testing.T) {
	d := disk.New(10)
	are(t, "none", d.Sizes())
	fine(t, d.Append("a", "abc"), d.Append("a", ""), d.Sync("a"), d.Rename("a", "b"), d.Append("a", "1234567"), d.Remove("a"))
	want := []int{3, 0, 0, 0, 7, 0}
	are(t, "done", d.Sizes(), want...)
	d.Append("", "x")
	d.Append("a", "12345678")
	d.Sync("z")
	d.Rename("z", "y")
	d.Rename("b", "")
	d.Remove("z")
	fine(t, d.Arm(5), d.Arm(0), d.Wake(nil))
	are(t, "what was refused, and what is no operation, is not there", d.Sizes(), want...)
	cut(t, d)
	are(t, "while it is down", d.Sizes(), want...)
	d.Append("a", "x")
	fine(t, d.Wake(nil), d.Append("c", "xy"))
	are(t, "since New", d.Sizes(), append(want, 2)...)
}

// R1, R3

func TestNone(t *testing.T) {
	for _, d := range []*disk.Disk{nil, {}, new(disk.Disk)} {
		for range 2 {
			is(t, "Append", d.Append("a", "x"), api.ErrNil)
			is(t, "Append, of no name", d.Append("", ""), api.ErrNil)
			is(t, "Sync", d.Sync("a"), api.ErrNil)
			readsNot(t, d, "a", api.ErrNil)
			is(t, "Rename", d.Rename("a", "b"), api.ErrNil)
			is(t, "Rename to no name", d.Rename("a", ""), api.ErrNil)
			is(t, "Remove", d.Remove("a"), api.ErrNil)
			are(t, "List", d.List(""))
			is(t, "Synced", d.Synced("a"), 0)
			is(t, "Free", d.Free(), 0)
			is(t, "Arm", d.Arm(1), api.ErrNil)
			is(t, "Arm, below 0", d.Arm(-1), api.ErrNil)
			is(t, "Down", d.Down(), false)
			is(t, "Wake", d.Wake(nil), api.ErrNil)
			is(t, "Wake", d.Wake([]int{1}), api.ErrNil)
			are(t, "Sizes", d.Sizes())
			is(t, "Copy", d.Copy(), nil)
		}
	}
}

// R5

// held is a text whose bytes change with those of the list.
func held(b []byte) string { return unsafe.String(&b[0], len(b)) }

func TestWhatIsHandedInIsKeptByItsContent(t *testing.T) {
	d := disk.New(100)
	a, b, data := []byte("aa"), []byte("bb"), []byte("data")
	fine(t, d.Append(held(a), held(data)))
	copy(data, "DATA")
	copy(a, "AA")
	reads(t, d, "aa", "data")
	fine(t, d.Rename("aa", held(b)))
	copy(b, "BB")
	reads(t, d, "bb", "data")
	are(t, "List", d.List(""), "bb")

	// Over a file of that name, and to a file that is there.
	copy(b, "bb")
	fine(t, d.Append("cc", "more"), d.Rename("cc", held(b)), d.Append(held(b), held(data)), d.Rename(held(b), held(b)))
	copy(b, "BB")
	copy(data, "....")
	reads(t, d, "bb", "moreDATA")
	are(t, "List", d.List("bb"), "bb")
	c := d.Copy()
	fine(t, d.Remove("bb"))
	are(t, "List", d.List(""))
	reads(t, c, "bb", "moreDATA")
}

func TestWakeLeavesTheNumbers(t *testing.T) {
	d := disk.New(100)
	fine(t, d.Append("a", "abc"), d.Append("b", "abc"))
	room := []int{-7, 9, 33, 44}
	fine(t, d.Wake(room[:2]))
	are(t, "the numbers", room, -7, 9, 33, 44)
	room[0], room[1] = 0, 0
	reads(t, d, "a", "a")
	reads(t, d, "b", "a")
}

func TestAnswersShareNothing(t *testing.T) {
	d := disk.New(100)
	fine(t, d.Append("name", "abcdef"), d.Append("other", "x"), d.Sync("name"))
	c := d.Copy()

	s, _ := d.Read("name")
	again, _ := d.Read("name")
	copy(unsafe.Slice(unsafe.StringData(s), len(s)), "ABCDEF")
	is(t, "the other answer", again, "abcdef")

	names, more := d.List(""), c.List("")
	for _, name := range names {
		b := unsafe.Slice(unsafe.StringData(name), len(name))
		for i := range b {
			b[i] = '#'
		}
	}
	names = append(names[:0], "gone", "gone")
	are(t, "the copy's answer", more, "name", "other")

	sizes, less := d.Sizes(), c.Sizes()
	sizes = append(sizes[:0], 7, 7, 7, 7)
	are(t, "the copy's answer", less, 6, 1, 0)
	is(t, "what was written over", len(sizes)+len(names), 6)

	for _, x := range []*disk.Disk{d, c} {
		reads(t, x, "name", "abcdef")
		are(t, "List", x.List(""), "name", "other")
		are(t, "Sizes", x.Sizes(), 6, 1, 0)
		fine(t, x.Append("other", "y"))
		are(t, "Sizes", x.Sizes(), 6, 1, 0, 1)
	}
}
