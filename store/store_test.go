package store_test

import (
	"fmt"
	"slices"
	"strings"
	"testing"
	"unsafe"

	"missive/api"
	"missive/disk"
	"missive/store"
	"missive/wire"
)

// is holds an answer against that which the document asks for.
func is[T comparable](t *testing.T, what string, got, want T) {
	t.Helper()
	if got != want {
		t.Errorf("%s: %s in the place of %s", what, short(got), short(want))
	}
}

// short is the beginning of what an answer is printed as.
func short(x any) string { return fmt.Sprintf("%.200s", fmt.Sprint(x)) }

// are holds a list against that which the document asks for.
func are[T comparable](t *testing.T, what string, got []T, want ...T) {
	t.Helper()
	if !slices.Equal(got, want) {
		t.Errorf("%s: %s in the place of %s", what, short(got), short(want))
	}
}

// fine takes answers that are to be OK.
func fine(t *testing.T, answers ...api.Errno) {
	t.Helper()
	for i, e := range answers {
		if e != api.OK {
			t.Fatalf("answer %d: %d", i, e)
		}
	}
}

// opened is the store of a disk.
func opened(t *testing.T, d *disk.Disk) *store.Store {
	t.Helper()
	s, e := store.Open(d)
	if e != api.OK || s == nil {
		t.Fatalf("Open: %d", e)
	}
	return s
}

// openedNot holds what Open answers against an error.
func openedNot(t *testing.T, what string, d *disk.Disk, want api.Errno) {
	t.Helper()
	if s, e := store.Open(d); e != want || s != nil {
		t.Errorf("%s: Open: %v, %d in the place of %d", what, s, e, want)
	}
}

// fresh is a disk of that room, and a store on it.
func fresh(t *testing.T, room int) (*disk.Disk, *store.Store) {
	t.Helper()
	d := disk.New(room)
	return d, opened(t, d)
}

// rows are rows of keys and values by turns.
func rows(texts ...string) []api.Row {
	var out []api.Row
	for i := 0; i < len(texts); i += 2 {
		out = append(out, api.Row{Key: texts[i], Value: texts[i+1]})
	}
	return out
}

// told is all that a store tells: its rows, in order.
func told(t *testing.T, s *store.Store) []api.Row {
	t.Helper()
	var out []api.Row
	for _, key := range s.List("") {
		value, ok := s.Get(key)
		is(t, "Get of a key that is listed", ok, true)
		out = append(out, api.Row{Key: key, Value: value})
	}
	is(t, "Len", s.Len(), len(out))
	return out
}

// tells holds all that a store tells against rows: keys and values by turns, in order.
func tells(t *testing.T, s *store.Store, texts ...string) {
	t.Helper()
	are(t, "rows", told(t, s), rows(texts...)...)
}

// body is that of a change's frame, put together by hand.
func body(puts []api.Row, dels ...string) string {
	out := string([]byte{byte(len(puts) >> 8), byte(len(puts))})
	for _, row := range puts {
		out += text(row.Key) + text(row.Value)
	}
	out += string([]byte{byte(len(dels) >> 8), byte(len(dels))})
	for _, key := range dels {
		out += text(key)
	}
	return out
}

// text is a text with its length ahead.
func text(s string) string {
	n := len(s)
	return string([]byte{byte(n >> 24), byte(n >> 16), byte(n >> 8), byte(n)}) + s
}

// frame is that of a change.
func frame(puts []api.Row, dels ...string) string { return text(body(puts, dels...)) }

// file holds a file's bytes against those that the document asks for, in digits.
func file(t *testing.T, d *disk.Disk, name, want string) {
	t.Helper()
	got, e := d.Read(name)
	if e != api.OK || got != want {
		t.Errorf("the file %q: %.300s, %d in the place of %.300s", name, wire.Hex(got), e, wire.Hex(want))
	}
}

// holding is a disk of that room with files, names and bytes by turns.
func holding(t *testing.T, room int, files ...string) *disk.Disk {
	t.Helper()
	d := disk.New(room)
	for i := 0; i < len(files); i += 2 {
		fine(t, d.Append(files[i], files[i+1]), d.Sync(files[i]))
	}
	return d
}

// since are the sizes of the operations of a disk behind the first n.
func since(d *disk.Disk, n int) []int { return d.Sizes()[n:] }

// long is a text of so many bytes.
func long(n int) string { return strings.Repeat("x", n) }

func TestExamples(t *testing.T) {
	d, s := fresh(t, 1000)
	is(t, "Do(a 1, b 2; none)", s.Do(rows("a", "1", "b", "2"), nil), api.OK)
	if v, ok := s.Get("a"); v != "1" || !ok {
		t.Errorf("Get(a): %q, %v", v, ok)
	}
	are(t, "List", s.List(""), "a", "b")
	log, _ := d.Read("s")
	is(t, "the log", wire.Hex(log), "00000018"+"0002"+"00000001"+"61"+"00000001"+"31"+"00000001"+"62"+"00000001"+"32"+"0000")

	is(t, "Do(a 3; b)", s.Do(rows("a", "3"), []string{"b"}), api.OK)
	is(t, "Do(a 4; a)", s.Do(rows("a", "4"), []string{"a"}), api.OK)
	is(t, "Len", s.Len(), 0)

	is(t, "Do(no bytes)", s.Do(rows("", "x"), nil), api.ErrArg)
	is(t, "Do(65 bytes)", s.Do(rows(long(65), ""), nil), api.ErrLong)
	is(t, "Do(none; none)", s.Do(nil, nil), api.OK)

	fine(t, d.Arm(2))
	is(t, "Do(c 3; none)", s.Do(rows("c", "3"), nil), api.ErrDown)
	is(t, "Wake(7)", d.Wake([]int{7}), api.OK)
	s = opened(t, d)
	if v, ok := s.Get("c"); v != "" || ok {
		t.Errorf("Get(c): %q, %v", v, ok)
	}
}

// P12.1

func TestOpenWithoutADisk(t *testing.T) {
	openedNot(t, "nil", nil, api.ErrNil)
	openedNot(t, "none that New made", &disk.Disk{}, api.ErrNil)
}

func TestOpenOfADiskThatIsDown(t *testing.T) {
	for _, log := range []string{"", frame(rows("a", "1")), "\x00", text("")} {
		d := holding(t, 100, "s", log)
		fine(t, d.Arm(1))
		is(t, "the last operation", d.Sync("s"), api.ErrDown)
		openedNot(t, "down", d, api.ErrDown)
	}
}

func TestOpenOfNoRows(t *testing.T) {
	for _, d := range []*disk.Disk{disk.New(0), disk.New(100), holding(t, 100, "s", ""), holding(t, 100, "n", frame(rows("a", "1")), "t", "x")} {
		files := d.List("")
		fine(t, d.Arm(1))
		s := opened(t, d)
		tells(t, s)
		is(t, "Down: nothing was to be done", d.Down(), false)
		are(t, "the disk's files", d.List(""), files...)
	}
}

func TestOpenSaysWhatTheLogSays(t *testing.T) {
	for _, x := range []struct {
		frames []string
		want   []string
	}{
		{[]string{frame(rows("a", "1"))}, []string{"a", "1"}},
		{[]string{frame(rows("b", "1", "a", ""))}, []string{"a", "", "b", "1"}},
		{[]string{frame(rows("a", "1", "a", "2", "a", "3"))}, []string{"a", "3"}},
		{[]string{frame(rows("a", "1", "b", "2"), "a")}, []string{"b", "2"}},
		{[]string{frame(nil, "a", "a")}, nil},
		{[]string{frame(rows("a", "1")), frame(rows("b", "2")), frame(nil, "a", "z")}, []string{"b", "2"}},
		{[]string{frame(rows("a", "1")), frame(nil, "a"), frame(rows("a", "2"))}, []string{"a", "2"}},
		{[]string{frame(rows("\x00", "\xff\x00")), frame(rows(long(64), long(api.MaxValue)))}, []string{"\x00", "\xff\x00", long(64), long(api.MaxValue)}},
	} {
		log := strings.Join(x.frames, "")
		d := holding(t, 1<<20, "s", log, "n", "what is left of another one")
		fine(t, d.Arm(1))
		tells(t, opened(t, d), x.want...)
		file(t, d, "s", log)
		is(t, "Down: nothing was to be done", d.Down(), false)
	}
}

func TestOpenOfAFrameOf64(t *testing.T) {
	var puts []api.Row
	for i := range 64 {
		puts = append(puts, api.Row{Key: fmt.Sprintf("%02d", i), Value: "v"})
	}
	is(t, "64 puts", opened(t, holding(t, 1<<12, "s", frame(puts))).Len(), 64)
	is(t, "63 puts, and a del", opened(t, holding(t, 1<<12, "s", frame(puts[:63], "00"))).Len(), 62)
	dels := make([]string, 64)
	for i := range dels {
		dels[i] = puts[i].Key
	}
	is(t, "64 dels", opened(t, holding(t, 1<<13, "s", frame(puts)+frame(nil, dels...))).Len(), 0)
	openedNot(t, "64 puts, and a del", holding(t, 1<<13, "s", frame(puts, "00")), api.ErrForm)
	openedNot(t, "1 put, and 64 dels", holding(t, 1<<13, "s", frame(puts[:1], dels...)), api.ErrForm)
	openedNot(t, "65 puts", holding(t, 1<<13, "s", frame(append(puts, puts[0]))), api.ErrForm)
	openedNot(t, "65 dels", holding(t, 1<<13, "s", frame(nil, append(dels, "z")...)), api.ErrForm)
}

// none are bodies of no change.
func none() []string {
	out := []string{
		"", "\x00", "x", "\x00\x00", "\x00\x00\x00", "\x00\x00\x00\x00", "\x00\x01\x00\x00", "\x00\x00\x00\x01", "\xff\xff\xff\xff",
		body(rows("", "x")), body(nil, ""), body(rows("a", "1", "", "")), body(rows("a", "1"), "b", ""),
		body(rows(long(65), "x")), body(nil, long(65)), body(rows("a", "1"), long(65)), body(rows("a", long(api.MaxValue+1))),
		body(rows("a", "1")) + "\x00", body(rows("a", "1"), "b") + "\x00\x00\x00\x01c", body(rows("a", "1")) + body(rows("a", "1")),
		"\x00\x02" + body(rows("a", "1"))[2:], "\x01\x01" + body(rows("a", "1"))[2:], "\x00\x00" + body(rows("a", "1"))[2:],
	}
	whole := body(rows("a", "1", "bc", ""), "d", "ef")
	for n := range len(whole) {
		out = append(out, whole[:n])
	}
	return out
}

func TestOpenOfFramesThatAreNone(t *testing.T) {
	good := frame(rows("a", "1"))
	for i, b := range none() {
		for _, log := range []string{text(b), good + text(b), text(b) + good, good + text(b) + good, text(b) + "\x00\x00", text(b) + good[:7]} {
			d := holding(t, 1<<20, "s", log, "n", "left")
			fine(t, d.Arm(1))
			openedNot(t, fmt.Sprint("body ", i), d, api.ErrForm)
			file(t, d, "s", log)
			file(t, d, "n", "left")
			is(t, "Down: nothing was to be done", d.Down(), false)
		}
	}
}

// Of a log that was cut anywhere, or that has too few bytes behind it, the frames that are there wholly are left.
func TestOpenOfALogThatWasCut(t *testing.T) {
	frames := []string{frame(rows("a", "1", "b", "2")), frame(rows("a", "3"), "b"), frame(rows("c", "4"))}
	says := [][]string{nil, {"a", "1", "b", "2"}, {"a", "3"}, {"a", "3", "c", "4"}}
	whole := strings.Join(frames, "")
	for n := range len(whole) + 1 {
		count, ahead := 0, 0
		for count < 3 && ahead+len(frames[count]) <= n {
			ahead += len(frames[count])
			count++
		}
		cutsOff(t, whole[:ahead], whole[ahead:n], says[count]...)
	}
	for _, rest := range []string{"\x00", "\xff\xff\xff", "\x00\x00\x00\x01", "\xff\xff\xff\xff", "\xff\xff\xff\xffx", "\x80\x00\x00\x00" + whole, "\x7f\xff\xff\xff" + whole, "\x00\x00\x00\x05\x00\x00\x00\x00"} {
		cutsOff(t, "", rest)
		cutsOff(t, frames[0], rest, says[1]...)
	}
}

// cutsOff holds a store that is opened of some frames, and bytes behind them that are too few, against what the document asks for.
func cutsOff(t *testing.T, frames, rest string, want ...string) {
	t.Helper()
	for _, left := range []int{-1, 0, 5} { // bytes of an "n" that a loss of power left
		d := holding(t, 1000, "s", frames+rest)
		if left >= 0 {
			fine(t, d.Append("n", long(left)))
		}
		done := len(d.Sizes())
		s := opened(t, d)
		tells(t, s, want...)
		file(t, d, "s", frames)
		switch {
		case rest == "":
			are(t, "operations", since(d, done))
			continue
		case left < 0:
			are(t, "operations", since(d, done), len(frames), 0, 0)
		default:
			are(t, "operations", since(d, done), 0, len(frames), 0, 0)
		}
		are(t, "files", d.List(""), "s")
		is(t, "Synced", d.Synced("s"), len(frames))
		fine(t, s.Do(rows("z", "z"), nil))
		file(t, d, "s", frames+frame(rows("z", "z")))
		tells(t, opened(t, d), append(slices.Clone(want), "z", "z")...)
	}
}

func TestOpenThatCannotLayAnew(t *testing.T) {
	good := frame(rows("a", "1"))
	d := holding(t, 2*len(good), "s", good+"\x00")
	openedNot(t, "no room", d, api.ErrFull)
	file(t, d, "s", good+"\x00")
	are(t, "files", d.List(""), "s")
	tells(t, opened(t, holding(t, 2*len(good)+1, "s", good+"\x00")), "a", "1")
	tells(t, opened(t, holding(t, 2*len(good)+1, "n", good, "s", good+"\x00")), "a", "1")

	for after := 1; after <= 5; after++ {
		d := holding(t, 100, "s", good+"\x00", "n", "left")
		fine(t, d.Arm(after))
		if after == 5 {
			tells(t, opened(t, d), "a", "1")
			is(t, "Down", d.Down(), false)
			break
		}
		openedNot(t, fmt.Sprint("power goes at ", after), d, api.ErrDown)
		is(t, "Down", d.Down(), true)
		fine(t, d.Wake([]int{after, after}))
		tells(t, opened(t, d), "a", "1")
		file(t, d, "s", good)
	}
}

// P12.2

func TestLooks(t *testing.T) {
	_, s := fresh(t, 1<<20)
	keys := []string{"b", "ab", "\xff", "a", "abc", "B", "\x00", "b\x00", "ac", long(64)}
	for i, key := range keys {
		fine(t, s.Do(rows(key, fmt.Sprint(i)), nil))
	}
	for i, key := range keys {
		v, ok := s.Get(key)
		is(t, "value", v, fmt.Sprint(i))
		is(t, "there", ok, true)
	}
	for _, key := range []string{"", "c", "abcd", "A", "\x00\x00", long(63), long(65), long(1 << 16)} {
		v, ok := s.Get(key)
		is(t, "value", v, "")
		is(t, "there", ok, false)
	}
	is(t, "Len", s.Len(), 10)
	are(t, "all", s.List(""), "\x00", "B", "a", "ab", "abc", "ac", "b", "b\x00", long(64), "\xff")
	are(t, "a", s.List("a"), "a", "ab", "abc", "ac")
	are(t, "ab", s.List("ab"), "ab", "abc")
	are(t, "b", s.List("b"), "b", "b\x00")
	are(t, "abc", s.List("abc"), "abc")
	are(t, "abcd", s.List("abcd"))
	are(t, "c", s.List("c"))
	are(t, "ff", s.List("\xff"), "\xff")
	are(t, "long", s.List(long(65)))
}

func TestARowWithoutBytesIsThere(t *testing.T) {
	_, s := fresh(t, 100)
	fine(t, s.Do(rows("a", ""), nil))
	v, ok := s.Get("a")
	is(t, "value", v, "")
	is(t, "there", ok, true)
	is(t, "Len", s.Len(), 1)
}

func TestLooksDoNothing(t *testing.T) {
	d, s := fresh(t, 100)
	fine(t, s.Do(rows("a", "1"), nil), d.Arm(1))
	for range 5 {
		tells(t, s, "a", "1")
		fine(t, s.Do(nil, nil))
	}
	is(t, "Down", d.Down(), false)
}

// R3
func TestNone(t *testing.T) {
	for _, s := range []*store.Store{nil, {}, new(store.Store)} {
		v, ok := s.Get("a")
		is(t, "value", v, "")
		is(t, "there", ok, false)
		are(t, "List", s.List(""))
		is(t, "Len", s.Len(), 0)
		is(t, "Do", s.Do(rows("a", "1"), nil), api.ErrNil)
		is(t, "Do(none; none)", s.Do(nil, nil), api.ErrNil)
		is(t, "Do(no bytes)", s.Do(rows("", "1"), []string{long(65)}), api.ErrNil)
		is(t, "Pack", s.Pack(), api.ErrNil)
		is(t, "Len", s.Len(), 0)
	}
}

// P12.3

func TestDo(t *testing.T) {
	d, s := fresh(t, 1<<20)
	log := ""
	for _, x := range []struct {
		puts []api.Row
		dels []string
		want []string
	}{
		{rows("b", "1", "a", "2"), nil, []string{"a", "2", "b", "1"}},
		{rows("a", "3", "a", "4"), nil, []string{"a", "4", "b", "1"}},
		{nil, []string{"b"}, []string{"a", "4"}},
		{nil, []string{"b", "none"}, []string{"a", "4"}},
		{rows("c", "5", "d", "6"), []string{"c", "c", "a"}, []string{"d", "6"}},
		{rows("d", ""), nil, []string{"d", ""}},
		{rows("d", "7"), []string{"d"}, nil},
		{rows("\x00", "\x00\xff"), []string{"\xff"}, []string{"\x00", "\x00\xff"}},
	} {
		done := len(d.Sizes())
		fine(t, s.Do(x.puts, x.dels))
		tells(t, s, x.want...)
		added := frame(x.puts, x.dels...)
		log += added
		file(t, d, "s", log)
		are(t, "operations", since(d, done), len(added), 0)
		is(t, "Synced", d.Synced("s"), len(log))
		are(t, "files", d.List(""), "s")
		tells(t, opened(t, d), x.want...)
	}
}

func TestDoOfNothing(t *testing.T) {
	d, s := fresh(t, 100)
	fine(t, s.Do(nil, nil), s.Do([]api.Row{}, []string{}))
	are(t, "files", d.List(""))
	are(t, "operations", d.Sizes())
	fine(t, s.Do(rows("a", "1"), nil), d.Arm(1))
	is(t, "the last operation", d.Sync("s"), api.ErrDown)
	is(t, "on a disk that is down", s.Do(nil, nil), api.OK)
}

// Nothing is packed either, however long the log is.
func TestDoOfNothingPacksNothing(t *testing.T) {
	d := holding(t, 1<<14, "s", strings.Repeat(frame(rows("a", "1")), 100))
	s := opened(t, d)
	done := len(d.Sizes())
	fine(t, s.Do(nil, nil))
	is(t, "a wrong one", s.Do(rows("", ""), nil), api.ErrArg)
	are(t, "operations", since(d, done))
}

func TestDoOfWhatMayNotBe(t *testing.T) {
	many := make([]api.Row, 65)
	keys := make([]string, 65)
	for i := range many {
		many[i] = api.Row{Key: fmt.Sprint(i), Value: "v"}
		keys[i] = fmt.Sprint(i)
	}
	tooLong := long(65)
	big := long(api.MaxValue + 1)
	ok, arg, above := api.OK, api.ErrArg, api.ErrLong
	for i, x := range []struct {
		puts []api.Row
		dels []string
		want api.Errno
	}{
		{rows("", ""), nil, arg},
		{nil, []string{""}, arg},
		{rows("a", "1", "", "2"), nil, arg},
		{rows("a", "1"), []string{"b", ""}, arg},
		{rows(tooLong, "", "", ""), nil, arg},
		{rows(tooLong, big), []string{tooLong, ""}, arg},
		{rows("a", big, "", "1"), nil, arg},
		{append(slices.Clone(many), api.Row{}), nil, arg},
		{many, []string{""}, arg},
		{rows(tooLong, ""), nil, above},
		{nil, []string{tooLong}, above},
		{rows("a", "1", "b", big), nil, above},
		{rows("a", big), []string{"a"}, above},
		{many, nil, above},
		{nil, keys, above},
		{many[:64], keys[:1], above},
		{many[:1], keys[:64], above},
		{make([]api.Row, 1<<17), make([]string, 1<<17), arg},
		{many[:64], nil, ok},
		{nil, keys[:64], ok},
		{many[:32], keys[:32], ok},
		{rows(long(64), long(api.MaxValue)), []string{long(64)}, ok},
		{rows(long(64), long(api.MaxValue)), nil, ok},
	} {
		d, s := fresh(t, 1<<20)
		fine(t, s.Do(rows("old", "1"), nil))
		done := len(d.Sizes())
		e := s.Do(x.puts, x.dels)
		is(t, fmt.Sprint("Do ", i), e, x.want)
		if e != api.OK {
			tells(t, s, "old", "1")
			file(t, d, "s", frame(rows("old", "1")))
			are(t, "operations", since(d, done))
		}
		is(t, "what it says, opened anew", fmt.Sprint(told(t, opened(t, d))), fmt.Sprint(told(t, s)))
	}
}

// packedSize is how many bytes the frames have that Pack would lay, of so many rows of so many bytes of keys and values in all.
func packedSize(count, bytes int) int { return 8*((count+63)/64) + 8*count + bytes }

// A Do packs the log ahead of it, if that has a byte more than 1024 and twice what would be laid.
func TestDoPacksALongLog(t *testing.T) {
	for _, count := range []int{0, 1, 2, 63, 64, 65, 128, 129} {
		var all []api.Row
		bytes := 0
		for i := range count {
			row := api.Row{Key: fmt.Sprintf("%04d", i), Value: long(i % 9)}
			all, bytes = append(all, row), bytes+len(row.Key)+len(row.Value)
		}
		packed := ""
		for part := range slices.Chunk(all, 64) {
			packed += frame(part)
		}
		is(t, "bytes of the rows", len(packed), packedSize(count, bytes))
		for more := -2; more <= 2; more++ {
			// Frames of a row that comes and goes fill the log up to the bytes that are wanted.
			log, want := packed, 1024+2*len(packed)+more
			over := len(frame(rows("x", ""), "x"))
			for len(log) < want {
				n := want - len(log) - over
				if n > 200+over {
					n = 200
				}
				log += frame(rows("x", long(n)), "x")
			}
			is(t, "bytes of the log", len(log), want)
			d := holding(t, 1<<16, "s", log)
			s := opened(t, d)
			done := len(d.Sizes())
			fine(t, s.Do(rows("new", "1"), nil))
			added := frame(rows("new", "1"))
			if more > 0 {
				file(t, d, "s", packed+added)
				are(t, "operations", since(d, done), len(packed), 0, 0, len(added), 0)
			} else {
				file(t, d, "s", log+added)
				are(t, "operations", since(d, done), len(added), 0)
			}
			is(t, "Len", s.Len(), count+1)
		}
	}
}

// What the rows have is reckoned on, as they come, change and go, and the log is packed again and again.
func TestDoKeepsTheLogShort(t *testing.T) {
	d, s := fresh(t, 1<<20)
	for i := range 3000 {
		key := fmt.Sprint(i * 7 % 90)
		was, _ := d.Read("s")
		packed := packedBy(told(t, s))
		done := len(d.Sizes())
		puts, dels := rows(key, long(i%40), key, long(i%50)), []string{fmt.Sprint(i * 11 % 100)}
		fine(t, s.Do(puts, dels))
		added := frame(puts, dels...)
		if len(was) > 1024+2*len(packed) {
			file(t, d, "s", packed+added)
			are(t, "operations", since(d, done), len(packed), 0, 0, len(added), 0)
		} else {
			file(t, d, "s", was+added)
			are(t, "operations", since(d, done), len(added), 0)
		}
		if t.Failed() {
			t.Fatalf("step %d", i)
		}
	}
}

// packedBy is the log that Pack lays of rows that are in order.
func packedBy(all []api.Row) string {
	out := ""
	for part := range slices.Chunk(all, 64) {
		out += frame(part)
	}
	return out
}

// With too little room for a packed log beside the old one, that it cannot be packed counts for nothing.
func TestDoThatCannotPack(t *testing.T) {
	row := frame(rows("a", long(1000)))
	log := strings.Repeat(row, 4)
	added := frame(nil, "none")
	d := holding(t, len(log)+len(added), "s", log)
	s := opened(t, d)
	fine(t, s.Do(nil, []string{"none"}))
	file(t, d, "s", log+added)
	is(t, "now it is full", s.Do(nil, []string{"none"}), api.ErrFull)
	file(t, d, "s", log+added)
	are(t, "files", d.List(""), "s")
	tells(t, s, "a", long(1000))
	tells(t, opened(t, d), "a", long(1000))
}

// A disk that is full is packed, and the frame put again.
func TestDoOnAFullDisk(t *testing.T) {
	first := frame(rows("a", "1"))
	log := strings.Repeat(first, 4)
	more := rows("b", long(40))
	added := frame(more)
	for _, room := range []int{len(log), len(log) + len(first), len(log) + len(added) - 1, len(log) + len(added)} {
		d := holding(t, room, "s", log)
		s := opened(t, d)
		done := len(d.Sizes())
		e := s.Do(more, nil)
		switch room {
		case len(log): // no room for the packed log
			is(t, "Do", e, api.ErrFull)
			file(t, d, "s", log)
			tells(t, s, "a", "1")
			are(t, "operations", since(d, done))
		case len(log) + len(added):
			is(t, "Do", e, api.OK)
			file(t, d, "s", log+added)
			tells(t, s, "a", "1", "b", long(40))
		default:
			is(t, "Do", e, api.OK)
			file(t, d, "s", first+added)
			tells(t, s, "a", "1", "b", long(40))
			are(t, "operations", since(d, done), len(first), 0, 0, len(added), 0)
		}
		are(t, "files", d.List(""), "s")
		is(t, "what it says, opened anew", fmt.Sprint(told(t, opened(t, d))), fmt.Sprint(told(t, s)))
	}
}

// Where there is no room behind a packed log either, the rows are as ahead, and the store goes on.
func TestDoOfTooMuch(t *testing.T) {
	first := frame(rows("a", "1"))
	d := holding(t, 100, "s", strings.Repeat(first, 4))
	s := opened(t, d)
	for range 3 {
		is(t, "Do", s.Do(rows("a", "2", "b", long(90)), nil), api.ErrFull)
		tells(t, s, "a", "1")
		file(t, d, "s", first)
		are(t, "files", d.List(""), "s")
		tells(t, opened(t, d), "a", "1")
	}
	fine(t, s.Do(rows("a", "3"), nil))
	file(t, d, "s", first+frame(rows("a", "3")))
	tells(t, opened(t, d), "a", "3")
}

// What a loss of power left of an "n" takes room away, till the log is laid anew.
func TestDoBesideWhatIsLeft(t *testing.T) {
	first, second := frame(rows("a", "1")), frame(rows("b", "2"))
	d := holding(t, 60, "n", long(30), "s", first)
	s := opened(t, d)
	done := len(d.Sizes())
	fine(t, s.Do(rows("b", "2"), nil))
	file(t, d, "s", first+second)
	are(t, "operations", since(d, done), 0, len(first), 0, 0, len(second), 0)
	are(t, "files", d.List(""), "s")
}

func TestDoWhenThePowerGoes(t *testing.T) {
	for after := 1; after <= 3; after++ {
		d, s := fresh(t, 100)
		fine(t, s.Do(rows("a", "1"), nil), d.Arm(after))
		e := s.Do(rows("a", "2"), nil)
		if after == 3 {
			is(t, "Do", e, api.OK)
			is(t, "Down", d.Down(), false)
			tells(t, s, "a", "2")
			break
		}
		is(t, "Do", e, api.ErrDown)
		is(t, "Down", d.Down(), true)
		tells(t, s, "a", "1")
		is(t, "Do again", s.Do(rows("a", "2"), nil), api.ErrDown)
		is(t, "Do of what may not be", s.Do(rows("", "2"), nil), api.ErrArg)
		is(t, "Do of what is too long", s.Do(rows(long(65), "2"), nil), api.ErrLong)
		is(t, "Pack", s.Pack(), api.ErrDown)
		tells(t, s, "a", "1")
		c := d.Copy()
		fine(t, d.Wake(nil), c.Wake([]int{-1}))
		tells(t, opened(t, d), "a", "1")
		want := "1"
		if after == 2 { // all bytes of the frame stayed, though they were not synced
			want = "2"
		}
		tells(t, opened(t, c), "a", want)
	}
}

// An error of the packing ahead, other than ErrFull, is the call's, and nothing is done behind it.
func TestDoWhenThePowerGoesAtAPack(t *testing.T) {
	first := frame(rows("a", "1"))
	log := strings.Repeat(first, 100)
	for after := 1; after <= 3; after++ {
		d := holding(t, 1<<14, "s", log)
		s := opened(t, d)
		fine(t, d.Arm(after))
		is(t, "Do", s.Do(rows("b", "2"), nil), api.ErrDown)
		is(t, "Down", d.Down(), true)
		fine(t, d.Wake([]int{-1, -1}))
		file(t, d, "s", log)
		tells(t, opened(t, d), "a", "1")
	}
	// On a full disk: Append, Append of "n", Sync, Rename, Append.
	log = strings.Repeat(first, 4)
	for after := 1; after <= 6; after++ {
		d := holding(t, len(log)+len(first), "s", log)
		s := opened(t, d)
		fine(t, d.Arm(after))
		is(t, "Do", s.Do(rows("b", long(40)), nil), api.ErrDown)
		is(t, "Down", d.Down(), true)
		tells(t, s, "a", "1")
		fine(t, d.Wake(nil))
		tells(t, opened(t, d), "a", "1")
	}
}

// P12.4

func TestPack(t *testing.T) {
	for _, count := range []int{0, 1, 2, 63, 64, 65, 127, 128, 129, 500} {
		d, s := fresh(t, 1<<20)
		var want []api.Row
		for i := range count {
			row := api.Row{Key: fmt.Sprintf("%03d", i*11%count), Value: fmt.Sprint(i)}
			fine(t, s.Do([]api.Row{row, {Key: "gone", Value: "x"}}, []string{"gone"}))
			want = append(want, row)
		}
		slices.SortFunc(want, func(a, b api.Row) int { return strings.Compare(a.Key, b.Key) })
		packed := packedBy(want)
		for range 2 {
			done := len(d.Sizes())
			fine(t, s.Pack())
			file(t, d, "s", packed)
			are(t, "operations", since(d, done), len(packed), 0, 0)
			are(t, "files", d.List(""), "s")
			is(t, "Synced", d.Synced("s"), len(packed))
			are(t, "rows", told(t, s), want...)
		}
		fine(t, d.Wake(nil))
		are(t, "rows, opened anew", told(t, opened(t, d)), want...)
	}
}

func TestPackInDigits(t *testing.T) {
	d, s := fresh(t, 1000)
	fine(t, s.Do(rows("b", "2"), nil), s.Do(rows("a", "", "c", "3"), nil), s.Do(rows("b", "xy"), []string{"c"}), s.Pack())
	log, _ := d.Read("s")
	is(t, "the log", wire.Hex(log), "00000018"+"0002"+"00000001"+"61"+"00000000"+"00000001"+"62"+"00000002"+"7879"+"0000")
	fine(t, s.Do(nil, []string{"a", "b"}), s.Pack())
	file(t, d, "s", "")
	tells(t, opened(t, d))
}

// Behind a Pack frames are put to the new log, and its bytes are those that count.
func TestDoBehindAPack(t *testing.T) {
	d, s := fresh(t, 1<<16)
	added := frame(rows("a", "1"))
	for range 50 {
		fine(t, s.Do(rows("a", "1"), nil))
	}
	fine(t, s.Pack())
	want := added
	for range 50 {
		fine(t, s.Do(rows("a", "1"), nil))
		want += added
		file(t, d, "s", want)
	}
}

func TestPackWithoutRoom(t *testing.T) {
	log := frame(rows("a", "1")) + frame(rows("b", "2")) + frame(nil, "c")
	packed := frame(rows("a", "1", "b", "2"))
	for _, left := range []int{-1, 0, 3, len(packed) - 1} {
		d := holding(t, len(log)+len(packed)-1, "s", log)
		if left >= 0 {
			fine(t, d.Append("n", long(left)))
		}
		s := opened(t, d)
		is(t, "Pack", s.Pack(), api.ErrFull)
		file(t, d, "s", log)
		are(t, "files", d.List(""), "s")
		tells(t, s, "a", "1", "b", "2")
		tells(t, opened(t, d), "a", "1", "b", "2")
		fine(t, s.Do(rows("a", ""), nil))
		tells(t, opened(t, d), "a", "", "b", "2")
	}
	d := holding(t, len(log)+len(packed), "s", log)
	fine(t, opened(t, d).Pack())
	file(t, d, "s", packed)
}

// That "n" is removed again is one of the disk's operations, be it there or not, in Pack and wherever Do packs: the power goes at each operation, and with one more than there are it does not.
func TestPackWithoutRoomRemovesAgain(t *testing.T) {
	pack := func(s *store.Store) api.Errno { return s.Pack() }
	put := func(s *store.Store) api.Errno { return s.Do(nil, []string{"c"}) }
	short := frame(rows("a", "1"))
	tall := strings.Repeat(frame(rows("a", long(1000))), 4) // a Do packs it
	added := frame(nil, "c")
	down, full, ok := api.ErrDown, api.ErrFull, api.OK
	for _, x := range []struct {
		what string
		log  string
		free int
		left bool // is there an "n" that a loss of power left?
		call func(*store.Store) api.Errno
		want []api.Errno // by the operation at which the power goes; the last one is that behind all
	}{
		{"Pack: Append n, Remove n", short, 0, false, pack, []api.Errno{down, full, full}},
		{"Pack: Remove n, Append n, Remove n", short, 0, true, pack, []api.Errno{down, down, full, full}},
		{"Do: Append s, Append n, Remove n", short, 0, false, put, []api.Errno{down, down, full, full}},
		{"Do: Append s, Remove n, Append n, Remove n", short, 0, true, put, []api.Errno{down, down, down, full, full}},
		{"Do: Append n, Remove n, Append s, Sync s", tall, len(added), false, put, []api.Errno{down, down, down, down, ok}},
		{"Do: Remove n, Append n, Remove n, Append s, Sync s", tall, len(added), true, put, []api.Errno{down, down, down, down, down, ok}},
		{"Do: Append n, Remove n, Append s, Append n, Remove n", tall, 0, false, put, []api.Errno{down, down, down, down, full, full}},
	} {
		for i, want := range x.want {
			d := holding(t, len(x.log)+x.free, "s", x.log)
			if x.left {
				fine(t, d.Append("n", ""))
			}
			s := opened(t, d)
			ahead := told(t, s)
			fine(t, d.Arm(i+1))
			what := fmt.Sprintf("%s; the power goes at %d", x.what, i+1)
			is(t, what, x.call(s), want)
			is(t, what+": Down", d.Down(), i+1 < len(x.want))
			are(t, what+": rows", told(t, s), ahead...)
			fine(t, d.Wake(nil))
			are(t, what+": rows, opened anew", told(t, opened(t, d)), ahead...)
		}
	}
}

// A log that Open cannot lay anew is given up as it is: there "n" is not removed again.
func TestOpenWithoutRoomRemovesNothingAgain(t *testing.T) {
	good := frame(rows("a", "1"))
	for _, left := range []int{0, 1} { // an "n" that a loss of power left is removed ahead
		d := holding(t, 2*len(good), "s", good+"\x00")
		if left == 1 {
			fine(t, d.Append("n", ""))
		}
		fine(t, d.Arm(left+2))
		openedNot(t, "no room", d, api.ErrFull)
		is(t, "Down", d.Down(), false)
		is(t, "the operation behind", d.Sync("s"), api.ErrDown)
	}
}

func TestPackTakesAwayWhatIsLeft(t *testing.T) {
	log, packed := frame(rows("a", "1"))+frame(nil, "z"), frame(rows("a", "1"))
	for _, left := range []string{"", "x", packed, long(200)} {
		d := holding(t, 300, "n", left, "na", "another one's", "s", log)
		s := opened(t, d)
		done := len(d.Sizes())
		fine(t, s.Pack())
		are(t, "operations", since(d, done), 0, len(packed), 0, 0)
		file(t, d, "s", packed)
		file(t, d, "na", "another one's")
		are(t, "files", d.List(""), "na", "s")
	}
	// A file whose name begins so is not that file.
	d := holding(t, 300, "na", "another one's", "s", log)
	fine(t, d.Arm(4), opened(t, d).Pack())
	is(t, "Down: three operations", d.Down(), false)
	is(t, "the fourth one", d.Sync("s"), api.ErrDown)
}

func TestPackWhenThePowerGoes(t *testing.T) {
	log, packed := frame(rows("a", "1"))+frame(nil, "z"), frame(rows("a", "1"))
	for _, left := range []int{0, 1} {
		for after := 1; after <= 4+left; after++ {
			for keep := range len(packed) + 1 {
				d := holding(t, 300, "s", log)
				if left == 1 {
					fine(t, d.Append("n", "left"))
				}
				s := opened(t, d)
				fine(t, d.Arm(after))
				e := s.Pack()
				tells(t, s, "a", "1")
				if after == 4+left {
					is(t, "Pack", e, api.OK)
					is(t, "Down", d.Down(), false)
					continue
				}
				is(t, "Pack", e, api.ErrDown)
				is(t, "Down", d.Down(), true)
				fine(t, d.Wake([]int{keep, keep}))
				file(t, d, "s", log)
				s = opened(t, d)
				tells(t, s, "a", "1")
				fine(t, s.Pack())
				file(t, d, "s", packed)
				are(t, "files", d.List(""), "s")
			}
		}
	}
}

// R5

// held is a text whose bytes change with those of the list.
func held(b []byte) string { return unsafe.String(&b[0], len(b)) }

func TestWhatIsHandedInIsKeptByItsContent(t *testing.T) {
	d, s := fresh(t, 1000)
	key, value, gone := []byte("key"), []byte("value"), []byte("gone")
	fine(t, s.Do(rows("gone", "1", "GONE", "2"), nil))
	room := append(rows(held(key), held(value)), rows("behind", "1")...)
	names := []string{held(gone), "behind"}
	fine(t, s.Do(room[:1], names[:1]))
	are(t, "the room behind the puts", room[1:], rows("behind", "1")...)
	are(t, "the room behind the dels", names[1:], "behind")
	copy(key, "KEY")
	copy(value, "VALUE")
	copy(gone, "GONE")
	room[0], names[0] = api.Row{}, ""
	tells(t, s, "GONE", "2", "key", "value")
	fine(t, s.Pack())
	file(t, d, "s", frame(rows("GONE", "2", "key", "value")))

	// To a row that is there.
	copy(key, "key")
	fine(t, s.Do(rows(held(key), held(value)), nil))
	copy(key, "...")
	copy(value, ".....")
	tells(t, s, "GONE", "2", "key", "VALUE")
	tells(t, opened(t, d), "GONE", "2", "key", "VALUE")
}

func TestAnswersShareNothing(t *testing.T) {
	d, s := fresh(t, 1000)
	fine(t, s.Do(rows("key", "value", "other", "x"), nil))
	v, _ := s.Get("key")
	again, _ := s.Get("key")
	copy(unsafe.Slice(unsafe.StringData(v), len(v)), "#####")
	is(t, "the other answer", again, "value")
	keys := s.List("")
	for _, key := range keys {
		b := unsafe.Slice(unsafe.StringData(key), len(key))
		for i := range b {
			b[i] = '#'
		}
	}
	tells(t, s, "key", "value", "other", "x")
	fine(t, s.Pack())
	tells(t, opened(t, d), "key", "value", "other", "x")
}

// Two disks' stores have nothing in common.
func TestStoresAreTheirOwn(t *testing.T) {
	d, s := fresh(t, 1000)
	fine(t, s.Do(rows("a", "1"), nil))
	c := opened(t, d.Copy())
	fine(t, s.Do(rows("a", "2", "b", "1"), nil), c.Do(rows("a", "3"), nil))
	tells(t, s, "a", "2", "b", "1")
	tells(t, c, "a", "3")
	tells(t, opened(t, d), "a", "2", "b", "1")
}
