package session_test

import (
	"fmt"
	"math"
	"reflect"
	"strings"
	"testing"
	"unsafe"

	"missive/api"
	"missive/disk"
	"missive/prim"
	"missive/ratchet"
	"missive/session"
	"missive/store"
)

// isMessage looks who began, by a message, and whether it says how.
func isMessage(t *testing.T, in string, began byte, first string) {
	t.Helper()
	if got, _, ok := cut(in[1:]); in[0] != began || got != first || !ok {
		t.Fatalf("a message of %d with the first part %x; want %d and %x", in[0], got, began, first)
	}
}

// rowsAre looks which rows' keys an answer puts and lets go.
func rowsAre(t *testing.T, a answer, puts, dels []string) {
	t.Helper()
	rows, gone := a.changes()
	var keys []string
	for _, row := range rows {
		keys = append(keys, row.Key)
	}
	if !reflect.DeepEqual(keys, puts) || !reflect.DeepEqual(gone, dels) {
		t.Fatalf("puts %q, dels %q; want %q and %q", keys, gone, puts, dels)
	}
}

func TestExamples(t *testing.T) {
	both(t, func(t *testing.T, p *prim.Prim) {
		draws := 0
		a, b := settled(t, p, 2, 0, &draws), settled(t, p, 4, 1, &draws)
		rows := a.keep(b.identity, 1, b.pre, 1, b.onces).rows
		b.put(rows...)
		x := b.bundle
		x.PreId, x.OnceId, x.Once = 1, 1, b.publicOf(b.onces[0])
		x = b.signed(x)

		a.refused("Write ahead of Meet", a.write(4, true, "a"), api.ErrNone)
		a.has(4, false, false)
		got := a.meet(4, x, [2]string{a.draw(), a.draw()})
		rowsAre(t, got, []string{"s040"}, nil)
		a.has(4, false, false)
		a.done(got)
		a.has(4, true, false)
		a.refused("Meet again", a.meet(4, x, [2]string{a.draw(), a.draw()}), api.ErrBusy)

		one, two := a.says(b, true, "a"), a.says(b, true, "b")
		at, _ := a.s.Get("s040")
		begun, _ := keptOf(at)
		part := firstPart(begun.public, 1, 1)
		isMessage(t, one, 0, part)
		isMessage(t, two, 0, part)

		b.has(2, false, false)
		got = b.hears(a, two, "b")
		rowsAre(t, got, []string{"s021"}, []string{"ko0000000001"})
		b.has(2, false, true)
		if _, is := b.s.Get("ko0000000001"); is {
			t.Error("the once key is there still")
		}
		b.hears(a, one, "a")
		back := b.says(a, false, "c")
		isMessage(t, back, 1, "")
		if got = a.hears(b, back, "c"); !got.read.Mine {
			t.Error("not mine")
		}
		three := a.says(b, true, "d")
		isMessage(t, three, 0, "")
		b.hears(a, three, "d")
		for _, in := range []string{one, two, three} {
			if got = b.gets(a, in); got.e == api.OK {
				t.Errorf("read again: %s", told(got))
			}
		}
	})
}

// P20.1

// addresses are some, of which those from 2 to 7 are devices'.
func addresses() []int {
	l := []int{math.MinInt, math.MinInt32, -256, 8, 9, 10, 20, 40, 100, 102, 256, 258, 260, 65538, 1<<32 + 2, math.MaxInt}
	for i := -8; i < 8; i++ {
		l = append(l, i)
	}
	return l
}

func isDevice(address int) bool { return address >= 2 && address <= 7 }

func TestNew(t *testing.T) {
	both(t, func(t *testing.T, p *prim.Prim) {
		s, e := store.Open(disk.New(1 << 10))
		if e != api.OK {
			t.Fatal(e)
		}
		for _, self := range addresses() {
			b, e := session.New(p, s, self)
			if is := isDevice(self); is && (b == nil || e != api.OK) || !is && (b != nil || e != api.ErrArg) {
				t.Errorf("New(%d): %v, %d", self, b, e)
			}
			for _, q := range []*prim.Prim{nil, {}} {
				if b, e := session.New(q, s, self); b != nil || e != api.ErrNil {
					t.Errorf("without a prim: New(%d): %v, %d", self, b, e)
				}
			}
			for _, z := range []*store.Store{nil, {}} {
				if b, e := session.New(p, z, self); b != nil || e != api.ErrNil {
					t.Errorf("without a store: New(%d): %v, %d", self, b, e)
				}
			}
			if b, e := session.New(nil, nil, self); b != nil || e != api.ErrNil {
				t.Errorf("without both: New(%d): %v, %d", self, b, e)
			}
		}
		if x := looked(t, p); s.Len() != 0 || len(x.journal) != 0 || len(x.terms) != 0 {
			t.Error("New did something")
		}
	})
}

// A store whose disk is down is one: the book tells what its rows are.
func TestStoreThatIsDown(t *testing.T) {
	both(t, func(t *testing.T, p *prim.Prim) {
		a, b := pair(t, p)
		a.meets(b, b.with(0))
		if e := a.disk.Arm(1); e != api.OK {
			t.Fatal(e)
		}
		if e := a.s.Do([]api.Row{{Key: "x"}}, nil); e != api.ErrDown {
			t.Fatal(e)
		}
		book, e := session.New(p, a.s, 2)
		if e != api.OK {
			t.Fatalf("New: %d", e)
		}
		a.b = book
		a.has(4, true, false)
		if got := a.write(4, true, "x"); got.e != api.OK {
			t.Errorf("%s", told(got))
		}
	})
}

// The book holds both, and knows nothing beside the store's rows.
func TestBooksOfOneStore(t *testing.T) {
	both(t, func(t *testing.T, p *prim.Prim) {
		a, b := pair(t, p)
		was := a.b
		a.open()
		first := a.b
		again, e := session.New(p, a.s, 2)
		if e != api.OK {
			t.Fatal(e)
		}
		a.meets(b, b.with(0))
		if !again.Has(4, true) || !first.Has(4, true) || was.Has(4, true) {
			t.Error("a book of the same store does not know of the session, or one of another store does")
		}
		one := a.says(b, true, "one")
		a.b = again
		two := a.says(b, true, "two")
		b.hears(a, one, "one")
		b.open()
		b.hears(a, two, "two")
	})
}

// R1, R3

func TestNoBook(t *testing.T) {
	for _, b := range []*session.Book{nil, {}, new(session.Book)} {
		for _, peer := range []int{-1, 0, 2, 4, 9} {
			if rows, e := b.Keep("", peer, "", peer, nil); len(rows) != 0 || e != api.ErrNil {
				t.Errorf("Keep: %v, %d", rows, e)
			}
			if rows, e := b.Keep("a", 1, "b", 1, []string{"c"}); len(rows) != 0 || e != api.ErrNil {
				t.Errorf("Keep: %v, %d", rows, e)
			}
			if b.Has(peer, true) || b.Has(peer, false) {
				t.Error("Has: true")
			}
			if rows, e := b.Meet(peer, api.Bundle{}, [2]string{}); len(rows) != 0 || e != api.ErrNil {
				t.Errorf("Meet: %v, %d", rows, e)
			}
			if out, rows, e := b.Write(peer, true, "x"); out != "" || len(rows) != 0 || e != api.ErrNil {
				t.Errorf("Write: %q, %v, %d", out, rows, e)
			}
			if r, e := b.Read(peer, "", "", ""); !reflect.DeepEqual(r, api.Read{}) || e != api.ErrNil {
				t.Errorf("Read: %v, %d", r, e)
			}
		}
	}
}

// P20.2

// word has n bytes.
func word(n int) string { return strings.Repeat("w", n) }

// words are some of one byte each, in order.
func letters(n int) []string {
	var out []string
	for i := range n {
		out = append(out, string([]byte{byte('a' + i)}))
	}
	return out
}

func TestKeep(t *testing.T) {
	both(t, func(t *testing.T, p *prim.Prim) {
		d := made(t, p, 2)
		a := d.keep("me", 12, "pre", 1048576, []string{"x", "y"})
		want := []api.Row{{Key: "ki", Value: "me"}, {Key: "kp0000000012", Value: "pre"},
			{Key: "ko0001048576", Value: "x"}, {Key: "ko0001048577", Value: "y"}}
		if !reflect.DeepEqual(a, answer{rows: want}) {
			t.Errorf("%s", told(a))
		}
		for _, id := range []int{1, 2, 9, 10, 99, 100, 1 << 19, mostKept - 1, mostKept} {
			for _, many := range []int{0, 1, 2, 19, 20} {
				d.done(d.keep("i", id, "p", mostKept+1-id, letters(many)))
				d.done(d.keep("i", mostKept+1-id, "p", id, letters(many)))
			}
		}
		for _, n := range []int{1, 2, 32, 255, 256, mostBytes - 1, mostBytes} {
			for i := range 4 {
				l := letters(4)
				l[i] = word(n)
				if a := d.keep(l[0], 3, l[1], 4, l[2:]); a.e != api.OK {
					t.Errorf("%d bytes at %d: %s", n, i, told(a))
				}
			}
		}
	})
}

func TestKeepRefuses(t *testing.T) {
	both(t, func(t *testing.T, p *prim.Prim) {
		d := made(t, p, 7)
		refused := func(what string, a answer) {
			t.Helper()
			d.refused(what, a, api.ErrArg)
		}
		for _, id := range []int{math.MinInt, -1, 0, mostKept + 1, 1 << 32, 1<<32 + 1, math.MaxInt} {
			refused(fmt.Sprint("the pre id ", id), d.keep("i", id, "p", 1, letters(1)))
			refused(fmt.Sprint("the once id ", id), d.keep("i", 1, "p", id, letters(1)))
			refused(fmt.Sprint("the once id of none ", id), d.keep("i", 1, "p", id, nil))
		}
		for _, n := range []int{0, mostBytes + 1, 1 << 18} {
			for i := range 5 {
				l := letters(5)
				l[i] = word(n)
				refused(fmt.Sprint(n, " bytes at ", i), d.keep(l[0], 3, l[1], 4, l[2:]))
			}
		}
		refused("21 once keys", d.keep("i", 1, "p", 1, letters(21)))
		refused("many once keys", d.keep("i", 1, "p", 1, make([]string, 1000)))
	})
}

// Secrets that are kept take the place of those of the same ids, and of no others.
func TestKeepAgain(t *testing.T) {
	both(t, func(t *testing.T, p *prim.Prim) {
		d := made(t, p, 2)
		d.done(d.keep("i", 1, "p", 1, []string{"a", "b"}))
		d.done(d.keep("j", 2, "q", 2, []string{"c", "d"}))
		want := []api.Row{{Key: "ki", Value: "j"}, {Key: "ko0000000001", Value: "a"}, {Key: "ko0000000002", Value: "c"},
			{Key: "ko0000000003", Value: "d"}, {Key: "kp0000000001", Value: "p"}, {Key: "kp0000000002", Value: "q"}}
		if got := rowsOf(d.s); !reflect.DeepEqual(got, want) {
			t.Errorf("%q; want %q", got, want)
		}
	})
}

// P20.3

func TestHas(t *testing.T) {
	both(t, func(t *testing.T, p *prim.Prim) {
		for self := 2; self < 8; self++ {
			for _, mine := range []bool{true, false} {
				for peer := 2; peer < 8; peer++ {
					d := made(t, p, self)
					d.put(api.Row{Key: keyAt(peer, mine), Value: "none of a session"})
					for other := 2; other < 8; other++ {
						is := other == peer && peer != self
						d.has(other, is && mine, is && !mine)
					}
				}
			}
		}
	})
}

// An address that is none has no session, whatever rows there are.
func TestHasOfNoDevice(t *testing.T) {
	both(t, func(t *testing.T, p *prim.Prim) {
		d := made(t, p, 4)
		for i := range 100 {
			d.put(api.Row{Key: keyAt(i, true)}, api.Row{Key: keyAt(i, false)})
		}
		d.put(api.Row{Key: "s1000"}, api.Row{Key: "s1001"}, api.Row{Key: "s-10"}, api.Row{Key: "s-11"}, api.Row{Key: "s0-10"}, api.Row{Key: "s"})
		for _, peer := range addresses() {
			is := isDevice(peer) && peer != 4
			d.has(peer, is, is)
		}
	})
}

// P20.4

func TestMeet(t *testing.T) {
	both(t, func(t *testing.T, p *prim.Prim) {
		draws := 0
		var all []*home
		for self := 2; self < 8; self++ {
			all = append(all, settled(t, p, self, 2, &draws))
		}
		for i, a := range all {
			for j, b := range all {
				if i == j {
					continue
				}
				x := b.bundle
				if j%2 == 0 {
					x = b.with(1)
				}
				got := a.meet(b.self, x, [2]string{a.draw(), a.draw()})
				rowsAre(t, got, []string{keyAt(b.self, true)}, nil)
				a.has(b.self, false, false)
				a.done(got)
				a.has(b.self, true, false)
			}
		}
	})
}

// The ids in a bundle are those of the first part, and may be greater than those of secrets that are kept.
func TestMeetWithGreatIds(t *testing.T) {
	both(t, func(t *testing.T, p *prim.Prim) {
		for _, id := range []int{1, 255, 256, 1 << 16, mostKept + 1, 1 << 24, 1<<30 - 1, 1 << 30} {
			a, b := pair(t, p)
			x := b.with(0)
			x.PreId, x.OnceId = id, 1<<30+1-id
			a.meets(b, b.signed(x))
			in := a.says(b, true, "x")
			if _, preId, onceId, ok := split(firstOf(in)); preId != id || onceId != 1<<30+1-id || !ok {
				t.Errorf("%d, %d; want %d", preId, onceId, id)
			}
			b.fails("no such ids", a, in, api.ErrNone)
		}
	})
}

// firstOf is the first part of a message.
func firstOf(in string) string {
	s, _, _ := cut(in[1:])
	return s
}

// sealedOf is the ratchet's message in one.
func sealedOf(in string) string {
	_, s, _ := cut(in[1:])
	return s
}

// message puts one together.
func message(began byte, first, sealed string) string {
	return string([]byte{began}) + texts(first) + sealed
}

func TestMeetRefusesPeers(t *testing.T) {
	both(t, func(t *testing.T, p *prim.Prim) {
		a, b := pair(t, p)
		d := [2]string{draw(900), draw(901)}
		for _, peer := range addresses() {
			if peer != 4 {
				a.refused(fmt.Sprint("of ", peer), a.meet(peer, b.with(0), d), api.ErrArg)
			}
			x := b.with(0)
			x.User, x.Device = (peer-2)/2, (peer-2)%2
			if !isDevice(peer) || peer == 2 {
				a.refused(fmt.Sprint("as of ", peer), a.meet(peer, x, d), api.ErrArg)
			}
		}
		for user := -2; user < 5; user++ {
			for device := -4; device < 5; device++ {
				x := b.with(0)
				x.User, x.Device = user, device
				if user != 1 || device != 0 {
					a.refused(fmt.Sprint("a bundle of ", user, " and ", device), a.meet(4, x, d), api.ErrArg)
				}
			}
		}
		for _, v := range []int{math.MinInt, math.MinInt64 / 2, 1 << 32, 1<<32 + 1, math.MaxInt} {
			x, y := b.with(0), b.with(0)
			x.User, y.Device = v, v
			a.refused(fmt.Sprint("a bundle of ", v), a.meet(4, x, d), api.ErrArg)
			a.refused(fmt.Sprint("a bundle of the device ", v), a.meet(4, y, d), api.ErrArg)
		}
		a.refused("oneself", a.meet(2, a.with(0), d), api.ErrArg)
	})
}

// Of several errors the one that the chapter names first is answered.
func TestErrorsOfMeet(t *testing.T) {
	both(t, func(t *testing.T, p *prim.Prim) {
		a, b := pair(t, p)
		d := [2]string{draw(900), draw(901)}
		ill, other := b.with(0), b.with(0)
		ill.PreSig = "none"
		other.User = 2
		unsigned := ill
		ill.Dh = ""

		a.put(api.Row{Key: "s040", Value: "none of a session"})
		a.refused("of another one, busy", a.meet(4, other, d), api.ErrArg)
		a.refused("busy, a bundle that may not be", a.meet(4, ill, d), api.ErrBusy)
		a.drop("ki")
		a.refused("busy, no secret", a.meet(4, b.with(0), d), api.ErrBusy)
		a.drop("s040")
		a.refused("no secret, a bundle that may not be", a.meet(4, ill, d), api.ErrNone)
		a.refused("no secret", a.meet(4, b.with(0), d), api.ErrNone)
		a.put(api.Row{Key: "ki", Value: a.identity})
		a.refused("a bundle that may not be", a.meet(4, ill, d), api.ErrArg)
		a.refused("one that is not signed", a.meet(4, unsigned, d), api.ErrSign)

		a.put(api.Row{Key: "s041", Value: "one that the peer began"}, api.Row{Key: "s050", Value: "one with another one"})
		a.meets(b, b.with(0))
	})
}

// A row that Keep cannot have told keeps no secret.
func TestRowsOfNoSecrets(t *testing.T) {
	both(t, func(t *testing.T, p *prim.Prim) {
		for _, ill := range []string{"", word(mostBytes + 1)} {
			a, b := pair(t, p)
			a.meets(b, b.with(0))
			in := a.says(b, true, "x")
			was := rowsOf(b.s)
			for _, key := range []string{"ki", "kp0000000005", "ko0000000007"} {
				b.put(api.Row{Key: key, Value: ill})
				b.loose = true
				b.fails(key, a, in, api.ErrNone)
				if key == "ki" {
					b.refused(key, b.meet(2, a.bundle, [2]string{draw(1), draw(2)}), api.ErrNone)
				}
				b.loose = false
				b.put(was...)
			}
			b.hears(a, in, "x")
		}
	})
}

// With real crypto what is no key, and a draw that has not 32 bytes, is the prim's to refuse.
func TestMeetRefusesKeys(t *testing.T) {
	p, _ := prim.New(api.KitReal)
	a, b := pair(t, p)
	d := [2]string{draw(900), draw(901)}
	for _, n := range []int{0, 1, 31, 33} {
		a.refused("the first draw", a.meet(4, b.with(0), [2]string{word(n), d[1]}), api.ErrKey)
		a.refused("the second draw", a.meet(4, b.with(0), [2]string{d[0], word(n)}), api.ErrKey)
		if n == 0 {
			continue
		}
		x, y, z := b.with(0), b.with(0), b.with(0)
		x.Dh, y.Once, z.Pre = word(n), word(n), word(n)
		a.refused("Dh", a.meet(4, x, d), api.ErrKey)
		a.refused("Once", a.meet(4, y, d), api.ErrKey)
		a.refused("Pre", a.meet(4, b.signed(z), d), api.ErrKey)
		a.put(api.Row{Key: "ki", Value: word(n)})
		a.refused("ki", a.meet(4, b.with(0), d), api.ErrKey)
		a.put(api.Row{Key: "ki", Value: a.identity})
	}
	a.meets(b, b.with(0))
}

// With terms texts are of any length, but those in a ratchet.
func TestMeetWithLongTexts(t *testing.T) {
	p, _ := prim.New(api.KitTerm)
	for _, n := range []int{1, 999, 1000, 1001, mostBytes - 11} { // more are not signed
		a, b := pair(t, p)
		a.put(api.Row{Key: "ki", Value: word(mostBytes)})
		x := b.with(0)
		x.Dh, x.Once, x.Pre = word(mostBytes), word(mostBytes), word(n)
		x = b.signed(x)
		got := a.meet(4, x, [2]string{"", ""})
		if n <= 1000 && got.e != api.OK {
			t.Errorf("%d: %s", n, told(got))
		}
		if n > 1000 {
			a.refused("a long pre key", got, api.ErrLong)
		}
	}
}

// filled lets the table have so many more terms that there is no room but for that many.
func filled(t *testing.T, p *prim.Prim, room int) {
	t.Helper()
	for range 1<<16 - room - p.Table().Len() {
		p.Secret("")
	}
	if n := p.Table().Len(); n != 1<<16-room {
		t.Fatalf("%d terms", n)
	}
}

// P20.5

func TestMessages(t *testing.T) {
	both(t, func(t *testing.T, p *prim.Prim) {
		a, b := pair(t, p)
		a.meets(b, b.with(2))
		at, _ := a.s.Get("s040")
		begun, _ := keptOf(at)
		part := firstPart(begun.public, 5, 9)
		for i := range 3 {
			in := a.says(b, true, fmt.Sprint("text ", i))
			isMessage(t, in, 0, part)
			b.hears(a, in, fmt.Sprint("text ", i))
		}
		late := b.says(a, false, "late")
		a.refused("none of the peer", a.write(4, false, "x"), api.ErrNone)
		b.refused("none of its own", b.write(2, true, "x"), api.ErrNone)
		b.meets(a, a.bundle)
		isMessage(t, b.says(a, false, "still the peer's"), 1, "")
		own := b.says(a, true, "its own")
		at, _ = b.s.Get("s020")
		begun, _ = keptOf(at)
		isMessage(t, own, 0, firstPart(begun.public, 5, 0))
		a.hears(b, own, "its own")
		isMessage(t, a.says(b, true, "not read yet"), 0, part)
		a.hears(b, late, "late")
		isMessage(t, a.says(b, true, "read"), 0, "")
		isMessage(t, a.says(b, false, "back"), 1, "")
		isMessage(t, b.says(a, true, "not read yet"), 0, firstPart(begun.public, 5, 0))
	})
}

func TestWriteRefusesPeers(t *testing.T) {
	both(t, func(t *testing.T, p *prim.Prim) {
		a, _ := pair(t, p)
		for i := range 100 {
			a.put(api.Row{Key: keyAt(i, true)}, api.Row{Key: keyAt(i, false)})
		}
		for _, peer := range addresses() {
			for _, mine := range []bool{true, false} {
				want := api.ErrArg
				if isDevice(peer) && peer != 2 {
					want = api.ErrForm
				}
				a.refused(fmt.Sprint(peer, mine), a.write(peer, mine, "x"), want)
				a.refused(fmt.Sprint("a long text: ", peer, mine), a.write(peer, mine, word(mostBytes+1)), want)
			}
		}
	})
}

// rowsOfNone are values that are none of a session, made of one that is.
func rowsOfNone(value string) []string {
	x, _ := keptOf(value)
	bytes, _ := ratchet.Encode(x.r)
	out := []string{"", "x", value + "\x00", value[1:], texts(x.first, x.public), texts(x.first, x.public, ""),
		texts(x.public, bytes), texts(x.first, bytes, x.public), texts(x.first, x.public, bytes, ""),
		texts(x.first, x.public, bytes+"\x00"), texts(x.first, x.public, bytes[1:]),
		texts("x", x.public, bytes), texts(number(8, 1), x.public, bytes), texts(texts("x")+number(7, 0), x.public, bytes),
		texts(texts("x")+number(8, 0)+"x", x.public, bytes), texts(number(4, 5)+"abcd"+number(8, 0), x.public, bytes),
	}
	for i := range value {
		out = append(out, value[:i])
	}
	return out
}

func TestRowsOfNoSession(t *testing.T) {
	both(t, func(t *testing.T, p *prim.Prim) {
		a, b := pair(t, p)
		a.meets(b, b.with(0))
		one, two := a.says(b, true, "one"), a.says(b, true, "two")
		b.hears(a, one, "one")
		back := b.says(a, false, "back")
		mine, _ := a.s.Get("s040")
		theirs, _ := b.s.Get("s021")
		a.loose, b.loose = true, true
		for _, value := range rowsOfNone(mine) {
			a.put(api.Row{Key: "s040", Value: value})
			a.refused("Write", a.write(4, true, "x"), api.ErrForm)
			a.fails("Read", b, back, api.ErrForm)
			a.has(4, true, false)
		}
		for _, value := range rowsOfNone(theirs) {
			b.put(api.Row{Key: "s021", Value: value})
			b.refused("Write", b.write(2, false, "x"), api.ErrForm)
			b.fails("Read", a, two, api.ErrForm)
			b.fails("Read of another session", a, message(0, firstPart("x", 1, 1), sealedOf(two)), api.ErrForm)
			b.has(2, false, true)
		}
		a.loose, b.loose = false, false
		a.put(api.Row{Key: "s040", Value: mine})
		b.put(api.Row{Key: "s021", Value: theirs})
		a.hears(b, back, "back")
		b.hears(a, two, "two")
	})
}

// What a session's row says is taken as it is: a first part of any key and ids.
func TestRowsByHand(t *testing.T) {
	both(t, func(t *testing.T, p *prim.Prim) {
		a, b := pair(t, p)
		a.meets(b, b.with(0))
		at, _ := a.s.Get("s040")
		begun, _ := keptOf(at)
		for _, key := range []string{"", "x", begun.public, word(988)} {
			for _, id := range []int{0, 1, 1 << 30, 1<<32 - 1} {
				x := begun
				x.first = firstPart(key, id, 1<<32-1-id)
				a.put(rowAt(t, 4, true, x))
				got := a.write(4, true, "x")
				if got.e != api.OK {
					t.Fatalf("%s", told(got))
				}
				isMessage(t, got.out, 0, x.first)
			}
		}
	})
}

func TestErrorsOfWrite(t *testing.T) {
	both(t, func(t *testing.T, p *prim.Prim) {
		a, b := pair(t, p)
		a.refused("no session, a long text", a.write(4, true, word(mostBytes+1)), api.ErrNone)
		a.meets(b, b.bundle)
		a.refused("a long text", a.write(4, true, word(mostBytes+1)), api.ErrLong)
		b.hears(a, a.says(b, true, word(mostBytes)), word(mostBytes))
		b.hears(a, a.says(b, true, ""), "")

		at, _ := a.s.Get("s040")
		x, _ := keptOf(at)
		y := x
		y.r.Ns = 1 << 30
		a.put(rowAt(t, 4, true, y))
		a.refused("no more messages", a.write(4, true, "x"), api.ErrLong)
		y = x
		y.r.Send = ""
		a.put(rowAt(t, 4, true, y))
		a.refused("no chain", a.write(4, true, "x"), api.ErrDown)
		y = x
		y.r.Ns = 1<<30 - 1
		a.put(rowAt(t, 4, true, y))
		a.says(b, true, "the last one")
		a.refused("behind the last one", a.write(4, true, "x"), api.ErrLong)
	})
}

// P20.6

func TestReadRefusesPeers(t *testing.T) {
	both(t, func(t *testing.T, p *prim.Prim) {
		a, b := pair(t, p)
		a.meets(b, b.with(0))
		in := a.says(b, true, "x")
		for _, peer := range addresses() {
			if !isDevice(peer) || peer == 4 {
				b.refused(fmt.Sprint(peer), b.read(peer, a.public, in, draw(900)), api.ErrArg)
				b.refused(fmt.Sprint("no message of ", peer), b.read(peer, a.public, "", draw(900)), api.ErrArg)
			}
		}
	})
}

// messagesOfNone are what begins as no message.
func messagesOfNone(first, sealed string) []string {
	out := []string{"", "\x00", "\x01", "\x02", "\xff", message(2, "", sealed), message(2, first, sealed),
		message(255, first, sealed), message(128, "", sealed), message(1, first, sealed), message(1, firstPart("x", 1, 1), sealed),
		message(1, "x", sealed), texts(first) + sealed,
		message(0, firstPart(word(989), 5, 7), sealed), message(0, word(1001), sealed), message(1, word(1001), sealed),
		message(0, number(4, 1000), sealed), message(0, first+"x", sealed), message(0, "x"+first, sealed),
		message(0, number(4, 4)+first, sealed), message(0, number(8, 0), sealed), message(0, number(11, 0), sealed),
		"\x00" + number(4, len(sealed)+1) + sealed, "\x00" + number(4, 1<<32-1) + sealed,
	}
	for i := range len(first) {
		if i > 0 {
			out = append(out, message(0, first[:i], sealed), message(1, first[:i], sealed))
		}
		out = append(out, message(0, first, sealed)[:i+5])
	}
	return out
}

func TestReadRefusesBytes(t *testing.T) {
	both(t, func(t *testing.T, p *prim.Prim) {
		a, b := pair(t, p)
		a.meets(b, b.with(0))
		in := a.says(b, true, "x")
		try := func(what string) {
			t.Helper()
			for _, s := range messagesOfNone(firstOf(in), sealedOf(in)) {
				b.fails(fmt.Sprintf("%s: %.80x", what, s), a, s, api.ErrForm)
			}
		}
		try("no session")
		b.put(api.Row{Key: "s021", Value: "none"})
		try("none of a session")
		b.drop("s021")
		b.hears(a, in, "x")
		try("a session")
	})
}

// A first part has no more limits than its bytes have.
func TestFirstPartsOfAnyNumbers(t *testing.T) {
	both(t, func(t *testing.T, p *prim.Prim) {
		a, b := pair(t, p)
		a.meets(b, b.with(0))
		in := a.says(b, true, "x")
		for _, key := range []string{"", "x", word(988)} {
			for _, id := range []int{0, 1, mostKept, 1 << 30, 1<<30 + 1, 1<<32 - 1} {
				s := message(0, firstPart(key, id, 7), sealedOf(in))
				b.fails(fmt.Sprint("no pre key ", id), a, s, api.ErrNone)
				s = message(0, firstPart(key, 5, id), sealedOf(in))
				if id > 0 {
					b.fails(fmt.Sprint("no once key ", id), a, s, api.ErrNone)
				}
			}
		}
		b.hears(a, in, "x")
		for _, key := range []string{"", "x", word(988)} {
			s := message(0, firstPart(key, 1<<32-1, 1<<32-1), sealedOf(in))
			b.fails("another key", a, s, api.ErrBusy)
		}
	})
}

// Secrets of ids that no Keep has are found by their rows all the same.
func TestSecretsByTheirRows(t *testing.T) {
	both(t, func(t *testing.T, p *prim.Prim) {
		for _, id := range []int{1, 1 << 16, 1 << 30} {
			a, b := pair(t, p)
			x := b.with(0)
			x.PreId, x.OnceId = id, 1<<30+1-id
			a.meets(b, b.signed(x))
			in := a.says(b, true, "x")
			b.fails("no secrets of these ids", a, in, api.ErrNone)
			pre, once := fmt.Sprintf("kp%010d", id), fmt.Sprintf("ko%010d", 1<<30+1-id)
			b.put(api.Row{Key: pre, Value: b.pre}, api.Row{Key: once, Value: b.onces[0]})
			rowsAre(t, b.hears(a, in, "x"), []string{"s021"}, []string{once})
			if _, is := b.s.Get(pre); !is {
				t.Error("the pre key is gone")
			}
		}
	})
}

func TestNoSecrets(t *testing.T) {
	both(t, func(t *testing.T, p *prim.Prim) {
		a, b := pair(t, p)
		a.meets(b, b.with(1))
		in := a.says(b, true, "x")
		b.fails("no first part", a, message(0, "", sealedOf(in)), api.ErrNone)
		b.fails("of the reader's session", a, message(1, "", sealedOf(in)), api.ErrNone)
		for _, key := range []string{"ki", "kp0000000005", "ko0000000008"} {
			value, _ := b.s.Get(key)
			b.drop(key)
			b.fails("without "+key, a, in, api.ErrNone)
			b.put(api.Row{Key: key, Value: value})
		}
		for _, key := range []string{"ko0000000007", "ko0000000009"} {
			b.drop(key)
		}
		b.hears(a, in, "x")
		b.drop("ki", "kp0000000005")
		b.hears(a, a.says(b, true, "y"), "y")
		a.hears(b, b.says(a, false, "z"), "z")
	})
}

// Of a bundle without a once key nothing is to go.
func TestWithoutAOnceKey(t *testing.T) {
	both(t, func(t *testing.T, p *prim.Prim) {
		a, b := pair(t, p)
		a.meets(b, b.bundle)
		in := a.says(b, true, "x")
		b.put(api.Row{Key: "ko0000000000", Value: b.onces[0]})
		rowsAre(t, b.hears(a, in, "x"), []string{"s021"}, nil)
		if n := len(b.s.List("ko")); n != 4 {
			t.Errorf("%d once keys", n)
		}
	})
}

// What is read of a session that is there takes no secrets, and lets none go.
func TestOnceKeysGoOnce(t *testing.T) {
	both(t, func(t *testing.T, p *prim.Prim) {
		a, b := pair(t, p)
		a.meets(b, b.with(0))
		one, two := a.says(b, true, "one"), a.says(b, true, "two")
		rowsAre(t, b.hears(a, one, "one"), []string{"s021"}, []string{"ko0000000007"})
		b.put(api.Row{Key: "ko0000000007", Value: "another one of the same id"})
		rowsAre(t, b.hears(a, two, "two"), []string{"s021"}, nil)
		back := b.says(a, false, "back")
		rowsAre(t, a.hears(b, back, "back"), []string{"s040"}, nil)
	})
}

func TestBusy(t *testing.T) {
	both(t, func(t *testing.T, p *prim.Prim) {
		a, b := pair(t, p)
		a.meets(b, b.with(0))
		one := a.says(b, true, "one")
		a.drop("s040")
		a.meets(b, b.with(1))
		other := a.says(b, true, "other")
		b.hears(a, one, "one")
		b.fails("another session", a, other, api.ErrBusy)
		b.fails("another session, nothing behind it", a, message(0, firstOf(other), ""), api.ErrBusy)
		b.fails("nothing behind it", a, message(0, firstOf(one), ""), api.ErrForm)
		b.fails("the same session, again", a, one, api.ErrStale)
		b.drop("s021")
		b.hears(a, other, "other")
		b.fails("the first session", a, one, api.ErrBusy)
	})
}

// A message is told by each bit of it, and nothing of it may be changed, left out or put behind it.
func TestNothingElseIsRead(t *testing.T) {
	both(t, func(t *testing.T, p *prim.Prim) {
		a, b := pair(t, p)
		a.meets(b, b.with(0))
		first := a.says(b, true, "the first one")
		try := func(x, y *home, in, text string) {
			t.Helper()
			y.loose = true
			for i := range in {
				for _, bit := range []byte{1, 0x80} {
					s := []byte(in)
					s[i] ^= bit
					if got := y.gets(x, string(s)); got.e == api.OK {
						t.Errorf("byte %d: %s", i, told(got))
					}
				}
				if got := y.gets(x, in[:i]); got.e == api.OK {
					t.Errorf("%d bytes: %s", i, told(got))
				}
			}
			if got := y.gets(x, in+"\x00"); got.e == api.OK {
				t.Errorf("a byte more: %s", told(got))
			}
			y.loose = false
			y.hears(x, in, text)
		}
		try(a, b, first, "the first one")
		try(a, b, a.says(b, true, "second"), "second")
		try(b, a, b.says(a, false, "back"), "back")
		try(a, b, a.says(b, true, "third"), "third")
	})
}

// What one wrote to another one is read by nobody else, as nobody else's, and in no other session.
func TestWhoseMessagesAre(t *testing.T) {
	both(t, func(t *testing.T, p *prim.Prim) {
		draws := 0
		a, b, c := settled(t, p, 2, 3, &draws), settled(t, p, 4, 3, &draws), settled(t, p, 5, 3, &draws)
		a.meets(b, b.with(0))
		a.meets(c, c.with(0))
		b.meets(a, a.with(0))
		c.meets(b, b.with(1))
		in := a.says(b, true, "x")
		for again := range 2 {
			for _, who := range []*home{a, b, c} {
				for _, from := range []*home{a, b, c} {
					if who == from || who == b && from == a {
						continue
					}
					for _, s := range []string{in, message(1, "", sealedOf(in)), message(0, "", sealedOf(in))} {
						if got := who.gets(from, s); got.e == api.OK {
							t.Errorf("%d reads it as of %d: %s", who.self, from.self, told(got))
						}
					}
				}
			}
			if got := b.read(2, c.public, in, b.draw()); again == 0 && got.e == api.OK {
				t.Errorf("read by another one's key: %s", told(got))
			}
			b.hears(c, c.says(b, true, "c"), "c")
			b.hears(a, in, "x")
			c.hears(a, a.says(c, true, "y"), "y")
			a.hears(b, b.says(a, true, "z"), "z")
			in = a.says(b, true, "x")
		}
	})
}

// The peer's public key counts only when a session is made.
func TestPublicKeyOfAPeer(t *testing.T) {
	both(t, func(t *testing.T, p *prim.Prim) {
		a, b := pair(t, p)
		a.meets(b, b.with(0))
		one, two := a.says(b, true, "one"), a.says(b, true, "two")
		for _, public := range []string{"", "x", b.public, word(5000)} {
			got := b.read(2, public, one, b.draw())
			want := api.ErrSeal
			if p.Kit() == api.KitReal && len(public) != 32 {
				want = api.ErrKey
			}
			b.refused("by another key", got, want)
		}
		b.hears(a, one, "one")
		got := b.done(b.read(2, "any", two, b.draw()))
		if got.read.Text != "two" {
			t.Errorf("%s", told(got))
		}
		got = a.done(a.read(4, "", b.says(a, false, "back"), a.draw()))
		if got.read.Text != "back" {
			t.Errorf("%s", told(got))
		}
	})
}

// A draw counts only where a ratchet turns.
func TestDraws(t *testing.T) {
	p, _ := prim.New(api.KitReal)
	a, b := pair(t, p)
	a.meets(b, b.with(0))
	one, two := a.says(b, true, "one"), a.says(b, true, "two")
	for _, n := range []int{0, 31, 33} {
		b.refused("the first one", b.read(2, a.public, one, word(n)), api.ErrKey)
	}
	b.hears(a, one, "one")
	b.done(b.read(2, a.public, two, ""))
	back := b.says(a, false, "back")
	a.refused("the first one back", a.read(4, b.public, back, "short"), api.ErrKey)
	a.hears(b, back, "back")
}

// With terms a secret may be longer than a ratchet's texts.
func TestLongSecrets(t *testing.T) {
	p, _ := prim.New(api.KitTerm)
	for _, n := range []int{1000, 1001, mostBytes} {
		a, b := pair(t, p)
		b.done(b.keep(word(mostBytes), 5, word(n), 7, []string{word(mostBytes)}))
		x := b.bundle
		x.Dh, x.Pre = b.publicOf(word(mostBytes)), b.publicOf(word(n))
		x.OnceId, x.Once = 7, b.publicOf(word(mostBytes))
		a.meets(b, b.signed(x))
		in := a.says(b, true, "x")
		if n > 1000 {
			b.fails("a long pre key", a, in, api.ErrLong)
			continue
		}
		b.hears(a, in, "x")
	}
}

// Errors of the ratchet are the call's.
func TestErrorsOfTheRatchet(t *testing.T) {
	both(t, func(t *testing.T, p *prim.Prim) {
		a, b := pair(t, p)
		a.meets(b, b.with(0))
		one := a.says(b, true, "one")
		b.fails("no head", a, message(0, firstOf(one), "x"), api.ErrForm)
		b.fails("a long key", a, message(0, firstOf(one), texts(word(1001))+number(8, 0)+"x"), api.ErrForm)
		b.hears(a, one, "one")
		b.fails("no head", a, message(0, "", "x"), api.ErrForm)
		back := b.says(a, false, "back")
		a.fails("no head", b, message(1, "", ""), api.ErrForm)
		a.hears(b, back, "back")
		a.fails("again", b, back, api.ErrStale)
		b.fails("again", a, one, api.ErrStale)
		s := sealedOf(a.says(b, true, "two"))
		at := 4 + numberAt(s, 0, 4) + 4
		b.fails("too far ahead", a, message(0, "", s[:at]+number(4, 1001)+s[at+4:]), api.ErrSkip)
		b.fails("at another place", a, message(0, "", s[:at]+number(4, 1000)+s[at+4:]), api.ErrSeal)
	})
}

// With terms a table without room ends a call, wherever it is.
func TestFullTable(t *testing.T) {
	refusals := 0
	for room := 0; room < 60; room += 2 {
		p, _ := prim.New(api.KitTerm)
		a, b := pair(t, p)
		a.loose, b.loose = room%4 > 0, room%4 > 0
		x := b.with(0)
		if room < 30 {
			filled(t, p, room)
			if got := a.meet(4, x, [2]string{"", ""}); got.e != api.OK {
				a.refused(fmt.Sprint("Meet with room for ", room), got, api.ErrFull)
				refusals++
			}
			continue
		}
		a.meets(b, x)
		in := a.says(b, true, "x")
		filled(t, p, room-30)
		if got := b.gets(a, in); got.e != api.OK {
			b.refused(fmt.Sprint("Read with room for ", room-30), got, api.ErrFull)
			refusals++
		}
		if got := a.write(4, true, "y"); got.e != api.OK {
			a.refused(fmt.Sprint("Write with room for ", room-30), got, api.ErrFull)
			refusals++
		}
	}
	if refusals < 10 {
		t.Errorf("%d refusals", refusals)
	}
}

// Rows that are too long

// grown is a session's row of just that many bytes: keys are kept in it that nothing needs.
func grown(t *testing.T, peer int, mine bool, x kept, size int) api.Row {
	t.Helper()
	const head, most = 12, 1000 // bytes of an empty key that is kept, and those that it may have
	x.r.Skipped = nil
	for left := size - len(rowAt(t, peer, mine, x).Value); left > 0; {
		n := min(left, head+most)
		if rest := left - n; rest > 0 && rest < head {
			n -= head
		}
		x.r.Skipped = append(x.r.Skipped, api.Skip{Pub: word(n - head), N: 1})
		left -= n
	}
	row := rowAt(t, peer, mine, x)
	if len(row.Value) != size {
		t.Fatalf("%d bytes; want %d", len(row.Value), size)
	}
	return row
}

// A row of the greatest length is one; a session whose row would be longer goes no further.
func TestLongRows(t *testing.T) {
	both(t, func(t *testing.T, p *prim.Prim) {
		a, b := pair(t, p)
		a.loose, b.loose = true, true
		a.meets(b, b.with(0))
		var in []string
		for i := range 4 {
			in = append(in, a.says(b, true, fmt.Sprint(i)))
		}
		b.hears(a, in[0], "0")
		at, _ := b.s.Get("s021")
		x, _ := keptOf(at)
		more := 12 + len(x.r.Peer) + len(x.r.Root) // of a key that is kept
		for size := mostValue - more - 2; size <= mostValue; size++ {
			b.put(grown(t, 2, false, x, size))
			if got := b.gets(a, in[1]); got.e != api.OK || len(got.read.Puts[0].Value) != size {
				t.Fatalf("%d: %s", size, told(got))
			}
			got := b.gets(a, in[2])
			if size+more > mostValue {
				b.refused(fmt.Sprint("of ", size), got, api.ErrLong)
				continue
			}
			if got.e != api.OK || len(got.read.Puts[0].Value) != size+more {
				t.Fatalf("%d: %s", size, told(got))
			}
			b.done(got)
		}
	})
}

// A chain by hand may be shorter than those that come of it.
func TestLongRowsOfWrite(t *testing.T) {
	both(t, func(t *testing.T, p *prim.Prim) {
		a, b := pair(t, p)
		a.loose = true
		a.meets(b, b.with(0))
		at, _ := a.s.Get("s040")
		x, _ := keptOf(at)
		more := len(x.r.Send) - 1
		x.r.Send = "x"
		for size := mostValue - more - 2; size <= mostValue; size++ {
			a.put(grown(t, 4, true, x, size))
			got := a.write(4, true, "x")
			if size+more > mostValue {
				a.refused(fmt.Sprint("of ", size), got, api.ErrLong)
			} else if got.e != api.OK || len(got.rows[0].Value) != size+more {
				t.Fatalf("%d: %s", size, told(got))
			} else {
				a.done(got)
			}
		}
	})
}

// R5

// lender hands out texts whose bytes can be spoilt afterwards.
type lender struct{ all [][]byte }

func (l *lender) lent(s string) string {
	b := []byte(s)
	l.all = append(l.all, b)
	return unsafe.String(unsafe.SliceData(b), len(b))
}

func (l *lender) spoil() {
	for _, b := range l.all {
		for i := range b {
			b[i] ^= 0x55
		}
	}
	l.all = nil
}

// spoilt spoils the bytes of what was answered, which nobody else may have.
func spoilt(t *testing.T, a answer) {
	t.Helper()
	puts, dels := a.changes()
	all := append([]string{a.out, a.read.Text}, dels...)
	for _, row := range puts {
		all = append(all, row.Key, row.Value)
	}
	for _, s := range all {
		if len(s) > 1 && s != "ki" { // a constant, and a text of one byte, may be the language's own
			b := unsafe.Slice(unsafe.StringData(s), len(s))
			for i := range b {
				b[i] ^= 0xff
			}
		}
	}
	for _, row := range puts {
		if row.Key != "ki" && row.Key[0] != 's'^0xff && row.Key[0] != 'k'^0xff {
			t.Errorf("%x shares its bytes with another one", row.Key)
		}
	}
}

func TestNothingIsShared(t *testing.T) {
	both(t, func(t *testing.T, p *prim.Prim) {
		draws := 0
		a, b := settled(t, p, 2, 2, &draws), settled(t, p, 4, 2, &draws)
		l := &lender{}
		as := func(what string, call func(b *session.Book) answer, d *home, want answer) {
			t.Helper()
			rows := rowsOf(d.s)
			got := plain(call(d.b))
			l.spoil()
			if !reflect.DeepEqual(got, want) {
				t.Fatalf("%s: %s; want %s", what, told(got), told(want))
			}
			spoilt(t, got)
			if !reflect.DeepEqual(rowsOf(d.s), rows) {
				t.Fatalf("%s: what was answered was the store's", what)
			}
		}
		onces := []string{"ab", "cd"}
		want := a.keep("id", 1, "pre", 1, onces)
		room := append(make([]string, 0, 20), onces...)
		behind := append(room, "behind")
		as("Keep", func(b *session.Book) (x answer) {
			x.rows, x.e = b.Keep(l.lent("id"), 1, l.lent("pre"), 1, room)
			return x
		}, a, want)
		if !reflect.DeepEqual(behind, []string{"ab", "cd", "behind"}) {
			t.Errorf("Keep changed what it was handed in: %q", behind)
		}

		x := b.with(0)
		lentBundle := func() api.Bundle {
			y := x
			y.Sign, y.Dh, y.Pre, y.PreSig, y.Once = l.lent(x.Sign), l.lent(x.Dh), l.lent(x.Pre), l.lent(x.PreSig), l.lent(x.Once)
			return y
		}
		if p.Kit() == api.KitReal { // with terms a second one has other names
			want = a.meet(4, x, [2]string{draw(800), draw(801)})
			as("Meet", func(b *session.Book) (z answer) {
				z.rows, z.e = b.Meet(4, lentBundle(), [2]string{l.lent(draw(800)), l.lent(draw(801))})
				return z
			}, a, want)
		}
		a.meets(b, x)
		want = a.write(4, true, "some text")
		as("Write", func(b *session.Book) (z answer) {
			z.out, z.rows, z.e = b.Write(4, true, l.lent("some text"))
			return z
		}, a, want)
		in := []string{a.says(b, true, "some text"), a.says(b, true, "another one")}
		if p.Kit() == api.KitReal {
			want = b.read(2, a.public, in[0], draw(802))
			as("the first Read", func(b *session.Book) (z answer) {
				z.read, z.e = b.Read(2, l.lent(a.public), l.lent(in[0]), l.lent(draw(802)))
				return z
			}, b, want)
		}
		b.hears(a, in[0], "some text")
		want = b.read(2, a.public, in[1], draw(803))
		as("Read", func(b *session.Book) (z answer) {
			z.read, z.e = b.Read(2, l.lent(a.public), l.lent(in[1]), l.lent(draw(803)))
			return z
		}, b, want)
		b.hears(a, in[1], "another one")
	})
}
