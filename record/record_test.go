package record_test

import (
	"fmt"
	"math/rand"
	"reflect"
	"slices"
	"strings"
	"testing"
	"unsafe"

	"missive/api"
	"missive/prim"
	"missive/record"
)

const mostBytes = 1 << 14 // of what is sealed at once

func made(t *testing.T, kit int) *prim.Prim {
	t.Helper()
	p, e := prim.New(kit)
	if e != api.OK || p == nil {
		t.Fatalf("prim.New(%d): %d", kit, e)
	}
	return p
}

// both goes through the two kinds.
func both(t *testing.T, look func(t *testing.T, p *prim.Prim)) {
	t.Helper()
	for _, kit := range []int{api.KitReal, api.KitTerm} {
		t.Run(fmt.Sprint("kit", kit), func(t *testing.T) { look(t, made(t, kit)) })
	}
}

// draw is one of 32 bytes.
func draw(c byte) string { return strings.Repeat(string([]byte{c}), 32) }

// number tells v in 8 bytes, the highest first.
func number(v uint64) string {
	var b [8]byte
	for i := range b {
		b[i] = byte(v >> (56 - 8*i))
	}
	return string(b[:])
}

// ends are the two keys of a connection, and the records of both who have it.
type ends struct {
	x, y string // a sends by x, b by y
	a, b *record.Record
}

func endsOf(t *testing.T, p *prim.Prim) ends {
	t.Helper()
	l := ends{x: p.Secret(draw('x')), y: p.Secret(draw('y'))}
	l.a, l.b = record.Open(p, l.x, l.y), record.Open(p, l.y, l.x)
	if l.a == nil || l.b == nil {
		t.Fatal("Open")
	}
	return l
}

// sealed takes the next frame of a text, and looks at its number.
func sealed(t *testing.T, r *record.Record, text string) string {
	t.Helper()
	was := r.Sent()
	f, e := r.Seal(text)
	if e != api.OK || len(f) <= 8 || f[:8] != number(was+1) || r.Sent() != was+1 {
		t.Fatalf("Seal behind %d: %x, %d; Sent %d", was, f, e, r.Sent())
	}
	return f
}

// takes has a record take a frame.
func takes(t *testing.T, r *record.Record, what, frame, text string, seen uint64) {
	t.Helper()
	if s, e := r.Take(frame); s != text || e != api.OK || r.Seen() != seen {
		t.Errorf("%s: %.40q, %d, Seen %d; want %.40q, Seen %d", what, s, e, r.Seen(), text, seen)
	}
}

// refuses has a record refuse a frame.
func refuses(t *testing.T, r *record.Record, what, frame string, want api.Errno) {
	t.Helper()
	sent, seen := r.Sent(), r.Seen()
	if s, e := r.Take(frame); s != "" || e != want {
		t.Errorf("%s: %.40q, %d in the place of %d", what, s, e, want)
	}
	if r.Sent() != sent || r.Seen() != seen {
		t.Errorf("%s: %d and %d were %d and %d", what, r.Sent(), r.Seen(), sent, seen)
	}
}

// look is all that can be asked of a prim, without changing it.
type look struct {
	kit     int
	journal []api.Deed
	terms   []api.Term
}

func looked(t *testing.T, p *prim.Prim) look {
	t.Helper()
	out := look{kit: p.Kit(), journal: append([]api.Deed{}, p.Journal()...)}
	tab := p.Table()
	if tab == nil {
		return out
	}
	for n := range tab.Len() {
		x, ok := tab.Of("\xf0TRM" + number(uint64(n))[4:])
		if !ok {
			t.Fatalf("there is no term %d of %d", n, tab.Len())
		}
		if len(x.Parts) == 0 {
			x.Parts = nil
		}
		out.terms = append(out.terms, x)
	}
	return out
}

// same holds two prims against each other: the same deeds were done, and the same terms made, in the same order.
func same(t *testing.T, what string, p, q *prim.Prim) {
	t.Helper()
	if x, y := looked(t, p), looked(t, q); !reflect.DeepEqual(x, y) {
		t.Errorf("%s: %d deeds and %d terms; want %d and %d, or others", what, len(x.journal), len(x.terms), len(y.journal), len(y.terms))
	}
}

func TestExamples(t *testing.T) {
	both(t, func(t *testing.T, p *prim.Prim) {
		l := endsOf(t, p)
		first, second := sealed(t, l.a, "x"), sealed(t, l.a, "y")
		if l.a.Sent() != 2 || first[:8] != number(1) || second[:8] != number(2) {
			t.Errorf("%x, %x, Sent %d", first, second, l.a.Sent())
		}
		takes(t, l.b, "2", second, "y", 2)
		refuses(t, l.b, "1", first, api.ErrStale)
		refuses(t, l.b, "2 again", second, api.ErrStale)
		third := sealed(t, l.a, "z")
		turned := third[:len(third)-1] + string([]byte{third[len(third)-1] ^ 1})
		refuses(t, l.b, "its last byte turned", turned, api.ErrSeal)
		takes(t, l.b, "3", third, "z", 3)
		refuses(t, l.b, "7 bytes", third[:7], api.ErrForm)
	})
	if record.Open(nil, draw('x'), draw('y')) != nil {
		t.Error("Open(nil, ..)")
	}
	var r *record.Record
	if f, e := r.Seal("x"); f != "" || e != api.ErrNil {
		t.Errorf("Seal: %x, %d", f, e)
	}
	if s, e := r.Take(number(1)); s != "" || e != api.ErrNil {
		t.Errorf("Take: %q, %d", s, e)
	}
}

// P15.1

func TestOpen(t *testing.T) {
	for _, keys := range [][2]string{{"", ""}, {draw('x'), draw('y')}, {"short", strings.Repeat("x", 1<<17)}} {
		if record.Open(nil, keys[0], keys[1]) != nil || record.Open(new(prim.Prim), keys[0], keys[1]) != nil {
			t.Error("a record without a prim")
		}
		both(t, func(t *testing.T, p *prim.Prim) {
			was := p.Copy()
			r := record.Open(p, keys[0], keys[1]) // what keys may be is prim's to tell, and at Seal and Take only
			if r == nil || r.Sent() != 0 || r.Seen() != 0 {
				t.Errorf("Open: %v", r)
			}
			same(t, "a record that did nothing", p, was)
		})
	}
}

// It keeps its prim: all deeds are that one's, and so are the terms.
func TestKeepsItsPrim(t *testing.T) {
	both(t, func(t *testing.T, p *prim.Prim) {
		l := endsOf(t, p)
		q := p.Copy()
		a, b := record.Open(p, l.x, l.y), record.Open(q, l.y, l.x)
		f, g := sealed(t, a, "to b"), sealed(t, b, "to a")
		if p, q := p.Journal(), q.Journal(); len(p) != 1 || len(q) != 1 || p[0].Out != f[8:] || q[0].Out != g[8:] {
			t.Errorf("%v, %v", p, q)
		}
		was := p.Copy()
		if p.Kit() == api.KitReal { // terms of one prim are none of another one
			takes(t, b, "of another prim", f, "to b", 1)
			if n := len(q.Journal()); n != 2 {
				t.Errorf("%d deeds", n)
			}
		}
		same(t, "the prim of the other one", p, was)
	})
}

// The keys are those that were handed in, each for its direction.
func TestDirections(t *testing.T) {
	both(t, func(t *testing.T, p *prim.Prim) {
		l := endsOf(t, p)
		f, g := sealed(t, l.a, "to b"), sealed(t, l.b, "to a")
		refuses(t, l.a, "one's own", f, api.ErrSeal)
		refuses(t, l.b, "one's own", g, api.ErrSeal)
		takes(t, l.b, "to b", f, "to b", 1)
		takes(t, l.a, "to a", g, "to a", 1)
		if l.a.Sent() != 1 || l.b.Sent() != 1 {
			t.Errorf("Sent: %d, %d", l.a.Sent(), l.b.Sent())
		}
		// The two numbers are apart from each other.
		for range 5 {
			f = sealed(t, l.a, "more")
		}
		takes(t, l.b, "the sixth one", f, "more", 6)
		if l.a.Sent() != 6 || l.a.Seen() != 1 || l.b.Sent() != 1 || l.b.Seen() != 6 {
			t.Errorf("a %d and %d, b %d and %d", l.a.Sent(), l.a.Seen(), l.b.Sent(), l.b.Seen())
		}
		takes(t, l.a, "the second one back", sealed(t, l.b, "back"), "back", 2)
	})
}

// A record that is none is nil, or one that no call made.
func TestNone(t *testing.T) {
	p := made(t, api.KitReal)
	for i, r := range []*record.Record{nil, {}, new(record.Record)} {
		for _, s := range []string{"", "x", number(0), number(1) + draw('x'), strings.Repeat("x", 1<<17)} {
			if f, e := r.Seal(s); f != "" || e != api.ErrNil {
				t.Errorf("%d: Seal(%.9q): %x, %d", i, s, f, e)
			}
			if s, e := r.Take(s); s != "" || e != api.ErrNil {
				t.Errorf("%d: Take(%.9q): %q, %d", i, s, s, e)
			}
		}
		if r.Sent() != 0 || r.Seen() != 0 || r.Copy(p) != nil || r.Copy(nil) != nil {
			t.Errorf("%d: something of none", i)
		}
	}
}

func TestCopy(t *testing.T) {
	both(t, func(t *testing.T, p *prim.Prim) {
		l := endsOf(t, p)
		for range 3 {
			sealed(t, l.a, "x")
		}
		for range 2 {
			takes(t, l.a, "back", sealed(t, l.b, "back"), "back", l.b.Sent())
		}
		q := p.Copy()
		c := l.a.Copy(q)
		if c == nil || c == l.a || c.Sent() != 3 || c.Seen() != 2 {
			t.Fatalf("a copy: %d and %d", c.Sent(), c.Seen())
		}
		was := q.Copy()
		fourth := sealed(t, l.a, "of the record")
		takes(t, l.a, "of b", sealed(t, l.b, "of b"), "of b", 3)
		same(t, "the copy's prim", q, was)
		if c.Sent() != 3 || c.Seen() != 2 || fourth[:8] != number(4) {
			t.Errorf("the copy has what the record did: %d and %d", c.Sent(), c.Seen())
		}
		was = p.Copy()
		sealed(t, c, "of the copy")
		sealed(t, c, "of the copy, too")
		d := l.b.Copy(q) // it has sealed three already
		takes(t, c, "of b's copy", sealed(t, d, "of b's copy"), "of b's copy", 4)
		refuses(t, c, "7 bytes", "1234567", api.ErrForm)
		same(t, "the record's prim", p, was)
		if l.a.Sent() != 4 || l.a.Seen() != 3 || l.b.Sent() != 3 || c.Sent() != 5 || d.Sent() != 4 {
			t.Errorf("the record has what the copy did: %d and %d", l.a.Sent(), l.a.Seen())
		}
		if e := c.Copy(q); e == nil || e.Sent() != 5 || e.Seen() != 4 || l.a.Copy(nil) != nil || l.a.Copy(new(prim.Prim)) != nil {
			t.Error("a copy of a copy, or one without a prim")
		}
	})
}

// A copy has the prim that is handed in, of whichever kind it is.
func TestCopyToAnotherKind(t *testing.T) {
	p, q := made(t, api.KitReal), made(t, api.KitTerm)
	a := record.Open(p, draw('x'), draw('y'))
	sealed(t, a, "x")
	c, d := a.Copy(q), record.Open(q, draw('y'), draw('x'))
	f := sealed(t, c, "x")
	if x, ok := q.Table().Of(f[8:]); !ok || x.Kind != api.TermEnc || f[:8] != number(2) {
		t.Errorf("%x: %v", f, x)
	}
	takes(t, d, "of terms", f, "x", 2)
	if n := len(p.Journal()); n != 1 {
		t.Errorf("%d deeds of the real kind", n)
	}
}

// P15.2

// A frame is its number, and what a prim seals with that as nonce and as ad.
func TestFrames(t *testing.T) {
	both(t, func(t *testing.T, p *prim.Prim) {
		l := endsOf(t, p)
		q := p.Copy()
		texts := []string{"", "x", "x", number(1), draw(0), strings.Repeat("z", 300), strings.Repeat("z", mostBytes), "last"}
		for i, text := range texts {
			n := number(uint64(i + 1))
			want, e := q.Seal(l.x, n, n, text)
			if e != api.OK {
				t.Fatalf("%d: prim.Seal: %d", i, e)
			}
			if f := sealed(t, l.a, text); f != n+want {
				t.Errorf("%d: %.60x; want %.60x", i, f, n+want)
			}
			same(t, "what Seal did", p, q)
		}
		for i := range 300 { // numbers of more than one byte
			if f := sealed(t, l.a, "m"); f[:8] != number(uint64(len(texts)+i+1)) {
				t.Errorf("%d: %x", i, f[:8])
			}
		}
	})
}

func TestSealRefused(t *testing.T) {
	both(t, func(t *testing.T, p *prim.Prim) {
		l := endsOf(t, p)
		sealed(t, l.a, "x")
		was := p.Copy()
		for _, size := range []int{mostBytes + 1, mostBytes + 2, 1 << 20} {
			if f, e := l.a.Seal(strings.Repeat("x", size)); f != "" || e != api.ErrLong || l.a.Sent() != 1 || l.a.Seen() != 0 {
				t.Errorf("%d bytes: %.40x, %d; Sent %d", size, f, e, l.a.Sent())
			}
		}
		same(t, "texts that are too long", p, was)
		// The number that sealed nothing is the next one's.
		takes(t, l.b, "behind that", sealed(t, l.a, strings.Repeat("y", mostBytes)), strings.Repeat("y", mostBytes), 2)
	})
}

// What keys may be, prim tells: real ones have 32 bytes, with terms any text is one that a term may have.
func TestKeysThatAreNone(t *testing.T) {
	for _, key := range []string{"", "short", draw('x')[1:], draw('x') + "x", strings.Repeat("x", 1<<16)} {
		p := made(t, api.KitReal)
		good, bad := endsOf(t, p), record.Open(p, key, key)
		f := sealed(t, good.a, "x")
		was := p.Copy()
		for _, text := range []string{"", "x", strings.Repeat("x", mostBytes)} {
			if f, e := bad.Seal(text); f != "" || e != api.ErrKey || bad.Sent() != 0 {
				t.Errorf("%.40q: %x, %d; Sent %d", key, f, e, bad.Sent())
			}
		}
		if f, e := bad.Seal(strings.Repeat("x", mostBytes+1)); f != "" || e != api.ErrLong {
			t.Errorf("%.40q: of a text that is too long: %x, %d", key, f, e)
		}
		refuses(t, bad, "a frame", f, api.ErrKey)
		refuses(t, bad, "a number alone", number(1), api.ErrKey)
		refuses(t, bad, "a number that came", number(0), api.ErrStale)
		refuses(t, bad, "7 bytes", f[:7], api.ErrForm)
		same(t, "keys that are none", p, was)
		// Each direction's key counts for that direction alone.
		out, in := record.Open(p, draw('x'), key), record.Open(p, key, draw('x'))
		takes(t, in, "by the key that is one", sealed(t, out, "one way"), "one way", 1)
		refuses(t, out, "by the key that is none", f, api.ErrKey)
		if _, e := in.Seal(""); e != api.ErrKey || in.Sent() != 0 {
			t.Errorf("%.40q: by the key that is none: %d", key, e)
		}

		q := made(t, api.KitTerm)
		a, b := record.Open(q, key, ""), record.Open(q, "", key)
		takes(t, b, "a term's key", sealed(t, a, "x"), "x", 1)
	}
	p, long := made(t, api.KitTerm), strings.Repeat("x", 1<<16+1)
	r := record.Open(p, long, long)
	if f, e := r.Seal(""); f != "" || e != api.ErrLong || r.Sent() != 0 {
		t.Errorf("a key that no term may have: %x, %d; Sent %d", f, e, r.Sent())
	}
	refuses(t, r, "by a key that no term may have", number(1)+draw('x'), api.ErrSeal)
}

// With terms a table may be full: then Seal answers as prim does, and nothing counts.
func TestFullTable(t *testing.T) {
	p := made(t, api.KitTerm)
	l := endsOf(t, p)
	first := sealed(t, l.a, "x")
	for p.Secret("") != "" { // fresh names, till there is no room for one more
	}
	was := p.Copy()
	if f, e := l.a.Seal("another"); f != "" || e != api.ErrFull || l.a.Sent() != 1 {
		t.Errorf("%x, %d; Sent %d", f, e, l.a.Sent())
	}
	if f, e := l.a.Seal("x"); f != "" || e != api.ErrFull || l.a.Sent() != 1 {
		t.Errorf("%x, %d; Sent %d", f, e, l.a.Sent())
	}
	same(t, "a full table", p, was)
	takes(t, l.b, "one of before", first, "x", 1)
}

// P15.3

// Take is what a prim opens with the number that stands ahead, whatever number that is.
func TestTake(t *testing.T) {
	both(t, func(t *testing.T, p *prim.Prim) {
		l := endsOf(t, p)
		seen := uint64(0)
		for i, n := range []uint64{1, 2, 7, 255, 256, 1 << 16, 1<<32 - 1, 1 << 32, 1<<40 - 1, 1 << 40, 1<<40 + 1, 1<<63 - 1, 1 << 63, 1<<64 - 2, 1<<64 - 1} {
			text := fmt.Sprint("text ", i)
			head := number(n)
			s, e := p.Seal(l.x, head, head, text)
			if e != api.OK {
				t.Fatalf("%d: %d", n, e)
			}
			q := p.Copy()
			if _, e := q.Open(l.x, head, head, s); e != api.OK {
				t.Fatalf("%d: %d", n, e)
			}
			takes(t, l.b, fmt.Sprint(n), head+s, text, n)
			same(t, "what Take did", p, q)
			refuses(t, l.b, "it again", head+s, api.ErrStale)
			refuses(t, l.b, "its number with nothing behind", head, api.ErrStale)
			refuses(t, l.b, "a lesser number", number(n-1)+s, api.ErrStale)
			refuses(t, l.b, "the last one's number", number(seen)+s, api.ErrStale)
			if n < 1<<64-1 {
				refuses(t, l.b, "what was sealed with another number", number(n+1)+s, api.ErrSeal)
			}
			same(t, "what was refused", p, q)
			seen = n
		}
		if l.b.Sent() != 0 {
			t.Errorf("Sent: %d", l.b.Sent())
		}
	})
}

// Nonce and ad are the number, both of them.
func TestNonceAndAd(t *testing.T) {
	both(t, func(t *testing.T, p *prim.Prim) {
		l := endsOf(t, p)
		one, two := number(1), number(2)
		for _, x := range [][2]string{{one, two}, {two, one}, {two, two}, {one, ""}, {"", one}, {"", ""}, {one, one + one}} {
			s, e := p.Seal(l.x, x[0], x[1], "text")
			if e != api.OK {
				t.Fatal(e)
			}
			refuses(t, l.b, fmt.Sprintf("sealed with %x and %x", x[0], x[1]), one+s, api.ErrSeal)
		}
		s, e := p.Seal(l.y, one, one, "text")
		if e != api.OK {
			t.Fatal(e)
		}
		refuses(t, l.b, "by the other key", one+s, api.ErrSeal)
		if s, e = p.Seal(l.x, one, one, "text"); e != api.OK {
			t.Fatal(e)
		}
		takes(t, l.b, "as a frame is", one+s, "text", 1)
	})
}

func TestTakeRefused(t *testing.T) {
	both(t, func(t *testing.T, p *prim.Prim) {
		l := endsOf(t, p)
		sealed(t, l.a, "the first one")
		f := sealed(t, l.a, "the text")
		was := p.Copy()
		for i := range 8 {
			refuses(t, l.b, "a piece of a number", f[:i], api.ErrForm)
			refuses(t, l.b, "a piece of a high number", strings.Repeat("\xff", i), api.ErrForm)
			refuses(t, l.b, "noughts", strings.Repeat("\x00", i), api.ErrForm)
		}
		for i := 8; i < len(f); i++ {
			refuses(t, l.b, fmt.Sprint("cut at ", i), f[:i], api.ErrSeal)
		}
		refuses(t, l.b, "a byte more", f+"\x00", api.ErrSeal)
		refuses(t, l.b, "a byte more ahead of what was sealed", f[:8]+"\x00"+f[8:], api.ErrSeal)
		refuses(t, l.b, "itself behind", f+f, api.ErrSeal)
		refuses(t, l.b, "what is far too long", f[:8]+strings.Repeat("x", 1<<20), api.ErrSeal)
		refuses(t, l.b, "the number 0", number(0)+f[8:], api.ErrStale)
		refuses(t, l.b, "the number 0 alone", number(0), api.ErrStale)
		refuses(t, l.b, "the number 1 in its place", number(1)+f[8:], api.ErrSeal)
		for _, n := range []uint64{1, 3, 1 << 40, 1<<64 - 1} {
			refuses(t, l.b, "a number that was not sealed", number(n)+f[8:], api.ErrSeal)
			refuses(t, l.b, "noise", number(n)+strings.Repeat("x", 40), api.ErrSeal)
		}
		same(t, "what was refused", p, was)
		takes(t, l.b, "as it was", f, "the text", 2)
	})
}

// No bit of a real frame may differ; of one of terms no byte (but that the sealed ones are another frame's).
func TestChangedFrames(t *testing.T) {
	both(t, func(t *testing.T, p *prim.Prim) {
		l := endsOf(t, p)
		for range 3 {
			takes(t, l.b, "ahead", sealed(t, l.a, "ahead"), "ahead", l.a.Sent())
		}
		f := sealed(t, l.a, "the text")
		was := p.Copy()
		for i := range f {
			for bit := range 8 {
				b := []byte(f)
				b[i] ^= 1 << bit
				want := api.ErrSeal
				if string(b[:8]) <= number(3) {
					want = api.ErrStale
				}
				refuses(t, l.b, fmt.Sprintf("byte %d, bit %d", i, bit), string(b), want)
			}
		}
		same(t, "changed frames", p, was)
		takes(t, l.b, "as it was", f, "the text", 4)
	})
}

// Frames of another connection, or of another time, are none of this one's.
func TestOtherConnections(t *testing.T) {
	both(t, func(t *testing.T, p *prim.Prim) {
		l := endsOf(t, p)
		x, y := p.Secret(draw('v')), p.Secret(draw('w'))
		c, d := record.Open(p, x, y), record.Open(p, y, x)
		f, g := sealed(t, l.a, "of a"), sealed(t, c, "of c")
		refuses(t, l.b, "of c", g, api.ErrSeal)
		refuses(t, d, "of a", f, api.ErrSeal)
		takes(t, l.b, "of a", f, "of a", 1)
		takes(t, d, "of c", g, "of c", 1)
	})
}

// P15.4

// In whatever order frames come, and how often: just those are taken that come behind no later one that was, each once, as they were; in between come bytes that are none.
func TestAnyOrder(t *testing.T) {
	both(t, func(t *testing.T, p *prim.Prim) {
		chance := rand.New(rand.NewSource(15))
		for range 20 {
			l := endsOf(t, p)
			var frames, texts []string
			for range 1 + chance.Intn(12) {
				texts = append(texts, strings.Repeat(string([]byte{byte(chance.Intn(256))}), chance.Intn(80)))
				frames = append(frames, sealed(t, l.a, texts[len(texts)-1]))
			}
			seen, taken := 0, make([]int, len(frames))
			for range 40 {
				n := 1 + chance.Intn(len(frames))
				f := frames[n-1]
				switch {
				case chance.Intn(3) == 0:
					refuses(t, l.b, "in between", f[:chance.Intn(8)], api.ErrForm)
					if n > seen {
						refuses(t, l.b, "in between", f[:8]+f[9:], api.ErrSeal)
						refuses(t, l.b, "in between", number(1<<50)+f[8:], api.ErrSeal)
					}
				case n <= seen:
					refuses(t, l.b, "an elder one", f, api.ErrStale)
				default:
					takes(t, l.b, "a later one", f, texts[n-1], uint64(n))
					seen = n
					taken[n-1]++
				}
			}
			if slices.ContainsFunc(taken, func(n int) bool { return n > 1 }) || l.b.Sent() != 0 || l.a.Seen() != 0 {
				t.Errorf("taken: %v", taken)
			}
		}
	})
}

// W5: whatever fails in between, a record seals no two texts with one nonce; and all of its frames have each another number.
func TestNoNumberTwice(t *testing.T) {
	both(t, func(t *testing.T, p *prim.Prim) {
		l := endsOf(t, p)
		numbers := map[string]int{}
		for i := range 40 {
			text := fmt.Sprint("text ", i)
			if i%3 == 1 {
				text = strings.Repeat("x", mostBytes+i)
			}
			for _, r := range []*record.Record{l.a, l.b} {
				if f, e := r.Seal(text); e == api.OK && r == l.a {
					numbers[f[:8]]++
				}
			}
			l.a.Take(fmt.Sprint("noise ", i))
		}
		if len(numbers) != 27 || l.a.Sent() != 27 {
			t.Errorf("%d numbers; Sent %d", len(numbers), l.a.Sent())
		}
		type use struct{ key, nonce string }
		used := map[use]int{}
		for _, d := range p.Journal() {
			if d.Kind == api.DeedSeal {
				used[use{d.Key, d.Nonce}]++
			}
		}
		for u, n := range used {
			if n != 1 {
				t.Errorf("%d times with the nonce %x", n, u.nonce)
			}
		}
		if len(used) != 54 {
			t.Errorf("%d keys and nonces of 54 frames", len(used))
		}
	})
}

// R5: neither what is handed in nor what is answered is kept but by its content.
func TestNothingIsShared(t *testing.T) {
	both(t, func(t *testing.T, p *prim.Prim) {
		var all [][]byte
		lent := func(s string) string {
			b := []byte(s)
			all = append(all, b)
			return unsafe.String(unsafe.SliceData(b), len(b))
		}
		spoil := func() {
			for _, b := range all {
				for i := range b {
					b[i] ^= 0x55
				}
			}
			all = nil
		}
		x, y := p.Secret(draw('x')), p.Secret(draw('y'))
		a, b := record.Open(p, lent(x), lent(y)), record.Open(p, lent(y), lent(x))
		spoil()
		c := a.Copy(p)
		one := number(1)
		want, e := p.Copy().Seal(x, one, one, "the text")
		if e != api.OK {
			t.Fatal(e)
		}
		f, e := a.Seal(lent("the text"))
		if e != api.OK {
			t.Fatal(e)
		}
		was := strings.Clone(f)
		spoil()
		if f != was || f != one+want {
			t.Errorf("the frame was %x, and is %x; want %x", was, f, one+want)
		}
		s, e := b.Take(lent(f))
		spoil()
		if s != "the text" || e != api.OK {
			t.Errorf("%q, %d", s, e)
		}
		if g := sealed(t, c, "the text"); g != was {
			t.Errorf("a copy's: %x; want %x", g, was)
		}
		back, e := p.Seal(y, one, one, "back")
		if e != api.OK {
			t.Fatal(e)
		}
		takes(t, a, "back", one+back, "back", 1)
	})
}

// R1: whatever bytes come, each call ends, and what is none changes nothing.
func TestChanceBytes(t *testing.T) {
	both(t, func(t *testing.T, p *prim.Prim) {
		chance := rand.New(rand.NewSource(51))
		l := endsOf(t, p)
		f := sealed(t, l.a, "the text")
		for range 2000 {
			b := make([]byte, chance.Intn(80))
			chance.Read(b)
			want := api.ErrSeal
			switch {
			case len(b) < 8:
				want = api.ErrForm
			case string(b[:8]) == number(0):
				want = api.ErrStale
			}
			refuses(t, l.b, fmt.Sprintf("%x", b), string(b), want)
		}
		takes(t, l.b, "behind all that", f, "the text", 1)
	})
}
