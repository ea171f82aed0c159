package session_test

import (
	"fmt"
	"math/rand"
	"reflect"
	"testing"

	"missive/api"
	"missive/prim"
)

// letter is a message under way, and how often it was read.
type letter struct {
	from, to int
	in, text string
	reads    int
}

// crowd are devices of one prim that write to one another, by choices of chance.
type crowd struct {
	t   *testing.T
	p   *prim.Prim
	r   *rand.Rand
	all []*home
	bag []*letter
}

func newCrowd(t *testing.T, p *prim.Prim, seed int64, selves ...int) *crowd {
	t.Helper()
	c := &crowd{t: t, p: p, r: rand.New(rand.NewSource(seed))}
	draws := 0
	for _, self := range selves {
		c.all = append(c.all, settled(t, p, self, len(selves), &draws))
	}
	return c
}

func (c *crowd) loose(is bool) {
	for _, h := range c.all {
		h.loose = is
	}
}

// two chooses two devices.
func (c *crowd) two() (i, j int) {
	i = c.r.Intn(len(c.all))
	return i, (i + 1 + c.r.Intn(len(c.all)-1)) % len(c.all)
}

// meet lets a device begin, if it has not: with a once key that nobody else has, or with none.
func (c *crowd) meet(i, j int) {
	a, b := c.all[i], c.all[j]
	x := b.bundle
	if c.r.Intn(3) > 0 {
		x = b.with(i)
	}
	draws := [2]string{a.draw(), a.draw()}
	if a.b.Has(b.self, true) {
		a.refused("Meet again", a.meet(b.self, x, draws), api.ErrBusy)
		return
	}
	got := a.meet(b.self, x, draws)
	if got.e != api.OK {
		c.t.Fatalf("%s", told(got))
	}
	if c.r.Intn(4) > 0 { // else the call has not been
		a.done(got)
	}
}

// write lets a device write in one of its sessions. It may be that the change is not done, and the call is made again.
func (c *crowd) write(i, j int) {
	a, b := c.all[i], c.all[j]
	mine := c.r.Intn(2) == 0
	text := fmt.Sprint("text ", len(c.bag), " from ", a.self)
	got := a.write(b.self, mine, text)
	if got.e == api.ErrNone && !a.b.Has(b.self, mine) {
		return
	}
	if c.r.Intn(3) == 0 {
		a.open()
		if again := a.write(b.self, mine, text); !reflect.DeepEqual(again, got) {
			c.t.Fatalf("made again: %s; want %s", told(again), told(got))
		}
	}
	a.done(got)
	c.bag = append(c.bag, &letter{from: i, to: j, in: got.out, text: text})
}

// come lets a message come: it is read the first time, and at no other one. It may be that the change is not done; then it is read when it comes again.
func (c *crowd) come() {
	if len(c.bag) == 0 {
		return
	}
	l := c.bag[c.r.Intn(len(c.bag))]
	a, b := c.all[l.from], c.all[l.to]
	got := b.gets(a, l.in)
	if l.reads > 0 {
		if got.e == api.OK {
			c.t.Fatalf("%q was read twice: %s", l.text, told(got))
		}
		return
	}
	if got.e != api.OK || got.read.Text != l.text || got.read.Mine != (l.in[0] == 1) {
		c.t.Fatalf("%q was read as %s", l.text, told(got))
	}
	if c.r.Intn(4) == 0 {
		b.open()
		return
	}
	b.done(got)
	l.reads++
}

// stray lets a message come to one that it was not written to, or as another one's.
func (c *crowd) stray() {
	if len(c.bag) == 0 {
		return
	}
	l := c.bag[c.r.Intn(len(c.bag))]
	i, j := c.two()
	if i == l.from && j == l.to {
		return
	}
	if got := c.all[j].gets(c.all[i], l.in); got.e == api.OK {
		c.t.Fatalf("%q of %d to %d was read as of %d by %d", l.text, l.from, l.to, i, j)
	}
}

func (c *crowd) step() {
	i, j := c.two()
	switch n := c.r.Intn(20); {
	case n < 2:
		c.meet(i, j)
	case n < 9:
		c.write(i, j)
	case n < 18:
		c.come()
	default:
		c.stray()
	}
}

// oneText looks whether a key and a nonce have sealed two texts.
func oneText(t *testing.T, p *prim.Prim) {
	t.Helper()
	type sealing struct{ key, nonce string }
	seen := map[sealing]string{}
	for _, d := range p.Journal() {
		at := sealing{d.Key, d.Nonce}
		if d.Kind != api.DeedSeal {
			continue
		}
		if was, is := seen[at]; is && was != d.Text {
			t.Fatalf("%q and %q have one key", was, d.Text)
		}
		seen[at] = d.Text
	}
}

// P20.7, P20.8: whatever comes in whatever order, each call is as the words have it, and each message is read once.
func TestWalksAsTheDocumentSays(t *testing.T) {
	both(t, func(t *testing.T, p *prim.Prim) {
		for seed := range int64(6) {
			c := newCrowd(t, p.Copy(), seed, 2, 3, 7)
			for range 150 {
				c.step()
			}
			oneText(t, c.p)
		}
	})
}

func TestLongWalks(t *testing.T) {
	both(t, func(t *testing.T, p *prim.Prim) {
		reads := 0
		for seed := range int64(8) {
			c := newCrowd(t, p.Copy(), 100+seed, 2, 3, 4, 6)
			c.loose(true)
			for range 800 {
				c.step()
			}
			for _, l := range c.bag { // what did not come yet comes late
				for l.reads == 0 {
					c.bag = []*letter{l}
					c.come()
				}
				reads++
			}
			oneText(t, c.p)
		}
		if reads < 1000 {
			t.Errorf("%d were read", reads)
		}
	})
}

// Up to MaxSkip may be missing ahead of a message, of the first one that comes too.
func TestManyAhead(t *testing.T) {
	both(t, func(t *testing.T, p *prim.Prim) {
		a, b := pair(t, p)
		a.loose, b.loose = true, true
		a.meets(b, b.with(0))
		var in []string
		for i := range 1003 {
			in = append(in, a.says(b, true, fmt.Sprint(i)))
		}
		b.fails("1002 ahead", a, in[1002], api.ErrSkip)
		b.fails("1001 ahead", a, in[1001], api.ErrSkip)
		b.has(2, false, false)
		b.hears(a, in[1000], "1000")
		for _, i := range []int{999, 0, 500, 1002, 1001, 1} {
			b.hears(a, in[i], fmt.Sprint(i))
			b.fails("again", a, in[i], api.ErrStale)
		}
	})
}

// R6
func TestSameCallsSameAnswers(t *testing.T) {
	both(t, func(t *testing.T, p *prim.Prim) {
		var last *crowd
		for range 2 {
			c := newCrowd(t, p.Copy(), 55, 4, 5, 6)
			c.loose(true)
			for range 200 {
				c.step()
			}
			if last != nil {
				same(t, "the walk", c.p, last.p)
				for i := range c.all {
					if !reflect.DeepEqual(rowsOf(c.all[i].s), rowsOf(last.all[i].s)) {
						t.Errorf("the rows of %d", i)
					}
				}
				if !reflect.DeepEqual(c.bag, last.bag) {
					t.Error("the messages")
				}
			}
			last = c
		}
	})
}

// wake brings a device whose power went back, with so many of the bytes that were not synced.
func (h *home) wake(bytes int) {
	h.t.Helper()
	if e := h.disk.Wake([]int{bytes, bytes}); e != api.OK {
		h.t.Fatalf("Wake: %d", e)
	}
	h.open()
}

// try does what an answer says on a disk that may lose its power. It tells whether the change was done; if not, the device is opened anew.
func (h *home) try(got answer, bytes int) bool {
	h.t.Helper()
	puts, dels := got.changes()
	if got.e != api.OK {
		h.t.Fatalf("%s", told(got))
	}
	was := rowsOf(h.s)
	e := h.s.Do(puts, dels)
	if e == api.OK {
		return true
	}
	if e != api.ErrDown {
		h.t.Fatalf("Do: %d", e)
	}
	h.wake(bytes)
	is := rowsOf(h.s)
	if reflect.DeepEqual(is, was) {
		return false
	}
	for _, row := range puts {
		if value, _ := h.s.Get(row.Key); value != row.Value {
			h.t.Fatalf("behind the loss of power the row %q is neither the old one nor the new one", row.Key)
		}
	}
	for _, key := range dels {
		if _, there := h.s.Get(key); there {
			h.t.Fatalf("behind the loss of power the row %q is there still", key)
		}
	}
	return true
}

// surely writes as often as it takes till the change is done: each time it is the same message.
func (h *home) surely(o *home, mine bool, text string, bytes int) string {
	h.t.Helper()
	got := h.write(o.self, mine, text)
	for !h.try(got, bytes) {
		again := h.write(o.self, mine, text)
		if !reflect.DeepEqual(again, got) {
			h.t.Fatalf("made again: %s; want %s", told(again), told(got))
		}
	}
	return got.out
}

// takes reads as often as it takes till the change is done, and never behind that.
func (h *home) takes(o *home, in, text string, bytes int) {
	h.t.Helper()
	for {
		got := h.gets(o, in)
		if got.e != api.OK || got.read.Text != text {
			h.t.Fatalf("%s; want %q", told(got), text)
		}
		if h.try(got, bytes) {
			break
		}
	}
	if got := h.gets(o, in); got.e == api.OK {
		h.t.Fatalf("read again: %s", told(got))
	}
}

// W3, W5: the power of either device goes at each operation of a talk.
func TestLossOfPower(t *testing.T) {
	both(t, func(t *testing.T, start *prim.Prim) {
		for side := range 2 {
			for bytes := range 3 {
				for n, down := 1, true; down; n++ {
					p := start.Copy()
					a, b := pair(t, p)
					hit := []*home{a, b}[side]
					if e := hit.disk.Arm(n); e != api.OK {
						t.Fatal(e)
					}
					lost := []int{0, 40, 1 << 20}[bytes]
					for !a.b.Has(b.self, true) {
						a.try(a.meet(b.self, b.with(0), [2]string{a.draw(), a.draw()}), lost)
					}
					one := a.surely(b, true, "one", lost)
					two := a.surely(b, true, "two", lost)
					b.takes(a, two, "two", lost)
					if _, is := b.s.Get("ko0000000007"); is || !b.b.Has(a.self, false) {
						t.Fatal("the once key is there still, or the session is not")
					}
					back := b.surely(a, false, "back", lost)
					b.takes(a, one, "one", lost)
					a.takes(b, back, "back", lost)
					b.takes(a, a.surely(b, true, "three", lost), "three", lost)
					oneText(t, p)
					down = len(hit.disk.Sizes()) >= n // else the power did not go any more
				}
			}
		}
	})
}

// Bytes of all kinds are read as the words have it, and nothing comes of them.
func TestChanceBytes(t *testing.T) {
	both(t, func(t *testing.T, p *prim.Prim) {
		a, b := pair(t, p)
		a.meets(b, b.with(0))
		one, two := a.says(b, true, "one"), a.says(b, true, "two")
		r := rand.New(rand.NewSource(9))
		pieces := []string{"", "\x00", "\x01", "\x00\x00\x00\x00", number(4, 5), number(4, 7), number(4, 12), "x",
			firstOf(one), texts(firstOf(one)), sealedOf(one), sealedOf(two), firstPart("x", 5, 7), texts(firstPart("x", 5, 0)), one, two}
		try := func(times int) {
			t.Helper()
			for range times {
				in := ""
				for range r.Intn(5) {
					in += pieces[r.Intn(len(pieces))]
				}
				if got := b.gets(a, in); got.e == api.OK && in != one && in != two {
					t.Errorf("%x: %s", in, told(got))
				}
			}
		}
		try(300)
		b.hears(a, one, "one")
		try(300)
		b.meets(a, a.bundle)
		a.hears(b, b.says(a, true, "other"), "other")
		b.hears(a, a.says(b, false, "back"), "back")
		try(300)
	})
}
