package session_test

import (
	"fmt"
	"reflect"
	"strings"
	"testing"

	"missive/api"
	"missive/disk"
	"missive/prim"
	"missive/ratchet"
	"missive/session"
	"missive/store"
	"missive/x3dh"
)

const (
	mostBytes = 1 << 14 // of a secret
	mostKept  = 1 << 20 // the greatest id of a secret that is kept
	mostValue = 1 << 18 // bytes of a row's value
)

// number tells v in that many bytes, the highest first.
func number(size, v int) string {
	b := make([]byte, size)
	for i := range b {
		b[i] = byte(v >> (8 * (size - 1 - i)))
	}
	return string(b)
}

// texts tells texts, each with its length ahead.
func texts(l ...string) string {
	out := ""
	for _, s := range l {
		out += number(4, len(s)) + s
	}
	return out
}

// numberAt reads the number that begins there.
func numberAt(s string, at, size int) int {
	v := 0
	for i := range size {
		v = v<<8 | int(s[at+i])
	}
	return v
}

// cut takes a text off the front; false, if there is none.
func cut(s string) (text, rest string, ok bool) {
	if len(s) < 4 || len(s)-4 < numberAt(s, 0, 4) {
		return "", "", false
	}
	end := 4 + numberAt(s, 0, 4)
	return s[4:end], s[end:], true
}

// firstPart is one as the document lays it.
func firstPart(public string, preId, onceId int) string {
	return texts(public) + number(4, preId) + number(4, onceId)
}

// split tells what is in a first part; false, if it is none.
func split(s string) (public string, preId, onceId int, ok bool) {
	public, rest, ok := cut(s)
	if !ok || len(rest) != 8 {
		return "", 0, 0, false
	}
	return public, numberAt(rest, 0, 4), numberAt(rest, 4, 4), true
}

// keyAt is the key of a session's row.
func keyAt(peer int, mine bool) string {
	if mine {
		return fmt.Sprintf("s%02d0", peer)
	}
	return fmt.Sprintf("s%02d1", peer)
}

// rowAt is a session's row.
func rowAt(t *testing.T, peer int, mine bool, x kept) api.Row {
	t.Helper()
	bytes, e := ratchet.Encode(x.r)
	if e != api.OK {
		t.Fatalf("Encode: %d", e)
	}
	return api.Row{Key: keyAt(peer, mine), Value: texts(x.first, x.public, bytes)}
}

// kept is what a row says of a session.
type kept struct {
	first, public string
	r             api.Ratchet
}

// keptOf reads a row; false, if it is none of a session.
func keptOf(value string) (x kept, ok bool) {
	var rest, bytes string
	if x.first, rest, ok = cut(value); !ok {
		return kept{}, false
	}
	if x.public, rest, ok = cut(rest); !ok {
		return kept{}, false
	}
	if bytes, rest, ok = cut(rest); !ok || rest != "" {
		return kept{}, false
	}
	if _, _, _, isFirst := split(x.first); !isFirst && x.first != "" {
		return kept{}, false
	}
	r, e := ratchet.Decode(bytes)
	x.r = r
	return x, e == api.OK
}

// What follows tells the document's words of each call.

// words are what a book stands on, and whose it is.
type words struct {
	t    *testing.T
	p    *prim.Prim
	s    *store.Store
	self int
}

func (w words) secret(key string) (string, bool) { return w.s.Get(key) }

func wantKeep(identity string, preId int, pre string, onceId int, onces []string) ([]api.Row, api.Errno) {
	for _, s := range append([]string{identity, pre}, onces...) {
		if len(s) < 1 || len(s) > mostBytes {
			return nil, api.ErrArg
		}
	}
	if preId < 1 || preId > mostKept || onceId < 1 || onceId > mostKept || len(onces) > 20 {
		return nil, api.ErrArg
	}
	rows := []api.Row{{Key: "ki", Value: identity}, {Key: fmt.Sprintf("kp%010d", preId), Value: pre}}
	for i, s := range onces {
		rows = append(rows, api.Row{Key: fmt.Sprintf("ko%010d", onceId+i), Value: s})
	}
	return rows, api.OK
}

func (w words) isPeer(peer int) bool { return peer >= 2 && peer <= 7 && peer != w.self }

func (w words) meet(peer int, x api.Bundle, draws [2]string) ([]api.Row, api.Errno) {
	if !w.isPeer(peer) || x.Device != 0 && x.Device != 1 || x.User < 0 || x.User > 2 || 2+2*x.User+x.Device != peer {
		return nil, api.ErrArg
	}
	if _, is := w.s.Get(keyAt(peer, true)); is {
		return nil, api.ErrBusy
	}
	identity, is := w.secret("ki")
	if !is {
		return nil, api.ErrNone
	}
	secret, public, e := x3dh.Begin(w.p, identity, x, draws[0])
	if e != api.OK {
		return nil, e
	}
	r, e := ratchet.First(w.p, secret, x.Pre, draws[1])
	if e != api.OK {
		return nil, e
	}
	return []api.Row{rowAt(w.t, peer, true, kept{firstPart(public, x.PreId, x.OnceId), public, r})}, api.OK
}

// ad is that of a message.
func ad(writer, reader int, began byte, first string) string {
	return number(2, writer) + number(2, reader) + string([]byte{began}) + texts(first)
}

func (w words) write(peer int, mine bool, text string) (string, []api.Row, api.Errno) {
	if !w.isPeer(peer) {
		return "", nil, api.ErrArg
	}
	value, is := w.s.Get(keyAt(peer, mine))
	if !is {
		return "", nil, api.ErrNone
	}
	x, ok := keptOf(value)
	if !ok {
		return "", nil, api.ErrForm
	}
	began := byte(1)
	if mine {
		began = 0
	}
	next, out, e := ratchet.Encrypt(w.p, x.r, ad(w.self, peer, began, x.first), text)
	if e != api.OK {
		return "", nil, e
	}
	x.r = next
	return string([]byte{began}) + texts(x.first) + out, []api.Row{rowAt(w.t, peer, mine, x)}, api.OK
}

func (w words) read(peer int, public, in, draw string) (api.Read, api.Errno) {
	if !w.isPeer(peer) {
		return api.Read{}, api.ErrArg
	}
	if in == "" || in[0] > 1 {
		return api.Read{}, api.ErrForm
	}
	mine := in[0] == 1
	first, sealed, ok := cut(in[1:])
	if !ok || len(first) > 1000 {
		return api.Read{}, api.ErrForm
	}
	key, preId, onceId, isFirst := split(first)
	if !isFirst && first != "" || mine && first != "" {
		return api.Read{}, api.ErrForm
	}
	value, is := w.s.Get(keyAt(peer, mine))
	var x kept
	var gone []string
	switch {
	case is:
		if x, ok = keptOf(value); !ok {
			return api.Read{}, api.ErrForm
		}
		if first != "" && key != x.public {
			return api.Read{}, api.ErrBusy
		}
	case mine || first == "":
		return api.Read{}, api.ErrNone
	default:
		var e api.Errno
		if x, gone, e = w.accept(public, key, preId, onceId); e != api.OK {
			return api.Read{}, e
		}
	}
	next, text, e := ratchet.Decrypt(w.p, x.r, ad(peer, w.self, in[0], first), sealed, draw)
	if e != api.OK {
		return api.Read{}, e
	}
	row := rowAt(w.t, peer, mine, kept{"", x.public, next})
	return api.Read{Text: text, Mine: mine, Puts: []api.Row{row}, Dels: gone}, api.OK
}

func (w words) accept(public, key string, preId, onceId int) (x kept, gone []string, e api.Errno) {
	identity, is := w.secret("ki")
	if !is {
		return kept{}, nil, api.ErrNone
	}
	pre, is := w.secret(fmt.Sprintf("kp%010d", preId))
	if !is {
		return kept{}, nil, api.ErrNone
	}
	once := ""
	if onceId > 0 {
		gone = []string{fmt.Sprintf("ko%010d", onceId)}
		if once, is = w.secret(gone[0]); !is {
			return kept{}, nil, api.ErrNone
		}
	}
	secret, e := x3dh.Accept(w.p, identity, pre, once, public, key)
	if e != api.OK {
		return kept{}, nil, e
	}
	r, e := ratchet.Second(w.p, secret, pre)
	return kept{public: key, r: r}, gone, e
}

// look is all that can be asked of a prim, without changing it.
type look struct {
	journal []api.Deed
	terms   []api.Term
}

func looked(t *testing.T, p *prim.Prim) look {
	t.Helper()
	out := look{journal: append([]api.Deed{}, p.Journal()...)}
	tab := p.Table()
	if tab == nil {
		return out
	}
	for n := range tab.Len() {
		x, ok := tab.Of("\xf0TRM" + number(4, n))
		if !ok {
			t.Fatalf("there is no term %d of %d", n, tab.Len())
		}
		if len(x.Parts) == 0 {
			x.Parts = nil
		}
		out.terms = append(out.terms, x)
	}
	return out
}

// same holds two prims against each other: the same deeds were done, and the same terms made, in the same order.
func same(t *testing.T, what string, p, q *prim.Prim) {
	t.Helper()
	if x, y := looked(t, p), looked(t, q); !reflect.DeepEqual(x, y) {
		t.Fatalf("%s: %d deeds and %d terms; want %d and %d, or others", what, len(x.journal), len(x.terms), len(y.journal), len(y.terms))
	}
}

// answer is all that a call answers.
type answer struct {
	out  string // of Write
	read api.Read
	rows []api.Row // of Keep, Meet, Write
	e    api.Errno
}

// plain is an answer with its empty lists as nil ones.
func plain(a answer) answer {
	if len(a.rows) == 0 {
		a.rows = nil
	}
	if len(a.read.Puts) == 0 {
		a.read.Puts = nil
	}
	if len(a.read.Dels) == 0 {
		a.read.Dels = nil
	}
	return a
}

// told tells an answer, of long texts only how they begin.
func told(a answer) string {
	out := fmt.Sprintf("%d, %.60q, mine %t, %.60q, rows", a.e, a.out, a.read.Mine, a.read.Text)
	for _, row := range append(append([]api.Row{}, a.rows...), a.read.Puts...) {
		out += fmt.Sprintf(" %.60q %.60q (%d)", row.Key, row.Value, len(row.Value))
	}
	return out + fmt.Sprintf(", to go %.60q", a.read.Dels)
}

// changes tells what an answer asks to be changed.
func (a answer) changes() ([]api.Row, []string) {
	return append(append([]api.Row{}, a.rows...), a.read.Puts...), a.read.Dels
}

// device is one with its book, of which each call is held against the document's words.
type device struct {
	t      *testing.T
	p      *prim.Prim
	disk   *disk.Disk
	s      *store.Store
	b      *session.Book
	self   int
	public string // of its Dh key
	loose  bool   // what the prim did is not looked at
}

func made(t *testing.T, p *prim.Prim, self int) *device {
	t.Helper()
	d := &device{t: t, p: p, disk: disk.New(1 << 24), self: self}
	d.open()
	return d
}

// open makes the store and the book anew.
func (d *device) open() {
	d.t.Helper()
	s, e := store.Open(d.disk)
	if e != api.OK {
		d.t.Fatalf("store.Open: %d", e)
	}
	b, e := session.New(d.p, s, d.self)
	if e != api.OK || b == nil {
		d.t.Fatalf("New(%d): %v, %d", d.self, b, e)
	}
	d.s, d.b = s, b
}

// held makes a call, and tells what it answers. It is held against the words, and has changed neither the store nor its disk.
func (d *device) held(what string, call func(b *session.Book) answer, want func(w words) answer) answer {
	d.t.Helper()
	var q *prim.Prim
	if !d.loose {
		q = d.p.Copy()
	}
	sizes, rows := len(d.disk.Sizes()), rowsOf(d.s)
	got := plain(call(d.b))
	if n := len(d.disk.Sizes()); n != sizes || !reflect.DeepEqual(rowsOf(d.s), rows) {
		d.t.Fatalf("%s: %d operations; want %d, or the rows changed", what, n, sizes)
	}
	if d.loose {
		return got
	}
	if w := plain(want(words{d.t, q, d.s, d.self})); !reflect.DeepEqual(got, w) {
		d.t.Fatalf("%s: %s; want %s", what, told(got), told(w))
	}
	same(d.t, what, d.p, q)
	return got
}

func (d *device) keep(identity string, preId int, pre string, onceId int, onces []string) answer {
	d.t.Helper()
	return d.held("Keep", func(b *session.Book) (a answer) {
		a.rows, a.e = b.Keep(identity, preId, pre, onceId, onces)
		return a
	}, func(w words) (a answer) {
		a.rows, a.e = wantKeep(identity, preId, pre, onceId, onces)
		return a
	})
}

func (d *device) meet(peer int, x api.Bundle, draws [2]string) answer {
	d.t.Helper()
	return d.held("Meet", func(b *session.Book) (a answer) {
		a.rows, a.e = b.Meet(peer, x, draws)
		return a
	}, func(w words) (a answer) {
		a.rows, a.e = w.meet(peer, x, draws)
		return a
	})
}

func (d *device) write(peer int, mine bool, text string) answer {
	d.t.Helper()
	return d.held("Write", func(b *session.Book) (a answer) {
		a.out, a.rows, a.e = b.Write(peer, mine, text)
		return a
	}, func(w words) (a answer) {
		a.out, a.rows, a.e = w.write(peer, mine, text)
		return a
	})
}

func (d *device) read(peer int, public, in, draw string) answer {
	d.t.Helper()
	return d.held("Read", func(b *session.Book) (a answer) {
		a.read, a.e = b.Read(peer, public, in, draw)
		return a
	}, func(w words) (a answer) {
		a.read, a.e = w.read(peer, public, in, draw)
		return a
	})
}

// has looks whether there are just these sessions with a peer.
func (d *device) has(peer int, mine, other bool) {
	d.t.Helper()
	if x, y := d.b.Has(peer, true), d.b.Has(peer, false); x != mine || y != other {
		d.t.Fatalf("%d: Has(%d): %t, %t; want %t, %t", d.self, peer, x, y, mine, other)
	}
}

// done changes the rows as an answer says.
func (d *device) done(a answer) answer {
	d.t.Helper()
	puts, dels := a.changes()
	if e := d.s.Do(puts, dels); a.e != api.OK || e != api.OK {
		d.t.Fatalf("%s: Do: %d", told(a), e)
	}
	return a
}

// refused looks whether an answer is that error alone.
func (d *device) refused(what string, a answer, want api.Errno) {
	d.t.Helper()
	if !reflect.DeepEqual(a, answer{e: want}) {
		d.t.Errorf("%s: %s; want the error %d alone", what, told(a), want)
	}
}

// put lays rows into the store by hand.
func (d *device) put(rows ...api.Row) {
	d.t.Helper()
	if e := d.s.Do(rows, nil); e != api.OK {
		d.t.Fatalf("Do: %d", e)
	}
}

// drop takes a row away by hand.
func (d *device) drop(keys ...string) {
	d.t.Helper()
	if e := d.s.Do(nil, keys); e != api.OK {
		d.t.Fatalf("Do: %d", e)
	}
}

func rowsOf(s *store.Store) []api.Row {
	var out []api.Row
	for _, key := range s.List("") {
		value, _ := s.Get(key)
		out = append(out, api.Row{Key: key, Value: value})
	}
	return out
}

// draw is the n-th one of 32 bytes. It differs in the middle: of the first and last bytes of a real secret some bits count for nothing.
func draw(n int) string { return strings.Repeat("\x05", 4) + number(4, n) + strings.Repeat("\x05", 24) }

// home is a device that has published its keys, and their secrets.
type home struct {
	*device
	identity, signer, pre string
	onces                 []string
	bundle                api.Bundle // without a once key
	draws                 *int       // how many were drawn, by all devices of a prim
}

// settled is a device that has kept its secrets: the pre key 5, and some once keys from 7 on.
func settled(t *testing.T, p *prim.Prim, self, many int, draws *int) *home {
	t.Helper()
	h := &home{device: made(t, p, self), draws: draws}
	h.identity, h.signer, h.pre = p.Secret(h.draw()), p.Secret(h.draw()), p.Secret(h.draw())
	for range many {
		h.onces = append(h.onces, p.Secret(h.draw()))
	}
	h.public = h.publicOf(h.identity)
	h.bundle = api.Bundle{User: (self - 2) / 2, Device: (self - 2) % 2, Dh: h.public, PreId: 5, Pre: h.publicOf(h.pre)}
	h.bundle.Sign = h.fine(p.Signer(h.signer))
	h.bundle = h.signed(h.bundle)
	h.done(h.keep(h.identity, 5, h.pre, 7, h.onces))
	return h
}

func (h *home) draw() string {
	*h.draws++
	return draw(*h.draws)
}

// signed is the bundle with the signature of its pre key.
func (h *home) signed(x api.Bundle) api.Bundle {
	h.t.Helper()
	x.PreSig = h.fine(h.p.Sign(h.signer, "pre"+number(4, x.PreId)+texts(x.Pre)))
	return x
}

// with is the bundle with the n-th once key.
func (h *home) with(n int) api.Bundle {
	h.t.Helper()
	x := h.bundle
	x.OnceId, x.Once = 7+n, h.publicOf(h.onces[n])
	return x
}

// fine takes what a call of the prim answers that may not fail.
func (h *home) fine(s string, e api.Errno) string {
	h.t.Helper()
	if e != api.OK || s == "" {
		h.t.Fatalf("%.60q, %d", s, e)
	}
	return s
}

func (h *home) publicOf(secret string) string {
	h.t.Helper()
	return h.fine(h.p.Public(secret))
}

// meets lets the device begin a session with another one.
func (h *home) meets(o *home, x api.Bundle) {
	h.t.Helper()
	h.done(h.meet(o.self, x, [2]string{h.draw(), h.draw()}))
}

// says lets the device write to another one, and tells the message.
func (h *home) says(o *home, mine bool, text string) string {
	h.t.Helper()
	return h.done(h.write(o.self, mine, text)).out
}

// gets lets a message of another device come.
func (h *home) gets(o *home, in string) answer {
	h.t.Helper()
	return h.read(o.self, o.public, in, h.draw())
}

// hears lets a message come that is to be read.
func (h *home) hears(o *home, in, want string) answer {
	h.t.Helper()
	a := h.done(h.gets(o, in))
	if a.read.Text != want {
		h.t.Fatalf("Read: %s; want %q", told(a), want)
	}
	return a
}

// fails lets a message come that is not to be read.
func (h *home) fails(what string, o *home, in string, want api.Errno) {
	h.t.Helper()
	h.refused(what, h.gets(o, in), want)
}

// pair are two devices, 2 and 4, of two users, each with three once keys.
func pair(t *testing.T, p *prim.Prim) (a, b *home) {
	t.Helper()
	draws := 0
	return settled(t, p, 2, 3, &draws), settled(t, p, 4, 3, &draws)
}

// both goes through the two kinds.
func both(t *testing.T, look func(t *testing.T, p *prim.Prim)) {
	t.Helper()
	for _, kit := range []int{api.KitReal, api.KitTerm} {
		t.Run(fmt.Sprint("kit", kit), func(t *testing.T) {
			p, e := prim.New(kit)
			if e != api.OK {
				t.Fatalf("prim.New: %d", e)
			}
			look(t, p)
		})
	}
}
