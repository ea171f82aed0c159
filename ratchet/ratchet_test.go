package ratchet_test

import (
	"fmt"
	"math"
	"math/rand"
	"reflect"
	"strings"
	"testing"
	"unsafe"

	"missive/api"
	"missive/prim"
	"missive/ratchet"
)

const (
	mostBytes  = 1 << 14 // of ad, and of a text that is sealed
	mostText   = 1000    // bytes of a text in a ratchet
	mostNumber = 1 << 30
	mostValue  = 1 << 18 // bytes of a ratchet's bytes
)

func made(t *testing.T, kit int) *prim.Prim {
	t.Helper()
	p, e := prim.New(kit)
	if e != api.OK || p == nil {
		t.Fatalf("prim.New(%d): %d", kit, e)
	}
	return p
}

// both goes through the two kinds.
func both(t *testing.T, look func(t *testing.T, p *prim.Prim)) {
	t.Helper()
	for _, kit := range []int{api.KitReal, api.KitTerm} {
		t.Run(fmt.Sprint("kit", kit), func(t *testing.T) { look(t, made(t, kit)) })
	}
}

// nones are prims that are none.
func nones() []*prim.Prim { return []*prim.Prim{nil, {}, new(prim.Prim)} }

// fine takes what a call answers that may not fail.
func fine(t *testing.T) func(string, api.Errno) string {
	return func(s string, e api.Errno) string {
		t.Helper()
		if e != api.OK || s == "" {
			t.Fatalf("%q, %d", s, e)
		}
		return s
	}
}

// draw is the n-th one of 32 bytes. It differs in the middle: of the first and last bytes of a real secret some bits count for nothing.
func draw(n int) string { return strings.Repeat("\x05", 4) + number(4, n) + strings.Repeat("\x05", 24) }

// number tells v in that many bytes, the highest first.
func number(size, v int) string {
	b := make([]byte, size)
	for i := range b {
		b[i] = byte(v >> (8 * (size - 1 - i)))
	}
	return string(b)
}

// texts tells texts, each with its length ahead.
func texts(l ...string) string {
	out := ""
	for _, s := range l {
		out += number(4, len(s)) + s
	}
	return out
}

// headed is the head of a message.
func headed(pub string, pn, n int) string { return texts(pub) + number(4, pn) + number(4, n) }

// split parts a message that was written into its head and what was sealed.
func split(in string) (h api.Head, head, sealed string) {
	size := int(in[0])<<24 | int(in[1])<<16 | int(in[2])<<8 | int(in[3])
	at := func(i int) int {
		return int(in[i])<<24 | int(in[i+1])<<16 | int(in[i+2])<<8 | int(in[i+3])
	}
	end := 4 + size + 8
	return api.Head{Pub: in[4 : 4+size], Pn: at(4 + size), N: at(8 + size)}, in[:end], in[end:]
}

// answer is all that First and Second, Encrypt, or Decrypt answer: a ratchet, a message or a text, an error.
type answer struct {
	r api.Ratchet
	s string
	e api.Errno
}

func first(p *prim.Prim, secret, peer, draw string) answer {
	r, e := ratchet.First(p, secret, peer, draw)
	return answer{r: r, e: e}
}

func second(p *prim.Prim, secret, self string) answer {
	r, e := ratchet.Second(p, secret, self)
	return answer{r: r, e: e}
}

func encrypt(p *prim.Prim, r api.Ratchet, ad, text string) answer {
	next, out, e := ratchet.Encrypt(p, r, ad, text)
	return answer{next, out, e}
}

func decrypt(p *prim.Prim, r api.Ratchet, ad, in, draw string) answer {
	next, text, e := ratchet.Decrypt(p, r, ad, in, draw)
	return answer{next, text, e}
}

// alike holds two ratchets against each other; an empty list may be nil or empty.
func alike(a, b api.Ratchet) bool {
	if len(a.Skipped) == 0 && len(b.Skipped) == 0 {
		a.Skipped, b.Skipped = nil, nil
	}
	return reflect.DeepEqual(a, b)
}

// as holds an answer against the one that it should be.
func as(t *testing.T, what string, got, want answer) {
	t.Helper()
	if !alike(got.r, want.r) || got.s != want.s || got.e != want.e {
		t.Fatalf("%s: %s; want %s", what, told(got), told(want))
	}
}

// told tells an answer, of many keys that are kept only a few.
func told(a answer) string {
	few := a.r.Skipped[:min(len(a.r.Skipped), 3)]
	kept := len(a.r.Skipped)
	a.r.Skipped = nil
	return fmt.Sprintf("%#v, %.60q, %d, %d kept: %#v", a.r, a.s, a.e, kept, few)
}

// refused looks whether an answer is that error and nothing beside it.
func refused(t *testing.T, what string, got answer, want api.Errno) {
	t.Helper()
	if got.r.Skipped != nil || !alike(got.r, api.Ratchet{}) || got.s != "" || got.e != want {
		t.Errorf("%s: %s; want the error %d alone", what, told(got), want)
	}
}

// look is all that can be asked of a prim, without changing it.
type look struct {
	journal []api.Deed
	terms   []api.Term
}

func looked(t *testing.T, p *prim.Prim) look {
	t.Helper()
	out := look{journal: append([]api.Deed{}, p.Journal()...)}
	tab := p.Table()
	if tab == nil {
		return out
	}
	for n := range tab.Len() {
		x, ok := tab.Of("\xf0TRM" + number(4, n))
		if !ok {
			t.Fatalf("there is no term %d of %d", n, tab.Len())
		}
		if len(x.Parts) == 0 {
			x.Parts = nil
		}
		out.terms = append(out.terms, x)
	}
	return out
}

// same holds two prims against each other: the same deeds were done, and the same terms made, in the same order.
func same(t *testing.T, what string, p, q *prim.Prim) {
	t.Helper()
	if x, y := looked(t, p), looked(t, q); !reflect.DeepEqual(x, y) {
		t.Fatalf("%s: %d deeds and %d terms; want %d and %d, or others", what, len(x.journal), len(x.terms), len(y.journal), len(y.terms))
	}
}

// What follows tells the document's words, with a prim alone.

func derived(p *prim.Prim, secret, salt, info string) (first, second string, e api.Errno) {
	k, e := p.Derive(secret, salt, info, 2)
	if e != api.OK {
		return "", "", e
	}
	return k[0], k[1], api.OK
}

// turned turns the root by what Self and Peer share.
func turned(p *prim.Prim, r *api.Ratchet) (chain string, e api.Errno) {
	d, e := p.Dh(r.Self, r.Peer)
	if e != api.OK {
		return "", e
	}
	r.Root, chain, e = derived(p, d, r.Root, "root")
	return chain, e
}

func wantFirst(p *prim.Prim, secret, peer, draw string) answer {
	if len(secret) > mostText || len(peer) > mostText {
		return answer{e: api.ErrLong}
	}
	var e api.Errno
	r := api.Ratchet{Self: p.Secret(draw), Peer: peer, Root: secret}
	if r.SelfPub, e = p.Public(r.Self); e != api.OK {
		return answer{e: e}
	}
	if r.Send, e = turned(p, &r); e != api.OK {
		return answer{e: e}
	}
	return answer{r: r}
}

func wantSecond(p *prim.Prim, secret, self string) answer {
	if len(secret) > mostText || len(self) > mostText {
		return answer{e: api.ErrLong}
	}
	pub, e := p.Public(self)
	if e != api.OK {
		return answer{e: e}
	}
	return answer{r: api.Ratchet{Self: self, SelfPub: pub, Root: secret}}
}

func wantEncrypt(p *prim.Prim, r api.Ratchet, ad, text string) answer {
	switch {
	case len(ad) > mostBytes || len(text) > mostBytes || r.Ns == mostNumber:
		return answer{e: api.ErrLong}
	case r.Send == "":
		return answer{e: api.ErrDown}
	}
	chain, key, e := derived(p, r.Send, "", "chain")
	if e != api.OK {
		return answer{e: e}
	}
	head := headed(r.SelfPub, r.Pn, r.Ns)
	sealed, e := p.Seal(key, "", texts(ad)+head, text)
	if e != api.OK {
		return answer{e: e}
	}
	r.Send, r.Ns = chain, r.Ns+1
	return answer{r: r, s: head + sealed}
}

// wantSkip skips, key by key.
func wantSkip(p *prim.Prim, r *api.Ratchet, upto int) api.Errno {
	if upto > r.Nr+1000 {
		return api.ErrSkip
	}
	for r.Nr < upto {
		chain, key, e := derived(p, r.Recv, "", "chain")
		if e != api.OK {
			return e
		}
		r.Recv = chain
		kept := append([]api.Skip{}, r.Skipped...)
		kept = append(kept, api.Skip{Pub: r.Peer, N: r.Nr, Key: key})
		if len(kept) > 2000 {
			kept = kept[1:]
		}
		r.Skipped = kept
		r.Nr++
	}
	return api.OK
}

// wantDecrypt is of a message that has a head.
func wantDecrypt(p *prim.Prim, r api.Ratchet, ad, in, draw string) answer {
	h, head, sealed := split(in)
	for i, s := range r.Skipped {
		if s.Pub != h.Pub || s.N != h.N {
			continue
		}
		text, e := p.Open(s.Key, "", texts(ad)+head, sealed)
		if e != api.OK {
			return answer{e: e}
		}
		r.Skipped = append(append([]api.Skip{}, r.Skipped[:i]...), r.Skipped[i+1:]...)
		return answer{r: r, s: text}
	}
	if h.Pub != r.Peer {
		if r.Recv != "" && h.Pn > r.Nr {
			if e := wantSkip(p, &r, h.Pn); e != api.OK {
				return answer{e: e}
			}
		}
		var e api.Errno
		r.Pn, r.Ns, r.Nr, r.Peer = r.Ns, 0, 0, h.Pub
		if r.Recv, e = turned(p, &r); e != api.OK {
			return answer{e: e}
		}
		r.Self = p.Secret(draw)
		if r.SelfPub, e = p.Public(r.Self); e != api.OK {
			return answer{e: e}
		}
		if r.Send, e = turned(p, &r); e != api.OK {
			return answer{e: e}
		}
	} else if h.N < r.Nr || r.Recv == "" {
		return answer{e: api.ErrStale}
	}
	if e := wantSkip(p, &r, h.N); e != api.OK {
		return answer{e: e}
	}
	chain, key, e := derived(p, r.Recv, "", "chain")
	if e != api.OK {
		return answer{e: e}
	}
	text, e := p.Open(key, "", texts(ad)+head, sealed)
	if e != api.OK {
		return answer{e: e}
	}
	r.Recv, r.Nr = chain, r.Nr+1
	return answer{r: r, s: text}
}

// laid is a ratchet as the document lays it, whether it may be or not.
func laid(r api.Ratchet) string {
	out := texts(r.Self, r.SelfPub, r.Peer, r.Root, r.Send, r.Recv) +
		number(4, r.Ns) + number(4, r.Nr) + number(4, r.Pn) + number(2, len(r.Skipped))
	var all strings.Builder
	all.WriteString(out)
	for _, s := range r.Skipped {
		all.WriteString(texts(s.Pub) + number(4, s.N) + texts(s.Key))
	}
	return all.String()
}

// talk are two sides, 0 that began and 1, of which each call is held against the document's words.
type talk struct {
	t     *testing.T
	p     *prim.Prim
	r     [2]api.Ratchet
	ad    string
	draws int
	loose bool // what the prim did is not looked at
}

// met are two sides at their beginning.
func met(t *testing.T, p *prim.Prim) *talk {
	t.Helper()
	secret, self := p.Secret(draw(1)), p.Secret(draw(2))
	public := fine(t)(p.Public(self))
	q := p.Copy()
	a, b := first(p, secret, public, draw(3)), second(p, secret, self)
	as(t, "First", a, wantFirst(q, secret, public, draw(3)))
	as(t, "Second", b, wantSecond(q, secret, self))
	same(t, "at the beginning", p, q)
	return &talk{t: t, p: p, r: [2]api.Ratchet{a.r, b.r}, ad: "ad", draws: 10}
}

// held makes the call with the prim, and what it should do with a copy.
func (x *talk) held(what string, call, want func(p *prim.Prim) answer) answer {
	x.t.Helper()
	if x.loose {
		return call(x.p)
	}
	q := x.p.Copy()
	got := call(x.p)
	as(x.t, what, got, want(q))
	same(x.t, what, x.p, q)
	return got
}

// write lets a side write, and tells the message.
func (x *talk) write(side int, text string) string {
	x.t.Helper()
	a := x.held("Encrypt", func(p *prim.Prim) answer { return encrypt(p, x.r[side], x.ad, text) },
		func(p *prim.Prim) answer { return wantEncrypt(p, x.r[side], x.ad, text) })
	if a.e != api.OK {
		x.t.Fatalf("Encrypt: %d", a.e)
	}
	x.r[side] = a.r
	return a.s
}

// writes lets a side write that often, of any text.
func (x *talk) writes(side, times int) []string {
	x.t.Helper()
	var out []string
	for i := range times {
		out = append(out, x.write(side, fmt.Sprint("text ", i)))
	}
	return out
}

// come lets a message come to a side, which goes on as it is answered.
func (x *talk) come(side int, in string) (string, api.Errno) {
	x.t.Helper()
	x.draws++
	d := draw(x.draws)
	a := x.held("Decrypt", func(p *prim.Prim) answer { return decrypt(p, x.r[side], x.ad, in, d) },
		func(p *prim.Prim) answer { return wantDecrypt(p, x.r[side], x.ad, in, d) })
	if a.e != api.OK {
		refused(x.t, "Decrypt", a, a.e)
		return "", a.e
	}
	x.r[side] = a.r
	return a.s, a.e
}

// read lets a message come that is to be read.
func (x *talk) read(side int, in, want string) {
	x.t.Helper()
	if s, e := x.come(side, in); s != want || e != api.OK {
		x.t.Fatalf("Decrypt: %q, %d; want %q", s, e, want)
	}
}

// fails lets a message come that is not to be read, and leaves all as it was.
func (x *talk) fails(side int, in string, want api.Errno) {
	x.t.Helper()
	if s, e := x.come(side, in); s != "" || e != want {
		x.t.Fatalf("Decrypt: %q, %d; want the error %d", s, e, want)
	}
}

// says lets a side write what the other one reads.
func (x *talk) says(side int, text string) {
	x.t.Helper()
	x.read(1-side, x.write(side, text), text)
}

func TestExamples(t *testing.T) {
	x := met(t, made(t, api.KitTerm))
	refused(t, "B Encrypt", encrypt(x.p, x.r[1], x.ad, "0"), api.ErrDown)
	ins := []string{x.write(0, "1"), x.write(0, "2"), x.write(0, "3")}
	for i, in := range ins {
		if h, _, _ := split(in); h != (api.Head{Pub: x.r[0].SelfPub, N: i}) {
			t.Errorf("message %d: %+v", i, h)
		}
	}
	x.read(1, ins[1], "2")
	if l := x.r[1].Skipped; len(l) != 1 || l[0].Pub != x.r[0].SelfPub || l[0].N != 0 {
		t.Errorf("kept: %+v", l)
	}
	x.read(1, ins[0], "1")
	x.fails(1, ins[0], api.ErrStale)
	x.read(1, ins[2], "3")
	in := x.write(1, "4")
	if h, _, _ := split(in); h != (api.Head{Pub: x.r[1].SelfPub}) {
		t.Errorf("4: %+v", h)
	}
	x.read(0, in, "4")
	in = x.write(0, "5")
	if h, _, _ := split(in); h != (api.Head{Pub: x.r[0].SelfPub, Pn: 3}) {
		t.Errorf("5: %+v", h)
	}
	x.read(1, in, "5")
	x.fails(1, ins[2], api.ErrSeal)
	x.loose = true
	for range 1001 {
		in = x.write(0, "far")
	}
	x.loose = false
	far := x.write(0, "farther") // its N is Nr and 1001
	if h, _, _ := split(far); h.N != x.r[1].Nr+1001 {
		t.Errorf("%+v, Nr %d", h, x.r[1].Nr)
	}
	x.fails(1, far, api.ErrSkip)
	x.read(1, in, "far")
}

// P17.1

func TestWithoutAPrim(t *testing.T) {
	x := met(t, made(t, api.KitReal))
	in := x.write(0, "text")
	long := strings.Repeat("x", mostBytes+1)
	for _, none := range nones() {
		for _, s := range []string{"", draw(1), long} {
			refused(t, "First", first(none, s, s, s), api.ErrNil)
			refused(t, "Second", second(none, s, s), api.ErrNil)
			for _, r := range []api.Ratchet{x.r[0], x.r[1], {}, {Ns: -1}, {Ns: mostNumber}} {
				refused(t, "Encrypt", encrypt(none, r, s, s), api.ErrNil)
				refused(t, "Decrypt", decrypt(none, r, s, s, s), api.ErrNil)
				refused(t, "Decrypt", decrypt(none, r, "ad", in, s), api.ErrNil)
			}
		}
	}
}

func TestBeginnings(t *testing.T) {
	both(t, func(t *testing.T, p *prim.Prim) {
		for i := range 5 {
			self := p.Secret(draw(50 + i))
			pub := fine(t)(p.Public(self))
			for _, secret := range []string{draw(60 + i), "", "s", strings.Repeat("s", mostText)} {
				q := p.Copy()
				want := wantFirst(q, secret, pub, draw(70+i))
				got := first(p, secret, pub, draw(70+i))
				as(t, "First", got, want)
				as(t, "Second", second(p, secret, self), wantSecond(q, secret, self))
				same(t, "beginnings", p, q)
				r := got.r
				if got.e != api.OK || r.Peer != pub || r.Self == "" || r.SelfPub == "" || r.Send == "" || r.Root == secret {
					t.Errorf("First: %#v", r)
				}
				if r.Recv != "" || r.Ns != 0 || r.Nr != 0 || r.Pn != 0 || len(r.Skipped) != 0 {
					t.Errorf("First: %#v", r)
				}
			}
		}
	})
}

func TestBeginningsOfWhatIsLong(t *testing.T) {
	both(t, func(t *testing.T, p *prim.Prim) {
		self := p.Secret(draw(1))
		pub := fine(t)(p.Public(self))
		q := p.Copy()
		for _, size := range []int{mostText + 1, mostText + 24, mostBytes, 1 << 17} {
			long := strings.Repeat("x", size)
			refused(t, "a long secret", first(p, long, pub, draw(2)), api.ErrLong)
			refused(t, "a long peer", first(p, draw(3), long, draw(2)), api.ErrLong)
			refused(t, "both long", first(p, long, long, ""), api.ErrLong)
			refused(t, "a long secret", second(p, long, self), api.ErrLong)
			refused(t, "a long self", second(p, draw(3), long), api.ErrLong)
			refused(t, "both long", second(p, long, long), api.ErrLong)
		}
		same(t, "what is long", p, q)
	})
}

// A key that is none is told by the prim, as one of a thousand bytes is with the real kind.
func TestBeginningsOfKeysThatAreNone(t *testing.T) {
	p := made(t, api.KitReal)
	pub := fine(t)(p.Public(draw(1)))
	for _, bad := range []string{"", "x", draw(1)[1:], draw(1) + "x", strings.Repeat("x", mostText), number(32, 0)} {
		what := fmt.Sprintf("%d bytes", len(bad))
		refused(t, "a peer of "+what, first(p, draw(3), bad, draw(2)), api.ErrKey)
		if bad == number(32, 0) {
			continue // a secret may be anything
		}
		refused(t, "a draw of "+what, first(p, draw(3), pub, bad), api.ErrKey)
		refused(t, "a self of "+what, second(p, draw(3), bad), api.ErrKey)
	}
	if n := len(p.Journal()); n != 0 {
		t.Errorf("%d deeds", n)
	}
}

// With terms any text is a key.
func TestBeginningsWithTermsOfAnyTexts(t *testing.T) {
	p := made(t, api.KitTerm)
	for _, s := range []string{"", "x", draw(1), strings.Repeat("x", mostText)} {
		q := p.Copy()
		as(t, "First", first(p, s, s+"", s), wantFirst(q, s, s, s))
		as(t, "Second", second(p, s, s), wantSecond(q, s, s))
		same(t, "any texts", p, q)
		if a, b := first(p, s, s, s), second(p, s, s); a.e != api.OK || b.e != api.OK {
			t.Errorf("%d, %d", a.e, b.e)
		}
	}
}

// P17.2

func TestEncryptAsTheDocumentSays(t *testing.T) {
	both(t, func(t *testing.T, p *prim.Prim) {
		x := met(t, p)
		for i, text := range []string{"", "x", strings.Repeat("x", mostBytes), "\xf0TRM\x00\x00\x00\x01"} {
			for k, ad := range []string{"", "ad", strings.Repeat("a", 1<<13)} {
				x.ad = ad
				in := x.write(0, text)
				h, _, _ := split(in)
				if want := (api.Head{Pub: x.r[0].SelfPub, N: 3*i + k}); h != want {
					t.Errorf("%+v; want %+v", h, want)
				}
				x.read(1, in, text)
			}
		}
	})
}

// The message, byte by byte: head and cipher, of a key that was derived.
func TestBytesOfAMessage(t *testing.T) {
	p := made(t, api.KitReal)
	keys, e := p.Derive("chain key", "", "chain", 2)
	if e != api.OK {
		t.Fatal(e)
	}
	r := api.Ratchet{SelfPub: "pub", Send: "chain key", Ns: 258, Pn: 0x01020304}
	head := "\x00\x00\x00\x03pub" + "\x01\x02\x03\x04" + "\x00\x00\x01\x02"
	a := encrypt(p, r, "ad", "text")
	if a.e != api.OK || !strings.HasPrefix(a.s, head) {
		t.Fatalf("%s", told(a))
	}
	s, e := p.Open(keys[1], "", "\x00\x00\x00\x02ad"+head, a.s[len(head):])
	if s != "text" || e != api.OK {
		t.Errorf("%q, %d", s, e)
	}
	r.Send, r.Ns = keys[0], 259
	if !alike(a.r, r) {
		t.Errorf("%s", told(a))
	}
}

func TestEncryptRefuses(t *testing.T) {
	both(t, func(t *testing.T, p *prim.Prim) {
		x := met(t, p)
		q := p.Copy()
		long := strings.Repeat("x", mostBytes+1)
		full := x.r[0]
		full.Ns = mostNumber
		for _, l := range [][2]string{{long, ""}, {"", long}, {long, long}} {
			for _, r := range []api.Ratchet{x.r[0], x.r[1], {}, full} {
				refused(t, "long", encrypt(p, r, l[0], l[1]), api.ErrLong)
			}
		}
		refused(t, "the last Ns", encrypt(p, full, "", ""), api.ErrLong)
		refused(t, "the last Ns, no chain", encrypt(p, api.Ratchet{Ns: mostNumber}, "", ""), api.ErrLong)
		refused(t, "no chain", encrypt(p, x.r[1], "", ""), api.ErrDown)
		refused(t, "nothing at all", encrypt(p, api.Ratchet{}, "", ""), api.ErrDown)
		for _, v := range mayNot() {
			refused(t, v.what, encrypt(p, v.of(x.r[0]), long, long), api.ErrArg)
			refused(t, v.what, encrypt(p, v.of(full), "", ""), api.ErrArg)
			refused(t, v.what, encrypt(p, v.of(api.Ratchet{}), "", ""), api.ErrArg)
		}
		same(t, "what is refused", p, q)
		// The prim seals with no more than MaxBytes, in which the head is.
		x.r[0].Ns = mostNumber - 1
		room := mostBytes - len(texts("")) - len(headed(x.r[0].SelfPub, 0, 0))
		q = p.Copy()
		for _, size := range []int{room + 1, mostBytes - 1, mostBytes} {
			ad := strings.Repeat("a", size)
			as(t, "an ad that leaves no room", encrypt(p, x.r[0], ad, "t"), wantEncrypt(q, x.r[0], ad, "t"))
			refused(t, "an ad that leaves no room", encrypt(p, x.r[0], ad, "t"), api.ErrLong)
			refused(t, "the same without a chain", encrypt(p, x.r[1], ad, "t"), api.ErrDown)
		}
		same(t, "ads that leave no room", p, q)
		x.ad = strings.Repeat("a", room)
		x.write(0, "the last one")
		if x.r[0].Ns != mostNumber {
			t.Errorf("Ns %d", x.r[0].Ns)
		}
		refused(t, "behind the last one", encrypt(p, x.r[0], "", ""), api.ErrLong)
	})
}

// variant is what a ratchet is made of another one by.
type variant struct {
	what   string
	change func(r *api.Ratchet)
}

// of is the ratchet with the change; what it was is left as it is.
func (v variant) of(r api.Ratchet) api.Ratchet {
	r.Skipped = append([]api.Skip{}, r.Skipped...)
	v.change(&r)
	return r
}

// fields are all texts of a ratchet, by their names; there are at least two Skipped then.
func fields() map[string]func(r *api.Ratchet) *string {
	kept := func(r *api.Ratchet, i int) *api.Skip {
		for len(r.Skipped) <= i {
			r.Skipped = append(r.Skipped, api.Skip{})
		}
		return &r.Skipped[i]
	}
	return map[string]func(r *api.Ratchet) *string{
		"Self":      func(r *api.Ratchet) *string { return &r.Self },
		"SelfPub":   func(r *api.Ratchet) *string { return &r.SelfPub },
		"Peer":      func(r *api.Ratchet) *string { return &r.Peer },
		"Root":      func(r *api.Ratchet) *string { return &r.Root },
		"Send":      func(r *api.Ratchet) *string { return &r.Send },
		"Recv":      func(r *api.Ratchet) *string { return &r.Recv },
		"first Pub": func(r *api.Ratchet) *string { return &kept(r, 0).Pub },
		"first Key": func(r *api.Ratchet) *string { return &kept(r, 0).Key },
		"last Pub":  func(r *api.Ratchet) *string { return &kept(r, max(1, len(r.Skipped)-1)).Pub },
		"last Key":  func(r *api.Ratchet) *string { return &kept(r, max(1, len(r.Skipped)-1)).Key },
	}
}

// counts are all numbers of a ratchet, by their names.
func counts() map[string]func(r *api.Ratchet) *int {
	return map[string]func(r *api.Ratchet) *int{
		"Ns": func(r *api.Ratchet) *int { return &r.Ns },
		"Nr": func(r *api.Ratchet) *int { return &r.Nr },
		"Pn": func(r *api.Ratchet) *int { return &r.Pn },
		"N of the first": func(r *api.Ratchet) *int {
			r.Skipped = append([]api.Skip{{Pub: "p", Key: "k"}}, r.Skipped...)
			return &r.Skipped[0].N
		},
		"N of the last": func(r *api.Ratchet) *int {
			r.Skipped = append(r.Skipped, api.Skip{Pub: "p", Key: "k"})
			return &r.Skipped[len(r.Skipped)-1].N
		},
	}
}

// mayNot are changes by each of which a ratchet is none.
func mayNot() []variant {
	var out []variant
	for name, field := range fields() {
		for _, size := range []int{mostText + 1, 1 << 16, mostValue + 1} {
			out = append(out, variant{fmt.Sprint(name, " of ", size, " bytes"), func(r *api.Ratchet) { *field(r) = strings.Repeat("x", size) }})
		}
	}
	for name, count := range counts() {
		for _, v := range []int{-1, -2, math.MinInt, math.MaxInt, mostNumber + 1, 1 << 31, 1 << 32, 1<<32 + 1} {
			out = append(out, variant{fmt.Sprint(name, " ", v), func(r *api.Ratchet) { *count(r) = v }})
		}
	}
	for _, n := range []int{2001, 2002, 1 << 16, 1<<16 + 1} {
		out = append(out, variant{fmt.Sprint(n, " kept"), func(r *api.Ratchet) { r.Skipped = make([]api.Skip, n) }})
	}
	return out
}

// mayBe are changes that leave a ratchet one that may be.
func mayBe() []variant {
	out := []variant{
		{"as it is", func(r *api.Ratchet) {}},
		{"nothing", func(r *api.Ratchet) { *r = api.Ratchet{} }},
		{"2000 kept", func(r *api.Ratchet) { r.Skipped = make([]api.Skip, 2000) }},
		{"two kept alike", func(r *api.Ratchet) { r.Skipped = []api.Skip{{Pub: "p", N: 1, Key: "k"}, {Pub: "p", N: 1, Key: "k"}} }},
		{"none kept", func(r *api.Ratchet) { r.Skipped = []api.Skip{} }},
		{"full", func(r *api.Ratchet) {
			long := strings.Repeat("\xff", mostText)
			*r = api.Ratchet{Self: long, SelfPub: long, Peer: long, Root: long, Send: long, Recv: long, Ns: mostNumber, Nr: mostNumber, Pn: mostNumber}
			r.Skipped = []api.Skip{{Pub: long, N: mostNumber, Key: long}, {Pub: long, N: mostNumber, Key: long}}
		}},
	}
	for name, field := range fields() {
		for _, s := range []string{"", "\x00", "\xf0TRM\x00\x00\x00\x00", strings.Repeat("x", mostText)} {
			out = append(out, variant{fmt.Sprint(name, " of ", len(s), " bytes"), func(r *api.Ratchet) { *field(r) = s }})
		}
	}
	for name, count := range counts() {
		for _, v := range []int{0, 1, 255, 256, mostNumber - 1, mostNumber} {
			out = append(out, variant{fmt.Sprint(name, " ", v), func(r *api.Ratchet) { *count(r) = v }})
		}
	}
	return out
}

// Of all that a ratchet may be, each call takes it for one.
func TestWhichMayBe(t *testing.T) {
	both(t, func(t *testing.T, p *prim.Prim) {
		x := met(t, p)
		in := x.write(0, "text")
		for _, v := range mayBe() {
			for side, r := range x.r {
				r := v.of(r)
				q := p.Copy()
				as(t, v.what, encrypt(p, r, "ad", "text"), wantEncrypt(q, r, "ad", "text"))
				as(t, v.what, decrypt(p, r, "ad", in, draw(7)), wantDecrypt(q, r, "ad", in, draw(7)))
				same(t, fmt.Sprint(v.what, ", side ", side), p, q)
			}
		}
	})
}

// P17.3

func TestDecryptRefuses(t *testing.T) {
	both(t, func(t *testing.T, p *prim.Prim) {
		x := met(t, p)
		in := x.write(0, "text")
		q := p.Copy()
		long := strings.Repeat("x", mostBytes+1)
		for _, v := range mayNot() {
			for _, r := range x.r {
				refused(t, v.what, decrypt(p, v.of(r), "ad", in, draw(4)), api.ErrArg)
				refused(t, v.what, decrypt(p, v.of(r), long, "", ""), api.ErrArg)
			}
		}
		for _, r := range x.r {
			for _, s := range []string{in, "", in[:3], long} {
				refused(t, "a long ad", decrypt(p, r, long, s, draw(4)), api.ErrLong)
			}
		}
		refused(t, "an ad that is just not long", decrypt(p, x.r[1], long[1:], in, draw(4)), api.ErrSeal)
		wantDecrypt(q, x.r[1], long[1:], in, draw(4))
		_, head, _ := split(in)
		pub := x.r[0].SelfPub
		forms := map[string]string{
			"a Pub that is too long":   headed(strings.Repeat("p", mostText+1), 0, 0) + "sealed",
			"a Pub of any length":      "\xff\xff\xff\xff" + in[4:],
			"a Pub that is cut":        "\x00\x00\x00\x21" + strings.Repeat("p", 32),
			"N 2^30":                   headed(pub, 0, mostNumber) + in[len(head):],
			"N 2^30 and 1":             headed(pub, 0, mostNumber+1) + in[len(head):],
			"N 2^31":                   headed(pub, 0, 1<<31) + in[len(head):],
			"N 2^32 - 1":               headed(pub, 0, 1<<32-1) + in[len(head):],
			"Pn above 2^30":            headed(pub, mostNumber+1, 0) + in[len(head):],
			"Pn 2^31":                  headed(pub, 1<<31, 0) + in[len(head):],
			"Pn 2^32 - 1":              headed(pub, 1<<32-1, 0) + in[len(head):],
			"noise":                    strings.Repeat("\xff", 1<<20),
			"a long Pub, Pn and N too": headed(strings.Repeat("p", mostText+1), 1<<31, 1<<31),
		}
		for i := range head {
			forms[fmt.Sprint("cut at ", i)] = head[:i]
		}
		for what, s := range forms {
			for _, r := range x.r {
				refused(t, what, decrypt(p, r, "ad", s, draw(4)), api.ErrForm)
				refused(t, what, decrypt(p, r, "ad", s, ""), api.ErrForm)
			}
		}
		same(t, "what is refused", p, q)
		// The longest and greatest ones are a head.
		for _, h := range []string{headed(strings.Repeat("p", mostText), 0, 0), headed("", 0, 0), headed(pub, mostNumber, 0), headed(pub, 0, mostNumber-1)} {
			for _, r := range x.r {
				want := wantDecrypt(q, r, "ad", h, draw(4))
				got := decrypt(p, r, "ad", h, draw(4))
				as(t, "a head alone", got, want)
				if got.e == api.OK || got.e == api.ErrForm || got.e == api.ErrArg || got.e == api.ErrLong {
					t.Errorf("a head alone: %s", told(got))
				}
				same(t, "heads alone", p, q)
			}
		}
	})
}

// Bits that are turned anywhere are found, and change nothing; the message itself is read behind them.
func TestEachBitCounts(t *testing.T) {
	both(t, func(t *testing.T, p *prim.Prim) {
		x := met(t, p)
		x.says(0, "hello")
		x.says(1, "hello too")
		in := x.write(0, "text")
		for i := range in {
			for bit := range 8 {
				if p.Kit() == api.KitReal && bit != i%8 {
					continue
				}
				b := []byte(in)
				b[i] ^= 1 << bit
				a := decrypt(p, x.r[1], x.ad, string(b), draw(99))
				if a.e == api.OK {
					t.Fatalf("byte %d: %s", i, told(a))
				}
				refused(t, fmt.Sprint("byte ", i), a, a.e)
			}
		}
		for _, ad := range []string{"", "a", "ad ", "da", "ad\x00"} {
			refused(t, "another ad", decrypt(p, x.r[1], ad, in, draw(99)), api.ErrSeal)
		}
		for _, s := range []string{in + "x", in[:len(in)-1]} {
			refused(t, "another length", decrypt(p, x.r[1], x.ad, s, draw(99)), api.ErrSeal)
		}
		x.read(1, in, "text")
	})
}

// Keys that are kept are looked for first, whatever the head tells beside; of two alike the elder one is taken.
func TestKeptKeys(t *testing.T) {
	both(t, func(t *testing.T, p *prim.Prim) {
		x := met(t, p)
		ins := x.writes(0, 6)
		x.read(1, ins[5], "text 5")
		if len(x.r[1].Skipped) != 5 || x.r[1].Nr != 6 {
			t.Fatalf("%s", told(answer{r: x.r[1]}))
		}
		for left, i := range []int{2, 0, 4, 3, 1} {
			was := x.r[1]
			x.read(1, ins[i], fmt.Sprint("text ", i))
			if len(x.r[1].Skipped) != 4-left {
				t.Errorf("%d kept", len(x.r[1].Skipped))
			}
			was.Skipped = x.r[1].Skipped
			if !alike(was, x.r[1]) {
				t.Errorf("reading by a key that was kept changed more: %s", told(answer{r: x.r[1]}))
			}
			x.fails(1, ins[i], api.ErrStale)
		}
		// What does not open by a key that is kept is refused; that key stays.
		ins = append(ins, x.write(0, "text 6"), x.write(0, "text 7"))
		x.read(1, ins[7], "text 7")
		x.fails(1, ins[6]+"x", api.ErrSeal)
		r := x.r[1]
		elder := r
		elder.Skipped = append([]api.Skip{{Pub: x.r[0].SelfPub, N: 6, Key: draw(5)}}, r.Skipped...)
		x.r[1] = elder
		x.fails(1, ins[6], api.ErrSeal)
		younger := r
		younger.Skipped = append(append([]api.Skip{}, r.Skipped...), api.Skip{Pub: x.r[0].SelfPub, N: 6, Key: draw(5)})
		x.r[1] = younger
		x.read(1, ins[6], "text 6")
		if l := x.r[1].Skipped; len(l) != 1 || l[0].Key != draw(5) {
			t.Errorf("kept: %#v", l)
		}
		// Another Pub, or another N, is another key.
		x.r[1] = r
		x.r[1].Skipped = []api.Skip{{Pub: "other", N: 6, Key: r.Skipped[0].Key}, {Pub: r.Skipped[0].Pub, N: 5, Key: r.Skipped[0].Key}}
		x.fails(1, ins[6], api.ErrStale)
	})
}

// A side that read nothing yet has no chain: what comes with its Peer as Pub is stale.
func TestStale(t *testing.T) {
	both(t, func(t *testing.T, p *prim.Prim) {
		x := met(t, p)
		for _, n := range []int{0, 1, 1001, mostNumber - 1} {
			x.fails(0, headed(x.r[0].Peer, 0, n)+"sealed", api.ErrStale)
		}
		x.fails(1, headed("", 0, 0)+"sealed", api.ErrStale)
		ins := x.writes(0, 3)
		x.read(1, ins[0], "text 0")
		x.read(1, ins[1], "text 1")
		for range 2 {
			x.fails(1, ins[0], api.ErrStale)
			x.fails(1, ins[1], api.ErrStale)
		}
		x.read(1, ins[2], "text 2")
		x.r[1].Nr = mostNumber
		x.fails(1, headed(x.r[1].Peer, 0, mostNumber-1)+"sealed", api.ErrStale)
	})
}

// A message may be as far ahead as MaxSkip, in the chain that is, and in the one that comes.
func TestSkippingInAChain(t *testing.T) {
	p := made(t, api.KitTerm)
	x := met(t, p)
	x.loose = true
	ins := x.writes(0, 2003)
	x.loose = false
	x.fails(1, ins[1001], api.ErrSkip) // of the chain that would come
	x.read(1, ins[1000], "text 1000")
	if len(x.r[1].Skipped) != 1000 || x.r[1].Nr != 1001 {
		t.Fatalf("%s", told(answer{r: x.r[1]}))
	}
	for i, s := range x.r[1].Skipped {
		if s.Pub != x.r[0].SelfPub || s.N != i {
			t.Fatalf("kept as %d: %+v", i, s)
		}
	}
	x.fails(1, ins[2002], api.ErrSkip)
	x.read(1, ins[2001], "text 2001")
	for _, i := range []int{999, 0, 2000, 1001, 500} {
		x.read(1, ins[i], fmt.Sprint("text ", i))
	}
	if len(x.r[1].Skipped) != 1995 {
		t.Errorf("%d kept", len(x.r[1].Skipped))
	}
	x.read(1, ins[2002], "text 2002")
}

// Of more than MaxKept the eldest go, whichever chain they are of.
func TestTheEldestGo(t *testing.T) {
	p := made(t, api.KitTerm)
	x := met(t, p)
	x.loose = true
	ins := x.writes(0, 3004)
	x.loose = false
	x.read(1, ins[999], "text 999")
	x.read(1, ins[1999], "text 1999")
	if l := x.r[1].Skipped; len(l) != 1998 || l[0].N != 0 {
		t.Fatalf("%d kept", len(l))
	}
	x.read(1, ins[2002], "text 2002") // 2000 are kept now
	if l := x.r[1].Skipped; len(l) != 2000 || l[0].N != 0 || l[1999].N != 2001 {
		t.Fatalf("%d kept", len(l))
	}
	at := x.r[1]
	x.read(1, ins[2003], "text 2003")
	if l := x.r[1].Skipped; len(l) != 2000 || l[0].N != 0 {
		t.Fatalf("%d kept", len(l))
	}
	x.read(1, ins[2005], "text 2005")
	if l := x.r[1].Skipped; len(l) != 2000 || l[0].N != 1 || l[1999].N != 2004 {
		t.Fatalf("%d kept", len(l))
	}
	x.fails(1, ins[0], api.ErrStale)
	x.read(1, ins[1], "text 1")
	x.r[1] = at
	x.read(1, ins[3003], "text 3003")
	if l := x.r[1].Skipped; len(l) != 2000 || l[0].N != 1001 {
		t.Fatalf("%d kept, from %d", len(l), l[0].N)
	}
	x.fails(1, ins[998], api.ErrStale)
	x.fails(1, ins[1000], api.ErrStale)
	x.read(1, ins[1001], "text 1001")
	x.fails(1, ins[1999], api.ErrStale) // it was read
}

// With a turn of the talk what is missing of the chain that was is skipped first, up to Pn, and by the old Peer.
func TestSkippingAtATurn(t *testing.T) {
	p := made(t, api.KitTerm)
	for _, missing := range []int{0, 1, 999, 1000, 1001} {
		x := met(t, p)
		x.loose = true
		x.says(0, "first")
		old := x.r[0].SelfPub
		x.says(1, "back")
		// Side 0 wrote 1 under its old key; it writes more under the new one, which side 1 gets one of.
		ins := x.writes(0, missing+1)
		now := x.r[0].SelfPub
		x.read(1, ins[0], "text 0")
		x.says(1, "back again")
		next := x.writes(0, 1002)
		x.loose = false
		if h, _, _ := split(next[0]); h != (api.Head{Pub: x.r[0].SelfPub, Pn: missing + 1}) || old == now {
			t.Fatalf("%+v", h)
		}
		if missing > 1000 {
			for _, in := range []string{next[0], next[1], next[1001]} {
				x.fails(1, in, api.ErrSkip)
			}
			x.read(1, ins[1], "text 1")
			missing--
		}
		x.fails(1, next[1001], api.ErrSkip) // at the new chain
		was := x.r[1].Ns
		x.read(1, next[1], "text 1")
		l := x.r[1].Skipped
		if len(l) != missing+1 || l[missing].Pub != x.r[0].SelfPub || l[missing].N != 0 {
			t.Fatalf("%d missing: %d kept", missing, len(l))
		}
		for i, s := range l[:missing] {
			if s.Pub != now || s.N != len(ins)-missing+i {
				t.Fatalf("kept as %d: %+v", i, s)
			}
		}
		if x.r[1].Pn != was || x.r[1].Ns != 0 || x.r[1].Nr != 2 {
			t.Errorf("%s", told(answer{r: x.r[1]}))
		}
		if missing > 1 {
			x.read(1, ins[len(ins)-1], fmt.Sprint("text ", len(ins)-1))
			x.read(1, next[0], "text 0")
		}
	}
}

// A side without a chain has nothing to skip, whatever Pn is; nor has one that is further than Pn.
func TestPnThatCountsForNothing(t *testing.T) {
	both(t, func(t *testing.T, p *prim.Prim) {
		for _, pn := range []int{0, 1, 1000, 1001, mostNumber} {
			x := met(t, p)
			x.r[0].Pn = pn
			x.read(1, x.write(0, "text"), "text")
			if len(x.r[1].Skipped) != 0 || x.r[1].Pn != 0 {
				t.Errorf("Pn %d: %s", pn, told(answer{r: x.r[1]}))
			}
		}
		x := met(t, p)
		for _, in := range x.writes(0, 3) {
			x.come(1, in)
		}
		x.says(1, "back")
		x.r[0].Pn = 2
		x.says(0, "text")
		if len(x.r[1].Skipped) != 0 || x.r[1].Pn != 1 {
			t.Errorf("%s", told(answer{r: x.r[1]}))
		}
	})
}

// Whichever error comes first at a turn is told, with all that was done ahead of it.
func TestErrorsAtATurn(t *testing.T) {
	p := made(t, api.KitReal)
	x := met(t, p)
	x.says(0, "hello")
	good := fine(t)(p.Public(draw(77)))
	for _, bad := range []string{"", "x", good[1:], good + "x", number(32, 0), strings.Repeat("p", mostText)} {
		x.fails(1, headed(bad, 0, 0)+"sealed", api.ErrKey)
		x.fails(1, headed(bad, 0, 1001)+"sealed", api.ErrKey)   // ahead of what is missing in the new chain
		x.fails(1, headed(bad, 1001, 0)+"sealed", api.ErrKey)   // 1000 are missing in the old one
		x.fails(1, headed(bad, 1002, 0)+"sealed", api.ErrSkip)  // behind what is missing in the old one
		x.fails(1, headed(bad, 1<<30, 1)+"sealed", api.ErrSkip) // as far as it goes
		x.fails(1, headed(good, 0, 1001)+"sealed", api.ErrSkip) // in the new chain
		x.fails(1, headed(good, 0, 1000)+"sealed", api.ErrSeal) // all else is well
		x.fails(1, headed(good, 1001, 9)+"sealed", api.ErrSeal) // there too
		x.fails(1, headed(good, 1001, 1001)+"sealed", api.ErrSkip)
	}
	in := x.write(0, "text")
	x.read(1, in, "text")
	x.says(1, "back")
	in = x.write(0, "text")
	for _, d := range []string{"", "x", draw(1)[1:], draw(1) + "x", strings.Repeat("x", mostText)} {
		q := p.Copy()
		refused(t, "a draw that is none", decrypt(p, x.r[1], x.ad, in, d), api.ErrKey)
		as(t, "a draw that is none", decrypt(p, x.r[1], x.ad, in, d), wantDecrypt(q, x.r[1], x.ad, in, d))
		refused(t, "and too far", decrypt(p, x.r[1], x.ad, headed(good, 0, 1001), d), api.ErrKey)
		same(t, "draws that are none", p, q)
	}
	x.read(1, in, "text")
	// A draw counts for nothing where nothing turns.
	in = x.write(0, "more")
	for _, d := range []string{"", "x", draw(1)} {
		if a := decrypt(p, x.r[1], x.ad, in, d); a.e != api.OK || a.s != "more" {
			t.Errorf("%s", told(a))
		}
	}
}

// What is told by a side that somebody else is: a Self, a Root, or a chain that are others.
func TestOthersReadNothing(t *testing.T) {
	both(t, func(t *testing.T, p *prim.Prim) {
		x, y := met(t, p), met(t, p)
		x.says(0, "hello")
		x.says(1, "hello")
		y.says(0, "hello")
		y.says(1, "hello")
		in := x.write(0, "text")
		other := derivedOne(t, p)
		for what, change := range map[string]func(r *api.Ratchet){
			"another Self": func(r *api.Ratchet) { r.Self = p.Secret(draw(66)) },
			"another Root": func(r *api.Ratchet) { r.Root = other },
		} {
			r := variant{what, change}.of(x.r[1])
			refused(t, what, decrypt(p, r, x.ad, in, draw(8)), api.ErrSeal)
		}
		x.read(1, in, "text")
		in = x.write(0, "text")
		for what, change := range map[string]func(r *api.Ratchet){
			"another Recv":  func(r *api.Ratchet) { r.Recv = other },
			"a later Nr":    func(r *api.Ratchet) { r.Nr-- },
			"another place": func(r *api.Ratchet) { r.Peer = other },
		} {
			r := variant{what, change}.of(x.r[1])
			refused(t, what, decrypt(p, r, x.ad, in, draw(8)), api.ErrSeal)
		}
		x.read(1, in, "text")
	})
}

// derivedOne is a key that nothing else has.
func derivedOne(t *testing.T, p *prim.Prim) string {
	t.Helper()
	k, e := p.Derive("other", "", "other", 1)
	if e != api.OK {
		t.Fatal(e)
	}
	return k[0]
}

// filled is a table with room for that many terms more.
func filled(t *testing.T, p *prim.Prim, room int) {
	t.Helper()
	for range 1<<16 - room - p.Table().Len() {
		p.Secret("")
	}
	if n := p.Table().Len(); n != 1<<16-room {
		t.Fatalf("%d terms", n)
	}
}

// Where the table comes to be full, the step that finds it so gives the error; what was made ahead stays, and the ratchet is as it was.
func TestFullTable(t *testing.T) {
	p := made(t, api.KitTerm)
	x := met(t, p)
	x.loose = true
	x.says(0, "hello")
	x.says(1, "hello")
	x.says(0, "hello")
	for _, in := range x.writes(0, 2) {
		x.come(1, in)
	}
	x.writes(0, 2)
	late := x.write(0, "late") // with two missing ahead of it
	x.says(1, "hello")
	turn := x.write(0, "turn") // with a chain of which nothing is made yet on the other side, and three missing
	filled(t, p, 32)
	codes := map[string]map[api.Errno]int{}
	for room := 32; room >= 0; room-- {
		for what, call := range map[string][2]func(p *prim.Prim) answer{
			"First": {func(p *prim.Prim) answer { return first(p, "s", "new", "") },
				func(p *prim.Prim) answer { return wantFirst(p, "s", "new", "") }},
			"Second": {func(p *prim.Prim) answer { return second(p, "s", "new") },
				func(p *prim.Prim) answer { return wantSecond(p, "s", "new") }},
			"Encrypt": {func(p *prim.Prim) answer { return encrypt(p, x.r[0], "new ad", "new text") },
				func(p *prim.Prim) answer { return wantEncrypt(p, x.r[0], "new ad", "new text") }},
			"late": {func(p *prim.Prim) answer { return decrypt(p, x.r[1], x.ad, late, "") },
				func(p *prim.Prim) answer { return wantDecrypt(p, x.r[1], x.ad, late, "") }},
			"turn": {func(p *prim.Prim) answer { return decrypt(p, x.r[1], x.ad, turn, "") },
				func(p *prim.Prim) answer { return wantDecrypt(p, x.r[1], x.ad, turn, "") }},
			"nothing": {func(p *prim.Prim) answer { return decrypt(p, x.r[1], x.ad, headed("none", 0, 9), "") },
				func(p *prim.Prim) answer { return wantDecrypt(p, x.r[1], x.ad, headed("none", 0, 9), "") }},
		} {
			q, r := p.Copy(), p.Copy()
			got := call[0](r)
			as(t, fmt.Sprint(what, " with room for ", room), got, call[1](q))
			if got.e != api.OK {
				refused(t, what, got, got.e)
			}
			if room < 10 || room%10 == 0 {
				same(t, fmt.Sprint(what, " with room for ", room), r, q)
			}
			if codes[what] == nil {
				codes[what] = map[api.Errno]int{}
			}
			codes[what][got.e]++
		}
		p.Secret("")
	}
	for what, want := range map[string][]api.Errno{"First": {api.OK, api.ErrFull}, "Second": {api.OK, api.ErrFull}, "Encrypt": {api.OK, api.ErrFull}, "late": {api.OK}, "turn": {api.OK, api.ErrFull}, "nothing": {api.ErrSeal, api.ErrFull}} {
		for _, e := range want {
			if codes[what][e] == 0 {
				t.Errorf("%s: %v", what, codes[what])
			}
		}
		if len(codes[what]) != len(want) {
			t.Errorf("%s: %v", what, codes[what])
		}
	}
}

// P17.4

func TestBytesOfARatchet(t *testing.T) {
	for want, r := range map[string]api.Ratchet{
		strings.Repeat("\x00", 38): {},
		"\x00\x00\x00\x01s" + "\x00\x00\x00\x02ss" + "\x00\x00\x00\x01p" + "\x00\x00\x00\x03rrr" + "\x00\x00\x00\x00" + "\x00\x00\x00\x01c" +
			"\x00\x00\x01\x02" + "\x40\x00\x00\x00" + "\x01\x02\x03\x04" + "\x00\x02" +
			"\x00\x00\x00\x01a" + "\x00\x00\x00\x07" + "\x00\x00\x00\x02kk" + "\x00\x00\x00\x00" + "\x40\x00\x00\x00" + "\x00\x00\x00\x00": {
			Self: "s", SelfPub: "ss", Peer: "p", Root: "rrr", Recv: "c", Ns: 258, Nr: mostNumber, Pn: 0x01020304,
			Skipped: []api.Skip{{Pub: "a", N: 7, Key: "kk"}, {N: mostNumber}}},
	} {
		if s, e := ratchet.Encode(r); s != want || e != api.OK {
			t.Errorf("%x, %d; want %x", s, e, want)
		}
		if got, e := ratchet.Decode(want); !alike(got, r) || e != api.OK {
			t.Errorf("%s, %d", told(answer{r: got}), e)
		}
	}
}

func TestEncodeOfWhatMayBe(t *testing.T) {
	full := strings.Repeat("x", mostText)
	base := api.Ratchet{Self: "a", SelfPub: "b", Peer: "c", Root: "d", Send: "e", Recv: "f", Ns: 1, Nr: 2, Pn: 3,
		Skipped: []api.Skip{{Pub: "g", N: 4, Key: "h"}, {Pub: full, N: 5, Key: full}, {Pub: "k", N: 6, Key: "l"}}}
	for _, v := range mayBe() {
		r := v.of(base)
		s, e := ratchet.Encode(r)
		if s != laid(r) || e != api.OK {
			t.Errorf("%s: Encode: %.60x, %d", v.what, s, e)
		}
		if got, e := ratchet.Decode(laid(r)); !alike(got, r) || e != api.OK {
			t.Errorf("%s: Decode: %d", v.what, e)
		}
	}
	for _, v := range mayNot() {
		for _, r := range []api.Ratchet{v.of(base), v.of(api.Ratchet{})} {
			if s, e := ratchet.Encode(r); s != "" || e != api.ErrArg {
				t.Errorf("%s: Encode: %.60x, %d", v.what, s, e)
			}
			s := laid(r)
			if got, e := ratchet.Decode(s); e == api.OK && !alike(cutNumbers(r), got) || e != api.OK && (e != api.ErrForm || got.Skipped != nil || !alike(got, api.Ratchet{})) {
				t.Errorf("%s: Decode: %d", v.what, e)
			}
		}
	}
}

// cutNumbers is the ratchet of which the same bytes are: of the numbers four bytes each, of the count two.
func cutNumbers(r api.Ratchet) api.Ratchet {
	r.Ns, r.Nr, r.Pn = r.Ns&(1<<32-1), r.Nr&(1<<32-1), r.Pn&(1<<32-1)
	r.Skipped = append([]api.Skip{}, r.Skipped...)
	for i := range r.Skipped {
		r.Skipped[i].N &= 1<<32 - 1
	}
	return r
}

// A ratchet that may be can be too long for a row; its bytes are none's then.
func TestBytesThatAreTooMany(t *testing.T) {
	r := api.Ratchet{Skipped: make([]api.Skip, 2000)}
	for i := range r.Skipped {
		r.Skipped[i] = api.Skip{Pub: strings.Repeat("p", 60), N: i, Key: strings.Repeat("k", 59)}
	}
	left := mostValue - len(laid(r))
	for _, s := range []*string{&r.Self, &r.SelfPub, &r.Peer, &r.Root, &r.Send, &r.Recv, &r.Skipped[0].Pub, &r.Skipped[0].Key, &r.Skipped[1999].Key} {
		n := min(left, mostText-len(*s))
		*s += strings.Repeat("x", n)
		left -= n
	}
	if len(laid(r)) != mostValue {
		t.Fatalf("%d bytes", len(laid(r)))
	}
	if s, e := ratchet.Encode(r); s != laid(r) || e != api.OK {
		t.Errorf("%d bytes, %d", len(s), e)
	}
	if got, e := ratchet.Decode(laid(r)); !alike(got, r) || e != api.OK {
		t.Errorf("%d", e)
	}
	r.Skipped[1998].Key += "x"
	if s, e := ratchet.Encode(r); s != "" || e != api.ErrLong {
		t.Errorf("a byte more: %d bytes, %d", len(s), e)
	}
	decodeRefused(t, "a byte more", laid(r))
	r.Ns = -1
	if s, e := ratchet.Encode(r); s != "" || e != api.ErrArg {
		t.Errorf("one that may not be: %d bytes, %d", len(s), e)
	}
}

func decodeRefused(t *testing.T, what, s string) {
	t.Helper()
	if r, e := ratchet.Decode(s); r.Skipped != nil || !alike(r, api.Ratchet{}) || e != api.ErrForm {
		t.Errorf("%s: %s, %d", what, told(answer{r: r}), e)
	}
}

func TestDecodeRefuses(t *testing.T) {
	r := api.Ratchet{Self: "a", SelfPub: "bb", Peer: "c", Root: "", Send: "e", Recv: "f", Ns: 1, Nr: 2, Pn: 3,
		Skipped: []api.Skip{{Pub: "g", N: 4, Key: "h"}, {Pub: "k", N: 6, Key: "l"}}}
	s := laid(r)
	for i := range s {
		decodeRefused(t, fmt.Sprint("cut at ", i), s[:i])
		decodeRefused(t, fmt.Sprint("from ", i+1, " on"), s[i+1:])
	}
	for _, behind := range []string{"\x00", "x", "\x00\x00\x00\x00", s} {
		decodeRefused(t, fmt.Sprintf("%x behind", behind), s+behind)
	}
	decodeRefused(t, "a byte ahead", "\x00"+s)
	long := strings.Repeat("x", mostText+1)
	six := texts("", "", "", "", "", "")
	for what, s := range map[string]string{
		"a long Self":          texts(long, "", "", "", "", "") + number(14, 0),
		"a long Recv":          texts("", "", "", "", "", long) + number(14, 0),
		"Ns above":             six + number(4, mostNumber+1) + number(10, 0),
		"Nr above":             six + number(4, 0) + number(4, 1<<31) + number(6, 0),
		"Pn above":             six + number(8, 0) + number(4, 1<<32-1) + number(2, 0),
		"a long Pub":           six + number(12, 0) + number(2, 1) + texts(long) + number(4, 0) + texts(""),
		"a long Key":           six + number(12, 0) + number(2, 1) + texts("") + number(4, 0) + texts(long),
		"N above":              six + number(12, 0) + number(2, 1) + texts("") + number(4, mostNumber+1) + texts(""),
		"2001 kept":            six + number(12, 0) + number(2, 2001) + strings.Repeat("\x00", 12*2001),
		"65535 kept, no bytes": six + number(12, 0) + number(2, 65535),
		"one kept, none there": six + number(12, 0) + number(2, 1),
		"none kept, one there": six + number(12, 0) + number(2, 0) + number(12, 0),
		"noise":                strings.Repeat("\xff", 1<<20),
		"noughts":              strings.Repeat("\x00", 1<<20),
		"nothing":              "",
	} {
		decodeRefused(t, what, s)
	}
	if r, e := ratchet.Decode(six + number(12, 0) + number(2, 2000) + strings.Repeat("\x00", 12*2000)); len(r.Skipped) != 2000 || e != api.OK {
		t.Errorf("2000 kept: %d, %d", len(r.Skipped), e)
	}
}

// laidAgain looks at bytes: are they a ratchet's, they are those that it is laid as.
func laidAgain(t *testing.T, s string) int {
	t.Helper()
	r, e := ratchet.Decode(s)
	if e != api.OK {
		decodeRefused(t, "none", s)
		return 0
	}
	if again, e := ratchet.Encode(r); again != s || e != api.OK || laid(r) != s {
		t.Errorf("%x, %d; was %x", again, e, s)
	}
	return 1
}

func TestBytesAndBack(t *testing.T) {
	both(t, func(t *testing.T, p *prim.Prim) {
		x := met(t, p)
		ins := x.writes(0, 4)
		x.read(1, ins[2], "text 2")
		x.says(1, "back")
		x.says(0, "more")
		for _, r := range x.r {
			s := fine(t)(ratchet.Encode(r))
			if s != laid(r) {
				t.Errorf("%x; want %x", s, laid(r))
			}
			if got, e := ratchet.Decode(s); !alike(got, r) || e != api.OK {
				t.Errorf("%s, %d", told(answer{r: got}), e)
			}
			taken := 0
			for i := range s {
				for _, c := range []byte{1, 2, 4, 64, 128, 255} {
					b := []byte(s)
					b[i] ^= c
					taken += laidAgain(t, string(b))
				}
			}
			if taken == 0 {
				t.Error("none was taken")
			}
		}
	})
}

// R1: whatever bytes come, each call ends.
func TestChanceBytes(t *testing.T) {
	chance := rand.New(rand.NewSource(71))
	p := made(t, api.KitTerm)
	x := met(t, p)
	x.loose = true
	x.says(0, "hello")
	taken, read := 0, 0
	for range 20000 {
		var s string
		for range chance.Intn(8) {
			switch chance.Intn(3) {
			case 0:
				s += number(2, chance.Intn(3))
			case 1:
				s += number(4, chance.Intn(4))
			default:
				s += texts(strings.Repeat("x", chance.Intn(3)))
			}
		}
		taken += laidAgain(t, s)
		taken += laidAgain(t, texts("", "a", "", "b", "", "")+number(12, 0)+s)
		if a := decrypt(p.Copy(), x.r[1], x.ad, s, ""); a.e == api.OK {
			read++
		} else {
			refused(t, "chance", a, a.e)
		}
	}
	if taken == 0 || read != 0 {
		t.Errorf("%d were taken, %d read", taken, read)
	}
}

func TestSame(t *testing.T) {
	base := api.Ratchet{Self: "a", SelfPub: "b", Peer: "c", Root: "d", Send: "e", Recv: "f", Ns: 1, Nr: 2, Pn: 3,
		Skipped: []api.Skip{{Pub: "g", N: 4, Key: "h"}, {Pub: "i", N: 5, Key: "j"}}}
	all := []api.Ratchet{base, {}, {Skipped: []api.Skip{{}}}, {Skipped: []api.Skip{{}, {}}}, {Self: "a"}, {Recv: "a"}, {Ns: -1}, {Ns: 1}, {Nr: 1}, {Pn: 1}}
	for _, change := range []func(r *api.Ratchet){
		func(r *api.Ratchet) { r.Self = "b" },
		func(r *api.Ratchet) { r.SelfPub = "a" },
		func(r *api.Ratchet) { r.Peer = "" },
		func(r *api.Ratchet) { r.Root = "d\x00" },
		func(r *api.Ratchet) { r.Send = "f" },
		func(r *api.Ratchet) { r.Recv = "e" },
		func(r *api.Ratchet) { r.Send, r.Recv = r.Recv, r.Send },
		func(r *api.Ratchet) { r.Ns = 2 },
		func(r *api.Ratchet) { r.Nr = math.MinInt },
		func(r *api.Ratchet) { r.Pn = math.MaxInt },
		func(r *api.Ratchet) { r.Ns, r.Nr = r.Nr, r.Ns },
		func(r *api.Ratchet) { r.Skipped[0].Pub = "" },
		func(r *api.Ratchet) { r.Skipped[0].N++ },
		func(r *api.Ratchet) { r.Skipped[1].Key = "h" },
		func(r *api.Ratchet) { r.Skipped[0], r.Skipped[1] = r.Skipped[1], r.Skipped[0] },
		func(r *api.Ratchet) { r.Skipped = r.Skipped[:1] },
		func(r *api.Ratchet) { r.Skipped = r.Skipped[1:] },
		func(r *api.Ratchet) { r.Skipped = nil },
		func(r *api.Ratchet) { r.Skipped = append(r.Skipped, r.Skipped[1]) },
		func(r *api.Ratchet) { r.Skipped = make([]api.Skip, 5000) },
		func(r *api.Ratchet) { r.Self = strings.Repeat("x", 1<<20) },
	} {
		all = append(all, variant{"", change}.of(base))
	}
	for i, a := range all {
		for k, b := range all {
			b.Skipped = append([]api.Skip{}, b.Skipped...) // of no length it is another one than nil
			b.Self = strings.Clone(b.Self)
			if got := ratchet.Same(a, b); got != (i == k) {
				t.Errorf("%d and %d: %v", i, k, got)
			}
		}
	}
}

// P17.5

// flying is a message that was written, by one side to the other, as text.
type flying struct {
	to       int
	in, text string
}

// Whatever comes in whatever order, lost or doubled: each message is read when it comes first, and then no more.
func TestAnyOrder(t *testing.T) {
	both(t, func(t *testing.T, p *prim.Prim) {
		rounds, steps := 12, 60
		if p.Kit() == api.KitReal {
			rounds = 3
		}
		for round := range rounds {
			chance := rand.New(rand.NewSource(int64(1700 + round)))
			x := met(t, p.Copy())
			var air []flying
			reads, written, late := map[string]int{}, 0, 0
			for range steps {
				side := chance.Intn(2)
				for range chance.Intn(4) {
					if x.r[side].Send == "" {
						continue
					}
					text := fmt.Sprint("text ", written)
					written++
					air = append(air, flying{1 - side, x.write(side, text), text})
				}
				for range chance.Intn(4) {
					if len(air) == 0 {
						continue
					}
					at := chance.Intn(len(air))
					f := air[at]
					switch {
					case reads[f.text] > 0:
						if s, e := x.come(f.to, f.in); e != api.ErrStale && e != api.ErrSeal && e != api.ErrSkip {
							t.Fatalf("read again: %q, %d", s, e)
						}
						late++
					default:
						x.read(f.to, f.in, f.text)
						reads[f.text]++
					}
					if chance.Intn(3) == 0 { // else it may come again
						air = append(air[:at], air[at+1:]...)
					}
				}
			}
			for _, f := range air { // what is under way still comes at last
				if reads[f.text] == 0 {
					x.read(f.to, f.in, f.text)
					reads[f.text]++
				}
			}
			if late == 0 || written < steps || len(reads) < written/2 {
				t.Errorf("round %d: %d written, %d read, %d came again", round, written, len(reads), late)
			}
			oneText(t, x.p)
		}
	})
}

// The two sides may each have a prim of their own.
func TestOfTwoPrims(t *testing.T) {
	p, q := made(t, api.KitReal), made(t, api.KitReal)
	a := first(p, draw(1), fine(t)(q.Public(draw(2))), draw(3))
	b := second(q, draw(1), draw(2))
	for i := range 6 {
		text := fmt.Sprint("text ", i)
		w := encrypt(p, a.r, "", text)
		got := decrypt(q, b.r, "", w.s, draw(10+i))
		if w.e != api.OK || got.e != api.OK || got.s != text {
			t.Fatalf("%s; %s", told(w), told(got))
		}
		a, b, p, q = got, w, q, p // the other one writes next
	}
}

// P17.6

// oneText looks whether each key sealed one text at most.
func oneText(t *testing.T, p *prim.Prim) {
	t.Helper()
	sealed, seals := map[string]string{}, 0
	for _, d := range p.Journal() {
		if d.Kind != api.DeedSeal {
			continue
		}
		seals++
		if was, ok := sealed[d.Key]; ok {
			t.Fatalf("one key for %q and %q", was, d.Text)
		}
		sealed[d.Key] = d.Text
	}
	if seals == 0 {
		t.Error("nothing was sealed")
	}
}

// Both write at once, and neither waits: all of it has keys of its own.
func TestKeysOfBothSides(t *testing.T) {
	both(t, func(t *testing.T, p *prim.Prim) {
		x := met(t, p)
		x.says(0, "a")
		for i := range 4 {
			l, k := x.writes(0, 3), x.writes(1, 3)
			x.read(1, l[i%3], fmt.Sprint("text ", i%3))
			x.read(0, k[2-i%3], fmt.Sprint("text ", 2-i%3))
		}
		oneText(t, p)
	})
}

// P17.7

// isKnown tells whether one who has seen those texts knows the term whose text s is.
func isKnown(t *testing.T, p *prim.Prim, s string, seen ...string) bool {
	t.Helper()
	if len(s) != 8 {
		t.Fatalf("no term: %x", s)
	}
	n := int(s[4])<<24 | int(s[5])<<16 | int(s[6])<<8 | int(s[7])
	return p.Table().Known(seen)[n]
}

// letter is a message whose text is a secret, and how far it has come.
type letter struct {
	from     int
	in, text string
	isRead   bool
}

// post is a talk with secrets as texts.
type post struct {
	*talk
	all []letter
}

// write lets a side write a secret; its number is answered.
func (x *post) write(side int) int {
	text := x.p.Secret("")
	x.all = append(x.all, letter{from: side, in: x.talk.write(side, text), text: text})
	return len(x.all) - 1
}

// deliver lets the other side read it.
func (x *post) deliver(n int) {
	x.t.Helper()
	l := &x.all[n]
	x.talk.read(1-l.from, l.in, l.text)
	l.isRead = true
}

// known tells which of the letters one knows who has all messages, and what else is told.
func (x *post) known(have ...string) []bool {
	x.t.Helper()
	var out []bool
	for _, l := range x.all {
		have = append(have, l.in)
	}
	for _, l := range x.all {
		out = append(out, isKnown(x.t, x.p, l.text, have...))
	}
	return out
}

// Who has all messages and a side's ratchet knows nothing of what that side wrote, or had read; what is to come to it he knows.
func TestWhatWasIsNotKnown(t *testing.T) {
	for round := range 8 {
		chance := rand.New(rand.NewSource(int64(770 + round)))
		x := &post{talk: met(t, made(t, api.KitTerm))}
		x.loose = true
		toCome := 0
		for range 25 {
			side := chance.Intn(2)
			if x.r[side].Send != "" {
				x.write(side)
			}
			if n := len(x.all); n > 0 {
				if at := chance.Intn(n); !x.all[at].isRead {
					x.deliver(at)
				}
			}
			for side := range 2 {
				s := fine(t)(ratchet.Encode(x.r[side]))
				for i, is := range x.known(s) {
					l := x.all[i]
					if is && (l.from == side || l.isRead) {
						t.Fatalf("letter %d is known by the ratchet of side %d", i, side)
					}
					if is {
						toCome++
					}
				}
			}
			for i, is := range x.known() {
				if is {
					t.Fatalf("letter %d is known by the messages alone", i)
				}
			}
		}
		if toCome == 0 {
			t.Error("no ratchet tells anything")
		}
	}
}

// Who had a side's ratchet once knows what is written till both have turned, and nothing that is written behind that.
func TestWhatComesIsNotKnownAgain(t *testing.T) {
	for side := range 2 {
		for ahead := range 4 {
			x := &post{talk: met(t, made(t, api.KitTerm))}
			x.loose = true
			for i := range ahead {
				x.deliver(x.write(i % 2))
			}
			was := fine(t)(ratchet.Encode(x.r[side]))
			n := len(x.all)
			writer := ahead % 2
			for range 4 { // both write in turn, and read what the other one wrote
				x.deliver(x.write(writer))
				writer = 1 - writer
			}
			m := len(x.all)
			for range 3 {
				x.write(1 - writer)
				x.deliver(x.write(writer))
				writer = 1 - writer
			}
			known := x.known(was)
			if !known[n] {
				t.Errorf("side %d, behind %d: what comes next is not known", side, ahead)
			}
			for i, is := range known {
				if is && (i < n || i >= m) {
					t.Errorf("side %d, behind %d: letter %d is known", side, ahead, i)
				}
			}
		}
	}
}

// R5: neither what is handed in nor what is answered is kept but by its content.

// lender hands out texts whose bytes can be spoilt afterwards.
type lender struct{ all [][]byte }

func (l *lender) lent(s string) string {
	b := []byte(s)
	l.all = append(l.all, b)
	return unsafe.String(unsafe.SliceData(b), len(b))
}

func (l *lender) ratchet(r api.Ratchet) api.Ratchet {
	r.Self, r.SelfPub, r.Peer = l.lent(r.Self), l.lent(r.SelfPub), l.lent(r.Peer)
	r.Root, r.Send, r.Recv = l.lent(r.Root), l.lent(r.Send), l.lent(r.Recv)
	var kept []api.Skip
	for _, s := range r.Skipped {
		kept = append(kept, api.Skip{Pub: l.lent(s.Pub), N: s.N, Key: l.lent(s.Key)})
	}
	r.Skipped = kept
	return r
}

func (l *lender) spoil() {
	for _, b := range l.all {
		for i := range b {
			b[i] ^= 0x55
		}
	}
	l.all = nil
}

func TestNoTextIsShared(t *testing.T) {
	both(t, func(t *testing.T, p *prim.Prim) {
		x := met(t, p)
		l := &lender{}
		self := p.Secret(draw(31))
		pub := fine(t)(p.Public(self))
		ins := x.writes(0, 5)
		x.read(1, ins[2], "text 2")
		x.says(1, "back")
		turn := x.write(0, "turn")
		q := p.Copy()
		as := func(what string, got, want answer) {
			t.Helper()
			l.spoil()
			as(t, what, got, want)
			same(t, what, p, q)
		}
		as("First", first(p, l.lent("secret"), l.lent(pub), l.lent(draw(32))), wantFirst(q, "secret", pub, draw(32)))
		as("Second", second(p, l.lent("secret"), l.lent(self)), wantSecond(q, "secret", self))
		for _, r := range x.r {
			as("Encrypt", encrypt(p, l.ratchet(r), l.lent("ad"), l.lent("text")), wantEncrypt(q, r, "ad", "text"))
		}
		for _, in := range []string{ins[1], ins[4], turn} {
			as("Decrypt", decrypt(p, l.ratchet(x.r[1]), l.lent("ad"), l.lent(in), l.lent(draw(33))), wantDecrypt(q, x.r[1], "ad", in, draw(33)))
		}
		s, e := ratchet.Encode(l.ratchet(x.r[1]))
		l.spoil()
		if s != laid(x.r[1]) || e != api.OK {
			t.Errorf("%x, %d", s, e)
		}
		r, e := ratchet.Decode(l.lent(s))
		l.spoil()
		if !alike(r, x.r[1]) || e != api.OK {
			t.Errorf("%s, %d", told(answer{r: r}), e)
		}
	})
}

// The list that is handed in, and the room behind it, stays as it is, and none that is answered is a piece of it.
func TestNoListIsShared(t *testing.T) {
	both(t, func(t *testing.T, p *prim.Prim) {
		x := met(t, p)
		ins := x.writes(0, 9)
		x.read(1, ins[5], "text 5")
		room := make([]api.Skip, 5, 20)
		copy(room, x.r[1].Skipped)
		for i := range room[5:20] {
			room[5:20][i] = api.Skip{Pub: "behind", N: i, Key: "behind"}
		}
		r := x.r[1]
		r.Skipped = room
		was := append([]api.Skip{}, room[:20]...)
		spoil := func(what string, a answer) {
			t.Helper()
			if a.e != api.OK {
				t.Fatalf("%s: %d", what, a.e)
			}
			l := append(a.r.Skipped, api.Skip{Pub: "spoilt"})
			for i := range l {
				l[i] = api.Skip{Pub: "spoilt"}
			}
			for i := range a.r.Skipped {
				a.r.Skipped[i] = api.Skip{Pub: "spoilt"}
			}
			if !reflect.DeepEqual(room[:20], was) {
				t.Fatalf("%s changed the list: %#v", what, room[:20])
			}
		}
		spoil("Encrypt", encrypt(p, r, x.ad, "text"))
		spoil("one that is kept", decrypt(p, r, x.ad, ins[2], ""))
		spoil("the first one that is kept", decrypt(p, r, x.ad, ins[0], ""))
		spoil("the last one that is kept", decrypt(p, r, x.ad, ins[4], ""))
		spoil("the next one", decrypt(p, r, x.ad, ins[6], ""))
		spoil("one that skips", decrypt(p, r, x.ad, ins[8], ""))
		for _, in := range []string{ins[2] + "x", ins[8] + "x", headed("", 0, 7) + "x"} {
			if a := decrypt(p, r, x.ad, in, draw(5)); a.e == api.OK {
				t.Errorf("%s", told(a))
			}
		}
		if _, e := ratchet.Encode(r); e != api.OK || !reflect.DeepEqual(room[:20], was) {
			t.Errorf("Encode: %d, %#v", e, room[:20])
		}
	})
}
