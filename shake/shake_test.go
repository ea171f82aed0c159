package shake_test

import (
	"fmt"
	"math"
	"math/rand"
	"reflect"
	"strings"
	"testing"
	"unsafe"

	"missive/api"
	"missive/prim"
	"missive/shake"
	"missive/term"
)

const mostBytes = 1 << 14 // of a text in a hello or a reply

func made(t *testing.T, kit int) *prim.Prim {
	t.Helper()
	p, e := prim.New(kit)
	if e != api.OK || p == nil {
		t.Fatalf("prim.New(%d): %d", kit, e)
	}
	return p
}

// both goes through the two kinds.
func both(t *testing.T, look func(t *testing.T, p *prim.Prim)) {
	t.Helper()
	for _, kit := range []int{api.KitReal, api.KitTerm} {
		t.Run(fmt.Sprint("kit", kit), func(t *testing.T) { look(t, made(t, kit)) })
	}
}

// fine takes what a call answers that may not fail.
func fine(t *testing.T) func(string, api.Errno) string {
	return func(s string, e api.Errno) string {
		t.Helper()
		if e != api.OK || s == "" {
			t.Fatalf("%q, %d", s, e)
		}
		return s
	}
}

// draw is one of 32 bytes.
func draw(c byte) string { return strings.Repeat(string([]byte{c}), 32) }

// number tells v in that many bytes, the highest first.
func number(size, v int) string {
	b := make([]byte, size)
	for i := range b {
		b[i] = byte(v >> (8 * (size - 1 - i)))
	}
	return string(b)
}

// texts tells texts, each with its length ahead.
func texts(l ...string) string {
	out := ""
	for _, s := range l {
		out += number(4, len(s)) + s
	}
	return out
}

// pair is a client and a server who know each other's public key.
type pair struct {
	client, clientPublic string
	server, serverPublic string
}

func pairOf(t *testing.T, p *prim.Prim, a, b byte) pair {
	t.Helper()
	x := pair{client: p.Secret(draw(a)), server: p.Secret(draw(b))}
	x.clientPublic = fine(t)(p.Public(x.client))
	x.serverPublic = fine(t)(p.Public(x.server))
	return x
}

// at is a list that has a public key at one place alone.
func at(place int, public string) []string {
	out := make([]string, place+1)
	out[place] = public
	return out
}

// answer is all that Accept answers.
type answer struct {
	from              int
	reply, send, recv string
	e                 api.Errno
}

func accept(p *prim.Prim, secret string, publics []string, hello, draw string) answer {
	from, reply, send, recv, e := shake.Accept(p, secret, publics, hello, draw)
	return answer{from, reply, send, recv, e}
}

// ends is all that Finish answers.
type ends struct {
	send, recv string
	e          api.Errno
}

func finish(c *shake.Client, reply string) ends {
	send, recv, e := c.Finish(reply)
	return ends{send, recv, e}
}

func begun(t *testing.T, p *prim.Prim, self int, x pair, d string) (*shake.Client, string) {
	t.Helper()
	c, hello, e := shake.Begin(p, self, x.client, x.serverPublic, d)
	if e != api.OK || c == nil || hello == "" {
		t.Fatalf("Begin: %q, %d", hello, e)
	}
	return c, hello
}

func accepted(t *testing.T, p *prim.Prim, self int, x pair, hello, d string) answer {
	t.Helper()
	a := accept(p, x.server, at(self, x.clientPublic), hello, d)
	if a.e != api.OK || a.from != self || a.reply == "" || a.send == "" || a.recv == "" || a.send == a.recv {
		t.Fatalf("Accept: %+v", a)
	}
	return a
}

// look is all that can be asked of a prim, without changing it.
type look struct {
	journal []api.Deed
	terms   []api.Term
}

func looked(t *testing.T, p *prim.Prim) look {
	t.Helper()
	out := look{journal: append([]api.Deed{}, p.Journal()...)}
	if tab := p.Table(); tab != nil {
		out.terms = dump(t, tab)
	}
	return out
}

// dump tells all terms of a table.
func dump(t *testing.T, tab *term.Table) []api.Term {
	t.Helper()
	out := make([]api.Term, 0, tab.Len())
	for n := range tab.Len() {
		x, ok := tab.Of("\xf0TRM" + number(4, n))
		if !ok {
			t.Fatalf("there is no term %d of %d", n, tab.Len())
		}
		if len(x.Parts) == 0 {
			x.Parts = nil
		}
		out = append(out, x)
	}
	return out
}

// same holds two prims against each other: the same deeds were done, and the same terms made, in the same order.
func same(t *testing.T, what string, p, q *prim.Prim) {
	t.Helper()
	if x, y := looked(t, p), looked(t, q); !reflect.DeepEqual(x, y) {
		t.Errorf("%s: %d deeds and %d terms; want %d and %d, or others", what, len(x.journal), len(x.terms), len(y.journal), len(y.terms))
	}
}

// What follows tells the document's words, with a prim alone.

// wantClient is what a client has behind its hello.
type wantClient struct{ secret, fresh, es, ss, hello string }

func wantBegin(p *prim.Prim, self int, secret, server, draw string) (wantClient, api.Errno) {
	c := wantClient{secret: secret, fresh: p.Secret(draw)}
	public, e := p.Public(c.fresh)
	if e != api.OK {
		return wantClient{}, e
	}
	if c.es, e = p.Dh(c.fresh, server); e != api.OK {
		return wantClient{}, e
	}
	if c.ss, e = p.Dh(secret, server); e != api.OK {
		return wantClient{}, e
	}
	k, e := p.Derive(texts(c.es, c.ss), "", "shake hello", 1)
	if e != api.OK {
		return wantClient{}, e
	}
	head := number(2, self) + texts(public)
	proof, e := p.Seal(k[0], "", head, "")
	if e != api.OK {
		return wantClient{}, e
	}
	c.hello = head + texts(proof)
	return c, api.OK
}

func wantFinish(p *prim.Prim, c wantClient, public, proof string) ends {
	ee, e := p.Dh(c.fresh, public)
	if e != api.OK {
		return ends{e: e}
	}
	fs, e := p.Dh(c.secret, public)
	if e != api.OK {
		return ends{e: e}
	}
	salt := p.Digest(c.hello, texts(public))
	k, e := p.Derive(texts(c.es, c.ss, ee, fs), salt, "shake keys", 3)
	if e != api.OK {
		return ends{e: e}
	}
	if _, e = p.Open(k[2], "", texts(public), proof); e != api.OK {
		return ends{e: e}
	}
	return ends{send: k[0], recv: k[1]}
}

func wantHeard(p *prim.Prim, secret, client string, from int, public, proof string) (es, ss string, e api.Errno) {
	if es, e = p.Dh(secret, public); e != api.OK {
		return "", "", e
	}
	if ss, e = p.Dh(secret, client); e != api.OK {
		return "", "", e
	}
	k, e := p.Derive(texts(es, ss), "", "shake hello", 1)
	if e != api.OK {
		return "", "", e
	}
	_, e = p.Open(k[0], "", number(2, from)+texts(public), proof)
	return es, ss, e
}

func wantAccept(p *prim.Prim, secret, client string, from int, public, proof, draw string) answer {
	es, ss, e := wantHeard(p, secret, client, from, public, proof)
	if e != api.OK {
		return answer{e: e}
	}
	f := p.Secret(draw)
	own, e := p.Public(f)
	if e != api.OK {
		return answer{e: e}
	}
	ee, e := p.Dh(f, public)
	if e != api.OK {
		return answer{e: e}
	}
	fs, e := p.Dh(f, client)
	if e != api.OK {
		return answer{e: e}
	}
	salt := p.Digest(number(2, from)+texts(public, proof), texts(own))
	k, e := p.Derive(texts(es, ss, ee, fs), salt, "shake keys", 3)
	if e != api.OK {
		return answer{e: e}
	}
	seal, e := p.Seal(k[2], "", texts(own), "")
	if e != api.OK {
		return answer{e: e}
	}
	return answer{from: from, reply: texts(own, seal), send: k[1], recv: k[0]}
}

// parts tells the texts of a hello (behind its address) or a reply.
func parts(t *testing.T, s string) (public, proof string) {
	t.Helper()
	var out []string
	for s != "" {
		if len(s) < 4 {
			t.Fatalf("no text: %x", s)
		}
		n := int(s[0])<<24 | int(s[1])<<16 | int(s[2])<<8 | int(s[3])
		if n > len(s)-4 {
			t.Fatalf("no text: %x", s)
		}
		out = append(out, s[4:4+n])
		s = s[4+n:]
	}
	if len(out) != 2 {
		t.Fatalf("%d texts", len(out))
	}
	return out[0], out[1]
}

func TestExamples(t *testing.T) {
	p := made(t, api.KitTerm)
	x := pairOf(t, p, 's', 't')
	c, hello := begun(t, p, 4, x, "")
	if hello[:2] != "\x00\x04" {
		t.Errorf("the hello: %x", hello)
	}
	public, proof := parts(t, hello[2:])
	if d, ok := p.Table().Of(public); !ok || d.Kind != api.TermPub {
		t.Errorf("E: %v", d)
	}
	if d, ok := p.Table().Of(proof); !ok || d.Kind != api.TermEnc {
		t.Errorf("the proof: %v", d)
	}
	a := accepted(t, p, 4, x, hello, "")
	if got := finish(c, a.reply); got != (ends{a.recv, a.send, api.OK}) {
		t.Errorf("Finish: %+v", got)
	}
	for what, got := range map[string]struct {
		answer
		want api.Errno
	}{
		"none at 4":        {accept(p, x.server, at(5, x.clientPublic), hello, ""), api.ErrNone},
		"a byte more":      {accept(p, x.server, at(4, x.clientPublic), hello+"\x00", ""), api.ErrForm},
		"another server's": {accept(p, p.Secret(""), at(4, x.clientPublic), hello, ""), api.ErrSeal},
	} {
		if got.answer != (answer{e: got.want}) {
			t.Errorf("%s: %+v", what, got)
		}
	}
	beginRefused(t, api.ErrArg, p, -1, x.client, x.serverPublic, "")
	beginRefused(t, api.ErrNil, nil, 4, x.client, x.serverPublic, "")
	p = made(t, api.KitReal)
	x = pairOf(t, p, 's', 't')
	beginRefused(t, api.ErrKey, p, 4, x.client, x.serverPublic, draw('d')[1:])
}

// beginRefused looks for an error of Begin.
func beginRefused(t *testing.T, want api.Errno, p *prim.Prim, self int, secret, server, d string) {
	t.Helper()
	if c, hello, e := shake.Begin(p, self, secret, server, d); c != nil || hello != "" || e != want {
		t.Errorf("Begin as %d: %v, %x, %d; want %d", self, c, hello, e, want)
	}
}

// P14.1

func TestBeginAsTheDocumentSays(t *testing.T) {
	both(t, func(t *testing.T, p *prim.Prim) {
		x := pairOf(t, p, 'a', 'b')
		for i, self := range []int{0, 1, 2, 7, 255, 256, 258, 61524, 65534, 65535} {
			q := p.Copy()
			want, e := wantBegin(q, self, x.client, x.serverPublic, draw(byte(i+1)))
			if e != api.OK {
				t.Fatal(e)
			}
			if _, hello := begun(t, p, self, x, draw(byte(i+1))); hello != want.hello {
				t.Errorf("as %d: %x; want %x", self, hello, want.hello)
			}
			same(t, fmt.Sprint("as ", self), p, q)
		}
	})
}

func TestBeginRefusesAddresses(t *testing.T) {
	both(t, func(t *testing.T, p *prim.Prim) {
		x := pairOf(t, p, 'a', 'b')
		q := p.Copy()
		for _, self := range []int{-1, -2, 1 << 16, 1<<16 + 4, 1 << 32, 1<<32 + 4, math.MinInt, math.MinInt + 4, math.MaxInt} {
			beginRefused(t, api.ErrArg, p, self, x.client, x.serverPublic, draw('c'))
			beginRefused(t, api.ErrArg, p, self, "", "", "")
		}
		same(t, "addresses that are none", p, q)
	})
}

// nones are prims that are none.
func nones() []*prim.Prim { return []*prim.Prim{nil, {}, new(prim.Prim)} }

func TestBeginWithoutAPrim(t *testing.T) {
	for _, p := range nones() {
		for _, self := range []int{4, -1, 1 << 16} {
			beginRefused(t, api.ErrNil, p, self, draw('a'), draw('b'), draw('c'))
			beginRefused(t, api.ErrNil, p, self, "", "", "")
		}
	}
}

// A key that is none is found at the step that needs it; nothing was sealed then.
func TestBeginRefusesKeys(t *testing.T) {
	p := made(t, api.KitReal)
	x := pairOf(t, p, 'a', 'b')
	for _, bad := range []string{"", "x", draw('x')[1:], draw('x') + "x", strings.Repeat("x", 1<<17)} {
		beginRefused(t, api.ErrKey, p, 4, x.client, x.serverPublic, bad)
		beginRefused(t, api.ErrKey, p, 4, x.client, bad, draw('c'))
		beginRefused(t, api.ErrKey, p, 4, bad, x.serverPublic, draw('c'))
	}
	beginRefused(t, api.ErrKey, p, 4, x.client, draw(0), draw('c'))
	if len(p.Journal()) != 0 {
		t.Errorf("%d deeds", len(p.Journal()))
	}
}

// With terms any text is a secret, or a public key, up to what a table takes.
func TestBeginWithTermsOfAnyTexts(t *testing.T) {
	for _, s := range []string{"", "x", draw('x'), strings.Repeat("x", 1<<16)} {
		p := made(t, api.KitTerm)
		q := p.Copy()
		want, e := wantBegin(q, 4, s, s, "")
		_, hello, f := shake.Begin(p, 4, s, s, "")
		if e != api.OK || f != api.OK || hello != want.hello {
			t.Errorf("of %d bytes: %d, %d", len(s), e, f)
		}
		same(t, fmt.Sprint(len(s), " bytes"), p, q)
	}
	long := strings.Repeat("x", 1<<16+1)
	for _, x := range [][2]string{{long, "s"}, {"c", long}} {
		p := made(t, api.KitTerm)
		q := p.Copy()
		_, want := wantBegin(q, 4, x[0], x[1], "")
		if want != api.ErrLong {
			t.Fatal(want)
		}
		beginRefused(t, want, p, 4, x[0], x[1], "")
		same(t, "what is long", p, q)
	}
}

// filled is a table with room for that many terms more.
func filled(t *testing.T, p *prim.Prim, room int) {
	t.Helper()
	for p.Table().Len() < 1<<16-room-4096 {
		for range 4096 {
			p.Secret("")
		}
	}
	for range 1<<16 - room - p.Table().Len() {
		p.Secret("")
	}
	if n := p.Table().Len(); n != 1<<16-room {
		t.Fatalf("%d terms", n)
	}
}

// Where the table comes to be full, the step that finds it so gives the error, and those behind it are not done.
func TestFullTable(t *testing.T) {
	p := made(t, api.KitTerm)
	x := pairOf(t, p, 'a', 'b')
	c, hello := begun(t, p, 4, x, "")
	public, proof := parts(t, hello[2:])
	filled(t, p, 24)
	codes := map[api.Errno]int{}
	for room := 24; room >= 0; room-- {
		q, r := p.Copy(), p.Copy()
		want, e := wantBegin(q, 4, x.client, x.serverPublic, "")
		got, h, f := shake.Begin(r, 4, x.client, x.serverPublic, "")
		if e != f || h != want.hello || (got != nil) != (e == api.OK) {
			t.Errorf("room for %d: Begin: %x, %d; want %x, %d", room, h, f, want.hello, e)
		}
		codes[f]++
		same(t, fmt.Sprint("Begin with room for ", room), r, q)
		q, r = p.Copy(), p.Copy()
		wanted := wantAccept(q, x.server, x.clientPublic, 4, public, proof, "")
		a := accept(r, x.server, at(4, x.clientPublic), hello, "")
		if a != wanted {
			t.Errorf("room for %d: Accept: %+v; want %+v", room, a, wanted)
		}
		codes[a.e]++
		same(t, fmt.Sprint("Accept with room for ", room), r, q)
		p.Secret("")
	}
	if len(codes) != 2 || codes[api.ErrFull] < 10 || codes[api.OK] < 10 {
		t.Errorf("errors: %v", codes)
	}
	finishRefused(t, "Finish of a full table", api.ErrFull, finish(c, texts("y", "z")))
}

// P14.2

func TestAcceptAsTheDocumentSays(t *testing.T) {
	both(t, func(t *testing.T, p *prim.Prim) {
		x := pairOf(t, p, 'a', 'b')
		for i, self := range []int{0, 1, 2, 255, 256, 65535} {
			_, hello := begun(t, p, self, x, draw(byte(i+1)))
			public, proof := parts(t, hello[2:])
			q := p.Copy()
			want := wantAccept(q, x.server, x.clientPublic, self, public, proof, draw(byte(i+101)))
			if got := accepted(t, p, self, x, hello, draw(byte(i+101))); got != want {
				t.Errorf("as %d: %+v; want %+v", self, got, want)
			}
			same(t, fmt.Sprint("as ", self), p, q)
		}
	})
}

func acceptRefused(t *testing.T, what string, want api.Errno, got answer) {
	t.Helper()
	if got != (answer{e: want}) {
		t.Errorf("%s: %+v; want %d", what, got, want)
	}
}

func TestAcceptWithoutAPrim(t *testing.T) {
	p := made(t, api.KitReal)
	x := pairOf(t, p, 'a', 'b')
	_, hello := begun(t, p, 4, x, draw('c'))
	for _, none := range nones() {
		acceptRefused(t, "a hello", api.ErrNil, accept(none, x.server, at(4, x.clientPublic), hello, draw('d')))
		acceptRefused(t, "no hello", api.ErrNil, accept(none, x.server, nil, "", ""))
		acceptRefused(t, "no publics", api.ErrNil, accept(none, x.server, nil, hello, draw('d')))
	}
}

// Bytes that are no hello are told ahead of all else, and do nothing.
func TestAcceptRefusesBytes(t *testing.T) {
	both(t, func(t *testing.T, p *prim.Prim) {
		x := pairOf(t, p, 'a', 'b')
		_, hello := begun(t, p, 4, x, draw('c'))
		q := p.Copy()
		long := strings.Repeat("x", mostBytes+1)
		bad := map[string]string{
			"a byte more":       hello + "\x00",
			"twice":             hello + hello,
			"one more text":     hello + texts(""),
			"a long E":          "\x00\x04" + texts(long, "x"),
			"a long proof":      "\x00\x04" + texts("x", long),
			"a length below 0":  "\x00\x04\xff\xff\xff\xff",
			"a proof's huge":    "\x00\x04" + texts("x") + "\x7f\xff\xff\xffx",
			"an address of one": hello[1:],
			"of three":          "\x00" + hello,
			"E alone":           "\x00\x04" + texts("x"),
		}
		for n := range hello {
			bad[fmt.Sprint("the first ", n)] = hello[:n]
		}
		for what, s := range bad {
			acceptRefused(t, what, api.ErrForm, accept(p, x.server, at(4, x.clientPublic), s, draw('d')))
			acceptRefused(t, what+", nobody known", api.ErrForm, accept(p, "", nil, s, ""))
		}
		same(t, "bytes that are no hello", p, q)
	})
}

func TestAcceptRefusesWhoIsNotKnown(t *testing.T) {
	both(t, func(t *testing.T, p *prim.Prim) {
		x := pairOf(t, p, 'a', 'b')
		for _, self := range []int{0, 4, 256, 65535} {
			_, hello := begun(t, p, self, x, draw('c'))
			q := p.Copy()
			short := at(self, x.clientPublic)
			for i := range short {
				short[i] = x.clientPublic
			}
			full := append(short[:self:self], "", x.clientPublic, x.clientPublic)
			for what, l := range map[string][]string{
				"nil": nil, "empty": {}, "one too few": short[:self], "no bytes there": full,
			} {
				acceptRefused(t, what, api.ErrNone, accept(p, x.server, l, hello, draw('d')))
				acceptRefused(t, what+", and no key", api.ErrNone, accept(p, "", l, hello, ""))
			}
			// A hello of that form is enough: its proof is not looked at yet.
			acceptRefused(t, "no proof", api.ErrNone, accept(p, x.server, nil, number(2, self)+texts("", ""), draw('d')))
			same(t, "one who is not known", p, q)
		}
	})
}

// The greatest texts are read, and found to be no key, or no seal.
func TestAcceptReadsUpToTheLimit(t *testing.T) {
	most := strings.Repeat("x", mostBytes)
	for kit, want := range map[int]api.Errno{api.KitReal: api.ErrKey, api.KitTerm: api.ErrSeal} {
		p := made(t, kit)
		x := pairOf(t, p, 'a', 'b')
		for _, s := range []string{texts(most, most), texts("", ""), texts("x", most)} {
			acceptRefused(t, fmt.Sprintf("%.8x", s), want, accept(p, x.server, at(4, x.clientPublic), "\x00\x04"+s, draw('d')))
		}
	}
	p := made(t, api.KitReal)
	x := pairOf(t, p, 'a', 'b')
	for _, proof := range []string{"", "x", draw(0), most} {
		acceptRefused(t, "a proof", api.ErrSeal, accept(p, x.server, at(4, x.clientPublic), "\x00\x04"+texts(x.clientPublic, proof), draw('d')))
	}
}

// Who proves nothing costs no fresh secret, and leaves no deed.
func TestAcceptDrawsBehindTheProof(t *testing.T) {
	both(t, func(t *testing.T, p *prim.Prim) {
		x, y := pairOf(t, p, 'a', 'b'), pairOf(t, p, 'c', 'd')
		_, hello := begun(t, p, 4, x, draw('e'))
		public, proof := parts(t, hello[2:])
		q := p.Copy()
		for what, z := range map[string]struct {
			secret, client string
			self           int
		}{
			"another server": {y.server, x.clientPublic, 4},
			"another client": {x.server, y.clientPublic, 4},
			"another place":  {x.server, x.clientPublic, 5},
		} {
			p, q := p.Copy(), q.Copy()
			want := wantAccept(q, z.secret, z.client, z.self, public, proof, draw('f'))
			acceptRefused(t, what, api.ErrSeal, want)
			acceptRefused(t, what, api.ErrSeal, accept(p, z.secret, at(z.self, z.client), number(2, z.self)+hello[2:], draw('f')))
			acceptRefused(t, what+", no draw", api.ErrSeal, accept(p, z.secret, at(z.self, z.client), number(2, z.self)+hello[2:], ""))
			same(t, what, p, q)
		}
	})
}

// With the real kind each key that is none is told, at its step.
func TestAcceptRefusesKeys(t *testing.T) {
	p := made(t, api.KitReal)
	x := pairOf(t, p, 'a', 'b')
	_, hello := begun(t, p, 4, x, draw('c'))
	_, proof := parts(t, hello[2:])
	q := p.Copy()
	publics := at(4, x.clientPublic)
	for _, bad := range []string{"x", draw('x')[1:], draw('x') + "x", strings.Repeat("x", mostBytes)} {
		acceptRefused(t, "the secret", api.ErrKey, accept(p, bad, publics, hello, draw('d')))
		acceptRefused(t, "the client's", api.ErrKey, accept(p, x.server, at(4, bad), hello, draw('d')))
		acceptRefused(t, "E", api.ErrKey, accept(p, x.server, publics, "\x00\x04"+texts(bad, proof), draw('d')))
	}
	acceptRefused(t, "no secret", api.ErrKey, accept(p, "", publics, hello, draw('d')))
	acceptRefused(t, "E that all know", api.ErrKey, accept(p, x.server, publics, "\x00\x04"+texts(draw(0), proof), draw('d')))
	acceptRefused(t, "a client's that all know", api.ErrKey, accept(p, x.server, at(4, draw(0)), hello, draw('d')))
	same(t, "keys that are none", p, q)
	// The draw comes behind the proof, which was opened then; nothing is sealed.
	for _, bad := range []string{"", "x", draw('d')[1:], draw('d') + "d"} {
		p := q.Copy()
		acceptRefused(t, "the draw", api.ErrKey, accept(p, x.server, publics, hello, bad))
		l := p.Journal()
		if len(l) != len(q.Journal())+1 || l[len(l)-1].Kind != api.DeedOpen {
			t.Errorf("a draw of %d bytes: %d deeds", len(bad), len(l))
		}
	}
}

// P14.3

func TestFinishAsTheDocumentSays(t *testing.T) {
	both(t, func(t *testing.T, p *prim.Prim) {
		x := pairOf(t, p, 'a', 'b')
		q := p.Copy()
		want, _ := wantBegin(q, 4, x.client, x.serverPublic, draw('c'))
		c, hello := begun(t, p, 4, x, draw('c'))
		a := accepted(t, p, 4, x, hello, draw('d'))
		public, proof := parts(t, hello[2:])
		wantAccept(q, x.server, x.clientPublic, 4, public, proof, draw('d'))
		public, proof = parts(t, a.reply)
		for range 3 { // a client may finish more than once
			wanted := wantFinish(q, want, public, proof)
			if got := finish(c, a.reply); got != wanted || got.e != api.OK {
				t.Errorf("%+v; want %+v", got, wanted)
			}
			same(t, "Finish", p, q)
			wanted = wantFinish(q, want, public, "none")
			if got := finish(c, texts(public, "none")); got != wanted || got.e != api.ErrSeal {
				t.Errorf("no proof: %+v; want %+v", got, wanted)
			}
			same(t, "Finish with no proof", p, q)
		}
	})
}

func finishRefused(t *testing.T, what string, want api.Errno, got ends) {
	t.Helper()
	if got != (ends{e: want}) {
		t.Errorf("%s: %+v; want %d", what, got, want)
	}
}

func TestFinishOfNone(t *testing.T) {
	p := made(t, api.KitReal)
	x := pairOf(t, p, 'a', 'b')
	_, hello := begun(t, p, 4, x, draw('c'))
	a := accepted(t, p, 4, x, hello, draw('d'))
	for _, c := range []*shake.Client{nil, {}, new(shake.Client)} {
		for _, s := range []string{"", "x", a.reply, texts("", "")} {
			finishRefused(t, "a client that is none", api.ErrNil, finish(c, s))
		}
	}
}

func TestFinishRefusesBytes(t *testing.T) {
	both(t, func(t *testing.T, p *prim.Prim) {
		x := pairOf(t, p, 'a', 'b')
		c, hello := begun(t, p, 4, x, draw('c'))
		reply := accepted(t, p, 4, x, hello, draw('d')).reply
		q := p.Copy()
		long := strings.Repeat("x", mostBytes+1)
		bad := map[string]string{
			"a byte more":      reply + "\x00",
			"twice":            reply + reply,
			"one more text":    reply + texts(""),
			"a hello":          hello,
			"a long F":         texts(long, "x"),
			"a long proof":     texts("x", long),
			"a length below 0": "\xff\xff\xff\xff",
			"F alone":          texts("x"),
		}
		for n := range reply {
			bad[fmt.Sprint("the first ", n)] = reply[:n]
		}
		for what, s := range bad {
			finishRefused(t, what, api.ErrForm, finish(c, s))
		}
		same(t, "bytes that are no reply", p, q)
	})
}

func TestFinishRefusesKeys(t *testing.T) {
	p := made(t, api.KitReal)
	x := pairOf(t, p, 'a', 'b')
	c, hello := begun(t, p, 4, x, draw('c'))
	public, proof := parts(t, accepted(t, p, 4, x, hello, draw('d')).reply)
	q := p.Copy()
	for _, bad := range []string{"", "x", public[1:], public + "x", draw(0), strings.Repeat("x", mostBytes)} {
		finishRefused(t, "F", api.ErrKey, finish(c, texts(bad, proof)))
	}
	for _, bad := range []string{"", "x", proof[1:], "x" + proof, draw(0), strings.Repeat("x", mostBytes)} {
		finishRefused(t, "the proof", api.ErrSeal, finish(c, texts(public, bad)))
	}
	same(t, "replies that prove nothing", p, q)
	if got := finish(c, texts(public, proof)); got.e != api.OK {
		t.Errorf("behind all that: %+v", got)
	}
}

// P14.4

func TestBothComeToTheSame(t *testing.T) {
	both(t, func(t *testing.T, p *prim.Prim) {
		chance := rand.New(rand.NewSource(14))
		any32 := func() string {
			b := make([]byte, 32)
			chance.Read(b)
			return string(b)
		}
		seen := map[string]int{}
		for range 30 {
			x := pair{client: p.Secret(any32()), server: p.Secret(any32())}
			x.clientPublic, x.serverPublic = fine(t)(p.Public(x.client)), fine(t)(p.Public(x.server))
			self := chance.Intn(1 << 16)
			c, hello := begun(t, p, self, x, any32())
			a := accepted(t, p, self, x, hello, any32())
			if got := finish(c, a.reply); got != (ends{a.recv, a.send, api.OK}) {
				t.Errorf("as %d: %+v, and %+v", self, got, a)
			}
			seen[a.send]++
			seen[a.recv]++
		}
		if len(seen) != 60 {
			t.Errorf("%d keys of 30 connections", len(seen))
		}
	})
}

// A hello that comes twice is accepted twice, to other keys; the client finishes with either reply.
func TestHelloTwice(t *testing.T) {
	both(t, func(t *testing.T, p *prim.Prim) {
		x := pairOf(t, p, 'a', 'b')
		c, hello := begun(t, p, 4, x, draw('c'))
		a, b := accepted(t, p, 4, x, hello, draw('d')), accepted(t, p, 4, x, hello, draw('e'))
		if a.reply == b.reply || a.send == b.send || a.recv == b.recv {
			t.Errorf("%+v, %+v", a, b)
		}
		for _, y := range []answer{a, b, a} {
			if got := finish(c, y.reply); got != (ends{y.recv, y.send, api.OK}) {
				t.Errorf("%+v, and %+v", got, y)
			}
		}
	})
}

// Two clients of one prim, or of two prims of the real kind, do not hang together.
func TestClientsApart(t *testing.T) {
	both(t, func(t *testing.T, p *prim.Prim) {
		x, y := pairOf(t, p, 'a', 'b'), pairOf(t, p, 'c', 'b')
		y.server, y.serverPublic = x.server, x.serverPublic
		c, hi := begun(t, p, 4, x, draw('e'))
		d, ho := begun(t, p, 5, y, draw('f'))
		a, b := accepted(t, p, 4, x, hi, draw('g')), accepted(t, p, 5, y, ho, draw('h'))
		finishRefused(t, "the other one's reply", api.ErrSeal, finish(c, b.reply))
		finishRefused(t, "the other one's reply", api.ErrSeal, finish(d, a.reply))
		if got := finish(c, a.reply); got != (ends{a.recv, a.send, api.OK}) {
			t.Errorf("%+v, and %+v", got, a)
		}
		if got := finish(d, b.reply); got != (ends{b.recv, b.send, api.OK}) {
			t.Errorf("%+v, and %+v", got, b)
		}
	})
	p, q := made(t, api.KitReal), made(t, api.KitReal)
	x := pairOf(t, p, 'a', 'b')
	c, hello := begun(t, p, 4, x, draw('c'))
	a := accepted(t, q, 4, x, hello, draw('d'))
	if got := finish(c, a.reply); got != (ends{a.recv, a.send, api.OK}) {
		t.Errorf("of two prims: %+v, and %+v", got, a)
	}
	if len(p.Journal()) != 2 || len(q.Journal()) != 2 { // each sealed one, and opened one
		t.Errorf("%d deeds, and %d", len(p.Journal()), len(q.Journal()))
	}
}

// P14.5

// changed goes through all bytes of s that differ in one from it.
func changed(s string) func(func(int, string) bool) {
	return func(yield func(int, string) bool) {
		for i := range len(s) {
			for c := range 255 {
				b := []byte(s)
				b[i] += byte(c + 1)
				if !yield(i, string(b)) {
					return
				}
			}
		}
	}
}

func TestChangedHellos(t *testing.T) {
	base := made(t, api.KitTerm)
	x := pairOf(t, base, 'a', 'b')
	publics := make([]string, 1<<16) // one who is everywhere, so that the address is found
	for i := range publics {
		publics[i] = x.clientPublic
	}
	_, first := begun(t, base, 4, x, "")
	_, other := begun(t, base, 4, x, "")
	_, third := begun(t, base, 5, x, "")
	made := map[string]int{first: 1, other: 1, third: 1}
	last, p := -1, base
	for i, s := range changed(first) {
		if i != last {
			last, p = i, base.Copy() // what is refused leaves terms, of which there may be only so many
		}
		if a := accept(p, x.server, publics, s, ""); made[s] == 0 && a.e != api.ErrSeal && a.e != api.ErrForm || a.e != api.OK && a != (answer{e: a.e}) {
			t.Errorf("byte %d: %x: %+v", i, s, a)
		}
	}
	// Parts of two hellos put together are none of both.
	e1, p1 := parts(t, first[2:])
	e2, p2 := parts(t, other[2:])
	for _, s := range []string{texts(e1, p2), texts(e2, p1), texts(p1, e1), texts(x.clientPublic, p1)} {
		acceptRefused(t, "put together", api.ErrSeal, accept(base, x.server, publics, "\x00\x04"+s, ""))
	}
	acceptRefused(t, "the third one's address", api.ErrSeal, accept(base, x.server, publics, "\x00\x05"+first[2:], ""))
	for s := range made {
		if a := accept(base, x.server, publics, s, ""); a.e != api.OK {
			t.Errorf("one that was made: %+v", a)
		}
	}
}

func TestChangedReplies(t *testing.T) {
	p := made(t, api.KitTerm)
	x := pairOf(t, p, 'a', 'b')
	c, hello := begun(t, p, 4, x, "")
	_, again := begun(t, p, 4, x, "")
	first, other := accepted(t, p, 4, x, hello, ""), accepted(t, p, 4, x, hello, "")
	foreign := accepted(t, p, 4, x, again, "")
	for i, s := range changed(first.reply) {
		if s == other.reply {
			continue
		}
		if got := finish(c, s); got.e != api.ErrSeal && got.e != api.ErrForm || got != (ends{e: got.e}) {
			t.Errorf("byte %d: %x: %+v", i, s, got)
		}
	}
	f1, p1 := parts(t, first.reply)
	f2, p2 := parts(t, other.reply)
	for _, s := range []string{texts(f1, p2), texts(f2, p1), texts(p1, f1), texts(x.serverPublic, p1), foreign.reply} {
		finishRefused(t, "put together", api.ErrSeal, finish(c, s))
	}
	for _, y := range []answer{first, other} {
		if got := finish(c, y.reply); got != (ends{y.recv, y.send, api.OK}) {
			t.Errorf("%+v, and %+v", got, y)
		}
	}
}

// With the real kind, too, no bit may differ; but X25519 leaves the highest one of a public key aside, and so the proof must tell.
func TestChangedBits(t *testing.T) {
	p := made(t, api.KitReal)
	x := pairOf(t, p, 'a', 'b')
	publics := []string{x.clientPublic, x.clientPublic, x.clientPublic, x.clientPublic, x.clientPublic, x.clientPublic}
	c, hello := begun(t, p, 4, x, draw('c'))
	reply := accepted(t, p, 4, x, hello, draw('d')).reply
	for i := range len(hello) {
		b := []byte(hello)
		b[i] ^= 1 << 7 >> (i % 2 * 7)
		if a := accept(p, x.server, publics, string(b), draw('d')); a.e == api.OK || a != (answer{e: a.e}) {
			t.Errorf("a hello's byte %d: %+v", i, a)
		}
	}
	for i := range len(reply) {
		b := []byte(reply)
		b[i] ^= 1 << 7 >> (i % 2 * 7)
		if got := finish(c, string(b)); got.e == api.OK || got != (ends{e: got.e}) {
			t.Errorf("a reply's byte %d: %+v", i, got)
		}
	}
	e, proof := parts(t, hello[2:])
	high := e[:31] + string([]byte{e[31] ^ 0x80})
	acceptRefused(t, "E's highest bit", api.ErrSeal, accept(p, x.server, publics, hello[:2]+texts(high, proof), draw('d')))
	f, proof := parts(t, reply)
	high = f[:31] + string([]byte{f[31] ^ 0x80})
	finishRefused(t, "F's highest bit", api.ErrSeal, finish(c, texts(high, proof)))
}

// isKnown tells whether one who has seen those texts knows the term whose text s is.
func isKnown(t *testing.T, p *prim.Prim, s string, seen ...string) bool {
	t.Helper()
	n := int(s[4])<<24 | int(s[5])<<16 | int(s[6])<<8 | int(s[7])
	return p.Table().Known(seen)[n]
}

func TestWhoHasSeenBothKnowsNeitherKey(t *testing.T) {
	p := made(t, api.KitTerm)
	x := pairOf(t, p, 'a', 'b')
	c, hello := begun(t, p, 4, x, "")
	a := accepted(t, p, 4, x, hello, "")
	finish(c, a.reply)
	for _, seen := range [][]string{{hello, a.reply}, {hello, a.reply, x.clientPublic, x.serverPublic}} {
		for _, key := range []string{a.send, a.recv} {
			if isKnown(t, p, key, seen...) {
				t.Errorf("one who has seen %d texts knows a key", len(seen))
			}
		}
	}
	// That it is the one's own that is missing: who has it, and the fresh secret, does know them.
	fresh := "\xf0TRM" + number(4, 4)
	if d, ok := p.Table().Of(fresh); !ok || d.Kind != api.TermName {
		t.Fatalf("the client's fresh secret: %v", d)
	}
	for _, key := range []string{a.send, a.recv} {
		if !isKnown(t, p, key, hello, a.reply, x.serverPublic, x.client, fresh) {
			t.Error("the client itself does not know a key")
		}
		if isKnown(t, p, key, hello, a.reply, x.serverPublic, x.clientPublic, x.client, x.server) {
			t.Error("who has both secrets later knows a key of before")
		}
	}
}

// R5: neither what is handed in nor what is answered is kept but by its content.
func TestNothingIsShared(t *testing.T) {
	both(t, func(t *testing.T, p *prim.Prim) {
		x := pairOf(t, p, 'a', 'b')
		var all [][]byte
		lent := func(s string) string {
			b := []byte(s)
			all = append(all, b)
			return unsafe.String(unsafe.SliceData(b), len(b))
		}
		spoil := func() {
			for _, b := range all {
				for i := range b {
					b[i] ^= 0x55
				}
			}
			all = nil
		}
		c, hello, e := shake.Begin(p, 4, lent(x.client), lent(x.serverPublic), lent(draw('c')))
		if e != api.OK {
			t.Fatal(e)
		}
		spoil()
		publics := at(4, lent(x.clientPublic))
		a := accept(p, lent(x.server), publics, lent(hello), lent(draw('d')))
		publics[4] = ""
		reply, send, recv := strings.Clone(a.reply), strings.Clone(a.send), strings.Clone(a.recv)
		spoil()
		if a.e != api.OK || a.reply != reply || a.send != send || a.recv != recv {
			t.Errorf("%+v", a)
		}
		got := finish(c, lent(reply))
		spoil()
		if got != (ends{recv, send, api.OK}) {
			t.Errorf("%+v; want %x and %x", got, recv, send)
		}
	})
}

// R5: a list of public keys is left as it was, also behind its end.
func TestPublicsAreLeft(t *testing.T) {
	p := made(t, api.KitTerm)
	x := pairOf(t, p, 'a', 'b')
	_, hello := begun(t, p, 4, x, "")
	room := []string{"", "u", "", "", x.clientPublic, "behind"}
	was := append([]string{}, room...)
	if a := accept(p, x.server, room[:5], hello, ""); a.e != api.OK {
		t.Errorf("%+v", a)
	}
	accept(p, x.server, room[:4], hello, "")
	if !reflect.DeepEqual(room, was) {
		t.Errorf("%q", room)
	}
}

// R1: whatever bytes come, each call ends.
func TestChanceBytes(t *testing.T) {
	both(t, func(t *testing.T, p *prim.Prim) {
		chance := rand.New(rand.NewSource(41))
		x := pairOf(t, p, 'a', 'b')
		c, hello := begun(t, p, 4, x, draw('c'))
		reply := accepted(t, p, 4, x, hello, draw('d')).reply
		for range 300 {
			h, r := []byte(hello), []byte(reply)
			for range 1 + chance.Intn(4) {
				h[chance.Intn(len(h))], r[chance.Intn(len(r))] = byte(chance.Intn(256)), byte(chance.Intn(256))
			}
			if a := accept(p, x.server, at(4, x.clientPublic), string(h), draw('d')); (a.e == api.OK) != (string(h) == hello) {
				t.Errorf("%x: %+v", h, a)
			}
			if got := finish(c, string(r)); (got.e == api.OK) != (string(r) == reply) {
				t.Errorf("%x: %+v", r, got)
			}
		}
	})
}
