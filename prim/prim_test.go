package prim_test

import (
	"fmt"
	"reflect"
	"slices"
	"strings"
	"testing"
	"unsafe"

	"missive/api"
	"missive/prim"
	"missive/term"
)

const mostBytes = 1 << 14 // of what is sealed or signed at once

func made(t *testing.T, kit int) *prim.Prim {
	t.Helper()
	p, e := prim.New(kit)
	if e != api.OK || p == nil {
		t.Fatalf("New(%d): %d", kit, e)
	}
	return p
}

// both goes through the two kinds.
func both(t *testing.T, look func(t *testing.T, p *prim.Prim)) {
	t.Helper()
	for _, kit := range []int{api.KitReal, api.KitTerm} {
		t.Run(fmt.Sprint("kit", kit), func(t *testing.T) { look(t, made(t, kit)) })
	}
}

// fine takes what a call answers that may not fail.
func fine(t *testing.T) func(string, api.Errno) string {
	return func(s string, e api.Errno) string {
		t.Helper()
		if e != api.OK || s == "" {
			t.Fatalf("%q, %d", s, e)
		}
		return s
	}
}

// refused takes what a call answers that is to fail with that error.
func refused(t *testing.T, want api.Errno) func(string, api.Errno) {
	return func(s string, e api.Errno) {
		t.Helper()
		if e != want || s != "" {
			t.Errorf("%.40q, %d in the place of %d", s, e, want)
		}
	}
}

// draw is one of 32 bytes.
func draw(c byte) string { return strings.Repeat(string([]byte{c}), 32) }

// text tells a term's text, as the document has it.
func text(n int) string {
	return "\xf0TRM" + string([]byte{byte(n >> 24), byte(n >> 16), byte(n >> 8), byte(n)})
}

// dump tells all terms of a table.
func dump(t *testing.T, tab *term.Table) []api.Term {
	t.Helper()
	out := make([]api.Term, 0, tab.Len())
	for n := range tab.Len() {
		x, ok := tab.Of(text(n))
		if !ok {
			t.Fatalf("there is no term %d of %d", n, tab.Len())
		}
		if len(x.Parts) == 0 {
			x.Parts = nil
		}
		out = append(out, x)
	}
	return out
}

// look is all that can be asked of a prim, without changing it.
type look struct {
	kit     int
	journal []api.Deed
	terms   []api.Term
}

func looked(t *testing.T, p *prim.Prim) look {
	t.Helper()
	out := look{kit: p.Kit(), journal: append([]api.Deed{}, p.Journal()...)}
	if tab := p.Table(); tab != nil {
		out.terms = dump(t, tab)
	}
	return out
}

// unchanged is called with a function's end: nothing has changed since.
func unchanged(t *testing.T, p *prim.Prim) func() {
	t.Helper()
	was := looked(t, p)
	return func() {
		t.Helper()
		if now := looked(t, p); !reflect.DeepEqual(was, now) {
			t.Errorf("it has changed: %d deeds and %d terms, then %d and %d", len(was.journal), len(was.terms), len(now.journal), len(now.terms))
		}
	}
}

// last tells the last deed.
func last(t *testing.T, p *prim.Prim) api.Deed {
	t.Helper()
	l := p.Journal()
	if len(l) == 0 {
		t.Fatal("no deed")
	}
	return l[len(l)-1]
}

func kindsOf(l []api.Deed) []int {
	var out []int
	for _, d := range l {
		out = append(out, d.Kind)
	}
	return out
}

func TestExamples(t *testing.T) {
	if p, e := prim.New(2); p != nil || e != api.ErrArg {
		t.Errorf("New(2): %v %d", p, e)
	}
	p := made(t, api.KitTerm)
	if p.Kit() != 1 || len(p.Journal()) != 0 || p.Table().Len() != 0 {
		t.Errorf("%d, %v, %d", p.Kit(), p.Journal(), p.Table().Len())
	}
	a, b := p.Secret(""), p.Secret("")
	pa, pb := fine(t)(p.Public(a)), fine(t)(p.Public(b))
	if x, y := fine(t)(p.Dh(a, pb)), fine(t)(p.Dh(b, pa)); x != y {
		t.Errorf("Dh: %x %x", x, y)
	}
	c := fine(t)(p.Seal(a, "n", "", "x"))
	if _, ok := p.Table().Of(c); !ok {
		t.Errorf("Seal: %x", c)
	}
	if x := fine(t)(p.Open(a, "n", "", c)); x != "x" {
		t.Errorf("Open: %q", x)
	}
	refused(t, api.ErrSeal)(p.Open(b, "n", "", c))
	refused(t, api.ErrSeal)(p.Open(a, "m", "", c))
	if kinds := kindsOf(p.Journal()); !slices.Equal(kinds, []int{api.DeedSeal, api.DeedOpen}) {
		t.Errorf("the journal: %v", kinds)
	}
	s := fine(t)(p.Sign(a, "x"))
	if _, ok := p.Table().Of(s); !ok {
		t.Errorf("Sign: %x", s)
	}
	if !p.Verify(fine(t)(p.Signer(a)), "x", s) || p.Verify(fine(t)(p.Signer(b)), "x", s) {
		t.Error("Verify")
	}
	p = made(t, api.KitReal)
	refused(t, api.ErrKey)(p.Public(draw('x')[1:]))
	refused(t, api.ErrKey)(p.Dh(draw('x'), draw(0)))
	refused(t, api.ErrKey)(p.Seal(draw('x')[1:], "", "", ""))
	if p.Digest("a", "b") == p.Digest("ab") {
		t.Error("Digest")
	}
}

// P10.1

func TestNew(t *testing.T) {
	for _, kit := range []int{-1 << 63, -2, -1, 2, 3, 256, 1 << 32, 1<<32 + 1, 1<<63 - 1} {
		if p, e := prim.New(kit); p != nil || e != api.ErrArg {
			t.Errorf("New(%d): %v %d", kit, p, e)
		}
	}
	both(t, func(t *testing.T, p *prim.Prim) {
		if len(p.Journal()) != 0 {
			t.Errorf("a journal from the beginning: %v", p.Journal())
		}
	})
	p, q := made(t, api.KitReal), made(t, api.KitTerm)
	if p.Kit() != api.KitReal || q.Kit() != api.KitTerm {
		t.Errorf("Kit: %d %d", p.Kit(), q.Kit())
	}
	p.Secret(draw('x'))
	if p.Table() != nil || p.Copy().Table() != nil {
		t.Error("a table of the real kind")
	}
	if tab := q.Table(); tab == nil || tab.Len() != 0 {
		t.Error("no empty table")
	}
	q.Secret("")
	if made(t, api.KitTerm).Table().Len() != 0 {
		t.Error("two prims hang together")
	}
}

// A prim that is none is nil, or one that no call made.
func TestNone(t *testing.T) {
	for i, p := range []*prim.Prim{nil, {}, new(prim.Prim)} {
		for _, s := range []string{"", "x", draw(0), draw('x'), strings.Repeat("x", 1<<17)} {
			for name, e := range map[string]func() (string, api.Errno){
				"Public": func() (string, api.Errno) { return p.Public(s) },
				"Dh":     func() (string, api.Errno) { return p.Dh(s, s) },
				"Seal":   func() (string, api.Errno) { return p.Seal(s, s, s, s) },
				"Open":   func() (string, api.Errno) { return p.Open(s, s, s, s) },
				"Signer": func() (string, api.Errno) { return p.Signer(s) },
				"Sign":   func() (string, api.Errno) { return p.Sign(s, s) },
			} {
				if out, e := e(); out != "" || e != api.ErrNil {
					t.Errorf("%d: %s(%.5q): %q %d", i, name, s, out, e)
				}
			}
			for _, n := range []int{-1 << 63, -1, 0, 1, 16, 17, 1<<63 - 1} {
				if l, e := p.Derive(s, s, s, n); len(l) != 0 || e != api.ErrNil {
					t.Errorf("%d: Derive(%.5q, %d): %q %d", i, s, n, l, e)
				}
			}
			if p.Secret(s) != "" || p.Digest(s) != "" || p.Verify(s, s, s) {
				t.Errorf("%d: Secret, Digest or Verify of %.5q", i, s)
			}
		}
		if p.Digest() != "" || p.Kit() != -1 || len(p.Journal()) != 0 || p.Table() != nil || p.Copy() != nil {
			t.Errorf("%d: something of none", i)
		}
	}
}

// The table that is handed out is a copy.
func TestTableIsACopy(t *testing.T) {
	p := made(t, api.KitTerm)
	a := p.Secret("")
	tab := p.Table()
	tab.Fresh()
	tab.Data("x")
	if p.Table().Len() != 1 {
		t.Error("the prim has what was put into the copy")
	}
	if b := p.Secret(""); b != text(1) || a != text(0) {
		t.Errorf("%x, %x", a, b)
	}
	if tab.Len() != 3 || p.Table().Len() != 2 {
		t.Error("the copy has what was put into the prim")
	}
}

// What a journal answers may be written over.
func TestJournalIsACopy(t *testing.T) {
	both(t, func(t *testing.T, p *prim.Prim) {
		a := p.Secret(draw('a'))
		for _, s := range []string{"x", "y", "z"} {
			p.Seal(a, "n", "", s)
		}
		l := p.Journal()
		if len(l) != 3 {
			t.Fatalf("%v", l)
		}
		l[0] = api.Deed{}
		_ = append(l[:1], api.Deed{Kind: 7}, api.Deed{Kind: 7})
		for i, d := range p.Journal() {
			if d.Kind != api.DeedSeal || d.Text != "xyz"[i:i+1] {
				t.Errorf("%d: %v", i, d)
			}
		}
		l = p.Journal()
		p.Seal(a, "n", "", "w")
		if len(l) != 3 || len(p.Journal()) != 4 {
			t.Error("what was answered goes on")
		}
	})
}

// A copy is as the prim was, and both go their own ways, however much room the journal has behind its end.
func TestCopy(t *testing.T) {
	both(t, func(t *testing.T, p *prim.Prim) {
		a := p.Secret(draw('a'))
		for i := range 20 {
			was := looked(t, p)
			c := p.Copy()
			if c == p || !reflect.DeepEqual(looked(t, c), was) {
				t.Fatalf("%d: a copy is not as the prim is", i)
			}
			sealed := fine(t)(c.Seal(a, "n", "", fmt.Sprint("of the copy ", i)))
			if !reflect.DeepEqual(looked(t, p), was) {
				t.Fatalf("%d: the prim has what the copy did", i)
			}
			if p.Kit() == api.KitTerm {
				refused(t, api.ErrSeal)(p.Open(a, "n", "", sealed))
			}
			ofCopy := looked(t, c)
			fine(t)(p.Seal(a, "m", "", fmt.Sprint("of the prim ", i)))
			fine(t)(p.Public(a))
			p.Secret(draw('b'))
			if !reflect.DeepEqual(looked(t, c), ofCopy) {
				t.Fatalf("%d: the copy has what the prim did", i)
			}
			d := c.Copy()
			fine(t)(d.Sign(a, "x"))
			if !reflect.DeepEqual(looked(t, c), ofCopy) || d.Kit() != p.Kit() {
				t.Fatalf("%d: a copy of a copy", i)
			}
		}
		if len(p.Journal()) != 20 {
			t.Errorf("%d deeds", len(p.Journal()))
		}
	})
}

// The deeds stand in the journal in the order in which they were done, with just what their kinds have.
func TestJournal(t *testing.T) {
	both(t, func(t *testing.T, p *prim.Prim) {
		a, b := p.Secret(draw('a')), p.Secret(draw('b'))
		pa := fine(t)(p.Signer(a))
		s := fine(t)(p.Sign(a, "t"))
		x := fine(t)(p.Seal(b, "n", "ad", "u"))
		p.Open(a, "n", "ad", x)
		p.Verify(pa, "t", s)
		p.Verify(pa, "u", s)
		p.Open(b, "n", "ad", x)
		p.Open(b, "n", "ad", x)
		y := fine(t)(p.Seal(b, "n", "ad", "u"))
		fine(t)(p.Public(a))
		fine(t)(p.Dh(a, fine(t)(p.Public(b))))
		p.Derive(a, "", "", 2)
		p.Digest("x")
		want := []api.Deed{
			{Kind: api.DeedSign, Key: pa, Text: "t", Out: s},
			{Kind: api.DeedSeal, Key: b, Nonce: "n", Ad: "ad", Text: "u", Out: x},
			{Kind: api.DeedVerify, Key: pa, Text: "t", Ad: s},
			{Kind: api.DeedOpen, Key: b, Nonce: "n", Ad: "ad", Text: x, Out: "u"},
			{Kind: api.DeedOpen, Key: b, Nonce: "n", Ad: "ad", Text: x, Out: "u"},
			{Kind: api.DeedSeal, Key: b, Nonce: "n", Ad: "ad", Text: "u", Out: y},
		}
		if got := p.Journal(); x != y || !reflect.DeepEqual(got, want) {
			t.Errorf("%v", got)
		}
	})
}

// P10.3, P10.4, P10.6: what both kinds refuse, in the order that the document names.

func TestDeriveRefused(t *testing.T) {
	both(t, func(t *testing.T, p *prim.Prim) {
		k := p.Secret(draw('k'))
		defer unchanged(t, p)()
		just, long := strings.Repeat("i", 1000), strings.Repeat("i", 1001)
		for _, n := range []int{-1 << 63, -1 << 32, -17, -1, 0, 17, 18, 255, 256, 257, 1<<32 + 1, 1<<63 - 1} {
			for _, info := range []string{"", just, long} {
				if l, e := p.Derive(k, "", info, n); len(l) != 0 || e != api.ErrArg {
					t.Errorf("%d keys, %d of info: %q %d", n, len(info), l, e)
				}
			}
		}
		for _, n := range []int{1, 2, 16} {
			if l, e := p.Derive(k, "", long, n); len(l) != 0 || e != api.ErrLong {
				t.Errorf("%d keys, a long info: %q %d", n, l, e)
			}
			c := p.Copy()
			if l, e := c.Derive(k, "", just, n); len(l) != n || e != api.OK {
				t.Errorf("%d keys, an info that is just not too long: %q %d", n, l, e)
			}
		}
	})
}

func TestSealRefused(t *testing.T) {
	both(t, func(t *testing.T, p *prim.Prim) {
		k := p.Secret(draw('k'))
		check := unchanged(t, p)
		just, long := strings.Repeat("x", mostBytes), strings.Repeat("x", mostBytes+1)
		for _, key := range []string{k, "short"} {
			refused(t, api.ErrLong)(p.Seal(key, long, "", ""))
			refused(t, api.ErrLong)(p.Seal(key, "", long, ""))
			refused(t, api.ErrLong)(p.Seal(key, "", "", long))
			refused(t, api.ErrLong)(p.Seal(key, long, long, long))
			refused(t, api.ErrLong)(p.Seal(key, strings.Repeat("x", 1<<20), "", ""))
		}
		check()
		for i, x := range [][3]string{{just, "", ""}, {"", just, ""}, {"", "", just}, {just, just, just}} {
			s := fine(t)(p.Seal(k, x[0], x[1], x[2]))
			if out, e := p.Open(k, x[0], x[1], s); out != x[2] || e != api.OK {
				t.Errorf("%d: %.20q %d", i, out, e)
			}
		}
	})
}

func TestSignRefused(t *testing.T) {
	both(t, func(t *testing.T, p *prim.Prim) {
		a := p.Secret(draw('a'))
		check := unchanged(t, p)
		just, long := strings.Repeat("x", mostBytes), strings.Repeat("x", mostBytes+1)
		refused(t, api.ErrLong)(p.Sign(a, long))
		refused(t, api.ErrLong)(p.Sign("short", long))
		check()
		if !p.Verify(fine(t)(p.Signer(a)), just, fine(t)(p.Sign(a, just))) {
			t.Error("a text that is just not too long")
		}
	})
}

// P10.7

func TestSealedIsOpened(t *testing.T) {
	both(t, func(t *testing.T, p *prim.Prim) {
		keys := []string{p.Secret(draw('a')), p.Secret(draw('b'))}
		texts := []string{"", "x", "y", "xy", draw(0), strings.Repeat("z", 300)}
		type sealing struct{ key, nonce, ad, text, out string }
		var all []sealing
		for _, k := range keys {
			for _, nonce := range texts {
				for _, ad := range texts {
					s := sealing{k, nonce, ad, nonce + ad + "!", ""}
					s.out = fine(t)(p.Seal(s.key, s.nonce, s.ad, s.text))
					all = append(all, s)
				}
			}
		}
		for i, s := range all {
			if out, e := p.Open(s.key, s.nonce, s.ad, s.out); out != s.text || e != api.OK {
				t.Errorf("%d: %q %d", i, out, e)
			}
			for j, o := range all {
				if i != j {
					refused(t, api.ErrSeal)(p.Open(s.key, s.nonce, s.ad, o.out))
				}
			}
		}
	})
}

func TestBothSidesOfADh(t *testing.T) {
	both(t, func(t *testing.T, p *prim.Prim) {
		var secrets, publics []string
		for c := range byte(5) {
			secrets = append(secrets, p.Secret(draw(c*50+7)))
			publics = append(publics, fine(t)(p.Public(secrets[c])))
		}
		seen := map[string]int{}
		for i := range secrets {
			for j := range i + 1 {
				x, y := fine(t)(p.Dh(secrets[i], publics[j])), fine(t)(p.Dh(secrets[j], publics[i]))
				if x != y {
					t.Errorf("%d and %d: %x, %x", i, j, x, y)
				}
				seen[x]++
			}
		}
		if len(seen) != 15 {
			t.Errorf("others share the same: %v", seen)
		}
	})
}

func TestSignedIsVerified(t *testing.T) {
	both(t, func(t *testing.T, p *prim.Prim) {
		secrets := []string{p.Secret(draw('a')), p.Secret(draw('b'))}
		texts := []string{"", "x", "y", draw('a')}
		type signing struct{ public, text, sig string }
		var all []signing
		for _, a := range secrets {
			for _, s := range texts {
				all = append(all, signing{fine(t)(p.Signer(a)), s, fine(t)(p.Sign(a, s))})
			}
		}
		for i, s := range all {
			for j, o := range all {
				if p.Verify(s.public, s.text, o.sig) != (i == j) {
					t.Errorf("%d by %d", i, j)
				}
			}
			for j, sig := range []string{"", s.sig + "x", s.sig[1:], s.public, "x"} {
				if p.Verify(s.public, s.text, sig) {
					t.Errorf("%d: what is no signature, %d", i, j)
				}
			}
			for j, public := range []string{"", s.public + "x", s.public[1:], secrets[0], secrets[1], s.sig} {
				if p.Verify(public, s.text, s.sig) {
					t.Errorf("%d: what is no public key, %d", i, j)
				}
			}
		}
		if len(p.Journal()) != 16 {
			t.Errorf("%d deeds", len(p.Journal()))
		}
	})
}

// R5, R6

// What is handed in is kept by its content alone: it may be written over behind the call.
func TestKeptByContent(t *testing.T) {
	both(t, func(t *testing.T, p *prim.Prim) {
		room := []byte(draw('d') + "nonce" + "ad" + "text" + "info")
		piece := func(from, to int) string { return unsafe.String(&room[from], to-from) }
		key, nonce, ad, plain, info := piece(0, 32), piece(32, 37), piece(37, 39), piece(39, 43), piece(43, 47)
		secret := p.Secret(key)
		keys, e := p.Derive(key, nonce, info, 2)
		if e != api.OK || len(keys) != 2 {
			t.Fatal(e)
		}
		digest := p.Digest(key, ad)
		sealed := fine(t)(p.Seal(key, nonce, ad, plain))
		opened := fine(t)(p.Open(key, nonce, ad, sealed))
		sig := fine(t)(p.Sign(key, plain))
		public := fine(t)(p.Signer(key))
		if !p.Verify(public, plain, sig) {
			t.Fatal("Verify")
		}
		wantSecret, wantKeys, wantDigest := strings.Clone(secret), []string{strings.Clone(keys[0]), strings.Clone(keys[1])}, strings.Clone(digest)
		clear(room)
		want := []api.Deed{
			{Kind: api.DeedSeal, Key: draw('d'), Nonce: "nonce", Ad: "ad", Text: "text", Out: sealed},
			{Kind: api.DeedOpen, Key: draw('d'), Nonce: "nonce", Ad: "ad", Text: sealed, Out: "text"},
			{Kind: api.DeedSign, Key: public, Text: "text", Out: sig},
			{Kind: api.DeedVerify, Key: public, Text: "text", Ad: sig},
		}
		if got := p.Journal(); !reflect.DeepEqual(got, want) {
			t.Errorf("%v", got)
		}
		if secret != wantSecret || !slices.Equal(keys, wantKeys) || digest != wantDigest || opened != "text" {
			t.Error("an answer was written over")
		}
		if p.Digest(draw('d'), "ad") != digest || fine(t)(p.Open(draw('d'), "nonce", "ad", sealed)) != "text" {
			t.Error("what was made is another one now")
		}
	})
}

// What is answered shares its memory with nothing else.
func TestAnswersShareNothing(t *testing.T) {
	both(t, func(t *testing.T, p *prim.Prim) {
		a := p.Secret(draw('a'))
		sealed := fine(t)(p.Seal(a, "n", "ad", "text"))
		opened := fine(t)(p.Open(a, "n", "ad", sealed))
		sig := fine(t)(p.Sign(a, "text"))
		keys, _ := p.Derive(a, "", "", 3)
		answers := append([]string{a, sealed, opened, sig}, keys...)
		for _, l := range [][]api.Deed{p.Journal(), p.Journal(), p.Copy().Journal()} {
			for _, d := range l {
				answers = append(answers, d.Key, d.Nonce, d.Ad, d.Text, d.Out)
			}
		}
		type span struct{ from, to uintptr }
		var seen []span
		for i, s := range answers {
			if s == "" {
				continue
			}
			from := uintptr(unsafe.Pointer(unsafe.StringData(s)))
			now := span{from, from + uintptr(len(s))}
			for _, o := range seen {
				if now.from < o.to && o.from < now.to {
					t.Errorf("%d: %q", i, s)
				}
			}
			seen = append(seen, now)
		}
		if d := draw('z'); p.Kit() == api.KitReal && unsafe.StringData(p.Secret(d)) == unsafe.StringData(d) {
			t.Error("Secret answers what was handed in")
		}
	})
}

// A list of parts, and the room behind its end, is left as it is.
func TestPartsAreLeft(t *testing.T) {
	both(t, func(t *testing.T, p *prim.Prim) {
		list := []string{"a", "b", "behind", "the end"}
		x := p.Digest(list[:2]...)
		if !slices.Equal(list, []string{"a", "b", "behind", "the end"}) {
			t.Errorf("%q", list)
		}
		list[0] = "c"
		if p.Digest("a", "b") != x || p.Digest(list[:2]...) == x {
			t.Error("the list is kept")
		}
	})
}

func TestSameStepsSameAnswers(t *testing.T) {
	both(t, func(t *testing.T, p *prim.Prim) {
		steps := func(p *prim.Prim) look {
			a, b := p.Secret(draw('a')), p.Secret(draw('b'))
			shared := fine(t)(p.Dh(a, fine(t)(p.Public(b))))
			keys, _ := p.Derive(shared, p.Digest(a, b), "info", 5)
			for _, k := range keys {
				p.Open(k, "n", "", fine(t)(p.Seal(k, "n", "", "x")))
				p.Verify(fine(t)(p.Signer(a)), k, fine(t)(p.Sign(a, k)))
			}
			return looked(t, p)
		}
		if x, y := steps(p), steps(made(t, p.Kit())); !reflect.DeepEqual(x, y) {
			t.Error("the same steps, other answers")
		}
	})
}
