package prim_test

import (
	"fmt"
	"math/rand"
	"reflect"
	"slices"
	"strings"
	"testing"

	"missive/api"
	"missive/prim"
	"missive/term"
)

const (
	mostTerms = 1 << 16 // of a table
	mostPart  = 1 << 16 // bytes of a part
)

// filled makes a prim of terms with room for so many more; its first two are the secrets text(0) and text(1).
func filled(t *testing.T, room int) *prim.Prim {
	t.Helper()
	p := made(t, api.KitTerm)
	for range mostTerms - room {
		p.Secret("")
	}
	if p.Table().Len() != mostTerms-room {
		t.Fatalf("%d terms", p.Table().Len())
	}
	return p
}

// added tells what is new in the table.
func added(t *testing.T, p *prim.Prim, was int) []api.Term {
	t.Helper()
	return dump(t, p.Table())[was:]
}

// news looks whether these terms are new behind the call.
func news(t *testing.T, p *prim.Prim, call func(), want ...api.Term) {
	t.Helper()
	was := p.Table().Len()
	call()
	if got := added(t, p, was); len(got) != len(want) || len(got) > 0 && !reflect.DeepEqual(got, want) {
		t.Errorf("%v in the place of %v", got, want)
	}
}

// P10.2

func TestTermSecret(t *testing.T) {
	p := made(t, api.KitTerm)
	for n, s := range []string{"", draw('x'), draw('x'), "short", strings.Repeat("x", 1<<17), text(0)} {
		if out := p.Secret(s); out != text(n) {
			t.Errorf("%d: %x", n, out)
		}
	}
	for n, x := range dump(t, p.Table()) {
		if x.Kind != api.TermName || x.N != n {
			t.Errorf("%d: %v", n, x)
		}
	}
	p = filled(t, 1)
	if p.Secret("") != text(mostTerms-1) || p.Secret("") != "" || p.Table().Len() != mostTerms {
		t.Error("a secret more than there is room for")
	}
}

func TestTermCalls(t *testing.T) {
	p := made(t, api.KitTerm)
	a, b := p.Secret(""), p.Secret("")
	is := func(n int) func(string, api.Errno) {
		return func(s string, e api.Errno) {
			t.Helper()
			if s != text(n) || e != api.OK {
				t.Errorf("%x, %d in the place of the term %d", s, e, n)
			}
		}
	}
	for range 2 { // what is there already is told again
		is(2)(p.Public(a))
		is(2)(p.Signer(a))
		is(3)(p.Signer(b))
		is(3)(p.Public(b))
		is(4)(p.Dh(a, text(3)))
		is(4)(p.Dh(b, text(2)))
		is(5)(p.Dh(a, b))
		is(7)(p.Public("s"))
		is(8)(p.Dh("s", text(2)))
		if x := p.Digest(); x != text(9) {
			t.Errorf("Digest(): %x", x)
		}
		if x := p.Digest(a, "s", "", a); x != text(11) {
			t.Errorf("Digest: %x", x)
		}
	}
	want := []api.Term{
		{Kind: api.TermName}, {Kind: api.TermName, N: 1}, {Kind: api.TermPub, Parts: []int{0}}, {Kind: api.TermPub, Parts: []int{1}},
		{Kind: api.TermDh, Parts: []int{0, 1}}, {Kind: api.TermDh, N: 1, Parts: []int{0, 1}},
		{Kind: api.TermData, S: "s"}, {Kind: api.TermPub, Parts: []int{6}}, {Kind: api.TermDh, Parts: []int{0, 6}},
		{Kind: api.TermHash, S: "digest"}, {Kind: api.TermData}, {Kind: api.TermHash, S: "digest", Parts: []int{0, 6, 10, 0}},
	}
	if got := dump(t, p.Table()); !reflect.DeepEqual(got, want) {
		t.Errorf("%v", got)
	}
	if len(p.Journal()) != 0 {
		t.Error("deeds")
	}
}

// With terms keys have any lengths, up to that of a part.
func TestTermLengths(t *testing.T) {
	p := made(t, api.KitTerm)
	just, long := strings.Repeat("k", mostPart), strings.Repeat("k", mostPart+1)
	pub := fine(t)(p.Public(p.Secret("")))
	check := unchanged(t, p)
	no := refused(t, api.ErrLong)
	no(p.Public(long))
	no(p.Signer(long))
	no(p.Dh(long, pub))
	no(p.Dh(text(0), long))
	no(p.Seal(long, "", "", ""))
	no(p.Sign(long, "x"))
	for _, x := range [][2]string{{long, ""}, {"", long}} {
		if l, e := p.Derive(x[0], x[1], "", 2); len(l) != 0 || e != api.ErrLong {
			t.Errorf("Derive: %q %d", l, e)
		}
	}
	if p.Digest(long) != "" || p.Digest("", long) != "" || p.Digest(make([]string, 101)...) != "" {
		t.Error("Digest")
	}
	refused(t, api.ErrSeal)(p.Open(long, long, long, long))
	if p.Verify(long, long, long) {
		t.Error("Verify")
	}
	check()
	for _, k := range []string{"", "k", just} {
		fine(t)(p.Public(k))
		fine(t)(p.Dh(k, pub))
		s := fine(t)(p.Seal(k, "", "", "x"))
		if fine(t)(p.Open(k, "", "", s)) != "x" || !p.Verify(fine(t)(p.Signer(k)), "x", fine(t)(p.Sign(k, "x"))) {
			t.Errorf("a key of %d bytes", len(k))
		}
		if l, e := p.Derive(k, just, "", 1); len(l) != 1 || e != api.OK {
			t.Errorf("Derive: %d", e)
		}
	}
	if p.Digest(just) == "" || p.Digest(make([]string, 100)...) == "" {
		t.Error("Digest of what is just not too much")
	}
}

// P10.3

func TestTermDerive(t *testing.T) {
	p := made(t, api.KitTerm)
	a := p.Secret("")
	l, e := p.Derive(a, "salt", "info", 3)
	if e != api.OK || !slices.Equal(l, []string{text(2), text(3), text(4)}) {
		t.Fatalf("%q %d", l, e)
	}
	want := []api.Term{
		{Kind: api.TermName}, {Kind: api.TermData, S: "salt"},
		{Kind: api.TermHash, S: "info\x00", Parts: []int{0, 1}}, {Kind: api.TermHash, S: "info\x01", Parts: []int{0, 1}}, {Kind: api.TermHash, S: "info\x02", Parts: []int{0, 1}},
	}
	if got := dump(t, p.Table()); !reflect.DeepEqual(got, want) {
		t.Errorf("%v", got)
	}
	more, e := p.Derive(a, "salt", "info", 16)
	if e != api.OK || len(more) != 16 || !slices.Equal(more[:3], l) {
		t.Errorf("the first ones of more: %q %d", more, e)
	}
	if x, _ := p.Table().Of(more[15]); x.S != "info\x0f" {
		t.Errorf("the last one: %v", x)
	}
	seen := map[string]int{}
	for _, x := range [][3]string{{a, "salt", "info"}, {"salt", a, "info"}, {a, "", "info"}, {a, "salt", ""}, {"", "salt", "info"}, {a, "salt", "info\x00"}} {
		k, e := p.Derive(x[0], x[1], x[2], 2)
		if e != api.OK || len(k) != 2 {
			t.Fatal(e)
		}
		seen[k[0]]++
		seen[k[1]]++
	}
	if len(seen) != 12 || len(p.Journal()) != 0 {
		t.Errorf("%v", seen)
	}
}

// P10.4, P10.5

func TestTermSealAndOpen(t *testing.T) {
	p := made(t, api.KitTerm)
	a, b := p.Secret(""), p.Secret("")
	var s string
	news(t, p, func() { s = fine(t)(p.Seal(a, "n", "", b)) },
		api.Term{Kind: api.TermData, S: "n"}, api.Term{Kind: api.TermData}, api.Term{Kind: api.TermEnc, Parts: []int{0, 2, 3, 1}})
	if d, want := last(t, p), (api.Deed{Kind: api.DeedSeal, Key: a, Nonce: "n", Text: b, Out: s}); s != text(4) || d != want {
		t.Errorf("%x, %v", s, d)
	}
	news(t, p, func() {
		if out := fine(t)(p.Open(a, "n", "", s)); out != b {
			t.Errorf("%x", out)
		}
	})
	if d, want := last(t, p), (api.Deed{Kind: api.DeedOpen, Key: a, Nonce: "n", Text: s, Out: b}); d != want {
		t.Errorf("%v", d)
	}
	news(t, p, func() { // again: nothing new, but a deed
		if fine(t)(p.Seal(a, "n", "", b)) != s || len(p.Journal()) != 3 {
			t.Error("sealed again")
		}
	})
	around := "<" + b + ">"
	s = fine(t)(p.Seal(b, s, "ad", around))
	if fine(t)(p.Open(b, text(4), "ad", s)) != around {
		t.Error("bytes with a term within")
	}
	if out, e := p.Open(a, "", "ad", fine(t)(p.Seal(a, "", "ad", ""))); out != "" || e != api.OK {
		t.Errorf("no text: %q %d", out, e)
	}
}

func TestTermOpenRefused(t *testing.T) {
	p := made(t, api.KitTerm)
	a, b := p.Secret(""), p.Secret("")
	s := fine(t)(p.Seal(a, "n", "ad", "x"))
	other := fine(t)(p.Seal(b, "n", "ad", "x"))
	hash := p.Digest(a, "n", "ad", "x")
	sig := fine(t)(p.Sign(a, "x"))
	defer unchanged(t, p)()
	for _, sealed := range []string{"", "x", s[1:], s[:7], s + "x", "x" + s, s + s, other, hash, sig, a, b, text(2), text(4), text(p.Table().Len()), text(1<<32 - 1), strings.Repeat(s, 1000)} {
		refused(t, api.ErrSeal)(p.Open(a, "n", "ad", sealed))
	}
	for _, x := range [][3]string{{b, "n", "ad"}, {"", "n", "ad"}, {a + "x", "n", "ad"}, {"new", "n", "ad"}, {a, "", "ad"}, {a, "m", "ad"}, {a, "ad", "n"}, {a, "n", ""}, {a, "n", "n"}, {a, "n", "new"}, {a, "n", s}, {a, b, "ad"}, {text(1 << 20), "n", "ad"}} {
		refused(t, api.ErrSeal)(p.Open(x[0], x[1], x[2], s))
	}
}

// Texts are told apart by their terms: the text of data's term and these data are one.
func TestTermOpenByTerms(t *testing.T) {
	p := made(t, api.KitTerm)
	a := p.Secret("")
	s := fine(t)(p.Seal(a, "n", "ad", "x")) // "n", "ad" and "x" are 1, 2 and 3
	for _, x := range [][2]string{{"n", "ad"}, {text(1), "ad"}, {"n", text(2)}, {text(1), text(2)}} {
		if out, e := p.Open(a, x[0], x[1], s); out != "x" || e != api.OK {
			t.Errorf("%q: %q %d", x, out, e)
		}
	}
	if fine(t)(p.Seal(a, text(1), "ad", text(3))) != s {
		t.Error("sealed by the texts of data's terms")
	}
	refused(t, api.ErrSeal)(p.Open(a, text(2), text(1), s))
	refused(t, api.ErrSeal)(p.Open(a, text(3), "ad", s))
}

// Bytes that look as the text of a term which is not there yet are data till it is there.
func TestTermOpenOfWhatIsNotThereYet(t *testing.T) {
	p := made(t, api.KitTerm)
	a := p.Secret("")
	s := fine(t)(p.Seal(a, text(9), "", "x")) // the data are 1
	if out, e := p.Open(a, text(9), "", s); out != "x" || e != api.OK {
		t.Errorf("%q %d", out, e)
	}
	for p.Table().Len() < 10 {
		p.Secret("")
	}
	refused(t, api.ErrSeal)(p.Open(a, text(9), "", s))
	if out, e := p.Open(a, text(1), "", s); out != "x" || e != api.OK {
		t.Errorf("%q %d", out, e)
	}
	// Data whose own text they are.
	n := p.Table().Len()
	s = fine(t)(p.Seal(a, text(n), "", text(n)))
	if out, e := p.Open(a, text(n), "", s); out != text(n) || e != api.OK {
		t.Errorf("%q %d", out, e)
	}
}

// P10.6

func TestTermSignAndVerify(t *testing.T) {
	p := made(t, api.KitTerm)
	a, b := p.Secret(""), p.Secret("")
	var s string
	news(t, p, func() { s = fine(t)(p.Sign(a, "x")) },
		api.Term{Kind: api.TermPub, Parts: []int{0}}, api.Term{Kind: api.TermData, S: "x"}, api.Term{Kind: api.TermSig, Parts: []int{0, 3}})
	if d, want := last(t, p), (api.Deed{Kind: api.DeedSign, Key: text(2), Text: "x", Out: s}); s != text(4) || d != want {
		t.Errorf("%x, %v", s, d)
	}
	news(t, p, func() {
		if !p.Verify(text(2), "x", s) {
			t.Error("not verified")
		}
	})
	if d, want := last(t, p), (api.Deed{Kind: api.DeedVerify, Key: text(2), Text: "x", Ad: s}); d != want {
		t.Errorf("%v", d)
	}
	news(t, p, func() {
		if fine(t)(p.Signer(a)) != text(2) || fine(t)(p.Sign(a, "x")) != s {
			t.Error("signed again")
		}
	})
	pb := fine(t)(p.Signer(b))
	other := fine(t)(p.Sign(b, "x"))
	y := fine(t)(p.Sign(a, b))
	enc := fine(t)(p.Seal(a, "x", "x", "x"))
	digest := p.Digest(a, "x")
	defer unchanged(t, p)()
	for _, x := range [][3]string{
		{pb, "x", s}, {a, "x", s}, {b, "x", s}, {s, "x", s}, {"", "x", s}, {"x", "x", s}, {text(2) + "x", "x", s}, {text(2)[1:], "x", s}, {text(99), "x", s}, {enc, "x", s},
		{text(2), "", s}, {text(2), "new", s}, {text(2), a, s}, {text(2), b, s}, {text(2), "x ", s}, {text(2), text(99), s}, {text(2), "x", y},
		{text(2), "x", other}, {text(2), "x", ""}, {text(2), "x", "x"}, {text(2), "x", s + "x"}, {text(2), "x", s[1:]}, {text(2), "x", text(99)}, {text(2), "x", enc}, {text(2), "x", a}, {text(2), "x", text(2)}, {text(2), "x", digest},
	} {
		if p.Verify(x[0], x[1], x[2]) {
			t.Errorf("%q", x)
		}
	}
}

// Texts are told apart by their terms here, too.
func TestTermVerifyByTerms(t *testing.T) {
	p := made(t, api.KitTerm)
	s := fine(t)(p.Sign(p.Secret(""), "x")) // "x" is 2
	if !p.Verify(text(1), "x", s) || !p.Verify(text(1), text(2), s) || p.Verify(text(1), text(0), s) {
		t.Error("Verify")
	}
	k := made(t, api.KitTerm)
	a := k.Secret("")
	s = fine(t)(k.Sign(a, text(9)))
	if !k.Verify(fine(t)(k.Signer(a)), text(9), s) {
		t.Error("bytes that look as a term's text")
	}
	for k.Table().Len() < 10 {
		k.Secret("")
	}
	if k.Verify(fine(t)(k.Signer(a)), text(9), s) {
		t.Error("they are another term by now")
	}
}

// Without room the first error of Make is answered, and what was made ahead of it stays.
func TestTermWithoutRoom(t *testing.T) {
	full := filled(t, 0)
	a, b := text(0), text(1)
	check := unchanged(t, full)
	no := refused(t, api.ErrFull)
	no(full.Public(a))
	no(full.Signer(a))
	no(full.Dh(a, b))
	no(full.Seal(a, b, a, b))
	no(full.Sign(a, b))
	if l, e := full.Derive(a, b, "", 1); len(l) != 0 || e != api.ErrFull {
		t.Errorf("Derive: %q %d", l, e)
	}
	if full.Digest() != "" || full.Digest("new") != "" || full.Secret("") != "" {
		t.Error("a text alone")
	}
	check()

	p := filled(t, 3)
	c := p.Copy()
	news(t, c, func() {
		if l, e := c.Derive(a, b, "i", 4); len(l) != 0 || e != api.ErrFull {
			t.Errorf("Derive: %q %d", l, e)
		}
	}, api.Term{Kind: api.TermHash, S: "i\x00", Parts: []int{0, 1}}, api.Term{Kind: api.TermHash, S: "i\x01", Parts: []int{0, 1}}, api.Term{Kind: api.TermHash, S: "i\x02", Parts: []int{0, 1}})
	if l, e := c.Derive(a, b, "i", 3); len(l) != 3 || e != api.OK {
		t.Errorf("what is there is derived: %q %d", l, e)
	}
	c = p.Copy()
	news(t, c, func() { no(c.Seal(a, "x", "y", "z")) })
	news(t, c, func() { no(c.Sign("new", "other")) }, api.Term{Kind: api.TermData, S: "new"}, api.Term{Kind: api.TermPub, Parts: []int{mostTerms - 3}})
	if len(c.Journal()) != 0 {
		t.Errorf("deeds of what failed: %v", c.Journal())
	}
	c = p.Copy()
	s := fine(t)(c.Sign(a, "x"))
	no(c.Sign(a, "y"))
	if !c.Verify(fine(t)(c.Signer(a)), "x", s) || fine(t)(c.Sign(a, "x")) != s || !slices.Equal(kindsOf(c.Journal()), []int{api.DeedSign, api.DeedVerify, api.DeedSign}) {
		t.Errorf("what is there needs no room: %v", c.Journal())
	}
}

// told is a prim of terms in the document's own words, over a table.
type told struct {
	table   *term.Table
	journal []api.Deed
}

// has tells whether a text has the term of that number; a copy is asked, that nothing may be put.
func (m *told) has(s string, n int) bool { return m.table.Copy().Data(s) == text(n) }

func (m *told) part(n int) string {
	if x, _ := m.table.Of(text(n)); x.Kind == api.TermData {
		return x.S
	}
	return text(n)
}

func (m *told) open(key, nonce, ad, sealed string) (string, api.Errno) {
	x, ok := m.table.Of(sealed)
	if !ok || x.Kind != api.TermEnc || !m.has(key, x.Parts[0]) || !m.has(nonce, x.Parts[1]) || !m.has(ad, x.Parts[2]) {
		return "", api.ErrSeal
	}
	out := m.part(x.Parts[3])
	m.journal = append(m.journal, api.Deed{Kind: api.DeedOpen, Key: key, Nonce: nonce, Ad: ad, Text: sealed, Out: out})
	return out, api.OK
}

func (m *told) verify(public, s, sig string) bool {
	x, isPub := m.table.Of(public)
	y, isSig := m.table.Of(sig)
	if !isPub || !isSig || x.Kind != api.TermPub || y.Kind != api.TermSig || x.Parts[0] != y.Parts[0] || !m.has(s, y.Parts[1]) {
		return false
	}
	m.journal = append(m.journal, api.Deed{Kind: api.DeedVerify, Key: public, Text: s, Ad: sig})
	return true
}

func (m *told) seal(key, nonce, ad, s string) (string, api.Errno) {
	out, e := m.table.Make(api.TermEnc, "", key, nonce, ad, s)
	if e == api.OK {
		m.journal = append(m.journal, api.Deed{Kind: api.DeedSeal, Key: key, Nonce: nonce, Ad: ad, Text: s, Out: out})
	}
	return out, e
}

func (m *told) sign(secret, s string) (string, api.Errno) {
	public, _ := m.table.Make(api.TermPub, "", secret)
	out, e := m.table.Make(api.TermSig, "", secret, s)
	if e == api.OK {
		m.journal = append(m.journal, api.Deed{Kind: api.DeedSign, Key: public, Text: s, Out: out})
	}
	return out, e
}

func (m *told) derive(secret, salt, info string, n int) string {
	out := ""
	for i := range n {
		k, _ := m.table.Make(api.TermHash, info+string([]byte{byte(i)}), secret, salt)
		out += k
	}
	return out
}

// step does something of both, with texts that are picked, and tells both answers.
func step(kind int, p *prim.Prim, m *told, pick func() string) (string, string) {
	a, b, c, d := pick(), pick(), pick(), pick()
	pair := func(s string, e api.Errno) string { return fmt.Sprintf("%q %d", s, e) }
	switch kind {
	case 0:
		return p.Secret(a), m.table.Fresh()
	case 1:
		return pair(p.Public(a)), pair(m.table.Make(api.TermPub, "", a))
	case 2:
		return pair(p.Dh(a, b)), pair(m.table.Make(api.TermDh, "", a, b))
	case 3:
		n := 1 + len(c)%3
		l, _ := p.Derive(a, b, c, n)
		return strings.Join(l, ""), m.derive(a, b, c, n)
	case 4:
		return pair(p.Signer(a)), pair(m.table.Make(api.TermPub, "", a))
	case 5:
		out, _ := m.table.Make(api.TermHash, "digest", a, b, c)
		return p.Digest(a, b, c), out
	case 6, 7:
		return pair(p.Seal(a, b, c, d)), pair(m.seal(a, b, c, d))
	case 8, 9:
		return pair(p.Open(a, b, c, d)), pair(m.open(a, b, c, d))
	case 10:
		return pair(p.Sign(a, b)), pair(m.sign(a, b))
	}
	return fmt.Sprint(p.Verify(a, b, c)), fmt.Sprint(m.verify(a, b, c))
}

// Whatever is done one behind the other, with texts of terms that are there and that are not: it is as the document says.
func TestTermStepByStep(t *testing.T) {
	opened, verified := 0, 0
	for seed := range int64(200) {
		r := rand.New(rand.NewSource(seed))
		p, m := made(t, api.KitTerm), &told{table: term.New()}
		pick := func() string {
			if r.Intn(3) == 0 {
				return []string{"", "x", "y"}[r.Intn(3)]
			}
			return text(r.Intn(m.table.Len() + 2))
		}
		again := func() (a, b, c, d string) { // as something was sealed or signed
			if len(m.journal) == 0 {
				return pick(), pick(), pick(), pick()
			}
			x := m.journal[r.Intn(len(m.journal))]
			return x.Key, x.Nonce, x.Ad, x.Out
		}
		for range 60 {
			got, want := step(r.Intn(12), p, m, pick)
			if got != want {
				t.Fatalf("seed %d: %s in the place of %s", seed, got, want)
			}
			a, b, c, d := again()
			x, e := p.Open(a, b, c, d)
			if y, f := m.open(a, b, c, d); x != y || e != f {
				t.Fatalf("seed %d: Open: %q %d, not %q %d", seed, x, e, y, f)
			}
			if len(m.journal) > 0 {
				x := m.journal[r.Intn(len(m.journal))]
				if got, want := p.Verify(x.Key, x.Text, x.Out), m.verify(x.Key, x.Text, x.Out); got != want {
					t.Fatalf("seed %d: Verify: %v", seed, got)
				}
			}
			if !reflect.DeepEqual(dump(t, p.Table()), dump(t, m.table)) || !reflect.DeepEqual(append([]api.Deed{}, p.Journal()...), append([]api.Deed{}, m.journal...)) {
				t.Fatalf("seed %d: another table or journal", seed)
			}
		}
		for _, d := range m.journal {
			if d.Kind == api.DeedOpen {
				opened++
			}
			if d.Kind == api.DeedVerify {
				verified++
			}
		}
	}
	if opened < 500 || verified < 500 {
		t.Errorf("too little was looked at: %d opened, %d verified", opened, verified)
	}
}

// P10.7, P10.8: texts that are handed in are what came out, or plain ones: then nothing is opened that was not sealed so, and nothing held for signed that was not signed.
func TestTermNothingElse(t *testing.T) {
	opened, verified := 0, 0
	for seed := range int64(60) {
		r := rand.New(rand.NewSource(1000 + seed))
		p := made(t, api.KitTerm)
		texts := []string{"", "x", "y"}
		put := func(s string, e api.Errno) {
			if e == api.OK && !slices.Contains(texts, s) {
				texts = append(texts, s)
			}
		}
		pick := func() string { return texts[r.Intn(len(texts))] }
		for range 60 {
			switch r.Intn(8) {
			case 0:
				put(p.Secret(""), api.OK)
			case 1:
				put(p.Public(pick()))
			case 2:
				put(p.Dh(pick(), pick()))
			case 3, 4, 5:
				put(p.Seal(pick(), pick(), pick(), pick()))
			default:
				put(p.Sign(pick(), pick()))
			}
		}
		made := p.Journal()
		for range 3000 {
			a, b, c, d := pick(), pick(), pick(), pick()
			if x := made[r.Intn(len(made))]; r.Intn(2) == 0 { // near to what was done
				a, b, c, d = x.Key, x.Nonce, x.Ad, x.Out
				*[]*string{&a, &b, &c, &d, new(string)}[r.Intn(5)] = pick()
			}
			out, e := p.Open(a, b, c, d)
			at := slices.IndexFunc(made, func(x api.Deed) bool {
				return x.Kind == api.DeedSeal && x.Key == a && x.Nonce == b && x.Ad == c && x.Out == d
			})
			switch {
			case at < 0:
				refused(t, api.ErrSeal)(out, e)
			case out != made[at].Text || e != api.OK:
				t.Fatalf("seed %d: %q %d", seed, out, e)
			default:
				opened++
			}
			x := made[r.Intn(len(made))]
			a, b, c = x.Key, x.Text, x.Out
			*[]*string{&a, &b, &c, new(string)}[r.Intn(4)] = pick()
			is := slices.ContainsFunc(made, func(x api.Deed) bool {
				return x.Kind == api.DeedSign && x.Key == a && x.Text == b && x.Out == c
			})
			if p.Verify(a, b, c) != is {
				t.Fatalf("seed %d: Verify is not %v", seed, is)
			}
			if is {
				verified++
			}
		}
		forged(t, p.Journal())
	}
	if opened < 1000 || verified < 1000 {
		t.Errorf("too little was looked at: %d opened, %d verified", opened, verified)
	}
}

// forged looks for a deed that opens or verifies what nobody sealed or signed ahead of it.
func forged(t *testing.T, l []api.Deed) {
	t.Helper()
	type sealing struct{ kind, key, nonce, ad, out string }
	seen := map[sealing]int{}
	for i, d := range l {
		asked := sealing{}
		switch d.Kind {
		case api.DeedSeal:
			seen[sealing{"seal", d.Key, d.Nonce, d.Ad, d.Out}]++
			continue
		case api.DeedSign:
			seen[sealing{"sign", d.Key, d.Text, "", d.Out}]++
			continue
		case api.DeedOpen:
			asked = sealing{"seal", d.Key, d.Nonce, d.Ad, d.Text}
		case api.DeedVerify:
			asked = sealing{"sign", d.Key, d.Text, "", d.Ad}
		}
		if seen[asked] == 0 {
			t.Errorf("the deed %d has none ahead of it: %v", i, d)
		}
	}
}

// Of two prims of terms each has its own.
func TestTermPrimsAreApart(t *testing.T) {
	p, q := made(t, api.KitTerm), made(t, api.KitTerm)
	a := p.Secret("")
	s := fine(t)(p.Seal(a, "n", "", "x"))
	sig := fine(t)(p.Sign(a, "x"))
	q.Secret("")
	defer unchanged(t, q)()
	refused(t, api.ErrSeal)(q.Open(a, "n", "", s))
	if q.Verify(fine(t)(p.Signer(a)), "x", sig) {
		t.Error("Verify")
	}
}
