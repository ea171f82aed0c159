package term_test

import (
	"encoding/binary"
	"math/rand"
	"reflect"
	"slices"
	"strings"
	"testing"
	"unsafe"

	"missive/api"
	"missive/term"
)

const most = 1 << 16 // terms of a table, bytes of a label and of a part

// text tells a term's text, as the document has it.
func text(n int) string {
	return "\xf0TRM" + string(binary.BigEndian.AppendUint32(nil, uint32(n)))
}

// plain tells a term without parts as one with none of them, whatever its list is.
func plain(x api.Term) api.Term {
	if len(x.Parts) == 0 {
		x.Parts = nil
	}
	return x
}

// told is a table in the document's own words: a list that is gone through.
type told struct{ terms []api.Term }

func (m *told) of(s string) int {
	for n := range m.terms {
		if text(n) == s {
			return n
		}
	}
	return -1
}

func (m *told) find(x api.Term) int {
	return slices.IndexFunc(m.terms, func(y api.Term) bool { return reflect.DeepEqual(plain(x), plain(y)) })
}

func (m *told) put(x api.Term) int {
	if n := m.find(x); n >= 0 {
		return n
	}
	m.terms = append(m.terms, x)
	return len(m.terms) - 1
}

func (m *told) fresh() int {
	names := 0
	for _, x := range m.terms {
		if x.Kind == api.TermName {
			names++
		}
	}
	return m.put(api.Term{Kind: api.TermName, N: names})
}

func (m *told) data(s string) int {
	if n := m.of(s); n >= 0 {
		return n
	}
	return m.put(api.Term{Kind: api.TermData, S: s})
}

func (m *told) make(kind int, label string, parts ...string) int {
	x := api.Term{Kind: kind, S: label}
	for _, s := range parts {
		x.Parts = append(x.Parts, m.data(s))
	}
	if kind == api.TermDh {
		x.N = 1
		if y := m.terms[x.Parts[1]]; y.Kind == api.TermPub {
			x.N, x.Parts[1] = 0, y.Parts[0]
			slices.Sort(x.Parts)
		}
	}
	return m.put(x)
}

func (m *told) within(s string) []int {
	var out []int
	for n := range m.terms {
		if strings.Contains(s, text(n)) {
			out = append(out, n)
		}
	}
	return out
}

// known goes through all that the document says, again and again.
func (m *told) known(seen []string) []bool {
	has := make([]bool, len(m.terms))
	all := func(l []int) bool { return !slices.ContainsFunc(l, func(n int) bool { return !has[n] }) }
	for _, s := range seen {
		for _, n := range m.within(s) {
			has[n] = true
		}
	}
	half := func(a, b int) bool {
		public := m.find(api.Term{Kind: api.TermPub, Parts: []int{b}})
		return has[a] && (has[b] || public >= 0 && has[public])
	}
	for range len(m.terms) + 1 {
		was := slices.Clone(has)
		for n, x := range m.terms {
			var gives []int
			switch x.Kind {
			case api.TermName:
			case api.TermData:
				has[n] = has[n] || all(m.within(x.S))
				gives = m.within(x.S)
			case api.TermDh:
				has[n] = has[n] || x.N == 1 && all(x.Parts) || x.N == 0 && (half(x.Parts[0], x.Parts[1]) || half(x.Parts[1], x.Parts[0]))
			default:
				has[n] = has[n] || all(x.Parts)
				if x.Kind == api.TermSig {
					gives = x.Parts[1:]
				}
				if x.Kind == api.TermEnc && has[x.Parts[0]] {
					gives = x.Parts[3:]
				}
			}
			for _, g := range gives {
				has[g] = has[g] || has[n]
			}
		}
		if slices.Equal(was, has) {
			return has
		}
	}
	panic("more rounds than terms")
}

// must makes a term that may be.
func must(t *testing.T, tab *term.Table, kind int, label string, parts ...string) string {
	t.Helper()
	s, e := tab.Make(kind, label, parts...)
	if e != api.OK {
		t.Fatalf("Make(%d, %q, %q): %d", kind, label, parts, e)
	}
	return s
}

// dump tells all terms of a table.
func dump(t *testing.T, tab *term.Table) []api.Term {
	t.Helper()
	out := make([]api.Term, 0, tab.Len())
	for n := range tab.Len() {
		x, ok := tab.Of(text(n))
		if !ok {
			t.Fatalf("there is no term %d of %d", n, tab.Len())
		}
		out = append(out, plain(x))
	}
	return out
}

// filled makes a table with room for so many more, and with 2 names, their public keys, the data "x" and "", and a digest among its terms.
func filled(t *testing.T, room int) *term.Table {
	t.Helper()
	tab := term.New()
	a, b := tab.Fresh(), tab.Fresh()
	must(t, tab, api.TermPub, "", a)
	must(t, tab, api.TermPub, "", b)
	must(t, tab, api.TermHash, "k", "x", "")
	for range most - room - tab.Len() {
		tab.Fresh()
	}
	return tab
}

// holds tells what is known, by numbers.
func holds(known []bool) []int {
	var out []int
	for n, is := range known {
		if is {
			out = append(out, n)
		}
	}
	return out
}

func TestExamples(t *testing.T) {
	tab := term.New()
	if a, b := tab.Fresh(), tab.Fresh(); a != text(0) || b != text(1) || tab.Len() != 2 {
		t.Errorf("Fresh: %x %x, %d", a, b, tab.Len())
	}
	if p, q := must(t, tab, api.TermPub, "", text(0)), must(t, tab, api.TermPub, "", text(1)); p != text(2) || q != text(3) {
		t.Errorf("TermPub: %x %x", p, q)
	}
	if x, y := must(t, tab, api.TermDh, "", text(0), text(3)), must(t, tab, api.TermDh, "", text(1), text(2)); x != text(4) || y != text(4) {
		t.Errorf("TermDh: %x %x", x, y)
	}
	if x, ok := tab.Of(text(4)); !ok || !reflect.DeepEqual(x, api.Term{Kind: api.TermDh, Parts: []int{0, 1}}) {
		t.Errorf("Of: %v %v", x, ok)
	}
	if x := must(t, tab, api.TermHash, "k", text(4)); x != text(5) {
		t.Errorf("TermHash: %x", x)
	}
	inner := "<" + text(0) + ">"
	if x := must(t, tab, api.TermEnc, "", text(5), "n", "", inner); x != text(9) || tab.Data("n") != text(6) || tab.Data("") != text(7) || tab.Data(inner) != text(8) || tab.Len() != 10 {
		t.Errorf("TermEnc: %x, %d", x, tab.Len())
	}
	if l := holds(tab.Known(nil)); !slices.Equal(l, []int{6, 7}) {
		t.Errorf("Known(none): %v", l)
	}
	if l := holds(tab.Known([]string{text(0), text(3)})); !slices.Contains(l, 4) || !slices.Contains(l, 5) {
		t.Errorf("Known: %v", l)
	}
	for _, s := range [][]string{{"\x01", ""}, {"\x03", "x", text(0)}, {"\x03", ""}} {
		if x, e := tab.Make(int(s[0][0]), s[1], s[2:]...); x != "" || e != api.ErrArg {
			t.Errorf("Make(%q): %x %d", s, x, e)
		}
	}
}

// P9.1

func TestNewIsEmpty(t *testing.T) {
	tab := term.New()
	if tab.Len() != 0 || len(tab.Known(nil)) != 0 || len(tab.Known([]string{text(0)})) != 0 || len(tab.Within(text(0))) != 0 {
		t.Error("terms of none")
	}
	if _, ok := tab.Of(text(0)); ok {
		t.Error("a term of none")
	}
	other := term.New()
	other.Fresh()
	if tab.Len() != 0 || other.Len() != 1 {
		t.Error("two tables hang together")
	}
}

func TestFreshNames(t *testing.T) {
	tab := term.New()
	tab.Data("a")
	for n := range 300 {
		tab.Data("a")
		if s := tab.Fresh(); s != text(n+1) {
			t.Fatalf("the name %d: %x", n, s)
		}
		x, ok := tab.Of(text(n + 1))
		if !ok || !reflect.DeepEqual(plain(x), api.Term{Kind: api.TermName, N: n}) {
			t.Fatalf("the name %d: %v %v", n, x, ok)
		}
	}
}

func TestDataOnce(t *testing.T) {
	tab := term.New()
	name := tab.Fresh()
	for n, s := range []string{"", "x", "xx", "\x00", name[:7], name + "x", "x" + name, strings.Repeat("y", most+1)} {
		if got := tab.Data(s); got != text(n+1) || tab.Data(s) != got || tab.Len() != n+2 {
			t.Errorf("Data(%.20q): %x, %d terms", s, got, tab.Len())
		}
		if x, ok := tab.Of(text(n + 1)); !ok || !reflect.DeepEqual(plain(x), api.Term{Kind: api.TermData, S: s}) {
			t.Errorf("Of: %.20v %v", x, ok)
		}
	}
	if tab.Data(name) != name || tab.Data(text(3)) != text(3) || tab.Len() != 9 {
		t.Error("a term's text is that term")
	}
}

// Bytes that look as the text of a term which is not there yet are data, till it is there.
func TestDataAheadOfTheTerm(t *testing.T) {
	tab := term.New()
	if s := tab.Data(text(2)); s != text(0) {
		t.Errorf("no term yet: %x", s)
	}
	tab.Fresh()
	if s := tab.Data(text(2)); s != text(0) {
		t.Errorf("still no term: %x", s)
	}
	tab.Fresh()
	if s := tab.Data(text(2)); s != text(2) {
		t.Errorf("now it is one: %x", s)
	}
	if x, ok := tab.Of(text(0)); !ok || x.S != text(2) || x.Kind != api.TermData {
		t.Errorf("the data stay: %v", x)
	}
	if s := tab.Data(text(3)); s != text(3) || tab.Data(text(3)) != text(3) || tab.Len() != 4 {
		t.Errorf("data whose own text they are: %x", s)
	}
}

func TestFullTable(t *testing.T) {
	tab := filled(t, 1)
	if s := tab.Data("y"); s != text(most-1) || tab.Len() != most {
		t.Fatalf("the last one: %x", s)
	}
	if tab.Fresh() != "" || tab.Data("z") != "" || tab.Data(text(most)) != "" || tab.Len() != most {
		t.Error("more than the last one")
	}
	if tab.Data("y") != text(most-1) || tab.Data("") != text(5) || tab.Data(text(7)) != text(7) {
		t.Error("what is there needs no room")
	}
	tab = filled(t, 1)
	if s := tab.Fresh(); s != text(most-1) || tab.Fresh() != "" || tab.Len() != most {
		t.Errorf("the last name: %x", s)
	}
}

func TestCopyGoesItsOwnWay(t *testing.T) {
	tab := term.New()
	a := tab.Fresh()
	must(t, tab, api.TermHash, "k", a, "x")
	was := dump(t, tab)
	c := tab.Copy()
	if !reflect.DeepEqual(dump(t, c), was) {
		t.Fatal("a copy is as the table was")
	}
	if c.Data("y") != text(3) || tab.Data("z") != text(3) || must(t, c, api.TermPub, "", a) != text(4) || tab.Fresh() != text(4) || c.Fresh() != text(5) {
		t.Error("what is new")
	}
	x, _ := c.Of(text(3))
	y, _ := tab.Of(text(3))
	if x.S != "y" || y.S != "z" {
		t.Errorf("what is new: %v and %v", x, y)
	}
	if x, ok := c.Of(text(5)); !ok || x.N != 1 {
		t.Errorf("names are counted on: %v", x)
	}
	if tab.Data("y") != text(5) || c.Data("z") != text(6) || must(t, tab, api.TermPub, "", a) != text(6) {
		t.Error("neither has what the other one got")
	}
	if must(t, c, api.TermHash, "k", a, "x") != text(2) || must(t, tab, api.TermHash, "k", a, "x") != text(2) {
		t.Error("both have what was there")
	}
	if !reflect.DeepEqual(dump(t, tab)[:3], was) || !reflect.DeepEqual(dump(t, c)[:3], was) {
		t.Error("what was there is as it was")
	}
}

// P9.2

func TestMakeEachKind(t *testing.T) {
	tab := term.New()
	a, b := tab.Fresh(), tab.Fresh()
	p := must(t, tab, api.TermPub, "", a)
	for i, x := range []struct {
		kind  int
		label string
		parts []string
		want  []api.Term // what is new
	}{
		{api.TermPub, "", []string{b}, []api.Term{{Kind: api.TermPub, Parts: []int{1}}}},
		{api.TermPub, "", []string{"s"}, []api.Term{{Kind: api.TermData, S: "s"}, {Kind: api.TermPub, Parts: []int{4}}}},
		{api.TermPub, "", []string{p}, []api.Term{{Kind: api.TermPub, Parts: []int{2}}}},
		{api.TermDh, "", []string{b, p}, []api.Term{{Kind: api.TermDh, Parts: []int{0, 1}}}},
		{api.TermDh, "", []string{a, text(3)}, nil},
		{api.TermDh, "", []string{"s", p}, []api.Term{{Kind: api.TermDh, Parts: []int{0, 4}}}},
		{api.TermDh, "", []string{a, text(5)}, nil},
		{api.TermDh, "", []string{a, p}, []api.Term{{Kind: api.TermDh, Parts: []int{0, 0}}}},
		{api.TermDh, "", []string{p, text(6)}, []api.Term{{Kind: api.TermDh, Parts: []int{2, 2}}}},
		{api.TermDh, "", []string{a, b}, []api.Term{{Kind: api.TermDh, N: 1, Parts: []int{0, 1}}}},
		{api.TermDh, "", []string{b, a}, []api.Term{{Kind: api.TermDh, N: 1, Parts: []int{1, 0}}}},
		{api.TermDh, "", []string{p, a}, []api.Term{{Kind: api.TermDh, N: 1, Parts: []int{2, 0}}}},
		{api.TermDh, "", []string{a, "s"}, []api.Term{{Kind: api.TermDh, N: 1, Parts: []int{0, 4}}}},
		{api.TermDh, "", []string{a, text(7)}, []api.Term{{Kind: api.TermDh, N: 1, Parts: []int{0, 7}}}},
		{api.TermHash, "", nil, []api.Term{{Kind: api.TermHash}}},
		{api.TermHash, "k", nil, []api.Term{{Kind: api.TermHash, S: "k"}}},
		{api.TermHash, "k", []string{a, "s", a}, []api.Term{{Kind: api.TermHash, S: "k", Parts: []int{0, 4, 0}}}},
		{api.TermHash, text(0), []string{"t", "", "t"}, []api.Term{{Kind: api.TermData, S: "t"}, {Kind: api.TermData}, {Kind: api.TermHash, S: text(0), Parts: []int{19, 20, 19}}}},
		{api.TermEnc, "", []string{a, "n", "", "x"}, []api.Term{{Kind: api.TermData, S: "n"}, {Kind: api.TermData, S: "x"}, {Kind: api.TermEnc, Parts: []int{0, 22, 20, 23}}}},
		{api.TermSig, "", []string{a, "x"}, []api.Term{{Kind: api.TermSig, Parts: []int{0, 23}}}},
		{api.TermSig, "", []string{"x", a}, []api.Term{{Kind: api.TermSig, Parts: []int{23, 0}}}},
	} {
		was := tab.Len()
		s := must(t, tab, x.kind, x.label, x.parts...)
		if got := dump(t, tab)[was:]; len(got) != len(x.want) || len(got) > 0 && !reflect.DeepEqual(got, x.want) {
			t.Errorf("%d: %v, not %v", i, got, x.want)
		}
		if len(x.want) > 0 && s != text(tab.Len()-1) {
			t.Errorf("%d: %x", i, s)
		}
		if again := must(t, tab, x.kind, x.label, x.parts...); again != s || tab.Len() != was+len(x.want) {
			t.Errorf("%d again: %x, %d terms", i, again, tab.Len())
		}
	}
}

// Nothing that differs in its kind, number, label or parts is the same term.
func TestMakeApart(t *testing.T) {
	tab := term.New()
	a, b := tab.Fresh(), tab.Fresh()
	p := must(t, tab, api.TermPub, "", a)
	seen := map[string]int{a: 0, b: 0, p: 0}
	for i, s := range []string{
		must(t, tab, api.TermPub, "", b), must(t, tab, api.TermHash, "", a), must(t, tab, api.TermHash, "", b),
		must(t, tab, api.TermHash, "", a, b), must(t, tab, api.TermHash, "", b, a), must(t, tab, api.TermHash, "", a, a), must(t, tab, api.TermHash, ""),
		must(t, tab, api.TermHash, "k", a, b), must(t, tab, api.TermHash, "l", a, b), must(t, tab, api.TermHash, "k", a, b, ""), must(t, tab, api.TermHash, "k\x00", a, b),
		must(t, tab, api.TermHash, "\x00\x00\x00\x00", b), must(t, tab, api.TermHash, "", a+b), must(t, tab, api.TermHash, a, b),
		must(t, tab, api.TermSig, "", a, b), must(t, tab, api.TermSig, "", b, a), must(t, tab, api.TermDh, "", a, b), must(t, tab, api.TermDh, "", b, p),
		must(t, tab, api.TermEnc, "", a, b, a, a), must(t, tab, api.TermEnc, "", a, a, b, a), must(t, tab, api.TermHash, "", a, b, a, a), tab.Data("k"), tab.Data(""), tab.Fresh(),
	} {
		if _, ok := seen[s]; ok {
			t.Errorf("%d is there already: %x", i, s)
		}
		seen[s] = i
	}
}

// The terms of the parts are put one behind the other: a later part may be the text of what an earlier one put.
func TestMakeOneBehindTheOther(t *testing.T) {
	tab := term.New()
	s := must(t, tab, api.TermHash, "", "x", text(0), text(1), "x", text(1), text(9))
	want := []api.Term{{Kind: api.TermData, S: "x"}, {Kind: api.TermData, S: text(1)}, {Kind: api.TermData, S: text(9)}, {Kind: api.TermHash, Parts: []int{0, 0, 1, 0, 1, 2}}}
	if got := dump(t, tab); s != text(3) || !reflect.DeepEqual(got, want) {
		t.Errorf("%x: %v", s, got)
	}
	if s := must(t, tab, api.TermPub, "", text(4)); s != text(5) {
		t.Errorf("a part that looks as what would be made: %x", s)
	}
}

func TestMakeRefused(t *testing.T) {
	tab := term.New()
	a := tab.Fresh()
	long, just := strings.Repeat("x", most+1), strings.Repeat("x", most)
	parts := func(n int) []string { return slices.Repeat([]string{a}, n) }
	counts := map[int]int{api.TermPub: 1, api.TermDh: 2, api.TermEnc: 4, api.TermSig: 2}
	for _, kind := range []int{-1 << 63, -1, 0, api.TermName, api.TermData, api.TermPub, api.TermDh, api.TermHash, api.TermEnc, api.TermSig, 8, 1 << 32, 1<<63 - 1} {
		for n := range 103 {
			for _, label := range []string{"", "k", long} {
				want := api.OK
				switch {
				case kind == api.TermHash && n <= 100 && label == long:
					want = api.ErrLong
				case kind == api.TermHash && n <= 100:
				case counts[kind] == 0 || counts[kind] != n || label != "":
					want = api.ErrArg
				}
				c := tab.Copy()
				s, e := c.Make(kind, label, parts(n)...)
				if e != want || (s == "") != (e != api.OK) || (c.Len() == 1) != (e != api.OK) {
					t.Errorf("Make(%d, %.5q, %d parts): %x %d, %d terms", kind, label, n, s, e, c.Len())
				}
			}
		}
	}
	for kind, n := range map[int]int{api.TermPub: 1, api.TermDh: 2, api.TermEnc: 4, api.TermSig: 2, api.TermHash: 100} {
		for at := range n {
			l := parts(n)
			l[at] = long
			if s, e := tab.Make(kind, "", l...); s != "" || e != api.ErrLong || tab.Len() != 1 {
				t.Errorf("Make(%d), %d is long: %x %d", kind, at, s, e)
			}
			if _, e := tab.Make(kind, "", append(l, a)...); e != api.ErrArg {
				t.Errorf("Make(%d), a part too many, one is long: %d", kind, e)
			}
			l[at] = just
			if s, e := tab.Copy().Make(kind, just[:b(kind == api.TermHash)*most], l...); s == "" || e != api.OK {
				t.Errorf("Make(%d), %d is just not too long: %x %d", kind, at, s, e)
			}
		}
	}
}

func b(is bool) int {
	if is {
		return 1
	}
	return 0
}

func TestMakeWithoutRoom(t *testing.T) {
	tables := map[int]*term.Table{}
	for room := range 4 {
		tables[room] = filled(t, room)
	}
	next := func(room, n int) string { return text(most - room + n) }
	for i, x := range []struct {
		room  int
		kind  int
		label string
		parts []string
		e     api.Errno
		more  int
	}{
		{0, api.TermPub, "", []string{text(0)}, api.OK, 0},
		{0, api.TermHash, "k", []string{"x", ""}, api.OK, 0},
		{0, api.TermHash, "k", []string{"", "x"}, api.ErrFull, 0},
		{0, api.TermPub, "", []string{text(7)}, api.ErrFull, 0},
		{0, api.TermPub, "", []string{"new"}, api.ErrFull, 0},
		{0, api.TermHash, "", nil, api.ErrFull, 0},
		{1, api.TermPub, "", []string{text(7)}, api.OK, 1},
		{1, api.TermHash, "", nil, api.OK, 1},
		{1, api.TermPub, "", []string{"new"}, api.ErrFull, 0},
		{1, api.TermDh, "", []string{text(0), text(3)}, api.OK, 1},
		{1, api.TermDh, "", []string{"new", text(3)}, api.ErrFull, 0},
		{1, api.TermSig, "", []string{"new", "new"}, api.ErrFull, 0},
		{2, api.TermSig, "", []string{"new", "new"}, api.OK, 2},
		{2, api.TermSig, "", []string{"new", "other"}, api.ErrFull, 0},
		{2, api.TermSig, "", []string{"new", next(2, 0)}, api.OK, 2},
		{2, api.TermSig, "", []string{"new", next(2, 1)}, api.ErrFull, 0},
		{2, api.TermPub, "", []string{next(2, 0)}, api.OK, 2},
		{2, api.TermEnc, "", []string{"p", "q", "r", "s"}, api.ErrFull, 0},
		{3, api.TermEnc, "", []string{"p", "x", "", "q"}, api.OK, 3},
		{3, api.TermEnc, "", []string{"p", "x", "r", "q"}, api.ErrFull, 0},
		{3, api.TermHash, strings.Repeat("x", most+1), []string{"p", "q", "r"}, api.ErrLong, 0},
		{3, api.TermDh, "", []string{"p", "q", "r"}, api.ErrArg, 0},
	} {
		tab := tables[x.room].Copy()
		s, e := tab.Make(x.kind, x.label, x.parts...)
		if e != x.e || (s == "") != (e != api.OK) || tab.Len() != most-x.room+x.more {
			t.Errorf("%d: %x %d, %d terms", i, s, e, tab.Len())
		}
		if e != api.ErrFull {
			continue
		}
		for n := range x.room { // what was refused is not there, and what was there stays
			if s := tab.Data("new"); s != next(x.room, 0) {
				t.Errorf("%d: %x", i, s)
			}
			if s := tab.Data("s" + strings.Repeat("p", n)); n+1 < x.room && s != next(x.room, n+1) {
				t.Errorf("%d: %x", i, s)
			}
		}
		if tab.Data("x") != text(4) || tab.Data("") != text(5) || must(t, tab, api.TermHash, "k", "x", "") != text(6) {
			t.Errorf("%d: what was there", i)
		}
	}
}

// P9.3

func TestOfWhatIsNoTerm(t *testing.T) {
	tab := term.New()
	tab.Fresh()
	tab.Data("x")
	x := text(1)
	for _, s := range []string{"", "x", text(2), text(1 << 16), text(1 << 24), "\xf0TRM\xff\xff\xff\xff", x + "x", "x" + x, x + x, x[:7], x[1:], x[:4], "\xf1" + x[1:], "\xf0TRN" + x[4:], "\xf0trm" + x[4:], strings.Repeat("\x00", 8)} {
		if got, ok := tab.Of(s); ok || !reflect.DeepEqual(got, api.Term{}) {
			t.Errorf("Of(%x): %v %v", s, got, ok)
		}
	}
}

func TestWithin(t *testing.T) {
	tab := term.New()
	for range 0xf060 {
		tab.Fresh()
	}
	for _, x := range []struct {
		s    string
		want []int
	}{
		{"", nil}, {"x", nil}, {text(5), []int{5}}, {"x" + text(5) + "x", []int{5}}, {text(5)[:7], nil}, {text(5)[1:], nil},
		{text(9) + text(5) + text(9), []int{5, 9}}, {text(0xf05f) + text(0xf060), []int{0xf05f}}, {text(1 << 30), nil},
		{"\xf0TRM\xff\xff\xff\xff" + text(0), []int{0}}, {"\xf0" + text(1), []int{1}}, {"\xf0TR" + text(1), []int{1}}, {"\xf0TRM" + text(1), []int{1}}, {"\xf0TRM\x00" + text(1), []int{1}},
		{text(0xf0) + text(2)[1:], []int{2, 0xf0}}, {text(0xf054) + text(2)[2:], []int{2, 0xf054}}, {text(0xf0) + text(0xf0)[1:] + text(1)[1:], []int{1, 0xf0}},
		{text(0xf054)[:7] + text(2), []int{2}},
	} {
		if got := tab.Within(x.s); !slices.Equal(got, x.want) {
			t.Errorf("Within(%x): %v, not %v", x.s, got, x.want)
		}
	}
}

func TestWithinAtRandom(t *testing.T) {
	r := rand.New(rand.NewSource(93))
	tab, m := term.New(), &told{}
	for range 260 {
		tab.Fresh()
		m.terms = append(m.terms, api.Term{Kind: api.TermName})
	}
	for range 2000 {
		s := ""
		for range r.Intn(12) {
			piece := text([]int{0, 1, 0xf0, 255, 259, 260, 0xf054}[r.Intn(7)])
			from := r.Intn(len(piece)) * r.Intn(2)
			s += piece[from : from+r.Intn(len(piece)-from+1)]
		}
		if got, want := tab.Within(s), m.within(s); !slices.Equal(got, want) {
			t.Fatalf("Within(%x): %v, not %v", s, got, want)
		}
	}
}

// P9.4

// world is a table of which all that is not a name, or bytes without terms, has to be come by.
type world struct {
	*term.Table
	a, b, k, m, n string // names
}

func names() world {
	tab := term.New()
	return world{tab, tab.Fresh(), tab.Fresh(), tab.Fresh(), tab.Fresh(), tab.Fresh()}
}

// isKnown tells whether the term of that text is.
func isKnown(t *testing.T, w world, s string, seen ...string) bool {
	t.Helper()
	for n, is := range w.Known(seen) {
		if text(n) == s {
			return is
		}
	}
	t.Fatalf("%x is no term's text", s)
	return false
}

func TestKnownByRule(t *testing.T) {
	w := names()
	a, b, k, m, n := w.a, w.b, w.k, w.m, w.n
	p, q := must(t, w.Table, api.TermPub, "", a), must(t, w.Table, api.TermPub, "", b)
	dh, raw, own := must(t, w.Table, api.TermDh, "", a, q), must(t, w.Table, api.TermDh, "", a, k), must(t, w.Table, api.TermDh, "", a, p)
	half := must(t, w.Table, api.TermDh, "", k, q) // there is no public key of k
	none, hash := must(t, w.Table, api.TermHash, "k"), must(t, w.Table, api.TermHash, "k", a, b, a)
	enc := must(t, w.Table, api.TermEnc, "", k, n, b, m)
	sig := must(t, w.Table, api.TermSig, "", k, m)
	both, bare, empty := w.Data("a"+a+b), w.Data("bare"), w.Data("")
	deep := w.Data("<" + w.Data("<"+a+">") + ">")
	over := must(t, w.Table, api.TermEnc, "", "all know it", "", "", w.Data(m+" and "+enc))
	for i, x := range []struct {
		s    string
		want bool
		seen []string
	}{
		{a, false, nil}, {a, true, []string{a}}, {a, true, []string{"<" + a + ">"}}, {a, false, []string{b, p, q, dh, raw, own, hash, enc, sig}},
		{a, true, []string{both}}, {a, true, []string{deep}}, {a, false, []string{"a", text(100), a[:7]}},
		{bare, true, nil}, {empty, true, nil}, {both, false, nil}, {both, false, []string{a}}, {both, true, []string{a, b}}, {deep, true, []string{a}}, {deep, false, []string{b}},
		{p, false, nil}, {p, true, []string{a}}, {p, false, []string{b, q, dh}},
		{none, true, nil}, {hash, false, []string{a}}, {hash, false, []string{b}}, {hash, true, []string{a, b}}, {b, false, []string{hash, a}},
		{dh, false, []string{p, q}}, {dh, true, []string{a, q}}, {dh, true, []string{b, p}}, {dh, true, []string{a, b}}, {dh, false, []string{a}}, {dh, false, []string{a, p}}, {dh, false, []string{b, q}},
		{own, true, []string{a}}, {own, false, []string{p}}, {own, false, []string{dh, q}},
		{half, true, []string{k, q}}, {half, true, []string{k, b}}, {half, false, []string{k}}, {half, false, []string{b, q, a}},
		{raw, false, []string{a}}, {raw, false, []string{k}}, {raw, true, []string{a, k}}, {raw, false, []string{p, k}},
		{enc, false, []string{k, n, b}}, {enc, false, []string{k, n, m}}, {enc, false, []string{k, b, m}}, {enc, false, []string{n, b, m}}, {enc, true, []string{k, n, b, m}},
		{m, false, []string{enc}}, {m, true, []string{enc, k}}, {m, false, []string{k}}, {m, false, []string{enc, n, b}}, {n, false, []string{enc, k}}, {b, false, []string{enc, k}}, {k, false, []string{enc, n, b, m}},
		{sig, false, []string{k}}, {sig, false, []string{m}}, {sig, true, []string{k, m}}, {m, true, []string{sig}}, {k, false, []string{sig, m}},
		{m, true, []string{over}}, {enc, true, []string{over}}, {over, false, []string{enc}}, {over, true, []string{enc, m}}, {over, true, []string{enc, k}},
	} {
		if isKnown(t, w, x.s, x.seen...) != x.want {
			t.Errorf("%d: %x by %x, not %v", i, x.s, x.seen, x.want)
		}
	}
	if known := w.Known(nil); len(known) != w.Len() {
		t.Errorf("%d of %d terms", len(known), w.Len())
	}
}

// The secret of a Dh may stand on either side of the order of numbers, and one public key alone may be there.
func TestKnownByOnePublicKey(t *testing.T) {
	for _, first := range []int{0, 1} {
		w := names()
		own, other := []string{w.a, w.b}[first], []string{w.b, w.a}[first]
		public := must(t, w.Table, api.TermPub, "", other)
		dh := must(t, w.Table, api.TermDh, "", own, public)
		for _, x := range []struct {
			want bool
			seen []string
		}{{true, []string{own, public}}, {true, []string{own, other}}, {false, []string{own}}, {false, []string{other}}, {false, []string{public}}, {false, []string{other, public}}} {
			if isKnown(t, w, dh, x.seen...) != x.want {
				t.Errorf("%d: by %x, not %v", first, x.seen, x.want)
			}
		}
		later := must(t, w.Table, api.TermPub, "", own)
		if !isKnown(t, w, dh, other, later) || isKnown(t, w, dh, later, public) {
			t.Errorf("%d: the other way round", first)
		}
	}
}

// What stands within data hangs on the terms that are there when it is asked.
func TestKnownOfDataAheadOfTheTerm(t *testing.T) {
	tab := term.New()
	early := tab.Data("<" + text(2) + ">")
	self := tab.Data(text(1))
	if l := holds(tab.Known(nil)); !slices.Equal(l, []int{0}) || self != text(1) {
		t.Errorf("ahead: %v; data whose own text they are need themselves", l)
	}
	if l := holds(tab.Known([]string{self})); !slices.Equal(l, []int{0, 1}) {
		t.Errorf("seen: %v", l)
	}
	tab.Fresh()
	if l := holds(tab.Known(nil)); len(l) != 0 {
		t.Errorf("behind: %v", l)
	}
	if l := holds(tab.Known([]string{early})); !slices.Equal(l, []int{0, 2}) {
		t.Errorf("the name in it: %v", l)
	}
}

// Each key opens the next one, in the order in which they come and against it, and what is made goes along.
func TestKnownAlongAChain(t *testing.T) {
	const links = 5000
	for _, back := range []bool{false, true} {
		tab := term.New()
		keys := make([]string, links)
		for i := range keys {
			keys[i] = tab.Fresh()
		}
		if back {
			slices.Reverse(keys)
		}
		var seen []string
		for i := range links - 1 {
			seen = append(seen, must(t, tab, api.TermEnc, "", keys[i], "n", "", must(t, tab, api.TermHash, "of", keys[i])+keys[i+1]))
		}
		if l := holds(tab.Known(seen)); len(l) != 2+len(seen) {
			t.Errorf("%d are known without a key", len(l))
		}
		if l := holds(tab.Known(append(slices.Clone(seen), keys[0]))); len(l) != tab.Len() {
			t.Errorf("%d of %d are known with the first key", len(l), tab.Len())
		}
		if l := holds(tab.Known(append(slices.Clone(seen), keys[links/2]))); len(l) >= tab.Len() || len(l) <= links {
			t.Errorf("%d of %d are known with the key in the middle", len(l), tab.Len())
		}
	}
}

// pick tells something that may be handed in: terms' texts, bytes with and without them, texts of terms that are not there yet.
func pick(r *rand.Rand, n int) string {
	some := func() string { return text(r.Intn(n + 1)) }
	switch r.Intn(8) {
	case 0:
		return ""
	case 1:
		return string(rune('a' + r.Intn(3)))
	case 2:
		return "<" + some() + some() + ">"
	case 3:
		return text(n + r.Intn(4))
	case 4:
		return some() + "x"
	}
	return text(r.Intn(max(n, 1)))
}

// step does one thing to both.
func step(t *testing.T, r *rand.Rand, tab *term.Table, m *told) {
	t.Helper()
	got, want := "", 0
	n := len(m.terms)
	switch kind := r.Intn(9); kind {
	case 0, api.TermName:
		got, want = tab.Fresh(), m.fresh()
	case api.TermData:
		s := pick(r, n)
		got, want = tab.Data(s), m.data(s)
	default:
		kind = min(kind, api.TermSig)
		var parts []string
		for range []int{1, 2, r.Intn(5), 4, 2}[kind-api.TermPub] {
			parts = append(parts, pick(r, n))
		}
		label := []string{"", "k"}[b(kind == api.TermHash)*r.Intn(2)]
		got, want = must(t, tab, kind, label, parts...), m.make(kind, label, parts...)
	}
	if got != text(want) {
		t.Fatalf("%x, not %x", got, text(want))
	}
}

func TestAtRandom(t *testing.T) {
	r := rand.New(rand.NewSource(9))
	for round := range 300 {
		tab, m := term.New(), &told{}
		for range 5 + r.Intn(40) {
			step(t, r, tab, m)
		}
		got := dump(t, tab)
		if tab.Len() != len(m.terms) || !slices.EqualFunc(got, m.terms, func(x, y api.Term) bool { return reflect.DeepEqual(x, plain(y)) }) {
			t.Fatalf("%d: %v, not %v", round, got, m.terms)
		}
		for range 6 {
			var seen []string
			for range r.Intn(6) {
				seen = append(seen, pick(r, tab.Len()))
			}
			if got, want := tab.Known(seen), m.known(seen); !slices.Equal(got, want) {
				t.Fatalf("%d: Known(%x) of %v: %v, not %v", round, seen, m.terms, holds(got), holds(want))
			}
			follows(t, tab, seen, pick(r, tab.Len()))
		}
	}
}

// P9.5

// follows looks at what follows of what is known: more texts tell no less, and what is known tells nothing more.
func follows(t *testing.T, tab *term.Table, seen []string, more string) {
	t.Helper()
	known, further := tab.Known(seen), tab.Known(append(slices.Clone(seen), more))
	texts := ""
	for n, is := range known {
		if is && !further[n] {
			t.Fatalf("%d is known by %x, and not by more", n, seen)
		}
		if is {
			texts += text(n)
		}
	}
	if again := tab.Known([]string{texts}); !slices.Equal(again, known) {
		t.Fatalf("%v are known by %x, and %v by these", holds(known), seen, holds(again))
	}
}

func TestSecretsStaySo(t *testing.T) {
	tab := term.New()
	a, c, d, letter := tab.Fresh(), tab.Fresh(), tab.Fresh(), tab.Fresh()
	p, q := must(t, tab, api.TermPub, "", a), must(t, tab, api.TermPub, "", c)
	x, y := must(t, tab, api.TermDh, "", a, q), must(t, tab, api.TermDh, "", c, p)
	if x != y {
		t.Error("both sides have one term")
	}
	key := must(t, tab, api.TermHash, "key", x, must(t, tab, api.TermDh, "", a, must(t, tab, api.TermPub, "", d)))
	sealed := must(t, tab, api.TermEnc, "", key, "n", p, "dear c, "+letter)
	signed := must(t, tab, api.TermSig, "", a, sealed)
	frames := []string{p, q, "from a: " + sealed, "by a: " + signed, must(t, tab, api.TermPub, "", d), must(t, tab, api.TermHash, "digest", letter)}
	is := func(s string, more ...string) bool {
		return isKnown(t, world{Table: tab}, s, append(slices.Clone(frames), more...)...)
	}
	for _, s := range []string{a, c, d, letter, x, key} {
		if is(s) {
			t.Errorf("%x is known by frames alone", s)
		}
	}
	if is(letter, c) || is(letter, d) || !is(letter, c, d) || !is(letter, a) || !is(letter, key) || is(a, c, d, key, letter) {
		t.Error("who has what the key comes out of, and nobody else, has the letter")
	}
	fresh := tab.Fresh()
	if is(fresh, a, c, d) || !is(fresh, fresh) {
		t.Error("a name that stands nowhere")
	}
}

// R1 and R3

func TestNoTable(t *testing.T) {
	var none *term.Table
	for _, tab := range []*term.Table{none, {}} {
		for range 2 {
			if tab.Fresh() != "" || tab.Data("") != "" || tab.Data("x") != "" || tab.Len() != 0 || len(tab.Within(text(0))) != 0 || len(tab.Known([]string{text(0)})) != 0 || tab.Copy() != nil {
				t.Error("there is no table")
			}
			if x, ok := tab.Of(text(0)); ok || !reflect.DeepEqual(x, api.Term{}) {
				t.Errorf("Of: %v", x)
			}
			for _, kind := range []int{0, api.TermPub, api.TermHash} {
				if s, e := tab.Make(kind, strings.Repeat("x", most+1)); s != "" || e != api.ErrNil {
					t.Errorf("Make(%d): %x %d", kind, s, e)
				}
			}
		}
	}
}

// R5 and R6

func apart(s, u string) bool {
	return s == "" || u == "" || unsafe.StringData(s) != unsafe.StringData(u)
}

func TestNewMemory(t *testing.T) {
	tab := term.New()
	name, label, piece := tab.Fresh(), strings.Clone("label"), strings.Clone("piece")
	parts := []string{name, piece}
	room := append(slices.Clone(parts), "behind")
	made, _ := tab.Make(api.TermHash, label, room[:2]...)
	if !slices.Equal(room, append(slices.Clone(parts), "behind")) {
		t.Error("what was handed in is changed")
	}
	if s := tab.Data(name); s != name || !apart(s, name) {
		t.Error("Data answers what was handed in")
	}
	x, _ := tab.Of(made)
	y, _ := tab.Of(made)
	z, _ := tab.Of(tab.Data("piece"))
	v, _ := tab.Of(tab.Data("piece"))
	if !apart(x.S, label) || !apart(x.S, y.S) || !apart(z.S, piece) || !apart(z.S, v.S) {
		t.Error("texts are shared")
	}
	x.Parts[0] = 7
	if u, _ := tab.Of(made); !slices.Equal(u.Parts, []int{0, 1}) || !slices.Equal(y.Parts, []int{0, 1}) {
		t.Error("parts are shared")
	}
	if c, _ := tab.Copy().Of(made); !slices.Equal(c.Parts, []int{0, 1}) || must(t, tab, api.TermHash, "label", name, "piece") != made {
		t.Error("a part that was changed outside")
	}
	seen := []string{name, "x"}
	known, within := tab.Known(seen), tab.Within(name)
	known[0], within[0] = false, 5
	if !slices.Equal(tab.Known(seen), []bool{true, true, true}) || !slices.Equal(tab.Within(name), []int{0}) || !slices.Equal(seen, []string{name, "x"}) {
		t.Error("what was answered is kept")
	}
}

// What was handed in may be written over behind the call.
func TestKeptByContent(t *testing.T) {
	tab := term.New()
	room := []byte("labelpiecedata")
	part := func(from, to int) string { return unsafe.String(&room[from], to-from) }
	must(t, tab, api.TermHash, part(0, 5), part(5, 10))
	tab.Data(part(10, 14))
	was := dump(t, tab.Copy())
	copy(room, "..............")
	want := []api.Term{{Kind: api.TermData, S: "piece"}, {Kind: api.TermHash, S: "label", Parts: []int{0}}, {Kind: api.TermData, S: "data"}}
	if got := dump(t, tab); !reflect.DeepEqual(got, want) || !reflect.DeepEqual(was, want) {
		t.Errorf("%v", got)
	}
	if must(t, tab, api.TermHash, "label", "piece") != text(1) || tab.Data("data") != text(2) {
		t.Error("what is there is not found")
	}
}

func TestSameStepsSameTable(t *testing.T) {
	made := func() (*term.Table, []bool) {
		r, tab := rand.New(rand.NewSource(96)), term.New()
		m := &told{}
		for range 60 {
			step(t, r, tab, m)
		}
		return tab, tab.Known([]string{text(3), text(7)})
	}
	x, known := made()
	y, again := made()
	if !reflect.DeepEqual(dump(t, x), dump(t, y)) || !slices.Equal(known, again) {
		t.Error("the same steps, another table")
	}
}
