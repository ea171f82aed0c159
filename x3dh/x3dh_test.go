package x3dh_test

import (
	"fmt"
	"math"
	"math/rand"
	"reflect"
	"strings"
	"testing"
	"unsafe"

	"missive/api"
	"missive/prim"
	"missive/x3dh"
)

const (
	mostBytes = 1 << 14 // of a text in a bundle
	mostId    = 1 << 30
)

func made(t *testing.T, kit int) *prim.Prim {
	t.Helper()
	p, e := prim.New(kit)
	if e != api.OK || p == nil {
		t.Fatalf("prim.New(%d): %d", kit, e)
	}
	return p
}

// both goes through the two kinds.
func both(t *testing.T, look func(t *testing.T, p *prim.Prim)) {
	t.Helper()
	for _, kit := range []int{api.KitReal, api.KitTerm} {
		t.Run(fmt.Sprint("kit", kit), func(t *testing.T) { look(t, made(t, kit)) })
	}
}

// nones are prims that are none.
func nones() []*prim.Prim { return []*prim.Prim{nil, {}, new(prim.Prim)} }

// fine takes what a call answers that may not fail.
func fine(t *testing.T) func(string, api.Errno) string {
	return func(s string, e api.Errno) string {
		t.Helper()
		if e != api.OK || s == "" {
			t.Fatalf("%q, %d", s, e)
		}
		return s
	}
}

// draw is one of 32 bytes.
func draw(c byte) string { return strings.Repeat(string([]byte{c}), 32) }

// number tells v in that many bytes, the highest first.
func number(size, v int) string {
	b := make([]byte, size)
	for i := range b {
		b[i] = byte(v >> (8 * (size - 1 - i)))
	}
	return string(b)
}

// texts tells texts, each with its length ahead.
func texts(l ...string) string {
	out := ""
	for _, s := range l {
		out += number(4, len(s)) + s
	}
	return out
}

// signed is the text of a bundle that is signed.
func signed(b api.Bundle) string { return "pre" + number(4, b.PreId) + texts(b.Pre) }

// laid is a bundle as the document lays it, whether it may be or not.
func laid(b api.Bundle) string {
	return number(1, b.User) + number(1, b.Device) + texts(b.Sign, b.Dh) + number(4, b.PreId) +
		texts(b.Pre, b.PreSig) + number(4, b.OnceId) + texts(b.Once)
}

// device is one that is away, with the secrets of what it published.
type device struct {
	self, signing, pre, once string
	public                   string
	bundle                   api.Bundle
}

// away makes one, with a once key or without; what is drawn hangs on c.
func away(t *testing.T, p *prim.Prim, c byte, with bool) device {
	t.Helper()
	x := device{self: p.Secret(draw(c)), signing: p.Secret(draw(c + 1)), pre: p.Secret(draw(c + 2))}
	x.public = fine(t)(p.Public(x.self))
	x.bundle = api.Bundle{User: 1, Device: 1, Dh: x.public, PreId: 7}
	x.bundle.Sign = fine(t)(p.Signer(x.signing))
	x.bundle.Pre = fine(t)(p.Public(x.pre))
	if with {
		x.once = p.Secret(draw(c + 3))
		x.bundle.OnceId, x.bundle.Once = 9, fine(t)(p.Public(x.once))
	}
	return x.sign(t, p)
}

// sign is the device with its bundle signed as it is.
func (x device) sign(t *testing.T, p *prim.Prim) device {
	t.Helper()
	x.bundle.PreSig = fine(t)(p.Sign(x.signing, signed(x.bundle)))
	return x
}

// one who begins has a secret and its public key.
type one struct{ self, public string }

func oneOf(t *testing.T, p *prim.Prim, c byte) one {
	t.Helper()
	x := one{self: p.Secret(draw(c))}
	x.public = fine(t)(p.Public(x.self))
	return x
}

// answer is all that Begin answers.
type answer struct {
	secret, public string
	e              api.Errno
}

func begin(p *prim.Prim, self string, b api.Bundle, d string) answer {
	secret, public, e := x3dh.Begin(p, self, b, d)
	return answer{secret, public, e}
}

func begun(t *testing.T, p *prim.Prim, x one, b api.Bundle, d string) answer {
	t.Helper()
	a := begin(p, x.self, b, d)
	if a.e != api.OK || a.secret == "" || a.public == "" {
		t.Fatalf("Begin: %+v", a)
	}
	return a
}

// share is all that Accept answers.
type share struct {
	secret string
	e      api.Errno
}

func accept(p *prim.Prim, self, pre, once, peer, public string) share {
	s, e := x3dh.Accept(p, self, pre, once, peer, public)
	return share{s, e}
}

// look is all that can be asked of a prim, without changing it.
type look struct {
	journal []api.Deed
	terms   []api.Term
}

func looked(t *testing.T, p *prim.Prim) look {
	t.Helper()
	out := look{journal: append([]api.Deed{}, p.Journal()...)}
	tab := p.Table()
	if tab == nil {
		return out
	}
	for n := range tab.Len() {
		x, ok := tab.Of("\xf0TRM" + number(4, n))
		if !ok {
			t.Fatalf("there is no term %d of %d", n, tab.Len())
		}
		if len(x.Parts) == 0 {
			x.Parts = nil
		}
		out.terms = append(out.terms, x)
	}
	return out
}

// same holds two prims against each other: the same deeds were done, and the same terms made, in the same order.
func same(t *testing.T, what string, p, q *prim.Prim) {
	t.Helper()
	if x, y := looked(t, p), looked(t, q); !reflect.DeepEqual(x, y) {
		t.Errorf("%s: %d deeds and %d terms; want %d and %d, or others", what, len(x.journal), len(x.terms), len(y.journal), len(y.terms))
	}
}

// What follows tells the document's words, with a prim alone.

func wantBegin(p *prim.Prim, self string, b api.Bundle, draw string) answer {
	if !p.Verify(b.Sign, signed(b), b.PreSig) {
		return answer{e: api.ErrSign}
	}
	own, e := p.Public(self)
	if e != api.OK {
		return answer{e: e}
	}
	fresh := p.Secret(draw)
	public, e := p.Public(fresh)
	if e != api.OK {
		return answer{e: e}
	}
	d1, e := p.Dh(self, b.Pre)
	if e != api.OK {
		return answer{e: e}
	}
	d2, e := p.Dh(fresh, b.Dh)
	if e != api.OK {
		return answer{e: e}
	}
	d3, e := p.Dh(fresh, b.Pre)
	if e != api.OK {
		return answer{e: e}
	}
	all := texts(d1, d2, d3)
	if b.OnceId > 0 {
		d4, e := p.Dh(fresh, b.Once)
		if e != api.OK {
			return answer{e: e}
		}
		all += texts(d4)
	}
	k, e := p.Derive(all, texts(own, b.Dh, public), "x3dh", 1)
	if e != api.OK {
		return answer{e: e}
	}
	return answer{secret: k[0], public: public}
}

func wantAccept(p *prim.Prim, self, pre, once, peer, public string) share {
	own, e := p.Public(self)
	if e != api.OK {
		return share{e: e}
	}
	d1, e := p.Dh(pre, peer)
	if e != api.OK {
		return share{e: e}
	}
	d2, e := p.Dh(self, public)
	if e != api.OK {
		return share{e: e}
	}
	d3, e := p.Dh(pre, public)
	if e != api.OK {
		return share{e: e}
	}
	all := texts(d1, d2, d3)
	if once != "" {
		d4, e := p.Dh(once, public)
		if e != api.OK {
			return share{e: e}
		}
		all += texts(d4)
	}
	k, e := p.Derive(all, texts(peer, own, public), "x3dh", 1)
	if e != api.OK {
		return share{e: e}
	}
	return share{secret: k[0]}
}

func TestExamples(t *testing.T) {
	p := made(t, api.KitTerm)
	x, s := away(t, p, 't', true), oneOf(t, p, 's')
	a := begun(t, p, s, x.bundle, "")
	if got := accept(p, x.self, x.pre, x.once, s.public, a.public); got != (share{secret: a.secret}) {
		t.Errorf("Accept: %+v; want %x", got, a.secret)
	}
	if got := accept(p, x.self, x.pre, "", s.public, a.public); got.e != api.OK || got.secret == "" || got.secret == a.secret {
		t.Errorf("Accept with no once key: %+v", got)
	}
	b := x.bundle
	b.PreId++
	if e := x3dh.Check(p, b); e != api.ErrSign {
		t.Errorf("another PreId: %d", e)
	}
	b = x.bundle
	b.Dh = ""
	if e := x3dh.Check(p, b); e != api.ErrArg {
		t.Errorf("no Dh: %d", e)
	}
	l := fine(t)(x3dh.EncodeBundle(x.bundle))
	if b, e := x3dh.DecodeBundle(l); b != x.bundle || e != api.OK {
		t.Errorf("DecodeBundle: %+v, %d", b, e)
	}
	if b, e := x3dh.DecodeBundle(l + "\x00"); b != (api.Bundle{}) || e != api.ErrForm {
		t.Errorf("DecodeBundle of a byte more: %+v, %d", b, e)
	}
}

// P16.1

// least is a bundle that may be, and nothing more.
func least() api.Bundle {
	return api.Bundle{Sign: "s", Dh: "d", PreId: 1, Pre: "p", PreSig: "g"}
}

// variant is what a bundle is made of the least one by.
type variant struct {
	what   string
	change func(b *api.Bundle)
}

// mayBe are changes that leave a bundle one that may be.
func mayBe() []variant {
	most := strings.Repeat("x", mostBytes)
	return []variant{
		{"the least", func(b *api.Bundle) {}},
		{"the last user", func(b *api.Bundle) { b.User = api.MaxUsers - 1 }},
		{"the last device", func(b *api.Bundle) { b.Device = api.MaxDevices - 1 }},
		{"the greatest PreId", func(b *api.Bundle) { b.PreId = mostId }},
		{"a once key", func(b *api.Bundle) { b.OnceId, b.Once = 1, "o" }},
		{"the greatest OnceId", func(b *api.Bundle) { b.OnceId, b.Once = mostId, "o" }},
		{"a long Sign", func(b *api.Bundle) { b.Sign = most }},
		{"a long Dh", func(b *api.Bundle) { b.Dh = most }},
		{"a long Pre", func(b *api.Bundle) { b.Pre = most }},
		{"a long PreSig", func(b *api.Bundle) { b.PreSig = most }},
		{"a long Once", func(b *api.Bundle) { b.OnceId, b.Once = 1, most }},
		{"any bytes", func(b *api.Bundle) { b.Sign, b.Dh, b.Pre, b.PreSig = "\x00", "\xff\xff", "\x00\x00", "\xf0TRM" }},
		{"all of it", func(b *api.Bundle) {
			*b = api.Bundle{User: 2, Device: 1, Sign: most, Dh: most, PreId: mostId, Pre: most, PreSig: most, OnceId: mostId, Once: most}
		}},
	}
}

// mayNot are changes by each of which it is none.
func mayNot() []variant {
	long := strings.Repeat("x", mostBytes+1)
	out := []variant{
		{"nothing", func(b *api.Bundle) { *b = api.Bundle{} }},
		{"no Sign", func(b *api.Bundle) { b.Sign = "" }},
		{"no Dh", func(b *api.Bundle) { b.Dh = "" }},
		{"no Pre", func(b *api.Bundle) { b.Pre = "" }},
		{"no PreSig", func(b *api.Bundle) { b.PreSig = "" }},
		{"Sign too long", func(b *api.Bundle) { b.Sign = long }},
		{"Dh too long", func(b *api.Bundle) { b.Dh = long }},
		{"Pre too long", func(b *api.Bundle) { b.Pre = long }},
		{"PreSig too long", func(b *api.Bundle) { b.PreSig = long }},
		{"Once too long", func(b *api.Bundle) { b.OnceId, b.Once = 1, long }},
		{"an id and no key", func(b *api.Bundle) { b.OnceId = 1 }},
		{"the greatest id and no key", func(b *api.Bundle) { b.OnceId = mostId }},
		{"a key and no id", func(b *api.Bundle) { b.Once = "o" }},
		{"PreId 0", func(b *api.Bundle) { b.PreId = 0 }},
		{"User 3", func(b *api.Bundle) { b.User = api.MaxUsers }},
		{"Device 2", func(b *api.Bundle) { b.Device = api.MaxDevices }},
	}
	for _, v := range []int{-1, -2, math.MinInt, math.MaxInt, math.MaxInt32, mostId + 1, 1 << 32, 1<<32 + 1, 256, 256 + 1} {
		out = append(out,
			variant{fmt.Sprint("User ", v), func(b *api.Bundle) { b.User = v }},
			variant{fmt.Sprint("Device ", v), func(b *api.Bundle) { b.Device = v }})
		if v > 0 && v <= mostId {
			continue
		}
		out = append(out,
			variant{fmt.Sprint("PreId ", v), func(b *api.Bundle) { b.PreId = v }},
			variant{fmt.Sprint("OnceId ", v), func(b *api.Bundle) { b.OnceId = v }},
			variant{fmt.Sprint("Once of OnceId ", v), func(b *api.Bundle) { b.OnceId, b.Once = v, "o" }})
	}
	return out
}

// changed is the bundle with one of the changes.
func (v variant) changed(b api.Bundle) api.Bundle {
	v.change(&b)
	return b
}

func TestWhichMayBe(t *testing.T) {
	both(t, func(t *testing.T, p *prim.Prim) {
		q := p.Copy()
		for _, v := range mayBe() {
			b := v.changed(least())
			if e := x3dh.Check(p, b); e != api.ErrSign {
				t.Errorf("%s: Check: %d", v.what, e)
			}
			if s, e := x3dh.EncodeBundle(b); e != api.OK || s != laid(b) {
				t.Errorf("%s: EncodeBundle: %.60x, %d", v.what, s, e)
			}
			if got, e := x3dh.DecodeBundle(laid(b)); e != api.OK || got != b {
				t.Errorf("%s: DecodeBundle: %d", v.what, e)
			}
		}
		same(t, "what nobody signed", p, q)
	})
}

func TestWhichMayNotBe(t *testing.T) {
	both(t, func(t *testing.T, p *prim.Prim) {
		x := away(t, p, 'a', false)
		q := p.Copy()
		for _, v := range mayNot() {
			for what, b := range map[string]api.Bundle{"least": v.changed(least()), "signed": v.changed(x.bundle)} {
				what = v.what + ", " + what
				if e := x3dh.Check(p, b); e != api.ErrArg {
					t.Errorf("%s: Check: %d", what, e)
				}
				if got := begin(p, x.self, b, draw('f')); got != (answer{e: api.ErrArg}) {
					t.Errorf("%s: Begin: %+v", what, got)
				}
				if s, e := x3dh.EncodeBundle(b); s != "" || e != api.ErrArg {
					t.Errorf("%s: EncodeBundle: %.60x, %d", what, s, e)
				}
			}
		}
		same(t, "bundles that may not be", p, q)
	})
}

func TestCheckOfASignedOne(t *testing.T) {
	both(t, func(t *testing.T, p *prim.Prim) {
		for _, with := range []bool{true, false} {
			x := away(t, p, 'a', with)
			for _, v := range []variant{
				{"as it is", func(b *api.Bundle) {}},
				{"another user", func(b *api.Bundle) { b.User = 2 }},
				{"another device", func(b *api.Bundle) { b.Device = 0 }},
				{"another Dh", func(b *api.Bundle) { b.Dh = "d" }},
				{"another once key", func(b *api.Bundle) { b.OnceId, b.Once = 1, "o" }},
				{"no once key", func(b *api.Bundle) { b.OnceId, b.Once = 0, "" }},
			} {
				b, q := v.changed(x.bundle), p.Copy()
				if !q.Verify(b.Sign, signed(b), b.PreSig) {
					t.Fatal(v.what)
				}
				if e := x3dh.Check(p, b); e != api.OK {
					t.Errorf("%s: %d", v.what, e)
				}
				same(t, v.what, p, q) // one deed: a verifying
			}
		}
	})
}

// The pre key, its id, who signed it and how: nothing of that may differ.
func TestCheckOfWhatIsNotSigned(t *testing.T) {
	both(t, func(t *testing.T, p *prim.Prim) {
		x, y := away(t, p, 'a', true), away(t, p, 'k', true)
		plain := fine(t)(p.Sign(x.signing, x.bundle.Pre))
		headless := fine(t)(p.Sign(x.signing, signed(x.bundle)[3:]))
		lengthless := fine(t)(p.Sign(x.signing, "pre"+number(4, x.bundle.PreId)+x.bundle.Pre))
		wide := fine(t)(p.Sign(x.signing, "pre"+number(8, x.bundle.PreId)+texts(x.bundle.Pre)))
		q := p.Copy()
		for _, v := range []variant{
			{"another PreId", func(b *api.Bundle) { b.PreId++ }},
			{"a far PreId", func(b *api.Bundle) { b.PreId = 7 << 24 }},
			{"another Pre", func(b *api.Bundle) { b.Pre = y.bundle.Pre }},
			{"Dh as Pre", func(b *api.Bundle) { b.Pre = b.Dh }},
			{"Once as Pre", func(b *api.Bundle) { b.Pre = b.Once }},
			{"Pre and a byte", func(b *api.Bundle) { b.Pre += "\x00" }},
			{"another one's Sign", func(b *api.Bundle) { b.Sign = y.bundle.Sign }},
			{"Dh as Sign", func(b *api.Bundle) { b.Sign = b.Dh }},
			{"a short Sign", func(b *api.Bundle) { b.Sign = b.Sign[1:] }},
			{"another one's PreSig", func(b *api.Bundle) { b.PreSig = y.bundle.PreSig }},
			{"a short PreSig", func(b *api.Bundle) { b.PreSig = b.PreSig[1:] }},
			{"PreSig and a byte", func(b *api.Bundle) { b.PreSig += "\x00" }},
			{"Pre alone signed", func(b *api.Bundle) { b.PreSig = plain }},
			{"signed with nothing ahead", func(b *api.Bundle) { b.PreSig = headless }},
			{"signed with no length", func(b *api.Bundle) { b.PreSig = lengthless }},
			{"signed with a wide number", func(b *api.Bundle) { b.PreSig = wide }},
		} {
			b := v.changed(x.bundle)
			if e := x3dh.Check(p, b); e != api.ErrSign {
				t.Errorf("%s: Check: %d", v.what, e)
			}
			if got := begin(p, x.self, b, draw('f')); got != (answer{e: api.ErrSign}) {
				t.Errorf("%s: Begin: %+v", v.what, got)
			}
			if got := begin(p, "", b, ""); got != (answer{e: api.ErrSign}) {
				t.Errorf("%s: Begin with no secret: %+v", v.what, got)
			}
		}
		same(t, "what is not signed", p, q)
		z := x
		z.bundle.PreId = mostId
		z = z.sign(t, p)
		if e := x3dh.Check(p, z.bundle); e != api.OK {
			t.Errorf("the greatest PreId: %d", e)
		}
	})
}

func TestWithoutAPrim(t *testing.T) {
	p := made(t, api.KitReal)
	x, s := away(t, p, 'a', true), oneOf(t, p, 's')
	bad := x.bundle
	bad.PreId++
	for _, none := range nones() {
		for _, b := range []api.Bundle{x.bundle, bad, least(), {}} {
			if e := x3dh.Check(none, b); e != api.ErrNil {
				t.Errorf("Check: %d", e)
			}
			for _, d := range []string{draw('e'), ""} {
				if got := begin(none, s.self, b, d); got != (answer{e: api.ErrNil}) {
					t.Errorf("Begin: %+v", got)
				}
			}
		}
		for _, l := range [][5]string{{x.self, x.pre, x.once, s.public, s.public}, {}, {x.self, x.pre}} {
			if got := accept(none, l[0], l[1], l[2], l[3], l[4]); got != (share{e: api.ErrNil}) {
				t.Errorf("Accept: %+v", got)
			}
		}
	}
}

// The document's layout, byte by byte.
func TestBytesOfABundle(t *testing.T) {
	for want, b := range map[string]api.Bundle{
		"\x02\x01" + "\x00\x00\x00\x01s" + "\x00\x00\x00\x02dd" + "\x00\x00\x01\x02" + "\x00\x00\x00\x03ppp" + "\x00\x00\x00\x04gggg" + "\x01\x02\x03\x04" + "\x00\x00\x00\x05ooooo": {
			User: 2, Device: 1, Sign: "s", Dh: "dd", PreId: 258, Pre: "ppp", PreSig: "gggg", OnceId: 0x01020304, Once: "ooooo"},
		"\x00\x00" + "\x00\x00\x00\x01s" + "\x00\x00\x00\x01d" + "\x40\x00\x00\x00" + "\x00\x00\x00\x01p" + "\x00\x00\x00\x01g" + "\x00\x00\x00\x00" + "\x00\x00\x00\x00": {
			Sign: "s", Dh: "d", PreId: mostId, Pre: "p", PreSig: "g"},
	} {
		if s, e := x3dh.EncodeBundle(b); s != want || e != api.OK {
			t.Errorf("%x, %d; want %x", s, e, want)
		}
		if got, e := x3dh.DecodeBundle(want); got != b || e != api.OK {
			t.Errorf("%+v, %d; want %+v", got, e, b)
		}
	}
}

func decodeRefused(t *testing.T, what, s string) {
	t.Helper()
	if b, e := x3dh.DecodeBundle(s); b != (api.Bundle{}) || e != api.ErrForm {
		t.Errorf("%s: %+v, %d", what, b, e)
	}
}

func TestDecodeRefuses(t *testing.T) {
	for what, b := range map[string]api.Bundle{
		"with":    {User: 2, Device: 1, Sign: "s", Dh: "dd", PreId: 258, Pre: "ppp", PreSig: "gggg", OnceId: 3, Once: "ooooo"},
		"without": least(),
	} {
		s := laid(b)
		for i := range s {
			decodeRefused(t, fmt.Sprint(what, ", cut at ", i), s[:i])
			decodeRefused(t, fmt.Sprint(what, ", from ", i+1, " on"), s[i+1:])
		}
		for _, behind := range []string{"\x00", "x", "\x00\x00\x00\x00", s} {
			decodeRefused(t, fmt.Sprintf("%s, %x behind", what, behind), s+behind)
		}
		decodeRefused(t, what+", a byte ahead", "\x00"+s)
	}
	for _, v := range mayNot() {
		b := v.changed(least())
		if b.User != low(1, b.User) || b.Device != low(1, b.Device) || b.PreId != low(4, b.PreId) || b.OnceId != low(4, b.OnceId) {
			continue // its bytes are another one's
		}
		decodeRefused(t, v.what, laid(b))
	}
	ahead := number(1, 0) + number(1, 0) + texts("s", "d") + number(4, 1)
	for what, s := range map[string]string{
		"nothing":                    "",
		"a length below 0":           "\x00\x00\xff\xff\xff\xff",
		"a length that is not there": "\x00\x00\x00\x00\x40\x00s",
		"Sign of 2^31 bytes":         "\x00\x00\x80\x00\x00\x00s",
		"PreId 2^32 - 1":             number(2, 0) + texts("s", "d") + "\xff\xff\xff\xff" + texts("p", "g") + number(8, 0),
		"PreId 2^31":                 number(2, 0) + texts("s", "d") + "\x80\x00\x00\x00" + texts("p", "g") + number(8, 0),
		"OnceId 2^32 - 1":            ahead + texts("p", "g") + "\xff\xff\xff\xff" + texts("o"),
		"OnceId 2^32 - 1, no key":    ahead + texts("p", "g") + "\xff\xff\xff\xff" + texts(""),
		"User 255":                   "\xff\x00" + laid(least())[2:],
		"Device 255":                 "\x00\xff" + laid(least())[2:],
		"noise":                      strings.Repeat("\xff", 1<<20),
		"noughts":                    strings.Repeat("\x00", 1<<20),
	} {
		decodeRefused(t, what, s)
	}
}

// low is the number that so many bytes of v hold.
func low(size, v int) int { return v & (1<<(8*size) - 1) }

// P16.2

func TestBeginAsTheDocumentSays(t *testing.T) {
	both(t, func(t *testing.T, p *prim.Prim) {
		for i, with := range []bool{true, false, true, false} {
			x, s := away(t, p, byte(10*i+1), with), oneOf(t, p, byte(10*i+5))
			for k := range 3 {
				d := draw(byte(100 + 3*i + k))
				q := p.Copy()
				want := wantBegin(q, s.self, x.bundle, d)
				if got := begun(t, p, s, x.bundle, d); got != want {
					t.Errorf("%v: %+v; want %+v", with, got, want)
				}
				same(t, "what Begin did", p, q)
			}
		}
	})
}

// One may write to one's own other device, or to oneself: the same keys on both sides.
func TestBeginWithOneself(t *testing.T) {
	both(t, func(t *testing.T, p *prim.Prim) {
		x := away(t, p, 'a', true)
		q := p.Copy()
		want := wantBegin(q, x.self, x.bundle, draw('e'))
		a := begin(p, x.self, x.bundle, draw('e'))
		if a != want || a.e != api.OK {
			t.Errorf("%+v; want %+v", a, want)
		}
		if got := accept(p, x.self, x.pre, x.once, x.public, a.public); got != (share{secret: a.secret}) {
			t.Errorf("%+v; want %x", got, a.secret)
		}
	})
}

// A key that is none is found at the step that needs it; only the verifying was done then.
func TestBeginRefusesKeys(t *testing.T) {
	p := made(t, api.KitReal)
	x, s := away(t, p, 'a', true), oneOf(t, p, 's')
	refused := func(what, self string, b api.Bundle, d string) {
		t.Helper()
		q := p.Copy()
		want := wantBegin(q, self, b, d)
		if got := begin(p, self, b, d); got != want || got != (answer{e: api.ErrKey}) {
			t.Errorf("%s: %+v; want %+v", what, got, want)
		}
		same(t, what, p, q)
	}
	for _, bad := range []string{"x", draw('x')[1:], draw('x') + "x", strings.Repeat("x", mostBytes-16), draw(0)} {
		what := fmt.Sprintf(" of %d bytes", len(bad))
		if bad != draw(0) {
			refused("a secret"+what, bad, x.bundle, draw('e'))
			refused("a draw"+what, s.self, x.bundle, bad)
		}
		b := x.bundle
		b.Dh = bad
		refused("Dh"+what, s.self, b, draw('e'))
		b = x.bundle
		b.Once = bad
		refused("Once"+what, s.self, b, draw('e'))
		y := x
		y.bundle.Pre = bad
		refused("Pre"+what, s.self, y.sign(t, p).bundle, draw('e'))
	}
	refused("no secret", "", x.bundle, draw('e'))
	refused("no draw", s.self, x.bundle, "")
}

// With terms any text is a secret, or a public key, up to what a table takes.
func TestBeginWithTermsOfAnyTexts(t *testing.T) {
	p := made(t, api.KitTerm)
	x := away(t, p, 'a', true)
	for _, text := range []string{"x", draw('x'), strings.Repeat("x", mostBytes-16)} {
		y := x
		y.bundle.Dh, y.bundle.Pre, y.bundle.Once = text+"d", text+"p", text+"o"
		y = y.sign(t, p)
		for _, self := range []string{"", text, strings.Repeat("y", 1<<16), strings.Repeat("y", 1<<16+1)} {
			q := p.Copy()
			want := wantBegin(q, self, y.bundle, "")
			if got := begin(p, self, y.bundle, ""); got != want || (got.e == api.OK) != (len(self) <= 1<<16) {
				t.Errorf("%d bytes of %d: %+v; want %+v", len(self), len(text), got, want)
			}
			same(t, fmt.Sprint(len(self), " bytes"), p, q)
		}
	}
}

// P16.3

func TestAcceptAsTheDocumentSays(t *testing.T) {
	both(t, func(t *testing.T, p *prim.Prim) {
		for i, with := range []bool{true, false, true, false} {
			x, s := away(t, p, byte(10*i+1), with), oneOf(t, p, byte(10*i+5))
			other := oneOf(t, p, byte(10*i+6))
			for _, once := range []string{x.once, "", other.self} {
				q := p.Copy()
				want := wantAccept(q, x.self, x.pre, once, s.public, other.public)
				if got := accept(p, x.self, x.pre, once, s.public, other.public); got != want || got.e != api.OK || got.secret == "" {
					t.Errorf("%v: %+v; want %+v", with, got, want)
				}
				same(t, "what Accept did", p, q)
			}
		}
	})
}

func TestAcceptRefusesKeys(t *testing.T) {
	p := made(t, api.KitReal)
	x, s, other := away(t, p, 'a', true), oneOf(t, p, 's'), oneOf(t, p, 'e')
	q := p.Copy()
	for _, bad := range []string{"", "x", draw('x')[1:], draw('x') + "x", strings.Repeat("x", 1<<17), draw(0)} {
		calls := map[string]share{
			"peer":   accept(p, x.self, x.pre, x.once, bad, other.public),
			"public": accept(p, x.self, x.pre, x.once, s.public, bad),
		}
		if bad != draw(0) {
			calls["self"] = accept(p, bad, x.pre, x.once, s.public, other.public)
			calls["pre"] = accept(p, x.self, bad, x.once, s.public, other.public)
		}
		if bad != draw(0) && bad != "" {
			calls["once"] = accept(p, x.self, x.pre, bad, s.public, other.public)
		}
		for what, got := range calls {
			if got != (share{e: api.ErrKey}) {
				t.Errorf("%s of %d bytes: %+v", what, len(bad), got)
			}
		}
	}
	same(t, "keys that are none", p, q)
}

// With terms each text may be a key; what is too long is found at the step that it comes to, and what was made ahead stays.
func TestAcceptWithTermsOfAnyTexts(t *testing.T) {
	p := made(t, api.KitTerm)
	x, s, other := away(t, p, 'a', true), oneOf(t, p, 's'), oneOf(t, p, 'e')
	good := [5]string{x.self, x.pre, x.once, s.public, other.public}
	codes := map[api.Errno]int{}
	for place := range good {
		for _, size := range []int{0, 1, 8, 32, 1 << 14, 1<<16 - 24, 1<<16 - 28, 1<<16 - 29, 1 << 16, 1<<16 + 1, 1 << 17} {
			l := good
			l[place] = strings.Repeat("x", size)
			q := p.Copy()
			want := wantAccept(q, l[0], l[1], l[2], l[3], l[4])
			got := accept(p, l[0], l[1], l[2], l[3], l[4])
			if got != want || size <= 1<<14 && got.e != api.OK || size > 1<<16 && got.e != api.ErrLong {
				t.Errorf("place %d, %d bytes: %+v; want %+v", place, size, got, want)
			}
			same(t, fmt.Sprint("place ", place, ", ", size, " bytes"), p, q)
			codes[got.e]++
		}
	}
	if len(codes) != 2 || codes[api.OK] == 0 || codes[api.ErrLong] == 0 {
		t.Errorf("errors: %v", codes)
	}
}

// filled is a table with room for that many terms more.
func filled(t *testing.T, p *prim.Prim, room int) {
	t.Helper()
	for range 1<<16 - room - p.Table().Len() {
		p.Secret("")
	}
	if n := p.Table().Len(); n != 1<<16-room {
		t.Fatalf("%d terms", n)
	}
}

// Where the table comes to be full, the step that finds it so gives the error, and those behind it are not done.
func TestFullTable(t *testing.T) {
	p := made(t, api.KitTerm)
	x, s := away(t, p, 'a', true), oneOf(t, p, 's')
	a := begun(t, p, s, x.bundle, "")
	filled(t, p, 12)
	codes := map[api.Errno]int{}
	for room := 12; room >= 0; room-- {
		q, r := p.Copy(), p.Copy()
		want, got := wantBegin(q, s.self, x.bundle, ""), begin(r, s.self, x.bundle, "")
		if got != want {
			t.Errorf("room for %d: Begin: %+v; want %+v", room, got, want)
		}
		codes[got.e]++
		same(t, fmt.Sprint("Begin with room for ", room), r, q)
		q, r = p.Copy(), p.Copy()
		// Without the once key, and of another one's fresh key, there is something to be made.
		wanted := wantAccept(q, x.self, x.pre, "", x.public, s.public)
		if got := accept(r, x.self, x.pre, "", x.public, s.public); got != wanted {
			t.Errorf("room for %d: Accept: %+v; want %+v", room, got, wanted)
		} else {
			codes[got.e]++
		}
		same(t, fmt.Sprint("Accept with room for ", room), r, q)
		// What both have come to already needs no room.
		if got := accept(p, x.self, x.pre, x.once, s.public, a.public); got != (share{secret: a.secret}) {
			t.Errorf("room for %d: Accept again: %+v", room, got)
		}
		p.Secret("")
	}
	if len(codes) != 2 || codes[api.ErrFull] < 4 || codes[api.OK] < 4 {
		t.Errorf("errors: %v", codes)
	}
}

// P16.4

func TestBothComeToOneSecret(t *testing.T) {
	both(t, func(t *testing.T, p *prim.Prim) {
		chance := rand.New(rand.NewSource(16))
		any32 := func() string {
			b := make([]byte, 32)
			chance.Read(b)
			return string(b)
		}
		seen := map[string]int{}
		for i := range 30 {
			x := device{self: p.Secret(any32()), signing: p.Secret(any32()), pre: p.Secret(any32())}
			x.bundle = api.Bundle{User: chance.Intn(3), Device: chance.Intn(2), PreId: 1 + chance.Intn(mostId)}
			x.bundle.Sign, x.bundle.Dh = fine(t)(p.Signer(x.signing)), fine(t)(p.Public(x.self))
			x.bundle.Pre = fine(t)(p.Public(x.pre))
			if i%2 == 0 {
				x.once = p.Secret(any32())
				x.bundle.OnceId, x.bundle.Once = 1+chance.Intn(mostId), fine(t)(p.Public(x.once))
			}
			x = x.sign(t, p)
			s := one{self: p.Secret(any32())}
			s.public = fine(t)(p.Public(s.self))
			// What goes by way of bytes is as good.
			b, e := x3dh.DecodeBundle(fine(t)(x3dh.EncodeBundle(x.bundle)))
			if e != api.OK {
				t.Fatal(e)
			}
			a := begun(t, p, s, b, any32())
			for range 2 {
				if got := accept(p, x.self, x.pre, x.once, s.public, a.public); got != (share{secret: a.secret}) {
					t.Errorf("%+v; want %x", got, a.secret)
				}
			}
			seen[a.secret]++
			seen[a.public]++
		}
		if len(seen) != 60 {
			t.Errorf("%d secrets and public keys of 30", len(seen))
		}
	})
}

// Two devices with nothing but the bundle between them, each with a prim of its own.
func TestOfTwoPrims(t *testing.T) {
	p, q := made(t, api.KitReal), made(t, api.KitReal)
	x, s := away(t, q, 'a', true), oneOf(t, p, 's')
	a := begun(t, p, s, x.bundle, draw('e'))
	if got := accept(q, x.self, x.pre, x.once, s.public, a.public); got != (share{secret: a.secret}) {
		t.Errorf("%+v; want %x", got, a.secret)
	}
	if len(p.Journal()) != 1 || len(q.Journal()) != 1 { // one verified what the other one signed
		t.Errorf("%d deeds, and %d", len(p.Journal()), len(q.Journal()))
	}
}

// Whatever is another one, on either side, comes to another secret.
func TestOthersComeToAnother(t *testing.T) {
	both(t, func(t *testing.T, p *prim.Prim) {
		x, y, s, z := away(t, p, 'a', true), away(t, p, 'k', true), oneOf(t, p, 's'), oneOf(t, p, 'z')
		a := begun(t, p, s, x.bundle, draw('e'))
		seen := map[string]string{a.secret: "as it is"}
		other := func(what, secret string, e api.Errno) {
			t.Helper()
			if was, ok := seen[secret]; ok || e != api.OK || secret == "" {
				t.Errorf("%s comes to the same as %s: %x, %d", what, was, secret, e)
			}
			seen[secret] = what
		}
		for what, l := range map[string][5]string{
			"another device":     {y.self, x.pre, x.once, s.public, a.public},
			"another pre key":    {x.self, y.pre, x.once, s.public, a.public},
			"another once key":   {x.self, x.pre, y.once, s.public, a.public},
			"no once key":        {x.self, x.pre, "", s.public, a.public},
			"another beginner":   {x.self, x.pre, x.once, z.public, a.public},
			"another public key": {x.self, x.pre, x.once, s.public, z.public},
			"pre and self":       {x.pre, x.self, x.once, s.public, a.public},
			"pre and once":       {x.self, x.once, x.pre, s.public, a.public},
		} {
			got := accept(p, l[0], l[1], l[2], l[3], l[4])
			other(what, got.secret, got.e)
		}
		for what, v := range map[string]variant{
			"no once key offered":      {"", func(b *api.Bundle) { b.OnceId, b.Once = 0, "" }},
			"another once key offered": {"", func(b *api.Bundle) { b.Once = y.bundle.Once }},
			"another Dh":               {"", func(b *api.Bundle) { b.Dh = y.public }},
		} {
			got := begin(p, s.self, v.changed(x.bundle), draw('f'))
			other("begun with "+what, got.secret, got.e)
		}
		got := begin(p, s.self, x.bundle, draw('g'))
		other("begun with another draw", got.secret, got.e)
		got = begin(p, z.self, x.bundle, draw('h'))
		other("begun by another one", got.secret, got.e)
	})
}

// With the real kind the same draw makes the same: the id of a once key and the place of the device are not in the secret.
func TestWhatIsNotInTheSecret(t *testing.T) {
	p := made(t, api.KitReal)
	x, s := away(t, p, 'a', true), oneOf(t, p, 's')
	a := begun(t, p, s, x.bundle, draw('e'))
	b := x.bundle
	b.OnceId, b.User, b.Device = mostId, 0, 0
	if got := begin(p, s.self, b, draw('e')); got != a {
		t.Errorf("%+v; want %+v", got, a)
	}
}

// P16.5

// isKnown tells whether one who has seen those texts knows the term whose text s is.
func isKnown(t *testing.T, p *prim.Prim, s string, seen ...string) bool {
	t.Helper()
	if len(s) != 8 {
		t.Fatalf("no term: %x", s)
	}
	n := int(s[4])<<24 | int(s[5])<<16 | int(s[6])<<8 | int(s[7])
	return p.Table().Known(seen)[n]
}

func TestWhoKnowsTheSecret(t *testing.T) {
	for _, with := range []bool{true, false} {
		p := made(t, api.KitTerm)
		x, s := away(t, p, 'a', with), oneOf(t, p, 's')
		a := begun(t, p, s, x.bundle, "")
		if got := accept(p, x.self, x.pre, x.once, s.public, a.public); got.secret != a.secret {
			t.Fatalf("%+v", got)
		}
		fresh := p.Table()
		term, ok := fresh.Of(a.public)
		if !ok || term.Kind != api.TermPub {
			t.Fatalf("the public key: %+v", term)
		}
		e := "\xf0TRM" + number(4, term.Parts[0])
		seen := []string{fine(t)(x3dh.EncodeBundle(x.bundle)), a.public, s.public}
		for what, l := range map[string]struct {
			have []string
			want bool
		}{
			"who has seen all":                      {nil, false},
			"both long-lived secrets":               {[]string{s.self, x.self}, false},
			"both, and the signing one":             {[]string{s.self, x.self, x.signing}, false},
			"the beginner's":                        {[]string{s.self}, false},
			"the fresh one alone":                   {[]string{e}, false},
			"the pre key's alone":                   {[]string{x.pre}, false},
			"the once key's alone":                  {[]string{x.once}, false},
			"both, and the once key's":              {[]string{s.self, x.self, x.once}, false},
			"both, and the pre key's":               {[]string{s.self, x.self, x.pre}, !with},
			"the device, as long as it has it all":  {[]string{x.self, x.pre, x.once}, true},
			"the beginner, with its fresh secret":   {[]string{s.self, e}, true},
			"the fresh secret, with the pre key's":  {[]string{e, x.pre}, true},
			"the device's own, with the fresh one":  {[]string{e, x.self}, false},
			"the once key's, with the pre key's":    {[]string{x.once, x.pre}, false},
			"the beginner's, the pre and once ones": {[]string{s.self, x.pre, x.once}, false},
		} {
			if got := isKnown(t, p, a.secret, append(append([]string{}, seen...), l.have...)...); got != l.want {
				t.Errorf("once key %v: %s: %v", with, what, got)
			}
		}
	}
}

// P16.6

// What comes back is as it was; what is taken is laid again: of bytes changed anywhere none are taken that are not some bundle's own.
func TestBytesAndBack(t *testing.T) {
	both(t, func(t *testing.T, p *prim.Prim) {
		for _, with := range []bool{true, false} {
			x := away(t, p, 'a', with)
			s := fine(t)(x3dh.EncodeBundle(x.bundle))
			if s != laid(x.bundle) {
				t.Errorf("%x; want %x", s, laid(x.bundle))
			}
			if b, e := x3dh.DecodeBundle(s); b != x.bundle || e != api.OK {
				t.Errorf("%+v, %d; want %+v", b, e, x.bundle)
			}
			taken := 0
			for i := range s {
				for c := range 255 {
					b := []byte(s)
					b[i] += byte(c + 1)
					taken += laidAgain(t, string(b))
				}
			}
			if taken == 0 {
				t.Error("none was taken")
			}
		}
	})
}

// laidAgain looks at bytes: are they a bundle's, they are those that it is laid as.
func laidAgain(t *testing.T, s string) int {
	t.Helper()
	b, e := x3dh.DecodeBundle(s)
	if e != api.OK {
		if b != (api.Bundle{}) || e != api.ErrForm {
			t.Errorf("%x: %+v, %d", s, b, e)
		}
		return 0
	}
	if again, e := x3dh.EncodeBundle(b); again != s || e != api.OK || laid(b) != s {
		t.Errorf("%x, %d; was %x", again, e, s)
	}
	return 1
}

// R1: whatever bytes come, each call ends.
func TestChanceBytes(t *testing.T) {
	chance := rand.New(rand.NewSource(61))
	for range 20000 {
		var s string
		for range 1 + chance.Intn(10) {
			switch chance.Intn(3) {
			case 0:
				s += number(1, chance.Intn(3))
			case 1:
				s += number(4, chance.Intn(4))
			default:
				s += texts(strings.Repeat("x", chance.Intn(3)))
			}
		}
		laidAgain(t, s)
		laidAgain(t, "\x00\x00"+texts("s", "d")+number(4, 1)+s)
		laidAgain(t, "\x00\x00"+texts("s", "d")+number(4, 1)+texts("p", "g")+s)
	}
}

// R5: neither what is handed in nor what is answered is kept but by its content.
func TestNothingIsShared(t *testing.T) {
	both(t, func(t *testing.T, p *prim.Prim) {
		x, s := away(t, p, 'a', true), oneOf(t, p, 's')
		var all [][]byte
		lent := func(s string) string {
			b := []byte(s)
			all = append(all, b)
			return unsafe.String(unsafe.SliceData(b), len(b))
		}
		spoil := func() {
			for _, b := range all {
				for i := range b {
					b[i] ^= 0x55
				}
			}
			all = nil
		}
		lentBundle := func() api.Bundle {
			b := x.bundle
			b.Sign, b.Dh, b.Pre, b.PreSig, b.Once = lent(b.Sign), lent(b.Dh), lent(b.Pre), lent(b.PreSig), lent(b.Once)
			return b
		}
		q := p.Copy()
		want := wantBegin(q, s.self, x.bundle, draw('e'))
		a := begin(p, lent(s.self), lentBundle(), lent(draw('e')))
		spoil()
		if a != want {
			t.Errorf("%+v; want %+v", a, want)
		}
		same(t, "what Begin did", p, q)
		wanted := wantAccept(q, x.self, x.pre, x.once, s.public, a.public)
		got := accept(p, lent(x.self), lent(x.pre), lent(x.once), lent(s.public), lent(a.public))
		spoil()
		if got != wanted || got.secret != a.secret {
			t.Errorf("%+v; want %+v", got, wanted)
		}
		same(t, "what Accept did", p, q)
		l, e := x3dh.EncodeBundle(lentBundle())
		spoil()
		if l != laid(x.bundle) || e != api.OK {
			t.Errorf("%x, %d", l, e)
		}
		b, e := x3dh.DecodeBundle(lent(l))
		spoil()
		if b != x.bundle || e != api.OK {
			t.Errorf("%+v, %d", b, e)
		}
	})
}
