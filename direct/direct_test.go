package direct_test

import (
	"fmt"
	"math"
	"reflect"
	"strings"
	"testing"
	"unsafe"

	"missive/api"
	"missive/direct"
	"missive/disk"
	"missive/prim"
	"missive/store"
)

const (
	mostBytes   = 1 << 14 // of a word
	mostVersion = 1 << 30
	mostId      = 1 << 30
)

// number tells v in that many bytes, the highest first.
func number(size, v int) string {
	b := make([]byte, size)
	for i := range b {
		b[i] = byte(v >> (8 * (size - 1 - i)))
	}
	return string(b)
}

// texts tells texts, each with its length ahead.
func texts(l ...string) string {
	out := ""
	for _, s := range l {
		out += number(4, len(s)) + s
	}
	return out
}

// textOf is a list's text as the document lays it, whether the list may be or not.
func textOf(l api.List) string {
	out := "list" + number(1, l.User) + number(4, l.Version) + texts(l.Account) + number(1, len(l.Devices))
	for _, m := range l.Devices {
		out += number(1, m.Device) + texts(m.Sign, m.Dh)
	}
	return out
}

// bytesOf are a list's bytes.
func bytesOf(l api.List) string { return textOf(l) + texts(l.Sig) }

// bundleBytes are those of a bundle.
func bundleBytes(b api.Bundle) string {
	return number(1, b.User) + number(1, b.Device) + texts(b.Sign, b.Dh) + number(4, b.PreId) +
		texts(b.Pre, b.PreSig) + number(4, b.OnceId) + texts(b.Once)
}

// town is a directory with all that stands below it, and the secrets of those who use it.
type town struct {
	t    *testing.T
	p    *prim.Prim
	disk *disk.Disk
	s    *store.Store
	d    *direct.State
}

func madeOn(t *testing.T, kit, room int) *town {
	t.Helper()
	p, e := prim.New(kit)
	if e != api.OK {
		t.Fatalf("prim.New: %d", e)
	}
	x := &town{t: t, p: p, disk: disk.New(room)}
	x.open()
	return x
}

func made(t *testing.T, kit int) *town {
	t.Helper()
	return madeOn(t, kit, 1<<24)
}

// open makes the store and the state anew.
func (x *town) open() {
	x.t.Helper()
	s, e := store.Open(x.disk)
	if e != api.OK {
		x.t.Fatalf("store.Open: %d", e)
	}
	x.s, x.d = s, stateOf(x.t, x.p, s)
}

func stateOf(t *testing.T, p *prim.Prim, s *store.Store) *direct.State {
	t.Helper()
	d, e := direct.New(p, s)
	if e != api.OK || d == nil {
		t.Fatalf("New: %v, %d", d, e)
	}
	return d
}

// both goes through the two kinds.
func both(t *testing.T, look func(t *testing.T, x *town)) {
	t.Helper()
	for _, kit := range []int{api.KitReal, api.KitTerm} {
		t.Run(fmt.Sprint("kit", kit), func(t *testing.T) { look(t, made(t, kit)) })
	}
}

// draw is one of 32 bytes.
func draw(c byte) string { return strings.Repeat(string([]byte{c}), 32) }

// signer is a secret and its public key: of an account, or of a device.
type signer struct{ secret, public string }

func (x *town) signer(c byte) signer {
	x.t.Helper()
	s := signer{secret: x.p.Secret(draw(c))}
	public, e := x.p.Signer(s.secret)
	if e != api.OK {
		x.t.Fatalf("Signer: %d", e)
	}
	s.public = public
	return s
}

func (x *town) sign(s signer, text string) string {
	x.t.Helper()
	sig, e := x.p.Sign(s.secret, text)
	if e != api.OK {
		x.t.Fatalf("Sign: %d", e)
	}
	return sig
}

// list is one of a user, signed by the account.
func (x *town) list(account signer, user, version int, devices ...api.Member) api.List {
	x.t.Helper()
	return x.signed(account, api.List{User: user, Version: version, Account: account.public, Devices: devices})
}

// signed is the list as the account signs it.
func (x *town) signed(account signer, l api.List) api.List {
	x.t.Helper()
	l.Sig = x.sign(account, textOf(l))
	return l
}

// member is a device whose signer that is.
func member(device int, s signer, dh string) api.Member {
	return api.Member{Device: device, Sign: s.public, Dh: dh}
}

// bundle is one of a member of that user's list, signed by its signer.
func (x *town) bundle(user int, m api.Member, s signer, pre string) api.Bundle {
	x.t.Helper()
	b := api.Bundle{User: user, Device: m.Device, Sign: m.Sign, Dh: m.Dh, PreId: 3, Pre: pre}
	b.PreSig = x.sign(s, "pre"+number(4, b.PreId)+texts(b.Pre))
	return b
}

// onceOf is a once key of that id.
func onceOf(id int) string { return fmt.Sprint("once", id) }

// stock is a call by which that bundle is published, with once keys of the ids from first on.
func stock(b api.Bundle, first, many int) api.Call {
	c := api.Call{Kind: api.CallStock, Bundle: b, Index: first}
	for i := range many {
		c.Onces = append(c.Onces, onceOf(first+i))
	}
	return c
}

func enter(l api.List) api.Call { return api.Call{Kind: api.CallEnter, List: l} }

func ask(user int) api.Call { return api.Call{Kind: api.CallList, User: user} }

func fetch(user, device int) api.Call {
	return api.Call{Kind: api.CallBundle, User: user, Device: device}
}

// do is a call that the store does not fail.
func (x *town) do(from int, c api.Call) api.Answer {
	x.t.Helper()
	a, e := x.d.Do(from, c)
	if e != api.OK {
		x.t.Fatalf("Do(%d, kind %d): %d", from, c.Kind, e)
	}
	return plain(a)
}

// plain is an answer with its empty lists as nil ones.
func plain(a api.Answer) api.Answer {
	if len(a.List.Devices) == 0 {
		a.List.Devices = nil
	}
	if len(a.Items) == 0 {
		a.Items = nil
	}
	return a
}

// is holds what is answered against that which the document asks for.
func (x *town) is(what string, got, want api.Answer) {
	x.t.Helper()
	if !reflect.DeepEqual(got, plain(want)) {
		x.t.Errorf("%s: %.300s in the place of %.300s", what, fmt.Sprintf("%+v", got), fmt.Sprintf("%+v", want))
	}
}

// fine is a call that is answered OK.
func (x *town) fine(from int, c api.Call) api.Answer {
	x.t.Helper()
	a := x.do(from, c)
	if a.Err != api.OK {
		x.t.Fatalf("Do(%d, kind %d): Err %d", from, c.Kind, a.Err)
	}
	return a
}

// refused is a call that is answered with that Err and nothing else, and does nothing to the store.
func (x *town) refused(what string, from int, c api.Call, want api.Errno) {
	x.t.Helper()
	sizes, rows := len(x.disk.Sizes()), rowsOf(x.s)
	x.is(what, x.do(from, c), api.Answer{Err: want})
	x.untouched(what, sizes, rows)
}

// untouched looks whether the store and its disk are as they were.
func (x *town) untouched(what string, sizes int, rows []api.Row) {
	x.t.Helper()
	if len(x.disk.Sizes()) != sizes {
		x.t.Errorf("%s: the disk was at work: %v", what, x.disk.Sizes()[sizes:])
	}
	x.rows(what, rows...)
}

// rowsOf are a store's rows.
func rowsOf(s *store.Store) []api.Row {
	var out []api.Row
	for _, key := range s.List("") {
		value, _ := s.Get(key)
		out = append(out, api.Row{Key: key, Value: value})
	}
	return out
}

// rows holds the store's rows against those that the document asks for, in the order of their keys.
func (x *town) rows(what string, want ...api.Row) {
	x.t.Helper()
	got := rowsOf(x.s)
	if len(got) != len(want) {
		x.t.Errorf("%s: the rows %v, of which there should be %d", what, x.s.List(""), len(want))
		return
	}
	for i, row := range got {
		if row != want[i] {
			x.t.Errorf("%s: the row %q %.60x in the place of %q %.60x", what, row.Key, row.Value, want[i].Key, want[i].Value)
		}
	}
}

// home is a user whose list has both devices; each of them has published a bundle.
type home struct {
	account, sign signer
	devices       [2]api.Member
	bundles       [2]api.Bundle
	list          api.List
}

// settled is that of the user 1, whose devices have the addresses 4 and 5.
func (x *town) settled() home {
	x.t.Helper()
	h := home{account: x.signer('a'), sign: x.signer('s')}
	for i := range h.devices {
		h.devices[i] = member(i, h.sign, fmt.Sprint("dh", i))
	}
	h.list = x.list(h.account, 1, 1, h.devices[:]...)
	x.fine(4, enter(h.list))
	for i, m := range h.devices {
		h.bundles[i] = x.bundle(1, m, h.sign, fmt.Sprint("pre", i))
		x.fine(4+i, stock(h.bundles[i], 1, 0))
	}
	return h
}

// with is a bundle with a once key.
func with(b api.Bundle, id int) api.Bundle {
	b.OnceId, b.Once = id, onceOf(id)
	return b
}

// least is a list with nothing more than it must have.
func least() api.List { return api.List{Version: 1, Account: "a", Sig: "s"} }

// word is a text of so many bytes.
func word(n int) string { return strings.Repeat("w", n) }

func TestExamples(t *testing.T) {
	x := made(t, api.KitTerm)
	a, s := x.signer('a'), x.signer('s')
	device := member(0, s, "d")
	l := x.list(a, 1, 1, device)
	x.is("enter", x.do(4, enter(l)), api.Answer{})
	x.is("list", x.do(9, ask(1)), api.Answer{List: l})
	x.is("the same", x.do(4, enter(l)), api.Answer{})
	x.refused("Version 3", 4, enter(x.list(a, 1, 3, device)), api.ErrStale)
	x.refused("from 6", 6, enter(x.list(a, 1, 2, device)), api.ErrArg)
	x.refused("another account", 4, enter(x.list(x.signer('b'), 1, 2, device)), api.ErrKey)
	b := x.bundle(1, device, s, "pre")
	x.is("stock", x.do(4, stock(b, 1, 3)), api.Answer{Left: 3})
	for i := range 3 {
		x.is("bundle", x.do(9, fetch(1, 0)), api.Answer{Bundle: with(b, i+1), Left: 2 - i})
	}
	x.is("bundle", x.do(9, fetch(1, 0)), api.Answer{Bundle: b})
	x.is("stock again", x.do(4, stock(b, 1, 4)), api.Answer{Left: 1})
	x.refused("post", 4, api.Call{Kind: api.CallPost}, api.ErrArg)
	if d, e := direct.New(nil, x.s); d != nil || e != api.ErrNil {
		t.Errorf("New(nil, ..): %v, %d", d, e)
	}
}

// P18.1

// variant is a change of a list, by which it may be still, or may not.
type variant struct {
	what   string
	change func(l *api.List)
}

func (v variant) changed(l api.List) api.List {
	l.Devices = append([]api.Member{}, l.Devices...)
	v.change(&l)
	return l
}

func devices(numbers ...int) []api.Member {
	var out []api.Member
	for _, n := range numbers {
		out = append(out, api.Member{Device: n, Sign: "s", Dh: "d"})
	}
	return out
}

func listsThatMayBe() []variant {
	return []variant{
		{"the least", func(l *api.List) {}},
		{"the last user", func(l *api.List) { l.User = api.MaxUsers - 1 }},
		{"the greatest version", func(l *api.List) { l.Version = mostVersion }},
		{"the device 0", func(l *api.List) { l.Devices = devices(0) }},
		{"the device 1", func(l *api.List) { l.Devices = devices(1) }},
		{"both devices", func(l *api.List) { l.Devices = devices(0, 1) }},
		{"both of the same keys", func(l *api.List) { l.Devices = devices(0, 1) }},
		{"a long Account", func(l *api.List) { l.Account = word(mostBytes) }},
		{"a long Sig", func(l *api.List) { l.Sig = word(mostBytes) }},
		{"a long Sign", func(l *api.List) { l.Devices = devices(0); l.Devices[0].Sign = word(mostBytes) }},
		{"a long Dh", func(l *api.List) { l.Devices = devices(0, 1); l.Devices[1].Dh = word(mostBytes) }},
		{"any bytes", func(l *api.List) { l.Account, l.Sig = "\x00", "\xff\xf0TRM" }},
		{"all of it", func(l *api.List) {
			w := word(mostBytes)
			*l = api.List{User: 2, Version: mostVersion, Account: w, Sig: w, Devices: []api.Member{{Device: 0, Sign: w, Dh: w}, {Device: 1, Sign: w, Dh: w}}}
		}},
	}
}

func listsThatMayNot() []variant {
	out := []variant{
		{"nothing", func(l *api.List) { *l = api.List{} }},
		{"no Account", func(l *api.List) { l.Account = "" }},
		{"no Sig", func(l *api.List) { l.Sig = "" }},
		{"Account too long", func(l *api.List) { l.Account = word(mostBytes + 1) }},
		{"Sig too long", func(l *api.List) { l.Sig = word(mostBytes + 1) }},
		{"no Sign", func(l *api.List) { l.Devices = devices(0, 1); l.Devices[1].Sign = "" }},
		{"no Dh", func(l *api.List) { l.Devices = devices(0, 1); l.Devices[0].Dh = "" }},
		{"Sign too long", func(l *api.List) { l.Devices = devices(0); l.Devices[0].Sign = word(mostBytes + 1) }},
		{"Dh too long", func(l *api.List) { l.Devices = devices(0, 1); l.Devices[1].Dh = word(mostBytes + 1) }},
		{"falling devices", func(l *api.List) { l.Devices = devices(1, 0) }},
		{"the device 0 twice", func(l *api.List) { l.Devices = devices(0, 0) }},
		{"the device 1 twice", func(l *api.List) { l.Devices = devices(1, 1) }},
		{"three devices", func(l *api.List) { l.Devices = devices(0, 1, 2) }},
		{"three, of which one stands twice", func(l *api.List) { l.Devices = devices(0, 1, 1) }},
		{"256 devices", func(l *api.List) { l.Devices = devices(make([]int, 256)...) }},
		{"257 devices", func(l *api.List) { l.Devices = devices(make([]int, 257)...) }},
	}
	for _, v := range []int{-1, -2, math.MinInt, math.MaxInt, math.MaxInt32, 2, 3, 256, 257, 1 << 32, 1<<32 + 1, 0, mostVersion + 1} {
		if v != 0 && v != 2 {
			out = append(out, variant{fmt.Sprint("User ", v), func(l *api.List) { l.User = v }})
		}
		if v < 1 || v > mostVersion {
			out = append(out, variant{fmt.Sprint("Version ", v), func(l *api.List) { l.Version = v }})
		}
		if v != 0 {
			out = append(out, variant{fmt.Sprint("Device ", v), func(l *api.List) { l.Devices = devices(v) }})
			out = append(out, variant{fmt.Sprint("Devices 0 and ", v), func(l *api.List) { l.Devices = devices(0, v) }})
		}
	}
	return out
}

// The document's layout, byte by byte.
func TestTextIsLaidAsTheDocumentSays(t *testing.T) {
	for want, l := range map[string]api.List{
		"list" + "\x00" + "\x00\x00\x00\x01" + "\x00\x00\x00\x01a" + "\x00": least(),
		"list" + "\x02" + "\x01\x02\x03\x04" + "\x00\x00\x00\x02aa" + "\x02" +
			"\x00" + "\x00\x00\x00\x03sss" + "\x00\x00\x00\x01d" + "\x01" + "\x00\x00\x00\x01S" + "\x00\x00\x00\x02DD": {
			User: 2, Version: 0x01020304, Account: "aa", Sig: "x", Devices: []api.Member{{Device: 0, Sign: "sss", Dh: "d"}, {Device: 1, Sign: "S", Dh: "DD"}}},
		"list" + "\x01" + "\x40\x00\x00\x00" + "\x00\x00\x00\x01\x00" + "\x01" + "\x01" + "\x00\x00\x00\x01s" + "\x00\x00\x00\x01d": {
			User: 1, Version: mostVersion, Account: "\x00", Sig: "y", Devices: []api.Member{{Device: 1, Sign: "s", Dh: "d"}}},
	} {
		if s, e := direct.Text(l); s != want || e != api.OK {
			t.Errorf("%x, %d; want %x", s, e, want)
		}
	}
}

func TestWhichListsMayBe(t *testing.T) {
	p, _ := prim.New(api.KitTerm)
	for _, v := range listsThatMayBe() {
		l := v.changed(least())
		if s, e := direct.Text(l); s != textOf(l) || e != api.OK {
			t.Errorf("%s: %.60x, %d", v.what, s, e)
		}
		if direct.Signed(p, l) {
			t.Errorf("%s: signed by nobody", v.what)
		}
	}
	for _, v := range listsThatMayNot() {
		l := v.changed(least())
		if s, e := direct.Text(l); s != "" || e != api.ErrArg {
			t.Errorf("%s: %.60x, %d", v.what, s, e)
		}
		if direct.Signed(p, l) {
			t.Errorf("%s: signed", v.what)
		}
	}
	if n := len(p.Journal()); n != 0 {
		t.Errorf("%d deeds", n)
	}
}

func TestSigned(t *testing.T) {
	both(t, func(t *testing.T, x *town) {
		a, b := x.signer('a'), x.signer('b')
		l := x.list(a, 1, 7, member(0, a, "d"), member(1, b, "e"))
		before := len(x.p.Journal())
		if !direct.Signed(x.p, l) {
			t.Error("not signed")
		}
		want := api.Deed{Kind: api.DeedVerify, Key: a.public, Text: textOf(l), Ad: l.Sig}
		if j := x.p.Journal()[before:]; len(j) != 1 || j[0] != want {
			t.Errorf("deeds: %+v", j)
		}
		for _, none := range []*prim.Prim{nil, {}} {
			if direct.Signed(none, l) {
				t.Error("signed without a prim")
			}
		}
		// Nothing of it may differ, nor is what an account signed beside it taken for it.
		for _, v := range []variant{
			{"another user", func(l *api.List) { l.User = 0 }},
			{"another version", func(l *api.List) { l.Version = 8 }},
			{"another account", func(l *api.List) { l.Account = b.public }},
			{"a device less", func(l *api.List) { l.Devices = l.Devices[:1] }},
			{"no devices", func(l *api.List) { l.Devices = nil }},
			{"another Sign", func(l *api.List) { l.Devices[0].Sign = b.public }},
			{"another Dh", func(l *api.List) { l.Devices[1].Dh = "d" }},
			{"another signature", func(l *api.List) { l.Sig = x.sign(b, textOf(*l)) }},
			{"a byte behind the signature", func(l *api.List) { l.Sig += "\x00" }},
			{"a byte less of the signature", func(l *api.List) { l.Sig = l.Sig[1:] }},
			{"signed with no head", func(l *api.List) { l.Sig = x.sign(a, textOf(*l)[4:]) }},
			{"signed with a byte behind", func(l *api.List) { l.Sig = x.sign(a, textOf(*l)+"\x00") }},
			{"signed with another signature behind", func(l *api.List) { l.Sig = x.sign(a, bytesOf(*l)) }},
		} {
			if direct.Signed(x.p, v.changed(l)) {
				t.Errorf("%s: signed", v.what)
			}
		}
		for _, v := range listsThatMayNot() {
			bad := v.changed(l)
			if len(textOf(bad)) > mostBytes || len(bad.Sig) > mostBytes {
				continue // no prim makes such a signature
			}
			if bad.Account != "" {
				bad.Account = a.public
			}
			if bad.Sig != "" {
				bad = x.signed(a, bad)
			}
			if direct.Signed(x.p, bad) {
				t.Errorf("%s: signed", v.what)
			}
		}
	})
}

func TestNewWithoutOneOfBoth(t *testing.T) {
	x := made(t, api.KitReal)
	bad := made(t, api.KitReal)
	bad.s.Do([]api.Row{{Key: "z"}}, nil)
	for _, p := range []*prim.Prim{nil, {}, x.p} {
		for _, s := range []*store.Store{nil, {}, x.s, bad.s} {
			want := api.ErrNil
			switch {
			case p == x.p && s == x.s:
				want = api.OK
			case p == x.p && s == bad.s:
				want = api.ErrForm
			}
			d, e := direct.New(p, s)
			if e != want || (d != nil) != (want == api.OK) {
				t.Errorf("%v, %v: %v, %d", p, s, d, e)
			}
		}
	}
}

// newOf makes a store of such a row, and a state of that.
func newOf(t *testing.T, key, value string) (*direct.State, api.Errno) {
	t.Helper()
	x := made(t, api.KitReal)
	if e := x.s.Do([]api.Row{{Key: key, Value: value}}, nil); e != api.OK {
		t.Fatalf("the row %q: %d", key, e)
	}
	sizes, rows := len(x.disk.Sizes()), rowsOf(x.s)
	d, e := direct.New(x.p, x.s)
	x.untouched("New", sizes, rows)
	if n := len(x.p.Journal()); n != 0 {
		t.Errorf("New: %d deeds", n)
	}
	return d, e
}

// someBundle is one that may be of that user's device, without a once key.
func someBundle(user, device int) api.Bundle {
	return api.Bundle{User: user, Device: device, Sign: "s", Dh: "d", PreId: 1, Pre: "p", PreSig: "g"}
}

func TestNewTakesRows(t *testing.T) {
	taken := func(key, value string) {
		t.Helper()
		if d, e := newOf(t, key, value); d == nil || e != api.OK {
			t.Errorf("%q %.60x: %v, %d", key, value, d, e)
		}
	}
	for _, v := range listsThatMayBe() {
		l := v.changed(least())
		taken(fmt.Sprint("l", l.User), bytesOf(l))
	}
	for user := range api.MaxUsers {
		l := least()
		l.User = user
		taken(fmt.Sprint("l", user), bytesOf(l))
		for device := range api.MaxDevices {
			address := fmt.Sprint("0", 2+2*user+device)
			taken("b"+address, bundleBytes(someBundle(user, device)))
			for _, id := range []int{1, 2, 255, 1 << 24, mostId - 1, mostId} {
				taken("m"+address, number(4, id))
				taken(fmt.Sprintf("o%s%010d", address, id), "k")
			}
			taken("o"+address+"0000000001", word(mostBytes))
			taken("o"+address+"0000000001", "\x00")
		}
	}
}

func TestNewRefusesOtherRows(t *testing.T) {
	refused := func(key, value string) {
		t.Helper()
		if d, e := newOf(t, key, value); d != nil || e != api.ErrForm {
			t.Errorf("%q %.60x: %v, %d", key, value, d, e)
		}
	}
	l, b := bytesOf(least()), bundleBytes(someBundle(0, 0))
	good := map[string]string{"l0": l, "b02": b, "m02": number(4, 1), "o020000000001": "k"}
	for key, value := range good {
		refused(key, "")
		for other, wrong := range good {
			if other != key && key[0] != 'o' {
				refused(key, wrong)
			}
		}
		if key[0] != 'o' {
			refused(key, value+"\x00")
			refused(key, "\x00"+value)
			for i := range value {
				refused(key, value[:i])
				refused(key, value[i+1:])
			}
		}
		for i := range key {
			refused(key[:i]+" "+key[i+1:], value)
			refused(key[:i]+"+"+key[i+1:], value)
			refused(key[:i]+"-"+key[i+1:], value)
			refused(key[:i]+":"+key[i+1:], value)
			refused(key[:i]+"\x00"+key[i+1:], value)
			if i > 0 {
				refused(key[:i], value)
			}
			refused(key[:i]+" "+key[i:], value)
			refused(key[:i]+"0"+key[i:], value)
		}
		for _, behind := range []string{"0", "1", " ", "\x00", key} {
			refused(key+behind, value)
		}
		refused(strings.ToUpper(key[:1])+key[1:], value)
	}
	for key, value := range map[string]string{
		// another one's
		"l1": l, "l2": l, "b03": b, "b07": b, "b04": bundleBytes(someBundle(0, 1)),
		// of no user, of no device
		"l3": bytesOf(api.List{User: 3, Version: 1, Account: "a", Sig: "s"}), "l9": l, "l": l, "l00": l,
		"b00": b, "b01": b, "b08": bundleBytes(someBundle(3, 0)), "b": b, "b2": b, "b002": b,
		"m00": number(4, 1), "m01": number(4, 1), "m08": number(4, 1), "m99": number(4, 1), "m2": number(4, 1), "m002": number(4, 1), "m": number(4, 1),
		"o000000000001": "k", "o010000000001": "k", "o080000000001": "k", "o990000000001": "k", "o02": "k", "o2": "k", "o": "k",
		// of no id
		"o020000000000": "k", "o021073741825": "k", "o029999999999": "k", "o02000000001": "k", "o0200000000001": "k", "o02-000000001": "k", "o02+000000001": "k", "o020x00000001": "k", "o020_00000001": "k", "o021": "k",
		"m02": number(4, 0), "m03": number(4, mostId+1), "m04": "\xff\xff\xff\xff", "m05": number(8, 1), "m06": "1", "m07": number(3, 1),
		// no word
		"o030000000001": word(mostBytes + 1),
		// a once key in what was published
		"b02": bundleBytes(with(someBundle(0, 0), 1)),
		// none at all
		"z": "", "0": "", " ": "", "n": "", "\x00": "\x00", "list": l, "p02": b, word(64): "x",
	} {
		refused(key, value)
	}
	for _, v := range listsThatMayNot() {
		bad := v.changed(least())
		if fits(bad) {
			refused("l0", bytesOf(bad))
			refused(fmt.Sprint("l", bad.User), bytesOf(bad))
		}
	}
	for at, c := range map[int]byte{0: 'L', 3: 'T', 4: 3, 5: 0xff, 8: 0, 9: 0x80, 12: 0, 14: 3} {
		bad := []byte(l)
		bad[at] = c
		refused("l0", string(bad))
	}
}

// fits tells whether a list's numbers are as great as they are laid: of others the bytes are another one's.
func fits(l api.List) bool {
	ok := l.User == l.User&0xff && l.Version == l.Version&0xffffffff && len(l.Devices) < 256
	for _, m := range l.Devices {
		ok = ok && m.Device == m.Device&0xff
	}
	return ok
}

// One row that is none is enough, wherever it stands.
func TestNewRefusesOneAmongOthers(t *testing.T) {
	for _, key := range []string{"a", "b02", "c", "l1x", "m03", "o040000000000", "z"} {
		x := made(t, api.KitTerm)
		x.settled()
		x.fine(4, stock(func() api.Bundle { return x.do(9, fetch(1, 0)).Bundle }(), 1, 5))
		if d, e := direct.New(x.p, x.s); d == nil || e != api.OK {
			t.Fatalf("New: %d", e)
		}
		x.s.Do([]api.Row{{Key: key, Value: ""}}, nil)
		if d, e := direct.New(x.p, x.s); d != nil || e != api.ErrForm {
			t.Errorf("%q: %v, %d", key, d, e)
		}
	}
}

// P18.2

func TestNoState(t *testing.T) {
	for _, none := range []*direct.State{nil, {}, new(direct.State)} {
		for kind := -1; kind < 12; kind++ {
			if a, e := none.Do(4, api.Call{Kind: kind}); e != api.ErrNil || !reflect.DeepEqual(a, api.Answer{}) {
				t.Errorf("%d: %+v, %d", kind, a, e)
			}
		}
	}
}

func TestOtherKinds(t *testing.T) {
	x := made(t, api.KitReal)
	h := x.settled()
	c := stock(h.bundles[0], 1, 3)
	c.List, c.User = h.list, 1
	for _, kind := range []int{0, -1, api.CallPost, api.CallTake, api.CallAck, api.CallPut, api.CallGet, 10, 257, math.MinInt, math.MaxInt, 1<<32 + 1} {
		c.Kind = kind
		x.refused(fmt.Sprint("kind ", kind), 4, c, api.ErrArg)
	}
}

func TestCallList(t *testing.T) {
	both(t, func(t *testing.T, x *town) {
		for _, user := range []int{0, 1, 2, 3, -1, 10, 11, math.MinInt, math.MaxInt} {
			x.refused(fmt.Sprint("user ", user), 4, ask(user), api.ErrNone)
		}
		h := x.settled()
		sizes, rows, deeds := len(x.disk.Sizes()), rowsOf(x.s), len(x.p.Journal())
		for _, from := range []int{9, 4, 2, 0, 1, -1, math.MinInt, math.MaxInt} {
			c := ask(1)
			c.Device, c.Kind = from, api.CallList
			x.is("list", x.do(from, c), api.Answer{List: h.list})
		}
		for _, user := range []int{0, 2, 3, -1, 10, 11, 257, 1<<32 + 1, math.MinInt, math.MaxInt} {
			x.refused(fmt.Sprint("user ", user), 4, ask(user), api.ErrNone)
		}
		x.untouched("list", sizes, rows)
		if n := len(x.p.Journal()); n != deeds {
			t.Errorf("%d deeds", n-deeds)
		}
	})
}

// A list may have no devices at all; it is a list still.
func TestListWithoutDevices(t *testing.T) {
	both(t, func(t *testing.T, x *town) {
		a := x.signer('a')
		l := x.list(a, 0, 1)
		x.is("enter", x.do(3, enter(l)), api.Answer{})
		x.is("list", x.do(3, ask(0)), api.Answer{List: l})
		x.rows("enter", api.Row{Key: "l0", Value: bytesOf(l)})
		l.Devices = []api.Member{}
		x.is("again", x.do(2, enter(l)), api.Answer{})
		x.refused("bundle", 9, fetch(0, 0), api.ErrNone)
	})
}

func TestCallBundle(t *testing.T) {
	both(t, func(t *testing.T, x *town) {
		h := x.settled()
		x.fine(4, stock(h.bundles[0], 9, 3))
		x.fine(5, stock(h.bundles[1], 1, 1))
		deeds := len(x.p.Journal())
		for _, c := range [][2]int{{0, 0}, {2, 1}, {3, 0}, {-1, 0}, {1, -1}, {1, 2}, {1, 3}, {0, 2}, {2, -2}, {1, 256}, {1 << 62, 0}, {math.MinInt, math.MinInt}, {math.MaxInt, math.MaxInt}} {
			x.refused(fmt.Sprint("bundle of ", c), 4, fetch(c[0], c[1]), api.ErrNone)
		}
		for i, from := range []int{9, -1, math.MaxInt, 4, 0} {
			sizes, n := len(x.disk.Sizes()), x.s.Len()
			want := api.Answer{Bundle: h.bundles[0]}
			if i < 3 {
				want = api.Answer{Bundle: with(h.bundles[0], 9+i), Left: 2 - i}
			}
			x.is(fmt.Sprint("bundle ", i), x.do(from, fetch(1, 0)), want)
			if i >= 3 && (len(x.disk.Sizes()) != sizes || x.s.Len() != n) {
				t.Error("where no key is, none is gone")
			}
			if i < 3 && x.s.Len() != n-1 {
				t.Errorf("the rows %v", x.s.List(""))
			}
		}
		x.is("the other device", x.do(9, fetch(1, 1)), api.Answer{Bundle: with(h.bundles[1], 1)})
		if n := len(x.p.Journal()); n != deeds {
			t.Errorf("%d deeds", n-deeds)
		}
	})
}

// A device on the list that has published nothing has no bundle; nor has one that is on no list.
func TestNoBundleYet(t *testing.T) {
	x := made(t, api.KitReal)
	a, s := x.signer('a'), x.signer('s')
	x.refused("no list", 9, fetch(1, 0), api.ErrNone)
	x.fine(4, enter(x.list(a, 1, 1, member(0, s, "d"))))
	x.refused("not published", 9, fetch(1, 0), api.ErrNone)
	x.fine(4, stock(x.bundle(1, member(0, s, "d"), s, "pre"), 1, 1))
	x.refused("not on the list", 9, fetch(1, 1), api.ErrNone)
	if x.s.Len() != 4 {
		t.Errorf("the rows %v", x.s.List(""))
	}
}

func TestOncesOfTheLeastIdsFirst(t *testing.T) {
	x := made(t, api.KitTerm)
	h := x.settled()
	ids := []int{8, 9, 10, 11, 98, 99, 100, 101, 999, 1000, 65535, 65536, 1<<24 - 1, 1 << 24, 99999999, 100000000, 999999999, 1000000000, mostId - 2, mostId - 1}
	for i, id := range ids {
		x.is("stock", x.do(4, stock(h.bundles[0], id, 1)), api.Answer{Left: i + 1})
	}
	for i, id := range ids {
		x.is("bundle", x.do(9, fetch(1, 0)), api.Answer{Bundle: with(h.bundles[0], id), Left: len(ids) - 1 - i})
	}
}

// Who enters a list must be one of that user's devices, on the list or not.
func TestWhoEntersAList(t *testing.T) {
	for user := range api.MaxUsers {
		x := made(t, api.KitReal)
		a, s := x.signer('a'), x.signer('s')
		version := 1
		for _, from := range []int{-1, 0, 1, 2, 3, 4, 5, 6, 7, 8, 9, 256 + 2, 1<<32 + 2, math.MinInt, math.MaxInt, -2 - user} {
			c := enter(x.list(a, user, version, member(0, s, "d")))
			if from != 2+2*user && from != 3+2*user {
				x.refused(fmt.Sprint("from ", from), from, c, api.ErrArg)
				continue
			}
			x.is("enter", x.do(from, c), api.Answer{})
			version++
		}
		if version != 3 {
			t.Errorf("user %d: %d lists", user, version-1)
		}
	}
}

func TestListsThatMayNotBeEntered(t *testing.T) {
	both(t, func(t *testing.T, x *town) {
		h := x.settled()
		deeds := len(x.p.Journal())
		for _, v := range listsThatMayNot() {
			x.refused(v.what, 4, enter(v.changed(h.list)), api.ErrArg)
		}
		if n := len(x.p.Journal()); n != deeds {
			t.Errorf("%d deeds", n-deeds)
		}
	})
}

// The order of the errors: who, signed, just this one, the account, the version.
func TestErrorsOfEnter(t *testing.T) {
	both(t, func(t *testing.T, x *town) {
		h, b := x.settled(), x.signer('b')
		unsigned := func(l api.List) api.List {
			l.Sig = x.sign(b, textOf(l))
			return l
		}
		for _, y := range []struct {
			what string
			from int
			l    api.List
			want api.Errno
		}{
			{"not signed, from elsewhere", 6, unsigned(h.list), api.ErrArg},
			{"signed, from elsewhere", 3, h.list, api.ErrArg},
			{"the same, not signed", 4, unsigned(h.list), api.ErrSign},
			{"another account, not signed", 4, func() api.List { l := x.list(b, 1, 2); l.Sig += "x"; return l }(), api.ErrSign},
			{"Version 9, not signed", 4, unsigned(x.list(h.account, 1, 9)), api.ErrSign},
			{"another account, Version 9", 5, x.list(b, 1, 9), api.ErrKey},
			{"another account, Version 1", 5, x.list(b, 1, 1, h.devices[:]...), api.ErrKey},
			{"another account, Version 2", 5, x.list(b, 1, 2, h.devices[:]...), api.ErrKey},
			{"Version 1, another list", 4, x.list(h.account, 1, 1, h.devices[0]), api.ErrStale},
			{"Version 3", 4, x.list(h.account, 1, 3, h.devices[:]...), api.ErrStale},
			{"Version 2^30", 4, x.list(h.account, 1, mostVersion, h.devices[:]...), api.ErrStale},
			{"Version 0", 4, x.list(h.account, 1, 0, h.devices[:]...), api.ErrArg},
		} {
			x.refused(y.what, y.from, enter(y.l), y.want)
		}
		sizes, rows := len(x.disk.Sizes()), rowsOf(x.s)
		x.is("the same", x.do(5, enter(h.list)), api.Answer{})
		x.untouched("the same", sizes, rows)
		for _, version := range []int{2, 3, 9, mostVersion} {
			x.refused(fmt.Sprint("the first one of Version ", version), 6, enter(x.list(b, 2, version)), api.ErrStale)
		}
		x.is("the first one", x.do(6, enter(x.list(b, 2, 1))), api.Answer{})
	})
}

// Up to the greatest version, above which there is none.
func TestTheLastVersion(t *testing.T) {
	x := made(t, api.KitReal)
	a := x.signer('a')
	l := x.list(a, 0, mostVersion-1)
	x.s.Do([]api.Row{{Key: "l0", Value: bytesOf(l)}}, nil)
	x.refused("the one ahead", 2, enter(x.list(a, 0, mostVersion-2)), api.ErrStale)
	x.is("the last one", x.do(2, enter(x.list(a, 0, mostVersion))), api.Answer{})
	x.refused("one more", 2, enter(x.list(a, 0, mostVersion+1)), api.ErrArg)
	x.refused("from the beginning", 2, enter(x.list(a, 0, 1)), api.ErrStale)
}

// A list of the same text with another signature is not just this one.
func TestTheSameTextWithAnotherSignature(t *testing.T) {
	both(t, func(t *testing.T, x *town) {
		a, s := x.signer('a'), x.signer('s')
		l := x.list(a, 1, 5, member(0, s, "d"))
		was := l
		was.Sig += "x"
		x.s.Do([]api.Row{{Key: "l1", Value: bytesOf(was)}}, nil)
		x.refused("another signature", 4, enter(l), api.ErrStale)
		x.refused("the one that is there is not signed", 4, enter(was), api.ErrSign)
		x.is("list", x.do(9, ask(1)), api.Answer{List: was})
		x.is("the next one", x.do(4, enter(x.list(a, 1, 6))), api.Answer{})
	})
}

// full is a home of which both devices have published twenty once keys.
func (x *town) full() home {
	x.t.Helper()
	h := x.settled()
	for i, b := range h.bundles {
		x.fine(4+i, stock(b, 1, 20))
	}
	return h
}

// ofDevice are the rows of a device with onces of the ids from first to last.
func ofDevice(address int, b api.Bundle, first, last int) []api.Row {
	out := []api.Row{{Key: fmt.Sprint("b0", address), Value: bundleBytes(b)}, {Key: fmt.Sprint("m0", address), Value: number(4, last)}}
	for id := first; id <= last; id++ {
		out = append(out, api.Row{Key: fmt.Sprintf("o0%d%010d", address, id), Value: onceOf(id)})
	}
	return out
}

// inOrder are rows in the order of their keys.
func inOrder(lists ...[]api.Row) []api.Row {
	byKey := map[string]api.Row{}
	var keys []string
	for _, l := range lists {
		for _, row := range l {
			byKey[row.Key] = row
			keys = append(keys, row.Key)
		}
	}
	var out []api.Row
	for _, key := range sorted(keys) {
		out = append(out, byKey[key])
	}
	return out
}

func TestRows(t *testing.T) {
	x := made(t, api.KitTerm)
	h := x.full()
	x.rows("full", inOrder([]api.Row{{Key: "l1", Value: bytesOf(h.list)}}, ofDevice(4, h.bundles[0], 1, 20), ofDevice(5, h.bundles[1], 1, 20))...)
	x.fine(9, fetch(1, 0))
	x.fine(9, fetch(1, 0))
	x.rows("two are gone", inOrder([]api.Row{{Key: "l1", Value: bytesOf(h.list)}}, ofDevice(4, h.bundles[0], 3, 20), ofDevice(5, h.bundles[1], 1, 20))...)
}

// Of a device that is on the list no more, or with other keys, nothing is left; of the others, all.
func TestWhoIsOffTheList(t *testing.T) {
	other := signer{public: "other"}
	for _, y := range []struct {
		what    string
		devices func(h home) []api.Member
		stay    [2]bool
	}{
		{"both are on it", func(h home) []api.Member { return h.devices[:] }, [2]bool{true, true}},
		{"the first one is off", func(h home) []api.Member { return h.devices[1:] }, [2]bool{false, true}},
		{"the second one is off", func(h home) []api.Member { return h.devices[:1] }, [2]bool{true, false}},
		{"both are off", func(h home) []api.Member { return nil }, [2]bool{}},
		{"the first one has another Sign", func(h home) []api.Member {
			return []api.Member{member(0, other, h.devices[0].Dh), h.devices[1]}
		}, [2]bool{false, true}},
		{"the second one has another Dh", func(h home) []api.Member {
			return []api.Member{h.devices[0], member(1, h.sign, "other")}
		}, [2]bool{true, false}},
		{"they have each other's Dh", func(h home) []api.Member {
			return []api.Member{member(0, h.sign, h.devices[1].Dh), member(1, h.sign, h.devices[0].Dh)}
		}, [2]bool{}},
		{"the first one is the second one now", func(h home) []api.Member {
			return []api.Member{member(1, h.sign, h.devices[0].Dh)}
		}, [2]bool{}},
	} {
		x := made(t, api.KitTerm)
		h := x.full()
		// Another user's devices are not touched.
		neighbour := x.list(h.account, 0, 1, member(0, h.sign, "n"))
		x.fine(2, enter(neighbour))
		b := x.bundle(0, neighbour.Devices[0], h.sign, "pre")
		x.fine(2, stock(b, 1, 3))
		l := x.list(h.account, 1, 2, y.devices(h)...)
		sizes := len(x.disk.Sizes())
		x.is(y.what, x.do(5, enter(l)), api.Answer{})
		if n := len(x.disk.Sizes()) - sizes; n != 2 { // a frame is put, and synced
			t.Errorf("%s: %d operations", y.what, n)
		}
		want := [][]api.Row{{{Key: "l0", Value: bytesOf(neighbour)}, {Key: "l1", Value: bytesOf(l)}}, ofDevice(2, b, 1, 3)}
		for i, stays := range y.stay {
			if stays {
				want = append(want, ofDevice(4+i, h.bundles[i], 1, 20))
			}
		}
		x.rows(y.what, inOrder(want...)...)
		for i, stays := range y.stay {
			a := x.do(9, fetch(1, i))
			if stays {
				x.is(y.what, a, api.Answer{Bundle: with(h.bundles[i], 1), Left: 19})
			} else {
				x.is(y.what, a, api.Answer{Err: api.ErrNone})
			}
		}
	}
}

// Who comes back onto the list begins anew.
func TestBackOnTheList(t *testing.T) {
	x := made(t, api.KitReal)
	h := x.full()
	x.fine(4, enter(x.list(h.account, 1, 2, h.devices[1])))
	x.refused("off", 4, stock(h.bundles[0], 21, 1), api.ErrNone)
	x.fine(5, enter(x.list(h.account, 1, 3, h.devices[:]...)))
	x.refused("nothing is published", 9, fetch(1, 0), api.ErrNone)
	x.is("stock", x.do(4, stock(h.bundles[0], 5, 2)), api.Answer{Left: 2})
	x.is("bundle", x.do(9, fetch(1, 0)), api.Answer{Bundle: with(h.bundles[0], 5), Left: 1})
}

// stocked is a change of a call that publishes, by which it is answered with an Err.
type stocked struct {
	what   string
	from   int
	change func(c *api.Call)
}

func TestStocksThatMayNotBe(t *testing.T) {
	both(t, func(t *testing.T, x *town) {
		h := x.settled()
		deeds := len(x.p.Journal())
		all := []stocked{
			{"nothing", 4, func(c *api.Call) { c.Bundle = api.Bundle{} }},
			{"a once key", 4, func(c *api.Call) { c.Bundle = with(c.Bundle, 1) }},
			{"an id and no once key", 4, func(c *api.Call) { c.Bundle.OnceId = 1 }},
			{"a once key and no id", 4, func(c *api.Call) { c.Bundle.Once = "o" }},
			{"no Sign", 4, func(c *api.Call) { c.Bundle.Sign = "" }},
			{"no Dh", 4, func(c *api.Call) { c.Bundle.Dh = "" }},
			{"no Pre", 4, func(c *api.Call) { c.Bundle.Pre = "" }},
			{"no PreSig", 4, func(c *api.Call) { c.Bundle.PreSig = "" }},
			{"a long Pre", 4, func(c *api.Call) { c.Bundle.Pre = word(mostBytes + 1) }},
			{"PreId 0", 4, func(c *api.Call) { c.Bundle.PreId = 0 }},
			{"User 3", 4, func(c *api.Call) { c.Bundle.User = 3 }},
			{"User 3, from there", 8, func(c *api.Call) { c.Bundle.User = 3 }},
			{"Device 2", 6, func(c *api.Call) { c.Bundle.Device = 2 }},
			{"Device -1", 3, func(c *api.Call) { c.Bundle.Device = -1 }},
			{"21 onces", 4, func(c *api.Call) { *c = stock(c.Bundle, 1, 21) }},
			{"1000 onces", 4, func(c *api.Call) { *c = stock(c.Bundle, 1, 1000) }},
			{"no bytes", 4, func(c *api.Call) { c.Onces[1] = "" }},
			{"the last one has no bytes", 4, func(c *api.Call) { c.Onces[2] = "" }},
			{"too many bytes", 4, func(c *api.Call) { c.Onces[0] = word(mostBytes + 1) }},
			{"too far", 4, func(c *api.Call) { c.Index = mostId - 2 }},
			{"too far, with none", 4, func(c *api.Call) { c.Index, c.Onces = mostId+1, nil }},
			{"from 1, with none", 4, func(c *api.Call) { c.Index, c.Onces = 0, nil }},
		}
		for _, v := range []int{0, -1, -2, math.MinInt, math.MaxInt, math.MaxInt - 1, math.MaxInt - 2, mostId, mostId + 1, 1 << 32, 1<<32 + 1} {
			all = append(all, stocked{fmt.Sprint("Index ", v), 4, func(c *api.Call) { c.Index = v }})
		}
		for _, from := range []int{-1, 0, 1, 2, 3, 5, 6, 7, 8, 256 + 4, 1<<32 + 4, math.MinInt, math.MaxInt} {
			all = append(all, stocked{fmt.Sprint("from ", from), from, func(c *api.Call) {}})
		}
		for _, y := range all {
			c := stock(h.bundles[0], 1, 3)
			y.change(&c)
			x.refused(y.what, y.from, c, api.ErrArg)
			// This comes ahead of what is not on the list, and of what is not signed.
			c = stock(h.bundles[0], 1, 3)
			c.Bundle.Dh, c.Bundle.PreSig = "elsewhere", "x"
			y.change(&c)
			x.refused(y.what+", not on the list", y.from, c, api.ErrArg)
		}
		if n := len(x.p.Journal()); n != deeds {
			t.Errorf("%d deeds", n-deeds)
		}
	})
}

// The edges that may be.
func TestStocksThatMayBe(t *testing.T) {
	both(t, func(t *testing.T, x *town) {
		h := x.settled()
		b := h.bundles[0]
		x.is("none", x.do(4, stock(b, 1, 0)), api.Answer{})
		x.is("none of far", x.do(4, stock(b, mostId, 0)), api.Answer{})
		x.rows("no once key was published", inOrder([]api.Row{{Key: "l1", Value: bytesOf(h.list)}, {Key: "b04", Value: bundleBytes(b)}, {Key: "b05", Value: bundleBytes(h.bundles[1])}})...)
		c := stock(b, 7, 1)
		c.Onces[0] = word(mostBytes)
		x.is("a long one", x.do(4, c), api.Answer{Left: 1})
		c = stock(b, 8, 1)
		c.Onces[0] = "\x00"
		x.is("a short one", x.do(4, c), api.Answer{Left: 2})
		x.is("the last ones", x.do(4, stock(b, mostId-18, 18)), api.Answer{Left: 20})
		for i, once := range []string{word(mostBytes), "\x00", onceOf(mostId - 18), onceOf(mostId - 17)} {
			if a := x.fine(9, fetch(1, 0)); a.Bundle.Once != once || a.Left != 19-i {
				t.Errorf("%d: %.60x, %d", i, a.Bundle.Once, a.Left)
			}
		}
		// Sixteen are left, of which the last one has the greatest id there is but one.
		x.is("no greater ones", x.do(4, stock(b, mostId-20, 20)), api.Answer{Left: 16})
	})
}

// The errors behind: on the list, signed; and what is done with a bundle that is.
func TestErrorsOfStock(t *testing.T) {
	both(t, func(t *testing.T, x *town) {
		h, other := x.settled(), x.signer('o')
		deeds := len(x.p.Journal())
		for _, y := range []struct {
			what string
			from int
			b    api.Bundle
			want api.Errno
		}{
			{"no list", 2, func() api.Bundle { b := h.bundles[0]; b.User = 0; return b }(), api.ErrNone},
			{"another Dh", 4, func() api.Bundle { b := h.bundles[0]; b.Dh = h.devices[1].Dh; return b }(), api.ErrNone},
			{"another Sign", 4, func() api.Bundle { b := h.bundles[0]; b.Sign = other.public; return b }(), api.ErrNone},
			{"another Sign, signed by it", 4, x.bundle(1, member(0, other, "dh0"), other, "pre"), api.ErrNone},
			{"another Dh, not signed", 4, func() api.Bundle { b := h.bundles[0]; b.Dh, b.PreSig = "d", "x"; return b }(), api.ErrNone},
			{"another signature", 4, func() api.Bundle { b := h.bundles[0]; b.PreSig = h.bundles[1].PreSig; return b }(), api.ErrSign},
			{"another one's signature", 4, x.bundle(1, h.devices[0], other, "pre0"), api.ErrSign},
			{"another Pre", 4, func() api.Bundle { b := h.bundles[0]; b.Pre = "pre"; return b }(), api.ErrSign},
			{"another PreId", 4, func() api.Bundle { b := h.bundles[0]; b.PreId++; return b }(), api.ErrSign},
		} {
			x.refused(y.what, y.from, stock(y.b, 1, 3), y.want)
		}
		if n := len(x.p.Journal()); n != deeds+2 { // two of them had to be signed, by sign of the test
			t.Errorf("%d deeds", n-deeds)
		}
		b := x.bundle(1, h.devices[0], h.sign, "another")
		deeds = len(x.p.Journal())
		x.is("another bundle", x.do(4, stock(b, 1, 0)), api.Answer{})
		want := api.Deed{Kind: api.DeedVerify, Key: h.sign.public, Text: "pre" + number(4, 3) + texts("another"), Ad: b.PreSig}
		if j := x.p.Journal()[deeds:]; len(j) != 1 || j[0] != want {
			t.Errorf("deeds: %+v", j)
		}
		x.is("that is the bundle now", x.do(9, fetch(1, 0)), api.Answer{Bundle: b})
	})
}

// On a list without the device, nothing is taken of it.
func TestStockOfADeviceThatIsNotOnTheList(t *testing.T) {
	x := made(t, api.KitReal)
	a, s := x.signer('a'), x.signer('s')
	x.fine(4, enter(x.list(a, 1, 1, member(1, s, "d"))))
	x.refused("the device 0", 4, stock(x.bundle(1, member(0, s, "d"), s, "pre"), 1, 1), api.ErrNone)
	x.refused("without devices", 4, enter(x.list(a, 2, 1)), api.ErrArg)
	x.is("the device 1", x.do(5, stock(x.bundle(1, member(1, s, "d"), s, "pre"), 1, 1)), api.Answer{Left: 1})
}

// Of those that are handed in those are taken that are above all that ever were, as long as there is room.
func TestWhichOncesAreTaken(t *testing.T) {
	x := made(t, api.KitTerm)
	h := x.settled()
	b := h.bundles[0]
	for i, y := range []struct{ first, many, taken, left int }{
		{5, 3, 0, 3},     // 5 to 7
		{5, 3, 0, 3},     // again
		{1, 4, 0, 3},     // below
		{4, 3, 0, 3},     // below, and the same
		{6, 3, 0, 4},     // 8 alone
		{100, 1, 4, 1},   // behind what was handed out, and far ahead
		{9, 20, 0, 1},    // in between
		{81, 20, 0, 1},   // up to 100
		{90, 20, 0, 10},  // 101 to 109
		{1, 20, 3, 7},    // below what is there, and was handed out
		{110, 20, 0, 20}, // 110 to 122: room for 13
		{110, 20, 0, 20}, // no room
		{110, 20, 5, 20}, // 123 to 127: those were not put, so they are not gone
		{123, 20, 20, 15},
	} {
		for range y.taken {
			x.fine(9, fetch(1, 0))
		}
		x.is(fmt.Sprint("step ", i), x.do(4, stock(b, y.first, y.many)), api.Answer{Left: y.left})
	}
	// Those of the ids 128 to 142.
	for i := range 15 {
		x.is("bundle", x.do(9, fetch(1, 0)), api.Answer{Bundle: with(b, 128+i), Left: 14 - i})
	}
	x.is("the other device has its own", x.do(5, stock(h.bundles[1], 1, 2)), api.Answer{Left: 2})
}

// What is put again under an id is not taken, be the key another one.
func TestTheSameIdWithAnotherKey(t *testing.T) {
	x := made(t, api.KitReal)
	h := x.settled()
	x.fine(4, stock(h.bundles[0], 1, 2))
	x.fine(9, fetch(1, 0))
	c := stock(h.bundles[0], 1, 2)
	c.Onces[0], c.Onces[1] = "another", "one"
	x.is("stock", x.do(4, c), api.Answer{Left: 1})
	x.is("bundle", x.do(9, fetch(1, 0)), api.Answer{Bundle: with(h.bundles[0], 2)})
	x.is("bundle", x.do(9, fetch(1, 0)), api.Answer{Bundle: h.bundles[0]})
}

// Each change is one of the store's: put, and synced.
func TestOneChangeACall(t *testing.T) {
	x := made(t, api.KitTerm)
	h := x.full()
	for what, y := range map[string]struct {
		from, want int
		c          api.Call
	}{
		"list":            {9, 0, ask(1)},
		"bundle":          {9, 2, fetch(1, 0)},
		"the same list":   {4, 0, enter(h.list)},
		"stock":           {5, 2, stock(h.bundles[1], 21, 20)},
		"the second list": {4, 2, enter(x.list(h.account, 1, 2, h.devices[1]))},
	} {
		c := *x
		c.disk = x.disk.Copy()
		c.open()
		sizes := len(c.disk.Sizes())
		c.fine(y.from, y.c)
		if n := len(c.disk.Sizes()) - sizes; n != y.want {
			t.Errorf("%s: %d operations in the place of %d", what, n, y.want)
		}
	}
}

// An error of the store is the call's, and nothing is answered; what does not change the store is answered still.
func TestErrorsOfTheStore(t *testing.T) {
	both(t, func(t *testing.T, x *town) {
		h := x.full()
		changes := map[string]struct {
			from int
			c    api.Call
		}{
			"bundle":          {9, fetch(1, 0)},
			"stock":           {4, stock(h.bundles[0], 1, 20)},
			"a list":          {4, enter(x.list(h.account, 1, 2, h.devices[0]))},
			"another's first": {2, enter(x.list(h.account, 0, 1))},
		}
		for what, y := range changes {
			for after := 1; after <= 2; after++ {
				c := *x
				c.disk = x.disk.Copy()
				c.open()
				rows := rowsOf(c.s)
				c.disk.Arm(after)
				if a, e := c.d.Do(y.from, y.c); e != api.ErrDown || !reflect.DeepEqual(a, api.Answer{}) {
					t.Errorf("%s, at %d: %+v, %d", what, after, a, e)
				}
				c.rows(what, rows...)
				if a, e := c.d.Do(y.from, y.c); e != api.ErrDown || !reflect.DeepEqual(a, api.Answer{}) {
					t.Errorf("%s, down: %+v, %d", what, a, e)
				}
				c.is("list", c.do(9, ask(1)), api.Answer{List: h.list})
				c.is("the same", c.do(4, enter(h.list)), api.Answer{})
				c.is("refused", c.do(4, stock(h.bundles[1], 1, 1)), api.Answer{Err: api.ErrArg})
			}
		}
	})
}

// A disk without room: what was answered OK is there, and what was not is not.
func TestWithoutRoom(t *testing.T) {
	x := madeOn(t, api.KitTerm, 1200)
	a, s := x.signer('a'), x.signer('s')
	m := member(0, s, "d")
	l := x.list(a, 1, 1, m)
	x.fine(4, enter(l))
	b := x.bundle(1, m, s, "pre")
	full := 0
	for i := range 40 {
		rows, c := rowsOf(x.s), stock(b, i+1, 1)
		c.Onces[0] = strings.Repeat("k", 60)
		answer, e := x.d.Do(4, c)
		switch e {
		case api.ErrFull:
			full++
			x.rows("full", rows...)
			x.is("full", answer, api.Answer{})
			x.open()
			x.rows("opened anew", rows...)
		case api.OK:
			x.is("stock", answer, api.Answer{Left: min(i+1, 20)})
		default:
			t.Fatalf("%d: %d", i, e)
		}
	}
	if full < 5 {
		t.Errorf("full %d times", full)
	}
	x.is("list", x.do(9, ask(1)), api.Answer{List: l})
}

// R5: neither what is handed in nor what is answered is kept but by its content.
func TestNothingIsShared(t *testing.T) {
	both(t, func(t *testing.T, x *town) {
		h := x.settled()
		var all [][]byte
		lent := func(s string) string {
			if s == "" {
				return s
			}
			b := []byte(s)
			all = append(all, b)
			return unsafe.String(unsafe.SliceData(b), len(b))
		}
		spoil := func() {
			for _, b := range all {
				for i := range b {
					b[i] ^= 0x55
				}
			}
			all = nil
		}
		lentList := func(l api.List) api.List {
			l.Account, l.Sig = lent(l.Account), lent(l.Sig)
			l.Devices = append([]api.Member{}, l.Devices...)
			for i := range l.Devices {
				l.Devices[i].Sign, l.Devices[i].Dh = lent(l.Devices[i].Sign), lent(l.Devices[i].Dh)
			}
			return l
		}
		l := x.list(h.account, 1, 2, h.devices[:]...)
		handed := lentList(l)
		x.fine(4, enter(handed))
		clear(handed.Devices)
		spoil()
		x.is("list", x.do(9, ask(1)), api.Answer{List: l})
		c := stock(h.bundles[0], 1, 2)
		b := h.bundles[0]
		b.Sign, b.Dh, b.Pre, b.PreSig = lent(b.Sign), lent(b.Dh), lent(b.Pre), lent(b.PreSig)
		c.Bundle = b
		for i := range c.Onces {
			c.Onces[i] = lent(c.Onces[i])
		}
		x.fine(4, c)
		clear(c.Onces)
		spoil()
		first := x.fine(9, fetch(1, 0))
		x.is("bundle", first, api.Answer{Bundle: with(h.bundles[0], 1), Left: 1})
		// Nor is room behind what is handed in written to.
		room := append(make([]api.Member, 0, 4), h.devices[0], h.devices[1], api.Member{Device: 7})
		l.Devices = room[:2]
		l = x.signed(h.account, api.List{User: 1, Version: 3, Account: h.account.public, Devices: room[:1]})
		x.fine(4, enter(l))
		if room[0] != h.devices[0] || room[1] != h.devices[1] || room[2] != (api.Member{Device: 7}) {
			t.Errorf("room behind a list: %+v", room)
		}
		a, again := x.do(9, ask(1)), x.do(9, ask(1))
		clear(a.List.Devices)
		x.is("an answer was changed", again, api.Answer{List: l})
		x.is("an answer was changed", x.do(9, ask(1)), api.Answer{List: l})
		text, e := direct.Text(lentList(l))
		spoil()
		if text != textOf(l) || e != api.OK {
			t.Errorf("Text: %x, %d", text, e)
		}
	})
}
