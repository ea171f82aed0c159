package calls_test

import (
	"fmt"
	"math"
	"reflect"
	"strings"
	"testing"

	"missive/api"
	"missive/calls"
)

const most64 = math.MaxUint64

func x(n int) string { return strings.Repeat("x", n) }

// raw is what digits stand for; blanks count for nothing.
func raw(digits string) string {
	const all = "0123456789abcdef"
	digits = strings.ReplaceAll(digits, " ", "")
	out := []byte{}
	for i := 0; i+1 < len(digits); i += 2 {
		out = append(out, byte(strings.IndexByte(all, digits[i])<<4|strings.IndexByte(all, digits[i+1])))
	}
	return string(out)
}

// short is bytes' digits, or a thing as it is told, but no more than can be read.
func short(v any) string {
	out := fmt.Sprintf("%+v", v)
	if s, ok := v.(string); ok {
		out = fmt.Sprintf("%d bytes %x", len(s), s)
	}
	if len(out) > 400 {
		out = out[:400] + ".."
	}
	return strings.ToValidUTF8(out, "?")
}

// Each of these makes a new one, so that a test may change it.

func list() api.List {
	return api.List{User: 1, Version: 7, Account: "ac", Sig: "g", Devices: []api.Member{{Device: 0, Sign: "s", Dh: "d"}, {Device: 1, Sign: "st", Dh: "e"}}}
}

func bundle() api.Bundle {
	return api.Bundle{User: 2, Device: 1, Sign: "s", Dh: "dh", PreId: 3, Pre: "p", PreSig: "q"}
}

func withOnce() api.Bundle {
	b := bundle()
	b.OnceId, b.Once = 9, "o"
	return b
}

func item() api.Item { return api.Item{Number: 5, From: 3, Nonce: 6, Bytes: "it"} }

// callOf is a call of that kind that may be.
func callOf(kind int) api.Call {
	c := api.Call{Kind: kind}
	for _, field := range has[kind] {
		switch field {
		case "User":
			c.User = 2
		case "Device":
			c.Device = 1
		case "List":
			c.List = list()
		case "Bundle":
			c.Bundle = bundle()
		case "Onces":
			c.Onces = []string{"k", "kl"}
		case "To":
			c.To = 4
		case "Nonce":
			c.Nonce = 2
		case "After":
			c.After = 3
		case "Name":
			c.Name = "n"
		case "Index":
			c.Index = 7
		case "Bytes":
			c.Bytes = "by"
		}
	}
	return c
}

func answer() api.Answer {
	return api.Answer{List: list(), Bundle: withOnce(), Items: []api.Item{item(), {Number: 1, From: 7, Nonce: 1, Bytes: "u"}}, Bytes: "b", Left: 4}
}

// answers are some that may be.
func answers() []api.Answer {
	return []api.Answer{{}, {Err: api.ErrQuota}, {List: list()}, {Bundle: bundle()}, {Bundle: withOnce(), Left: 20}, {Items: []api.Item{item()}}, {Bytes: "z"}, answer()}
}

// wantCall holds Check, EncodeCall and DecodeCall against what they are to say of a call.
func wantCall(t *testing.T, what string, c api.Call, want api.Errno) {
	t.Helper()
	check := want
	if want == api.ErrLong {
		check = api.OK
	}
	if e := calls.Check(c); e != check {
		t.Errorf("%s: Check: %d, want %d", what, e, check)
	}
	s, e := calls.EncodeCall(most64, c)
	bytes, form, id, back := laidCall(most64, c), want, uint64(most64), c
	if want != api.OK {
		bytes, form, id, back = "", api.ErrForm, 0, api.Call{}
	}
	if e != want || s != bytes {
		t.Errorf("%s: EncodeCall: %d, %s; want %d, %s", what, e, short(s), want, short(bytes))
	}
	if got, d, e := calls.DecodeCall(laidCall(most64, c)); got != id || e != form || !same(d, back) {
		t.Errorf("%s: DecodeCall: %d, %s, %d; want %d", what, got, short(d), e, form)
	}
}

// wantAnswer does so with an answer.
func wantAnswer(t *testing.T, what string, a api.Answer, want api.Errno) {
	t.Helper()
	s, e := calls.EncodeAnswer(most64, a)
	bytes, form, id, back := laidAnswer(most64, a), want, uint64(most64), a
	if want != api.OK {
		bytes, form, id, back = "", api.ErrForm, 0, api.Answer{}
	}
	if e != want || s != bytes {
		t.Errorf("%s: EncodeAnswer: %d, %s; want %d, %s", what, e, short(s), want, short(bytes))
	}
	if got, d, e := calls.DecodeAnswer(laidAnswer(most64, a)); got != id || e != form || !same(d, back) {
		t.Errorf("%s: DecodeAnswer: %d, %s, %d; want %d", what, got, short(d), e, form)
	}
}

// same tells whether two things are alike, an empty list being as none, without the package that is tested.
func same(a, b any) bool { return alike(reflect.ValueOf(a), reflect.ValueOf(b)) }

func alike(a, b reflect.Value) bool {
	switch a.Kind() {
	case reflect.Struct:
		for i := range a.NumField() {
			if !alike(a.Field(i), b.Field(i)) {
				return false
			}
		}
		return true
	case reflect.Slice:
		for i := range min(a.Len(), b.Len()) {
			if !alike(a.Index(i), b.Index(i)) {
				return false
			}
		}
		return a.Len() == b.Len()
	}
	return a.Equal(b)
}

// fit is an errno by whether all is well.
func fit(ok bool) api.Errno {
	if ok {
		return api.OK
	}
	return api.ErrArg
}

// ints are numbers about those from least to most, and whether they are of them. Those that are more by 2^8, 2^16, 2^32 would be laid as one of them.
func ints(least, most int) map[int]bool {
	out := map[int]bool{math.MinInt: false, math.MaxInt: false}
	for _, v := range []int{least - 1, -1, most + 1, least + 1<<8, most + 1<<8, least + 1<<16, least + 1<<32, most + 1<<32, -least, least - 1<<8} {
		out[v] = least <= v && v <= most
	}
	out[least], out[most] = true, true
	return out
}

// wides are numbers about those from least to 2^40.
func wides(least uint64) map[uint64]bool {
	return map[uint64]bool{0: least == 0, 1: true, 1<<40 - 1: true, 1 << 40: true, 1<<40 + 1: false, 1 << 41: false, 1 << 63: false, most64: false, most64 - 1<<40: false}
}

// sizes are lengths about those from least to most.
func sizes(least, most int) map[int]bool {
	return map[int]bool{0: least == 0, 1: true, most - 1: true, most: true, most + 1: false, most + 1<<8: false, most + 1<<16: false}
}

// P19.1, P19.2, P19.3: the examples, and each kind's bytes in digits.

func TestExamples(t *testing.T) {
	for _, x := range []struct {
		id     uint64
		call   api.Call
		digits string
	}{
		{7, api.Call{Kind: api.CallTake, After: 3}, "0000000000000007 06 0000000000000003"},
		{1, api.Call{Kind: api.CallPost, To: 4, Nonce: 2, Bytes: "x"}, "0000000000000001 05 04 0000000000000002 00000001 78"},
		{0, api.Call{Kind: api.CallAck, After: 1 << 40}, "0000000000000000 07 0000010000000000"},
		{most64, api.Call{Kind: api.CallList, User: 2}, "ffffffffffffffff 01 02"},
		{1 << 63, api.Call{Kind: api.CallBundle, User: 2, Device: 1}, "8000000000000000 02 02 01"},
		{2, callOf(api.CallEnter), "0000000000000002 03 00000028" +
			"01 00000007 00000002 6163 02" + "00 00000001 73 00000001 64" + "01 00000002 7374 00000001 65" + "00000001 67"},
		{3, callOf(api.CallStock), "0000000000000003 04 00000023" +
			"02 01 00000001 73 00000002 6468 00000003 00000001 70 00000001 71 00000000 00000000" + "00000007 02 00000001 6b 00000002 6b6c"},
		{4, api.Call{Kind: api.CallPut, Name: "nm", Index: 63, Bytes: "y"}, "0000000000000004 08 00000002 6e6d 3f 00000001 79"},
		{5, api.Call{Kind: api.CallGet, Name: "nm", Index: 0}, "0000000000000005 09 00000002 6e6d 00"},
	} {
		s, e := calls.EncodeCall(x.id, x.call)
		if e != api.OK || s != raw(x.digits) {
			t.Errorf("EncodeCall(%d, %+v): %d, %x", x.id, x.call, e, s)
		}
		if id, c, e := calls.DecodeCall(raw(x.digits)); id != x.id || e != api.OK || !same(c, x.call) {
			t.Errorf("DecodeCall(%s): %d, %+v, %d", x.digits, id, c, e)
		}
	}
	for name, c := range map[string]api.Call{"post to 1": {Kind: api.CallPost, To: 1, Nonce: 1, Bytes: "x"}, "get with Bytes": {Kind: api.CallGet, Name: "n", Bytes: "x"}, "a zero call": {}} {
		if e := calls.Check(c); e != api.ErrArg {
			t.Errorf("%s: %d", name, e)
		}
	}
	first := raw("0000000000000007 06 0000000000000003")
	for _, s := range []string{first[:len(first)-1], first + "\x00", ""} {
		if id, c, e := calls.DecodeCall(s); id != 0 || e != api.ErrForm || !same(c, api.Call{}) {
			t.Errorf("DecodeCall(%x): %d, %+v, %d", s, id, c, e)
		}
	}
}

func TestExamplesOfAnswers(t *testing.T) {
	list := "00000028" + "01 00000007 00000002 6163 02" + "00 00000001 73 00000001 64" + "01 00000002 7374 00000001 65" + "00000001 67"
	once := "00000024" + "02 01 00000001 73 00000002 6468 00000003 00000001 70 00000001 71 00000009 00000001 6f"
	items := "02" + "0000000000000005 03 0000000000000006 00000002 6974" + "0000000000000001 07 0000000000000001 00000001 75"
	for _, x := range []struct {
		id     uint64
		answer api.Answer
		digits string
	}{
		{7, api.Answer{Err: api.ErrQuota}, "0000000000000007 0d" + strings.Repeat("00", 14)},
		{7, api.Answer{}, "0000000000000007 00" + strings.Repeat("00", 14)},
		{most64, api.Answer{Bytes: "xy", Left: 20}, "ffffffffffffffff 00 00000000 00000000 00 00000002 7879 14"},
		{0, answer(), "0000000000000000 00" + list + once + items + "00000001 62 04"},
	} {
		s, e := calls.EncodeAnswer(x.id, x.answer)
		if e != api.OK || s != raw(x.digits) {
			t.Errorf("EncodeAnswer(%d, %+v): %d, %x", x.id, x.answer, e, s)
		}
		if id, a, e := calls.DecodeAnswer(raw(x.digits)); id != x.id || e != api.OK || !same(a, x.answer) {
			t.Errorf("DecodeAnswer(%s): %d, %+v, %d", x.digits, id, a, e)
		}
	}
	for _, s := range []string{raw("0000000000000007 00" + strings.Repeat("00", 13)), raw("0000000000000007 00" + strings.Repeat("00", 15)), ""} {
		if id, a, e := calls.DecodeAnswer(s); id != 0 || e != api.ErrForm || !same(a, api.Answer{}) {
			t.Errorf("DecodeAnswer(%x): %d, %+v, %d", s, id, a, e)
		}
	}
}

func TestKindsAreTheDocuments(t *testing.T) {
	for kind, want := range []int{0, api.CallList, api.CallBundle, api.CallEnter, api.CallStock, api.CallPost, api.CallTake, api.CallAck, api.CallPut, api.CallGet} {
		if kind != want {
			t.Errorf("the kind %d is %d", kind, want)
		}
		wantCall(t, fmt.Sprint("kind ", kind), callOf(kind), fit(kind > 0))
	}
	for _, kind := range []int{-1, 10, 11, 255, 256, 257, 256 + 6, 1<<32 + 6, math.MinInt, math.MaxInt, -250} {
		c := callOf(6)
		c.Kind = kind
		if e := calls.Check(c); e != api.ErrArg {
			t.Errorf("the kind %d: %d", kind, e)
		}
		if s, e := calls.EncodeCall(1, c); s != "" || e != api.ErrArg {
			t.Errorf("the kind %d: %x, %d", kind, s, e)
		}
	}
	for kind := range 256 {
		s := number(8, 1) + small(kind) + number(8, 3)
		if id, c, e := calls.DecodeCall(s); (e == api.OK) != (kind == 6 || kind == 7) || e != api.OK && (id != 0 || !same(c, api.Call{})) {
			t.Errorf("bytes of the kind %d: %d, %+v, %d", kind, id, c, e)
		}
	}
}

// P19.1 of calls: each field at its edges.

func TestNumbersOfCalls(t *testing.T) {
	for _, x := range []struct {
		kind        int
		least, most int
		set         func(*api.Call, int)
	}{
		{1, 0, 2, func(c *api.Call, v int) { c.User = v }},
		{2, 0, 2, func(c *api.Call, v int) { c.User = v }},
		{2, 0, 1, func(c *api.Call, v int) { c.Device = v }},
		{4, 1, 1 << 30, func(c *api.Call, v int) { c.Index = v }},
		{5, 2, 7, func(c *api.Call, v int) { c.To = v }},
		{8, 0, 63, func(c *api.Call, v int) { c.Index = v }},
		{9, 0, 63, func(c *api.Call, v int) { c.Index = v }},
	} {
		for v, ok := range ints(x.least, x.most) {
			c := callOf(x.kind)
			x.set(&c, v)
			what := fmt.Sprintf("kind %d, a number %d", x.kind, v)
			if !ok {
				wantRefused(t, what, c)
				continue
			}
			wantCall(t, what, c, api.OK)
		}
	}
}

// wantRefused holds Check and EncodeCall against a call that may not be, whose bytes may be another one's.
func wantRefused(t *testing.T, what string, c api.Call) {
	t.Helper()
	s, e := calls.EncodeCall(1, c)
	if f := calls.Check(c); e != api.ErrArg || s != "" || f != api.ErrArg {
		t.Errorf("%s: %d, %s, %d", what, e, short(s), f)
	}
}

func TestWidesOfCalls(t *testing.T) {
	for _, x := range []struct {
		kind  int
		least uint64
		set   func(*api.Call, uint64)
	}{
		{5, 1, func(c *api.Call, v uint64) { c.Nonce = v }},
		{6, 0, func(c *api.Call, v uint64) { c.After = v }},
		{7, 0, func(c *api.Call, v uint64) { c.After = v }},
	} {
		for v, ok := range wides(x.least) {
			c := callOf(x.kind)
			x.set(&c, v)
			wantCall(t, fmt.Sprintf("kind %d, a number %d", x.kind, v), c, fit(ok))
		}
	}
}

func TestTextsOfCalls(t *testing.T) {
	for _, y := range []struct {
		kind, most int
		set        func(*api.Call, string)
	}{
		{5, 1 << 12, func(c *api.Call, s string) { c.Bytes = s }},
		{8, 1 << 12, func(c *api.Call, s string) { c.Bytes = s }},
		{8, 40, func(c *api.Call, s string) { c.Name = s }},
		{9, 40, func(c *api.Call, s string) { c.Name = s }},
		{4, 1000, func(c *api.Call, s string) { c.Onces[0] = s }},
		{4, 1000, func(c *api.Call, s string) { c.Onces = []string{"a", "a", s} }},
		{3, 1000, func(c *api.Call, s string) { c.List.Account = s }},
		{3, 1000, func(c *api.Call, s string) { c.List.Devices[1].Dh = s }},
	} {
		for n, ok := range sizes(1, y.most) {
			c := callOf(y.kind)
			y.set(&c, x(n))
			wantCall(t, fmt.Sprintf("kind %d, a text of %d", y.kind, n), c, fit(ok))
		}
	}
	for _, s := range []string{"\x00", "\xff\xfe", "ä€", "\n \""} {
		put := api.Call{Kind: api.CallPut, Name: s, Bytes: s}
		wantCall(t, "any bytes", put, api.OK)
	}
}

func TestOncesOfCalls(t *testing.T) {
	for n, ok := range map[int]bool{0: true, 1: true, 19: true, 20: true, 21: false, 255: false} {
		c := callOf(4)
		c.Onces = nil
		for range n {
			c.Onces = append(c.Onces, "k") // twice the same is allowed
		}
		wantCall(t, fmt.Sprint(n, " once keys"), c, fit(ok))
		if c.Onces = append(c.Onces, make([]string, 256)...); n > 0 {
			wantRefused(t, fmt.Sprint(n, " and 256"), c)
		}
	}
	c := callOf(4)
	c.Onces = []string{}
	wantCall(t, "an empty list of once keys", c, api.OK)
	c.Index = 1 << 30
	c.Onces = []string{"a", "b", "c"}
	wantCall(t, "ids beyond 2^30", c, api.OK)
}

func TestBundlesOfCalls(t *testing.T) {
	for what, change := range map[string]func(*api.Bundle){
		"a user":             func(b *api.Bundle) { b.User = 3 },
		"a device":           func(b *api.Bundle) { b.Device = 2 },
		"no id":              func(b *api.Bundle) { b.PreId = 0 },
		"no key":             func(b *api.Bundle) { b.Dh = "" },
		"no signature":       func(b *api.Bundle) { b.PreSig = "" },
		"a once key":         func(b *api.Bundle) { b.OnceId, b.Once = 1, "o" },
		"an id alone":        func(b *api.Bundle) { b.OnceId = 1 },
		"a once key alone":   func(b *api.Bundle) { b.Once = "o" },
		"none":               func(b *api.Bundle) { *b = api.Bundle{} },
		"a key that is long": func(b *api.Bundle) { b.Sign = x(1<<14 + 1) },
	} {
		c := callOf(4)
		change(&c.Bundle)
		wantCall(t, "a stock with "+what, c, api.ErrArg)
	}
	c := callOf(4)
	c.Bundle.Sign, c.Bundle.Dh, c.Bundle.Pre, c.Bundle.PreSig = x(1001), x(2000), x(3000), x(4000)
	wantCall(t, "a bundle's words have more than a key's bytes", c, api.OK)
}

// leaves goes through all fields of a struct, and those within, and lets each be changed.
func leaves(path string, v reflect.Value, do func(path string, v reflect.Value)) {
	switch v.Kind() {
	case reflect.Struct:
		for i := range v.NumField() {
			leaves(path+"."+v.Type().Field(i).Name, v.Field(i), do)
		}
	case reflect.Slice:
		for i := range v.Len() {
			leaves(path+fmt.Sprint("[", i, "]"), v.Index(i), do)
		}
		do(path, v)
	default:
		do(path, v)
	}
}

// more is a value behind which v was, by one.
func more(v reflect.Value) {
	switch v.Kind() {
	case reflect.Int:
		v.SetInt(v.Int() + 1)
	case reflect.Uint64:
		v.SetUint(v.Uint() + 1)
	case reflect.String:
		v.SetString(v.String() + "x")
	default:
		v.Set(reflect.Append(v, reflect.New(v.Type().Elem()).Elem()))
	}
}

func TestNothingElseIsInACall(t *testing.T) {
	for kind, fields := range has {
		own := "." + strings.Join(fields, " .") + " .Kind "
		c := callOf(kind)
		leaves("", reflect.ValueOf(&c).Elem(), func(path string, v reflect.Value) {
			field, _, _ := strings.Cut(path[1:], ".")
			if strings.Contains(own, "."+field+" ") || strings.Contains(path, "[") {
				return
			}
			was := reflect.New(v.Type()).Elem()
			was.Set(v)
			more(v)
			wantRefused(t, fmt.Sprintf("kind %d with%s", kind, path), c)
			v.Set(was)
			if e := calls.Check(c); e != api.OK {
				t.Errorf("kind %d without%s: %d", kind, path, e)
			}
		})
		c.List.Devices, c.Onces = append([]api.Member{}, c.List.Devices...), append([]string{}, c.Onces...)
		wantCall(t, fmt.Sprintf("kind %d with empty lists", kind), c, api.OK)
		other := api.Call{}
		other.Kind = kind
		if e := calls.Check(other); (e == api.OK) != (kind == 1 || kind == 2 || kind == 6 || kind == 7) {
			t.Errorf("kind %d alone: %d", kind, e)
		}
	}
}

// P19.1 of lists

func TestCheckList(t *testing.T) {
	look := func(what string, ok bool, change func(*api.List)) {
		t.Helper()
		c := callOf(3)
		change(&c.List)
		if e := calls.CheckList(c.List); e != fit(ok) {
			t.Errorf("%s: %d", what, e)
		}
		if e := calls.Check(c); e != fit(ok) {
			t.Errorf("%s entered: %d", what, e)
		}
	}
	look("a list", true, func(*api.List) {})
	for v, ok := range ints(0, 2) {
		look(fmt.Sprint("the user ", v), ok, func(l *api.List) { l.User = v })
	}
	for v, ok := range ints(1, 1<<30) {
		look(fmt.Sprint("the version ", v), ok, func(l *api.List) { l.Version = v })
	}
	for n, ok := range sizes(1, 1000) {
		look(fmt.Sprint("an account of ", n), ok, func(l *api.List) { l.Account = x(n) })
		look(fmt.Sprint("a signature of ", n), ok, func(l *api.List) { l.Sig = x(n) })
		for i := range 2 {
			look(fmt.Sprint("a Sign of ", n), ok, func(l *api.List) { l.Devices[i].Sign = x(n) })
			look(fmt.Sprint("a Dh of ", n), ok, func(l *api.List) { l.Devices[i].Dh = x(n) })
		}
	}
	for v, ok := range ints(0, 1) {
		look(fmt.Sprint("the device ", v, " alone"), ok, func(l *api.List) { l.Devices = l.Devices[:1]; l.Devices[0].Device = v })
	}
	for first := -1; first <= 2; first++ {
		for second := -1; second <= 2; second++ {
			look(fmt.Sprint("the devices ", first, second), first == 0 && second == 1, func(l *api.List) { l.Devices[0].Device, l.Devices[1].Device = first, second })
		}
	}
	look("no devices", true, func(l *api.List) { l.Devices = nil })
	look("an empty list of devices", true, func(l *api.List) { l.Devices = []api.Member{} })
	for _, third := range []int{0, 1, 2, 3, -1, math.MaxInt, math.MinInt} {
		look(fmt.Sprint("a third device ", third), false, func(l *api.List) { l.Devices = append(l.Devices, api.Member{Device: third, Sign: "s", Dh: "d"}) })
	}
	look("two devices and 256", false, func(l *api.List) { l.Devices = append(l.Devices, make([]api.Member, 256)...) })
	look("a zero list", false, func(l *api.List) { *l = api.List{} })
	look("a device without keys", false, func(l *api.List) { l.Devices[1] = api.Member{Device: 1} })
}

// P19.1: SameList, SameCall, SameAnswer

// wantSame holds a Same against all changes of one that has something in each field.
func wantSame[T any](t *testing.T, made func() T, same func(a, b T) bool) {
	t.Helper()
	if !same(made(), made()) {
		t.Errorf("%T: made twice, they are not alike", made())
	}
	a := made()
	leaves("", reflect.ValueOf(&a).Elem(), func(path string, v reflect.Value) {
		was := reflect.New(v.Type()).Elem()
		was.Set(v)
		zero := reflect.New(v.Type()).Elem()
		change := []func(){func() { more(v) }}
		if !isZero(v) {
			change = append(change, func() { v.Set(zero) })
		}
		if v.Kind() == reflect.Slice {
			last := v.Len() - 1
			change = append(change, func() { v.Set(v.Slice(0, last)) }, func() { v.Set(v.Slice(1, last+1)) })
		}
		for i, do := range change {
			do()
			if same(a, made()) || same(made(), a) {
				t.Errorf("%T%s: changed by %d, they are alike", a, path, i)
			}
			v.Set(was)
		}
	})
	if !same(a, made()) {
		t.Errorf("%T: behind all changes, they are not alike", a)
	}
}

// full is a call with something in each field, as no call may be.
func full() api.Call {
	return api.Call{Kind: 77, User: -5, Device: math.MaxInt, List: list(), Bundle: withOnce(), Onces: []string{"a", "b", "c"}, To: 1 << 40, Nonce: 7, After: 1 << 63, Name: "n", Index: -1, Bytes: "b"}
}

func fullAnswer() api.Answer {
	a := answer()
	a.Err = -9
	return a
}

func TestSame(t *testing.T) {
	wantSame(t, list, calls.SameList)
	wantSame(t, full, calls.SameCall)
	wantSame(t, fullAnswer, calls.SameAnswer)
	if !calls.SameList(api.List{}, api.List{Devices: []api.Member{}}) || !calls.SameCall(api.Call{}, api.Call{List: api.List{Devices: []api.Member{}}, Onces: []string{}}) || !calls.SameAnswer(api.Answer{List: api.List{Devices: []api.Member{}}, Items: []api.Item{}}, api.Answer{}) {
		t.Error("an empty list is another one than none")
	}
	a, b := full(), full()
	a.Onces[0], a.Onces[1] = a.Onces[1], a.Onces[0]
	c, d := answer(), answer()
	c.Items[0], c.Items[1] = c.Items[1], c.Items[0]
	l, m := list(), list()
	l.Devices[0], l.Devices[1] = l.Devices[1], l.Devices[0]
	if calls.SameCall(a, b) || calls.SameAnswer(c, d) || calls.SameList(l, m) {
		t.Error("lists in another order are alike")
	}
	if calls.SameCall(api.Call{Onces: []string{"ab", ""}}, api.Call{Onces: []string{"a", "b"}}) {
		t.Error("texts that are parted otherwise are alike")
	}
}

// P19.2 of answers: each field at its edges.

func TestErrorsOfAnswers(t *testing.T) {
	for v := -2; v <= 300; v++ {
		a := api.Answer{Err: api.Errno(v)}
		if in(v, 0, 255) {
			wantAnswer(t, fmt.Sprint("the error ", v), a, fit(v <= 16))
		} else if s, e := calls.EncodeAnswer(1, a); s != "" || e != api.ErrArg {
			t.Errorf("the error %d: %x, %d", v, s, e)
		}
	}
	for _, v := range []int{math.MinInt, math.MaxInt, 1 << 32, 1<<32 + 5} {
		if s, e := calls.EncodeAnswer(1, api.Answer{Err: api.Errno(v)}); s != "" || e != api.ErrArg {
			t.Errorf("the error %d: %x, %d", v, s, e)
		}
	}
}

func TestNothingIsBesideAnError(t *testing.T) {
	for _, err := range []api.Errno{1, 5, 13, 16} {
		for i, a := range answers() {
			if i < 2 { // these have nothing
				continue
			}
			a.Err = err
			wantAnswer(t, fmt.Sprintf("the error %d beside the answer %d", err, i), a, api.ErrArg)
		}
		a := api.Answer{Err: err}
		leaves("", reflect.ValueOf(&a).Elem(), func(path string, v reflect.Value) {
			if path == ".Err" {
				return
			}
			was := reflect.New(v.Type()).Elem()
			more(v)
			if s, e := calls.EncodeAnswer(1, a); s != "" || e != api.ErrArg {
				t.Errorf("the error %d with%s: %x, %d", err, path, s, e)
			}
			v.Set(was)
		})
		wantAnswer(t, "an error with empty lists", api.Answer{Err: err, List: api.List{Devices: []api.Member{}}, Items: []api.Item{}}, api.OK)
	}
}

func TestAnswersWithout(t *testing.T) {
	for i, a := range answers() {
		wantAnswer(t, fmt.Sprint("the answer ", i), a, api.OK)
	}
	wantAnswer(t, "empty lists", api.Answer{List: api.List{Devices: []api.Member{}}, Items: []api.Item{}}, api.OK)
	for v, ok := range ints(0, 20) {
		a := answer()
		a.Left = v
		if s, e := calls.EncodeAnswer(1, a); e != fit(ok) || (s != "") != ok {
			t.Errorf("left %d: %s, %d", v, short(s), e)
		}
	}
	for n, ok := range sizes(0, 1<<12) {
		a := answer()
		a.Bytes = x(n)
		wantAnswer(t, fmt.Sprint("bytes of ", n), a, fit(ok))
	}
}

// TestHalfOfAnAnswer: a list, or a bundle, is there wholly or not at all.
func TestHalfOfAnAnswer(t *testing.T) {
	for name, parts := range map[string]func(*api.Answer) reflect.Value{
		"list":   func(a *api.Answer) reflect.Value { return reflect.ValueOf(&a.List).Elem() },
		"bundle": func(a *api.Answer) reflect.Value { return reflect.ValueOf(&a.Bundle).Elem() },
	} {
		a := api.Answer{}
		leaves(name, parts(&a), func(path string, v reflect.Value) {
			was := reflect.New(v.Type()).Elem()
			more(v)
			wantAnswer(t, "of all alone "+path, a, api.ErrArg)
			v.Set(was)
		})
		b := api.Answer{List: list(), Bundle: withOnce()}
		leaves(name, parts(&b), func(path string, v reflect.Value) {
			was, zero := reflect.New(v.Type()).Elem(), reflect.New(v.Type()).Elem()
			was.Set(v)
			if v.Set(zero); path != "list.User" && path != "bundle.User" && path != "bundle.Device" && path != "list.Devices" && path != "list.Devices[0].Device" {
				wantAnswer(t, "all but "+path, b, api.ErrArg)
			}
			v.Set(was)
		})
	}
	a := answer()
	a.List.Devices[0].Device = 1
	wantAnswer(t, "devices that do not rise", a, api.ErrArg)
	a = answer()
	a.Bundle.OnceId, a.Bundle.Once = 0, ""
	wantAnswer(t, "a bundle without a once key", a, api.OK)
}

func TestItemsOfAnswers(t *testing.T) {
	look := func(what string, ok bool, change func(*api.Item)) {
		t.Helper()
		for i := range 2 {
			a := answer()
			change(&a.Items[i])
			if s, e := calls.EncodeAnswer(1, a); e != fit(ok) || ok && s != laidAnswer(1, a) || !ok && s != "" {
				t.Errorf("%s: %d, %s", what, e, short(s))
			}
		}
	}
	for v, ok := range wides(1) {
		look(fmt.Sprint("the number ", v), ok, func(x *api.Item) { x.Number = v })
		look(fmt.Sprint("the nonce ", v), ok, func(x *api.Item) { x.Nonce = v })
		wantAnswer(t, fmt.Sprint("the number ", v), api.Answer{Items: []api.Item{{Number: v, From: 2, Nonce: 1, Bytes: "x"}}}, fit(ok))
		wantAnswer(t, fmt.Sprint("the nonce ", v), api.Answer{Items: []api.Item{{Number: 1, From: 2, Nonce: v, Bytes: "x"}}}, fit(ok))
	}
	for v, ok := range ints(2, 7) {
		look(fmt.Sprint("from ", v), ok, func(x *api.Item) { x.From = v })
	}
	for n, ok := range sizes(1, 1<<12) {
		look(fmt.Sprint("bytes of ", n), ok, func(y *api.Item) { y.Bytes = x(n) })
	}
	wantAnswer(t, "from 1", api.Answer{Items: []api.Item{{Number: 1, From: 1, Nonce: 1, Bytes: "x"}}}, api.ErrArg)
	wantAnswer(t, "from 8", api.Answer{Items: []api.Item{{Number: 1, From: 8, Nonce: 1, Bytes: "x"}}}, api.ErrArg)
	wantAnswer(t, "no bytes", api.Answer{Items: []api.Item{{Number: 1, From: 2, Nonce: 1}}}, api.ErrArg)
	wantAnswer(t, "a zero item", api.Answer{Items: []api.Item{{}}}, api.ErrArg)
	a := answer()
	a.Items[0], a.Items[1] = item(), item()
	wantAnswer(t, "an item twice", a, api.OK)
	a.Items[0].Number = 1 << 40
	wantAnswer(t, "numbers that fall", a, api.OK)
}

func TestAllItemsOfAnAnswer(t *testing.T) {
	of := func(sizes ...int) api.Answer {
		a := api.Answer{}
		for i, n := range sizes {
			a.Items = append(a.Items, api.Item{Number: uint64(i + 1), From: 2, Nonce: 1, Bytes: x(n)})
		}
		return a
	}
	for _, y := range []struct {
		a  api.Answer
		ok bool
	}{
		{of(1, 1, 1, 1, 1, 1, 1, 1), true}, {of(1, 1, 1, 1, 1, 1, 1, 1, 1), false}, {of(make([]int, 300)...), false},
		{of(4096, 4096), true}, {of(4096, 4096, 1), false}, {of(4096, 4095, 1), true}, {of(4097), false},
		{of(1024, 1024, 1024, 1024, 1024, 1024, 1024, 1024), true}, {of(1024, 1024, 1024, 1025, 1024, 1024, 1024, 1024), false},
		{of(4096, 4096, 4096, 4096), false},
	} {
		wantAnswer(t, fmt.Sprintf("%d items", len(y.a.Items)), y.a, fit(y.ok))
	}
}

// P19.2, P19.3: what is too long

func TestLongCalls(t *testing.T) {
	c := callOf(4)
	c.Bundle.Pre = ""
	room := 1<<14 - len(laidCall(1, c))
	for n, want := range map[int]api.Errno{room - 1: api.OK, room: api.OK, room + 1: api.ErrLong, 1 << 14: api.ErrLong, 1<<14 + 1: api.ErrArg} {
		c.Bundle.Pre = x(n)
		wantCall(t, fmt.Sprint("a pre key of ", n), c, want)
	}
	c = callOf(4)
	c.Onces = nil
	for range 20 {
		c.Onces = append(c.Onces, x(1000))
	}
	wantCall(t, "20 long keys", c, api.ErrLong)
	c.User = 1
	wantRefused(t, "20 long keys, and a field too many", c)
	c.User = 0
	for i := range c.Onces {
		c.Onces[i] = x(815)
	}
	over := len(laidCall(1, c)) - 1<<14
	for d, want := range map[int]api.Errno{over - 1: api.ErrLong, over: api.OK, over + 1: api.OK} {
		c.Onces[19] = x(815 - d)
		wantCall(t, fmt.Sprint("the last key shorter by ", d), c, want)
	}
	c = callOf(3)
	c.List.Account, c.List.Sig = x(1000), x(1000)
	c.List.Devices = []api.Member{{Device: 0, Sign: x(1000), Dh: x(1000)}, {Device: 1, Sign: x(1000), Dh: x(1000)}}
	wantCall(t, "the longest list", c, api.OK)
	wantCall(t, "the longest chunk", api.Call{Kind: api.CallPut, Name: x(40), Index: 63, Bytes: x(4096)}, api.OK)
	c = callOf(4)
	c.Bundle.Sign, c.Bundle.Dh, c.Bundle.Pre, c.Bundle.PreSig = x(1<<14), x(1<<14), x(1<<14), x(1<<14)
	wantCall(t, "the longest bundle", c, api.ErrLong)
}

func TestLongAnswers(t *testing.T) {
	a := answer()
	a.Bundle.PreSig = ""
	room := 1<<14 - len(laidAnswer(1, a))
	for n, want := range map[int]api.Errno{room - 1: api.OK, room: api.OK, room + 1: api.ErrLong, 1 << 14: api.ErrLong, 1<<14 + 1: api.ErrArg} {
		a.Bundle.PreSig = x(n)
		wantAnswer(t, fmt.Sprint("a signature of ", n), a, want)
	}
	a = api.Answer{Bundle: withOnce(), Bytes: x(4096)}
	a.Bundle.Once = x(1 << 14)
	wantAnswer(t, "a long once key", a, api.ErrLong)
	a.Err = api.ErrFull
	wantAnswer(t, "a long once key beside an error", a, api.ErrArg)
	a = api.Answer{List: list(), Items: []api.Item{item(), item()}, Bytes: x(4096)}
	a.List.Account, a.List.Sig = x(1000), x(1000)
	a.List.Devices = []api.Member{{Device: 0, Sign: x(1000), Dh: x(1000)}, {Device: 1, Sign: x(1000), Dh: x(1000)}}
	a.Items[0].Bytes, a.Items[1].Bytes = x(4096), x(4096)
	wantAnswer(t, "a long one, part by part", a, api.ErrLong)
	a.Bytes = x(4096 - (len(laidAnswer(1, a)) - 1<<14))
	wantAnswer(t, "as long as it may be", a, api.OK)
}

// P19.3: bytes of none

func TestPartsOfTextsThatAreNone(t *testing.T) {
	enter := func(list string) string { return number(8, 1) + "\x03" + texts(list) }
	stock := func(bundle string) string { return number(8, 1) + "\x04" + texts(bundle) + number(4, 1) + "\x00" }
	told := func(list, bundle string) string {
		return number(8, 1) + "\x00" + texts(list, bundle) + "\x00" + texts("") + "\x00"
	}
	l, b := laidList(list()), laidBundle(bundle())
	for s, ok := range map[string]bool{enter(l): true, stock(b): true, enter(""): false, stock(""): false, enter(laidList(api.List{})): false, stock(laidBundle(api.Bundle{})): false, enter(b): false, stock(l): false, stock(laidBundle(withOnce())): false,
		enter(l + "\x00"): false, enter(l[:len(l)-1]): false, stock(b + "\x00"): false, stock(b[:len(b)-1]): false, enter("\x00"): false, stock("\x00"): false} {
		if id, c, e := calls.DecodeCall(s); (e == api.OK) != ok || !ok && (e != api.ErrForm || id != 0 || !same(c, api.Call{})) {
			t.Errorf("DecodeCall(%x): %d, %+v, %d", s, id, c, e)
		}
	}
	for s, ok := range map[string]bool{told("", ""): true, told(l, ""): true, told("", b): true, told(l, b): true, told(b, l): false, told("\x00", ""): false, told("", "\x00"): false,
		told(laidList(api.List{}), ""): false, told("", laidBundle(api.Bundle{})): false, told(x(15), ""): false, told(strings.Repeat("\x00", 14), b): false,
		told(l+"\x00", ""): false, told(l[1:], ""): false, told("", b+"\x00"): false, told("", b[1:]): false, told("", laidBundle(withOnce())): true} {
		if id, a, e := calls.DecodeAnswer(s); (e == api.OK) != ok || !ok && (e != api.ErrForm || id != 0 || !same(a, api.Answer{})) {
			t.Errorf("DecodeAnswer(%x): %d, %+v, %d", s, id, a, e)
		}
	}
}

func TestMoreThanMaxBytes(t *testing.T) {
	for _, s := range []string{x(1<<14 + 1), x(1 << 20), laidCall(1, callOf(1)) + x(1<<14), strings.Repeat("\x00", 1<<20), strings.Repeat("\xff", 1<<20), laidAnswer(1, answer()) + strings.Repeat("\x00", 1<<20)} {
		if id, c, e := calls.DecodeCall(s); e != api.ErrForm || id != 0 || !same(c, api.Call{}) {
			t.Errorf("DecodeCall of %d bytes: %d, %+v, %d", len(s), id, c, e)
		}
		if id, a, e := calls.DecodeAnswer(s); e != api.ErrForm || id != 0 || !same(a, api.Answer{}) {
			t.Errorf("DecodeAnswer of %d bytes: %d, %+v, %d", len(s), id, a, e)
		}
	}
}

// R5

func TestNothingIsKeptOrShared(t *testing.T) {
	c := callOf(4)
	onces := append(make([]string, 0, 4), "a", "b")
	onces[:4][2], onces[:4][3] = "behind", "it"
	c.Onces = onces
	s, _ := calls.EncodeCall(1, c)
	a := answer()
	items := append(make([]api.Item, 0, 4), a.Items...)
	items[:4][3] = item()
	a.Items = items
	r, _ := calls.EncodeAnswer(1, a)
	if !reflect.DeepEqual(onces[:4], []string{"a", "b", "behind", "it"}) || !reflect.DeepEqual(items[:4], []api.Item{answer().Items[0], answer().Items[1], {}, item()}) {
		t.Error("what was handed in was changed")
	}
	onces[0], items[0].Bytes = "z", "z"
	_, c1, e1 := calls.DecodeCall(s)
	_, c2, e2 := calls.DecodeCall(s)
	_, a1, e3 := calls.DecodeAnswer(r)
	_, a2, e4 := calls.DecodeAnswer(r)
	if e1 != api.OK || e2 != api.OK || e3 != api.OK || e4 != api.OK {
		t.Fatal(e1, e2, e3, e4)
	}
	c1.Onces[0], a1.Items[0].Bytes, a1.List.Devices[0].Dh = "y", "y", "y"
	_, a1.Items = append(c1.Onces, "y"), append(a1.Items, item())
	if c2.Onces[0] != "a" || a2.Items[0] != item() || a2.List.Devices[0].Dh != "d" || len(a2.Items) != 2 {
		t.Error("what was answered shares with another answer")
	}
}
