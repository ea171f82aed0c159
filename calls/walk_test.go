package calls_test

import (
	"fmt"
	"math/rand"
	"testing"

	"missive/api"
	"missive/calls"
)

// wantBytes holds both Decodes against what the document's words make of bytes: P19.3, and of P19.4 that what was taken is laid as it came.
func wantBytes(t *testing.T, what, s string) {
	t.Helper()
	id, c, e := calls.DecodeCall(s)
	wantId, wantC, wantE := readCall(s)
	if id != wantId || e != wantE || !same(c, wantC) {
		t.Fatalf("%s: DecodeCall of %s: %d, %s, %d; want %d, %s, %d", what, short(s), id, short(c), e, wantId, short(wantC), wantE)
	}
	if e == api.OK {
		if again, f := calls.EncodeCall(id, c); again != s || f != api.OK || calls.Check(c) != api.OK {
			t.Fatalf("%s: EncodeCall of what %s is: %s, %d", what, short(s), short(again), f)
		}
	}
	id, a, e := calls.DecodeAnswer(s)
	wantId, wantA, wantE := readAnswer(s)
	if id != wantId || e != wantE || !same(a, wantA) {
		t.Fatalf("%s: DecodeAnswer of %s: %d, %s, %d; want %d, %s, %d", what, short(s), id, short(a), e, wantId, short(wantA), wantE)
	}
	if e == api.OK {
		if again, f := calls.EncodeAnswer(id, a); again != s || f != api.OK {
			t.Fatalf("%s: EncodeAnswer of what %s is: %s, %d", what, short(s), short(again), f)
		}
	}
}

// allBytes are the bytes of a call of each kind, and of answers.
func allBytes() []string {
	var out []string
	for kind := range has {
		out = append(out, laidCall(uint64(kind)<<32, callOf(kind)))
	}
	for i, a := range answers() {
		out = append(out, laidAnswer(uint64(i)<<32, a))
	}
	return out
}

func TestEachByteChanged(t *testing.T) {
	for _, s := range allBytes() {
		wantBytes(t, "unchanged", s)
		for at := 8; at < len(s); at++ {
			for v := range 256 {
				wantBytes(t, fmt.Sprint("the byte ", at, " changed"), s[:at]+small(v)+s[at+1:])
			}
		}
	}
}

func TestBytesTooManyOrTooFew(t *testing.T) {
	all := allBytes()
	for _, s := range all {
		for at := range len(s) + 1 {
			wantBytes(t, "cut", s[:at])
			wantBytes(t, "cut ahead", s[at:])
			for _, v := range []string{"\x00", "\x01", "\xff", "\x00\x00\x00\x00", "\x00\x00\x00\x01k"} {
				wantBytes(t, "with more", s[:at]+v+s[at:])
			}
			for n := 1; n <= 4 && at+n <= len(s); n++ {
				wantBytes(t, "with less", s[:at]+s[at+n:])
			}
		}
		for _, other := range all {
			wantBytes(t, "two", s+other)
			wantBytes(t, "halves", s[:len(s)/2]+other[len(other)/2:])
		}
	}
}

func TestIdsAreKept(t *testing.T) {
	for _, s := range allBytes() {
		for at := range 64 {
			wantBytes(t, "another id", number(8, 1<<at)+s[8:])
			wantBytes(t, "another id", number(8, most64-1<<at)+s[8:])
		}
		wantBytes(t, "the id 0", number(8, 0)+s[8:])
	}
}

// some makes things of which most parts may be, and some not.
type some struct {
	*rand.Rand
	wrong int // how seldom a part may not be
	long  int // how seldom a text is long
}

func (r some) isWrong() bool { return r.Intn(r.wrong) == 0 }

func (r some) int(least, most int) int {
	switch {
	case r.isWrong():
		return []int{least - 1, most + 1, -1, 256 + most}[r.Intn(4)]
	case r.Intn(4) == 0:
		return most
	}
	return least + r.Intn(min(most-least+1, 1+r.Intn(1<<20)))
}

func (r some) wide(least uint64) uint64 {
	if r.isWrong() {
		return []uint64{0, mostWide + 1, most64}[r.Intn(3)]
	}
	return min(least+r.Uint64()>>(24+r.Intn(40)), mostWide)
}

func (r some) text(least, most int) string {
	n := least + r.Intn(3)
	switch {
	case r.isWrong():
		n = []int{0, most + 1}[r.Intn(2)]
	case r.Intn(r.long) == 0:
		n = least + r.Intn(most-least+1)
	}
	b := make([]byte, min(n, most+1))
	r.Read(b)
	return string(b)
}

func (r some) list() api.List {
	l := api.List{User: r.int(0, 2), Version: r.int(1, mostId), Account: r.text(1, mostKey), Sig: r.text(1, mostKey)}
	for i := range 2 {
		if r.Intn(3) > 0 {
			l.Devices = append(l.Devices, api.Member{Device: i, Sign: r.text(1, mostKey), Dh: r.text(1, mostKey)})
		}
	}
	if len(l.Devices) > 0 && r.isWrong() {
		l.Devices[len(l.Devices)-1].Device = r.Intn(4)
	}
	return l
}

func (r some) bundle(with bool) api.Bundle {
	b := api.Bundle{User: r.int(0, 2), Device: r.int(0, 1), Sign: r.text(1, 6000), Dh: r.text(1, 6000), PreId: r.int(1, mostId), Pre: r.text(1, 6000), PreSig: r.text(1, 6000)}
	if with {
		b.OnceId, b.Once = r.int(1, mostId), r.text(1, 6000)
	}
	return b
}

func (r some) onces() []string {
	var out []string
	for n := r.int(0, mostOnces); n > 0; n-- {
		out = append(out, r.text(1, mostKey))
	}
	return out
}

func (r some) item() api.Item {
	return api.Item{Number: r.wide(1), From: r.int(2, 7), Nonce: r.wide(1), Bytes: r.text(1, mostItem)}
}

func (r some) call() api.Call {
	c := api.Call{Kind: 1 + r.Intn(9)}
	for _, kind := range []int{c.Kind, 1 + r.Intn(9)} {
		if kind != c.Kind && !r.isWrong() {
			continue
		}
		for _, field := range has[kind] {
			r.fill(&c, field)
		}
	}
	return c
}

func (r some) fill(c *api.Call, field string) {
	switch field {
	case "User":
		c.User = r.int(0, 2)
	case "Device":
		c.Device = r.int(0, 1)
	case "List":
		c.List = r.list()
	case "Bundle":
		c.Bundle = r.bundle(r.isWrong())
	case "Onces":
		c.Onces = r.onces()
	case "To":
		c.To = r.int(2, 7)
	case "Nonce":
		c.Nonce = r.wide(1)
	case "After":
		c.After = r.wide(0)
	case "Name":
		c.Name = r.text(1, mostName)
	case "Index":
		c.Index = r.int(1, 63)
	case "Bytes":
		c.Bytes = r.text(1, mostItem)
	}
}

func (r some) answer() api.Answer {
	a := api.Answer{}
	if r.Intn(3) == 0 {
		a.Err = api.Errno(r.int(1, 16))
		if !r.isWrong() {
			return a
		}
	}
	if r.Intn(2) == 0 {
		a.List = r.list()
	}
	if r.Intn(2) == 0 {
		a.Bundle = r.bundle(r.Intn(2) == 0)
	}
	for n := r.Intn(2) * r.int(0, 8); n > 0; n-- {
		a.Items = append(a.Items, r.item())
	}
	a.Bytes, a.Left = r.text(0, mostItem), r.int(0, mostOnces)
	return a
}

// wantOf is what is to be answered to a thing that may be, or not, and is laid as these bytes.
func wantOf(may bool, laid string) (string, api.Errno) {
	switch {
	case !may:
		return "", api.ErrArg
	case len(laid) > mostBytes:
		return "", api.ErrLong
	}
	return laid, api.OK
}

// TestAnyCallsAndAnswers: P19.1 to P19.4, of such as are made at random.
func TestAnyCallsAndAnswers(t *testing.T) {
	seen := map[api.Errno]int{}
	for n := range 10000 {
		r := some{rand.New(rand.NewSource(int64(n))), []int{20, 60, 1 << 30}[n%3], []int{30, 8, 1}[n%10/4]}
		id, c, a := r.Uint64(), r.call(), r.answer()
		want, wantE := wantOf(mayCall(c), laidCall(id, c))
		if s, e := calls.EncodeCall(id, c); s != want || e != wantE {
			t.Fatalf("EncodeCall(%s): %s, %d; want %s, %d", short(c), short(s), e, short(want), wantE)
		}
		if e := calls.Check(c); e != fit(mayCall(c)) {
			t.Fatalf("Check(%s): %d", short(c), e)
		}
		if e := calls.CheckList(c.List); e != fit(mayList(c.List)) {
			t.Fatalf("CheckList(%s): %d", short(c.List), e)
		}
		seen[wantE]++
		want, wantE = wantOf(mayAnswer(a), laidAnswer(id, a))
		if s, e := calls.EncodeAnswer(id, a); s != want || e != wantE {
			t.Fatalf("EncodeAnswer(%s): %s, %d; want %s, %d", short(a), short(s), e, short(want), wantE)
		}
		wantBytes(t, "of a call", laidCall(id, c))
		wantBytes(t, "of an answer", laidAnswer(id, a))
		wantAlike(t, c, a)
		seen[100+wantE]++
	}
	for _, e := range []api.Errno{api.OK, api.ErrArg, api.ErrLong} {
		if seen[e] < 50 || seen[100+e] < 50 {
			t.Errorf("too few of the error %d: %v", e, seen)
		}
	}
}

// wantAlike: what was made at random, and what its bytes are read as, are alike or not.
func wantAlike(t *testing.T, c api.Call, a api.Answer) {
	t.Helper()
	if _, d, _ := calls.DecodeCall(laidCall(1, c)); calls.SameCall(c, d) != same(c, d) {
		t.Fatalf("SameCall(%s, %s)", short(c), short(d))
	}
	if _, b, _ := calls.DecodeAnswer(laidAnswer(1, a)); calls.SameAnswer(a, b) != same(a, b) {
		t.Fatalf("SameAnswer(%s, %s)", short(a), short(b))
	}
	if calls.SameList(a.List, c.List) != same(a.List, c.List) {
		t.Fatalf("SameList(%s, %s)", short(a.List), short(c.List))
	}
}

func TestAnyBytes(t *testing.T) {
	r := rand.New(rand.NewSource(1))
	for range 100000 {
		b := make([]byte, r.Intn(60))
		r.Read(b)
		for i := range b {
			if r.Intn(3) > 0 {
				b[i] = byte(r.Intn(4))
			}
		}
		wantBytes(t, "any", string(b))
	}
}

// TestNoTwoHaveTheSameBytes: P19.4, bytes tell what they are of.
func TestNoTwoHaveTheSameBytes(t *testing.T) {
	ofCalls, ofAnswers := map[string]string{}, map[string]string{}
	put := func(of map[string]string, s string, e api.Errno, thing any) {
		if told := fmt.Sprintf("%#v", thing); e == api.OK {
			if was, ok := of[s]; ok && was != told {
				t.Fatalf("%s and %s have the same bytes", short(was), short(told))
			}
			of[s] = told
		}
	}
	for n := range 5000 {
		r := some{rand.New(rand.NewSource(int64(n))), 1 << 30, 8}
		c, a := r.call(), r.answer()
		for id := range uint64(2) {
			s, e := calls.EncodeCall(id, c)
			put(ofCalls, s, e, []any{id, c})
			s, e = calls.EncodeAnswer(id, a)
			put(ofAnswers, s, e, []any{id, a})
		}
	}
	if len(ofCalls) < 5000 || len(ofAnswers) < 5000 {
		t.Errorf("too few: %d, %d", len(ofCalls), len(ofAnswers))
	}
}
