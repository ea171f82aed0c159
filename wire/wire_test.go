package wire_test

import (
	"math"
	"strings"
	"testing"

	"missive/wire"
)

// raw is what digits stand for, told without the package that is tested.
func raw(digits string) string {
	const all = "0123456789abcdef"
	out := []byte{}
	for i := 0; i+1 < len(digits); i += 2 {
		out = append(out, byte(strings.IndexByte(all, digits[i])<<4|strings.IndexByte(all, digits[i+1])))
	}
	return string(out)
}

// P1.1

func TestTakeGoesFromTheFirstByteOn(t *testing.T) {
	r := wire.New("abcdef")
	for _, x := range []struct {
		n    int
		want string
		left int
	}{{1, "a", 5}, {0, "", 5}, {3, "bcd", 2}, {2, "ef", 0}, {0, "", 0}} {
		if s, ok := r.Take(x.n); s != x.want || !ok || r.Left() != x.left {
			t.Errorf("Take(%d) = %q, %v, %d left; want %q, %d left", x.n, s, ok, r.Left(), x.want, x.left)
		}
	}
}

func TestTakeRefusesAndTakesNothing(t *testing.T) {
	for _, s := range []string{"", "a", "abc", "\x00\xff"} {
		for _, n := range []int{-1, math.MinInt, len(s) + 1, len(s) + 2, math.MaxInt} {
			r := wire.New(s)
			if got, ok := r.Take(n); got != "" || ok || r.Left() != len(s) {
				t.Errorf("Take(%d) of %q = %q, %v, %d left", n, s, got, ok, r.Left())
			}
			if got, ok := r.Take(len(s)); got != s || !ok {
				t.Errorf("behind Take(%d): all of %q = %q, %v", n, s, got, ok)
			}
		}
	}
	r := wire.New("abc")
	r.Take(2)
	for _, n := range []int{2, 3, -2, math.MaxInt} {
		if got, ok := r.Take(n); got != "" || ok || r.Left() != 1 {
			t.Errorf("Take(%d) of c = %q, %v", n, got, ok)
		}
	}
}

func TestReadersAreApart(t *testing.T) {
	a, b := wire.New("ab"), wire.New("ab")
	a.Take(2)
	if s, ok := b.Take(1); s != "a" || !ok || a.Left() != 0 || b.Left() != 1 {
		t.Errorf("one reader moved another one: %q, %v", s, ok)
	}
}

// P1.2

func TestNumber(t *testing.T) {
	for _, x := range []struct {
		digits string
		bytes  int
		want   uint64
	}{
		{"0102", 2, 258}, {"0102", 1, 1}, {"00", 1, 0}, {"ff", 1, 255}, {"012c", 2, 300},
		{"010203", 3, 0x010203}, {"deadbeef", 4, 0xdeadbeef}, {"0102030405", 5, 0x0102030405},
		{"800000000000", 6, 1 << 47}, {"01020304050607", 7, 0x01020304050607},
		{"ffffffffffffffff", 8, math.MaxUint64}, {"8000000000000001", 8, 1<<63 + 1}, {"0000000000000000", 8, 0},
	} {
		for _, behind := range []string{"", "x", "\xff\xff"} {
			r := wire.New(raw(x.digits) + behind)
			before := r.Left()
			if v, ok := r.Number(x.bytes); v != x.want || !ok || r.Left() != before-x.bytes {
				t.Errorf("Number(%d) of %s = %d, %v, %d left", x.bytes, x.digits, v, ok, r.Left())
			}
		}
	}
}

func TestNumberRefusesAndTakesNothing(t *testing.T) {
	for _, x := range []struct {
		digits string
		widths []int
	}{
		{"0102", []int{3, 0, 9, -1, 8, math.MinInt, math.MaxInt}},
		{"", []int{1, 8, 0, -1}},
		{"010203040506070809", []int{0, 9, 10, -8, 256 + 1}},
		{"01020304050607", []int{8}},
	} {
		for _, w := range x.widths {
			r := wire.New(raw(x.digits))
			if v, ok := r.Number(w); v != 0 || ok || r.Left() != len(x.digits)/2 {
				t.Errorf("Number(%d) of %s = %d, %v, %d left", w, x.digits, v, ok, r.Left())
			}
		}
	}
	r := wire.New(raw("0102"))
	r.Number(3)
	if v, ok := r.Number(2); v != 258 || !ok {
		t.Errorf("behind a false: %d, %v", v, ok)
	}
}

func TestText(t *testing.T) {
	for _, x := range []struct {
		digits string
		most   int
		want   string
		left   int
	}{
		{"000000026162", 2, "ab", 0}, {"000000026162", 3, "ab", 0}, {"000000026162", math.MaxInt, "ab", 0},
		{"00000002616263", 2, "ab", 1}, {"00000000", 0, "", 0}, {"00000000", 7, "", 0}, {"0000000061", 0, "", 1},
		{"00000001ff", 1, "\xff", 0},
	} {
		r := wire.New(raw(x.digits))
		if s, ok := r.Text(x.most); s != x.want || !ok || r.Left() != x.left {
			t.Errorf("Text(%d) of %s = %q, %v, %d left", x.most, x.digits, s, ok, r.Left())
		}
	}
	long := strings.Repeat("ab", 33000) // the length needs its third byte
	if s, ok := wire.New(wire.PutText("", long)).Text(len(long)); s != long || !ok {
		t.Errorf("a long text: %d bytes, %v", len(s), ok)
	}
}

func TestTextRefusesAndTakesNothing(t *testing.T) {
	for _, x := range []struct {
		digits string
		most   int
	}{
		{"000000026162", 1}, {"000000026162", 0}, {"000000026162", -1}, {"000000026162", math.MinInt},
		{"00000000", -1}, {"00000000", math.MinInt}, {"0000000361", 5}, {"000000036162", 3},
		{"", 5}, {"00", 5}, {"000000", 5}, {"00000001", 5}, {"ffffffff6162", math.MaxInt}, {"800000006162", math.MaxInt},
		{"7fffffff6162", math.MaxInt}, {"010000026162", math.MaxInt},
	} {
		r := wire.New(raw(x.digits))
		if s, ok := r.Text(x.most); s != "" || ok || r.Left() != len(x.digits)/2 {
			t.Errorf("Text(%d) of %s = %q, %v, %d left", x.most, x.digits, s, ok, r.Left())
		}
		if s, ok := r.Take(len(x.digits) / 2); s != raw(x.digits) || !ok {
			t.Errorf("behind Text(%d) of %s: %q, %v", x.most, x.digits, s, ok)
		}
	}
}

// P1.3

func TestPutNumber(t *testing.T) {
	for _, x := range []struct {
		b     string
		bytes int
		v     uint64
		want  string
	}{
		{"", 2, 258, "0102"}, {"x", 1, 258, "7802"}, {"", 8, math.MaxUint64, "ffffffffffffffff"},
		{"", 0, 7, "07"}, {"", 9, 7, "0000000000000007"}, {"", 2, 300, "012c"},
		{"", -1, 258, "02"}, {"", math.MinInt, 258, "02"}, {"ab", math.MaxInt, 258, "61620000000000000102"},
		{"", 1, 0, "00"}, {"", 3, 1 << 40, "000000"}, {"", 3, 0x0102030405060708, "060708"}, {"", 7, 0x0102030405060708, "02030405060708"},
		{"\xff", 4, 0xdeadbeef, "ffdeadbeef"}, {"", 5, 1, "0000000001"}, {"", 6, 1 << 47, "800000000000"},
	} {
		if got := wire.PutNumber(x.b, x.bytes, x.v); got != raw(x.want) {
			t.Errorf("PutNumber(%q, %d, %d) = %x, want %s", x.b, x.bytes, x.v, got, x.want)
		}
	}
}

func TestPutText(t *testing.T) {
	for _, x := range []struct{ b, s, want string }{
		{"", "ab", "000000026162"}, {"x", "", "7800000000"}, {"", "", "00000000"},
		{"\x00", "\x00", "000000000100"}, {"", strings.Repeat("a", 256), "00000100" + strings.Repeat("61", 256)},
	} {
		if got := wire.PutText(x.b, x.s); got != raw(x.want) {
			t.Errorf("PutText(%q, %q) = %x, want %s", x.b, x.s, got, x.want)
		}
	}
}

// P1.4

func TestDigits(t *testing.T) {
	for _, x := range []struct{ bytes, digits string }{
		{"\x00\xfe", "00fe"}, {"", ""}, {"\x00", "00"}, {"\x0f\xf0", "0ff0"}, {"az", "617a"}, {"\x9a\xbc\xde", "9abcde"},
	} {
		if got := wire.Hex(x.bytes); got != x.digits {
			t.Errorf("Hex(%x) = %q", x.bytes, got)
		}
		if got, ok := wire.Unhex(x.digits); got != x.bytes || !ok {
			t.Errorf("Unhex(%q) = %x, %v", x.digits, got, ok)
		}
	}
	for _, s := range []string{"0", "000", "0F", "F0", "FE", "g0", "0g", " 0", "0 ", "0x", "00fe1", "00f", "00gg", "gg00", "é", "00\x00\x00", "-1", "+1"} {
		if got, ok := wire.Unhex(s); got != "" || ok {
			t.Errorf("Unhex(%q) = %x, %v", s, got, ok)
		}
	}
}

func TestEachByteHasJustOneSpelling(t *testing.T) {
	found := 0
	for i := range 256 {
		for j := range 256 {
			s := string([]byte{byte(i), byte(j)})
			b, ok := wire.Unhex(s)
			if !ok && b != "" || ok && wire.Hex(b) != s {
				t.Errorf("Unhex(%q) = %x, %v", s, b, ok)
			}
			if ok {
				found++
			}
		}
		one := string([]byte{byte(i)})
		if d := wire.Hex(one); raw(d) != one || len(d) != 2 {
			t.Errorf("Hex(%x) = %q", one, d)
		}
		if _, ok := wire.Unhex(one); ok {
			t.Errorf("Unhex(%q): one digit is no byte", one)
		}
	}
	if found != 256 {
		t.Errorf("%d spellings of 256 bytes", found)
	}
}

// P1.5

func TestWhatWasPutIsReadBack(t *testing.T) {
	for _, ahead := range []string{"", "x", "\x00\x00\x00\x05"} {
		for _, behind := range []string{"", "y", "\xff\xff\xff\xff\xff\xff\xff\xff\xff"} {
			b := ahead
			for w := 1; w <= 8; w++ {
				b = wire.PutText(wire.PutNumber(b, w, math.MaxUint64), strings.Repeat("\x00", w-1))
				b = wire.PutNumber(b, w, 0x8877665544332211)
			}
			r := wire.New(b + behind)
			if s, ok := r.Take(len(ahead)); s != ahead || !ok {
				t.Fatalf("ahead: %q, %v", s, ok)
			}
			for w := 1; w <= 8; w++ {
				mask := uint64(math.MaxUint64) >> (64 - 8*w)
				v, ok := r.Number(w)
				s, is := r.Text(w - 1)
				u, so := r.Number(w)
				if v != mask || !ok || s != strings.Repeat("\x00", w-1) || !is || u != 0x8877665544332211&mask || !so {
					t.Errorf("of %d bytes: %x, %v, %q, %v, %x, %v", w, v, ok, s, is, u, so)
				}
			}
			if s, ok := r.Take(r.Left()); s != behind || !ok {
				t.Errorf("behind: %q, %v", s, ok)
			}
		}
	}
}

// lists are all lists of at most that many of the texts.
func lists(texts []string, most int) [][]string {
	out := [][]string{nil}
	for from := 0; most > 0; most-- {
		to := len(out)
		for ; from < to; from++ {
			for _, s := range texts {
				out = append(out, append(append([]string{}, out[from]...), s))
			}
		}
	}
	return out
}

func TestNoOtherTextsHaveTheBytes(t *testing.T) {
	// texts that look like other texts' bytes, or like a piece of them
	all := lists([]string{"", "a", "ab", "\x00", "\x00\x00\x00\x00", "\x00\x00\x00\x01", "\x00\x00\x00\x01a"}, 4)
	seen := map[string]int{}
	for i, list := range all {
		b := ""
		for _, s := range list {
			b = wire.PutText(b, s)
		}
		if j, there := seen[b]; there {
			t.Errorf("%q and %q have the same bytes", list, all[j])
		}
		seen[b] = i
		r := wire.New(b)
		for _, s := range list {
			if got, ok := r.Text(len(s)); got != s || !ok {
				t.Fatalf("of %q: %q, %v", list, got, ok)
			}
		}
		if r.Left() != 0 {
			t.Errorf("of %q: %d left", list, r.Left())
		}
	}
}

// R1, R3

func TestNoReader(t *testing.T) {
	var none *wire.Reader
	for name, r := range map[string]*wire.Reader{"nil": none, "not made": new(wire.Reader)} {
		for _, n := range []int{0, 1, 8, -1, math.MinInt, math.MaxInt} {
			v, ok := r.Number(n)
			s, is := r.Text(n)
			b, so := r.Take(n)
			if v != 0 || ok || s != "" || is || b != "" || so || r.Left() != 0 {
				t.Errorf("%s, %d: %d, %v, %q, %v, %q, %v, %d left", name, n, v, ok, s, is, b, so, r.Left())
			}
		}
	}
	r := wire.New("")
	if s, ok := r.Take(0); r == nil || s != "" || !ok || r.Left() != 0 {
		t.Errorf("a reader of no bytes: %q, %v, %d left", s, ok, r.Left())
	}
}

func TestCopiedReaderDoesNotPanic(t *testing.T) {
	r := wire.New("abc")
	c := *r
	c.Take(3)
	r.Take(1)
	if _, ok := c.Take(1); ok || c.Left() != 0 || r.Left() != 2 {
		t.Errorf("%v, %d and %d left", ok, c.Left(), r.Left())
	}
}
