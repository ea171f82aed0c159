package pad_test

import (
	"math"
	"math/rand"
	"strings"
	"testing"
	"unsafe"

	"missive/api"
	"missive/pad"
)

// allLengths are those that the document names, written out by its words.
func allLengths() []int {
	out := []int{32, 64, 128}
	for n := 256; n <= 8192; n += 256 {
		out = append(out, n)
	}
	return out
}

// least is the least of the lengths that is not less than n; 0, if there is none.
func least(n int) int {
	for _, size := range allLengths() {
		if size >= n {
			return size
		}
	}
	return 0
}

// padded is a text's padded one, told without the package that is tested.
func padded(s string) string {
	out := make([]byte, least(2+len(s)))
	out[0], out[1] = byte(len(s)>>8), byte(len(s))
	copy(out[2:], s)
	return string(out)
}

func chanceText(chance *rand.Rand, size int) string {
	b := make([]byte, size)
	chance.Read(b)
	return string(b)
}

func noughts(n int) string { return strings.Repeat("\x00", n) }

// set is s with another byte at a place.
func set(s string, at int, c byte) string {
	b := []byte(s)
	b[at] = c
	return string(b)
}

func refused(t *testing.T, what, s string) {
	t.Helper()
	if x, e := pad.Unpad(s); x != "" || e != api.ErrForm {
		t.Errorf("Unpad of %s (%d bytes) = %d bytes, %d; want ErrForm", what, len(s), len(x), e)
	}
}

// P13.1

func TestSizeExamples(t *testing.T) {
	for _, x := range []struct {
		n, want int
		e       api.Errno
	}{
		{0, 32, api.OK}, {32, 32, api.OK}, {33, 64, api.OK}, {257, 512, api.OK}, {8192, 8192, api.OK},
		{8193, 0, api.ErrLong}, {-1, 0, api.ErrArg},
	} {
		if got, e := pad.Size(x.n); got != x.want || e != x.e {
			t.Errorf("Size(%d) = %d, %d; want %d, %d", x.n, got, e, x.want, x.e)
		}
	}
}

func TestSizeOfAllNumbers(t *testing.T) {
	for n := range 8193 {
		if got, e := pad.Size(n); got != least(n) || e != api.OK {
			t.Errorf("Size(%d) = %d, %d; want %d", n, got, e, least(n))
		}
	}
}

func TestSizeRefuses(t *testing.T) {
	for _, n := range []int{-1, -2, -32, -8193, math.MinInt32, math.MinInt + 1, math.MinInt} {
		if got, e := pad.Size(n); got != 0 || e != api.ErrArg {
			t.Errorf("Size(%d) = %d, %d; want ErrArg", n, got, e)
		}
	}
	for _, n := range []int{8193, 8194, 8447, 8448, 1 << 16, math.MaxInt32, math.MaxInt - 1, math.MaxInt} {
		if got, e := pad.Size(n); got != 0 || e != api.ErrLong {
			t.Errorf("Size(%d) = %d, %d; want ErrLong", n, got, e)
		}
	}
}

// P13.2

func TestPadExamples(t *testing.T) {
	if p, e := pad.Pad("ab"); p != "\x00\x02ab"+noughts(28) || e != api.OK {
		t.Errorf("Pad(ab) = %x, %d", p, e)
	}
	for _, x := range []struct {
		n, want int
		e       api.Errno
	}{{30, 32, api.OK}, {31, 64, api.OK}, {8190, 8192, api.OK}, {8191, 0, api.ErrLong}} {
		if p, e := pad.Pad(strings.Repeat("x", x.n)); len(p) != x.want || e != x.e {
			t.Errorf("Pad of %d bytes: %d bytes, %d; want %d, %d", x.n, len(p), e, x.want, x.e)
		}
	}
}

func TestPadRefusesWhatIsLong(t *testing.T) {
	for _, n := range []int{8191, 8192, 8193, 8446, 65535, 65536, 65538, 1 << 20} {
		for _, c := range []string{"x", "\x00", "\xff"} {
			if p, e := pad.Pad(strings.Repeat(c, n)); p != "" || e != api.ErrLong {
				t.Errorf("Pad of %d bytes %q: %d bytes, %d", n, c, len(p), e)
			}
		}
	}
}

func TestUnpadExamples(t *testing.T) {
	if s, e := pad.Unpad(noughts(32)); s != "" || e != api.OK {
		t.Errorf("Unpad of 32 noughts = %q, %d", s, e)
	}
	refused(t, "64 noughts", noughts(64))
	refused(t, "a byte 1 behind the text", "\x00\x01a\x01"+noughts(28))
	refused(t, "nothing", "")
}

func TestUnpadRefusesWrongLengths(t *testing.T) {
	for n := range 9000 {
		if n != 32 {
			refused(t, "noughts", noughts(n))
		}
	}
	for _, n := range []int{0, 1, 2, 29, 30, 31, 62, 63, 126, 127, 254, 255, 510, 511, 7934, 7935, 8190} {
		p := padded(strings.Repeat("x", n))
		refused(t, "one too few", p[:len(p)-1])
		refused(t, "one too many", p+"\x00")
		for _, size := range allLengths() {
			if size > len(p) {
				refused(t, "a greater length", p+noughts(size-len(p)))
			} else if size < len(p) {
				refused(t, "a smaller length", p[:size])
			}
		}
	}
	refused(t, "a text that is too long by one", "\x1f\xff"+noughts(8191))
	refused(t, "a text that is too long, at a further length", "\x1f\xff"+strings.Repeat("x", 8191)+noughts(255))
	refused(t, "the longest number", "\xff\xff"+strings.Repeat("x", 65535))
	refused(t, "very many bytes", noughts(1<<24))
}

// numbersAhead are numbers of 2 bytes: all of those around where a padded text's length changes, and some between and above.
func numbersAhead() []int {
	out := []int{0, 1, 2, 1<<16 - 1}
	for _, size := range allLengths() {
		for n := size - 4; n <= size+2; n++ {
			out = append(out, n)
		}
	}
	for n := 61; n < 1<<16; n += 61 + n/16 {
		out = append(out, n)
	}
	return out
}

func TestUnpadHoldsTheNumberAgainstTheLength(t *testing.T) {
	for _, size := range allLengths() {
		for _, n := range numbersAhead() {
			s := string([]byte{byte(n >> 8), byte(n)}) + noughts(size-2)
			if least(2+n) != size {
				refused(t, "a number of another length", s)
			} else if x, e := pad.Unpad(s); x != noughts(n) || e != api.OK {
				t.Errorf("%d ahead of %d bytes: %d bytes, %d", n, size, len(x), e)
			}
		}
	}
}

func TestUnpadRefusesEachByteBehindTheText(t *testing.T) {
	for _, n := range []int{0, 1, 2, 17, 29, 31, 40, 63, 200, 255, 700, 8189} {
		p := padded(strings.Repeat("x", n))
		for at := 2 + n; at < len(p); at++ {
			for _, c := range []byte{1, 0x30, 0x7f, 0x80, 0xbf, 0xc0, 0xe0, 0xf0, 0xff} {
				refused(t, "a byte that is not 0", set(p, at, c))
			}
		}
	}
	p := padded("x")
	for c := 1; c < 256; c++ {
		refused(t, "any byte first", set(p, 3, byte(c)))
		refused(t, "any byte last", set(p, 31, byte(c)))
	}
}

// Bytes that some readers of runes hold for a nought, or pass over, are none here.
func TestUnpadRefusesRunesOfSeveralBytes(t *testing.T) {
	p := padded("x")
	for _, s := range []string{"\xc0\x80", "\xe0\x80\x80", "\xf0\x80\x80\x80", "\u0100", "\u0800", "\U00010000", "\ufffd", "\ufeff", "\u200b", "\xed\xa0\x80"} {
		refused(t, "first", p[:3]+s+noughts(29-len(s)))
		refused(t, "last", p[:3]+noughts(29-len(s))+s)
	}
	// A rune whose first byte is the text's last one, and the others stand behind it.
	refused(t, "a rune over the end", "\x00\x01\xc3\xa4"+noughts(28))
	if s, e := pad.Unpad("\x00\x01\xc3" + noughts(29)); s != "\xc3" || e != api.OK {
		t.Errorf("a text that ends within a rune: %x, %d", s, e)
	}
}

// P13.3

func TestPadAndBackAtAllLengths(t *testing.T) {
	chance := rand.New(rand.NewSource(13))
	for n := range 8191 {
		for _, s := range []string{noughts(n), strings.Repeat("\xff", n), chanceText(chance, n)} {
			p, e := pad.Pad(s)
			if p != padded(s) || e != api.OK {
				t.Fatalf("Pad of %d bytes: %d bytes, %d", n, len(p), e)
			}
			if size, e := pad.Size(n + 2); size != len(p) || e != api.OK {
				t.Fatalf("Size(%d + 2) = %d, %d; padded to %d", n, size, e, len(p))
			}
			if back, e := pad.Unpad(p); back != s || e != api.OK {
				t.Fatalf("Unpad of Pad of %d bytes: %d bytes, %d", n, len(back), e)
			}
		}
	}
}

// Whatever Unpad takes, Pad makes again; so no text has two padded ones.
func TestUnpadAndBack(t *testing.T) {
	chance := rand.New(rand.NewSource(14))
	taken := 0
	for range 50000 {
		size := allLengths()[chance.Intn(6)]
		n := chance.Intn(size + 8)
		s := padded(chanceText(chance, n))
		switch chance.Intn(4) {
		case 0:
			s = set(s, chance.Intn(len(s)), byte(chance.Intn(3)))
		case 1:
			s = set(s, chance.Intn(2), byte(chance.Intn(256)))
		case 2:
			s = s[:chance.Intn(len(s)+1)]
		}
		x, e := pad.Unpad(s)
		if e != api.OK {
			if x != "" || e != api.ErrForm {
				t.Fatalf("Unpad(%x) = %x, %d", s, x, e)
			}
			continue
		}
		taken++
		if p, e := pad.Pad(x); p != s || e != api.OK {
			t.Fatalf("Pad of Unpad of %x = %x, %d", s, p, e)
		}
	}
	if taken < 10000 || taken > 45000 {
		t.Errorf("%d of 50000 were taken", taken)
	}
}

func TestTextsOfOneSizeArePaddedToOneLength(t *testing.T) {
	by := map[int]int{}
	for n := range 8191 {
		size, _ := pad.Size(n + 2)
		p, _ := pad.Pad(strings.Repeat("y", n))
		if by[size] == 0 {
			by[size] = len(p)
		}
		if len(p) != by[size] || size == 0 {
			t.Errorf("%d bytes: %d, and another one of Size %d: %d", n, len(p), size, by[size])
		}
	}
	if len(by) != len(allLengths()) {
		t.Errorf("%d lengths", len(by))
	}
}

// R5

func TestAnswersAreNewMemory(t *testing.T) {
	b := []byte(padded(strings.Repeat("z", 100)))
	s := unsafe.String(&b[0], len(b))
	text, _ := pad.Unpad(s)
	whole, _ := pad.Pad(s[:126])
	before := strings.Clone(whole)
	for i := range b {
		b[i] = 'w'
	}
	if text != strings.Repeat("z", 100) || whole != before {
		t.Errorf("an answer shares memory with what was handed in")
	}
}
