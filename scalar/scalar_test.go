package scalar_test

import (
	"encoding/hex"
	"math/big"
	"math/rand"
	"slices"
	"strings"
	"testing"

	"missive/scalar"
)

// Digits of the document's examples.
const (
	orderDigits = "edd3f55c1a631258d69cf7a2def9de1400000000000000000000000000000010"
	topDigits   = "ecd3f55c1a631258d69cf7a2def9de1400000000000000000000000000000010"
	fullDigits  = "000f9c44e31106a447938568a71b0ed065bef517d273ecce3d9a307c1b419903"
)

// l is told as the document has it, without the package that is tested.
var l = func() *big.Int {
	more, ok := new(big.Int).SetString("27742317777372353535851937790883648493", 10)
	if !ok {
		panic("no number")
	}
	return more.Add(more, new(big.Int).Lsh(big.NewInt(1), 252))
}()

func raw(t *testing.T, digits string) string {
	t.Helper()
	b, err := hex.DecodeString(digits)
	if err != nil {
		t.Fatal(err)
	}
	return string(b)
}

// laid tells a number's bytes, the lowest first, in a text of that size.
func laid(n *big.Int, size int) string {
	b := n.FillBytes(make([]byte, size))
	slices.Reverse(b)
	return string(b)
}

// whole tells the number of a text as the document has it: of its first 64 bytes.
func whole(s string) *big.Int {
	b := []byte(s[:min(len(s), 64)])
	slices.Reverse(b)
	return new(big.Int).SetBytes(b)
}

// want tells the scalar's bytes of a number.
func want(n *big.Int) string { return laid(new(big.Int).Mod(n, l), 32) }

func less(n *big.Int, by int64) *big.Int { return new(big.Int).Sub(n, big.NewInt(by)) }

// texts are those of the edges, of all lengths, and of multiples of L with their neighbours.
func texts() []string {
	out := []string{"", "\x00", "\x01", "\xff", strings.Repeat("\x00", 200), strings.Repeat("\xff", 200)}
	chance := rand.New(rand.NewSource(3))
	for size := range 71 {
		b := make([]byte, size)
		chance.Read(b)
		out = append(out, string(b), strings.Repeat("\xff", size), strings.Repeat("\x00", size))
	}
	for bit := range uint(513) {
		for more := int64(-1); more <= 1; more++ {
			n := less(new(big.Int).Lsh(big.NewInt(1), bit), more)
			if n.BitLen() <= 512 {
				out = append(out, laid(n, 64))
			}
		}
	}
	for _, times := range multiples() {
		for more := int64(-2); more <= 2; more++ {
			if n := less(new(big.Int).Mul(l, times), more); n.Sign() >= 0 && n.BitLen() <= 512 {
				out = append(out, laid(n, 64))
			}
		}
	}
	return out
}

// multiples are how often L is taken: a few times, and as often as fits in 64 bytes.
func multiples() []*big.Int {
	most := new(big.Int).Div(new(big.Int).Lsh(big.NewInt(1), 512), l)
	out := []*big.Int{most, new(big.Int).Set(l), less(l, 1), less(l, -1)}
	for n := range int64(40) {
		out = append(out, big.NewInt(n), less(most, n))
	}
	for bit := range uint(260) {
		out = append(out, new(big.Int).Lsh(big.NewInt(1), bit))
	}
	return out
}

// few are texts for pairs and triples.
func few() []string {
	out := []string{"", "\x01", "\x02\x03", strings.Repeat("\xff", 64), strings.Repeat("\xff", 32), strings.Repeat("\x00", 63) + "\x80"}
	for more := int64(-2); more <= 2; more++ {
		out = append(out, laid(less(l, more), 32), laid(less(new(big.Int).Rsh(l, 1), more), 32))
	}
	chance := rand.New(rand.NewSource(4))
	for _, size := range []int{5, 16, 31, 32, 33, 63, 64, 65, 90} {
		b := make([]byte, size)
		chance.Read(b)
		out = append(out, string(b))
	}
	return out
}

// P3.1

func TestCheckExamples(t *testing.T) {
	for digits, want := range map[string]bool{
		orderDigits:                     false,
		topDigits:                       true,
		strings.Repeat("00", 32):        true,
		"01" + strings.Repeat("00", 31): true,
	} {
		if scalar.Check(raw(t, digits)) != want {
			t.Errorf("Check(%s) is not %v", digits, want)
		}
	}
}

func TestCheckWantsThirtyTwoBytes(t *testing.T) {
	for size := range 130 {
		if got := scalar.Check(strings.Repeat("\x00", size)); got != (size == 32) {
			t.Errorf("Check of %d noughts = %v", size, got)
		}
	}
	top := raw(t, topDigits)
	for _, s := range []string{top[:31], top + "\x00", "\x00" + top, top + top} {
		if scalar.Check(s) {
			t.Errorf("Check(%x)", s)
		}
	}
}

func TestCheckWantsNumbersBelowL(t *testing.T) {
	numbers := []*big.Int{less(l, 2), less(l, 1), l, less(l, -1), less(new(big.Int).Lsh(l, 1), 1), new(big.Int).Lsh(l, 1)}
	for bit := range uint(256) {
		n := new(big.Int).Lsh(big.NewInt(1), bit)
		numbers = append(numbers, n, less(n, 1), new(big.Int).Xor(l, n))
	}
	for _, n := range numbers {
		if got := scalar.Check(laid(n, 32)); got != (n.Cmp(l) < 0) {
			t.Errorf("Check(%x) = %v", laid(n, 32), got)
		}
	}
	if scalar.Check(strings.Repeat("\xff", 32)) {
		t.Error("Check of 32 bytes ff")
	}
}

func TestReduceExamples(t *testing.T) {
	zero := strings.Repeat("\x00", 32)
	for digits, want := range map[string]string{
		"":                       zero,
		"01":                     "\x01" + zero[1:],
		orderDigits:              zero,
		topDigits:                raw(t, topDigits),
		strings.Repeat("ff", 64): raw(t, fullDigits),
	} {
		if got := scalar.Reduce(raw(t, digits)); got != want {
			t.Errorf("Reduce(%s) = %x", digits, got)
		}
	}
}

func TestReduceIsModuloL(t *testing.T) {
	for _, s := range texts() {
		if got := scalar.Reduce(s); got != want(whole(s)) {
			t.Errorf("Reduce(%x) = %x", s, got)
		}
	}
}

func TestReduceTakesTheFirstSixtyFourBytes(t *testing.T) {
	s := strings.Repeat("\xab", 64)
	for _, behind := range []string{"\x00", "\x01", "\xff", strings.Repeat("\x77", 1000)} {
		if scalar.Reduce(s+behind) != scalar.Reduce(s) {
			t.Errorf("%d bytes behind the 64 count", len(behind))
		}
	}
	if scalar.Reduce(s[:63]+"\xac") == scalar.Reduce(s) {
		t.Error("the last of the 64 bytes counts for nothing")
	}
}

// P3.2

func TestAddAndMulExamples(t *testing.T) {
	zero := strings.Repeat("\x00", 32)
	top := raw(t, topDigits)
	if got := scalar.Add(top, "\x01"); got != zero {
		t.Errorf("Add = %x", got)
	}
	if got := scalar.Mul(top, top); got != "\x01"+zero[1:] {
		t.Errorf("Mul = %x", got)
	}
}

func TestAddAndMulAreModuloL(t *testing.T) {
	list := few()
	all := texts()
	for i, a := range list {
		for _, b := range append(list, all[i*7:i*7+40]...) {
			if got := scalar.Add(a, b); got != want(new(big.Int).Add(whole(a), whole(b))) {
				t.Errorf("Add(%x, %x) = %x", a, b, got)
			}
			if got := scalar.Mul(a, b); got != want(new(big.Int).Mul(whole(a), whole(b))) {
				t.Errorf("Mul(%x, %x) = %x", a, b, got)
			}
		}
	}
}

func TestAddAndMulOfManyNumbers(t *testing.T) {
	chance := rand.New(rand.NewSource(5))
	a, b := make([]byte, 64), make([]byte, 64)
	for range 3000 {
		chance.Read(a)
		chance.Read(b)
		x, y := string(a[:chance.Intn(65)]), string(b[:chance.Intn(65)])
		if got := scalar.Add(x, y); got != want(new(big.Int).Add(whole(x), whole(y))) {
			t.Fatalf("Add(%x, %x) = %x", x, y, got)
		}
		if got := scalar.Mul(x, y); got != want(new(big.Int).Mul(whole(x), whole(y))) {
			t.Fatalf("Mul(%x, %x) = %x", x, y, got)
		}
	}
}

// P3.3

func TestClampExamples(t *testing.T) {
	if got := scalar.Clamp(strings.Repeat("\xff", 32)); got != "\xf8"+strings.Repeat("\xff", 30)+"\x7f" {
		t.Errorf("Clamp(32 bytes ff) = %x", got)
	}
	if got := scalar.Clamp(strings.Repeat("\xff", 31)); got != "" {
		t.Errorf("Clamp(31 bytes) = %x", got)
	}
}

func TestClampWantsThirtyTwoBytes(t *testing.T) {
	for size := range 130 {
		if got := scalar.Clamp(strings.Repeat("\x55", size)); (got != "") != (size == 32) {
			t.Errorf("Clamp of %d bytes = %x", size, got)
		}
	}
}

func TestClampSetsItsBitsAndNoOther(t *testing.T) {
	for bit := range 256 {
		for _, base := range []byte{0, 0xff} {
			in := []byte(strings.Repeat(string([]byte{base}), 32))
			in[bit/8] ^= 1 << (bit % 8)
			s := string(in)
			out := slices.Clone(in)
			out[0] &^= 7
			out[31] &^= 128
			out[31] |= 64
			if got := scalar.Clamp(s); got != string(out) {
				t.Errorf("Clamp(%x) = %x", s, got)
			}
			if again := scalar.Clamp(scalar.Clamp(s)); again != string(out) {
				t.Errorf("Clamp of what it answered = %x", again)
			}
		}
	}
}

// P3.4

func TestAnswersAreScalars(t *testing.T) {
	list := few()
	for _, a := range texts() {
		s := scalar.Reduce(a)
		if !scalar.Check(s) || scalar.Reduce(s) != s {
			t.Errorf("Reduce(%x) = %x", a, s)
		}
	}
	for _, a := range list {
		for _, b := range list {
			for _, s := range []string{scalar.Add(a, b), scalar.Mul(a, b)} {
				if !scalar.Check(s) || scalar.Reduce(s) != s {
					t.Errorf("of %x and %x: %x", a, b, s)
				}
			}
		}
	}
}

func TestRing(t *testing.T) {
	list := few()
	for _, a := range list {
		if scalar.Add(a, "") != scalar.Reduce(a) || scalar.Mul(a, "\x01") != scalar.Reduce(a) || scalar.Mul(a, "") != scalar.Reduce("") {
			t.Errorf("0 and 1 with %x", a)
		}
		for _, b := range list {
			if scalar.Add(a, b) != scalar.Add(b, a) || scalar.Mul(a, b) != scalar.Mul(b, a) {
				t.Fatalf("an order counts: %x, %x", a, b)
			}
			if scalar.Add(scalar.Reduce(a), b) != scalar.Add(a, b) || scalar.Mul(scalar.Reduce(a), b) != scalar.Mul(a, b) {
				t.Fatalf("what is modulo L counts for something else: %x, %x", a, b)
			}
			for _, c := range list[:8] {
				if scalar.Mul(scalar.Add(a, b), c) != scalar.Add(scalar.Mul(a, c), scalar.Mul(b, c)) {
					t.Fatalf("not over sums: %x, %x, %x", a, b, c)
				}
				if scalar.Add(scalar.Add(a, b), c) != scalar.Add(a, scalar.Add(b, c)) || scalar.Mul(scalar.Mul(a, b), c) != scalar.Mul(a, scalar.Mul(b, c)) {
					t.Fatalf("brackets count: %x, %x, %x", a, b, c)
				}
			}
		}
	}
}

func TestOrder(t *testing.T) {
	order := raw(t, orderDigits)
	if order != laid(l, 32) {
		t.Fatal("the example's L is not that of the words")
	}
	power := strings.Repeat("\x00", 31) + "\x10" // 2^252
	rest := laid(new(big.Int).Sub(l, whole(power)), 32)
	if got := scalar.Add(power, rest); got != scalar.Reduce("") || scalar.Reduce(order) != got {
		t.Errorf("2^252 and L less it = %x", got)
	}
}
