package curve_test

import (
	"encoding/hex"
	"math/big"
	"math/rand"
	"slices"
	"strings"
	"testing"

	"missive/curve"
)

// Numbers are told as the document has them, without the packages that are tested.
var (
	p = less(power(255), 19)
	l = new(big.Int).Add(power(252), decimal("27742317777372353535851937790883648493"))
	d = over(big.NewInt(-121665), big.NewInt(121666))
)

func power(bits uint) *big.Int { return new(big.Int).Lsh(big.NewInt(1), bits) }

func less(n *big.Int, by int64) *big.Int { return new(big.Int).Sub(n, big.NewInt(by)) }

func decimal(s string) *big.Int {
	n, ok := new(big.Int).SetString(s, 10)
	if !ok {
		panic("no number")
	}
	return n
}

// times is the product of all modulo p.
func times(list ...*big.Int) *big.Int {
	out := big.NewInt(1)
	for _, n := range list {
		out.Mul(out, n).Mod(out, p)
	}
	return out
}

// plus is the sum of all modulo p.
func plus(list ...*big.Int) *big.Int {
	out := new(big.Int)
	for _, n := range list {
		out.Add(out, n)
	}
	return out.Mod(out, p)
}

func minus(n *big.Int) *big.Int { return plus(new(big.Int).Neg(n)) }

// over is a divided by b, modulo p.
func over(a, b *big.Int) *big.Int { return times(plus(a), new(big.Int).ModInverse(plus(b), p)) }

// laid tells a number's 32 bytes, the lowest first.
func laid(n *big.Int) string {
	b := n.FillBytes(make([]byte, 32))
	slices.Reverse(b)
	return string(b)
}

// whole tells the number of bytes, the lowest first.
func whole(s string) *big.Int {
	b := []byte(s)
	slices.Reverse(b)
	return new(big.Int).SetBytes(b)
}

func raw(t *testing.T, digits string) string {
	t.Helper()
	b, err := hex.DecodeString(digits)
	if err != nil {
		t.Fatal(err)
	}
	return string(b)
}

// pair is a point as the document's words have it.
type pair struct{ x, y *big.Int }

func (a pair) sum(b pair) pair {
	one := big.NewInt(1)
	turn := times(d, a.x, b.x, a.y, b.y)
	return pair{
		over(plus(times(a.x, b.y), times(b.x, a.y)), plus(one, turn)),
		over(plus(times(a.y, b.y), times(a.x, b.x)), plus(one, minus(turn))),
	}
}

// mul is the sum of n of the pair, from the lowest bit on.
func (a pair) mul(n *big.Int) pair {
	out := pair{new(big.Int), big.NewInt(1)}
	for i := range n.BitLen() {
		if n.Bit(i) == 1 {
			out = out.sum(a)
		}
		a = a.sum(a)
	}
	return out
}

func (a pair) is() bool {
	x, y := times(a.x, a.x), times(a.y, a.y)
	return plus(y, minus(x)).Cmp(plus(big.NewInt(1), times(d, x, y))) == 0
}

func (a pair) bytes() string {
	return laid(new(big.Int).Add(a.y, new(big.Int).Mul(power(255), big.NewInt(int64(a.x.Bit(0))))))
}

// pairOf tells the pair with that y and the even or the odd x.
func pairOf(y *big.Int, odd uint) (pair, bool) {
	square := times(y, y)
	x := new(big.Int).ModSqrt(over(plus(square, big.NewInt(-1)), plus(times(d, square), big.NewInt(1))), p)
	if x == nil || x.Sign() == 0 && odd == 1 {
		return pair{}, false
	}
	if x.Bit(0) != odd {
		x = minus(x)
	}
	return pair{x, y}, true
}

func basePair() pair {
	a, _ := pairOf(over(big.NewInt(4), big.NewInt(5)), 0)
	return a
}

// of is the point of a pair.
func of(t *testing.T, a pair) curve.Point {
	t.Helper()
	q, ok := curve.Of(a.bytes())
	if !ok {
		t.Fatalf("Of(%x) is refused", a.bytes())
	}
	return q
}

// eighths are the points that 8 times are None: multiples of one that is L times any other point.
func eighths() []pair {
	for y := int64(2); ; y++ {
		a, ok := pairOf(big.NewInt(y), 0)
		if !ok {
			continue
		}
		first := a.mul(l)
		if first.mul(big.NewInt(4)).y.Cmp(big.NewInt(1)) == 0 {
			continue
		}
		out := []pair{}
		for n := range int64(8) {
			out = append(out, first.mul(big.NewInt(n)))
		}
		return out
	}
}

// pairs are points of all kinds: the eighths, the base's multiples, those of small y, sums of these, and some of all lengths.
func pairs() []pair {
	out := eighths()
	base := basePair()
	for n := range int64(4) {
		out = append(out, base.mul(big.NewInt(n+1)), base.sum(out[2*n+1]))
	}
	for y := range int64(30) {
		if a, ok := pairOf(big.NewInt(y), uint(y%2)); ok {
			out = append(out, a)
		}
	}
	chance := rand.New(rand.NewSource(4))
	for range 12 {
		if a, ok := pairOf(new(big.Int).Rand(chance, p), uint(chance.Intn(2))); ok {
			out = append(out, a)
		}
	}
	return out
}

// numbers are the edges of 256 bits and of L, and some of all lengths.
func numbers() []*big.Int {
	out := []*big.Int{new(big.Int), less(power(256), 1), less(power(256), 2), power(255), less(power(255), 1), p}
	for _, n := range []*big.Int{l, new(big.Int).Rsh(l, 1), new(big.Int).Lsh(l, 1), new(big.Int).Lsh(l, 3), new(big.Int).Mul(l, big.NewInt(15))} {
		out = append(out, less(n, 1), n, less(n, -1))
	}
	chance := rand.New(rand.NewSource(5))
	for bits := uint(1); bits <= 256; bits += 15 {
		out = append(out, new(big.Int).Rand(chance, power(bits)))
	}
	return out
}

// P4.1

func TestBaseAndNone(t *testing.T) {
	base := basePair()
	if !base.is() || times(base.y, big.NewInt(5)).Cmp(big.NewInt(4)) != 0 || base.x.Bit(0) != 0 {
		t.Fatal("the pair is not the base")
	}
	if got := curve.Base().Bytes(); got != base.bytes() || got != "\x58"+strings.Repeat("\x66", 31) {
		t.Errorf("Base().Bytes() = %x", got)
	}
	if got := curve.None().Bytes(); got != "\x01"+strings.Repeat("\x00", 31) {
		t.Errorf("None().Bytes() = %x", got)
	}
	// Bytes tell of x only whether it is odd: the base is whole if Of finds the same point.
	if !curve.Base().Same(of(t, base)) || !curve.None().Same(of(t, pair{new(big.Int), big.NewInt(1)})) {
		t.Error("Base or None is another point than its bytes say")
	}
}

func TestZeroPointIsNone(t *testing.T) {
	var zero curve.Point
	if !zero.Same(curve.None()) || !curve.None().Same(zero) || zero.Bytes() != curve.None().Bytes() || zero != curve.None() {
		t.Errorf("the zero Point is %x", zero.Bytes())
	}
	base := curve.Base()
	if !zero.Add(base).Same(base) || !base.Add(zero).Same(base) || !zero.Neg().Same(zero) || !zero.Mul(laid(less(l, 1))).Same(zero) {
		t.Error("the zero Point adds something")
	}
}

func TestOfIsThePoint(t *testing.T) {
	for _, a := range pairs() {
		if !a.is() {
			t.Fatalf("%x is no point", a.bytes())
		}
		if got := of(t, a).Bytes(); got != a.bytes() {
			t.Errorf("Of(%x) has the bytes %x", a.bytes(), got)
		}
	}
}

func TestOfTakesJustThePoints(t *testing.T) {
	tried := []*big.Int{}
	for n := range int64(60) {
		tried = append(tried, big.NewInt(n), less(p, n+1))
	}
	chance := rand.New(rand.NewSource(6))
	for range 60 {
		tried = append(tried, new(big.Int).Rand(chance, p))
	}
	taken := 0
	for _, y := range tried {
		for odd := range uint(2) {
			_, want := pairOf(y, odd)
			s := laid(new(big.Int).Or(y, new(big.Int).Lsh(big.NewInt(int64(odd)), 255)))
			q, ok := curve.Of(s)
			if ok != want {
				t.Errorf("Of(%x) is %v", s, ok)
			}
			if ok && q.Bytes() != s || !ok && q != (curve.Point{}) {
				t.Errorf("Of(%x) = %x, %v", s, q.Bytes(), ok)
			}
			if ok {
				taken++
			}
		}
	}
	if taken < len(tried)/2 || taken > len(tried)*3/2 {
		t.Errorf("%d of %d are points", taken, 2*len(tried))
	}
}

func TestOfRefuses(t *testing.T) {
	nought := strings.Repeat("\x00", 30)
	wrong := []string{
		"\x01" + nought + "\x80",                       // None with an odd x
		"\x02" + nought + "\x00",                       // there is no x
		"\xed" + strings.Repeat("\xff", 30) + "\x7f",   // p
		laid(new(big.Int).Add(less(p, 1), power(255))), // x is 0 here too
		strings.Repeat("\xff", 32), curve.Base().Bytes() + "\x00", "\x00" + curve.Base().Bytes(),
	}
	// p and whatever is above it, even where the number less p has a point.
	for n := range int64(19) {
		y := new(big.Int).Add(p, big.NewInt(n))
		wrong = append(wrong, laid(y), laid(new(big.Int).Add(y, power(255))))
	}
	for size := range 70 {
		if size != 32 {
			wrong = append(wrong, strings.Repeat("\x00", size), strings.Repeat("\x66", size), (curve.Base().Bytes() + strings.Repeat("\x00", 40))[:size])
		}
	}
	for _, s := range wrong {
		if q, ok := curve.Of(s); ok || q != (curve.Point{}) || !q.Same(curve.None()) {
			t.Errorf("Of(%x) = %x, %v", s, q.Bytes(), ok)
		}
	}
}

func TestSame(t *testing.T) {
	all := pairs()
	for _, a := range all {
		for _, b := range all {
			want := a.x.Cmp(b.x) == 0 && a.y.Cmp(b.y) == 0
			if got := of(t, a).Same(of(t, b)); got != want {
				t.Errorf("Same of %x and %x = %v", a.bytes(), b.bytes(), got)
			}
		}
		// The other x with this y, and the other y with this x.
		other := pair{a.x, minus(a.y)}
		if of(t, a).Same(of(t, other)) != (a.y.Sign() == 0) || of(t, a).Same(of(t, a).Neg()) != (a.x.Sign() == 0) {
			t.Errorf("%x is the same as another one", a.bytes())
		}
	}
}

// The same point, found in many ways, is the same one.
func TestSameHoweverFound(t *testing.T) {
	base := curve.Base()
	want := base.Mul(laid(big.NewInt(6)))
	two, three := base.Add(base), base.Add(base).Add(base)
	for i, q := range []curve.Point{three.Add(three), two.Add(two).Add(two), three.Mul(laid(big.NewInt(2))), two.Mul(laid(big.NewInt(3))), base.Mul(laid(new(big.Int).Add(l, big.NewInt(6)))), base.Neg().Mul(laid(less(l, 6)))} {
		if !q.Same(want) || !want.Same(q) || q.Bytes() != want.Bytes() || q != want {
			t.Errorf("way %d: %x", i, q.Bytes())
		}
	}
}

// P4.2

func TestAddIsTheSum(t *testing.T) {
	all := pairs()
	for _, a := range all {
		for _, b := range all {
			got, want := of(t, a).Add(of(t, b)), a.sum(b)
			if got.Bytes() != want.bytes() || !got.Same(of(t, want)) {
				t.Fatalf("%x Add %x = %x, want %x", a.bytes(), b.bytes(), got.Bytes(), want.bytes())
			}
		}
	}
}

func TestNeg(t *testing.T) {
	for _, a := range pairs() {
		got, want := of(t, a).Neg(), pair{minus(a.x), a.y}
		if got.Bytes() != want.bytes() || !got.Same(of(t, want)) {
			t.Errorf("Neg of %x = %x", a.bytes(), got.Bytes())
		}
	}
}

func TestMulExamples(t *testing.T) {
	base := curve.Base()
	two := base.Mul("\x02" + strings.Repeat("\x00", 31))
	if !two.Same(base.Add(base)) || two.Bytes() != raw(t, "c9a3f86aae465f0e56513864510f3997561fa2c9e85ea21dc2292309f3cd6022") {
		t.Errorf("2 times the base is %x", two.Bytes())
	}
	if got := base.Mul(raw(t, "edd3f55c1a631258d69cf7a2def9de1400000000000000000000000000000010")); !got.Same(curve.None()) {
		t.Errorf("L times the base is %x", got.Bytes())
	}
}

func TestMulIsTheSumOfSoMany(t *testing.T) {
	for _, a := range append(eighths(), basePair(), pairs()[10], pairs()[20]) {
		sum := curve.None()
		for n := range int64(40) {
			if got := of(t, a).Mul(laid(big.NewInt(n))); !got.Same(sum) {
				t.Errorf("%d times %x = %x", n, a.bytes(), got.Bytes())
			}
			sum = sum.Add(of(t, a))
		}
	}
}

func TestMulOfAllNumbers(t *testing.T) {
	all := pairs()
	for i, n := range numbers() {
		for _, a := range []pair{basePair(), all[i%len(all)], all[(7*i+3)%len(all)]} {
			if got, want := of(t, a).Mul(laid(n)), a.mul(n); got.Bytes() != want.bytes() || !got.Same(of(t, want)) {
				t.Errorf("%v times %x = %x, want %x", n, a.bytes(), got.Bytes(), want.bytes())
			}
		}
	}
}

// Each of the 256 bits counts, the highest too, as no number is taken modulo L: that would show with eighths.
func TestMulTakesEachBit(t *testing.T) {
	a := basePair().sum(eighths()[1])
	q, sum := of(t, a), of(t, a)
	for place := range uint(256) {
		if got := q.Mul(laid(power(place))); !got.Same(sum) {
			t.Errorf("2^%d times = %x", place, got.Bytes())
		}
		sum = sum.Add(sum)
	}
	if q.Mul(laid(l)).Same(curve.None()) {
		t.Error("L times the base and an eighth is None")
	}
}

func TestMulWantsThirtyTwoBytes(t *testing.T) {
	for size := range 130 {
		s := "\x01" + strings.Repeat("\x00", 140)
		if got := curve.Base().Mul(s[:size]); got.Same(curve.None()) != (size != 32) || size != 32 && got != (curve.Point{}) {
			t.Errorf("Mul of %d bytes = %x", size, got.Bytes())
		}
	}
}

// P4.4

func TestGroup(t *testing.T) {
	all := pairs()
	few := []curve.Point{}
	for i := 0; i < len(all); i += 4 {
		few = append(few, of(t, all[i]))
	}
	for _, a := range few {
		if !a.Add(a.Neg()).Same(curve.None()) || !a.Neg().Add(a).Same(curve.None()) || !a.Neg().Neg().Same(a) {
			t.Errorf("%x and its Neg", a.Bytes())
		}
		if !a.Add(curve.None()).Same(a) || !curve.None().Add(a).Same(a) {
			t.Errorf("%x and None", a.Bytes())
		}
		for _, b := range few {
			if !a.Add(b).Same(b.Add(a)) {
				t.Errorf("an order counts: %x, %x", a.Bytes(), b.Bytes())
			}
			for _, c := range few[:4] {
				if !a.Add(b).Add(c).Same(a.Add(b.Add(c))) {
					t.Errorf("brackets count: %x, %x, %x", a.Bytes(), b.Bytes(), c.Bytes())
				}
			}
		}
	}
}

func TestMulGoesOverSums(t *testing.T) {
	a := of(t, basePair().sum(eighths()[3]))
	chance := rand.New(rand.NewSource(7))
	for range 12 {
		n, m := new(big.Int).Rand(chance, power(255)), new(big.Int).Rand(chance, power(255))
		if !a.Mul(laid(n)).Add(a.Mul(laid(m))).Same(a.Mul(laid(new(big.Int).Add(n, m)))) {
			t.Errorf("%v and %v times", n, m)
		}
		if !a.Mul(laid(n)).Mul(laid(m)).Same(a.Mul(laid(m)).Mul(laid(n))) {
			t.Errorf("%v times %v times", n, m)
		}
		b := curve.Base().Mul(laid(m))
		if !a.Add(b).Mul(laid(n)).Same(a.Mul(laid(n)).Add(b.Mul(laid(n)))) {
			t.Errorf("%v times a sum", n)
		}
		few := new(big.Int).Rand(chance, power(120))
		if !a.Mul(laid(few)).Mul(laid(few)).Same(a.Mul(laid(new(big.Int).Mul(few, few)))) {
			t.Errorf("%v times %v times is not the product's", few, few)
		}
	}
}

func TestOrder(t *testing.T) {
	if !curve.Base().Mul(laid(l)).Same(curve.None()) || curve.Base().Mul(laid(less(l, 1))).Same(curve.None()) {
		t.Error("L times the base")
	}
	if !curve.Base().Mul(laid(less(l, 1))).Same(curve.Base().Neg()) {
		t.Error("L less 1 times the base")
	}
	eight := new(big.Int).Lsh(l, 3)
	for _, a := range pairs() {
		if got := of(t, a).Mul(laid(eight)); !got.Same(curve.None()) {
			t.Errorf("8 L times %x = %x", a.bytes(), got.Bytes())
		}
	}
	for n, a := range eighths() {
		if !of(t, a).Mul(laid(big.NewInt(8))).Same(curve.None()) || of(t, a).Mul(laid(big.NewInt(4))).Same(curve.None()) != (n%2 == 0) {
			t.Errorf("an eighth is none: %x", a.bytes())
		}
	}
}

// P4.6

func TestBytesThereAndBack(t *testing.T) {
	for _, a := range pairs() {
		q := of(t, a)
		for _, x := range []curve.Point{q, q.Neg(), q.Add(q), q.Add(curve.Base()), q.Mul(laid(less(l, 5)))} {
			back, ok := curve.Of(x.Bytes())
			if !ok || !back.Same(x) || back.Bytes() != x.Bytes() || len(x.Bytes()) != 32 {
				t.Errorf("Of(%x) = %x, %v", x.Bytes(), back.Bytes(), ok)
			}
		}
	}
}

func TestTextsThereAndBack(t *testing.T) {
	chance := rand.New(rand.NewSource(8))
	b := make([]byte, 32)
	taken := 0
	for range 300 {
		chance.Read(b)
		if q, ok := curve.Of(string(b)); ok {
			taken++
			if q.Bytes() != string(b) {
				t.Errorf("Of(%x) has the bytes %x", b, q.Bytes())
			}
		}
	}
	if taken < 75 || taken > 225 {
		t.Errorf("%d of 300 texts are points", taken)
	}
}

func BenchmarkMul(b *testing.B) {
	n := laid(less(l, 12345))
	for range b.N {
		curve.Base().Mul(n)
	}
}

func BenchmarkAdd(b *testing.B) {
	q := curve.Base()
	for range b.N {
		q = q.Add(curve.Base())
	}
}
