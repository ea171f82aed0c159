package field_test

import (
	"math"
	"math/big"
	"slices"
	"strings"
	"testing"

	"missive/field"
)

// p is told as the document has it, without the package that is tested.
var p = new(big.Int).Sub(new(big.Int).Lsh(big.NewInt(1), 255), big.NewInt(19))

// laid tells the 32 bytes of a number, the lowest first.
func laid(n *big.Int) string {
	b := n.FillBytes(make([]byte, 32))
	slices.Reverse(b)
	return string(b)
}

// whole tells the number of bytes, the lowest first.
func whole(s string) *big.Int {
	b := []byte(s)
	slices.Reverse(b)
	return new(big.Int).SetBytes(b)
}

// of is the element of a number modulo p.
func of(t *testing.T, n *big.Int) field.Element {
	t.Helper()
	a, ok := field.Of(laid(new(big.Int).Mod(n, p)))
	if !ok {
		t.Fatalf("Of(%v) is refused", n)
	}
	return a
}

// told is the element's number; an element of any other words than the least ones is found here.
func told(t *testing.T, a field.Element) *big.Int {
	t.Helper()
	s := a.Bytes()
	if len(s) != 32 || whole(s).Cmp(p) >= 0 {
		t.Fatalf("Bytes() = %x", s)
	}
	return whole(s)
}

// near tells 2^bits and a little.
func near(bits uint, more int64) *big.Int {
	return new(big.Int).Add(new(big.Int).Lsh(big.NewInt(1), bits), big.NewInt(more))
}

// samples are numbers below p: the least, the greatest, those about the words' ends, and some of all lengths.
func samples() []*big.Int {
	out := []*big.Int{}
	for n := range int64(21) {
		out = append(out, big.NewInt(n), new(big.Int).Sub(p, big.NewInt(n+1)))
	}
	for _, bits := range []uint{8, 16, 31, 32, 63, 64, 65, 127, 128, 191, 192, 193, 252, 253, 254} {
		out = append(out, near(bits, -1), near(bits, 0), near(bits, 1))
	}
	half := new(big.Int).Rsh(p, 1)
	out = append(out, half, new(big.Int).Add(half, big.NewInt(1)))
	n := big.NewInt(88172645463325252)
	for i := range 40 {
		n = new(big.Int).Mul(n, near(61, int64(2*i+5)))
		n = n.Mod(n.Add(n, big.NewInt(int64(i))), p)
		out = append(out, n)
	}
	return out
}

// P2.1

func TestOf(t *testing.T) {
	for _, n := range samples() {
		s := laid(n)
		if a, ok := field.Of(s); !ok || a.Bytes() != s {
			t.Errorf("Of(%x) = %x, %v", s, a.Bytes(), ok)
		}
	}
}

func TestOfRefuses(t *testing.T) {
	wrong := []string{"", "\x01", strings.Repeat("\x01", 31), strings.Repeat("\x00", 31), strings.Repeat("\x00", 33), strings.Repeat("\x01", 64), strings.Repeat("\xff", 32)}
	for n := range int64(21) {
		wrong = append(wrong, laid(new(big.Int).Add(p, big.NewInt(n))))
	}
	for _, bits := range []uint{0, 64, 128, 192, 254} {
		wrong = append(wrong, laid(new(big.Int).Add(near(255, 0), near(bits, 0))))
	}
	for _, s := range wrong {
		if a, ok := field.Of(s); ok || a != (field.Element{}) {
			t.Errorf("Of(%x) = %x, %v", s, a.Bytes(), ok)
		}
	}
}

func TestSmall(t *testing.T) {
	for _, n := range []uint32{0, 1, 2, 5, 255, 256, 1<<16 - 1, 1 << 16, 1<<31 - 1, 1 << 31, math.MaxUint32} {
		if got := told(t, field.Small(n)); got.Cmp(big.NewInt(int64(n))) != 0 {
			t.Errorf("Small(%d) = %v", n, got)
		}
	}
	if want := "\x05" + strings.Repeat("\x00", 31); field.Small(5).Bytes() != want {
		t.Errorf("Small(5).Bytes() = %x", field.Small(5).Bytes())
	}
}

func TestZeroElementIsNought(t *testing.T) {
	var a field.Element
	if a.Bytes() != strings.Repeat("\x00", 32) || !a.Same(field.Small(0)) || a.Odd() || a != field.Small(0) {
		t.Errorf("the zero Element is %x", a.Bytes())
	}
}

func TestOddAndSame(t *testing.T) {
	all := samples()
	for i, n := range all {
		if a := of(t, n); a.Odd() != (n.Bit(0) == 1) {
			t.Errorf("Odd() of %v = %v", n, a.Odd())
		}
		for _, m := range all[i:] {
			if got := of(t, n).Same(of(t, m)); got != (n.Cmp(m) == 0) {
				t.Errorf("Same of %v and %v = %v", n, m, got)
			}
		}
	}
}

// P2.2

func TestSumsDifferencesProducts(t *testing.T) {
	mod := func(n *big.Int) *big.Int { return n.Mod(n, p) }
	for _, n := range samples() {
		for _, m := range samples() {
			a, b := of(t, n), of(t, m)
			if got, want := told(t, a.Add(b)), mod(new(big.Int).Add(n, m)); got.Cmp(want) != 0 {
				t.Fatalf("%v Add %v = %v, want %v", n, m, got, want)
			}
			if got, want := told(t, a.Sub(b)), mod(new(big.Int).Sub(n, m)); got.Cmp(want) != 0 {
				t.Fatalf("%v Sub %v = %v, want %v", n, m, got, want)
			}
			if got, want := told(t, a.Mul(b)), mod(new(big.Int).Mul(n, m)); got.Cmp(want) != 0 {
				t.Fatalf("%v Mul %v = %v, want %v", n, m, got, want)
			}
			if a.Bytes() != laid(n) || b.Bytes() != laid(m) {
				t.Fatalf("%v or %v was changed", n, m)
			}
		}
		if got, want := told(t, of(t, n).Neg()), mod(new(big.Int).Neg(n)); got.Cmp(want) != 0 {
			t.Fatalf("%v Neg = %v, want %v", n, got, want)
		}
	}
	if !field.Small(3).Sub(field.Small(5)).Same(field.Small(2).Neg()) {
		t.Error("3 less 5 is not 0 less 2")
	}
}

// A product is made less in steps; these are about the edges of each.
func TestProductsAtTheEdges(t *testing.T) {
	for n := range int64(40) {
		for m := range int64(40) {
			x, y := new(big.Int).Sub(p, big.NewInt(n+1)), new(big.Int).Sub(near(255-uint(m), 0), big.NewInt(20+n))
			if got, want := told(t, of(t, x).Mul(of(t, y))), new(big.Int).Mul(x, new(big.Int).Mod(y, p)); got.Cmp(want.Mod(want, p)) != 0 {
				t.Fatalf("%v Mul %v = %v", x, y, got)
			}
		}
	}
	// Products that are k and a multiple of p, k being 0 to 2000 and p less 1 to 2000: what is left of them is about p itself.
	a := of(t, near(200, 12345))
	inverse := of(t, new(big.Int).ModInverse(near(200, 12345), p))
	for k := int64(-2000); k <= 2000; k++ {
		want := new(big.Int).Mod(big.NewInt(k), p)
		if got := told(t, a.Mul(inverse.Mul(of(t, want)))); got.Cmp(want) != 0 {
			t.Fatalf("%d comes out as %v", k, got)
		}
	}
}

// P2.3

func TestInv(t *testing.T) {
	for _, n := range samples() {
		got := told(t, of(t, n).Inv())
		want := new(big.Int)
		if n.Sign() != 0 {
			want.ModInverse(n, p)
		}
		if got.Cmp(want) != 0 {
			t.Errorf("Inv of %v = %v, want %v", n, got, want)
		}
	}
	if !field.Small(2).Inv().Mul(field.Small(2)).Same(field.Small(1)) || !field.Small(0).Inv().Same(field.Small(0)) {
		t.Error("Inv of 2, or of 0")
	}
}

// P2.4

func TestRoot(t *testing.T) {
	for _, n := range samples() {
		b, ok := of(t, n).Root()
		if is := big.Jacobi(n, p) >= 0; ok != is {
			t.Errorf("Root of %v: %v, want %v", n, ok, is)
		}
		if !ok && b != (field.Element{}) {
			t.Errorf("Root of %v: %x beside false", n, b.Bytes())
		}
		if ok && (b.Odd() || !b.Mul(b).Same(of(t, n))) {
			t.Errorf("Root of %v = %x", n, b.Bytes())
		}
	}
}

func TestRootOfASquare(t *testing.T) {
	for _, n := range samples() {
		a := of(t, n)
		even := a
		if a.Odd() {
			even = a.Neg()
		}
		if b, ok := a.Mul(a).Root(); !ok || !b.Same(even) {
			t.Errorf("Root of the square of %v = %x, %v", n, b.Bytes(), ok)
		}
	}
}

func TestRootExamples(t *testing.T) {
	minus := "\xb0\xa0\x0e\x4a\x27\x1b\xee\xc4\x78\xe4\x2f\xad\x06\x18\x43\x2f\xa7\xd7\xfb\x3d\x99\x00\x4d\x2b\x0b\xdf\xc1\x4f\x80\x24\x83\x2b"
	for _, x := range []struct {
		a    field.Element
		want string
		ok   bool
	}{
		{field.Small(4), laid(big.NewInt(2)), true},
		{field.Small(2), laid(big.NewInt(0)), false},
		{field.Small(0), laid(big.NewInt(0)), true},
		{field.Small(1), laid(new(big.Int).Sub(p, big.NewInt(1))), true},
		{field.Small(9), laid(new(big.Int).Sub(p, big.NewInt(3))), true},
		{field.Small(1).Neg(), minus, true},
	} {
		if b, ok := x.a.Root(); b.Bytes() != x.want || ok != x.ok {
			t.Errorf("Root of %x = %x, %v", x.a.Bytes(), b.Bytes(), ok)
		}
	}
}

// P2.5

func TestAField(t *testing.T) {
	all := samples()
	nought, one := field.Small(0), field.Small(1)
	for i, n := range all {
		a := of(t, n)
		b, c := of(t, all[(7*i+3)%len(all)]), of(t, all[(11*i+5)%len(all)])
		if !a.Add(b).Same(b.Add(a)) || !a.Mul(b).Same(b.Mul(a)) {
			t.Errorf("%v: the order", n)
		}
		if !a.Add(b).Add(c).Same(a.Add(b.Add(c))) || !a.Mul(b).Mul(c).Same(a.Mul(b.Mul(c))) {
			t.Errorf("%v: the brackets", n)
		}
		if !a.Mul(b.Add(c)).Same(a.Mul(b).Add(a.Mul(c))) {
			t.Errorf("%v: a product of a sum", n)
		}
		if !a.Add(a.Neg()).Same(nought) || !a.Add(nought).Same(a) || !a.Mul(one).Same(a) || !a.Mul(nought).Same(nought) {
			t.Errorf("%v: Neg, 0 and 1", n)
		}
		if a.Mul(b).Same(nought) != (a.Same(nought) || b.Same(nought)) {
			t.Errorf("%v: a product that is 0", n)
		}
	}
}

// P2.6

func TestRootsOfProducts(t *testing.T) {
	all := samples()
	nought := field.Small(0)
	has := func(a field.Element) bool {
		_, ok := a.Root()
		return ok
	}
	for i, n := range all {
		a := of(t, n)
		if !a.Same(nought) && has(a) == has(a.Mul(field.Small(2))) {
			t.Errorf("%v and twice it: %v both", n, has(a))
		}
		for _, m := range all[max(0, i-9) : i+1] {
			b := of(t, m)
			if c := a.Mul(b); !c.Same(nought) && has(c) != (has(a) == has(b)) {
				t.Errorf("the product of %v and %v: %v", n, m, has(c))
			}
		}
	}
	if has(field.Small(2)) || !has(nought) || !has(nought.Mul(field.Small(2))) {
		t.Error("2, or 0")
	}
}

// P2.7

func TestBytesThereAndBack(t *testing.T) {
	for _, n := range samples() {
		a := of(t, n)
		for _, x := range []field.Element{a, a.Neg(), a.Mul(a), a.Add(a), a.Sub(field.Small(1)), a.Inv()} {
			back, ok := field.Of(x.Bytes())
			if !ok || !back.Same(x) || back.Bytes() != x.Bytes() {
				t.Errorf("Of(%x) = %x, %v", x.Bytes(), back.Bytes(), ok)
			}
		}
	}
}

func TestExampleOfTheEnds(t *testing.T) {
	ends := func(first string) string { return first + strings.Repeat("\xff", 30) + "\x7f" }
	if _, ok := field.Of(ends("\xed")); ok {
		t.Error("p was taken")
	}
	if a, ok := field.Of(ends("\xec")); !ok || !a.Same(field.Small(1).Neg()) || a.Bytes() != ends("\xec") {
		t.Errorf("p - 1 = %x, %v", a.Bytes(), ok)
	}
}

func BenchmarkMul(b *testing.B) {
	a := field.Small(7).Inv()
	for range b.N {
		a = a.Mul(a)
	}
}

func BenchmarkInv(b *testing.B) {
	a := field.Small(7).Inv()
	for range b.N {
		a = a.Inv()
	}
}
