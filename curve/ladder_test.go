package curve_test

import (
	"crypto/ecdh"
	"math/big"
	"math/rand"
	"strings"
	"testing"

	"missive/curve"
)

var (
	nine   = "\x09" + strings.Repeat("\x00", 31)
	nought = strings.Repeat("\x00", 32)
)

// taken tells the number of a secret as the document's words have it.
func taken(secret string) *big.Int {
	k := whole(secret)
	for _, place := range []int{0, 1, 2, 255} {
		k.SetBit(k, place, 0)
	}
	return k.SetBit(k, 254, 1)
}

// bent is a point of the curve b*y*y = x*x*x + 486662*x*x + x; the one without x has none.
type bent struct{ x, y *big.Int }

func (q bent) sum(r bent, b *big.Int) bent {
	if q.x == nil {
		return r
	}
	if r.x == nil {
		return q
	}
	a := big.NewInt(486662)
	var slope *big.Int
	switch {
	case q.x.Cmp(r.x) != 0:
		slope = over(plus(r.y, minus(q.y)), plus(r.x, minus(q.x)))
	case plus(q.y, r.y).Sign() == 0:
		return bent{}
	default:
		above := plus(times(big.NewInt(3), q.x, q.x), times(big.NewInt(2), a, q.x), big.NewInt(1))
		slope = over(above, times(big.NewInt(2), b, q.y))
	}
	x := plus(times(b, slope, slope), minus(a), minus(q.x), minus(r.x))
	return bent{x, plus(times(slope, plus(q.x, minus(x))), minus(q.y))}
}

// laddered is what X25519 should tell. With b as the right side of the curve's equation its y is 1, whether b has a root or not: over the roots this is the curve itself, and each x stays as it is.
func laddered(secret, u string) string {
	x := whole(u)
	x = plus(x.SetBit(x, 255, 0))
	b := plus(times(x, x, x), times(big.NewInt(486662), x, x), x)
	if b.Sign() == 0 { // twice this point is the one without x
		return nought
	}
	at, out := bent{x, big.NewInt(1)}, bent{}
	k := taken(secret)
	for i := range k.BitLen() {
		if k.Bit(i) == 1 {
			out = out.sum(at, b)
		}
		at = at.sum(at, b)
	}
	if out.x == nil {
		return nought
	}
	return laid(out.x)
}

// lost tells the u of points that 8 times are the one without x, in all their forms.
func lost(t *testing.T) []string {
	out := []string{}
	for _, digits := range []string{
		"0000000000000000000000000000000000000000000000000000000000000000",
		"0100000000000000000000000000000000000000000000000000000000000000",
		"e0eb7a7c3b41b8ae1656e3faf19fc46ada098deb9c32b1fd866205165f49b800",
		"5f9c95bca3508c24b1d0b1559c83ef5b04445cc4581c8e86d8224eddd09f1157",
		"ecffffffffffffffffffffffffffffffffffffffffffffffffffffffffffff7f",
		"edffffffffffffffffffffffffffffffffffffffffffffffffffffffffffff7f",
		"eeffffffffffffffffffffffffffffffffffffffffffffffffffffffffffff7f",
	} {
		u := []byte(raw(t, digits))
		out = append(out, string(u))
		u[31] |= 0x80
		out = append(out, string(u))
	}
	return out
}

// some tells texts of 32 bytes: the edges, and any.
func some(seed int64, count int) []string {
	out := []string{nought, nine, strings.Repeat("\xff", 32), "\x01" + nought[1:], "\x02" + nought[1:], nought[1:] + "\x80", nought[1:] + "\x40", laid(less(p, 2)), laid(less(power(255), 1)), laid(l), laid(less(l, 1)), laid(less(power(254), 1))}
	chance := rand.New(rand.NewSource(seed))
	for range count {
		b := make([]byte, 32)
		chance.Read(b)
		out = append(out, string(b))
	}
	return out
}

// P4.3

func TestX25519Examples(t *testing.T) {
	for _, row := range [][3]string{
		{"0900000000000000000000000000000000000000000000000000000000000000", "0900000000000000000000000000000000000000000000000000000000000000", "422c8e7a6227d7bca1350b3e2bb7279f7897b87bb6854b783c60e80311ae3079"},
		{"a546e36bf0527c9d3b16154b82465edd62144c0ac1fc5a18506a2244ba449ac4", "e6db6867583030db3594c1a424b15f7c726624ec26b3353b10a903a6d0ab1c4c", "c3da55379de9c6908e94ea4df28d084f32eccf03491c71f754b4075577a28552"},
		{"4b66e9d4d1b4673c5ad22691957d6af5c11b6421e0ea01d42ca4169e7918ba0d", "e5210f12786811d3f4b7959d0538ae2c31dbe7106fc03c3efc4cd549c715a493", "95cbde9476e8907d7aade45cb4b873f88b595a68799fa152e6f8f7647aac7957"},
		{"5dab087e624a8a4b79e17f8b83800ee66f3bb1292618b6fd1c2f8b27ff88e0eb", "0900000000000000000000000000000000000000000000000000000000000000", "de9edb7d7b7dc1b4d35b61c2ece435373f8343c85b78674dadfc7e146f882b4f"},
		{"5dab087e624a8a4b79e17f8b83800ee66f3bb1292618b6fd1c2f8b27ff88e0eb", "8520f0098930a754748b7ddcb43ef75a0dbf3a0d26381af4eba4a98eaa9b4e6a", "4a5d9d5ba4ce2de1728e3bf480350f25e07e21c947d19e3376f09b3c1e161742"},
	} {
		if got := curve.X25519(raw(t, row[0]), raw(t, row[1])); got != raw(t, row[2]) {
			t.Errorf("X25519(%s, %s) = %x", row[0], row[1], got)
		}
	}
}

// RFC 7748 has what comes of 1000 rounds in which each answer is the next secret, and the secret the next u.
func TestX25519ManyTimes(t *testing.T) {
	k, u := nine, nine
	for range 1000 {
		k, u = curve.X25519(k, u), k
	}
	if k != raw(t, "684cf59ba83309552800ef566f2f4d3c1c3887c49360e3875f2eb94d99532c51") {
		t.Errorf("1000 times: %x", k)
	}
}

func TestX25519IsTheMultiple(t *testing.T) {
	secrets := some(9, 14)
	for i, u := range some(10, 40) {
		secret := secrets[i%len(secrets)]
		if got, want := curve.X25519(secret, u), laddered(secret, u); got != want {
			t.Errorf("X25519(%x, %x) = %x, want %x", secret, u, got, want)
		}
	}
}

func TestX25519AsTheLibraryHasIt(t *testing.T) {
	for i, secret := range some(11, 100) {
		for _, u := range append(some(12, 0), some(int64(13+i), 1)...) {
			key, err := ecdh.X25519().NewPrivateKey([]byte(secret))
			if err != nil {
				t.Fatal(err)
			}
			other, err := ecdh.X25519().NewPublicKey([]byte(u))
			if err != nil {
				t.Fatal(err)
			}
			want := nought
			if b, err := key.ECDH(other); err == nil { // the library refuses the point without x
				want = string(b)
			}
			if got := curve.X25519(secret, u); got != want {
				t.Errorf("X25519(%x, %x) = %x, want %x", secret, u, got, want)
			}
		}
	}
}

func TestX25519OfThePointWithoutX(t *testing.T) {
	for _, u := range lost(t) {
		for _, secret := range some(14, 3) {
			if got := curve.X25519(secret, u); got != nought {
				t.Errorf("X25519(%x, %x) = %x", secret, u, got)
			}
			if want := laddered(secret, u); want != nought {
				t.Fatalf("%x times %x is %x", secret, u, want)
			}
		}
	}
}

func TestX25519TakesTheSecretsBits(t *testing.T) {
	for _, secret := range some(15, 1) {
		want := curve.X25519(secret, nine)
		for place := range 256 {
			b := []byte(secret)
			b[place/8] ^= 1 << (place % 8)
			counts := place > 2 && place < 254
			if got := curve.X25519(string(b), nine); (got != want) != counts {
				t.Errorf("bit %d of %x: %v", place, secret, got != want)
			}
		}
	}
}

func TestX25519TakesUModuloP(t *testing.T) {
	secret := some(16, 1)[12]
	for n := range int64(19) {
		small := laid(big.NewInt(n))
		for _, u := range []*big.Int{new(big.Int).Add(p, big.NewInt(n)), new(big.Int).Add(power(255), big.NewInt(n)), new(big.Int).Add(power(255), new(big.Int).Add(p, big.NewInt(n)))} {
			if got := curve.X25519(secret, laid(u)); got != curve.X25519(secret, small) {
				t.Errorf("u = %x is not %d", laid(u), n)
			}
		}
	}
	for place := range 256 {
		b := []byte(nine)
		b[place/8] ^= 1 << (place % 8)
		if got := curve.X25519(secret, string(b)); (got != curve.X25519(secret, nine)) != (place < 255) {
			t.Errorf("bit %d of u", place)
		}
	}
}

func TestX25519WantsThirtyTwoBytes(t *testing.T) {
	long := nine + nine + nine
	for size := range 70 {
		if got := curve.X25519(long[:size], nine); (got != "") != (size == 32) {
			t.Errorf("a secret of %d bytes: %x", size, got)
		}
		if got := curve.X25519(nine, long[:size]); (got != "") != (size == 32) {
			t.Errorf("u of %d bytes: %x", size, got)
		}
	}
	for _, pair := range [][2]string{{"", ""}, {nine[:31], nine[:31]}, {nine[:31], nine + "\x00"}, {long, long}} {
		if got := curve.X25519(pair[0], pair[1]); got != "" {
			t.Errorf("%d and %d bytes: %x", len(pair[0]), len(pair[1]), got)
		}
	}
}

// Both curves are one: the u of a point is (1 + y) / (1 - y).
func TestX25519IsMul(t *testing.T) {
	base := basePair()
	for _, secret := range some(17, 8) {
		y := whole(curve.Base().Mul(laid(taken(secret))).Bytes())
		y.SetBit(y, 255, 0)
		want := over(plus(big.NewInt(1), y), plus(big.NewInt(1), minus(y)))
		if got := curve.X25519(secret, nine); got != laid(want) {
			t.Errorf("X25519(%x, 9) = %x, want %x", secret, got, laid(want))
		}
	}
	if u := over(plus(big.NewInt(1), base.y), plus(big.NewInt(1), minus(base.y))); laid(u) != nine {
		t.Errorf("the base's u is %v", u)
	}
}

// P4.5

func TestX25519HangsOnNoOrder(t *testing.T) {
	secrets := some(18, 8)
	for i, a := range secrets {
		for _, b := range secrets[i:] {
			one, other := curve.X25519(a, curve.X25519(b, nine)), curve.X25519(b, curve.X25519(a, nine))
			if one != other || len(one) != 32 || one == nought {
				t.Errorf("of %x and %x: %x, %x", a, b, one, other)
			}
		}
	}
}

func BenchmarkX25519(b *testing.B) {
	for range b.N {
		curve.X25519(nine, nine)
	}
}
