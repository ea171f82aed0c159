package sign_test

import (
	"crypto/ed25519"
	"crypto/sha512"
	"encoding/hex"
	"math/big"
	"math/rand"
	"slices"
	"strings"
	"testing"
	"unsafe"

	"missive/api"
	"missive/sign"
)

// Numbers and points are told as the document has them, without the packages that are tested.
var (
	p = less(power(255), 19)
	l = new(big.Int).Add(power(252), decimal("27742317777372353535851937790883648493"))
	d = over(big.NewInt(-121665), big.NewInt(121666))
)

func power(bits uint) *big.Int { return new(big.Int).Lsh(big.NewInt(1), bits) }

func less(n *big.Int, by int64) *big.Int { return new(big.Int).Sub(n, big.NewInt(by)) }

func decimal(s string) *big.Int {
	n, ok := new(big.Int).SetString(s, 10)
	if !ok {
		panic("no number")
	}
	return n
}

// times is the product of all modulo p.
func times(list ...*big.Int) *big.Int {
	out := big.NewInt(1)
	for _, n := range list {
		out.Mul(out, n).Mod(out, p)
	}
	return out
}

// plus is the sum of all modulo p.
func plus(list ...*big.Int) *big.Int {
	out := new(big.Int)
	for _, n := range list {
		out.Add(out, n)
	}
	return out.Mod(out, p)
}

func minus(n *big.Int) *big.Int { return plus(new(big.Int).Neg(n)) }

// over is a divided by b, modulo p.
func over(a, b *big.Int) *big.Int { return times(plus(a), new(big.Int).ModInverse(plus(b), p)) }

// laid tells a number's 32 bytes, the lowest first.
func laid(n *big.Int) string {
	b := n.FillBytes(make([]byte, 32))
	slices.Reverse(b)
	return string(b)
}

// whole tells the number of bytes, the lowest first.
func whole(s string) *big.Int {
	b := []byte(s)
	slices.Reverse(b)
	return new(big.Int).SetBytes(b)
}

// pair is a point as the document's words have it.
type pair struct{ x, y *big.Int }

func nonePair() pair { return pair{new(big.Int), big.NewInt(1)} }

func (a pair) sum(b pair) pair {
	one := big.NewInt(1)
	turn := times(d, a.x, b.x, a.y, b.y)
	return pair{
		over(plus(times(a.x, b.y), times(b.x, a.y)), plus(one, turn)),
		over(plus(times(a.y, b.y), times(a.x, b.x)), plus(one, minus(turn))),
	}
}

func (a pair) mul(n *big.Int) pair {
	out := nonePair()
	for i := range n.BitLen() {
		if n.Bit(i) == 1 {
			out = out.sum(a)
		}
		a = a.sum(a)
	}
	return out
}

func (a pair) same(b pair) bool { return a.x.Cmp(b.x) == 0 && a.y.Cmp(b.y) == 0 }

func (a pair) bytes() string {
	return laid(new(big.Int).Add(a.y, new(big.Int).Mul(power(255), big.NewInt(int64(a.x.Bit(0))))))
}

// pairOf tells the pair with that y and the even or the odd x.
func pairOf(y *big.Int, odd uint) (pair, bool) {
	square := times(y, y)
	x := new(big.Int).ModSqrt(over(plus(square, big.NewInt(-1)), plus(times(d, square), big.NewInt(1))), p)
	if x == nil || x.Sign() == 0 && odd == 1 {
		return pair{}, false
	}
	if x.Bit(0) != odd {
		x = minus(x)
	}
	return pair{x, y}, true
}

// read tells the pair whose bytes these are.
func read(s string) (pair, bool) {
	if len(s) != 32 {
		return pair{}, false
	}
	y := whole(s)
	odd := y.Bit(255)
	y.SetBit(y, 255, 0)
	if y.Cmp(p) >= 0 {
		return pair{}, false
	}
	return pairOf(y, odd)
}

func basePair() pair {
	a, _ := pairOf(over(big.NewInt(4), big.NewInt(5)), 0)
	return a
}

// eighths are the points that 8 times are None: multiples of one that is L times any other point.
func eighths() []pair {
	for y := int64(2); ; y++ {
		a, ok := pairOf(big.NewInt(y), 0)
		if !ok {
			continue
		}
		first := a.mul(l)
		if first.mul(big.NewInt(4)).same(nonePair()) {
			continue
		}
		out := []pair{}
		for n := range int64(8) {
			out = append(out, first.mul(big.NewInt(n)))
		}
		return out
	}
}

// digest is the number modulo L of all parts' SHA-512.
func digest(parts ...string) *big.Int {
	h := sha512.Sum512([]byte(strings.Join(parts, "")))
	n := whole(string(h[:]))
	return n.Mod(n, l)
}

// told is whether the signature is one, in the document's words.
func told(public, text, sig string) bool {
	if len(sig) != 64 {
		return false
	}
	r, ok := read(sig[:32])
	a, found := read(public)
	s := whole(sig[32:])
	if !ok || !found || s.Cmp(l) >= 0 {
		return false
	}
	return basePair().mul(s).same(r.sum(a.mul(digest(sig[:32], public, text))))
}

// secretOf tells the secret and the prefix of a seed, in the document's words.
func secretOf(seed string) (*big.Int, string) {
	h := sha512.Sum512([]byte(seed))
	h[0] &= 0xf8
	h[31] = h[31]&0x7f | 0x40
	return whole(string(h[:32])), string(h[32:])
}

// toldSign is the public key and the signature, in the document's words.
func toldSign(seed, text string) (string, string) {
	secret, prefix := secretOf(seed)
	public := basePair().mul(secret).bytes()
	r := digest(prefix, text)
	point := basePair().mul(r).bytes()
	return public, point + sealedBy(r, digest(point, public, text), secret)
}

// sealedBy is S: r and k times the secret, modulo L.
func sealedBy(r, k, secret *big.Int) string {
	s := new(big.Int).Mul(k, secret)
	s.Add(s, r)
	return laid(s.Mod(s, l))
}

func digits(s string) string { return hex.EncodeToString([]byte(s)) }

func bytesOf(t *testing.T, s string) string {
	t.Helper()
	b, err := hex.DecodeString(s)
	if err != nil {
		t.Fatal(err)
	}
	return string(b)
}

func chanceText(chance *rand.Rand, size int) string {
	b := make([]byte, size)
	chance.Read(b)
	return string(b)
}

// flipped is s with one bit turned.
func flipped(s string, bit int) string {
	b := []byte(s)
	b[bit/8] ^= 1 << (bit % 8)
	return string(b)
}

// signed is the seed's public key, and its signature of the text.
func signed(t *testing.T, seed, text string) (string, string) {
	t.Helper()
	public, e := sign.Public(seed)
	sig, f := sign.Sign(seed, text)
	if e != api.OK || f != api.OK || len(public) != 32 || len(sig) != 64 {
		t.Fatalf("seed %x: a public key %x, %d, and a signature %x, %d", seed, public, e, sig, f)
	}
	return public, sig
}

// seeds are the edges, and some by chance.
func seeds() []string {
	out := []string{strings.Repeat("\x00", 32), strings.Repeat("\xff", 32), "\x01" + strings.Repeat("\x00", 31), strings.Repeat("\x00", 31) + "\x80"}
	chance := rand.New(rand.NewSource(81))
	for range 12 {
		out = append(out, chanceText(chance, 32))
	}
	return out
}

const (
	exampleSeed   = "9d61b19deffd5a60ba844af492ec2cc44449c5697b326919703bac031cae7f60"
	examplePublic = "d75a980182b10ab7d54bfed3c964073a0ee172f3daa62325af021a68f707511a"
	exampleSig    = "e5564300c360ac729086e2cc806e828a84877f1eb8e5d974d873e065224901555fb8821590a33bacc61e39701cf9b46bd25bf5f0595bbe24655141438e7a100b"
)

// P8.1

func TestExamples(t *testing.T) {
	public, sig := signed(t, bytesOf(t, exampleSeed), "")
	if digits(public) != examplePublic || digits(sig) != exampleSig {
		t.Errorf("Public: %x, Sign: %x", public, sig)
	}
	public, sig = bytesOf(t, examplePublic), bytesOf(t, exampleSig)
	if !sign.Verify(public, "", sig) {
		t.Error("the example is not verified")
	}
	for last := range 256 {
		other := sig[:63] + string([]byte{byte(last)})
		if got := sign.Verify(public, "", other); got != (other == sig) {
			t.Errorf("the last byte %d: %v", last, got)
		}
	}
	if sign.Verify(public, "x", sig) {
		t.Error("another text is verified")
	}
	if got, e := sign.Public(strings.Repeat("s", 31)); got != "" || e != api.ErrKey {
		t.Errorf("Public of 31 bytes: %x, %d", got, e)
	}
	if got, e := sign.Sign(strings.Repeat("s", 33), ""); got != "" || e != api.ErrKey {
		t.Errorf("Sign of 33 bytes: %x, %d", got, e)
	}
}

// Two more of RFC 8032: a text of two bytes, and one of a digest's 64.
func TestAsPublished(t *testing.T) {
	for _, x := range []struct{ seed, public, text, sig string }{
		{"c5aa8df43f9f837bedb7442f31dcb7b166d38535076f094b85ce3a2e0b4458f7", "fc51cd8e6218a1a38da47ed00230f0580816ed13ba3303ac5deb911548908025", "af82",
			"6291d657deec24024827e69c3abe01a30ce548a284743a445e3680d7db5ac3ac18ff9b538d16f290ae67f760984dc6594a7c15e9716ed28dc027beceea1ec40a"},
		{"833fe62409237b9d62ec77587520911e9a759cec1d19755b7da901b96dca3d42", "ec172b93ad5e563bf4932c70e1245034c35467ef2efd4d64ebf819683467e2bf",
			"ddaf35a193617abacc417349ae20413112e6fa4e89a97ea20a9eeee64b55d39a2192992a274fc1a836ba3c23a3feebbd454d4423643ce80e2a9ac94fa54ca49f",
			"dc2a4459e7369633a52b1bf277839a00201009a3efbf3ecb69bea2186c26b58909351fc9ac90b3ecfdfbc7c66431e0303dca179c138ac17ad9bef1177331a704"},
	} {
		text := bytesOf(t, x.text)
		public, sig := signed(t, bytesOf(t, x.seed), text)
		if digits(public) != x.public || digits(sig) != x.sig || !sign.Verify(public, text, sig) {
			t.Errorf("seed %s: %x, %x", x.seed, public, sig)
		}
	}
}

func TestSeedsOfOtherLengths(t *testing.T) {
	for size := range 100 {
		if size == 32 {
			continue
		}
		for _, seed := range []string{strings.Repeat("\x00", size), strings.Repeat("s", size)} {
			if got, e := sign.Public(seed); got != "" || e != api.ErrKey {
				t.Errorf("Public of %d bytes: %x, %d", size, got, e)
			}
			if got, e := sign.Sign(seed, "text"); got != "" || e != api.ErrKey {
				t.Errorf("Sign of %d bytes: %x, %d", size, got, e)
			}
		}
	}
}

// P8.2

func TestAsTheLibraryAndTheWords(t *testing.T) {
	for i, seed := range seeds() {
		text := strings.Repeat("text", i)
		public, sig := signed(t, seed, text)
		wantPublic, wantSig := toldSign(seed, text)
		if public != wantPublic || sig != wantSig {
			t.Errorf("seed %x: %x, %x, want %x, %x", seed, public, sig, wantPublic, wantSig)
		}
		library := ed25519.NewKeyFromSeed([]byte(seed))
		if public != string(library[32:]) || sig != string(ed25519.Sign(library, []byte(text))) {
			t.Errorf("seed %x: not as the library", seed)
		}
	}
}

func TestTextsOfAllLengths(t *testing.T) {
	chance := rand.New(rand.NewSource(82))
	lengths := []int{1000, 1023, 1 << 14, 1 << 20}
	for size := range 140 {
		lengths = append(lengths, size)
	}
	for _, size := range lengths {
		seed, text := chanceText(chance, 32), chanceText(chance, size)
		public, sig := signed(t, seed, text)
		library := ed25519.NewKeyFromSeed([]byte(seed))
		if public != string(library[32:]) || sig != string(ed25519.Sign(library, []byte(text))) {
			t.Fatalf("seed %x, a text of %d bytes: not as the library", seed, size)
		}
		if !sign.Verify(public, text, sig) {
			t.Fatalf("seed %x, a text of %d bytes: not verified", seed, size)
		}
	}
}

// P8.3

func TestLengthsThatAreNone(t *testing.T) {
	public, sig := signed(t, strings.Repeat("s", 32), "text")
	long := sig + sig + sig
	for size := range 130 {
		if got := sign.Verify(public, "text", long[:size]); got != (size == 64) {
			t.Errorf("a signature of %d bytes: %v", size, got)
		}
		if got := sign.Verify((public + public + public + public + public)[:size], "text", sig); got != (size == 32) {
			t.Errorf("a public key of %d bytes: %v", size, got)
		}
	}
	if sign.Verify("", "", "") || sign.Verify(public, "text", "\x00"+sig[:63]) {
		t.Error("verified")
	}
}

func TestAnyOtherBit(t *testing.T) {
	text := "a text"
	public, sig := signed(t, strings.Repeat("s", 32), text)
	for bit := range 8 * 64 {
		if sign.Verify(public, text, flipped(sig, bit)) {
			t.Errorf("bit %d of the signature", bit)
		}
	}
	for bit := range 8 * 32 {
		if sign.Verify(flipped(public, bit), text, sig) {
			t.Errorf("bit %d of the public key", bit)
		}
	}
	for bit := range 8 * len(text) {
		if sign.Verify(public, flipped(text, bit), sig) {
			t.Errorf("bit %d of the text", bit)
		}
	}
	for _, other := range []string{"", text[1:], text[:5], text + "\x00", "\x00" + text} {
		if sign.Verify(public, other, sig) {
			t.Errorf("the text %q", other)
		}
	}
}

// A public key, or R, need not be the base times something: what counts is whether the sum holds for just this k, not 8 times.
func TestPointsOfAllKinds(t *testing.T) {
	base, secret, r := basePair(), big.NewInt(1234567), big.NewInt(7654321)
	small := eighths()
	held, failed := 0, 0
	for i, extra := range small {
		for j, turn := range []pair{small[0], small[(8-i)%8], small[4]} {
			public := base.mul(secret).sum(extra).bytes()
			point := base.mul(r).sum(turn).bytes()
			text := strings.Repeat("t", 8*i+j)
			sig := point + sealedBy(r, digest(point, public, text), secret)
			want := told(public, text, sig)
			if got := sign.Verify(public, text, sig); got != want {
				t.Errorf("the key and %d eighths, R and %d: %v", i, j, got)
			}
			if want {
				held++
			} else {
				failed++
			}
		}
	}
	if held < 2 || failed < 8 {
		t.Errorf("%d of them hold, %d do not", held, failed)
	}
}

// A key of few multiples signs with any secret for which the sum holds; all eight and all remainders of k come.
func TestKeysOfFewMultiples(t *testing.T) {
	base, r := basePair(), big.NewInt(99)
	point := base.mul(r).bytes()
	held := 0
	for i, key := range eighths() {
		for n := range 12 {
			text, public := strings.Repeat("n", n), key.bytes()
			sig := point + laid(r)
			want := key.mul(digest(point, public, text)).same(nonePair())
			if got := sign.Verify(public, text, sig); got != want || want != told(public, text, sig) {
				t.Errorf("%d eighths, a text of %d bytes: %v", i, n, got)
			}
			if want {
				held++
			}
		}
	}
	if held < 20 || held > 70 {
		t.Errorf("%d of them hold", held)
	}
}

// None has bytes, and so has its like with 0 as x; what reads as one of them but is no point's bytes is refused.
func TestBytesThatAreNoPoints(t *testing.T) {
	secret, prefix := secretOf(strings.Repeat("s", 32))
	public := basePair().mul(secret).bytes()
	zero := new(big.Int)
	for _, x := range []struct {
		bytes string
		is    bool
	}{
		{laid(big.NewInt(1)), true},
		{laid(less(p, -1)), false},
		{laid(new(big.Int).Add(power(255), big.NewInt(1))), false},
		{laid(new(big.Int).Add(power(255), less(p, -1))), false},
	} {
		sig := x.bytes + sealedBy(zero, digest(x.bytes, public, "text"), secret)
		if got := sign.Verify(public, "text", sig); got != x.is {
			t.Errorf("R is %x: %v", x.bytes, got)
		}
		r := digest(prefix, "text")
		if got := sign.Verify(x.bytes, "text", basePair().mul(r).bytes()+laid(r)); got != x.is {
			t.Errorf("the public key is %x: %v", x.bytes, got)
		}
		if got := sign.Verify(x.bytes, "text", x.bytes+laid(zero)); got != x.is {
			t.Errorf("both are %x: %v", x.bytes, got)
		}
	}
	// 2 is no point's y.
	if _, ok := read(laid(big.NewInt(2))); ok {
		t.Fatal("2 is the y of a point")
	}
	_, sig := signed(t, strings.Repeat("s", 32), "text")
	if sign.Verify(laid(big.NewInt(2)), "text", sig) || sign.Verify(public, "text", laid(big.NewInt(2))+sig[32:]) {
		t.Error("no points, but verified")
	}
}

// P8.4

func TestWhatIsSignedIsVerified(t *testing.T) {
	type pen struct{ public, text, sig string }
	pens := []pen{}
	for i, seed := range seeds() {
		for _, text := range []string{"", strings.Repeat("a", i+1)} {
			public, sig := signed(t, seed, text)
			again, e := sign.Sign(seed, text)
			if e != api.OK || again != sig {
				t.Errorf("seed %x, text %q: two signatures", seed, text)
			}
			pens = append(pens, pen{public, text, sig})
		}
	}
	for i, a := range pens {
		for j, b := range pens {
			if j > i+4 {
				break
			}
			if got := sign.Verify(a.public, a.text, b.sig); got != (i == j) {
				t.Errorf("the signature %d with the key and text %d: %v", j, i, got)
			}
		}
	}
}

func TestSIsOneNumber(t *testing.T) {
	text := "text"
	public, sig := signed(t, strings.Repeat("s", 32), text)
	s := whole(sig[32:])
	others := []*big.Int{new(big.Int), big.NewInt(1), less(l, 1), l, less(l, -1), less(s, 1), less(s, -1), new(big.Int).Sub(l, s), less(power(256), 1)}
	for n := int64(1); ; n++ {
		more := new(big.Int).Add(s, new(big.Int).Mul(l, big.NewInt(n)))
		if more.BitLen() > 256 {
			break
		}
		others = append(others, more)
	}
	if len(others) < 20 {
		t.Fatalf("%d others", len(others))
	}
	for _, other := range others {
		if sign.Verify(public, text, sig[:32]+laid(other)) {
			t.Errorf("S is %d in the place of %d", other, s)
		}
	}
	if !sign.Verify(public, text, sig[:32]+laid(s)) {
		t.Error("S itself")
	}
}

// S may be the least and the greatest scalar, where the sum holds.
func TestEdgesOfS(t *testing.T) {
	none, last := nonePair().bytes(), less(l, 1)
	if !sign.Verify(none, "text", none+laid(new(big.Int))) || !sign.Verify(none, "text", basePair().mul(last).bytes()+laid(last)) {
		t.Error("S is 0, or L less 1")
	}
	if sign.Verify(none, "text", none+laid(l)) {
		t.Error("S is L")
	}
}

// R5 and R6

func TestAnswersAreNew(t *testing.T) {
	seed, text := strings.Repeat("s", 32), strings.Repeat("t", 50)
	public, first := signed(t, seed, text)
	signed(t, strings.Repeat("o", 32), text)
	again, second := signed(t, seed, text)
	if first != second || unsafe.StringData(first) == unsafe.StringData(second) {
		t.Error("two signatures differ, or share memory")
	}
	if public != again || unsafe.StringData(public) == unsafe.StringData(again) {
		t.Error("two public keys differ, or share memory")
	}
	sign.Verify(public, text, first)
	if seed != strings.Repeat("s", 32) || text != strings.Repeat("t", 50) || public != again || first != second {
		t.Error("what was handed in was changed")
	}
}

func BenchmarkSign(b *testing.B) {
	for range b.N {
		sign.Sign(strings.Repeat("s", 32), "text")
	}
}

func BenchmarkVerify(b *testing.B) {
	public, _ := sign.Public(strings.Repeat("s", 32))
	sig, _ := sign.Sign(strings.Repeat("s", 32), "text")
	for range b.N {
		sign.Verify(public, "text", sig)
	}
}
