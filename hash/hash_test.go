package hash_test

import (
	"crypto/sha256"
	"crypto/sha512"
	"encoding/hex"
	"math/big"
	"math/rand"
	"strings"
	"testing"
	"unsafe"

	"missive/hash"
)

// digest is one of both, with the library's and the document's own to hold it against.
type digest struct {
	name    string
	of      func(...string) string
	library func(string) string
	words   rules
}

// rules are the rows of the document's table.
type rules struct {
	width, block, rounds, length int
	head, tail, near, far        [3]int
}

func digests() []digest {
	return []digest{
		{"SHA-256", hash.Sha256, func(s string) string { b := sha256.Sum256([]byte(s)); return string(b[:]) },
			rules{32, 64, 64, 8, [3]int{2, 13, 22}, [3]int{6, 11, 25}, [3]int{7, 18, 3}, [3]int{17, 19, 10}}},
		{"SHA-512", hash.Sha512, func(s string) string { b := sha512.Sum512([]byte(s)); return string(b[:]) },
			rules{64, 128, 80, 16, [3]int{28, 34, 39}, [3]int{14, 18, 41}, [3]int{1, 8, 7}, [3]int{19, 61, 6}}},
	}
}

func chanceText(chance *rand.Rand, size int) string {
	b := make([]byte, size)
	chance.Read(b)
	return string(b)
}

// P5.1

func TestExamples(t *testing.T) {
	for _, x := range []struct {
		of    func(...string) string
		parts []string
		want  string
	}{
		{hash.Sha256, nil, "e3b0c44298fc1c149afbf4c8996fb92427ae41e4649b934ca495991b7852b855"},
		{hash.Sha256, []string{"abc"}, "ba7816bf8f01cfea414140de5dae2223b00361a396177a9cb410ff61f20015ad"},
		{hash.Sha256, []string{"a", "", "bc"}, "ba7816bf8f01cfea414140de5dae2223b00361a396177a9cb410ff61f20015ad"},
		{hash.Sha512, nil, "cf83e1357eefb8bdf1542850d66d8007d620e4050b5715dc83f4a921d36ce9ce47d0d13c5d85f2b0ff8318d2877eec2f63b931bd47417a81a538327af927da3e"},
		{hash.Sha512, []string{"abc"}, "ddaf35a193617abacc417349ae20413112e6fa4e89a97ea20a9eeee64b55d39a2192992a274fc1a836ba3c23a3feebbd454d4423643ce80e2a9ac94fa54ca49f"},
	} {
		if got := hex.EncodeToString([]byte(x.of(x.parts...))); got != x.want {
			t.Errorf("of %q: %s, want %s", x.parts, got, x.want)
		}
	}
}

// Where the filling just fits in a block, or goes into one more, is among the lengths.
func TestAllLengthsAsTheLibrary(t *testing.T) {
	chance := rand.New(rand.NewSource(5))
	for _, d := range digests() {
		for size := range 520 {
			for _, s := range []string{chanceText(chance, size), strings.Repeat("\x00", size), strings.Repeat("\xff", size), strings.Repeat("\x80", size)} {
				if got := d.of(s); got != d.library(s) {
					t.Fatalf("%s of %d bytes %x: %x", d.name, size, s, got)
				}
			}
		}
	}
}

// The number of bits needs several bytes here.
func TestLongTexts(t *testing.T) {
	chance := rand.New(rand.NewSource(6))
	for _, d := range digests() {
		for _, size := range []int{1 << 12, 1<<13 - 1, 1 << 13, 1 << 16, 1000000, 1<<21 - 1, 1 << 21, 1<<21 + 1} {
			s := chanceText(chance, size)
			if d.of(s) != d.library(s) || d.of(s[:size/2], s[size/2:]) != d.library(s) {
				t.Errorf("%s of %d bytes", d.name, size)
			}
		}
	}
}

func TestSizes(t *testing.T) {
	for _, s := range []string{"", "a", strings.Repeat("b", 1000)} {
		if a, b := len(hash.Sha256(s)), len(hash.Sha512(s)); a != 32 || b != 64 {
			t.Errorf("of %d bytes: %d and %d", len(s), a, b)
		}
	}
}

// told reckons the digest by big numbers, as the document has it: round words from the primes on.
func (r rules) told(s string) string {
	modulus := new(big.Int).Lsh(big.NewInt(1), uint(r.width))
	word := func(n *big.Int) uint64 { return new(big.Int).Mod(n, modulus).Uint64() }
	mask := word(big.NewInt(-1))
	rot := func(x uint64, n int) uint64 { return (x>>n | x<<(r.width-n)) & mask }
	turn := func(x uint64, by [3]int) uint64 { return rot(x, by[0]) ^ rot(x, by[1]) ^ rot(x, by[2]) }
	move := func(x uint64, by [3]int) uint64 { return rot(x, by[0]) ^ rot(x, by[1]) ^ x>>by[2] }
	primes := firstPrimes(r.rounds)
	var k, state []uint64
	for i, p := range primes {
		k = append(k, word(root(p, 3, r.width)))
		if i < 8 {
			state = append(state, word(root(p, 2, r.width)))
		}
	}
	all := s + "\x80"
	for (len(all)+r.length)%r.block != 0 {
		all += "\x00"
	}
	all += string(big.NewInt(int64(8 * len(s))).FillBytes(make([]byte, r.length)))
	for ; all != ""; all = all[r.block:] {
		var m []uint64
		for i := range 16 {
			size := r.width / 8
			m = append(m, new(big.Int).SetBytes([]byte(all[i*size:(i+1)*size])).Uint64())
		}
		for i := 16; i < r.rounds; i++ {
			m = append(m, (move(m[i-2], r.far)+m[i-7]+move(m[i-15], r.near)+m[i-16])&mask)
		}
		v := append([]uint64{}, state...)
		for i := range r.rounds {
			a, b, c, e, f, g := v[0], v[1], v[2], v[4], v[5], v[6]
			x := v[7] + turn(e, r.tail) + (e&f ^ ^e&g) + k[i] + m[i]
			u := turn(a, r.head) + (a&b ^ a&c ^ b&c)
			v = append([]uint64{(x + u) & mask}, v[:7]...)
			v[4] = (v[4] + x) & mask
		}
		for i := range state {
			state[i] = (state[i] + v[i]) & mask
		}
	}
	out := ""
	for _, x := range state {
		out += string(new(big.Int).SetUint64(x).FillBytes(make([]byte, r.width/8)))
	}
	return out
}

func firstPrimes(n int) []int64 {
	var out []int64
	for p := int64(2); len(out) < n; p++ {
		if big.NewInt(p).ProbablyPrime(10) {
			out = append(out, p)
		}
	}
	return out
}

// root is the root of p times 2^bits, without what stands behind the point.
func root(p int64, degree int64, bits int) *big.Int {
	aim := new(big.Int).Lsh(big.NewInt(p), uint(bits*int(degree)))
	out := new(big.Int)
	for bit := bits + 8; bit >= 0; bit-- {
		more := new(big.Int).SetBit(out, bit, 1)
		if new(big.Int).Exp(more, big.NewInt(degree), nil).Cmp(aim) <= 0 {
			out = more
		}
	}
	return out
}

func TestAsTheDocumentTellsIt(t *testing.T) {
	chance := rand.New(rand.NewSource(7))
	for _, d := range digests() {
		for _, size := range []int{0, 1, 55, 56, 63, 64, 65, 111, 112, 127, 128, 129, 300} {
			s := chanceText(chance, size)
			if got, want := d.of(s), d.words.told(s); got != want {
				t.Errorf("%s of %d bytes: %x, want %x", d.name, size, got, want)
			}
		}
	}
}

// P5.2

func TestPartedAnywhere(t *testing.T) {
	chance := rand.New(rand.NewSource(8))
	s := chanceText(chance, 300)
	for _, d := range digests() {
		want := d.library(s)
		for i := range len(s) + 1 {
			if d.of(s[:i], s[i:]) != want || d.of("", s[:i], "", "", s[i:], "") != want {
				t.Fatalf("%s parted at %d", d.name, i)
			}
		}
		if d.of(strings.Split(s, "")...) != d.library(strings.Join(strings.Split(s, ""), "")) {
			t.Errorf("%s byte by byte", d.name)
		}
	}
}

func TestPartedByChance(t *testing.T) {
	chance := rand.New(rand.NewSource(9))
	for range 500 {
		var parts []string
		for range chance.Intn(9) {
			parts = append(parts, chanceText(chance, chance.Intn(150)))
		}
		for _, d := range digests() {
			if got, want := d.of(parts...), d.library(strings.Join(parts, "")); got != want {
				t.Fatalf("%s of %q: %x, want %x", d.name, parts, got, want)
			}
		}
	}
}

func TestNoPartsAndEmptyOnes(t *testing.T) {
	for _, d := range digests() {
		want := d.library("")
		for _, parts := range [][]string{nil, {}, {""}, {"", "", ""}} {
			if got := d.of(parts...); got != want {
				t.Errorf("%s of %#v: %x", d.name, parts, got)
			}
		}
	}
}

// What changes in one bit, in one order, or by a nought behind, has another digest.
func TestOtherBytes(t *testing.T) {
	for _, d := range digests() {
		seen := map[string]string{}
		s := strings.Repeat("q", 130)
		texts := []string{"", "ab", "ba", s, s + "\x00", s + "\x80"}
		for i := range len(s) {
			texts = append(texts, s[:i]+"p"+s[i+1:], strings.Repeat("\x00", i+1))
		}
		for _, x := range texts {
			got := d.of(x)
			if other, ok := seen[got]; ok {
				t.Errorf("%s of %q and %q", d.name, x, other)
			}
			seen[got] = x
		}
	}
}

func TestPublishedOnes(t *testing.T) {
	two := "abcdbcdecdefdefgefghfghighijhijkijkljklmklmnlmnomnopnopq"
	four := "abcdefghbcdefghicdefghijdefghijkefghijklfghijklmghijklmnhijklmnoijklmnopjklmnopqklmnopqrlmnopqrsmnopqrstnopqrstu"
	million := strings.Repeat("a", 1000000)
	for _, x := range []struct {
		got, want string
	}{
		{hash.Sha256(two), "248d6a61d20638b8e5c026930c3e6039a33ce45964ff2167f6ecedd419db06c1"},
		{hash.Sha256(million), "cdc76e5c9914fb9281a1c7e284d73e67f1809a48a497200e046d39ccc7112cd0"},
		{hash.Sha512(four), "8e959b75dae313da8cf4f72814fc143f8f7779c6eb9f7fa17299aeadb6889018501d289e4900f7e4331b99dec4b5433ac7d329eeb6dd26545e96e55b874be909"},
		{hash.Sha512(million), "e718483d0ce769644e2e42c7bc15b4638e1f98b13b2044285632a803afa973ebde0ff244877ea60a4cb0432ce577c31beb009c5c2c49aa2e4eadb217ad8cc09b"},
	} {
		if got := hex.EncodeToString([]byte(x.got)); got != x.want {
			t.Errorf("%s, want %s", got, x.want)
		}
	}
}

// R5 and R6

func TestPartsStayAndAnswersAreNew(t *testing.T) {
	room := []string{"a", "b", "behind"}
	for _, d := range digests() {
		first := d.of(room[:2]...)
		second := d.of(room[:2]...)
		if first != second {
			t.Errorf("%s: twice the same parts, two digests", d.name)
		}
		if unsafe.StringData(first) == unsafe.StringData(second) {
			t.Errorf("%s: two answers share memory", d.name)
		}
		if room[0] != "a" || room[1] != "b" || room[2] != "behind" {
			t.Errorf("%s changed its parts: %q", d.name, room)
		}
	}
}
