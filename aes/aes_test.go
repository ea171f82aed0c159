package aes_test

import (
	library "crypto/aes"
	"crypto/cipher"
	"encoding/hex"
	"math/rand"
	"strings"
	"testing"
	"unsafe"

	"missive/aes"
	"missive/api"
)

func digits(s string) string { return hex.EncodeToString([]byte(s)) }

func bytesOf(t *testing.T, s string) string {
	t.Helper()
	b, err := hex.DecodeString(s)
	if err != nil {
		t.Fatal(err)
	}
	return string(b)
}

func chanceText(chance *rand.Rand, size int) string {
	b := make([]byte, size)
	chance.Read(b)
	return string(b)
}

// risingKey is the key of the examples: 000102 .. 1f.
func risingKey() string {
	b := make([]byte, 32)
	for i := range b {
		b[i] = byte(i)
	}
	return string(b)
}

func libraryBlock(t *testing.T, key, block string) string {
	t.Helper()
	c, err := library.NewCipher([]byte(key))
	if err != nil {
		t.Fatal(err)
	}
	out := make([]byte, 16)
	c.Encrypt(out, []byte(block))
	return string(out)
}

func libraryCtr(t *testing.T, key, nonce, text string) string {
	t.Helper()
	c, err := library.NewCipher([]byte(key))
	if err != nil {
		t.Fatal(err)
	}
	out := make([]byte, len(text))
	cipher.NewCTR(c, []byte(nonce+"\x00\x00\x00\x00")).XORKeyStream(out, []byte(text))
	return string(out)
}

// The cipher in the document's words, byte by byte.

func toldProduct(a, b byte) byte {
	out := 0
	for i := range 8 {
		if b>>i&1 == 1 {
			out ^= int(a) << i
		}
	}
	for i := 15; i >= 8; i-- {
		if out>>i&1 == 1 {
			out ^= 0x11b << (i - 8)
		}
	}
	return byte(out)
}

func toldBox() [256]byte {
	var out [256]byte
	for x := range 256 {
		inverse := byte(0)
		for y := range 256 {
			if toldProduct(byte(x), byte(y)) == 1 {
				inverse = byte(y)
			}
		}
		for i := range 8 {
			bit := byte(0x63) >> i
			for _, from := range []int{i, i + 4, i + 5, i + 6, i + 7} {
				bit ^= inverse >> (from % 8)
			}
			out[x] |= bit & 1 << i
		}
	}
	return out
}

func toldRoundKeys(box [256]byte, key string) []byte {
	out := []byte(key)
	for i := 8; i < 60; i++ {
		t := append([]byte{}, out[4*i-4:]...)
		if i%8 == 0 {
			t = []byte{box[t[1]], box[t[2]], box[t[3]], box[t[0]]}
			t[0] ^= 1 << (i/8 - 1)
		} else if i%8 == 4 {
			t = []byte{box[t[0]], box[t[1]], box[t[2]], box[t[3]]}
		}
		for j := range 4 {
			out = append(out, out[4*(i-8)+j]^t[j])
		}
	}
	return out
}

func toldMixed(in [16]byte) [16]byte {
	var out [16]byte
	rows := [4][4]byte{{2, 3, 1, 1}, {1, 2, 3, 1}, {1, 1, 2, 3}, {3, 1, 1, 2}}
	for c := range 4 {
		for r := range 4 {
			for j := range 4 {
				out[4*c+r] ^= toldProduct(rows[r][j], in[4*c+j])
			}
		}
	}
	return out
}

func toldBlock(box [256]byte, key, block string) string {
	keys := toldRoundKeys(box, key)
	var state [16]byte
	for i := range 16 {
		state[i] = block[i] ^ keys[i]
	}
	for round := 1; round <= 14; round++ {
		var turned [16]byte
		for c := range 4 {
			for r := range 4 {
				turned[4*c+r] = box[state[4*((c+r)%4)+r]]
			}
		}
		if round < 14 {
			turned = toldMixed(turned)
		}
		for i := range 16 {
			state[i] = turned[i] ^ keys[16*round+i]
		}
	}
	return string(state[:])
}

// wrongSizes are all lengths near the right one, and some far from it.
func wrongSizes(right int) []int {
	out := []int{1000, 1 << 20, 1<<20 + 1}
	for n := range 70 {
		if n != right {
			out = append(out, n)
		}
	}
	return out
}

// P7.1

func TestBlockExamples(t *testing.T) {
	for _, x := range [][3]string{
		{digits(risingKey()), "00112233445566778899aabbccddeeff", "8ea2b7ca516745bfeafc49904b496089"},
		{"603deb1015ca71be2b73aef0857d77811f352c073b6108d72d9810a30914dff4", "6bc1bee22e409f96e93d7e117393172a", "f3eed1bdb5d2a03c064b5a7e3db181f8"},
		{"603deb1015ca71be2b73aef0857d77811f352c073b6108d72d9810a30914dff4", "f69f2445df4f9b17ad2b417be66c3710", "23304b7a39f9f3ff067d8d8f9e24ecc7"},
		{strings.Repeat("00", 32), strings.Repeat("00", 16), "dc95c078a2408989ad48a21492842087"},
	} {
		got, e := aes.Block(bytesOf(t, x[0]), bytesOf(t, x[1]))
		if digits(got) != x[2] || e != api.OK {
			t.Errorf("Block(%s, %s): %s, %d, want %s", x[0], x[1], digits(got), e, x[2])
		}
	}
}

func TestBlockAsTold(t *testing.T) {
	chance := rand.New(rand.NewSource(71))
	box := toldBox()
	for range 1000 {
		key, block := chanceText(chance, 32), chanceText(chance, 16)
		got, e := aes.Block(key, block)
		if e != api.OK || got != toldBlock(box, key, block) {
			t.Fatalf("Block(%x, %x): %x, %d", key, block, got, e)
		}
	}
	for b := range 256 {
		one := string([]byte{byte(b)})
		key, block := strings.Repeat(one, 32), strings.Repeat(one, 16)
		if got, e := aes.Block(key, block); e != api.OK || got != toldBlock(box, key, block) {
			t.Errorf("all bytes %x: %x, %d", b, got, e)
		}
	}
}

func TestBlockRefuses(t *testing.T) {
	key, block := strings.Repeat("k", 32), strings.Repeat("b", 16)
	refused := func(key, block string, want api.Errno) {
		t.Helper()
		if got, e := aes.Block(key, block); got != "" || e != want {
			t.Errorf("a key of %d bytes, a block of %d: %x, %d, want %d", len(key), len(block), got, e, want)
		}
	}
	for _, n := range wrongSizes(32) {
		refused(strings.Repeat("k", n), block, api.ErrKey)
		refused(strings.Repeat("k", n), block[:15], api.ErrKey)
		refused(strings.Repeat("k", n), "", api.ErrKey)
	}
	for _, n := range wrongSizes(16) {
		refused(key, strings.Repeat("b", n), api.ErrArg)
	}
}

// P7.2

func TestCtrExamples(t *testing.T) {
	text := "hello, counter mode: more than a block"
	got, e := aes.Ctr(risingKey(), "abcdefghijkl", text)
	if e != api.OK || len(got) != len(text) || digits(got[:16]) != "8bf8706e5595184e0f02aa5fc87b022c" {
		t.Errorf("Ctr: %s, %d", digits(got), e)
	}
	for _, x := range []struct {
		nonce, text int
		want        api.Errno
	}{{11, 3, api.ErrArg}, {12, 1<<20 + 1, api.ErrLong}} {
		if got, e := aes.Ctr(risingKey(), strings.Repeat("n", x.nonce), strings.Repeat("t", x.text)); got != "" || e != x.want {
			t.Errorf("a nonce of %d, a text of %d: %d bytes, %d", x.nonce, x.text, len(got), e)
		}
	}
}

// The stream is that of blocks whose last four bytes are a number, the highest byte first.
func TestCtrAsTold(t *testing.T) {
	chance := rand.New(rand.NewSource(72))
	box := toldBox()
	key, nonce := chanceText(chance, 32), chanceText(chance, 12)
	stream := ""
	for i := range 300 {
		stream += toldBlock(box, key, nonce+string([]byte{0, 0, byte(i >> 8), byte(i)}))
	}
	got, e := aes.Ctr(key, nonce, strings.Repeat("\x00", len(stream)))
	if e != api.OK || got != stream {
		t.Errorf("300 blocks of the stream: %d", e)
	}
	text := []byte(chanceText(chance, len(stream)))
	got, _ = aes.Ctr(key, nonce, string(text))
	for i := range text {
		if got[i] != text[i]^stream[i] {
			t.Fatalf("the byte %d", i)
		}
	}
}

func TestCtrOfAllLengths(t *testing.T) {
	chance := rand.New(rand.NewSource(73))
	for size := range 200 {
		key, nonce, text := chanceText(chance, 32), chanceText(chance, 12), chanceText(chance, size)
		if got, e := aes.Ctr(key, nonce, text); e != api.OK || got != libraryCtr(t, key, nonce, text) {
			t.Fatalf("Ctr(%x, %x, %x): %x, %d", key, nonce, text, got, e)
		}
	}
	for _, size := range []int{1 << 12, 1<<12 + 1, 1<<20 - 1, 1 << 20} {
		key, nonce, text := chanceText(chance, 32), chanceText(chance, 12), chanceText(chance, size)
		if got, e := aes.Ctr(key, nonce, text); e != api.OK || got != libraryCtr(t, key, nonce, text) {
			t.Errorf("%d bytes: %d bytes, %d", size, len(got), e)
		}
	}
	// Nonces of the highest bytes: the number carries nothing into them.
	key, nonce := strings.Repeat("\xff", 32), strings.Repeat("\xff", 12)
	text := strings.Repeat("t", 1<<20)
	if got, e := aes.Ctr(key, nonce, text); e != api.OK || got != libraryCtr(t, key, nonce, text) {
		t.Errorf("a nonce of the highest bytes: %d", e)
	}
}

func TestCtrRefuses(t *testing.T) {
	key, nonce, long := strings.Repeat("k", 32), strings.Repeat("n", 12), strings.Repeat("t", 1<<20+1)
	refused := func(key, nonce, text string, want api.Errno) {
		t.Helper()
		if got, e := aes.Ctr(key, nonce, text); got != "" || e != want {
			t.Errorf("a key of %d bytes, a nonce of %d, a text of %d: %d bytes, %d, want %d", len(key), len(nonce), len(text), len(got), e, want)
		}
	}
	for _, n := range wrongSizes(32) {
		wrong := strings.Repeat("k", n)
		refused(wrong, nonce, "text", api.ErrKey)
		refused(wrong, nonce[1:], "", api.ErrKey)
		refused(wrong, nonce, long, api.ErrKey)
		refused(wrong, "", long, api.ErrKey)
	}
	for _, n := range wrongSizes(12) {
		wrong := strings.Repeat("n", n)
		refused(key, wrong, "text", api.ErrArg)
		refused(key, wrong, "", api.ErrArg)
		refused(key, wrong, long, api.ErrArg)
	}
	refused(key, nonce, long, api.ErrLong)
	refused(key, nonce, strings.Repeat("t", 1<<21), api.ErrLong)
}

// P7.3

func TestCtrOfCtr(t *testing.T) {
	chance := rand.New(rand.NewSource(74))
	for _, size := range []int{0, 1, 15, 16, 17, 31, 32, 33, 1000, 1 << 20} {
		key, nonce, text := chanceText(chance, 32), chanceText(chance, 12), chanceText(chance, size)
		once, _ := aes.Ctr(key, nonce, text)
		if again, e := aes.Ctr(key, nonce, once); e != api.OK || again != text {
			t.Errorf("%d bytes: not the text again, %d", size, e)
		}
		if size > 12 && once == text {
			t.Errorf("%d bytes: the text as it was", size)
		}
	}
}

func TestCtrOfABeginning(t *testing.T) {
	chance := rand.New(rand.NewSource(75))
	key, nonce, text := chanceText(chance, 32), chanceText(chance, 12), chanceText(chance, 200)
	all, _ := aes.Ctr(key, nonce, text)
	for n := range len(text) + 1 {
		if got, e := aes.Ctr(key, nonce, text[:n]); e != api.OK || got != all[:n] {
			t.Errorf("the first %d bytes: %x, %d", n, got, e)
		}
	}
}

func TestBlockAsTheLibrary(t *testing.T) {
	chance := rand.New(rand.NewSource(76))
	for range 2000 {
		key, block := chanceText(chance, 32), chanceText(chance, 16)
		if got, e := aes.Block(key, block); e != api.OK || got != libraryBlock(t, key, block) {
			t.Fatalf("Block(%x, %x): %x, %d", key, block, got, e)
		}
	}
	// Each bit of the key, and of the block, alone.
	for bit := range 8 * (32 + 16) {
		b := make([]byte, 32+16)
		b[bit/8] = 1 << (bit % 8)
		key, block := string(b[:32]), string(b[32:])
		if got, e := aes.Block(key, block); e != api.OK || got != libraryBlock(t, key, block) {
			t.Errorf("Block(%x, %x): %x, %d", key, block, got, e)
		}
	}
}

// R5 and R6

func TestAnswersAreNew(t *testing.T) {
	key, nonce, text := strings.Repeat("k", 32), strings.Repeat("n", 12), strings.Repeat("t", 50)
	first, _ := aes.Ctr(key, nonce, text)
	aes.Ctr(strings.Repeat("l", 32), nonce, text)
	second, _ := aes.Ctr(key, nonce, text)
	if first != second || unsafe.StringData(first) == unsafe.StringData(second) || unsafe.StringData(first) == unsafe.StringData(text) {
		t.Error("two streams differ, or share memory")
	}
	one, _ := aes.Block(key, text[:16])
	aes.Block(strings.Repeat("l", 32), text[:16])
	two, _ := aes.Block(key, text[:16])
	if one != two || unsafe.StringData(one) == unsafe.StringData(two) {
		t.Error("two blocks differ, or share memory")
	}
	if text != strings.Repeat("t", 50) || key != strings.Repeat("k", 32) || nonce != strings.Repeat("n", 12) {
		t.Error("what was handed in was changed")
	}
}

func BenchmarkCtr(b *testing.B) {
	key, nonce, text := strings.Repeat("k", 32), strings.Repeat("n", 12), strings.Repeat("t", 1<<14)
	b.SetBytes(1 << 14)
	for range b.N {
		aes.Ctr(key, nonce, text)
	}
}

func BenchmarkBlock(b *testing.B) {
	key, block := strings.Repeat("k", 32), strings.Repeat("b", 16)
	for range b.N {
		aes.Block(key, block)
	}
}
