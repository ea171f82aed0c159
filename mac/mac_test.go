package mac_test

import (
	"crypto/hkdf"
	"crypto/hmac"
	"crypto/sha256"
	"encoding/hex"
	"math"
	"math/rand"
	"strings"
	"testing"
	"unsafe"

	"missive/api"
	"missive/mac"
)

func digits(s string) string { return hex.EncodeToString([]byte(s)) }

func bytesOf(t *testing.T, s string) string {
	t.Helper()
	b, err := hex.DecodeString(s)
	if err != nil {
		t.Fatal(err)
	}
	return string(b)
}

func chanceText(chance *rand.Rand, size int) string {
	b := make([]byte, size)
	chance.Read(b)
	return string(b)
}

// library is the digest as Go's own library has it.
func library(key, text string) string {
	h := hmac.New(sha256.New, []byte(key))
	h.Write([]byte(text))
	return string(h.Sum(nil))
}

func sha(s string) string { b := sha256.Sum256([]byte(s)); return string(b[:]) }

// told is the digest in the document's words.
func told(key, text string) string {
	if len(key) > 64 {
		key = sha(key)
	}
	key += strings.Repeat("\x00", 64-len(key))
	turned := func(by byte) string {
		out := ""
		for _, b := range []byte(key) {
			out += string([]byte{b ^ by})
		}
		return out
	}
	return sha(turned(0x5c) + sha(turned(0x36)+text))
}

// toldPieces are T1, T2, .. in the document's words, all 255 of them.
func toldPieces(key, info string) string {
	out, last := "", ""
	for i := 1; i <= 255; i++ {
		last = told(key, last+info+string([]byte{byte(i)}))
		out += last
	}
	return out
}

// P6.1

func TestHmacExamples(t *testing.T) {
	for _, x := range []struct {
		key   string
		parts []string
		want  string
	}{
		{"Jefe", []string{"what do ya want ", "for nothing?"}, "5bdcc146bf60754e6a042426089575c75a003f089d2739839dec58b964ec3843"},
		{strings.Repeat("\x0b", 20), []string{"Hi There"}, "b0344c61d8db38535ca8afceaf0bf12b881dc200c9833da726e9376c2e32cff7"},
		{strings.Repeat("\xaa", 131), []string{"Test Using Larger Than Block-Size Key - Hash Key First"}, "60e431591ee0b67f0d8a26aacbf5b77f8e0bc6213728c5140546040f0ee37f54"},
	} {
		if got := digits(mac.Hmac(x.key, x.parts...)); got != x.want {
			t.Errorf("of %q: %s, want %s", x.parts, got, x.want)
		}
	}
}

// A key of 64 bytes is laid as it is, one of 65 by its digest.
func TestKeysOfAllLengths(t *testing.T) {
	chance := rand.New(rand.NewSource(61))
	for size := range 200 {
		for _, key := range []string{chanceText(chance, size), strings.Repeat("\x00", size), strings.Repeat("\xff", size), strings.Repeat("\x5c", size), strings.Repeat("\x36", size)} {
			text := chanceText(chance, chance.Intn(100))
			got := mac.Hmac(key, text)
			if got != library(key, text) || got != told(key, text) {
				t.Fatalf("key %x, text %x: %x", key, text, got)
			}
		}
	}
}

func TestTextsOfAllLengths(t *testing.T) {
	chance := rand.New(rand.NewSource(62))
	for size := range 300 {
		for _, keySize := range []int{0, 1, 32, 64, 65} {
			key, text := chanceText(chance, keySize), chanceText(chance, size)
			if got := mac.Hmac(key, text); got != library(key, text) {
				t.Fatalf("key %x, text %x: %x", key, text, got)
			}
		}
	}
	key, text := chanceText(chance, 100000), chanceText(chance, 1000000)
	if mac.Hmac(key, text) != library(key, text) {
		t.Error("a long key and a long text")
	}
}

func TestOtherKeysAndTexts(t *testing.T) {
	key, text := strings.Repeat("k", 64), strings.Repeat("t", 70)
	seen := map[string]bool{mac.Hmac(key, text): true}
	add := func(key, text string) {
		got := mac.Hmac(key, text)
		if seen[got] {
			t.Errorf("key %q, text %q: as another one", key, text)
		}
		seen[got] = true
	}
	for i := range len(key) {
		add(key[:i]+"l"+key[i+1:], text)
	}
	for i := range len(text) {
		add(key, text[:i]+"u"+text[i+1:])
	}
	add(key, text+"\x00")
	add(key+"\x00", text)
	add("", key+text)
	add(text, key)
}

// P6.2

func TestExtractExamples(t *testing.T) {
	key := mac.Extract(bytesOf(t, "000102030405060708090a0b0c"), strings.Repeat("\x0b", 22))
	if got := digits(key); got != "077709362c2e32df0ddc3f0dc47bba6390b6c73bb50f9c3122ec844ad7c2b3e5" {
		t.Errorf("Extract: %s", got)
	}
	info := bytesOf(t, "f0f1f2f3f4f5f6f7f8f9")
	got, e := mac.Expand(key, info, 42)
	if e != api.OK || digits(got) != "3cb25f25faacd57a90434f64d0362f2a2d2d0a90cf1a5a4c5db02d56ecc4c5bf34007208d5b887185865" {
		t.Errorf("Expand: %s, %d", digits(got), e)
	}
	for _, x := range []struct {
		n    int
		want api.Errno
	}{{0, api.OK}, {8161, api.ErrLong}, {-1, api.ErrArg}} {
		if got, e := mac.Expand(key, info, x.n); got != "" || e != x.want {
			t.Errorf("Expand to %d: %x, %d", x.n, got, e)
		}
	}
}

// Extract's first one is the key: the two are not to be had the other way round.
func TestExtractAsHmac(t *testing.T) {
	chance := rand.New(rand.NewSource(63))
	for range 300 {
		salt, secret := chanceText(chance, chance.Intn(100)), chanceText(chance, chance.Intn(100))
		got := mac.Extract(salt, secret)
		want, err := hkdf.Extract(sha256.New, []byte(secret), []byte(salt))
		if err != nil || got != string(want) || got != told(salt, secret) {
			t.Fatalf("Extract(%x, %x): %x", salt, secret, got)
		}
	}
	for _, x := range [][2]string{{"", ""}, {"a", ""}, {"", "a"}} {
		if mac.Extract(x[0], x[1]) != library(x[0], x[1]) {
			t.Errorf("Extract(%q, %q)", x[0], x[1])
		}
	}
}

func TestExpandToAllLengths(t *testing.T) {
	chance := rand.New(rand.NewSource(64))
	for _, size := range [][2]int{{32, 10}, {0, 0}, {64, 1}, {65, 0}, {7, 200}} {
		key, info := chanceText(chance, size[0]), chanceText(chance, size[1])
		all := toldPieces(key, info)
		lengths := []int{8127, 8128, 8129, 8159, 8160}
		for n := range 300 {
			lengths = append(lengths, n)
		}
		for _, n := range lengths {
			got, e := mac.Expand(key, info, n)
			if e != api.OK || got != all[:n] {
				t.Fatalf("key %x, info %x, %d: %x, %d", key, info, n, got, e)
			}
			if want, err := hkdf.Expand(sha256.New, []byte(key), info, n); err != nil || got != string(want) {
				t.Fatalf("key %x, info %x, %d: not as the library", key, info, n)
			}
		}
	}
}

func TestExpandRefuses(t *testing.T) {
	for _, key := range []string{"", "key", strings.Repeat("k", 100)} {
		for n, want := range map[int]api.Errno{
			-1: api.ErrArg, -8161: api.ErrArg, math.MinInt32: api.ErrArg, math.MinInt: api.ErrArg,
			8161: api.ErrLong, 8192: api.ErrLong, 1 << 20: api.ErrLong, math.MaxInt32: api.ErrLong, math.MaxInt: api.ErrLong,
		} {
			if got, e := mac.Expand(key, "info", n); got != "" || e != want {
				t.Errorf("%d: %d bytes, %d, want %d", n, len(got), e, want)
			}
		}
	}
}

// P6.3

func TestEqual(t *testing.T) {
	texts := []string{"", "\x00", "\x00\x00", "a", "b", "ab", "ba", "abc", "a\x00", "\x00a", "\xff", "\x80", "\x7f", strings.Repeat("m", 32), strings.Repeat("m", 33)}
	for i, a := range texts {
		for j, b := range texts {
			if got := mac.Equal(a, strings.Clone(b)); got != (i == j) {
				t.Errorf("Equal(%q, %q): %v", a, b, got)
			}
		}
	}
}

func TestEqualToABit(t *testing.T) {
	s := strings.Repeat("\x3c\xa5", 16)
	for i := range len(s) {
		for bit := range 8 {
			other := []byte(s)
			other[i] ^= 1 << bit
			if mac.Equal(s, string(other)) || mac.Equal(string(other), s) {
				t.Errorf("byte %d, bit %d", i, bit)
			}
		}
	}
	// Two differences that would make up for each other, if they were added.
	if mac.Equal("ac", "bb") || mac.Equal("\x01\x01", "\x00\x00") || mac.Equal("\x80\x80", "\x00\x00") {
		t.Error("differences that make up for each other")
	}
}

// P6.4

func TestPartedAnywhere(t *testing.T) {
	chance := rand.New(rand.NewSource(65))
	text := chanceText(chance, 150)
	for _, key := range []string{"", "key", chanceText(chance, 64), chanceText(chance, 90)} {
		want := library(key, text)
		for i := range len(text) + 1 {
			if mac.Hmac(key, text[:i], text[i:]) != want || mac.Hmac(key, "", text[:i], "", text[i:], "") != want {
				t.Fatalf("key %x, parted at %d", key, i)
			}
		}
		var parts []string
		for i := range len(text) {
			parts = append(parts, text[i:i+1])
		}
		if mac.Hmac(key, parts...) != want {
			t.Errorf("key %x, byte by byte", key)
		}
		for _, none := range [][]string{nil, {}, {""}, {"", ""}} {
			if mac.Hmac(key, none...) != library(key, "") {
				t.Errorf("key %x, parts %#v", key, none)
			}
		}
	}
}

func TestNoughtsBehindAKey(t *testing.T) {
	chance := rand.New(rand.NewSource(66))
	for size := range 65 {
		key := chanceText(chance, size)
		want := mac.Hmac(key, "text")
		for more := size; more <= 64; more++ {
			if mac.Hmac(key+strings.Repeat("\x00", more-size), "text") != want {
				t.Fatalf("a key of %d bytes, noughts up to %d", size, more)
			}
		}
		if mac.Hmac(key+strings.Repeat("\x00", 65-size), "text") == want {
			t.Errorf("a key of %d bytes, noughts up to 65", size)
		}
	}
	long := chanceText(chance, 65)
	if mac.Hmac(long, "text") == mac.Hmac(long+"\x00", "text") {
		t.Error("noughts behind a long key")
	}
	if mac.Hmac(long, "text") != mac.Hmac(sha(long), "text") {
		t.Error("a long key and its digest")
	}
}

func TestShorterIsTheBeginning(t *testing.T) {
	key, info := "a key", "what for"
	all, _ := mac.Expand(key, info, 8160)
	for n := 0; n <= 8160; n += 1 + n/40 {
		if got, e := mac.Expand(key, info, n); e != api.OK || got != all[:n] {
			t.Errorf("%d bytes: %d", n, e)
		}
	}
	if other, _ := mac.Expand(key, info+"\x01", 32); other == all[:32] {
		t.Error("another info, the same bytes")
	}
}

// R5 and R6

func TestPartsStayAndAnswersAreNew(t *testing.T) {
	room := []string{"a", "b", "behind"}
	first, second := mac.Hmac("key", room[:2]...), mac.Hmac("key", room[:2]...)
	if first != second || unsafe.StringData(first) == unsafe.StringData(second) {
		t.Error("two answers differ, or share memory")
	}
	if room[0] != "a" || room[1] != "b" || room[2] != "behind" {
		t.Errorf("the parts were changed: %q", room)
	}
	one, _ := mac.Expand("key", "info", 40)
	two, _ := mac.Expand("key", "info", 40)
	if one != two || unsafe.StringData(one) == unsafe.StringData(two) {
		t.Error("two expansions differ, or share memory")
	}
}
