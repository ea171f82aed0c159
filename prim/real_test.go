package prim_test

import (
	"crypto/aes"
	"crypto/cipher"
	"crypto/ecdh"
	"crypto/ed25519"
	"crypto/hkdf"
	"crypto/hmac"
	"crypto/sha256"
	"encoding/binary"
	"encoding/hex"
	"math/rand"
	"strings"
	"testing"

	"missive/api"
)

// The real kind is held against the same crypto of Go's library.

func bytesOf(t *testing.T, digits string) string {
	t.Helper()
	b, err := hex.DecodeString(digits)
	if err != nil {
		t.Fatal(err)
	}
	return string(b)
}

func hmacOf(key string, parts ...string) string {
	h := hmac.New(sha256.New, []byte(key))
	for _, s := range parts {
		h.Write([]byte(s))
	}
	return string(h.Sum(nil))
}

// asText lays a text with its length ahead.
func asText(s string) string {
	return string(binary.BigEndian.AppendUint32(nil, uint32(len(s)))) + s
}

// keysOf are the two keys of a key.
func keysOf(t *testing.T, key string) (string, string) {
	t.Helper()
	b, err := hkdf.Key(sha256.New, []byte(key), nil, "seal", 64)
	if err != nil {
		t.Fatal(err)
	}
	return string(b[:32]), string(b[32:])
}

// sealedBy is what the document says that a text is sealed to; here of any lengths.
func sealedBy(t *testing.T, key, nonce, ad, plain string) string {
	t.Helper()
	first, second := keysOf(t, key)
	block, err := aes.NewCipher([]byte(first))
	if err != nil {
		t.Fatal(err)
	}
	out := []byte(plain)
	cipher.NewCTR(block, []byte(hmacOf(second, "nonce", nonce)[:12]+"\x00\x00\x00\x00")).XORKeyStream(out, out)
	return string(out) + hmacOf(second, asText(ad), asText(nonce), string(out))
}

// some are bytes by chance.
func some(r *rand.Rand, n int) string {
	b := make([]byte, n)
	r.Read(b)
	return string(b)
}

// P10.2

func TestRealSecret(t *testing.T) {
	p := made(t, api.KitReal)
	for n := range 70 {
		s := strings.Repeat("s", n)
		want := ""
		if n == 32 {
			want = s
		}
		if out := p.Secret(s); out != want {
			t.Errorf("%d bytes: %q", n, out)
		}
	}
	for _, s := range []string{draw(0), draw(0xff)} {
		if p.Secret(s) != s || p.Secret(s) != s {
			t.Errorf("%x", s)
		}
	}
}

func TestRealPublicAndDh(t *testing.T) {
	p := made(t, api.KitReal)
	r := rand.New(rand.NewSource(101))
	secrets := []string{draw(0), draw(0xff)}
	for range 20 {
		secrets = append(secrets, some(r, 32))
	}
	var keys []*ecdh.PrivateKey
	for i, s := range secrets {
		k, err := ecdh.X25519().NewPrivateKey([]byte(s))
		if err != nil {
			t.Fatal(err)
		}
		keys = append(keys, k)
		if out := fine(t)(p.Public(s)); out != string(k.PublicKey().Bytes()) {
			t.Errorf("the public key %d: %x", i, out)
		}
		shared, err := k.ECDH(keys[i/2].PublicKey())
		if err != nil {
			t.Fatal(err)
		}
		if out := fine(t)(p.Dh(s, string(keys[i/2].PublicKey().Bytes()))); out != string(shared) {
			t.Errorf("%d and %d: %x", i, i/2, out)
		}
	}
	if len(p.Journal()) != 0 {
		t.Error("deeds")
	}
}

// The keys of RFC 7748, 6.1.
func TestRealDhAsPublished(t *testing.T) {
	p := made(t, api.KitReal)
	a := bytesOf(t, "77076d0a7318a57d3c16c17251b26645df4c2f87ebc0992ab177fba51db92c2a")
	b := bytesOf(t, "5dab087e624a8a4b79e17f8b83800ee66f3bb1292618b6fd1c2f8b27ff88e0eb")
	pa := bytesOf(t, "8520f0098930a754748b7ddcb43ef75a0dbf3a0d26381af4eba4a98eaa9b4e6a")
	pb := bytesOf(t, "de9edb7d7b7dc1b4d35b61c2ece435373f8343c85b78674dadfc7e146f882b4f")
	k := bytesOf(t, "4a5d9d5ba4ce2de1728e3bf480350f25e07e21c947d19e3376f09b3c1e161742")
	if fine(t)(p.Public(a)) != pa || fine(t)(p.Public(b)) != pb || fine(t)(p.Dh(a, pb)) != k || fine(t)(p.Dh(b, pa)) != k {
		t.Error("other keys")
	}
}

// Public keys with which all secrets share the same: ErrKey.
func TestRealDhOfNone(t *testing.T) {
	p := made(t, api.KitReal)
	defer unchanged(t, p)()
	for _, u := range []string{
		strings.Repeat("00", 32),
		"01" + strings.Repeat("00", 31),
		"e0eb7a7c3b41b8ae1656e3faf19fc46ada098deb9c32b1fd866205165f49b800",
		"5f9c95bca3508c24b1d0b1559c83ef5b04445cc4581c8e86d8224eddd09f1157",
		"ec" + strings.Repeat("ff", 30) + "7f",
		"ed" + strings.Repeat("ff", 30) + "7f",
		"ee" + strings.Repeat("ff", 30) + "7f",
		strings.Repeat("00", 31) + "80",
		"01" + strings.Repeat("00", 30) + "80",
		"ed" + strings.Repeat("ff", 31),
	} {
		for _, secret := range []string{draw(0), draw('x'), draw(0xff)} {
			refused(t, api.ErrKey)(p.Dh(secret, bytesOf(t, u)))
		}
	}
	fine(t)(p.Dh(draw('x'), "\x09"+draw(0)[1:]))
	fine(t)(p.Dh(draw('x'), "\x02"+draw(0)[1:]))
}

func TestRealLengths(t *testing.T) {
	p := made(t, api.KitReal)
	good := draw('g')
	sealed := fine(t)(p.Seal(good, "", "", ""))
	defer unchanged(t, p)()
	for n := range 100 {
		if n == 32 {
			continue
		}
		s := strings.Repeat("g", n)
		refused(t, api.ErrKey)(p.Public(s))
		refused(t, api.ErrKey)(p.Dh(s, good))
		refused(t, api.ErrKey)(p.Dh(good, s))
		refused(t, api.ErrKey)(p.Dh(s, s))
		refused(t, api.ErrKey)(p.Signer(s))
		refused(t, api.ErrKey)(p.Sign(s, ""))
		refused(t, api.ErrKey)(p.Seal(s, "n", "ad", "text"))
		refused(t, api.ErrKey)(p.Open(s, "", "", sealed))
		refused(t, api.ErrKey)(p.Open(s, "", "", "no seal"))
	}
}

func TestRealDigest(t *testing.T) {
	p := made(t, api.KitReal)
	r := rand.New(rand.NewSource(102))
	lists := [][]string{nil, {""}, {"", ""}, {"a", "b"}, {"ab"}, {"a", "", "b"}, {"", "ab"}, {"ab", ""}, {asText("a")}, {asText("a") + asText("b")}, make([]string, 200)}
	for n := range 30 {
		var l []string
		for range n {
			l = append(l, some(r, r.Intn(100)))
		}
		lists = append(lists, l)
	}
	seen := map[string]int{}
	for i, l := range lists {
		all := ""
		for _, s := range l {
			all += asText(s)
		}
		want := sha256.Sum256([]byte(all))
		out := p.Digest(l...)
		if out != string(want[:]) {
			t.Errorf("%d: %x", i, out)
		}
		seen[out]++
	}
	if len(seen) != len(lists)-1 { // the list without parts is there twice
		t.Errorf("%d digests of %d lists", len(seen), len(lists))
	}
}

// P10.3

func TestRealDerive(t *testing.T) {
	p := made(t, api.KitReal)
	r := rand.New(rand.NewSource(103))
	for _, size := range []int{0, 1, 31, 32, 33, 64, 65, 1000, 1 << 17} {
		for n := 1; n <= 16; n++ {
			secret, salt, info := some(r, size), some(r, r.Intn(100)), some(r, r.Intn(1001))
			want, err := hkdf.Key(sha256.New, []byte(secret), []byte(salt), info, 32*n)
			if err != nil {
				t.Fatal(err)
			}
			l, e := p.Derive(secret, salt, info, n)
			if e != api.OK || len(l) != n {
				t.Fatalf("%d keys: %d, %d", n, len(l), e)
			}
			for i, k := range l {
				if k != string(want[32*i:32*i+32]) {
					t.Errorf("the key %d of %d: %x", i, n, k)
				}
			}
		}
	}
	if l, e := p.Derive("s", strings.Repeat("salt", 1<<15), "", 1); e != api.OK || len(l) != 1 {
		t.Errorf("a long salt: %d", e)
	}
}

// P10.4

func TestRealSeal(t *testing.T) {
	p := made(t, api.KitReal)
	r := rand.New(rand.NewSource(104))
	for i, x := range [][3]int{{0, 0, 0}, {1, 2, 6}, {12, 0, 16}, {0, 12, 15}, {8, 100, 17}, {300, 1, 1000}, {1, 1, mostBytes}, {mostBytes, mostBytes, 5}} {
		key, nonce, ad, plain := some(r, 32), some(r, x[0]), some(r, x[1]), some(r, x[2])
		out := fine(t)(p.Seal(key, nonce, ad, plain))
		if len(out) != len(plain)+32 || out != sealedBy(t, key, nonce, ad, plain) {
			t.Errorf("%d: %.50x", i, out)
		}
		if d, want := last(t, p), (api.Deed{Kind: api.DeedSeal, Key: key, Nonce: nonce, Ad: ad, Text: plain, Out: out}); d != want {
			t.Errorf("%d: the deed %.100q", i, d.Out)
		}
		if again := fine(t)(p.Seal(key, nonce, ad, plain)); again != out || len(p.Journal()) != 2*(i+1) {
			t.Errorf("%d again: %.50x", i, again)
		}
	}
}

// P10.5

func TestRealOpen(t *testing.T) {
	p := made(t, api.KitReal)
	key := draw('k')
	for _, plain := range []string{"", "x", draw('t'), strings.Repeat("long", mostBytes/4)} {
		sealed := sealedBy(t, key, "n", "ad", plain)
		if out, e := p.Open(key, "n", "ad", sealed); out != plain || e != api.OK {
			t.Errorf("%d bytes: %.20q %d", len(plain), out, e)
		}
		if d, want := last(t, p), (api.Deed{Kind: api.DeedOpen, Key: key, Nonce: "n", Ad: "ad", Text: sealed, Out: plain}); d != want {
			t.Errorf("the deed: %.100q", d.Out)
		}
	}
	// Only Seal has a limit of nonce and ad.
	long := strings.Repeat("x", mostBytes+1)
	if out, e := p.Open(key, long, long, sealedBy(t, key, long, long, "x")); out != "x" || e != api.OK {
		t.Errorf("a long nonce and ad: %q %d", out, e)
	}
}

func TestRealOpenRefused(t *testing.T) {
	p := made(t, api.KitReal)
	key := draw('k')
	sealed := fine(t)(p.Seal(key, "n", "ad", "a text"))
	defer unchanged(t, p)()
	no := refused(t, api.ErrSeal)
	for n := range len(sealed) {
		no(p.Open(key, "n", "ad", sealed[:n]))
		no(p.Open(key, "n", "ad", sealed[n+1:]))
	}
	for at := range len(sealed) {
		for _, by := range []byte{1, 0x80, 0xff} {
			b := []byte(sealed)
			b[at] ^= by
			no(p.Open(key, "n", "ad", string(b)))
		}
	}
	no(p.Open(key, "n", "ad", sealed+"\x00"))
	no(p.Open(key, "n", "ad", "\x00"+sealed))
	no(p.Open(key, "n", "ad", ""))
	no(p.Open(key, "n", "ad", draw(0)))
	no(p.Open(draw('l'), "n", "ad", sealed))
	for _, x := range [][2]string{{"", "ad"}, {"n", ""}, {"ad", "n"}, {"na", "d"}, {"", "nad"}, {"m", "ad"}, {"n", "ae"}, {"n\x00", "ad"}, {"n", "ad\x00"}} {
		no(p.Open(key, x[0], x[1], sealed))
	}
	// Its tag is one, but there is more than may be sealed.
	no(p.Open(key, "n", "ad", sealedBy(t, key, "n", "ad", strings.Repeat("x", mostBytes+1))))
	// A tag whose parts are laid otherwise is none.
	first, second := keysOf(t, key)
	hidden := sealed[:6]
	for _, tag := range []string{
		hmacOf(second, asText("n"), asText("ad"), hidden), hmacOf(second, "ad", "n", hidden), hmacOf(second, asText("ad"), asText("n"), asText(hidden)),
		hmacOf(first, asText("ad"), asText("n"), hidden), hmacOf(key, asText("ad"), asText("n"), hidden),
	} {
		no(p.Open(key, "n", "ad", hidden+tag))
	}
}

// P10.6

func TestRealSign(t *testing.T) {
	p := made(t, api.KitReal)
	r := rand.New(rand.NewSource(106))
	for i, n := range []int{0, 1, 64, 1000, mostBytes} {
		seed, s := some(r, 32), some(r, n)
		k := ed25519.NewKeyFromSeed([]byte(seed))
		public := string(k.Public().(ed25519.PublicKey))
		if out := fine(t)(p.Signer(seed)); out != public {
			t.Errorf("%d: the signer %x", i, out)
		}
		sig := fine(t)(p.Sign(seed, s))
		if sig != string(ed25519.Sign(k, []byte(s))) {
			t.Errorf("%d: %x", i, sig)
		}
		if d, want := last(t, p), (api.Deed{Kind: api.DeedSign, Key: public, Text: s, Out: sig}); d != want {
			t.Errorf("%d: the deed %.100q", i, d.Out)
		}
		if !p.Verify(public, s, sig) {
			t.Errorf("%d: not verified", i)
		}
		if d, want := last(t, p), (api.Deed{Kind: api.DeedVerify, Key: public, Text: s, Ad: sig}); d != want || len(p.Journal()) != 2*(i+1) {
			t.Errorf("%d: the deed %.100q", i, d.Out)
		}
	}
}

// What was signed elsewhere is verified, too; also more than may be signed here.
func TestRealVerify(t *testing.T) {
	p := made(t, api.KitReal)
	k := ed25519.NewKeyFromSeed([]byte(draw('s')))
	public := string(k.Public().(ed25519.PublicKey))
	long := strings.Repeat("x", mostBytes+1)
	for i, s := range []string{"", "x", long} {
		sig := string(ed25519.Sign(k, []byte(s)))
		if !p.Verify(public, s, sig) || len(p.Journal()) != i+1 {
			t.Errorf("%d: not verified", i)
		}
		check := unchanged(t, p)
		for at := range 64 {
			b := []byte(sig)
			b[at] ^= 4
			if p.Verify(public, s, string(b)) {
				t.Errorf("%d: another byte %d", i, at)
			}
		}
		for j, x := range [][3]string{{public, s + "y", sig}, {public, s, sig[:63]}, {public, s, sig + "\x00"}, {public[:31], s, sig}, {"", s, sig}, {draw(2), s, sig}, {public, s, ""}, {"", "", ""}} {
			if p.Verify(x[0], x[1], x[2]) {
				t.Errorf("%d: what is none, %d", i, j)
			}
		}
		check()
	}
}

// The real kind has no draw of its own: two prims do the same.
func TestRealPrimsAgree(t *testing.T) {
	p, q := made(t, api.KitReal), made(t, api.KitReal)
	s := fine(t)(p.Seal(draw('k'), "n", "ad", "x"))
	if fine(t)(q.Open(draw('k'), "n", "ad", s)) != "x" || !q.Verify(fine(t)(q.Signer(draw('k'))), "x", fine(t)(p.Sign(draw('k'), "x"))) {
		t.Error("what one made, the other one does not know")
	}
}
