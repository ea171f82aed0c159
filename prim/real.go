package prim

import (
	"strings"

	"missive/aes"
	"missive/api"
	"missive/curve"
	"missive/hash"
	"missive/mac"
	"missive/sign"
	"missive/term"
	"missive/wire"
)

const nonceSize = 12 // bytes of a cipher's nonce

// realKit is the real crypto: all it needs is handed in.
type realKit struct{}

// twoKeys come of one key, so that what hides a text is not what proves it.
type twoKeys struct{ hide, prove string }

func (realKit) secret(draw string) string {
	if len(draw) != api.KeySize {
		return ""
	}
	return strings.Clone(draw)
}

func (realKit) public(secret string) (string, api.Errno) {
	return times(secret, "\x09"+strings.Repeat("\x00", api.KeySize-1))
}

func (realKit) dh(secret, public string) (string, api.Errno) {
	shared, e := times(secret, public)
	if e != api.OK {
		return "", e
	}
	// Some public keys come to this with every secret: all know it.
	if mac.Equal(shared, strings.Repeat("\x00", api.KeySize)) {
		return "", api.ErrKey
	}
	return shared, api.OK
}

// times is X25519; it has no bytes of what has not the lengths of keys.
func times(secret, u string) (string, api.Errno) {
	out := curve.X25519(secret, u)
	if out == "" {
		return "", api.ErrKey
	}
	return out, api.OK
}

func (realKit) derive(secret, salt, info string, n int) ([]string, api.Errno) {
	all, e := mac.Expand(mac.Extract(salt, secret), info, api.KeySize*n)
	if e != api.OK {
		return nil, e
	}
	keys := make([]string, 0, n)
	for i := range n {
		keys = append(keys, all[api.KeySize*i:api.KeySize*(i+1)])
	}
	return keys, api.OK
}

func (realKit) seal(key, nonce, ad, text string) (string, api.Errno) {
	both, e := twoKeysOf(key)
	if e != api.OK {
		return "", e
	}
	cipher, e := both.turned(nonce, text)
	if e != api.OK {
		return "", e
	}
	return cipher + both.tag(ad, nonce, cipher), api.OK
}

func (realKit) open(key, nonce, ad, sealed string) (string, api.Errno) {
	both, e := twoKeysOf(key)
	if e != api.OK {
		return "", e
	}
	size := len(sealed) - api.SealSize
	if size < 0 || size > api.MaxBytes || !mac.Equal(sealed[size:], both.tag(ad, nonce, sealed[:size])) {
		return "", api.ErrSeal
	}
	return both.turned(nonce, sealed[:size])
}

// twoKeysOf tells the two keys of a key.
func twoKeysOf(key string) (twoKeys, api.Errno) {
	if len(key) != api.KeySize {
		return twoKeys{}, api.ErrKey
	}
	all, e := mac.Expand(mac.Extract("", key), "seal", 2*api.KeySize)
	if e != api.OK {
		return twoKeys{}, e
	}
	return twoKeys{all[:api.KeySize], all[api.KeySize:]}, api.OK
}

// turned is a text's cipher, or a cipher's text. The cipher's nonce is a digest, as one that is handed in may have any length.
func (k twoKeys) turned(nonce, text string) (string, api.Errno) {
	return aes.Ctr(k.hide, mac.Hmac(k.prove, "nonce", nonce)[:nonceSize], text)
}

// tag proves a cipher, and what it was sealed with.
func (k twoKeys) tag(ad, nonce, cipher string) string {
	return mac.Hmac(k.prove, wire.PutText("", ad), wire.PutText("", nonce), cipher)
}

func (realKit) signer(secret string) (string, api.Errno) { return sign.Public(secret) }

func (realKit) sign(secret, text string) (string, api.Errno) { return sign.Sign(secret, text) }

func (realKit) verify(public, text, sig string) bool { return sign.Verify(public, text, sig) }

func (realKit) digest(parts ...string) string {
	laid := make([]string, 0, len(parts))
	for _, s := range parts {
		laid = append(laid, wire.PutText("", s))
	}
	return hash.Sha256(laid...)
}

func (realKit) terms() *term.Table { return nil }

func (k realKit) copied() crypto { return k }
