package prim

import (
	"missive/api"
	"missive/term"
	"missive/wire"
)

const (
	termHead   = "\xf0TRM" // what the text of a term begins with
	numberSize = 4         // bytes of its number
)

// termKit is crypto of terms: what is made stands in the table.
type termKit struct{ table *term.Table }

// secret takes a fresh name: the draw counts for nothing.
func (k termKit) secret(string) string { return k.table.Fresh() }

func (k termKit) public(secret string) (string, api.Errno) {
	return k.table.Make(api.TermPub, "", secret)
}

func (k termKit) dh(secret, public string) (string, api.Errno) {
	return k.table.Make(api.TermDh, "", secret, public)
}

func (k termKit) derive(secret, salt, info string, n int) ([]string, api.Errno) {
	keys := make([]string, 0, n)
	for i := range n {
		key, e := k.table.Make(api.TermHash, wire.PutNumber(info, 1, uint64(i)), secret, salt)
		if e != api.OK {
			return nil, e
		}
		keys = append(keys, key)
	}
	return keys, api.OK
}

func (k termKit) seal(key, nonce, ad, text string) (string, api.Errno) {
	return k.table.Make(api.TermEnc, "", key, nonce, ad, text)
}

func (k termKit) open(key, nonce, ad, sealed string) (string, api.Errno) {
	parts, ok := k.partsOf(api.TermEnc, sealed)
	if !ok || !k.is(parts[0], key) || !k.is(parts[1], nonce) || !k.is(parts[2], ad) {
		return "", api.ErrSeal
	}
	return k.partText(parts[3]), api.OK
}

func (k termKit) signer(secret string) (string, api.Errno) { return k.public(secret) }

func (k termKit) sign(secret, text string) (string, api.Errno) {
	return k.table.Make(api.TermSig, "", secret, text)
}

func (k termKit) verify(public, text, sig string) bool {
	signer, ok := k.partsOf(api.TermPub, public)
	if !ok {
		return false
	}
	signed, ok := k.partsOf(api.TermSig, sig)
	return ok && signed[0] == signer[0] && k.is(signed[1], text)
}

func (k termKit) digest(parts ...string) string {
	// Beside an error there is no text, and that is what is answered then.
	out, _ := k.table.Make(api.TermHash, "digest", parts...)
	return out
}

func (k termKit) terms() *term.Table { return k.table.Copy() }

func (k termKit) copied() crypto { return termKit{k.table.Copy()} }

// partsOf tells the parts of the term whose text s is, if it is of that kind.
func (k termKit) partsOf(kind int, s string) ([]int, bool) {
	x, ok := k.table.Of(s)
	if !ok || x.Kind != kind {
		return nil, false
	}
	return x.Parts, true
}

// is tells whether s has that term. It puts nothing: what is only asked for is to leave the table as it was.
func (k termKit) is(number int, s string) bool {
	if _, ok := k.table.Of(s); ok {
		return s == textOf(number)
	}
	x, ok := k.table.Of(textOf(number))
	return ok && x.Kind == api.TermData && x.S == s
}

// partText tells the text of a term that stands as a part.
func (k termKit) partText(number int) string {
	if x, ok := k.table.Of(textOf(number)); ok && x.Kind == api.TermData {
		return x.S
	}
	return textOf(number)
}

// textOf tells the text of the term of that number.
func textOf(number int) string { return wire.PutNumber(termHead, numberSize, uint64(number)) }
