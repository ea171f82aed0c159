package calls

import (
	"slices"

	"missive/api"
)

const mostItems = 8 // items of an answer

// SameAnswer tells whether two answers are alike.
func SameAnswer(a, b api.Answer) bool {
	return a.Err == b.Err && SameList(a.List, b.List) && a.Bundle == b.Bundle &&
		slices.Equal(a.Items, b.Items) && a.Bytes == b.Bytes && a.Left == b.Left
}

// EncodeAnswer tells an answer's bytes.
func EncodeAnswer(id uint64, a api.Answer) (string, api.Errno) {
	if !mayBeAnswer(a) {
		return "", api.ErrArg
	}
	return bounded(answerBytes(id, a))
}

// DecodeAnswer tells the id and the answer whose bytes s is.
func DecodeAnswer(s string) (uint64, api.Answer, api.Errno) {
	takeNumber, takeWide, takeText := takers(s)
	id, a := takeWide(), api.Answer{Err: api.Errno(takeNumber(kindSize))}
	a.List, a.Bundle = listOf(takeText()), bundleOf(takeText())
	for range takeNumber(countSize) {
		a.Items = append(a.Items, api.Item{Number: takeWide(), From: takeNumber(placeSize), Nonce: takeWide(), Bytes: takeText()})
	}
	a.Bytes, a.Left = takeText(), takeNumber(countSize)
	// As with a call, whatever was amiss with s is told by what it is laid as.
	if again, e := EncodeAnswer(id, a); e != api.OK || again != s {
		return 0, api.Answer{}, api.ErrForm
	}
	return id, a, api.OK
}

// answerBytes are the bytes of an answer that may be.
func answerBytes(id uint64, a api.Answer) string {
	out := number(wideSize, id) + number(kindSize, int(a.Err)) + laid(listBytes(a.List), bundleBytes(a.Bundle))
	out += number(countSize, len(a.Items))
	for _, x := range a.Items {
		out += number(wideSize, x.Number) + number(placeSize, x.From) + number(wideSize, x.Nonce) + laid(x.Bytes)
	}
	return out + laid(a.Bytes) + number(countSize, a.Left)
}

// mayBeAnswer tells whether an answer may be.
func mayBeAnswer(a api.Answer) bool {
	if a.Err != api.OK {
		return within(a.Err, api.OK, api.ErrDown) && SameAnswer(a, api.Answer{Err: a.Err})
	}
	return (SameList(a.List, api.List{}) || CheckList(a.List) == api.OK) &&
		(a.Bundle == api.Bundle{} || bundleBytes(a.Bundle) != "") &&
		mayBeItems(a.Items) && len(a.Bytes) <= api.MaxItem && within(a.Left, 0, api.MaxOnce)
}

// mayBeItems tells whether items may be handed out at once.
func mayBeItems(items []api.Item) bool {
	if len(items) > mostItems {
		return false
	}
	all := 0
	for _, x := range items {
		if !within(x.Number, 1, mostWide) || !within(x.Nonce, 1, mostWide) || !isDevice(x.From) || !within(len(x.Bytes), 1, api.MaxItem) {
			return false
		}
		all += len(x.Bytes)
	}
	return all <= api.MaxTake
}
