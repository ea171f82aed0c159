package calls

import (
	"cmp"

	"missive/api"
	"missive/wire"
	"missive/x3dh"
)

// How many bytes a number is laid in.
const (
	wideSize    = 8 // an id, a nonce, an item's number
	kindSize    = 1 // a call's kind, an answer's error
	placeSize   = 1 // a user, a device, an address, a chunk's number
	countSize   = 1 // how many there are
	versionSize = 4 // a list's version
	firstSize   = 4 // the id of the first once key
)

const (
	mostKey    = 1000    // bytes of a key
	mostWide   = 1 << 40 // the greatest nonce, and the greatest number of an item
	lastDevice = api.FirstDevice + api.MaxUsers*api.MaxDevices - 1
)

// takers take numbers and texts of s, one behind the other. Where there is none they take 0 or no bytes, which are never laid as what stands there.
func takers(s string) (takeNumber func(size int) int, takeWide func() uint64, takeText func() string) {
	r := wire.New(s)
	takeNumber = func(size int) int {
		v, _ := r.Number(size)
		return int(v)
	}
	takeWide = func() uint64 {
		v, _ := r.Number(wideSize)
		return v
	}
	takeText = func() string {
		t, _ := r.Text(api.MaxBytes)
		return t
	}
	return takeNumber, takeWide, takeText
}

// number lays one that is not below 0.
func number[N int | uint64](size int, v N) string { return wire.PutNumber("", size, uint64(v)) }

// laid puts texts together so that it can be told where each one ends.
func laid(texts ...string) string {
	out := ""
	for _, s := range texts {
		out = wire.PutText(out, s)
	}
	return out
}

// bounded is what may be sent at once.
func bounded(out string) (string, api.Errno) {
	if len(out) > api.MaxBytes {
		return "", api.ErrLong
	}
	return out, api.OK
}

// bundleBytes are the bytes of a bundle that may be; none of another one, as a zero bundle is laid.
func bundleBytes(b api.Bundle) string {
	s, _ := x3dh.EncodeBundle(b)
	return s
}

// bundleOf tells the bundle whose bytes s is; a zero one, if it is none's.
func bundleOf(s string) api.Bundle {
	b, _ := x3dh.DecodeBundle(s)
	return b
}

// within tells whether v is from least to most.
func within[N cmp.Ordered](v, least, most N) bool { return v >= least && v <= most }

// isDevice tells whether an address is a device's.
func isDevice(address int) bool { return within(address, api.FirstDevice, lastDevice) }

// areKeys tells whether each text has bytes, and not too many.
func areKeys(texts ...string) bool {
	for _, s := range texts {
		if !within(len(s), 1, mostKey) {
			return false
		}
	}
	return true
}
