package direct

import (
	"missive/api"
	"missive/prim"
	"missive/wire"
)

const (
	listHead    = "list"  // what a list's text begins with
	placeSize   = 1       // bytes of a user, of a device, and of how many devices there are
	versionSize = 4       // bytes of a version
	mostVersion = 1 << 30 // the greatest version
)

// Text tells the text of a list that its account signs.
func Text(l api.List) (string, api.Errno) {
	if !mayBe(l) {
		return "", api.ErrArg
	}
	return textOf(l), api.OK
}

// Signed tells whether a list may be, and its account signed it.
func Signed(p *prim.Prim, l api.List) bool {
	return mayBe(l) && p.Verify(l.Account, textOf(l), l.Sig)
}

// mayBe tells whether a list may be.
func mayBe(l api.List) bool {
	if !within(l.User, 0, api.MaxUsers-1) || !within(l.Version, 1, mostVersion) || !areWords(l.Account, l.Sig) {
		return false
	}
	least := 0
	for _, m := range l.Devices {
		// As they rise, there are no more than may be.
		if !within(m.Device, least, api.MaxDevices-1) || !areWords(m.Sign, m.Dh) {
			return false
		}
		least = m.Device + 1
	}
	return true
}

// textOf is the text of a list that may be.
func textOf(l api.List) string {
	out := listHead + number(placeSize, l.User) + number(versionSize, l.Version) + laid(l.Account)
	out += number(placeSize, len(l.Devices))
	for _, m := range l.Devices {
		out += number(placeSize, m.Device) + laid(m.Sign, m.Dh)
	}
	return out
}

// bytesOf are the bytes of a list that may be.
func bytesOf(l api.List) string { return textOf(l) + laid(l.Sig) }

// listOf tells the list whose bytes s is.
func listOf(s string) (api.List, bool) {
	r := wire.New(s)
	head, there := r.Take(len(listHead))
	takeNumber := func(size int) int {
		v, ok := r.Number(size)
		there = there && ok
		return int(v)
	}
	takeText := func() string {
		t, ok := r.Text(api.MaxBytes)
		there = there && ok
		return t
	}
	l := api.List{User: takeNumber(placeSize), Version: takeNumber(versionSize), Account: takeText()}
	for n := takeNumber(placeSize); n > 0 && there; n-- {
		l.Devices = append(l.Devices, api.Member{Device: takeNumber(placeSize), Sign: takeText(), Dh: takeText()})
	}
	l.Sig = takeText()
	if !there || head != listHead || r.Left() != 0 || !mayBe(l) {
		return api.List{}, false
	}
	return l, true
}

// within tells whether v is from least to most.
func within(v, least, most int) bool { return v >= least && v <= most }

// areWords tells whether each text has bytes, and not too many.
func areWords(texts ...string) bool {
	for _, s := range texts {
		if !within(len(s), 1, api.MaxBytes) {
			return false
		}
	}
	return true
}

// number lays one that is not below 0.
func number(size, v int) string { return wire.PutNumber("", size, uint64(v)) }

// laid puts texts together so that it can be told where each one ends.
func laid(texts ...string) string {
	out := ""
	for _, s := range texts {
		out = wire.PutText(out, s)
	}
	return out
}
