package calls

import (
	"slices"

	"missive/api"
)

const mostVersion = 1 << 30 // the greatest version of a list

// CheckList tells whether a list may be.
func CheckList(l api.List) api.Errno {
	if !within(l.User, 0, api.MaxUsers-1) || !within(l.Version, 1, mostVersion) || !areKeys(l.Account, l.Sig) {
		return api.ErrArg
	}
	ahead := -1
	for _, m := range l.Devices {
		// As they rise, there are no more than may be.
		if !within(m.Device, ahead+1, api.MaxDevices-1) || !areKeys(m.Sign, m.Dh) {
			return api.ErrArg
		}
		ahead = m.Device
	}
	return api.OK
}

// SameList tells whether two lists are alike.
func SameList(a, b api.List) bool {
	return a.User == b.User && a.Version == b.Version && a.Account == b.Account &&
		slices.Equal(a.Devices, b.Devices) && a.Sig == b.Sig
}

// listBytes are the bytes of a list that may be; none of another one, as a zero list is laid.
func listBytes(l api.List) string {
	if CheckList(l) != api.OK {
		return ""
	}
	out := number(placeSize, l.User) + number(versionSize, l.Version) + laid(l.Account)
	out += number(countSize, len(l.Devices))
	for _, m := range l.Devices {
		out += number(placeSize, m.Device) + laid(m.Sign, m.Dh)
	}
	return out + laid(l.Sig)
}

// listOf tells the list whose bytes s is; a zero one of no bytes; of others some list that is not laid as they are.
func listOf(s string) api.List {
	takeNumber, _, takeText := takers(s)
	l := api.List{User: takeNumber(placeSize), Version: takeNumber(versionSize), Account: takeText()}
	for range takeNumber(countSize) {
		l.Devices = append(l.Devices, api.Member{Device: takeNumber(placeSize), Sign: takeText(), Dh: takeText()})
	}
	l.Sig = takeText()
	return l
}
