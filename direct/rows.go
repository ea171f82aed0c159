package direct

import (
	"strconv"
	"strings"

	"missive/api"
	"missive/wire"
	"missive/x3dh"
)

// What the keys of the rows begin with.
const (
	listRow     = "l" // and a user: its list
	bundleRow   = "b" // and an address: what that device published
	greatestRow = "m" // and an address: the greatest id of a once key that it ever published
	onceRow     = "o" // and an address, and an id: that once key
)

const (
	userWidth    = 1       // digits of a user in a key
	addressWidth = 2       // digits of an address
	idWidth      = 10      // digits of an id: all of the same width, so that the least one is listed first
	idSize       = 4       // bytes of an id in a value
	mostId       = 1 << 30 // the greatest id
	lastDevice   = api.FirstDevice + api.MaxUsers*api.MaxDevices - 1
)

// keyOf puts a row's key together.
func keyOf(kind string, numbers ...string) string { return kind + strings.Join(numbers, "") }

// digits are those of v, with noughts ahead.
func digits(width, v int) string {
	s := strconv.Itoa(v)
	return strings.Repeat("0", max(width-len(s), 0)) + s
}

func listKey(user int) string { return keyOf(listRow, digits(userWidth, user)) }

func deviceKey(kind string, address int) string { return keyOf(kind, digits(addressWidth, address)) }

func onceKey(address, id int) string {
	return keyOf(onceRow, digits(addressWidth, address), digits(idWidth, id))
}

// parted tells a key's kind, and the address and the id in it. Of what is no such key it tells some that would make another one.
func parted(key string) (kind string, address, id int) {
	r := wire.New(key)
	take := func(width int) int {
		s, _ := r.Take(width)
		v, _ := strconv.Atoi(s)
		return v
	}
	kind, _ = r.Take(1)
	return kind, take(addressWidth), take(idWidth)
}

// isRow tells whether the directory may have such a row.
func isRow(key, value string) bool {
	kind, address, id := parted(key)
	switch kind {
	case listRow:
		l, ok := listOf(value)
		return ok && key == listKey(l.User)
	case bundleRow:
		b, e := x3dh.DecodeBundle(value)
		return e == api.OK && b.OnceId == 0 && key == deviceKey(bundleRow, addressOf(b.User, b.Device))
	case greatestRow:
		return isId(idOf(value)) && isDevice(address) && key == deviceKey(greatestRow, address)
	case onceRow:
		return areWords(value) && isDevice(address) && isId(id) && key == onceKey(address, id)
	}
	return false
}

// addressOf tells the address of a user's device.
func addressOf(user, device int) int { return api.FirstDevice + user*api.MaxDevices + device }

// isDeviceOf tells whether an address is one of that user's devices.
func isDeviceOf(address, user int) bool {
	return within(address, addressOf(user, 0), addressOf(user, api.MaxDevices-1))
}

func isDevice(address int) bool { return within(address, api.FirstDevice, lastDevice) }

func isId(id int) bool { return within(id, 1, mostId) }

// idOf tells the id whose bytes s is; 0, which is none, if it is none's.
func idOf(s string) int {
	r := wire.New(s)
	v, ok := r.Number(idSize)
	if !ok || r.Left() != 0 {
		return 0
	}
	return int(v)
}

// list tells a user's list. Of numbers that are no user's there are no rows.
func (d *State) list(user int) (api.List, bool) {
	bytes, _ := d.store.Get(listKey(user))
	return listOf(bytes)
}

// bundle tells what a device published.
func (d *State) bundle(address int) (api.Bundle, bool) {
	bytes, _ := d.store.Get(deviceKey(bundleRow, address))
	b, e := x3dh.DecodeBundle(bytes)
	return b, e == api.OK
}

// greatest tells the greatest id of a once key that a device ever published; 0, if it published none.
func (d *State) greatest(address int) int {
	bytes, _ := d.store.Get(deviceKey(greatestRow, address))
	return idOf(bytes)
}

// onces tells the keys of a device's once keys' rows, those of lesser ids first.
func (d *State) onces(address int) []string { return d.store.List(deviceKey(onceRow, address)) }

// rowsOf tells the keys of all rows of a device.
func (d *State) rowsOf(address int) []string {
	rows := d.onces(address)
	for _, kind := range []string{bundleRow, greatestRow} {
		rows = append(rows, d.store.List(deviceKey(kind, address))...)
	}
	return rows
}
