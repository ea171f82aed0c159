package session

import (
	"strconv"
	"strings"

	"missive/api"
	"missive/ratchet"
	"missive/wire"
)

// What the keys of the rows begin with.
const (
	identityRow = "ki" // the device's secret of its Dh key
	preRow      = "kp" // and an id: the secret of that pre key
	onceRow     = "ko" // and an id: that of a once key
	sessionRow  = "s"  // and a peer's address, and who began: the session
)

const (
	idWidth      = 10 // digits of an id in a key
	addressWidth = 2  // digits of an address
	beganWidth   = 1  // digits of who began
	lastDevice   = api.FirstDevice + api.MaxUsers*api.MaxDevices - 1
)

// session is what is kept of one.
type session struct {
	api.Ratchet
	first  first
	public string // the key by which it began
}

// keyOf puts a row's key together.
func keyOf(kind string, numbers ...string) string { return kind + strings.Join(numbers, "") }

// digits are those of v, with noughts ahead.
func digits(width, v int) string {
	s := strconv.Itoa(v)
	return strings.Repeat("0", max(width-len(s), 0)) + s
}

func secretKey(kind string, id int) string { return keyOf(kind, digits(idWidth, id)) }

func sessionKey(peer int, mine bool) string {
	return keyOf(sessionRow, digits(addressWidth, peer), digits(beganWidth, began(mine)))
}

// secret tells the one that a row keeps. A row of what can be none keeps none.
func (b *Book) secret(key string) (string, bool) {
	s, ok := b.store.Get(key)
	return s, ok && areSecrets(s)
}

// find tells a session by its row.
func (b *Book) find(peer int, mine bool) (session, api.Errno) {
	value, ok := b.store.Get(sessionKey(peer, mine))
	if !ok {
		return session{}, api.ErrNone
	}
	r, there := wire.New(value), true
	takeText := func() string {
		s, ok := r.Text(api.MaxValue)
		there = there && ok
		return s
	}
	begun, isFirst := firstOf(takeText())
	public := takeText()
	turned, e := ratchet.Decode(takeText())
	if !there || r.Left() != 0 || !isFirst || e != api.OK {
		return session{}, api.ErrForm
	}
	return session{Ratchet: turned, first: begun, public: public}, api.OK
}

// rowsOf tells the row that keeps a session, as a change of it alone. One that no row can hold is refused ahead of being a change that the store refuses.
func rowsOf(peer int, mine bool, x session) ([]api.Row, api.Errno) {
	bytes, e := ratchet.Encode(x.Ratchet)
	if e != api.OK {
		return nil, e
	}
	value := laid(x.first.bytes(), x.public, bytes)
	if len(value) > api.MaxValue {
		return nil, api.ErrLong
	}
	return []api.Row{{Key: sessionKey(peer, mine), Value: value}}, api.OK
}

func isDevice(address int) bool { return within(address, api.FirstDevice, lastDevice) }

// isOf tells whether the address is that of a user's device.
func isOf(address, user, device int) bool {
	at := address - api.FirstDevice
	return user == at/api.MaxDevices && device == at%api.MaxDevices
}

// within tells whether v is from least to most.
func within(v, least, most int) bool { return v >= least && v <= most }

// areSecrets tells whether each text has as many bytes as a secret may have.
func areSecrets(texts ...string) bool {
	for _, s := range texts {
		if !within(len(s), 1, api.MaxBytes) {
			return false
		}
	}
	return true
}

// laid puts texts together so that it can be told where each one ends.
func laid(texts ...string) string {
	out := ""
	for _, s := range texts {
		out = wire.PutText(out, s)
	}
	return out
}
