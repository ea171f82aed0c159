package calls_test

import (
	"reflect"
	"strings"

	"missive/api"
)

// What follows tells the document's words, without the package that is tested, and without wire and x3dh.

const (
	users, devices = 3, 2
	mostId         = 1 << 30
	mostWide       = 1 << 40
	mostKey        = 1000
	mostBytes      = 1 << 14 // of a call, of an answer, and of a text in a bundle
	mostItem       = 1 << 12
	mostTake       = 1 << 13
	mostOnces      = 20
	mostName       = 40
)

// number tells v in that many bytes, the highest first.
func number(size int, v uint64) string {
	b := make([]byte, size)
	for i := range b {
		b[i] = byte(v >> (8 * (size - 1 - i)))
	}
	return string(b)
}

// texts tells texts, each with its length ahead.
func texts(l ...string) string {
	out := ""
	for _, s := range l {
		out += number(4, uint64(len(s))) + s
	}
	return out
}

// small tells a number in one byte.
func small(v int) string { return number(1, uint64(v)) }

// The laid ones are laid as they are, whether they may be or not.

func laidList(l api.List) string {
	out := small(l.User) + number(4, uint64(l.Version)) + texts(l.Account) + small(len(l.Devices))
	for _, m := range l.Devices {
		out += small(m.Device) + texts(m.Sign, m.Dh)
	}
	return out + texts(l.Sig)
}

func laidBundle(b api.Bundle) string {
	return small(b.User) + small(b.Device) + texts(b.Sign, b.Dh) + number(4, uint64(b.PreId)) +
		texts(b.Pre, b.PreSig) + number(4, uint64(b.OnceId)) + texts(b.Once)
}

func laidCall(id uint64, c api.Call) string {
	out := number(8, id) + small(c.Kind)
	switch c.Kind {
	case 1:
		return out + small(c.User)
	case 2:
		return out + small(c.User) + small(c.Device)
	case 3:
		return out + texts(laidList(c.List))
	case 4:
		return out + texts(laidBundle(c.Bundle)) + number(4, uint64(c.Index)) + small(len(c.Onces)) + texts(c.Onces...)
	case 5:
		return out + small(c.To) + number(8, c.Nonce) + texts(c.Bytes)
	case 6, 7:
		return out + number(8, c.After)
	case 8:
		return out + texts(c.Name) + small(c.Index) + texts(c.Bytes)
	case 9:
		return out + texts(c.Name) + small(c.Index)
	}
	return out
}

func laidAnswer(id uint64, a api.Answer) string {
	list, bundle := laidList(a.List), laidBundle(a.Bundle)
	if isZeroList(a.List) {
		list = ""
	}
	if a.Bundle == (api.Bundle{}) {
		bundle = ""
	}
	out := number(8, id) + small(int(a.Err)) + texts(list, bundle) + small(len(a.Items))
	for _, x := range a.Items {
		out += number(8, x.Number) + small(x.From) + number(8, x.Nonce) + texts(x.Bytes)
	}
	return out + texts(a.Bytes) + small(a.Left)
}

func in(v, least, most int) bool { return least <= v && v <= most }

func isKey(s string) bool { return in(len(s), 1, mostKey) }

func isAddress(v int) bool { return in(v, 2, 7) }

func isWide(v uint64) bool { return 1 <= v && v <= mostWide }

func isZeroList(l api.List) bool {
	return l.User == 0 && l.Version == 0 && l.Account == "" && len(l.Devices) == 0 && l.Sig == ""
}

func mayList(l api.List) bool {
	for i, m := range l.Devices {
		if !in(m.Device, 0, devices-1) || i > 0 && m.Device <= l.Devices[i-1].Device || !isKey(m.Sign) || !isKey(m.Dh) {
			return false
		}
	}
	return in(l.User, 0, users-1) && in(l.Version, 1, mostId) && isKey(l.Account) && isKey(l.Sig)
}

func mayBundle(b api.Bundle) bool {
	for _, s := range []string{b.Sign, b.Dh, b.Pre, b.PreSig} {
		if !in(len(s), 1, mostBytes) {
			return false
		}
	}
	return in(b.User, 0, users-1) && in(b.Device, 0, devices-1) && in(b.PreId, 1, mostId) &&
		(b.OnceId == 0 && b.Once == "" || in(b.OnceId, 1, mostId) && in(len(b.Once), 1, mostBytes))
}

// has are the fields of a call, by its kind.
var has = map[int][]string{
	1: {"User"},
	2: {"User", "Device"},
	3: {"List"},
	4: {"Bundle", "Index", "Onces"},
	5: {"To", "Nonce", "Bytes"},
	6: {"After"},
	7: {"After"},
	8: {"Name", "Index", "Bytes"},
	9: {"Name", "Index"},
}

// holds tells whether that field of a call holds what it may.
func holds(c api.Call, field string) bool {
	switch field {
	case "User":
		return in(c.User, 0, users-1)
	case "Device":
		return in(c.Device, 0, devices-1)
	case "List":
		return mayList(c.List)
	case "Bundle":
		return mayBundle(c.Bundle) && c.Bundle.OnceId == 0
	case "Onces":
		for _, s := range c.Onces {
			if !isKey(s) {
				return false
			}
		}
		return len(c.Onces) <= mostOnces
	case "To":
		return isAddress(c.To)
	case "Nonce":
		return isWide(c.Nonce)
	case "After":
		return c.After <= mostWide
	case "Name":
		return in(len(c.Name), 1, mostName)
	case "Index":
		return c.Kind == 4 && in(c.Index, 1, mostId) || c.Kind != 4 && in(c.Index, 0, 63)
	}
	return in(len(c.Bytes), 1, mostItem)
}

// isZero tells whether a value is a zero one, an empty list being as none.
func isZero(v reflect.Value) bool {
	switch v.Kind() {
	case reflect.Slice:
		return v.Len() == 0
	case reflect.Struct:
		for i := range v.NumField() {
			if !isZero(v.Field(i)) {
				return false
			}
		}
		return true
	}
	return v.IsZero()
}

func mayCall(c api.Call) bool {
	fields := " " + strings.Join(has[c.Kind], " ") + " "
	v := reflect.ValueOf(c)
	for i := range v.NumField() {
		name := v.Type().Field(i).Name
		switch {
		case name == "Kind":
		case strings.Contains(fields, " "+name+" "):
			if !holds(c, name) {
				return false
			}
		case !isZero(v.Field(i)):
			return false
		}
	}
	return in(c.Kind, 1, 9)
}

func mayAnswer(a api.Answer) bool {
	if a.Err != 0 {
		rest := a
		rest.Err = 0
		return in(int(a.Err), 1, 16) && isZero(reflect.ValueOf(rest))
	}
	all := 0
	for _, x := range a.Items {
		if !isWide(x.Number) || !isWide(x.Nonce) || !isAddress(x.From) || !in(len(x.Bytes), 1, mostItem) {
			return false
		}
		all += len(x.Bytes)
	}
	return (isZeroList(a.List) || mayList(a.List)) && (a.Bundle == (api.Bundle{}) || mayBundle(a.Bundle)) &&
		len(a.Items) <= 8 && all <= mostTake && len(a.Bytes) <= mostItem && in(a.Left, 0, mostOnces)
}

// cursor goes through bytes; once something is not there it says so for good.
type cursor struct {
	s    string
	gone bool
}

func (c *cursor) take(n uint64) string {
	if c.gone || n > uint64(len(c.s)) {
		c.gone = true
		return ""
	}
	out := c.s[:n]
	c.s = c.s[n:]
	return out
}

func (c *cursor) number(size int) uint64 {
	v := uint64(0)
	for _, b := range []byte(c.take(uint64(size))) {
		v = v<<8 + uint64(b)
	}
	return v
}

func (c *cursor) small() int { return int(c.number(1)) }

func (c *cursor) text() string { return c.take(c.number(4)) }

// whole tells whether all was there, and nothing is behind it.
func (c *cursor) whole() bool { return !c.gone && c.s == "" }

func readList(s string) (api.List, bool) {
	r := &cursor{s: s}
	l := api.List{User: r.small(), Version: int(r.number(4)), Account: r.text()}
	for range r.small() {
		l.Devices = append(l.Devices, api.Member{Device: r.small(), Sign: r.text(), Dh: r.text()})
	}
	l.Sig = r.text()
	return l, r.whole() && mayList(l)
}

func readBundle(s string) (api.Bundle, bool) {
	r := &cursor{s: s}
	b := api.Bundle{User: r.small(), Device: r.small(), Sign: r.text(), Dh: r.text(), PreId: int(r.number(4)), Pre: r.text(), PreSig: r.text(), OnceId: int(r.number(4)), Once: r.text()}
	return b, r.whole() && mayBundle(b)
}

// readCall is what is to be answered by DecodeCall.
func readCall(s string) (uint64, api.Call, api.Errno) {
	r, within := &cursor{s: s}, true
	id, c := r.number(8), api.Call{Kind: r.small()}
	switch c.Kind {
	case 1:
		c.User = r.small()
	case 2:
		c.User, c.Device = r.small(), r.small()
	case 3:
		c.List, within = readList(r.text())
	case 4:
		c.Bundle, within = readBundle(r.text())
		c.Index = int(r.number(4))
		for range r.small() {
			c.Onces = append(c.Onces, r.text())
		}
	case 5:
		c.To, c.Nonce, c.Bytes = r.small(), r.number(8), r.text()
	case 6, 7:
		c.After = r.number(8)
	case 8:
		c.Name, c.Index, c.Bytes = r.text(), r.small(), r.text()
	case 9:
		c.Name, c.Index = r.text(), r.small()
	}
	if len(s) > mostBytes || !within || !r.whole() || !mayCall(c) {
		return 0, api.Call{}, api.ErrForm
	}
	return id, c, api.OK
}

// readAnswer is what is to be answered by DecodeAnswer.
func readAnswer(s string) (uint64, api.Answer, api.Errno) {
	r, isList, isBundle := &cursor{s: s}, true, true
	id, a := r.number(8), api.Answer{Err: api.Errno(r.small())}
	if l := r.text(); l != "" {
		a.List, isList = readList(l)
	}
	if b := r.text(); b != "" {
		a.Bundle, isBundle = readBundle(b)
	}
	for range r.small() {
		a.Items = append(a.Items, api.Item{Number: r.number(8), From: r.small(), Nonce: r.number(8), Bytes: r.text()})
	}
	a.Bytes, a.Left = r.text(), r.small()
	if len(s) > mostBytes || !isList || !isBundle || !r.whole() || !mayAnswer(a) {
		return 0, api.Answer{}, api.ErrForm
	}
	return id, a, api.OK
}
