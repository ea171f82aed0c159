package store

import (
	"strings"

	"missive/api"
	"missive/wire"
)

const (
	most      = 64 // puts and dels of a change
	countSize = 2  // bytes of the number of puts, and of that of dels
	textHead  = 4  // bytes ahead of a text
	frameHead = textHead + 2*countSize
)

// change is what happens to rows together: first the puts, then the dels.
type change struct {
	puts []api.Row
	dels []string
}

// count tells how many puts and dels there are.
func (c change) count() int { return len(c.puts) + len(c.dels) }

// keys goes through the keys of the puts, and of the dels.
func (c change) keys(yield func(string) bool) {
	for _, row := range c.puts {
		if !yield(row.Key) {
			return
		}
	}
	for _, key := range c.dels {
		if !yield(key) {
			return
		}
	}
}

// refused tells why the change may not be; OK, if it may, or if there is nothing in it.
func (c change) refused() api.Errno {
	long := c.count() > most
	for key := range c.keys {
		if key == "" {
			return api.ErrArg
		}
		long = long || len(key) > api.MaxRow
	}
	for _, row := range c.puts {
		long = long || len(row.Value) > api.MaxValue
	}
	if long {
		return api.ErrLong
	}
	return api.OK
}

// rowSize tells how many bytes a put of the row has in a frame.
func rowSize(row api.Row) int { return textHead + len(row.Key) + textHead + len(row.Value) }

// frame tells the change as bytes. It is put together piece by piece, since values may be long.
func (c change) frame() string {
	var body strings.Builder
	body.WriteString(wire.PutNumber("", countSize, uint64(len(c.puts))))
	for _, row := range c.puts {
		body.WriteString(wire.PutText("", row.Key))
		body.WriteString(wire.PutText("", row.Value))
	}
	body.WriteString(wire.PutNumber("", countSize, uint64(len(c.dels))))
	for _, key := range c.dels {
		body.WriteString(wire.PutText("", key))
	}
	return wire.PutText("", body.String())
}

// changeOf tells the change whose frame has that body.
func changeOf(body string) (change, bool) {
	r, whole := wire.New(body), true
	text := func() string {
		s, ok := r.Text(api.MaxValue)
		whole = whole && ok
		return s
	}
	count := func() uint64 {
		n, ok := r.Number(countSize)
		whole = whole && ok
		return n
	}
	var c change
	for n := count(); n > 0 && whole; n-- {
		key := text()
		c.puts = append(c.puts, api.Row{Key: key, Value: text()})
	}
	for n := count(); n > 0 && whole; n-- {
		c.dels = append(c.dels, text())
	}
	if !whole || r.Left() > 0 || c.count() == 0 || c.refused() != api.OK {
		return change{}, false
	}
	return c, true
}
