package session

import "missive/wire"

// Who began a session, as one of its sides sees it: in a message the writer, in a row the device.
const (
	byOneself = 0
	byOther   = 1
)

const (
	beganSize   = 1    // bytes of who began
	addressSize = 2    // bytes of an address
	idSize      = 4    // bytes of an id
	mostFirst   = 1000 // bytes of a first part in a message
)

// envelope is what stands ahead of a ratchet's message.
type envelope struct {
	began int // as the writer sees it
	first first
}

// first is a first part: how a session began.
type first struct {
	said          bool   // it is empty, where the other side knows that it began
	public        string // the key that the beginner made for it
	preId, onceId int    // of the other one's keys; 0: no once key
}

func began(mine bool) int {
	if mine {
		return byOneself
	}
	return byOther
}

func (v envelope) bytes() string { return number(beganSize, v.began) + laid(v.first.bytes()) }

// ad is what a message is bound to: nobody can bring it to another device, or back, or change what stands ahead of it.
func (v envelope) ad(writer, reader int) string {
	return number(addressSize, writer) + number(addressSize, reader) + v.bytes()
}

func (f first) bytes() string {
	if !f.said {
		return ""
	}
	return laid(f.public) + number(idSize, f.preId) + number(idSize, f.onceId)
}

// parted tells what stands ahead of a ratchet's message, and that message. How a session began that its reader began, nobody says.
func parted(in string) (v envelope, sealed string, ok bool) {
	r := wire.New(in)
	side, isSide := r.Number(beganSize)
	bytes, isText := r.Text(mostFirst)
	begun, isFirst := firstOf(bytes)
	if !isSide || !isText || !isFirst || side > byOther || side == byOther && begun.said {
		return envelope{}, "", false
	}
	return envelope{began: int(side), first: begun}, in[len(in)-r.Left():], true
}

// firstOf tells the first part whose bytes s is.
func firstOf(s string) (f first, ok bool) {
	if s == "" {
		return first{}, true
	}
	r, there := wire.New(s), true
	takeId := func() int {
		v, ok := r.Number(idSize)
		there = there && ok
		return int(v)
	}
	public, isPublic := r.Text(len(s))
	f = first{said: true, public: public, preId: takeId(), onceId: takeId()}
	if !isPublic || !there || r.Left() != 0 {
		return first{}, false
	}
	return f, true
}

// number lays one that is not below 0.
func number(size, v int) string { return wire.PutNumber("", size, uint64(v)) }
