// Package wire is layer 1: numbers and texts as bytes; see shared/doc/01-wire.md.
package wire

const (
	widest   = 8 // bytes of the widest number
	headSize = 4 // bytes of the number ahead of a text
	digits   = "0123456789abcdef"
)

// Reader goes through bytes from the first one on.
type Reader struct {
	made bool // by New: a reader of no bytes is still told from none
	left []byte
}

// cutter tells the n bytes behind the next skip ones, and takes none of them.
type cutter func(skip, n int) ([]byte, bool)

// New makes a reader of s.
func New(s string) *Reader { return &Reader{made: true, left: []byte(s)} }

// Number takes a number of that width.
func (r *Reader) Number(bytes int) (uint64, bool) {
	v, ok := number(r.look(), bytes)
	if ok {
		r.drop(bytes)
	}
	return v, ok
}

// Text takes a text of at most that many bytes.
func (r *Reader) Text(most int) (string, bool) {
	s, ok := text(r.look(), most)
	if ok {
		r.drop(headSize + len(s))
	}
	return s, ok
}

// Take takes the next n bytes.
func (r *Reader) Take(n int) (string, bool) {
	piece, ok := r.look()(0, n)
	if ok {
		r.drop(n)
	}
	return string(piece), ok
}

// Left tells how many bytes are not taken yet.
func (r *Reader) Left() int {
	if r == nil {
		return 0
	}
	return len(r.left)
}

// look is the one way by which the calls come to the bytes: what is amiss with a reader is told there alone.
func (r *Reader) look() cutter { return r.cut }

// cut leaves no room behind what it tells, so that nothing can be appended over the bytes that follow.
func (r *Reader) cut(skip, n int) ([]byte, bool) {
	if r == nil || !r.made || skip < 0 || skip > len(r.left) || n < 0 || n > len(r.left)-skip {
		return nil, false
	}
	end := skip + n
	return r.left[skip:end:end], true
}

// drop is called with what cut told already, so that as many bytes are there.
func (r *Reader) drop(n int) { r.left = r.left[n:] }

// number tells the number of that width that comes next.
func number(cut cutter, width int) (uint64, bool) {
	if width < 1 || width > widest {
		return 0, false
	}
	v := uint64(0)
take:
	for at := 0; ; at++ {
		switch piece, ok := cut(at, 1); {
		case at == width:
			break take
		case !ok:
			return 0, false
		default:
			v = v<<8 | uint64(piece[0])
		}
	}
	return v, true
}

// text tells the text that comes next. Its length is held against most ahead of becoming an int, in which it might not fit.
func text(cut cutter, most int) (string, bool) {
	size, ok := number(cut, headSize)
	if !ok || most < 0 || size > uint64(most) {
		return "", false
	}
	piece, ok := cut(headSize, int(size))
	return string(piece), ok
}

// PutNumber lays v behind b, as a number of that width.
func PutNumber(b string, bytes int, v uint64) string {
	width := min(max(bytes, 1), widest)
	out := make([]byte, 0, len(b)+width)
	out = append(out, b...)
	for place := width - 1; place >= 0; place-- {
		out = append(out, byte(v>>(8*place)))
	}
	return string(out)
}

// PutText lays s behind b, with its length ahead.
func PutText(b, s string) string { return PutNumber(b, headSize, uint64(len(s))) + s }

// Hex tells the digits of s.
func Hex(s string) string {
	out := make([]byte, 0, 2*len(s))
	for i := range len(s) {
		out = append(out, digits[s[i]>>4], digits[s[i]&15])
	}
	return string(out)
}

// Unhex tells the bytes whose digits s is.
func Unhex(s string) (string, bool) {
	if len(s)%2 != 0 {
		return "", false
	}
	out := make([]byte, 0, len(s)/2)
	for i := 0; i < len(s); i += 2 {
		high, isHigh := half(s[i])
		low, isLow := half(s[i+1])
		if !isHigh || !isLow {
			return "", false
		}
		out = append(out, high<<4|low)
	}
	return string(out), true
}

// half tells what a digit stands for. Greater letters are refused, so that bytes have one spelling only.
func half(c byte) (byte, bool) {
	switch {
	case c >= '0' && c <= '9':
		return c - '0', true
	case c >= 'a' && c <= 'f':
		return c - 'a' + 10, true
	}
	return 0, false
}
