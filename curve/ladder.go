package curve

import "missive/field"

// X25519 tells the x of so many times the point with the x that u says.
func X25519(secret, u string) string {
	if len(secret) != size || len(u) != size {
		return ""
	}
	rest, _ := withoutTop(u)
	return ladder(clamped(secret), modulo(rest)).Bytes()
}

// clamped tells the number of a secret: a multiple of 8, with its highest bit but one.
func clamped(secret string) string {
	out := []byte(secret)
	out[0] &^= 7
	out[size-1] = out[size-1]&^top | 0x40
	return string(out)
}

// modulo is the element of any 32 bytes: other than field's, their number may be p at least.
func modulo(s string) field.Element {
	var out field.Element
	for i := range size {
		out = out.Mul(field.Small(256)).Add(field.Small(uint32(s[size-1-i])))
	}
	return out
}

// fraction is the x of a point, as x/z; of the point without x, z is 0.
type fraction struct {
	x, z field.Element
}

// ladder is the x of k times a point with the x u. It keeps two multiples that follow one another: their sum is told by their x alone, as that of their difference is u.
func ladder(k string, u field.Element) field.Element {
	sum := func(a, b fraction) fraction {
		c, d := a.x.Add(a.z).Mul(b.x.Sub(b.z)), a.x.Sub(a.z).Mul(b.x.Add(b.z))
		return fraction{squared(c.Add(d)), squared(c.Sub(d)).Mul(u)}
	}
	now, next := fraction{x: field.Small(1)}, fraction{u, field.Small(1)}
	for i := range count {
		if bit(k, count-1-i) {
			now, next = sum(now, next), next.doubled()
		} else {
			now, next = now.doubled(), sum(now, next)
		}
	}
	// Inv of 0 is 0, and so is the answer for the point without x.
	return now.x.Mul(now.z.Inv())
}

// doubled is the x of the sum of a point with itself.
func (a fraction) doubled() fraction {
	more, less := squared(a.x.Add(a.z)), squared(a.x.Sub(a.z))
	apart := more.Sub(less)
	return fraction{more.Mul(less), apart.Mul(more.Add(apart.Mul(field.Small(upper))))}
}
