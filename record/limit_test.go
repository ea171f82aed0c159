package record

import (
	"strings"
	"testing"

	"missive/api"
	"missive/prim"
)

// Nobody seals 2^40 frames to see that there are no more: this alone looks inside.

func TestMostFrames(t *testing.T) {
	for _, kit := range []int{api.KitReal, api.KitTerm} {
		p, e := prim.New(kit)
		if e != api.OK {
			t.Fatal(e)
		}
		x, y := p.Secret(strings.Repeat("x", 32)), p.Secret(strings.Repeat("y", 32))
		a, b := Open(p, x, y), Open(p, y, x)
		a.sending.last = 1<<40 - 2
		var last string
		for _, want := range []string{"\x00\x00\x00\xff\xff\xff\xff\xff", "\x00\x00\x01\x00\x00\x00\x00\x00"} {
			f, e := a.Seal("t")
			if e != api.OK || len(f) < 8 || f[:8] != want {
				t.Fatalf("kit %d: %x, %d; want %x ahead", kit, f, e, want)
			}
			if s, e := b.Take(f); s != "t" || e != api.OK || b.Seen() != a.Sent() {
				t.Errorf("kit %d: Take: %q, %d; %d", kit, s, e, b.Seen())
			}
			last = f
		}
		deeds := len(p.Journal())
		for _, text := range []string{"", "t", "u", strings.Repeat("x", api.MaxBytes+1)} {
			for _, r := range []*Record{a, a.Copy(p)} {
				if f, e := r.Seal(text); f != "" || e != api.ErrLong || r.Sent() != 1<<40 {
					t.Errorf("kit %d: 2^40 were sealed: %x, %d; %d", kit, f, e, r.Sent())
				}
			}
		}
		bad := Open(p, "short", "short") // ErrLong is named ahead of prim's errors
		bad.sending.last = 1 << 40
		if f, e := bad.Seal(""); f != "" || e != api.ErrLong {
			t.Errorf("kit %d: a key that is none: %x, %d", kit, f, e)
		}
		if n := len(p.Journal()); n != deeds {
			t.Errorf("kit %d: %d deeds of what was refused", kit, n-deeds)
		}
		if s, e := b.Take(last); s != "" || e != api.ErrStale {
			t.Errorf("kit %d: the last one again: %q, %d", kit, s, e)
		}
		// One who seals no more still takes.
		back, e := b.Seal("back")
		if e != api.OK || b.Sent() != 1 {
			t.Errorf("kit %d: the other direction: %d", kit, e)
		}
		if s, e := a.Take(back); s != "back" || e != api.OK || a.Seen() != 1 {
			t.Errorf("kit %d: the other direction: %q, %d", kit, s, e)
		}
	}
}
