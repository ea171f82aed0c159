package store_test

import (
	"fmt"
	"math/rand"
	"slices"
	"strings"
	"testing"

	"missive/api"
	"missive/disk"
	"missive/store"
)

// plain is a store in the document's own words: what its rows are is read out of the log each time, and nothing is reckoned ahead.
type plain struct {
	disk *disk.Disk
	rows []api.Row // in the order of their keys
}

// with is what a change makes of rows.
func with(all []api.Row, puts []api.Row, dels []string) []api.Row {
	out := slices.Clone(all)
	gone := func(key string) {
		out = slices.DeleteFunc(out, func(row api.Row) bool { return row.Key == key })
	}
	for _, row := range puts {
		gone(row.Key)
		out = append(out, row)
	}
	for _, key := range dels {
		gone(key)
	}
	slices.SortFunc(out, func(a, b api.Row) int { return strings.Compare(a.Key, b.Key) })
	return out
}

func (p *plain) lay(frames string) api.Errno {
	if _, e := p.disk.Read("n"); e == api.OK {
		if e := p.disk.Remove("n"); e != api.OK {
			return e
		}
	}
	if e := p.disk.Append("n", frames); e != api.OK {
		return e
	}
	if e := p.disk.Sync("n"); e != api.OK {
		return e
	}
	return p.disk.Rename("n", "s")
}

func (p *plain) pack() api.Errno {
	e := p.lay(packedBy(p.rows))
	if e == api.ErrFull {
		p.disk.Remove("n")
	}
	return e
}

func (p *plain) do(puts []api.Row, dels []string) api.Errno {
	count := len(puts) + len(dels)
	keys := slices.Clone(dels)
	for _, row := range puts {
		keys = append(keys, row.Key)
	}
	if slices.Contains(keys, "") {
		return api.ErrArg
	}
	if count > 64 || slices.ContainsFunc(keys, func(key string) bool { return len(key) > 64 }) {
		return api.ErrLong
	}
	if count == 0 {
		return api.OK
	}
	if s, _ := p.disk.Read("s"); len(s) > 1024+2*len(packedBy(p.rows)) {
		if e := p.pack(); e != api.OK && e != api.ErrFull {
			return e
		}
	}
	e := p.disk.Append("s", frame(puts, dels...))
	if e == api.ErrFull {
		if e = p.pack(); e != api.OK {
			return e
		}
		e = p.disk.Append("s", frame(puts, dels...))
	}
	if e != api.OK {
		return e
	}
	if e := p.disk.Sync("s"); e != api.OK {
		return e
	}
	p.rows = with(p.rows, puts, dels)
	return api.OK
}

// step is something that happens to a store.
type step struct {
	kind   string
	puts   []api.Row
	dels   []string
	number int
	keep   []int
}

// anyStep is one of those that a walk takes.
func anyStep(r *rand.Rand) step {
	kinds := []string{"do", "do", "do", "do", "do", "do", "do", "do", "do", "pack", "arm", "wake"}
	s := step{kind: kinds[r.Intn(len(kinds))], number: r.Intn(12)}
	key := func() string {
		if r.Intn(60) == 0 {
			return []string{"", long(65)}[r.Intn(2)]
		}
		return []string{"a", "b", "ab", "\xff", "\x00", long(64)}[r.Intn(6)] + fmt.Sprint(r.Intn(40))[:r.Intn(2)]
	}
	for range r.Intn(4) {
		s.puts = append(s.puts, api.Row{Key: key(), Value: long(r.Intn(30) * r.Intn(4))})
	}
	for range r.Intn(4) {
		s.dels = append(s.dels, key())
	}
	if r.Intn(100) == 0 {
		s.puts = make([]api.Row, 60+r.Intn(8))
		for i := range s.puts {
			s.puts[i].Key = fmt.Sprint("m", i)
		}
	}
	for range 3 {
		s.keep = append(s.keep, r.Intn(400)-100)
	}
	return s
}

// sameDisk holds the store's disk against that of the plain one.
func sameDisk(d, p *disk.Disk) string {
	tell := func(d *disk.Disk) string {
		out := fmt.Sprint(d.Down(), d.Free(), d.List(""))
		for _, name := range []string{"n", "s"} {
			s, e := d.Read(name)
			out += fmt.Sprintf(" %q %d %d", s, e, d.Synced(name))
		}
		return out
	}
	a, b := tell(d), tell(p)
	if a != b {
		return a + " in the place of " + b
	}
	if a, b := fmt.Sprint(d.Sizes()), fmt.Sprint(p.Sizes()); a != b {
		return a + " in the place of " + b
	}
	return ""
}

// A walk of changes, losses of power and wakings, on disks of much and of little room: answers, rows and the disks' bytes and operations are as the document says, and rows are never others than those of a change that was wholly done, or not at all.
func TestWalksAsTheDocumentSays(t *testing.T) {
	steps := 0
	for seed := range 90 {
		steps += walk(t, seed)
	}
	if steps < 20000 {
		t.Errorf("disks were full behind %d steps in all", steps)
	}
}

// walk takes the steps of that number, till all are taken, or there is no room to lay a log anew of which a part was lost; it tells how many it took.
func walk(t *testing.T, seed int) int {
	const most = 400
	r := rand.New(rand.NewSource(int64(seed)))
	d := disk.New([]int{300, 800, 1500, 3000, 6000, 1 << 20}[seed%6] + r.Intn(200))
	s, p := opened(t, d), &plain{disk: d.Copy()}
	for i := range most {
		x := anyStep(r)
		ahead, behind := p.rows, p.rows
		var got, want api.Errno
		switch x.kind {
		case "do":
			got, want = s.Do(x.puts, x.dels), p.do(x.puts, x.dels)
			if got == api.ErrDown {
				behind = with(ahead, x.puts, x.dels)
			}
		case "pack":
			got, want = s.Pack(), p.pack()
		case "arm":
			got, want = d.Arm(x.number), p.disk.Arm(x.number)
		}
		if diff := sameDisk(d, p.disk); got != want || diff != "" {
			t.Fatalf("walk %d, step %d, %+v: %d in the place of %d; %s", seed, i, x, got, want, diff)
		}
		if now := told(t, s); !slices.Equal(now, p.rows) {
			t.Fatalf("walk %d, step %d, %+v: %v in the place of %v", seed, i, x, now, p.rows)
		}
		if x.kind != "wake" && !d.Down() {
			continue
		}
		fine(t, d.Wake(x.keep))
		again, e := store.Open(d)
		if log, _ := d.Read("s"); e == api.ErrFull && len(log) > d.Free() {
			return i
		}
		fine(t, e)
		s, p = again, &plain{d.Copy(), told(t, again)}
		if !slices.Equal(p.rows, ahead) && !slices.Equal(p.rows, behind) {
			t.Fatalf("walk %d, step %d, %+v: opened anew %v, which was %v, or %v", seed, i, x, p.rows, ahead, behind)
		}
	}
	return most
}

// R6
func TestSameStepsSameAnswers(t *testing.T) {
	run := func() string {
		r := rand.New(rand.NewSource(7))
		d, s := fresh(t, 1<<20)
		var b strings.Builder
		for range 300 {
			x := anyStep(r)
			fmt.Fprintln(&b, s.Do(x.puts, x.dels), told(t, s))
			if x.kind == "pack" {
				fmt.Fprintln(&b, s.Pack())
			}
			log, _ := d.Read("s")
			fmt.Fprintf(&b, "%q\n", log)
		}
		return b.String()
	}
	first := run()
	for range 5 {
		if run() != first {
			t.Fatal("other answers to the same steps")
		}
	}
}

// history are changes by which rows come, change and go; on a disk of the room that the tests give it some of them pack the log, since it is long, and some, since the disk is full.
func history() []step {
	var out []step
	for i := range 14 {
		key := fmt.Sprint("k", i%3)
		out = append(out, step{puts: rows(key, long(20*i), "last", fmt.Sprint(i)), dels: []string{fmt.Sprint("k", (i+1)%4)}})
	}
	return out
}

// P12.5: the power goes at each operation of a history; whatever is kept of what was not synced, the store has the rows of the last change that was answered OK, or those of the one that was under way.
func TestLossOfPower(t *testing.T) {
	for _, room := range []int{1500, 1 << 20} {
		packs := 0
		for after := 1; ; after++ {
			d, s := fresh(t, room)
			fine(t, d.Arm(after))
			var ahead, behind []api.Row
			for _, x := range history() {
				behind = with(ahead, x.puts, x.dels)
				e := s.Do(x.puts, x.dels)
				if d.Down() {
					is(t, "Do", e, api.ErrDown)
					break
				}
				fine(t, e)
				ahead = behind
			}
			if !d.Down() {
				break
			}
			for keep := range 60 {
				packs += opensAnew(t, d.Copy(), []int{keep * 7, keep * 7}, ahead, behind)
			}
			opensAnew(t, d.Copy(), nil, ahead, behind)
			opensAnew(t, d.Copy(), []int{-1, -1}, ahead, behind)
			if t.Failed() {
				t.Fatalf("the power goes at %d", after)
			}
		}
		if packs == 0 {
			t.Errorf("room %d: the power never went while the log was laid anew", room)
		}
	}
}

// opensAnew holds what a store has behind a loss of power against both that it may have, and the power goes again at each operation while it is opened. It tells 1, if a log was under way to be laid anew.
func opensAnew(t *testing.T, d *disk.Disk, keep []int, ahead, behind []api.Row) int {
	t.Helper()
	fine(t, d.Wake(keep))
	left := len(d.List("n"))
	for after := 1; ; after++ {
		c := d.Copy()
		fine(t, c.Arm(after))
		s, e := store.Open(c)
		if c.Down() {
			is(t, "Open", e, api.ErrDown)
			fine(t, c.Wake([]int{after * 3, after * 5}))
			s, e = store.Open(c)
		}
		if log, _ := c.Read("s"); e == api.ErrFull && len(log) > c.Free() {
			return left // there is no room to lay it anew
		}
		fine(t, e)
		now := told(t, s)
		if !slices.Equal(now, ahead) && !slices.Equal(now, behind) {
			t.Errorf("%v, which was %v, or %v", now, ahead, behind)
		}
		fine(t, c.Arm(0))
		if e := s.Do(rows("more", "x"), nil); e != api.OK {
			is(t, "Do", e, api.ErrFull)
			return left
		}
		is(t, "what it says, opened anew", fmt.Sprint(told(t, opened(t, c))), fmt.Sprint(with(now, rows("more", "x"), nil)))
		if after == 5 { // no Open does more operations than four
			return left
		}
	}
}

// P12.6: whatever a store says, it says opened anew, packed or not; and its keys are in order, each once.
func TestOpenedAnewItSaysTheSame(t *testing.T) {
	r := rand.New(rand.NewSource(1))
	d, s := fresh(t, 1<<24)
	var want []api.Row
	for i := range 500 {
		var puts []api.Row
		var dels []string
		for range 1 + r.Intn(32) {
			key := make([]byte, 1+r.Intn(2))
			r.Read(key)
			value := make([]byte, r.Intn(9))
			r.Read(value)
			puts = append(puts, api.Row{Key: string(key), Value: string(value)})
			dels = append(dels, string(key[:1]))
		}
		dels = dels[:r.Intn(len(dels)+1)]
		fine(t, s.Do(puts, dels))
		want = with(want, puts, dels)
		if i%10 == 0 {
			fine(t, s.Pack())
		}
		now := told(t, s)
		if !slices.Equal(now, want) || !slices.Equal(told(t, opened(t, d)), want) {
			t.Fatalf("step %d: %d rows in the place of %d", i, len(now), len(want))
		}
		for j := 1; j < len(now); j++ {
			if now[j-1].Key >= now[j].Key {
				t.Fatalf("step %d: %q stands ahead of %q", i, now[j-1].Key, now[j].Key)
			}
		}
		if i%7 == 0 {
			s = opened(t, d)
		}
	}
}

// Many rows, and great ones, are gone through in time.
func TestMuch(t *testing.T) {
	d, s := fresh(t, 1<<30)
	puts := make([]api.Row, 64)
	for i := range puts {
		puts[i] = api.Row{Key: fmt.Sprint("great", i), Value: strings.Repeat("v", api.MaxValue)}
	}
	for range 4 {
		fine(t, s.Do(puts, nil))
	}
	for i := range 20000 {
		fine(t, s.Do(rows(fmt.Sprint(i), "x"), nil))
	}
	is(t, "Len", s.Len(), 20064)
	s = opened(t, d)
	is(t, "Len", s.Len(), 20064)
	for i := range puts {
		v, ok := s.Get(puts[i].Key)
		is(t, "a great row is there", ok && v == puts[i].Value, true)
	}
	fine(t, s.Pack())
	is(t, "Len", opened(t, d).Len(), 20064)
}
