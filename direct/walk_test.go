package direct_test

import (
	"fmt"
	"math"
	"math/rand"
	"reflect"
	"slices"
	"strings"
	"testing"

	"missive/api"
	"missive/direct"
	"missive/prim"
)

// book is the directory in the document's own words, without a store.
type book struct {
	p        *prim.Prim
	lists    map[int]api.List       // by users
	bundles  map[int]api.Bundle     // by addresses
	greatest map[int]int            // by addresses: the greatest id of a once key
	onces    map[int]map[int]string // by addresses, and by ids
}

func newBook(p *prim.Prim) *book {
	return &book{p: p, lists: map[int]api.List{}, bundles: map[int]api.Bundle{}, greatest: map[int]int{}, onces: map[int]map[int]string{}}
}

func sorted(l []string) []string {
	slices.Sort(l)
	return l
}

// leastOf is the least id of an address' once keys; 0, if there are none.
func (k *book) leastOf(address int) int {
	least := 0
	for id := range k.onces[address] {
		if least == 0 || id < least {
			least = id
		}
	}
	return least
}

// do is a call that the table says something of.
func (k *book) do(from int, c api.Call) api.Answer {
	switch c.Kind {
	case api.CallList:
		l, ok := k.lists[c.User]
		if !ok {
			return api.Answer{Err: api.ErrNone}
		}
		return api.Answer{List: l}
	case api.CallBundle:
		return k.bundle(c)
	case api.CallEnter:
		return api.Answer{Err: k.enter(from, c.List)}
	case api.CallStock:
		return k.stock(from, c)
	}
	return api.Answer{Err: api.ErrArg}
}

func (k *book) bundle(c api.Call) api.Answer {
	on := false
	for _, m := range k.lists[c.User].Devices {
		on = on || m.Device == c.Device
	}
	address := 2 + 2*c.User + c.Device
	b, ok := k.bundles[address]
	if !on || !ok {
		return api.Answer{Err: api.ErrNone}
	}
	if id := k.leastOf(address); id > 0 {
		b.OnceId, b.Once = id, k.onces[address][id]
		delete(k.onces[address], id)
	}
	return api.Answer{Bundle: b, Left: len(k.onces[address])}
}

func (k *book) enter(from int, l api.List) api.Errno {
	was, ok := k.lists[l.User]
	switch {
	case !listMayBe(l) || from != 2+2*l.User && from != 3+2*l.User:
		return api.ErrArg
	case !k.p.Verify(l.Account, textOf(l), l.Sig):
		return api.ErrSign
	case ok && bytesOf(was) == bytesOf(l):
		return api.OK
	case ok && was.Account != l.Account:
		return api.ErrKey
	case ok && l.Version != was.Version+1, !ok && l.Version != 1:
		return api.ErrStale
	}
	for device := range 2 {
		old, there := memberOf(was, device)
		if now, is := memberOf(l, device); there && (!is || now != old) {
			address := 2 + 2*l.User + device
			delete(k.bundles, address)
			delete(k.greatest, address)
			delete(k.onces, address)
		}
	}
	k.lists[l.User] = l
	return api.OK
}

func memberOf(l api.List, device int) (api.Member, bool) {
	for _, m := range l.Devices {
		if m.Device == device {
			return m, true
		}
	}
	return api.Member{}, false
}

func listMayBe(l api.List) bool {
	ok := l.User >= 0 && l.User < 3 && l.Version >= 1 && l.Version <= 1<<30 && l.Account != "" && l.Sig != "" && len(l.Devices) <= 2
	for i, m := range l.Devices {
		ok = ok && m.Device >= 0 && m.Device < 2 && m.Sign != "" && m.Dh != "" && (i == 0 || m.Device > l.Devices[i-1].Device)
	}
	return ok
}

func (k *book) stock(from int, c api.Call) api.Answer {
	b := c.Bundle
	ok := b.User >= 0 && b.User < 3 && b.Device >= 0 && b.Device < 2 && b.Sign != "" && b.Dh != "" && b.PreId >= 1 && b.PreId <= 1<<30 &&
		b.Pre != "" && b.PreSig != "" && b.OnceId == 0 && b.Once == "" && len(c.Onces) <= 20 && !slices.Contains(c.Onces, "") &&
		c.Index >= 1 && c.Index <= 1<<30 && c.Index+len(c.Onces) <= 1<<30 && from == 2+2*b.User+b.Device
	if !ok {
		return api.Answer{Err: api.ErrArg}
	}
	if m, ok := memberOf(k.lists[b.User], b.Device); !ok || m.Sign != b.Sign || m.Dh != b.Dh {
		return api.Answer{Err: api.ErrNone}
	}
	if !k.p.Verify(b.Sign, "pre"+number(4, b.PreId)+texts(b.Pre), b.PreSig) {
		return api.Answer{Err: api.ErrSign}
	}
	k.bundles[from] = b
	if k.onces[from] == nil {
		k.onces[from] = map[int]string{}
	}
	for i, once := range c.Onces {
		if c.Index+i > k.greatest[from] && len(k.onces[from]) < 20 {
			k.onces[from][c.Index+i] = once
			k.greatest[from] = c.Index + i
		}
	}
	return api.Answer{Left: len(k.onces[from])}
}

// rows are those that a directory's store has then.
func (k *book) rows() []api.Row {
	var out []api.Row
	for user, l := range k.lists {
		out = append(out, api.Row{Key: fmt.Sprint("l", user), Value: bytesOf(l)})
	}
	for address, b := range k.bundles {
		out = append(out, api.Row{Key: fmt.Sprintf("b%02d", address), Value: bundleBytes(b)})
	}
	for address, id := range k.greatest {
		out = append(out, api.Row{Key: fmt.Sprintf("m%02d", address), Value: number(4, id)})
	}
	for address, onces := range k.onces {
		for id, once := range onces {
			out = append(out, api.Row{Key: fmt.Sprintf("o%02d%010d", address, id), Value: once})
		}
	}
	return inOrder(out)
}

// crowd are those who use a directory in a walk, with their keys.
type crowd struct {
	x        *town
	r        *rand.Rand
	accounts []signer
	signers  []signer
	lists    map[int]api.List // the last one of each user that may have been entered
	onces    int
}

func newCrowd(x *town, seed int64) *crowd {
	c := &crowd{x: x, r: rand.New(rand.NewSource(seed)), lists: map[int]api.List{}}
	for i := range 4 {
		c.accounts = append(c.accounts, x.signer(byte(10+i)))
		c.signers = append(c.signers, x.signer(byte(20+i)))
	}
	return c
}

// mostly is v, but now and then another one.
func (c *crowd) mostly(v int, others ...int) int {
	if c.r.Intn(12) == 0 {
		return others[c.r.Intn(len(others))]
	}
	return v
}

// call is any call, and from where it comes.
func (c *crowd) call() (int, api.Call) {
	user := c.r.Intn(3)
	switch c.r.Intn(12) {
	case 0:
		return c.r.Intn(12) - 1, ask(c.mostly(user, -1, 3, math.MinInt))
	case 1, 2, 3, 4:
		return c.r.Intn(12) - 1, fetch(c.mostly(user, -1, 3), c.mostly(c.r.Intn(2), -1, 2, 3))
	case 5, 6:
		return c.newList(user)
	case 7:
		return c.mostly(2+2*user+c.r.Intn(2), 0, 1, 8), enter(c.lists[user])
	case 8:
		return 2 + 2*user, api.Call{Kind: c.mostly(0, -1, 5, 6, 7, 8, 9, 10)}
	}
	return c.published(user)
}

// newList is mostly the next list of a user.
func (c *crowd) newList(user int) (int, api.Call) {
	account := c.accounts[c.mostly(user, 0, 1, 3)]
	l := api.List{User: c.mostly(user, -1, 0, 2, 3), Version: c.mostly(c.lists[user].Version+1, 0, 1, 2, c.lists[user].Version, c.lists[user].Version+2), Account: account.public}
	for device := range 2 {
		if c.r.Intn(4) > 0 {
			l.Devices = append(l.Devices, member(c.mostly(device, 0, 1, 2), c.signers[c.mostly(user, 3)], fmt.Sprint("dh", device)))
		}
	}
	l = c.x.signed(account, l)
	if c.r.Intn(20) == 0 {
		l.Sig = c.x.sign(c.accounts[3], "something")
	}
	from := c.mostly(2+2*user+c.r.Intn(2), 1, 2, 5, 7, 8)
	if from/2 == 1+user && l.User == user && listMayBe(l) && c.x.p.Copy().Verify(l.Account, textOf(l), l.Sig) && l.Account == c.accounts[user].public && l.Version == c.lists[user].Version+1 {
		c.lists[user] = l
	}
	return from, enter(l)
}

// published is mostly what a device on the list may publish.
func (c *crowd) published(user int) (int, api.Call) {
	device := c.r.Intn(2)
	m := member(device, c.signers[c.mostly(user, 3)], fmt.Sprint("dh", c.mostly(device, 0, 1)))
	b := c.x.bundle(user, m, c.signers[c.mostly(user, 3)], fmt.Sprint("pre", c.r.Intn(3)))
	many := c.r.Intn(9)
	call := api.Call{Kind: api.CallStock, Bundle: b, Index: 1 + c.r.Intn(60)}
	if c.r.Intn(10) == 0 {
		call.Index, many = c.mostly(1+c.r.Intn(60), 0, -1, 1<<30, math.MaxInt), 15+c.r.Intn(8)
	}
	for range many {
		c.onces++
		call.Onces = append(call.Onces, fmt.Sprint("once", c.onces))
	}
	return c.mostly(2+2*user+device, 2, 3, 4, 8), call
}

// P18.2, P18.5: walks of any calls are answered as the document says, the rows are as it says, and a state that is made anew on the same store goes on as that one would have.
func TestWalksAsTheDocumentSays(t *testing.T) {
	answers := map[string]int{}
	for seed := range 8 {
		x := made(t, seed%2)
		c, k := newCrowd(x, int64(seed)), newBook(x.p)
		for i := range 400 {
			from, call := c.call()
			k.p = x.p.Copy()
			got, want := x.do(from, call), plain(k.do(from, call))
			what := fmt.Sprintf("walk %d, step %d, kind %d from %d", seed, i, call.Kind, from)
			x.is(what, got, want)
			x.rows(what, k.rows()...)
			if !reflect.DeepEqual(x.p.Journal(), k.p.Journal()) {
				t.Errorf("%s: the journals differ", what)
			}
			answers[fmt.Sprint(call.Kind, " ", want.Err)]++
			switch i % 3 {
			case 0:
				x.d = stateOf(t, x.p, x.s)
			case 1:
				x.open()
			}
			if t.Failed() {
				t.FailNow()
			}
		}
	}
	for _, want := range []string{"1 missive: 0", "1 missive: 5", "2 missive: 0", "2 missive: 5", "3 missive: 0", "3 missive: 2", "3 missive: 8", "3 missive: 9", "3 missive: 12", "4 missive: 0", "4 missive: 2", "4 missive: 5", "4 missive: 9", "0 missive: 2"} {
		if answers[want] < 5 {
			t.Errorf("%s came %d times: %v", want, answers[want], answers)
		}
	}
}

// P18.3: whatever is entered, a user's lists have one account, and versions that rise by one; the last one that was taken is told.
func TestListsRise(t *testing.T) {
	for seed := range 4 {
		x := made(t, seed%2)
		c := newCrowd(x, int64(seed))
		last := map[int]api.List{}
		taken := 0
		for range 400 {
			from, call := c.call()
			a := x.do(from, call)
			if call.Kind == api.CallEnter && a.Err == api.OK {
				l, was := call.List, last[call.List.User]
				if bytesOf(l) != bytesOf(was) {
					taken++
					if l.Version != was.Version+1 || was.Version > 0 && l.Account != was.Account || !direct.Signed(x.p, l) {
						t.Errorf("%+v behind %+v", l, was)
					}
				}
				last[l.User] = l
			}
			for user := range 3 {
				want := api.Answer{List: last[user]}
				if last[user].Version == 0 {
					want = api.Answer{Err: api.ErrNone}
				}
				x.is("list", x.do(9, ask(user)), want)
			}
		}
		if taken < 20 {
			t.Errorf("%d lists were taken", taken)
		}
	}
}

// P18.4: while a device is on the list with its keys, no id and no once key of it is answered twice, whatever is published again; ids rise.
func TestNoOnceKeyTwice(t *testing.T) {
	x := made(t, api.KitTerm)
	h := x.settled()
	r := rand.New(rand.NewSource(4))
	last, told := [2]int{}, 0
	version := 1
	for range 3000 {
		device := r.Intn(2)
		switch r.Intn(4) {
		case 0, 1:
			a := x.fine(9, fetch(1, device))
			if a.Bundle.OnceId == 0 {
				continue
			}
			told++
			if a.Bundle.OnceId <= last[device] || a.Bundle.Once != onceOf(a.Bundle.OnceId) {
				t.Errorf("%+v behind %d", a.Bundle, last[device])
			}
			last[device] = a.Bundle.OnceId
		case 2:
			x.fine(4+device, stock(h.bundles[device], 1+max(0, last[device]-10+r.Intn(20)), r.Intn(21)))
		case 3:
			if r.Intn(10) == 0 {
				version++
				x.fine(4+device, enter(x.list(h.account, 1, version, h.devices[:]...)))
			}
			x.open()
		}
	}
	if told < 500 {
		t.Errorf("%d once keys were told", told)
	}
}

// P18.5: the power goes at each operation of a history; whatever is kept of what was not synced, the state that is made anew is as ahead of the call under way, or as behind it.
func TestLossOfPower(t *testing.T) {
	p, e := prim.New(api.KitReal)
	if e != api.OK {
		t.Fatal(e)
	}
	type step struct {
		from int
		call api.Call
	}
	var history []step
	whole := &town{t: t, p: p}
	a, s := whole.signer('a'), whole.signer('s')
	one, two := member(0, s, "d"), member(1, s, "e")
	first, second := whole.bundle(1, one, s, "pre"), whole.bundle(1, two, s, "pre")
	history = append(history,
		step{4, enter(whole.list(a, 1, 1, one))}, step{4, stock(first, 1, 20)}, step{9, fetch(1, 0)},
		step{4, enter(whole.list(a, 1, 2, one, two))}, step{5, stock(second, 7, 3)}, step{9, fetch(1, 1)}, step{9, fetch(1, 0)},
		step{4, stock(first, 15, 20)}, step{5, enter(whole.list(a, 1, 3, two))}, step{9, fetch(1, 1)}, step{5, enter(whole.list(a, 1, 4))})
	for after := 1; ; after++ {
		base := madeOn(t, api.KitReal, 1<<16)
		base.disk.Arm(after)
		ahead, behind := newBook(p), newBook(p)
		down := false
		for _, y := range history {
			want := behind.do(y.from, y.call)
			got, e := base.d.Do(y.from, y.call)
			if e != api.OK {
				down = true
				break
			}
			base.is("Do", plain(got), want)
			ahead.do(y.from, y.call)
		}
		if !down {
			return
		}
		for _, keep := range []int{0, 1, 7, 30, 100, 500, -1, -2} {
			x := &town{t: t, p: p, disk: base.disk.Copy()}
			x.disk.Wake([]int{keep, keep})
			x.open()
			rows := rowsOf(x.s)
			if !slices.Equal(rows, ahead.rows()) && !slices.Equal(rows, behind.rows()) {
				t.Fatalf("the power goes at %d, %d are kept: the rows %v", after, keep, x.s.List(""))
			}
			k := ahead
			if !slices.Equal(rows, ahead.rows()) {
				k = behind
			}
			for _, y := range []step{{9, ask(1)}, {9, ask(0)}} {
				x.is("behind the loss", x.do(y.from, y.call), k.do(y.from, y.call))
			}
		}
	}
}

// R6
func TestSameCallsSameAnswers(t *testing.T) {
	run := func() string {
		x := made(t, api.KitTerm)
		c := newCrowd(x, 3)
		var b strings.Builder
		for range 300 {
			from, call := c.call()
			fmt.Fprintf(&b, "%q\n", fmt.Sprint(x.do(from, call), rowsOf(x.s)))
		}
		log, _ := x.disk.Read("s")
		return b.String() + log
	}
	first := run()
	for range 4 {
		if run() != first {
			t.Fatal("other answers to the same calls")
		}
	}
}

// R1: whatever a call holds, it ends.
func TestChanceCalls(t *testing.T) {
	x := made(t, api.KitTerm)
	h := x.full()
	r := rand.New(rand.NewSource(5))
	some := func() int {
		l := []int{0, 1, 2, 3, 4, 5, 6, -1, 1 << 30, 1<<30 + 1, 1 << 32, math.MinInt, math.MaxInt, math.MaxInt - 3}
		return l[r.Intn(len(l))]
	}
	text := func() string {
		return []string{"", "x", h.account.public, h.sign.public, h.list.Sig, word(mostBytes), word(mostBytes + 1)}[r.Intn(7)]
	}
	for range 3000 {
		c := api.Call{Kind: some(), User: some(), Device: some(), Index: some(), To: some(), Name: text(), Bytes: text()}
		c.List = api.List{User: some(), Version: some(), Account: text(), Sig: text()}
		for range r.Intn(4) {
			c.List.Devices = append(c.List.Devices, api.Member{Device: some(), Sign: text(), Dh: text()})
		}
		c.Bundle = api.Bundle{User: some(), Device: some(), Sign: text(), Dh: text(), PreId: some(), Pre: text(), PreSig: text(), OnceId: some(), Once: text()}
		for range r.Intn(3) {
			c.Onces = append(c.Onces, text())
		}
		from := some()
		a, e := x.d.Do(from, c)
		if e != api.OK || a.Err != api.OK && !reflect.DeepEqual(a, api.Answer{Err: a.Err}) {
			t.Errorf("%+v, %d", a, e)
		}
		direct.Text(c.List)
		direct.Signed(x.p, c.List)
		stateOf(t, x.p, x.s)
	}
}
