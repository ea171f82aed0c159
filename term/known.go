package term

import "missive/api"

// rule says that a term is known, once nothing is missing any more of what it asks for.
type rule struct{ missing, then int }

// web holds what is known so far, and what would come of more. Each term is taken up once, so that the work grows with the table, and not with its square.
type web struct {
	rules []rule
	asked [][]int // by term: the rules that ask for it, as often as they do
	known []bool
	next  []int // what is known, and whose rules were not told yet
}

// Known tells of each term whether it is known to one who has seen these texts.
func (t *Table) Known(seen []string) []bool {
	if t.none() {
		return nil
	}
	w := &web{asked: make([][]int, len(t.terms)), known: make([]bool, len(t.terms))}
	for at, e := range t.terms {
		t.lay(w, at, e)
	}
	for _, s := range seen {
		for _, at := range t.Within(s) {
			w.learn(at)
		}
	}
	w.spread()
	return w.known
}

// lay lays the rules of a term: what makes it known, and what is known by it.
func (t *Table) lay(w *web, at int, e entry) {
	switch e := e.(type) {
	case name: // it comes out of nothing
	case data:
		within := t.Within(e.bytes)
		w.rule(at, within...)
		for _, inner := range within {
			w.rule(inner, at)
		}
	case made:
		t.layMade(w, at, e)
	}
}

// layMade lays the rules of what is made of parts.
func (t *Table) layMade(w *web, at int, e made) {
	w.rule(at, e.parts...)
	switch e.kind {
	case api.TermDh:
		if e.n == 0 {
			t.layHalf(w, at, e.parts[0], e.parts[1])
			t.layHalf(w, at, e.parts[1], e.parts[0])
		}
	case api.TermEnc:
		w.rule(e.parts[3], at, e.parts[0])
	case api.TermSig:
		w.rule(e.parts[1], at)
	}
}

// layHalf lays how one who has the secret of one side comes to what both share: by the other one's public key, if the table has it.
func (t *Table) layHalf(w *web, at, secret, other int) {
	if public, ok := t.publicOf(other); ok {
		w.rule(at, secret, public)
	}
}

// rule lays that a term is known, once all of these are.
func (w *web) rule(then int, asks ...int) {
	for _, at := range asks {
		w.asked[at] = append(w.asked[at], len(w.rules))
	}
	w.rules = append(w.rules, rule{len(asks), then})
	if len(asks) == 0 {
		w.learn(then)
	}
}

// learn takes a term for known.
func (w *web) learn(at int) {
	if !w.known[at] {
		w.known[at] = true
		w.next = append(w.next, at)
	}
}

// spread goes on till nothing more comes of what is known.
func (w *web) spread() {
	for len(w.next) > 0 {
		last := len(w.next) - 1
		at := w.next[last]
		w.next = w.next[:last]
		for _, r := range w.asked[at] {
			w.rules[r].missing--
			if w.rules[r].missing == 0 {
				w.learn(w.rules[r].then)
			}
		}
	}
}
