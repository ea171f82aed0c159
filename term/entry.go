package term

import (
	"slices"
	"strings"

	"missive/api"
	"missive/wire"
)

// entry is a term as a table has it: a name, data, or something made.
type entry interface {
	told() api.Term // in new memory
}

// name comes out of nothing; number tells it from all others.
type name struct{ number int }

// data are bytes that were no term's text when they were put.
type data struct{ bytes string }

// made is what crypto made of other terms.
type made struct {
	kind, n int
	label   string
	parts   []int
}

// recipe is made in a form that can be compared.
type recipe struct {
	kind, n      int
	label, parts string
}

func (e name) told() api.Term { return api.Term{Kind: api.TermName, N: e.number} }

func (e data) told() api.Term { return api.Term{Kind: api.TermData, S: strings.Clone(e.bytes)} }

func (e made) told() api.Term {
	return api.Term{Kind: e.kind, N: e.n, S: strings.Clone(e.label), Parts: slices.Clone(e.parts)}
}

// recipe lays each part in as many bytes, so that other parts have other bytes.
func (e made) recipe() recipe {
	var laid strings.Builder
	for _, p := range e.parts {
		laid.WriteString(wire.PutNumber("", numberSize, uint64(p)))
	}
	return recipe{e.kind, e.n, e.label, laid.String()}
}
