package models

import (
	"slices"

	"usher/api"
)

// spot names a relation of a type.
type spot struct {
	kind, relation string
}

func (m Model) checkLoops(t Type, r Relation) error {
	for _, p := range parts(r.Body) {
		switch x := p.(type) {
		case Less:
			if slices.Contains(m.reached(m.needs(t, r, x.Right)), spot{t.Text, r.Text}) {
				return x.wrap(Fault(api.ErrLoop))
			}
		}
	}
	return nil
}

// reached lists these relations and all that they hang on, each once.
func (m Model) reached(from []spot) []spot {
	var found []spot
	for len(from) > 0 {
		next := from[0]
		from = from[1:]
		if !slices.Contains(found, next) {
			found = append(found, next)
			from = append(from, m.needsAt(next)...)
		}
	}
	return found
}

func (m Model) needsAt(s spot) []spot {
	t, r, err := m.FindRelation(s.kind, s.relation)
	if err != nil {
		return nil
	}
	return m.needs(t, r, r.Body)
}

// needs lists what a part of the relation's expression hangs on at first hand.
func (m Model) needs(t Type, r Relation, part Part) []spot {
	var all []spot
	for _, p := range parts(part) {
		switch x := p.(type) {
		case List:
			all = append(all, r.related()...)
		case Own:
			all = append(all, spot{t.Text, x.Text})
		case Tie:
			for _, there := range m.tied(t, x) {
				all = append(all, spot{there.Text, x.To.Text})
			}
		}
	}
	return all
}

// related lists the relations whose holders the relation may be granted to.
func (r Relation) related() []spot {
	var all []spot
	for _, g := range r.grants() {
		if g.Reach == Related {
			all = append(all, spot{g.Type.Text, g.Relation.Text})
		}
	}
	return all
}
