package models

import (
	"slices"

	"usher/api"
	"usher/tuples"
)

// Lets gives what keeps the tuple from being granted by this model, if anything does.
func (m Model) Lets(t tuples.Tuple) error {
	_, r, err := m.FindRelation(t.Type, t.Relation)
	if err != nil {
		return err
	}
	lets := func(g Grant) bool { return g.lets(t.Subject) }
	if !slices.ContainsFunc(r.grants(), lets) {
		return Fault(api.ErrGrant)
	}
	return nil
}

func (g Grant) lets(s tuples.Subject) bool {
	return g.Type.Text == s.Type && g.Reach == reach(s) && g.Relation.Text == s.Relation
}

func reach(s tuples.Subject) Reach {
	switch {
	case s.Relation != "":
		return Related
	case s.Word == tuples.Everything:
		return All
	}
	return One
}
