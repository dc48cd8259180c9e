package models

import (
	"iter"
	"slices"

	"usher/api"
)

// check finds what is wrong with a model that reads well.
func (m Model) check() error {
	if err := m.checkTwice(); err != nil {
		return err
	}
	if err := m.eachRelation(m.checkNames); err != nil {
		return err
	}
	return m.eachRelation(m.checkLoops)
}

// FindType gives the type of this name, or an error if there is none.
func (m Model) FindType(name string) (Type, error) {
	i := slices.IndexFunc(m.Types, func(t Type) bool { return t.Text == name })
	if i < 0 {
		return Type{}, Fault(api.ErrName)
	}
	return m.Types[i], nil
}

func (t Type) find(name string) (Relation, error) {
	i := slices.IndexFunc(t.Relations, func(r Relation) bool { return r.Text == name })
	if i < 0 {
		return Relation{}, Fault(api.ErrName)
	}
	return t.Relations[i], nil
}

// FindRelation gives a relation and the type that has it, or an error if one of them is not there.
func (m Model) FindRelation(kind, name string) (Type, Relation, error) {
	t, err := m.FindType(kind)
	if err != nil {
		return t, Relation{}, err
	}
	r, err := t.find(name)
	return t, r, err
}

func (m Model) checkTwice() error {
	var ahead Model
	for _, t := range m.Types {
		if _, err := ahead.FindType(t.Text); err == nil {
			return t.wrap(Fault(api.ErrTwice))
		}
		if err := t.checkTwice(); err != nil {
			return err
		}
		ahead.Types = append(ahead.Types, t)
	}
	return nil
}

func (t Type) checkTwice() error {
	var ahead Type
	for _, r := range t.Relations {
		if _, err := ahead.find(r.Text); err == nil {
			return r.wrap(Fault(api.ErrTwice))
		}
		ahead.Relations = append(ahead.Relations, r)
	}
	return nil
}

// relations goes through all relations, each with its type, in the text's order.
func (m Model) relations() iter.Seq2[Type, Relation] {
	return func(yield func(Type, Relation) bool) {
		for _, t := range m.Types {
			for _, r := range t.Relations {
				if !yield(t, r) {
					return
				}
			}
		}
	}
}

// eachRelation makes a check of every relation, up to the first that fails.
func (m Model) eachRelation(check func(Type, Relation) error) error {
	for t, r := range m.relations() {
		if err := check(t, r); err != nil {
			return err
		}
	}
	return nil
}

func (m Model) checkNames(t Type, r Relation) error {
	for _, p := range parts(r.Body) {
		var err error
		switch x := p.(type) {
		case List:
			err = m.checkList(x)
		case Own:
			_, err = t.find(x.Text)
			err = x.wrap(err)
		case Tie:
			err = m.checkTie(t, x)
		}
		if err != nil {
			return err
		}
	}
	return nil
}

func (m Model) checkList(l List) error {
	for _, g := range l.Grants {
		t, err := m.FindType(g.Type.Text)
		if err != nil {
			return g.Type.wrap(err)
		}
		if g.Reach != Related {
			continue
		}
		if _, err := t.find(g.Relation.Text); err != nil {
			return g.Relation.wrap(err)
		}
	}
	return nil
}

func (m Model) checkTie(t Type, tie Tie) error {
	if _, err := t.find(tie.By.Text); err != nil {
		return tie.By.wrap(err)
	}
	if len(m.tied(t, tie)) == 0 {
		return tie.To.wrap(Fault(api.ErrName))
	}
	return nil
}

// tied lists the types that a tie of this type leads to: those without the relation behind the point are left out.
func (m Model) tied(t Type, tie Tie) []Type {
	by, err := t.find(tie.By.Text)
	if err != nil {
		return nil
	}
	var all []Type
	for _, g := range by.grants() {
		if g.Reach != One {
			continue
		}
		// A type that is not there has no relation either; its own name tells of it.
		there, _ := m.FindType(g.Type.Text)
		if _, err := there.find(tie.To.Text); err == nil {
			all = append(all, there)
		}
	}
	return all
}
