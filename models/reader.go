package models

import (
	"slices"
	"strings"

	"usher/api"
)

// Read gives the model that the text is, or what is wrong with it.
func Read(text string) (Model, error) {
	if len(text) > api.MaxText {
		return Model{}, Fault(api.ErrLong)
	}
	// A model may be kept, and what was handed in may not.
	text = strings.Clone(text)
	r := reader{text: text, now: tokenFrom(text, 0)}
	m, err := r.model()
	if err != nil {
		// No token is let go of before it is found right, so the one at hand is the wrong one.
		return Model{}, r.now.wrap(err)
	}
	if err := m.check(); err != nil {
		return Model{}, err
	}
	return m, nil
}

// reader goes through the tokens of a text; now is the one at hand.
type reader struct {
	text string
	now  token
	open int // round brackets that are open
}

func (r *reader) step() {
	r.now = tokenFrom(r.text, r.now.At()+len(r.now.text))
}

func (r *reader) at(texts ...string) bool {
	return slices.Contains(texts, r.now.text)
}

func (r *reader) take(text string) error {
	if !r.at(text) {
		return Fault(api.ErrText)
	}
	r.step()
	return nil
}

func (r *reader) name() (Name, error) {
	if !r.now.isName() {
		return Name{}, Fault(api.ErrText)
	}
	if len(r.now.text) > api.MaxName {
		return Name{}, Fault(api.ErrSize)
	}
	n := Name{r.now.Place, r.now.text}
	r.step()
	return n, nil
}

// nameThen reads a name and the sign that must follow it.
func (r *reader) nameThen(sign string) (Name, error) {
	n, err := r.name()
	if err != nil {
		return n, err
	}
	return n, r.take(sign)
}

func (r *reader) model() (Model, error) {
	var m Model
	for !r.at("") {
		if r.at("type") && len(m.Types) == api.MaxTypes {
			return m, Fault(api.ErrSize)
		}
		t, err := r.oneType()
		if err != nil {
			return m, err
		}
		m.Types = append(m.Types, t)
	}
	return m, nil
}

func (r *reader) oneType() (Type, error) {
	var t Type
	err := r.take("type")
	if err != nil {
		return t, err
	}
	t.Name, err = r.nameThen("{")
	if err != nil {
		return t, err
	}
	for !r.at("}") {
		if r.now.isName() && len(t.Relations) == api.MaxRels {
			return t, Fault(api.ErrSize)
		}
		one, err := r.oneRelation()
		if err != nil {
			return t, err
		}
		t.Relations = append(t.Relations, one)
	}
	return t, r.take("}")
}

func (r *reader) oneRelation() (Relation, error) {
	var one Relation
	var err error
	one.Name, err = r.nameThen(":")
	if err != nil {
		return one, err
	}
	one.Body, err = r.expression()
	if err != nil {
		return one, err
	}
	return one, r.take(";")
}
