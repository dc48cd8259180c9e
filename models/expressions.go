package models

import "usher/api"

func (r *reader) expression() (Part, error) {
	return r.joined(r.chain, "|")
}

func (r *reader) chain() (Part, error) {
	return r.joined(r.unit, "&", "-")
}

// joined reads one or more parts with one of the signs between, and takes them from the left.
func (r *reader) joined(part func() (Part, error), signs ...string) (Part, error) {
	left, err := part()
	for err == nil && r.at(signs...) {
		sign := r.now
		r.step()
		var right Part
		right, err = part()
		left = join(sign, left, right)
	}
	return left, err
}

func join(sign token, left, right Part) Part {
	sides := Sides{sign.Place, left, right}
	switch sign.text {
	case "|":
		return Either{sides}
	case "&":
		return Both{sides}
	}
	return Less{sides}
}

func (r *reader) unit() (Part, error) {
	switch {
	case r.at("["):
		return r.list()
	case r.at("("):
		return r.brackets()
	}
	return r.ownOrTie()
}

func (r *reader) brackets() (Part, error) {
	if r.open == api.MaxDepth {
		return nil, Fault(api.ErrSize)
	}
	r.open++
	r.step()
	inner, err := r.expression()
	if err != nil {
		return nil, err
	}
	r.open--
	return inner, r.take(")")
}

func (r *reader) ownOrTie() (Part, error) {
	first, err := r.name()
	if err != nil {
		return nil, err
	}
	if !r.at(".") {
		return Own{first}, nil
	}
	r.step()
	second, err := r.name()
	return Tie{first.Place, first, second}, err
}

func (r *reader) list() (Part, error) {
	l := List{Place: r.now.Place}
	for first := true; first || r.at(","); first = false {
		r.step()
		g, err := r.grant()
		if err != nil {
			return l, err
		}
		l.Grants = append(l.Grants, g)
	}
	return l, r.take("]")
}

func (r *reader) grant() (Grant, error) {
	var g Grant
	var err error
	g.Type, err = r.name()
	if err != nil {
		return g, err
	}
	switch {
	case r.at("*"):
		g.Reach = All
		r.step()
	case r.at("#"):
		g.Reach = Related
		r.step()
		g.Relation, err = r.name()
	}
	return g, err
}
