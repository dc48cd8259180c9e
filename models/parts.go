// Package models reads models of types and their relations, checks them and writes them.
package models

// Model is the types of a text, in its order.
type Model struct {
	Types []Type
}

// Type is a kind of things.
type Type struct {
	Name
	Relations []Relation
}

// Relation is one relation of a type, and the expression that it follows from.
type Relation struct {
	Name
	Body Part
}

// Name is a word of the text.
type Name struct {
	Place
	Text string
}

// Part is an expression or a part of one: List, Own, Tie, Either, Both or Less.
// Brackets are no part: how the parts hold each other says as much.
type Part interface {
	At() int
}

// List is a list of what may be granted outright.
type List struct {
	Place
	Grants []Grant
}

// Own is another relation of the same thing.
type Own struct {
	Name
}

// Tie leads by one relation to things, and to one of their relations.
type Tie struct {
	Place
	By, To Name
}

// Sides are what a sign stands between; their place is the sign's.
type Sides struct {
	Place
	Left, Right Part
}

// Either is those of the left and those of the right.
type Either struct{ Sides }

// Both is those that are left and right.
type Both struct{ Sides }

// Less is those of the left that are not in the right.
type Less struct{ Sides }

// Reach says whom of a type a grant lets in.
type Reach int

const (
	One     Reach = iota // a single thing
	All                  // all things of the type
	Related              // all that stand in a relation to a thing of the type
)

// Grant is one entry of a list; Relation is filled for Related alone.
type Grant struct {
	Type     Name
	Reach    Reach
	Relation Name
}

// parts lists an expression and all parts within it, in the order of their places.
func parts(p Part) []Part {
	sides, joined := sidesOf(p)
	if !joined {
		return []Part{p}
	}
	all := append(parts(sides.Left), p)
	return append(all, parts(sides.Right)...)
}

func sidesOf(p Part) (Sides, bool) {
	switch x := p.(type) {
	case Either:
		return x.Sides, true
	case Both:
		return x.Sides, true
	case Less:
		return x.Sides, true
	}
	return Sides{}, false
}

// grants lists the grants of all lists of the relation, as each list counts every tuple of it.
func (r Relation) grants() []Grant {
	var all []Grant
	for _, p := range parts(r.Body) {
		switch x := p.(type) {
		case List:
			all = append(all, x.Grants...)
		}
	}
	return all
}
