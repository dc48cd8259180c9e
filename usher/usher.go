// Package usher: who may do what to which thing: see DOC.md.
package usher

import (
	"errors"
	"slices"

	"usher/api"
	"usher/lines"
	"usher/models"
	"usher/tuples"
	"usher/words"
)

// Print reads a model and writes it in order (P3 to P5).
func Print(model string) (string, api.Errno, int) {
	m, err := models.Read(model)
	if number, place := told(err); number != api.OK {
		return "", number, place
	}
	return m.String(), api.OK, 0
}

// told gives the number of an error and its place; what has no place of its own is told of the text's beginning.
func told(err error) (api.Errno, int) {
	var fault models.Fault
	if !errors.As(err, &fault) {
		return api.OK, 0
	}
	var placed models.Placed
	if !errors.As(err, &placed) {
		return api.Errno(fault), 0
	}
	return api.Errno(fault), placed.At()
}

// Usher is a model, and what was granted.
type Usher struct {
	model   models.Model
	lines   lines.Lines
	granted []tuples.Tuple
}

// New makes an usher (P6).
func New(model string) (*Usher, api.Errno) {
	u := new(Usher)
	if number := u.Load(model); number != api.OK {
		return nil, number
	}
	return u, api.OK
}

// Load gives another model (P6).
func (u *Usher) Load(model string) api.Errno {
	m, err := models.Read(model)
	if number, _ := told(err); number != api.OK {
		return number
	}
	*u = Usher{model: m, lines: lines.Of(m)}
	return api.OK
}

// Write grants something (P7).
func (u *Usher) Write(grant string) api.Errno {
	t, ok := tuples.Read(grant)
	if !ok {
		return api.ErrText
	}
	if number, _ := told(u.model.Lets(t)); number != api.OK {
		return number
	}
	if slices.Contains(u.granted, t) {
		return api.ErrTwice
	}
	if len(u.granted) == api.MaxGrants {
		return api.ErrFull
	}
	u.granted = append(u.granted, t)
	return api.OK
}

// Delete takes a grant back (P7).
func (u *Usher) Delete(grant string) api.Errno {
	t, ok := tuples.Read(grant)
	if !ok {
		return api.ErrText
	}
	i := slices.Index(u.granted, t)
	if i < 0 {
		return api.ErrNone
	}
	u.granted = slices.Delete(u.granted, i, i+1)
	return api.OK
}

// Grants tells what is granted (P7).
func (u *Usher) Grants() []string {
	var all []string
	for _, t := range u.granted {
		all = append(all, t.String())
	}
	slices.Sort(all)
	return all
}

// Check tells whether something stands in a relation to a thing (P9).
func (u *Usher) Check(thing string, relation string, who string) (bool, api.Errno) {
	one, ok := tuples.ReadThing(who)
	if !ok {
		return false, api.ErrText
	}
	asked, number := u.asked(thing, relation)
	if number != api.OK {
		return false, number
	}
	_, err := u.model.FindType(one.Type)
	if number, _ := told(err); number != api.OK {
		return false, number
	}
	those := u.lines.Those([]tuples.Thing{one}, asked, u.granted)
	return len(those) > 0, api.OK
}

// Who tells all that stand in a relation to a thing (P10).
func (u *Usher) Who(thing string, relation string) ([]string, api.Errno) {
	asked, number := u.asked(thing, relation)
	if number != api.OK {
		return nil, number
	}
	var all []string
	for _, t := range u.lines.Those(u.crowd(), asked, u.granted) {
		all = append(all, t.String())
	}
	slices.Sort(all)
	return slices.Compact(all), api.OK
}

// asked reads what both questions ask for.
func (u *Usher) asked(thing string, relation string) (tuples.Subject, api.Errno) {
	t, ok := tuples.ReadThing(thing)
	if !ok || !words.Fits(relation) {
		return tuples.Subject{}, api.ErrText
	}
	_, _, err := u.model.FindRelation(t.Type, relation)
	number, _ := told(err)
	return tuples.Subject{Thing: t, Relation: relation}, number
}

// crowd lists whom Who may tell of, some of them more than once: for those that stand in no tuple, Everything of each type.
func (u *Usher) crowd() []tuples.Thing {
	var all []tuples.Thing
	for _, t := range u.model.Types {
		all = append(all, tuples.Thing{Type: t.Text, Word: tuples.Everything})
	}
	for _, t := range u.granted {
		all = append(all, t.Thing, t.Subject.Thing)
	}
	return all
}
