package lines

import "usher/models"

// deed is what an instruction does. Sets of those who stand in a relation are put on a stack, and taken from its top.
type deed int

const (
	end     deed = iota // answer with the set on top
	none                // put on the empty set
	known               // put on those known to stand in the relation to the thing
	next                // take up the thing's next tuple of the relation; behind the last, jump
	granted             // put on those that the tuple's subject means
	beyond              // put on those known to stand in the relation to the tuple's subject, a thing
	either              // join the two sets on top
	both                // leave of the two sets on top what is in both
	less                // take the set on top away from the one below
	skip                // jump, if the set on top is empty
	jump                // jump
)

// instruction is a deed; the relation is filled for known, next and beyond, to (where a jump leads) for next, skip and jump.
type instruction struct {
	does     deed
	relation string
	to       int
}

// writer writes the line of a relation.
type writer struct {
	relation string
	written  []instruction
}

// put gives the place of what it has put.
func (w *writer) put(i instruction) int {
	w.written = append(w.written, i)
	return len(w.written) - 1
}

// land makes the jump at the place lead to what is written next.
func (w *writer) land(place int) {
	w.written[place].to = len(w.written)
}

func (w *writer) part(p models.Part) {
	switch x := p.(type) {
	case models.List:
		w.loop(w.relation, instruction{does: granted})
	case models.Own:
		w.put(instruction{does: known, relation: x.Text})
	case models.Tie:
		w.loop(x.By.Text, instruction{does: beyond, relation: x.To.Text})
	case models.Either:
		w.part(x.Left)
		w.part(x.Right)
		w.put(instruction{does: either})
	case models.Both:
		w.narrow(x.Sides, both)
	case models.Less:
		w.narrow(x.Sides, less)
	}
}

// loop joins what each tuple of the relation gives.
func (w *writer) loop(relation string, each instruction) {
	w.put(instruction{does: none})
	again := w.put(instruction{does: next, relation: relation})
	w.put(each)
	w.put(instruction{does: either})
	w.put(instruction{does: jump, to: again})
	w.land(again)
}

// narrow leaves the right side out where nothing is left to be narrowed by it.
func (w *writer) narrow(s models.Sides, by deed) {
	w.part(s.Left)
	past := w.put(instruction{does: skip})
	w.part(s.Right)
	w.put(instruction{does: by})
	w.land(past)
}
