package models

// Rule is a relation, and the name of the type that has it.
type Rule struct {
	Kind string
	Relation
}

// Steps lists all relations in groups: what one hangs on stands in a group ahead of its own, or in its own if it hangs on that one too.
func (m Model) Steps() [][]Rule {
	var steps [][]Rule
	for t, r := range m.relations() {
		// What hangs on another, but not the other way round, reaches more: all that the other does, and itself.
		reach := len(m.reached([]spot{{t.Text, r.Text}}))
		for len(steps) < reach {
			steps = append(steps, nil)
		}
		steps[reach-1] = append(steps[reach-1], Rule{t.Text, r})
	}
	return steps
}
