// Package lines turns the expressions of a model into lines of simple instructions, and tells by them who stands in which relation.
package lines

import "usher/models"

// Lines is what the expressions of a model were turned into. Each step of them hangs on itself and on the steps ahead of it alone.
type Lines struct {
	steps [][]line
}

// line is the instructions that tell who stands in a relation to a thing of the kind.
type line struct {
	kind, relation string
	instructions   []instruction
}

// Of turns all expressions of a model into lines.
func Of(m models.Model) Lines {
	var all Lines
	for _, rules := range m.Steps() {
		var step []line
		for _, r := range rules {
			step = append(step, lineOf(r))
		}
		all.steps = append(all.steps, step)
	}
	return all
}

func lineOf(r models.Rule) line {
	w := writer{relation: r.Text}
	w.part(r.Body)
	w.put(instruction{does: end})
	return line{r.Kind, r.Text, w.written}
}
