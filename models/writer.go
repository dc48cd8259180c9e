package models

import "strings"

// String writes the model in order.
func (m Model) String() string {
	var b strings.Builder
	for _, t := range m.Types {
		b.WriteString("type " + t.Text + " {\n")
		for _, r := range t.Relations {
			b.WriteString("\t" + r.Text + ": " + written(r.Body) + ";\n")
		}
		b.WriteString("}\n")
	}
	return b.String()
}

func written(p Part) string {
	switch x := p.(type) {
	case List:
		return x.written()
	case Own:
		return x.Text
	case Tie:
		return x.By.Text + "." + x.To.Text
	case Either:
		return written(x.Left) + " | " + written(x.Right)
	case Both:
		return x.chained(" & ")
	case Less:
		return x.chained(" - ")
	}
	return ""
}

// chained needs brackets on the right for a chain too, as chains are taken from the left.
func (s Sides) chained(sign string) string {
	return held(s.Left, chainBinds) + sign + held(s.Right, unitBinds)
}

func held(p Part, least int) string {
	if binding(p) < least {
		return "(" + written(p) + ")"
	}
	return written(p)
}

// How tightly a part holds together when it is written.
const (
	eitherBinds = iota
	chainBinds
	unitBinds
)

func binding(p Part) int {
	switch p.(type) {
	case Either:
		return eitherBinds
	case Both, Less:
		return chainBinds
	}
	return unitBinds
}

func (l List) written() string {
	var all []string
	for _, g := range l.Grants {
		all = append(all, g.written())
	}
	return "[" + strings.Join(all, ", ") + "]"
}

func (g Grant) written() string {
	switch g.Reach {
	case All:
		return g.Type.Text + "*"
	case Related:
		return g.Type.Text + "#" + g.Relation.Text
	}
	return g.Type.Text
}
