// Package tuples reads and writes things, subjects and tuples.
package tuples

import (
	"strings"

	"usher/api"
	"usher/words"
)

// Everything is the word of a subject that is all things of its type.
const Everything = "*"

// longest is how many bytes a tuple can have.
const longest = 6*api.MaxName + len(":#@:#")

// Thing is a thing of a type.
type Thing struct {
	Type, Word string
}

// Subject is a thing, or all things of its type (its word is Everything then), or all that stand in its relation to it (if it has one).
type Subject struct {
	Thing
	Relation string
}

// Tuple grants the relation to its thing to the subject.
type Tuple struct {
	Thing
	Relation string
	Subject  Subject
}

// ReadThing reads `type:word`; false, if the text is none, or has a word above the bound.
func ReadThing(text string) (Thing, bool) {
	kind, word, _ := strings.Cut(text, ":")
	return Thing{kind, word}, words.Fits(kind) && words.Fits(word)
}

func readSubject(text string) (Subject, bool) {
	text, relation, related := strings.Cut(text, "#")
	t, ok := ReadThing(text)
	s := Subject{t, relation}
	if related {
		return s, ok && words.Fits(relation)
	}
	return s, ok || t.Word == Everything && words.Fits(t.Type)
}

// Read reads `thing#relation@subject`; false, if the text is none, or has a word above the bound.
func Read(text string) (Tuple, bool) {
	if len(text) > longest {
		return Tuple{}, false
	}
	// A tuple may be kept, and what was handed in may not.
	head, tail, _ := strings.Cut(strings.Clone(text), "@")
	head, relation, _ := strings.Cut(head, "#")
	thing, isThing := ReadThing(head)
	subject, isSubject := readSubject(tail)
	return Tuple{thing, relation, subject}, isThing && isSubject && words.Fits(relation)
}

func (t Thing) String() string { return t.Type + ":" + t.Word }

func (s Subject) String() string {
	if s.Relation == "" {
		return s.Thing.String()
	}
	return s.Thing.String() + "#" + s.Relation
}

func (t Tuple) String() string {
	return t.Thing.String() + "#" + t.Relation + "@" + t.Subject.String()
}
