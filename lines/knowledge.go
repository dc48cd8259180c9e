package lines

import (
	"slices"

	"usher/tuples"
)

// holder is a thing and the tuples that grant relations to it.
type holder struct {
	tuples.Thing
	tuples []tuples.Tuple
}

// next gives the number, from 1 on, of the next tuple of the relation behind the one with this number (0: behind none); 0, if there is none.
func (h holder) next(behind int, relation string) int {
	for i, t := range h.tuples[behind:] {
		if t.Relation == relation {
			return behind + i + 1
		}
	}
	return 0
}

func holders(granted []tuples.Tuple) []holder {
	var all []holder
	for _, t := range granted {
		i := slices.IndexFunc(all, func(h holder) bool { return h.Thing == t.Thing })
		if i < 0 {
			i = len(all)
			all = append(all, holder{Thing: t.Thing})
		}
		all[i].tuples = append(all[i].tuples, t)
	}
	return all
}

// knowledge is who of a crowd is known to stand in which relation to what.
type knowledge struct {
	crowd   []tuples.Thing
	holders []holder
	known   map[tuples.Subject]set
}

// Those gives those of the crowd that stand in the relation that is asked for, if this is what was granted. A thing of the crowd with the word Everything is any of its type that stands in no tuple.
func (l Lines) Those(crowd []tuples.Thing, asked tuples.Subject, granted []tuples.Tuple) []tuples.Thing {
	var all []tuples.Thing
	for some := range slices.Chunk(crowd, room) {
		k := knowledge{some, holders(granted), map[tuples.Subject]set{}}
		for _, step := range l.steps {
			k.settle(step)
		}
		for i, t := range some {
			if k.known[asked]&(1<<i) != 0 {
				all = append(all, t)
			}
		}
	}
	return all
}

// settle carries a step's lines out until nothing more follows. As nothing is known at first, a circle adds nothing of its own.
// Things that no tuple grants relations to are left out, as nobody stands in any relation to them.
func (k knowledge) settle(step []line) {
	for grown := true; grown; {
		grown = false
		for _, l := range step {
			for _, h := range k.holders {
				if h.Type == l.kind && k.learn(l, h) {
					grown = true
				}
			}
		}
	}
}

// learn tells whether the line says something new of the thing.
func (k knowledge) learn(l line, of holder) bool {
	asked := tuples.Subject{Thing: of.Thing, Relation: l.relation}
	those := k.carryOut(l.instructions, of)
	if those == k.known[asked] {
		return false
	}
	k.known[asked] = those
	return true
}

// meant gives those that the subject of a tuple means.
func (k knowledge) meant(s tuples.Subject) set {
	if s.Relation != "" {
		return k.known[s]
	}
	var those set
	for i, t := range k.crowd {
		if t == s.Thing || s.Word == tuples.Everything && t.Type == s.Type {
			those |= 1 << i
		}
	}
	return those
}

// beyond gives those that stand in the relation to the subject, if it is a single thing.
func (k knowledge) beyond(s tuples.Subject, relation string) set {
	if s.Relation != "" {
		return 0
	}
	return k.known[tuples.Subject{Thing: s.Thing, Relation: relation}]
}
