package lines

import "usher/tuples"

// set has a bit for each of a crowd.
type set uint64

// room is how many a set has bits for.
const room = 64

type stack []set

func (s *stack) put(one set) {
	*s = append(*s, one)
}

func (s *stack) take() set {
	last := len(*s) - 1
	one := (*s)[last]
	*s = (*s)[:last]
	return one
}

func (s stack) top() set { return s[len(s)-1] }

// carryOut tells who stands in the line's relation to the thing, as far as is known by now.
func (k knowledge) carryOut(line []instruction, of holder) set {
	var sets stack
	at := 0
	tuple := 0 // the number of the one that was taken up; a loop ends with 0, so the next one begins with it
onward:
	now := line[at]
	at++
	switch now.does {
	case end:
		return sets.take()
	case none:
		sets.put(0)
	case known:
		sets.put(k.known[tuples.Subject{Thing: of.Thing, Relation: now.relation}])
	case next:
		tuple = of.next(tuple, now.relation)
		if tuple == 0 {
			at = now.to
		}
	case granted:
		sets.put(k.meant(of.tuples[tuple-1].Subject))
	case beyond:
		sets.put(k.beyond(of.tuples[tuple-1].Subject, now.relation))
	case either:
		sets.put(sets.take() | sets.take())
	case both:
		sets.put(sets.take() & sets.take())
	case less:
		away := sets.take()
		sets.put(sets.take() &^ away)
	case skip:
		if sets.top() == 0 {
			at = now.to
		}
	case jump:
		at = now.to
	}
	goto onward
}
