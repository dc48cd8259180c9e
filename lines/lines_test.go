package lines

import (
	"slices"
	"strconv"
	"testing"

	"usher/models"
	"usher/tuples"
)

func linesOf(t *testing.T, model string) Lines {
	t.Helper()
	m, err := models.Read(model)
	if err != nil {
		t.Fatalf("%q: %v", model, err)
	}
	return Of(m)
}

func (l Lines) find(relation string) []instruction {
	for _, step := range l.steps {
		for _, one := range step {
			if one.relation == relation {
				return one.instructions
			}
		}
	}
	return nil
}

// P8: each part of an expression is a few instructions; jumps lead round the tuples, and past what cannot matter.
func TestInstructions(t *testing.T) {
	l := linesOf(t, "type a { b: [a, a#b]; c: b; d: b.c; e: b | c; f: b & (c | d); g: b - c; }")
	for relation, want := range map[string][]instruction{
		"b": {{none, "", 0}, {next, "b", 5}, {granted, "", 0}, {either, "", 0}, {jump, "", 1}, {end, "", 0}},
		"c": {{known, "b", 0}, {end, "", 0}},
		"d": {{none, "", 0}, {next, "b", 5}, {beyond, "c", 0}, {either, "", 0}, {jump, "", 1}, {end, "", 0}},
		"e": {{known, "b", 0}, {known, "c", 0}, {either, "", 0}, {end, "", 0}},
		"f": {{known, "b", 0}, {skip, "", 6}, {known, "c", 0}, {known, "d", 0}, {either, "", 0}, {both, "", 0}, {end, "", 0}},
		"g": {{known, "b", 0}, {skip, "", 4}, {known, "c", 0}, {less, "", 0}, {end, "", 0}},
	} {
		if got := l.find(relation); !slices.Equal(got, want) {
			t.Errorf("%s: %v, want %v", relation, got, want)
		}
	}
}

// P8: a relation that has loops one behind the other, and within sides, goes through all tuples in each.
func TestLoops(t *testing.T) {
	l := linesOf(t, "type u {} type a { b: [a]; c: (b.d | [u]) & [u] - b.d; d: [u]; }")
	granted := read(t, "a:x#b@a:y", "a:y#d@u:m", "a:x#c@u:m", "a:x#b@a:z", "a:x#c@u:n", "a:z#d@u:o", "a:x#c@u:o", "a:x#c@u:p")
	crowd := []tuples.Thing{{Type: "u", Word: "m"}, {Type: "u", Word: "n"}, {Type: "u", Word: "o"}, {Type: "u", Word: "p"}, {Type: "u", Word: "q"}}
	got := l.Those(crowd, tuples.Subject{Thing: tuples.Thing{Type: "a", Word: "x"}, Relation: "c"}, granted)
	if want := []tuples.Thing{crowd[1], crowd[3]}; !slices.Equal(got, want) {
		t.Errorf("those are %v, want %v", got, want)
	}
}

func read(t *testing.T, texts ...string) []tuples.Tuple {
	t.Helper()
	var all []tuples.Tuple
	for _, text := range texts {
		one, ok := tuples.Read(text)
		if !ok {
			t.Fatalf("%q is no tuple", text)
		}
		all = append(all, one)
	}
	return all
}

// P8: a crowd may be greater than a set has room for.
func TestGreatCrowds(t *testing.T) {
	l := linesOf(t, "type u {} type v {} type a { b: [u*, v]; c: b; }")
	granted := read(t, "a:x#b@u:*", "a:x#b@v:n0", "a:x#b@v:n64", "a:x#b@v:n150")
	var crowd, want []tuples.Thing
	for i := range 200 {
		word := "n" + strconv.Itoa(i)
		crowd = append(crowd, tuples.Thing{Type: "u", Word: word}, tuples.Thing{Type: "v", Word: word}, tuples.Thing{Type: "a", Word: word})
		want = append(want, tuples.Thing{Type: "u", Word: word})
		if i == 0 || i == 64 || i == 150 {
			want = append(want, tuples.Thing{Type: "v", Word: word})
		}
	}
	for n := range len(crowd) + 1 {
		some := crowd[:n]
		got := l.Those(some, tuples.Subject{Thing: tuples.Thing{Type: "a", Word: "x"}, Relation: "c"}, granted)
		among := slices.DeleteFunc(slices.Clone(want), func(w tuples.Thing) bool { return !slices.Contains(some, w) })
		if !slices.Equal(got, among) {
			t.Fatalf("of %d: %v, want %v", n, got, among)
		}
	}
}
