package usher_test

import (
	"testing"

	"usher/api"
)

// P4: what is there already.
func TestTwice(t *testing.T) {
	wantRefused(t,
		refusal{"type a {} type a {}", api.ErrTwice, 15},
		refusal{"type a {} type b {} type a {}", api.ErrTwice, 25},
		refusal{"type a { b: [a]; b: [a]; }", api.ErrTwice, 17},
		refusal{"type a { b: [a]; c: [a]; b: c; }", api.ErrTwice, 25},
		refusal{"type a { } type b { c: [a]; c: [a]; } type a { }", api.ErrTwice, 28},
		refusal{"type a { } type a { c: [a]; c: [a]; }", api.ErrTwice, 16},
		refusal{"type a { b: [a]; } type a { b: [a]; }", api.ErrTwice, 24},
	)
	wantTaken(t, "type a { a: [a]; b: [a]; } type b { a: [a]; b: [b]; }")
}

// P4: what is not there.
func TestMissing(t *testing.T) {
	wantRefused(t,
		refusal{"type a { b: [a, a*, z]; }", api.ErrName, 20},
		refusal{"type a { b: [z*]; }", api.ErrName, 13},
		refusal{"type a { b: [z#y]; }", api.ErrName, 13},
		refusal{"type a { b: [b]; }", api.ErrName, 13},
		refusal{"type a { b: [a#c]; }", api.ErrName, 15},
		refusal{"type a { b: [c#b]; } type c { d: [c]; }", api.ErrName, 15},
		refusal{"type a { b: a; }", api.ErrName, 12},
		refusal{"type a { b: [c]; e: d; } type c { d: [c]; }", api.ErrName, 20},
		refusal{"type a { b: [c]; e: d.d; } type c { d: [c]; }", api.ErrName, 20},
	)
	wantTaken(t, "type a { b: [c, c*, c#d] & d; d: [a] | e; e: [a#b]; } type c { d: [a]; }")
}

// P4: behind a point stands a relation of a type that the relation ahead of it ties.
func TestMissingTies(t *testing.T) {
	wantRefused(t,
		refusal{"type a { b: [a]; c: b.d; }", api.ErrName, 22},
		refusal{"type a { b: [c]; e: b.e; } type c { d: [c]; }", api.ErrName, 22},
		refusal{"type a { b: [a*, c#d]; e: b.e | b.d; } type c { d: [c]; }", api.ErrName, 28},
		refusal{"type a { b: c; c: [a]; e: b.e; }", api.ErrName, 28},
		refusal{"type a { b: b; e: b.e; }", api.ErrName, 20},
	)
	wantTaken(t,
		"type a { b: [c]; e: b.d; } type c { d: [a]; }",
		"type a { b: [c, d]; e: b.d; } type c { } type d { d: [c]; }",
		"type a { b: [c] - ([c*] & [d, c*]); e: b.d; } type c { } type d { d: [c]; }",
		"type a { b: b.b | [a]; }",
	)
}

// P4: of the names that are not there the first in the text is told.
func TestFirstMissing(t *testing.T) {
	wantRefused(t,
		refusal{"type a { b: [a] - b - z; }", api.ErrName, 22},
		refusal{"type a { b: [a] | ([a] & ([a] - (z))) | y; }", api.ErrName, 33},
		refusal{"type a { b: [z] | [y]; c: x; }", api.ErrName, 13},
		refusal{"type a { b: z & [y]; }", api.ErrName, 12},
		refusal{"type a { e: b.z; b: [y]; }", api.ErrName, 14},
		refusal{"type a { b: [y]; e: b.z; }", api.ErrName, 13},
		refusal{"type a { b: z; } type c { d: y; }", api.ErrName, 12},
	)
}

// P4: ErrTwice goes ahead of ErrName, and that of ErrLoop, wherever they stand.
func TestOrderOfErrors(t *testing.T) {
	wantRefused(t,
		refusal{"type a { b: [z]; } type a { }", api.ErrTwice, 24},
		refusal{"type a { b: [a] - b; } type a { }", api.ErrTwice, 28},
		refusal{"type a { b: z; c: [a]; c: [a]; }", api.ErrTwice, 23},
		refusal{"type a { b: [a] - b; } type c { d: e; }", api.ErrName, 35},
	)
}

// P4: what is taken away hangs on what it is taken from, in each way in which it may.
func TestLoops(t *testing.T) {
	wantRefused(t,
		refusal{"type a { b: [a] - b; }", api.ErrLoop, 16},
		refusal{"type a { b: [a] - c; c: [a#b]; }", api.ErrLoop, 16},
		refusal{"type a { b: [a] - c; c: d; d: [a] | e; e: [a] & b; }", api.ErrLoop, 16},
		refusal{"type a { b: [a] - c; c: [a] - d; d: b; }", api.ErrLoop, 16},
		refusal{"type a { b: [a] - [a#b]; }", api.ErrLoop, 16},
		refusal{"type a { b: [a#b] - [a]; }", api.ErrLoop, 18},
		refusal{"type a { b: [a] - [a*] | ([a] & [a#c]); c: b; }", api.ErrLoop, 16},
		refusal{"type a { b: [a]; c: [a] - b.c; }", api.ErrLoop, 24},
		refusal{"type a { b: [f, a, g]; c: [a] - b.c; } type f { c: [a]; } type g { }", api.ErrLoop, 30},
		refusal{"type a { b: [f, g]; c: [a] - b.c; } type f { c: [a]; } type g { c: [a#c]; }", api.ErrLoop, 27},
		refusal{"type a { b: [a] - ([a*] | ([a] & (b))); }", api.ErrLoop, 16},
		refusal{"type a { b: [f#g]; } type f { g: [a] - h; h: [a#b]; }", api.ErrLoop, 37},
	)
}

// P4: the first `-` that is wrong is told, and the unit next to it alone counts.
func TestFirstLoop(t *testing.T) {
	wantRefused(t,
		refusal{"type a { b: [a] - c - b; c: [a]; }", api.ErrLoop, 20},
		refusal{"type a { b: [a] - b - b; }", api.ErrLoop, 16},
		refusal{"type a { b: ([a] - b) - b; }", api.ErrLoop, 17},
		refusal{"type a { b: [a] - ([a] - b); }", api.ErrLoop, 16},
		refusal{"type a { b: [a] | ([a] - b); }", api.ErrLoop, 23},
		refusal{"type a { b: [a] - c & b - c; c: [a]; d: d - [a] - d; }", api.ErrLoop, 48},
		refusal{"type a { c: c; } type d { e: [d] - e; }", api.ErrLoop, 33},
	)
}

// P4: circles that take nothing away, and what is taken away without a circle.
func TestNoLoops(t *testing.T) {
	wantTaken(t,
		"type a { b: b; }",
		"type a { b: c; c: b; }",
		"type a { b: [a] - [a]; }",
		"type a { b: b - [a, a*]; }",
		"type a { b: b & b - c | b; c: [a]; }",
		"type a { b: [a] - c; c: [a#c] | c; }",
		"type a { b: [a] - c; c: d - [a]; d: d; }",
		"type a { b: [a] - c.d | b; c: [a, a#b]; d: [a]; }",
		"type a { b: [a] - c.b; c: [f]; } type f { b: [a]; }",
		"type a { b: [a] - c; c: [f#b]; } type f { b: [a]; }",
		"type a { b: [a] - (c | c) & b; c: [a]; }",
		docs,
	)
}
