package usher_test

import (
	"strings"
	"testing"

	"usher/api"
)

const (
	fiveTypes    = "type a{}type b{}type c{}type d{}type e{}"
	sixRelations = "type a{b:[a];c:[a];d:[a];e:[a];f:[a];g:[a];"
)

// P3: the length goes first, whatever the text is.
func TestLength(t *testing.T) {
	wantWritten(t, strings.Repeat("\n", api.MaxText), "")
	wantWritten(t, "type a {}"+strings.Repeat(" ", api.MaxText-9), "type a {\n}\n")
	wantRefused(t,
		refusal{"type a {}" + strings.Repeat(" ", api.MaxText-8), api.ErrLong, 0},
		refusal{strings.Repeat("\x00", api.MaxText+1), api.ErrLong, 0},
		refusal{strings.Repeat("\x00", api.MaxText), api.ErrText, 0},
		refusal{"type a" + strings.Repeat(" ", api.MaxText-6), api.ErrText, api.MaxText},
		refusal{strings.Repeat("a", api.MaxText), api.ErrText, 0},
		refusal{"type " + strings.Repeat("a", api.MaxText-5), api.ErrSize, 5},
		refusal{strings.Repeat("type a {} ", 1000), api.ErrLong, 0},
	)
}

// P3: ErrText stands at the first token that no model has there.
func TestWrongTokens(t *testing.T) {
	wantRefused(t,
		refusal{"a", api.ErrText, 0},
		refusal{"types a {}", api.ErrText, 0},
		refusal{"{", api.ErrText, 0},
		refusal{"type { }", api.ErrText, 5},
		refusal{"type\ttype\n{}", api.ErrText, 5},
		refusal{"type a b", api.ErrText, 7},
		refusal{"type a : {}", api.ErrText, 7},
		refusal{"type a { : }", api.ErrText, 9},
		refusal{"type a { type b {} }", api.ErrText, 9},
		refusal{"type a { b }", api.ErrText, 11},
		refusal{"type a { b: }", api.ErrText, 12},
		refusal{"type a { b: ; }", api.ErrText, 12},
		refusal{"type a { b: c }", api.ErrText, 14},
		refusal{"type a { b: | [a]; }", api.ErrText, 12},
		refusal{"type a { b: a b; }", api.ErrText, 14},
		refusal{"type a { b: b. ; }", api.ErrText, 15},
		refusal{"type a { b: b.type; }", api.ErrText, 14},
		refusal{"type a { b: b.[a]; }", api.ErrText, 14},
		refusal{"type a { b: .b; }", api.ErrText, 12},
		refusal{"type a { b: b.b.b; }", api.ErrText, 15},
		refusal{"type a { b: (b).b; }", api.ErrText, 15},
		refusal{"type a { b: b#b; }", api.ErrText, 13},
		refusal{"type a { b: b*; }", api.ErrText, 13},
		refusal{"type a { b: []; }", api.ErrText, 13},
		refusal{"type a { b: [type]; }", api.ErrText, 13},
		refusal{"type a { b: [a a]; }", api.ErrText, 15},
		refusal{"type a { b: [a**]; }", api.ErrText, 15},
		refusal{"type a { b: [*]; }", api.ErrText, 13},
		refusal{"type a { b: [a#b*]; }", api.ErrText, 16},
		refusal{"type a { b: [a#type]; }", api.ErrText, 15},
		refusal{"type a { b: [(a)]; }", api.ErrText, 13},
		refusal{"type a { b: [,a]; }", api.ErrText, 13},
		refusal{"type a { b: [a,]; }", api.ErrText, 15},
		refusal{"type a { b: [a.b]; }", api.ErrText, 14},
		refusal{"type a { b: [a][a]; }", api.ErrText, 15},
		refusal{"type a { b: ([a]]; }", api.ErrText, 16},
		refusal{"type a { b: [a]); }", api.ErrText, 15},
		refusal{"type a { b: ([a]; }", api.ErrText, 16},
		refusal{"type a { b: (); }", api.ErrText, 13},
		refusal{"type a { b: [a]; };", api.ErrText, 18},
		refusal{"type a { b: [a];; }", api.ErrText, 16},
		refusal{"type a { b:: [a]; }", api.ErrText, 11},
		refusal{"type a {} a", api.ErrText, 10},
	)
}

// P3: a byte of no token stands nowhere, and at these three places no sign does.
func TestWrongBytes(t *testing.T) {
	for c := range 256 {
		s := string([]byte{byte(c)})
		if strings.Contains(" \t\nabcdefghijklmnopqrstuvwxyz", s) {
			continue
		}
		wantRefused(t,
			refusal{s, api.ErrText, 0},
			refusal{"type " + s + " {}", api.ErrText, 5},
			refusal{"type a {}" + s, api.ErrText, 9},
		)
	}
}

// P3: a digit is part of a word behind a letter, and stands nowhere else.
func TestDigits(t *testing.T) {
	wantWritten(t, "type a0z9{b1:[a0z9];}", "type a0z9 {\n\tb1: [a0z9];\n}\n")
	wantRefused(t,
		refusal{"type 0a {}", api.ErrText, 5},
		refusal{"type a 0{}", api.ErrText, 7},
		refusal{"type a { b: [a] 7; }", api.ErrText, 16},
		refusal{"type a { b: [9]; }", api.ErrText, 13},
	)
}

// P3: where the text ends too soon, its length is the place, blanks at its end counted.
func TestCutShort(t *testing.T) {
	const model = "type a { b: [a , a# b,a *] |b .b - ( (a) & c ) ; d :e; }"
	for n := len("type"); n < len(model); n++ {
		wantRefused(t, refusal{model[:n], api.ErrText, n})
	}
	wantRefused(t,
		refusal{"type a {} type", api.ErrText, 14},
		refusal{"type a { b: ([a] \n\t", api.ErrText, 19},
	)
}

// P3: the bounds, each met.
func TestSizesMet(t *testing.T) {
	wantTaken(t,
		"type abcdefg9 { bcdefgh9: [abcdefg9#bcdefgh9]; c: bcdefgh9; }",
		fiveTypes,
		sixRelations+"}",
		"type z{}"+sixRelations+"}type y{h:[a];}",
		"type a { a: [a]; b: ((((a))))&((((a)))); }",
	)
}

// P3: the bounds, each passed by one.
func TestSizesPassed(t *testing.T) {
	wantRefused(t,
		refusal{"type abcdefgh9 {}", api.ErrSize, 5},
		refusal{"type a { abcdefgh9", api.ErrSize, 9},
		refusal{"type a { b: abcdefgh9", api.ErrSize, 12},
		refusal{"type a { b: b.abcdefgh9", api.ErrSize, 14},
		refusal{"type a { b: [abcdefgh9", api.ErrSize, 13},
		refusal{"type a { b: [a#abcdefgh9", api.ErrSize, 15},
		refusal{fiveTypes + "type", api.ErrSize, 40},
		refusal{strings.Repeat("type a{}", 6), api.ErrSize, 40},
		refusal{sixRelations + "h", api.ErrSize, 43},
		refusal{"type a{b:b;b:b;b:b;b:b;b:b;b:b;b:b;}", api.ErrSize, 31},
		refusal{"type a { b: ((((([a]))))); }", api.ErrSize, 16},
		refusal{"type a { b: a&((((a|(b", api.ErrSize, 20},
		refusal{"type a { b: ((((a)&(b)&((", api.ErrSize, 24},
	)
}

// P3: the first wrong token tells; where a token is wrong in two ways, ErrText goes first.
func TestFirstToken(t *testing.T) {
	wantRefused(t,
		refusal{"abcdefghi", api.ErrText, 0},
		refusal{"type abcdefghi ?", api.ErrSize, 5},
		refusal{"type ? abcdefghi", api.ErrText, 5},
		refusal{"type a abcdefghi", api.ErrText, 7},
		refusal{"type a { b: [a] abcdefghi; }", api.ErrText, 16},
		refusal{"type a { b: ((((a(", api.ErrText, 17},
		refusal{"type a { b: ((((a)))(", api.ErrText, 20},
		refusal{fiveTypes + "abcdefghi", api.ErrText, 40},
		refusal{fiveTypes + "(", api.ErrText, 40},
		refusal{sixRelations + "type", api.ErrText, 43},
	)
}

// P3, P4: no token may be wrong before names are looked at.
func TestTokensAheadOfNames(t *testing.T) {
	wantRefused(t,
		refusal{"type a {} type a {} type abcdefghi {}", api.ErrSize, 25},
		refusal{"type a { b: z; } ?", api.ErrText, 17},
		refusal{"type a { b: [a] - b; } type", api.ErrText, 27},
	)
}
