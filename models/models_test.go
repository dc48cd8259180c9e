package models

import (
	"errors"
	"strings"
	"testing"

	"usher/api"
)

// P3, P4: an error is asked for by its type, and so is its place, however deep it came up.
func TestErrorsAreWrapped(t *testing.T) {
	for text, want := range map[string]Placed{
		"type a { b: ((([a)": {17, Fault(api.ErrText)},
		"type abcdefghi":     {5, Fault(api.ErrSize)},
		"type a{b:[a];b:b;}": {13, Fault(api.ErrTwice)},
		"type a{b:[a,c];}":   {12, Fault(api.ErrName)},
		"type a{b:[a]-(b);}": {12, Fault(api.ErrLoop)},
	} {
		_, err := Read(text)
		var placed Placed
		var fault Fault
		if !errors.As(err, &placed) || !errors.As(err, &fault) || placed.At() != want.At() || fault != want.Err {
			t.Errorf("Read(%q): %v, want %v", text, err, want)
		}
		if !errors.Is(err, want.Err) || err.Error() != want.Error() {
			t.Errorf("Read(%q): %v, want %v", text, err, want)
		}
	}
}

// P3: a text that is too long is wrong at no place of its own.
func TestLongHasNoPlace(t *testing.T) {
	_, err := Read(string(make([]byte, api.MaxText+1)))
	var placed Placed
	if err != Fault(api.ErrLong) || errors.As(err, &placed) {
		t.Errorf("Read of a long text: %v", err)
	}
}

// P5: the parts of an expression are taken from the left, brackets first, and know their places.
func TestPartsStandInOrder(t *testing.T) {
	m, err := Read("type a{b:[a];c:(b|b.b)&(b-[a,a*])-b;}")
	if err != nil {
		t.Fatal(err)
	}
	body := m.Types[0].Relations[1].Body
	outer, ok := body.(Less)
	if !ok || outer.At() != 33 {
		t.Fatalf("the whole is %T at %d", body, body.At())
	}
	if _, ok := outer.Left.(Both); !ok {
		t.Errorf("left of it is %T", outer.Left)
	}
	want := []int{16, 17, 18, 22, 24, 25, 26, 33, 34}
	for i, p := range parts(body) {
		if i >= len(want) || p.At() != want[i] {
			t.Errorf("part %d is a %T at %d, want %v", i, p, p.At(), want)
		}
	}
}

// P8: what a relation hangs on goes ahead of it; those that hang on each other go together.
func TestSteps(t *testing.T) {
	for text, want := range map[string]string{
		"":                                   "",
		"type a {}":                          "",
		"type a { b: [a]; c: b; d: c | b; }": "a.b/a.c/a.d",
		"type a { d: c | b; c: b; b: [a]; }": "a.b/a.c/a.d",
		"type a { b: [a#c] - d; c: b; d: [a#d]; e: e; }":                      "a.d a.e//a.b a.c",
		"type a { b: [b]; c: b.c - d; d: b.d; } type b { c: [a#c]; d: [b]; }": "a.b b.d/a.d//a.c b.c",
	} {
		m, err := Read(text)
		if err != nil {
			t.Fatalf("%q: %v", text, err)
		}
		var steps []string
		for _, step := range m.Steps() {
			var names []string
			for _, r := range step {
				names = append(names, r.Kind+"."+r.Text)
			}
			steps = append(steps, strings.Join(names, " "))
		}
		if got := strings.Join(steps, "/"); got != want {
			t.Errorf("%q: %q, want %q", text, got, want)
		}
	}
}
