package usher_test

import (
	"slices"
	"testing"

	"usher/api"
	"usher/usher"
)

const docs = "type user { } type group { member: [user, group#member]; } type doc { parent: [doc]; owner: [user]; banned: [user, user*]; editor: [user, group#member] | owner | parent.editor; viewer: ([user*] | editor) - banned; }"

const docsInOrder = `type user {
}
type group {
	member: [user, group#member];
}
type doc {
	parent: [doc];
	owner: [user];
	banned: [user, user*];
	editor: [user, group#member] | owner | parent.editor;
	viewer: ([user*] | editor) - banned;
}
`

type refusal struct {
	text  string
	errno api.Errno
	place int
}

func wantRefused(t *testing.T, cases ...refusal) {
	t.Helper()
	for _, c := range cases {
		s, e, at := usher.Print(c.text)
		if s != "" || e != c.errno || at != c.place {
			t.Errorf("Print(%.80q) = %q, %d, %d, want error %d at %d", c.text, s, e, at, c.errno, c.place)
		}
	}
}

func wantTaken(t *testing.T, texts ...string) {
	t.Helper()
	for _, text := range texts {
		if _, e, at := usher.Print(text); e != api.OK || at != 0 {
			t.Errorf("Print(%q) = error %d at %d, want none", text, e, at)
		}
	}
}

func wantWritten(t *testing.T, text, want string) {
	t.Helper()
	if s, e, at := usher.Print(text); s != want || e != api.OK || at != 0 {
		t.Errorf("Print(%q) = %q, %d, %d, want %q", text, s, e, at, want)
	}
}

func wantChecks(t *testing.T, u *usher.Usher, thing, relation string, want bool, whos ...string) {
	t.Helper()
	for _, who := range whos {
		if in, e := u.Check(thing, relation, who); in != want || e != api.OK {
			t.Errorf("Check(%q, %q, %q) = %v, %d, want %v", thing, relation, who, in, e, want)
		}
	}
}

func wantWho(t *testing.T, u *usher.Usher, thing, relation string, want ...string) {
	t.Helper()
	if list, e := u.Who(thing, relation); !slices.Equal(list, want) || e != api.OK {
		t.Errorf("Who(%q, %q) = %q, %d, want %q", thing, relation, list, e, want)
	}
}
