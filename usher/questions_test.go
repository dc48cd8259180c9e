package usher_test

import (
	"slices"
	"strconv"
	"strings"
	"testing"

	"usher/api"
	"usher/usher"
)

func beginWith(t *testing.T, model string, grants ...string) *usher.Usher {
	t.Helper()
	u := begin(t, model)
	wantWrites(t, u, api.OK, grants...)
	return u
}

// P8 to P10: the document's examples.
func TestQuestionsDocs(t *testing.T) {
	u := beginWith(t, docs, "group:g#member@user:ann", "group:h#member@group:g#member", "doc:top#editor@group:h#member", "doc:sub#parent@doc:top")
	wantChecks(t, u, "doc:sub", "viewer", true, "user:ann")
	wantChecks(t, u, "doc:sub", "viewer", false, "user:bob")
	wantWrites(t, u, api.OK, "doc:sub#viewer@user:*")
	wantChecks(t, u, "doc:sub", "viewer", true, "user:ann", "user:bob")
	wantWho(t, u, "doc:sub", "viewer", "user:*", "user:ann")
	wantWrites(t, u, api.OK, "doc:sub#banned@user:ann")
	wantChecks(t, u, "doc:sub", "viewer", false, "user:ann")
	wantWho(t, u, "doc:sub", "viewer", "user:*")
	wantWrites(t, u, api.OK, "doc:sub#banned@user:*")
	wantWho(t, u, "doc:sub", "viewer")
	wantWrites(t, u, api.OK, "group:g#member@group:h#member")
	wantChecks(t, u, "group:g", "member", false, "user:bob")
	wantChecks(t, u, "group:g", "member", true, "user:ann")
	wantDeletes(t, u, api.OK, "group:g#member@user:ann")
	wantChecks(t, u, "group:g", "member", false, "user:ann")
	wantWho(t, u, "doc:sub", "editor")
}

// P8: a list counts a thing that is granted, all things of a type, and those that stand in a relation; for that thing and that relation alone.
func TestLists(t *testing.T) {
	u := beginWith(t, "type u {} type v {} type t { a: [u, v, v*, t#b]; b: [u, t]; }", "t:x#a@u:m", "t:y#a@v:*", "t:x#b@u:n", "t:x#b@t:x", "t:z#a@t:x#b", "t:w#b@u:m")
	wantChecks(t, u, "t:x", "a", true, "u:m")
	wantChecks(t, u, "t:x", "a", false, "u:n", "v:m", "t:x", "t:y")
	wantChecks(t, u, "t:y", "a", true, "v:m", "v:any", "v:type")
	wantChecks(t, u, "t:y", "a", false, "u:m", "t:x", "t:y")
	wantChecks(t, u, "t:z", "a", true, "u:n", "t:x")
	wantChecks(t, u, "t:z", "a", false, "u:m", "t:z", "v:n")
	wantChecks(t, u, "t:z", "b", false, "u:n", "t:x", "u:m")
	wantChecks(t, u, "t:w", "a", false, "u:m")
	wantChecks(t, u, "t:other", "a", false, "u:m", "v:m", "t:other")
}

// P8: groups of groups, as many as there is room for, whichever way round they were written.
func TestLongChains(t *testing.T) {
	const model = "type u {} type g { a: b; b: c; c: d; d: [u, g, g#a] | up.a; up: [g]; }"
	for _, join := range []string{"#d@g:%#a", "#up@g:%"} {
		var chain []string
		for i := range api.MaxGrants - 1 {
			chain = append(chain, "g:t"+strconv.Itoa(i)+strings.Replace(join, "%", "t"+strconv.Itoa(i+1), 1))
		}
		last := "g:t" + strconv.Itoa(len(chain))
		chain = append(chain, last+"#d@u:m")
		for range 2 {
			u := beginWith(t, model, chain...)
			wantWho(t, u, "g:t0", "a", "u:m")
			wantChecks(t, u, "g:t0", "a", false, "u:n", "g:t0", last)
			wantDeletes(t, u, api.OK, chain[len(chain)/2])
			wantWho(t, u, "g:t0", "a")
			slices.Reverse(chain)
		}
	}
}

// P8: a tie leads by what is granted outright to single things, and to the relation of those that have it.
func TestTies(t *testing.T) {
	u := beginWith(t, "type u {} type t { by: [t, s, u] | via; via: [t]; all: [t, t*, t#m]; m: [u]; x: by.m; y: all.m; } type s { m: [u, u*]; }",
		"t:a#by@t:b", "t:a#by@s:b", "t:a#by@u:b", "t:b#m@u:one", "s:b#m@u:two", "t:a#m@u:own",
		"t:c#via@t:b", "t:d#all@t:*", "t:e#all@t:b#m", "t:f#all@t:b", "t:g#by@t:a")
	wantWho(t, u, "t:a", "x", "u:one", "u:two")
	wantWho(t, u, "t:b", "x")
	wantWho(t, u, "t:c", "by", "t:b")
	wantWho(t, u, "t:c", "x")
	wantWho(t, u, "t:d", "y")
	wantWho(t, u, "t:e", "y")
	wantWho(t, u, "t:f", "y", "u:one")
	wantWho(t, u, "t:g", "x", "u:own")
	wantWrites(t, u, api.OK, "s:b#m@u:*")
	wantWho(t, u, "t:a", "x", "u:*", "u:b", "u:one", "u:own", "u:two")
}

// P8: what is taken away from a relation, or is not in both of its sides, is tied by it all the same.
func TestTiesByWhatIsGranted(t *testing.T) {
	u := beginWith(t, "type u {} type t { by: [t] - cut & cut; cut: [t]; m: [u]; x: by.m; }", "t:a#by@t:b", "t:a#cut@t:b", "t:b#m@u:one")
	wantWho(t, u, "t:a", "by")
	wantWho(t, u, "t:a", "x", "u:one")
}

// P8: the signs, from the left, and brackets.
func TestSigns(t *testing.T) {
	u := beginWith(t, "type u {} type t { a: [u]; b: [u]; c: [u]; d: a - b - c; e: a - (b - c); f: a - b & c; } type s { p: [t]; g: p.a - (p.b & p.c); h: p.a & (p.b | p.c) - p.b; i: p.a | p.b & p.c; j: (p.a | p.b) & p.c; k: p.c - p.c; }",
		"t:x#a@u:a", "t:x#a@u:ab", "t:x#a@u:ac", "t:x#a@u:abc", "t:x#b@u:b", "t:x#b@u:ab", "t:x#b@u:bc", "t:x#b@u:abc",
		"t:x#c@u:c", "t:x#c@u:ac", "t:x#c@u:bc", "t:x#c@u:abc", "s:x#p@t:x")
	wantWho(t, u, "t:x", "d", "u:a")
	wantWho(t, u, "t:x", "e", "u:a", "u:abc", "u:ac")
	wantWho(t, u, "t:x", "f", "u:ac")
	wantWho(t, u, "s:x", "g", "u:a", "u:ab", "u:ac")
	wantWho(t, u, "s:x", "h", "u:ac")
	wantWho(t, u, "s:x", "i", "u:a", "u:ab", "u:abc", "u:ac", "u:bc")
	wantWho(t, u, "s:x", "j", "u:abc", "u:ac", "u:bc")
	wantWho(t, u, "s:x", "k")
}

// P8: each list counts all tuples of its relation, and of no other.
func TestSeveralLists(t *testing.T) {
	u := beginWith(t, "type u {} type v {} type t { a: [u] & [v]; b: [u] - [v]; c: [v] | a; d: a & [t#c] & [u]; }",
		"t:x#a@u:m", "t:x#a@v:m", "t:x#b@u:m", "t:x#b@v:m", "t:x#c@v:n", "t:x#d@t:x#c", "t:x#d@u:o")
	wantWho(t, u, "t:x", "a", "u:m", "v:m")
	wantWho(t, u, "t:x", "b")
	wantWho(t, u, "t:x", "c", "u:m", "v:m", "v:n")
	wantWho(t, u, "t:x", "d", "u:m", "v:m")
}

// P8: a circle of groups counts what comes into it, and nothing more.
func TestCirclesOfGroups(t *testing.T) {
	u := beginWith(t, "type u {} type g { m: [u, g#m, g#n]; n: [g#m]; }", "g:a#m@g:b#m", "g:b#m@g:c#n", "g:c#n@g:a#m", "g:d#m@g:d#m")
	for _, thing := range []string{"g:a", "g:b", "g:c", "g:d"} {
		wantWho(t, u, thing, "m")
		wantWho(t, u, thing, "n")
		wantChecks(t, u, thing, "m", false, "u:m", "g:a", thing)
	}
	wantWrites(t, u, api.OK, "g:b#m@u:m", "g:d#m@u:n")
	wantWho(t, u, "g:a", "m", "u:m")
	wantWho(t, u, "g:b", "m", "u:m")
	wantWho(t, u, "g:c", "n", "u:m")
	wantWho(t, u, "g:c", "m")
	wantWho(t, u, "g:d", "m", "u:n")
	wantDeletes(t, u, api.OK, "g:b#m@u:m")
	wantWho(t, u, "g:a", "m")
}

// P8: so does a circle of things that are tied to things, and one of both kinds.
func TestCirclesOfTies(t *testing.T) {
	u := beginWith(t, "type u {} type f { up: [f]; x: [u] | up.x; y: up.y | [u, f#z]; z: up.y & x; }",
		"f:a#up@f:b", "f:b#up@f:c", "f:c#up@f:a", "f:d#up@f:d", "f:c#y@f:b#z")
	for _, thing := range []string{"f:a", "f:b", "f:c", "f:d"} {
		for _, relation := range []string{"x", "y", "z"} {
			wantWho(t, u, thing, relation)
		}
	}
	wantWrites(t, u, api.OK, "f:b#x@u:m", "f:d#x@u:o")
	for _, thing := range []string{"f:a", "f:b", "f:c"} {
		wantWho(t, u, thing, "x", "u:m")
		wantWho(t, u, thing, "y")
	}
	wantWho(t, u, "f:d", "x", "u:o")
	wantWrites(t, u, api.OK, "f:a#y@u:m", "f:a#y@u:n")
	for _, thing := range []string{"f:a", "f:b", "f:c"} {
		wantWho(t, u, thing, "y", "u:m", "u:n")
		wantWho(t, u, thing, "z", "u:m")
	}
}

// P8: names that go round among themselves tell of nobody but whom a list lets in.
func TestCirclesOfNames(t *testing.T) {
	u := beginWith(t, "type u {} type t { a: a; b: c & [u] | d; c: b | [u]; d: b & c; e: e | [t#e, u] - a; f: f & f; }", "t:x#b@u:m", "t:x#e@t:x#e")
	for _, relation := range []string{"a", "b", "c", "d", "e", "f"} {
		wantWho(t, u, "t:x", relation)
	}
	wantWrites(t, u, api.OK, "t:x#c@u:m", "t:x#c@u:n", "t:x#e@u:o")
	wantWho(t, u, "t:x", "b", "u:m")
	wantWho(t, u, "t:x", "c", "u:m", "u:n")
	wantWho(t, u, "t:x", "d", "u:m")
	wantWho(t, u, "t:x", "e", "u:o")
}

// P8: what is taken away is known first, be it written ahead or behind, and be circles in it.
func TestTakenAway(t *testing.T) {
	const grants = "t:x#no@t:y#no t:y#no@t:z#no t:z#no@t:x#no t:z#no@u:m t:x#so@u:m t:x#so@u:n t:y#so@t:x#so t:x#so@t:y#so t:y#up@t:x t:x#up@t:y"
	for _, model := range []string{
		"type u {} type t { up: [t]; no: [u, t#no]; so: [u, t#so] - no; go: up.so - on; on: so - no; }",
		"type u {} type t { go: up.so - on; on: so - no; so: [u, t#so] - no; no: [u, t#no]; up: [t]; }",
	} {
		u := beginWith(t, model, strings.Fields(grants)...)
		wantWho(t, u, "t:x", "no", "u:m")
		wantWho(t, u, "t:x", "so", "u:n")
		wantWho(t, u, "t:y", "so", "u:n")
		wantWho(t, u, "t:y", "on", "u:n")
		wantWho(t, u, "t:y", "go")
		wantDeletes(t, u, api.OK, "t:z#no@u:m")
		wantWho(t, u, "t:x", "so", "u:m", "u:n")
		wantWrites(t, u, api.OK, "t:y#no@u:n")
		wantWho(t, u, "t:y", "so", "u:m")
		wantWho(t, u, "t:y", "go")
	}
}

// P8: what is to be taken away never gets into a circle to begin with.
func TestTakenAwayAheadOfCircles(t *testing.T) {
	for _, model := range []string{
		"type u {} type t { so: one - no | up.so; one: [u]; up: [t]; no: [t#far]; far: [t#farther]; farther: [u]; }",
		"type u {} type t { farther: [u]; far: [t#farther]; no: [t#far]; up: [t]; one: [u]; so: one - no | up.so; }",
	} {
		u := beginWith(t, model, "t:x#one@u:m", "t:x#one@u:n", "t:x#up@t:y", "t:y#up@t:x", "t:x#no@t:v#far", "t:v#far@t:w#farther", "t:w#farther@u:m")
		wantWho(t, u, "t:x", "so", "u:n")
		wantWho(t, u, "t:y", "so", "u:n")
		wantDeletes(t, u, api.OK, "t:w#farther@u:m")
		wantWho(t, u, "t:y", "so", "u:m", "u:n")
	}
}

// P8: all things of a type, but for some; those that stand in no tuple are among them.
func TestAllBut(t *testing.T) {
	u := beginWith(t, "type u {} type t { a: [u*, t*]; b: [u, u*]; c: a - b; d: a & b; }", "t:x#a@u:*", "t:x#b@u:m", "t:y#a@t:*", "t:y#b@u:*")
	wantWho(t, u, "t:x", "c", "u:*")
	wantChecks(t, u, "t:x", "c", false, "u:m", "t:x")
	wantChecks(t, u, "t:x", "c", true, "u:n")
	wantWho(t, u, "t:x", "d", "u:m")
	wantWho(t, u, "t:y", "c", "t:*", "t:x", "t:y")
	wantWho(t, u, "t:y", "d")
	wantChecks(t, u, "t:y", "c", true, "t:x", "t:y", "t:z")
}

// P9, P10: which error goes first; the same for both questions.
func TestQuestionErrors(t *testing.T) {
	u := beginWith(t, docs, "doc:d#viewer@user:*")
	for _, c := range []struct {
		thing, relation, who string
		want                 api.Errno
	}{
		{"", "viewer", "user:a", api.ErrText}, {"doc", "viewer", "user:a", api.ErrText}, {"doc:", "viewer", "user:a", api.ErrText}, {":d", "viewer", "user:a", api.ErrText}, {":", "viewer", "user:a", api.ErrText},
		{"doc:*", "viewer", "user:a", api.ErrText}, {"doc:d#viewer", "viewer", "user:a", api.ErrText}, {"doc:d ", "viewer", "user:a", api.ErrText}, {" doc:d", "viewer", "user:a", api.ErrText}, {"doc: d", "viewer", "user:a", api.ErrText},
		{"doc:d:e", "viewer", "user:a", api.ErrText}, {"doc:1", "viewer", "user:a", api.ErrText}, {"Doc:d", "viewer", "user:a", api.ErrText}, {"doc:abcdefghi", "viewer", "user:a", api.ErrText}, {"abcdefghi:d", "viewer", "user:a", api.ErrText},
		{"doc:d", "", "user:a", api.ErrText}, {"doc:d", "*", "user:a", api.ErrText}, {"doc:d", "viewer ", "user:a", api.ErrText}, {"doc:d", "1a", "user:a", api.ErrText}, {"doc:d", "abcdefghi", "user:a", api.ErrText}, {"doc:d", "view\xff", "user:a", api.ErrText},
		{"doc:d", "viewer", "", api.ErrText}, {"doc:d", "viewer", "user", api.ErrText}, {"doc:d", "viewer", "user:*", api.ErrText}, {"doc:d", "viewer", "group:g#member", api.ErrText}, {"doc:d", "viewer", "user:abcdefghi", api.ErrText}, {"doc:d", "viewer", "abcdefghi:a", api.ErrText},
		{"z:d", "viewer", "user:*", api.ErrText}, {"doc:d", "nobody", "", api.ErrText}, {"z:d", "no body", "user:a", api.ErrText}, {"doc", "nobody", "z:a", api.ErrText}, {"z:d", "nobody", "z:a b", api.ErrText},
		{"z:d", "viewer", "user:a", api.ErrName}, {"doc:d", "nobody", "user:a", api.ErrName}, {"doc:d", "member", "user:a", api.ErrName}, {"user:a", "viewer", "user:a", api.ErrName}, {"type:d", "viewer", "user:a", api.ErrName},
		{"doc:d", "type", "user:a", api.ErrName}, {"doc:d", "doc", "user:a", api.ErrName}, {"viewer:d", "viewer", "user:a", api.ErrName}, {"doc:d", "viewer", "z:a", api.ErrName}, {"doc:d", "viewer", "type:a", api.ErrName}, {"doc:d", "viewer", "viewer:a", api.ErrName},
		{"doc:abcdefgh", "viewer", "user:abcdefgh", api.OK}, {"doc:type", "viewer", "user:type", api.OK}, {"doc:d", "parent", "group:a", api.OK},
	} {
		if in, e := u.Check(c.thing, c.relation, c.who); in || e != c.want {
			t.Errorf("Check(%q, %q, %q) = %v, %d, want error %d", c.thing, c.relation, c.who, in, e, c.want)
		}
		if c.who == "user:a" {
			if list, e := u.Who(c.thing, c.relation); list != nil || e != c.want {
				t.Errorf("Who(%q, %q) = %q, %d, want error %d", c.thing, c.relation, list, e, c.want)
			}
		}
	}
	wantWho(t, u, "doc:d", "viewer", "user:*")
}

// P9, P10: a model without types, or without relations, has nothing to ask for.
func TestNothingToAsk(t *testing.T) {
	for _, model := range []string{"", "type a {}"} {
		u := begin(t, model)
		if in, e := u.Check("a:x", "b", "a:x"); in || e != api.ErrName {
			t.Errorf("Check = %v, %d", in, e)
		}
		if list, e := u.Who("a:x", "b"); len(list) > 0 || e != api.ErrName {
			t.Errorf("Who = %q, %d", list, e)
		}
	}
}

// P10: things are told of if they stand in a tuple, be it as its thing, as its subject or ahead of `#`, and not because they were asked of.
func TestWhoIsTold(t *testing.T) {
	u := beginWith(t, "type u {} type g { m: [u]; } type t { a: [u*, g*, t*]; b: [u, g#m]; }", "t:x#a@u:*", "t:x#a@g:*", "t:x#a@t:*")
	wantWho(t, u, "t:x", "a", "g:*", "t:*", "t:x", "u:*")
	wantChecks(t, u, "t:x", "a", true, "t:new", "u:new", "g:new")
	wantWho(t, u, "t:x", "a", "g:*", "t:*", "t:x", "u:*")
	wantWrites(t, u, api.OK, "t:y#b@u:m", "t:y#b@g:h#m")
	wantWho(t, u, "t:x", "a", "g:*", "g:h", "t:*", "t:x", "t:y", "u:*", "u:m")
	wantWho(t, u, "t:new", "a")
	wantDeletes(t, u, api.OK, "t:y#b@g:h#m", "t:x#a@t:*")
	wantWho(t, u, "t:x", "a", "g:*", "u:*", "u:m")
}

// P10: the order is that of whole strings: a digit stands ahead of the colon, `*` ahead of every word.
func TestWhoOrder(t *testing.T) {
	want := []string{"a1:*", "a1:b", "a1:c", "a:*", "a:b", "a:b1", "a:bb", "a:t", "aa:*", "aa:b"}
	if !slices.IsSorted(want) {
		t.Fatal("what is wanted is not sorted")
	}
	u := beginWith(t, "type aa {} type a { r: [a, a1, aa, aa*, a*, a1*]; } type a1 {}",
		"a:t#r@aa:b", "a:t#r@a:bb", "a:t#r@a1:c", "a:t#r@a:b1", "a:t#r@a:*", "a:t#r@a:b", "a:t#r@a1:*", "a:t#r@a1:b", "a:t#r@aa:*")
	wantWho(t, u, "a:t", "r", want...)
}

// P10: as many as can be told of.
func TestWhoTellsMany(t *testing.T) {
	u := begin(t, "type a { r: [a, b, c, d, e, a*, b*, c*, d*, e*]; } type b { r: [b]; } type c {} type d {} type e {}")
	want := []string{"a:*", "b:*", "c:*", "d:*", "e:*", "a:t"}
	for _, s := range want[:5] {
		wantWrites(t, u, api.OK, "a:t#r@"+s)
	}
	for i := range api.MaxGrants - 5 {
		thing, subject := "b:t"+strconv.Itoa(i), "b:s"+strconv.Itoa(i)
		wantWrites(t, u, api.OK, thing+"#r@"+subject)
		want = append(want, thing, subject)
	}
	slices.Sort(want)
	wantWho(t, u, "a:t", "r", want...)
}

// P2: a list that came out is the caller's, spare room too.
func TestWhoIsTheCallers(t *testing.T) {
	u := begin(t, docs)
	var want []string
	for i := range api.MaxGrants {
		first, _ := u.Who("doc:owners", "owner")
		second, _ := u.Who("doc:owners", "owner")
		other, _ := u.Who("doc:owners", "editor")
		room := first[:cap(first)]
		for k := range room {
			room[k] = "mine"
		}
		if !slices.Equal(second, want) || !slices.Equal(other, want) {
			t.Errorf("another list has changed: %q, %q", second, other)
		}
		wantWho(t, u, "doc:owners", "owner", want...)
		wantGrants(t, u, someOwners(i)...)
		wantWrites(t, u, api.OK, someOwners(i + 1)[i])
		want = append(want, "user:u"+string(rune('a'+i)))
		wantWho(t, u, "doc:owners", "owner", want...)
		if slices.ContainsFunc(room, func(s string) bool { return s != "mine" }) {
			t.Errorf("the caller's list has changed: %q", room)
		}
	}
}

// P2: nothing of what was asked is kept, and what is told outlives its cause.
func TestQuestionsAreNotKept(t *testing.T) {
	var u *usher.Usher
	shaky(docs, func(s string) { u = begin(t, s) })
	shaky("doc:d#owner@user:ann", func(s string) { wantWrites(t, u, api.OK, s) })
	shaky("doc:d", func(s string) { wantWho(t, u, s, "editor", "user:ann") })
	shaky("editor", func(s string) { wantWho(t, u, "doc:d", s, "user:ann") })
	shaky("user:ann", func(s string) { wantChecks(t, u, "doc:d", "editor", true, s) })
	list, _ := u.Who("doc:d", "editor")
	wantDeletes(t, u, api.OK, "doc:d#owner@user:ann")
	if e := u.Load(""); e != api.OK || !slices.Equal(list, []string{"user:ann"}) {
		t.Errorf("Load = %d; the list is %q now", e, list)
	}
}

// P2, P6: questions go by this usher's model and grants, behind a Load by the new ones alone.
func TestQuestionsApart(t *testing.T) {
	u, v := beginWith(t, docs, "doc:d#owner@user:ann"), begin(t, docs)
	wantWho(t, v, "doc:d", "owner")
	wantWho(t, u, "doc:d", "owner", "user:ann")
	if e := u.Load("type a { b: [a#b]; c: b - b; "); e != api.ErrText {
		t.Errorf("Load = %d", e)
	}
	wantWho(t, u, "doc:d", "editor", "user:ann")
	if e := u.Load("type user {} type doc { owner: [user]; editor: [user] - owner; }"); e != api.OK {
		t.Errorf("Load = %d", e)
	}
	wantWho(t, u, "doc:d", "owner")
	wantWrites(t, u, api.OK, "doc:d#owner@user:ann", "doc:d#editor@user:ann", "doc:d#editor@user:bob")
	wantWho(t, u, "doc:d", "editor", "user:bob")
	if list, e := u.Who("doc:d", "viewer"); len(list) > 0 || e != api.ErrName {
		t.Errorf("Who = %q, %d", list, e)
	}
	wantChecks(t, v, "doc:d", "viewer", false, "user:ann")
}

// P1: questions change nothing, be they answered or not.
func TestQuestionsChangeNothing(t *testing.T) {
	u := beginWith(t, docs, "doc:d#viewer@user:*", "doc:d#banned@user:ann", "doc:d#owner@user:bob")
	for range 3 {
		wantWho(t, u, "doc:d", "viewer", "user:*", "user:bob")
		wantChecks(t, u, "doc:new", "viewer", false, "user:new")
		u.Check("doc:d", "viewer", "\xff")
		u.Check("doc:d", "nobody", "user:ann")
		u.Who("doc:d", "nobody")
		u.Who("", "")
		wantGrants(t, u, "doc:d#banned@user:ann", "doc:d#owner@user:bob", "doc:d#viewer@user:*")
	}
}
