package usher_test

import (
	"slices"
	"strings"
	"testing"
	"unsafe"

	"usher/api"
	"usher/usher"
)

func begin(t *testing.T, model string) *usher.Usher {
	t.Helper()
	u, e := usher.New(model)
	if e != api.OK || u == nil {
		t.Fatalf("New(%q) = %p, %d", model, u, e)
	}
	return u
}

func wantWrites(t *testing.T, u *usher.Usher, want api.Errno, grants ...string) {
	t.Helper()
	for _, g := range grants {
		if e := u.Write(g); e != want {
			t.Errorf("Write(%.80q) = %d, want %d", g, e, want)
		}
	}
}

func wantDeletes(t *testing.T, u *usher.Usher, want api.Errno, grants ...string) {
	t.Helper()
	for _, g := range grants {
		if e := u.Delete(g); e != want {
			t.Errorf("Delete(%.80q) = %d, want %d", g, e, want)
		}
	}
}

func wantGrants(t *testing.T, u *usher.Usher, want ...string) {
	t.Helper()
	if got := u.Grants(); !slices.Equal(got, want) {
		t.Errorf("Grants() = %q, want %q", got, want)
	}
}

// wrongModels has a model for each of Print's errors.
var wrongModels = []refusal{
	{strings.Repeat(" ", 501), api.ErrLong, 0}, {"type", api.ErrText, 4}, {"\xff", api.ErrText, 0}, {"type abcdefghi {}", api.ErrSize, 5},
	{"type a {} type a {}", api.ErrTwice, 15}, {"type a { b: c; }", api.ErrName, 12}, {"type a { b: [a] - b; }", api.ErrLoop, 16},
}

// P6: New refuses what Print refuses, with its error and without an usher.
func TestNew(t *testing.T) {
	wantRefused(t, wrongModels...)
	for _, c := range wrongModels {
		if u, e := usher.New(c.text); u != nil || e != c.errno {
			t.Errorf("New(%.80q) = %p, %d, want nil, %d", c.text, u, e, c.errno)
		}
	}
	for _, model := range []string{"", " \n", "type a {}", docs, docsInOrder, strings.Repeat(" ", 500)} {
		wantGrants(t, begin(t, model))
	}
}

// P6: another model, and no grants; what was granted before is as if it never was.
func TestLoad(t *testing.T) {
	u := begin(t, docs)
	wantWrites(t, u, api.OK, "doc:d#owner@user:ann", "group:g#member@user:ann")
	if e := u.Load("type user {} type doc { owner: [user]; }"); e != api.OK {
		t.Errorf("Load = %d", e)
	}
	wantGrants(t, u)
	wantDeletes(t, u, api.ErrNone, "doc:d#owner@user:ann")
	wantWrites(t, u, api.ErrName, "group:g#member@user:ann", "doc:d#editor@user:ann")
	wantWrites(t, u, api.OK, "doc:d#owner@user:ann")
	if e := u.Load(docs); e != api.OK {
		t.Errorf("Load = %d", e)
	}
	wantGrants(t, u)
	wantWrites(t, u, api.OK, "doc:d#owner@user:ann", "group:g#member@user:ann")
	if e := u.Load(""); e != api.OK {
		t.Errorf("Load = %d", e)
	}
	wantGrants(t, u)
	wantWrites(t, u, api.ErrName, "doc:d#owner@user:ann")
}

// P6: there is room for all grants again behind a Load.
func TestLoadGivesRoom(t *testing.T) {
	u := begin(t, docs)
	for range 3 {
		wantWrites(t, u, api.OK, someOwners(api.MaxGrants)...)
		wantWrites(t, u, api.ErrFull, "doc:d#owner@user:ann")
		if e := u.Load(docs); e != api.OK {
			t.Errorf("Load = %d", e)
		}
	}
}

// P1, P6: behind a Load that fails the usher has its model and its grants still.
func TestLoadFails(t *testing.T) {
	for _, c := range wrongModels {
		u := begin(t, docs)
		wantWrites(t, u, api.OK, "doc:d#owner@user:bob", "doc:d#owner@user:ann")
		if e := u.Load(c.text); e != c.errno {
			t.Errorf("Load(%.80q) = %d, want %d", c.text, e, c.errno)
		}
		wantGrants(t, u, "doc:d#owner@user:ann", "doc:d#owner@user:bob")
		wantWrites(t, u, api.ErrTwice, "doc:d#owner@user:ann")
		wantWrites(t, u, api.ErrGrant, "doc:d#owner@user:*")
		wantWrites(t, u, api.OK, "doc:d#viewer@user:*")
		wantDeletes(t, u, api.OK, "doc:d#owner@user:bob")
	}
}

// P7: the document's example.
func TestWriteDocs(t *testing.T) {
	u := begin(t, docs)
	wantWrites(t, u, api.OK, "group:g#member@user:ann", "group:h#member@group:g#member", "doc:top#editor@group:h#member", "doc:sub#parent@doc:top")
	wantWrites(t, u, api.ErrTwice, "group:g#member@user:ann")
	wantWrites(t, u, api.ErrGrant, "doc:sub#parent@user:ann", "doc:sub#owner@user:*", "doc:sub#viewer@user:ann")
	wantWrites(t, u, api.ErrName, "doc:sub#nobody@user:ann")
	wantWrites(t, u, api.ErrText, "doc:sub")
	wantGrants(t, u, "doc:sub#parent@doc:top", "doc:top#editor@group:h#member", "group:g#member@user:ann", "group:h#member@group:g#member")
	wantDeletes(t, u, api.OK, "group:g#member@user:ann")
	wantDeletes(t, u, api.ErrNone, "group:g#member@user:ann")
	wantGrants(t, u, "doc:sub#parent@doc:top", "doc:top#editor@group:h#member", "group:h#member@group:g#member")
}

// P7: what is no tuple, or has a word of more than MaxName bytes, is ErrText for both calls, whatever else is wrong.
func TestNoTuple(t *testing.T) {
	wrong := []string{
		"", " ", "doc", "doc:d", "doc:d#owner", "doc:d#owner@", "doc:d#owner@user", "doc:d#owner@user:", "doc:d#owner@:ann", "doc:d#owner@*", "doc:d#owner@user*",
		"doc:d#@user:ann", "doc:#owner@user:ann", ":d#owner@user:ann", "d#owner@user:ann", "doc:d@user:ann", "doc:*#owner@user:ann", "*:d#owner@user:ann", "doc:d#*@user:ann",
		"doc:d#owner@*:ann", "doc:d#owner@user:**", "doc:d#owner@user:*a", "doc:d#owner@user:a*", "doc:d#owner@user:*#member", "doc:d#owner@user:ann#", "doc:d#owner@user:ann#*",
		"doc:d#owner@user:ann@", "doc:d#owner@user:ann@user:bob", "doc:d#owner#owner@user:ann", "doc:d##owner@user:ann", "doc::d#owner@user:ann", "doc:d:e#owner@user:ann",
		"doc:d#owner@user:a:b", "doc:d#owner@user:a#b#c", "doc:d#owner@user:a#b:c", "@", "#@", ":#@:", ":#@:#", "@doc:d#owner@user:ann",
		" doc:d#owner@user:ann", "doc:d#owner@user:ann ", "doc:d#owner@user:ann\n", "doc: d#owner@user:ann", "doc:d #owner@user:ann", "doc:d#owner @user:ann", "doc:d#owner@\tuser:ann",
		"abcdefghi:d#owner@user:ann", "doc:abcdefghi#owner@user:ann", "doc:d#abcdefghi@user:ann", "doc:d#owner@abcdefghi:ann", "doc:d#owner@abcdefghi:*", "doc:d#owner@user:abcdefghi", "doc:d#owner@user:ann#abcdefghi",
		"doc:1#owner@user:ann", "doc:d#owner@user:1", "doc:d#1@user:ann", "1:d#owner@user:ann", "doc:D#owner@user:ann", "doc:d#owner@user:\xff", "doc:d#owner@user:\u00e9", "doc:d#owner@user:a\x00",
		"thing:d#owner@user:", "doc:d#nobody@user", strings.Repeat("a", 1000000), strings.Repeat("doc:d#owner@user:ann", 100000),
	}
	u := begin(t, docs)
	wantWrites(t, u, api.OK, "doc:d#owner@user:ann")
	wantWrites(t, u, api.ErrText, wrong...)
	wantDeletes(t, u, api.ErrText, wrong...)
	wantGrants(t, u, "doc:d#owner@user:ann")
}

// P7: the words of a tuple may be any, `type` too, up to MaxName bytes.
func TestWordsOfTuples(t *testing.T) {
	u := begin(t, "type abcdefgh { ijklmnop: [abcdefgh, abcdefgh*, abcdefgh#ijklmnop]; }")
	all := []string{
		"abcdefgh:a#ijklmnop@abcdefgh:*", "abcdefgh:a#ijklmnop@abcdefgh:a", "abcdefgh:a0123456#ijklmnop@abcdefgh:z7654321#ijklmnop",
		"abcdefgh:type#ijklmnop@abcdefgh:type", "abcdefgh:type#ijklmnop@abcdefgh:type#ijklmnop",
	}
	wantWrites(t, u, api.OK, all...)
	wantGrants(t, u, all...)
	wantWrites(t, u, api.ErrName, "type:a#ijklmnop@abcdefgh:a", "abcdefgh:a#type@abcdefgh:a")
	wantWrites(t, u, api.ErrGrant, "abcdefgh:a#ijklmnop@type:a", "abcdefgh:a#ijklmnop@abcdefgh:a#type", "abcdefgh:a#ijklmnop@type:*")
	wantDeletes(t, u, api.OK, all...)
	wantGrants(t, u)
}

// P7: a type or a relation of the thing that is not there; a relation of another type is not there, either.
func TestWriteNames(t *testing.T) {
	u := begin(t, docs)
	wantWrites(t, u, api.ErrName, "thing:d#owner@user:ann", "doc:d#nobody@user:ann", "user:ann#owner@user:ann", "group:g#owner@user:ann", "doc:d#member@user:ann", "doc:d#doc@user:ann", "owner:d#owner@user:ann", "nobody:d#nobody@nobody:d#nobody", "doc:d#nobody@user:*")
	wantGrants(t, u)
}

// P7: a grant lets its own kind of subject and no other; every list of the relation's expression lets what it has, wherever it stands, and no other relation's does.
func TestWriteLets(t *testing.T) {
	u := begin(t, "type a { p: [a]; q: [a*]; r: [a#p]; s: p | q & (r - ([a, a] | [b#p, a*])); t: p | a.p; a: [b, a]; } type b { p: [a]; }")
	wantWrites(t, u, api.OK, "a:x#p@a:x", "a:x#q@a:*", "a:x#r@a:y#p", "a:x#s@a:y", "a:x#s@a:*", "a:x#s@b:y#p", "a:x#a@b:y")
	wantWrites(t, u, api.ErrGrant,
		"a:x#p@a:*", "a:x#p@a:y#p", "a:x#p@b:y", "a:x#q@a:y", "a:x#q@a:y#p", "a:x#q@b:*", "a:x#r@a:y", "a:x#r@a:*", "a:x#r@a:y#q", "a:x#r@b:y#p",
		"a:x#s@b:y", "a:x#s@b:*", "a:x#s@a:y#p", "a:x#s@b:y#q", "a:x#t@a:y", "a:x#t@a:*", "a:x#t@a:y#p", "a:x#p@nobody:y", "a:x#p@nobody:*", "a:x#r@a:y#nobody", "a:x#r@nobody:y#p", "b:x#p@b:y")
}

// P7: which error goes first.
func TestWriteOrder(t *testing.T) {
	u := begin(t, docs)
	wantWrites(t, u, api.OK, someOwners(api.MaxGrants)...)
	wantWrites(t, u, api.ErrText, "doc:owners#owner@user:abcdefghi", "nobody:d#owner@user:")
	wantWrites(t, u, api.ErrName, "doc:d#nobody@nobody:d", "nobody:d#owner@user:ann")
	wantWrites(t, u, api.ErrGrant, "doc:d#owner@user:*", "doc:d#owner@nobody:d")
	wantWrites(t, u, api.ErrTwice, someOwners(api.MaxGrants)...)
	wantWrites(t, u, api.ErrFull, "doc:d#owner@user:ann")
	wantDeletes(t, u, api.ErrText, "nobody:d#owner@user:", "doc:owners#owner@user:abcdefghi")
	wantDeletes(t, u, api.ErrNone, "nobody:d#owner@user:ann", "doc:d#owner@user:*", "doc:d#nobody@user:ann", "doc:d#owner@user:ann")
	wantGrants(t, u, someOwners(api.MaxGrants)...)
}

// someOwners: so many tuples of the docs, in order.
func someOwners(n int) []string {
	var all []string
	for i := range n {
		all = append(all, "doc:owners#owner@user:u"+string(rune('a'+i)))
	}
	return all
}

// P7: MaxGrants and no more; each that is taken back makes room for one.
func TestFull(t *testing.T) {
	u := begin(t, docs)
	all := someOwners(api.MaxGrants)
	wantWrites(t, u, api.OK, all...)
	for i, g := range all {
		other := "group:g#member@user:u" + string(rune('a'+i))
		wantWrites(t, u, api.ErrFull, other)
		wantDeletes(t, u, api.OK, g)
		wantWrites(t, u, api.OK, other)
		wantWrites(t, u, api.ErrFull, g)
		if n := len(u.Grants()); n != api.MaxGrants {
			t.Errorf("%d are granted", n)
		}
	}
}

// P7: the order is that of whole strings, not of their parts: signs and digits go ahead of letters.
func TestGrantsOrder(t *testing.T) {
	u := begin(t, "type a { r: [a, a*, a#r, ab, ab#r]; r1: [a]; } type ab { r: [a]; } type a1 { r: [a]; }")
	want := []string{
		"a1:x#r@a:x", "a:x#r1@a:x", "a:x#r@a:*", "a:x#r@a:x", "a:x#r@a:x#r", "a:x#r@a:x1", "a:x#r@a:x1#r", "a:x#r@a:xx", "a:x#r@ab:x", "a:x#r@ab:x#r",
		"a:x1#r@a:x", "a:xx#r@a:x", "ab:x#r@a:x",
	}
	if !slices.IsSorted(want) {
		t.Fatal("what is wanted is not sorted")
	}
	for i := range want {
		wantWrites(t, u, api.OK, want[(i*5+3)%len(want)])
	}
	wantGrants(t, u, want...)
}

// P2: a list that came out is the caller's, spare room too.
func TestGrantsAreTheCallers(t *testing.T) {
	u := begin(t, docs)
	for n := range api.MaxGrants {
		want := someOwners(n)
		first, second := u.Grants(), u.Grants()
		for i := range first[:cap(first)] {
			first[:cap(first)][i] = "mine"
		}
		if !slices.Equal(second, want) {
			t.Errorf("another list has changed: %q", second)
		}
		wantGrants(t, u, want...)
		wantWrites(t, u, api.OK, someOwners(n + 1)[n])
		for _, g := range first[:cap(first)] {
			if g != "mine" {
				t.Errorf("the caller's list has changed: %q", first[:cap(first)])
			}
		}
	}
}

// P2: no usher has to do with another.
func TestUshersApart(t *testing.T) {
	u, v := begin(t, docs), begin(t, docs)
	wantWrites(t, u, api.OK, "doc:d#owner@user:ann")
	wantGrants(t, v)
	wantDeletes(t, v, api.ErrNone, "doc:d#owner@user:ann")
	wantWrites(t, v, api.OK, "doc:d#owner@user:ann", "doc:d#owner@user:bob")
	if e := v.Load("type doc {}"); e != api.OK {
		t.Errorf("Load = %d", e)
	}
	wantGrants(t, u, "doc:d#owner@user:ann")
	wantWrites(t, u, api.OK, "doc:d#owner@user:bob")
}

// shaky gives a call a text that is written over as soon as the call is done.
func shaky(text string, call func(string)) {
	b := []byte(text)
	call(unsafe.String(unsafe.SliceData(b), len(b)))
	for i := range b {
		b[i] = 'x'
	}
}

// P2: an usher keeps nothing of the strings that it was given.
func TestTextsAreNotKept(t *testing.T) {
	var u *usher.Usher
	shaky(docs, func(s string) { u = begin(t, s) })
	shaky("doc:d#owner@user:ann", func(s string) { wantWrites(t, u, api.OK, s) })
	shaky("doc:d#editor@group:g#member", func(s string) { wantWrites(t, u, api.OK, s) })
	wantGrants(t, u, "doc:d#editor@group:g#member", "doc:d#owner@user:ann")
	wantWrites(t, u, api.OK, "doc:d#banned@user:*")
	shaky("type a { b: [a#b]; }", func(s string) { u.Load(s) })
	shaky("a:x#b@a:y#b", func(s string) { wantWrites(t, u, api.OK, s) })
	wantWrites(t, u, api.OK, "a:x#b@a:z#b")
	shaky("a:x#b@a:z#b", func(s string) { wantDeletes(t, u, api.OK, s) })
	wantGrants(t, u, "a:x#b@a:y#b")
}
