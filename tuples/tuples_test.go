package tuples

import (
	"math/rand"
	"regexp"
	"strings"
	"testing"
	"unsafe"
)

// form is a tuple by another way of reading it.
var form = regexp.MustCompile(strings.ReplaceAll(`\A(W):(W)#(W)@(W):(?:(\*)|(W)(?:#(W))?)\z`, "W", "[a-z][a-z0-9]{0,7}"))

func plain(text string) (Tuple, bool) {
	m := form.FindStringSubmatch(text)
	if m == nil {
		return Tuple{}, false
	}
	return Tuple{Thing{m[1], m[2]}, m[3], Subject{Thing{m[4], m[5] + m[6]}, m[7]}}, true
}

func hold(t *testing.T, text string) bool {
	t.Helper()
	want, fits := plain(text)
	got, ok := Read(text)
	if ok != fits || ok && got != want {
		t.Fatalf("Read(%q) = %q, %t, want %q, %t", text, got, ok, want, fits)
	}
	if ok && got.String() != text {
		t.Fatalf("Read(%q) is written as %q", text, got)
	}
	return ok
}

// P7: what a tuple is, and what its parts are.
func TestRead(t *testing.T) {
	for text, want := range map[string]Tuple{
		"doc:sub#owner@user:ann":                                {Thing{"doc", "sub"}, "owner", Subject{Thing{"user", "ann"}, ""}},
		"doc:sub#owner@user:*":                                  {Thing{"doc", "sub"}, "owner", Subject{Thing{"user", "*"}, ""}},
		"doc:sub#owner@group:g#all1":                            {Thing{"doc", "sub"}, "owner", Subject{Thing{"group", "g"}, "all1"}},
		"type:type#type@type:type":                              {Thing{"type", "type"}, "type", Subject{Thing{"type", "type"}, ""}},
		"abcdefgh:abcdefgh#abcdefgh@abcdefgh:abcdefgh#abcdefgh": {Thing{"abcdefgh", "abcdefgh"}, "abcdefgh", Subject{Thing{"abcdefgh", "abcdefgh"}, "abcdefgh"}},
	} {
		if got, ok := Read(text); !ok || got != want {
			t.Errorf("Read(%q) = %q, %t", text, got, ok)
		}
		hold(t, text)
	}
}

// P7: tuples by chance, whole and spoiled.
func TestSpoiled(t *testing.T) {
	r := rand.New(rand.NewSource(1))
	pieces := strings.Split("a b9 type abcdefgh abcdefghi 1 A : # @ * ** : # @ é \xff \t \n", " ")
	pieces = append(pieces, "", " ", "\x00")
	var met [2]int
	for range 200000 {
		words := strings.Split("a : b # c @ d : e", " ")
		if r.Intn(2) == 0 {
			words = append(words, "#", "f")
		} else if r.Intn(2) == 0 {
			words[8] = "*"
		}
		for n := r.Intn(3); n > 0; n-- {
			words[r.Intn(len(words))] = pieces[r.Intn(len(pieces))]
		}
		if hold(t, strings.Join(words, "")) {
			met[1]++
		} else {
			met[0]++
		}
	}
	if met[0] < 10000 || met[1] < 10000 {
		t.Errorf("%d of one kind, %d of the other", met[0], met[1])
	}
}

// P1, P7: any bytes, and texts without end.
func TestAnyBytes(t *testing.T) {
	r := rand.New(rand.NewSource(2))
	for range 20000 {
		b := make([]byte, r.Intn(60))
		for i := range b {
			b[i] = byte(r.Intn(256))
		}
		hold(t, string(b))
	}
	for _, s := range []string{"a", "a:", "a:b#c@", "#", "@", ":", "*"} {
		hold(t, strings.Repeat(s, 1000000))
	}
}

// What is read holds nothing of the text that was handed in.
func TestNothingHeld(t *testing.T) {
	b := []byte("a:b#c@d:e#f")
	got, _ := Read(unsafe.String(&b[0], len(b)))
	for i := range b {
		b[i] = 'x'
	}
	if got.String() != "a:b#c@d:e#f" {
		t.Errorf("it is %q now", got)
	}
}

func FuzzRead(f *testing.F) {
	f.Add("doc:sub#owner@group:g#member")
	f.Fuzz(func(t *testing.T, text string) { hold(t, text) })
}
