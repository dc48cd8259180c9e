package usher_test

import (
	"math/rand"
	"slices"
	"strings"
	"sync"
	"testing"

	"usher/api"
	"usher/usher"
)

// maker makes models by chance, always the same ones.
type maker struct {
	*rand.Rand
	kinds, relations []string
	lists            int // how much more often than else a unit is a list
}

func (m *maker) pick(words ...string) string {
	return words[m.Intn(len(words))]
}

// draft is an expression as it may be written, and as it is to be written.
type draft struct {
	loose, strict string
	binds         int // 0 with a `|` outside of brackets, 1 with a `&` or `-`, 2 a unit
}

func (d draft) bracketed() draft { return draft{"(" + d.loose + ")", d.strict, d.binds} }

func (m *maker) expression(depth int) draft {
	d := m.chain(depth)
	for m.Intn(3) == 0 {
		next := m.chain(depth)
		d = draft{d.loose + " |" + next.loose, d.strict + " | " + next.strict, 0}
	}
	return d
}

func (m *maker) chain(depth int) draft {
	d := m.unit(depth)
	for m.Intn(3) == 0 {
		sign, next := m.pick("&", "-", "-"), m.unit(depth)
		if d.binds == 0 {
			d.strict = "(" + d.strict + ")"
		}
		if next.binds < 2 {
			next.strict = "(" + next.strict + ")"
		}
		d = draft{d.loose + sign + " " + next.loose, d.strict + " " + sign + " " + next.strict, 1}
	}
	return d
}

func (m *maker) unit(depth int) draft {
	switch m.Intn(6 + m.lists) {
	case 0:
		tie := m.pick(m.relations...) + "." + m.pick(m.relations...)
		return draft{tie, tie, 2}
	case 1, 2:
		if depth < 4 {
			return m.expression(depth + 1).bracketed()
		}
		fallthrough
	case 3, 4:
		name := m.pick(m.relations...)
		return draft{name, name, 2}
	}
	return m.list()
}

func (m *maker) list() draft {
	list := "[" + m.grant()
	for m.Intn(2) == 0 {
		list += ", " + m.grant()
	}
	return draft{strings.ReplaceAll(list, " ", "") + "]", list + "]", 2}
}

func (m *maker) grant() string {
	return m.pick(m.kinds...) + m.pick("", "", "", "*", "#"+m.pick(m.relations...))
}

// model: a model that is well written, but that it may lack names, have them twice, or have loops.
func (m *maker) model() (loose, strict string) {
	m.kinds = []string{"a", "b", "c"}[:1+m.Intn(3)]
	m.relations = []string{"a", "b", "c9", "d"}[:1+m.Intn(4)]
	for _, kind := range m.kinds {
		kind = m.maybeOther(kind, m.kinds)
		loose += " type " + kind + "{"
		strict += "type " + kind + " {\n"
		for _, relation := range m.relations {
			relation = m.maybeOther(relation, m.relations)
			d := m.expression(0)
			loose += relation + " :" + d.loose + " ;"
			strict += "\t" + relation + ": " + d.strict + ";\n"
		}
		loose += "}\n"
		strict += "}\n"
	}
	return loose, strict
}

func (m *maker) maybeOther(word string, words []string) string {
	if m.Intn(100) == 0 {
		return m.pick(words...)
	}
	return word
}

// spoiled: the text with some tokens taken out, put in or put in another's place.
func (m *maker) spoiled(text string) string {
	words := plainTokens(text).words
	for n := m.Intn(3); n >= 0 && len(words) > 0; n-- {
		i := m.Intn(len(words))
		put := m.pick(strings.Fields("type a b z abcdefgh abcdefghi { } [ ] ( ) : ; , | & - . # * 1 ? \xff É")...)
		switch m.Intn(3) {
		case 0:
			words = slices.Delete(words, i, i+1)
		case 1:
			words = slices.Insert(words, i, put)
		case 2:
			words[i] = put
		}
	}
	return strings.Join(words, " ")
}

func held(t *testing.T, text string) api.Errno {
	t.Helper()
	s, e, at := usher.Print(text)
	wantE, wantAt := plainAnswer(text)
	if e != wantE || at != wantAt || e != api.OK && s != "" {
		t.Errorf("Print(%q) = %q, %d, %d, want error %d at %d", text, s, e, at, wantE, wantAt)
	}
	if e == api.OK && len(s) <= api.MaxText {
		wantWritten(t, s, s)
	}
	return e
}

// P3 to P5: models by chance, whole and spoiled.
func TestMadeModels(t *testing.T) {
	m := &maker{Rand: rand.New(rand.NewSource(1))}
	var met [api.ErrNone + 1]int
	for range 10000 {
		loose, strict := m.model()
		e := held(t, loose)
		met[e]++
		if e == api.OK {
			wantWritten(t, loose, strict)
		}
		met[held(t, m.spoiled(loose))]++
		if t.Failed() {
			t.FailNow()
		}
	}
	for _, e := range []api.Errno{api.OK, api.ErrLong, api.ErrText, api.ErrSize, api.ErrTwice, api.ErrName, api.ErrLoop} {
		if met[e] < 100 {
			t.Errorf("error %d was met %d times only", e, met[e])
		}
	}
}

// P1, P3: any bytes at all.
func TestAnyBytes(t *testing.T) {
	r := rand.New(rand.NewSource(2))
	for range 20000 {
		b := make([]byte, r.Intn(40))
		for i := range b {
			b[i] = byte(r.Intn(256))
		}
		held(t, string(b))
		k := r.Intn(len(docs))
		held(t, docs[:k]+string(b[:min(len(b), 2)])+docs[k:])
	}
}

// P1: texts that nest or go on as far as their length lets them.
func TestLongestTexts(t *testing.T) {
	const head = "type a{b:"
	for _, s := range []string{"(", "[", "[a]-", "b|", "(b)&", "b.b-", "[a#b]|", "[a,", "b"} {
		text := head + strings.Repeat(s, api.MaxText)
		held(t, text[:api.MaxText])
		if n := (api.MaxText - len(head) - 4) / len(s); strings.ContainsAny(s, "-|&") {
			held(t, head+strings.Repeat(s, n)+"b;}")
		}
	}
}

// P2: an answer hangs on the text alone: not on other calls, be they at the same time.
func TestNothingKept(t *testing.T) {
	var all sync.WaitGroup
	for range 8 {
		all.Go(func() {
			for range 50 {
				wantWritten(t, docs, docsInOrder)
				wantRefused(t, refusal{"type a { b: ((((", api.ErrText, 16}, refusal{"type a { b: [a] - b; }", api.ErrLoop, 16})
			}
		})
	}
	all.Wait()
}

// FuzzPrint goes further than TestAnyBytes when it is run by `go test -fuzz`.
func FuzzPrint(f *testing.F) {
	f.Add(docs)
	f.Add("type a { b: ((((([a]))))); }")
	f.Fuzz(func(t *testing.T, text string) { held(t, text) })
}
