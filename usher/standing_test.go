package usher_test

import (
	"math/rand"
	"regexp"
	"slices"
	"strings"
	"testing"

	"usher/api"
	"usher/usher"
)

// This file reads P8 to P10 a second time, by the bare tokens of the model and the texts of the tuples: who stands in a relation is sought along every way that does not come round to where it was. An usher is held against it.

var thingForm = regexp.MustCompile(strings.ReplaceAll(`\A(W):W\z`, "W", "[a-z][a-z0-9]{0,7}"))
var wordForm = regexp.MustCompile(`\A[a-z][a-z0-9]{0,7}\z`)

// search is for one who; steps says how many are left until it is given up.
type search struct {
	*plainUsher
	all   []stretch
	who   string
	steps int
}

func typeOf(thing string) string {
	kind, _, _ := strings.Cut(thing, ":")
	return kind
}

func (s *search) stands(thing, relation string, way []string) bool {
	here := thing + "#" + relation
	e, ok := s.find(s.all, typeOf(thing), relation)
	s.steps--
	if !ok || slices.Contains(way, here) || s.steps < 0 {
		return false
	}
	return s.expression(e, e.from, e.to, thing, append(slices.Clip(way), here))
}

func (s *search) expression(e stretch, from, to int, thing string, way []string) bool {
	for at := from; at < to; {
		in := s.unit(e, at, thing, way)
		for at = s.unitEnd(at); at < to && s.words[at] != "|"; at = s.unitEnd(at + 1) {
			if s.words[at] == "&" {
				in = in && s.unit(e, at+1, thing, way)
			} else {
				in = in && !s.unit(e, at+1, thing, nil)
			}
		}
		if in {
			return true
		}
		at++
	}
	return false
}

func (s *search) unit(e stretch, at int, thing string, way []string) bool {
	switch word := s.words[at]; {
	case word == "(":
		return s.expression(e, at+1, s.unitEnd(at)-1, thing, way)
	case word == "[":
		return slices.ContainsFunc(s.subjects(thing, s.words[e.relation]), func(subject string) bool {
			on, relation, related := strings.Cut(subject, "#")
			if related {
				return s.stands(on, relation, way)
			}
			return subject == s.who || subject == typeOf(s.who)+":*"
		})
	case s.words[at+1] == ".":
		return slices.ContainsFunc(s.subjects(thing, word), func(subject string) bool {
			return !strings.ContainsAny(subject, "#*") && s.stands(subject, s.words[at+2], way)
		})
	default:
		return s.stands(thing, word, way)
	}
}

func (p *plainUsher) subjects(thing, relation string) []string {
	var all []string
	for _, g := range p.granted {
		if subject, ok := strings.CutPrefix(g, thing+"#"+relation+"@"); ok {
			all = append(all, subject)
		}
	}
	return all
}

// asked: what is wrong with a question.
func (p *plainUsher) asked(relation string, things ...string) api.Errno {
	for _, thing := range things {
		if !thingForm.MatchString(thing) || !wordForm.MatchString(relation) {
			return api.ErrText
		}
	}
	types, all := p.stretches()
	if _, ok := p.find(all, typeOf(things[0]), relation); !ok {
		return api.ErrName
	}
	for _, thing := range things {
		if !slices.ContainsFunc(types, func(i int) bool { return p.words[i] == typeOf(thing) }) {
			return api.ErrName
		}
	}
	return api.OK
}

// check gives up (its last answer is false then) where there are too many ways.
func (p *plainUsher) check(thing, relation, who string) (bool, api.Errno, bool) {
	if e := p.asked(relation, thing, who); e != api.OK {
		return false, e, true
	}
	_, all := p.stretches()
	s := search{p, all, who, 5000}
	in := s.stands(thing, relation, nil)
	return in, api.OK, s.steps >= 0
}

func (p *plainUsher) who(thing, relation string) ([]string, api.Errno, bool) {
	if e := p.asked(relation, thing); e != api.OK {
		return nil, e, true
	}
	var found []string
	for _, who := range p.things() {
		in, _, done := p.check(thing, relation, who)
		if !done {
			return nil, api.OK, false
		}
		if in {
			found = append(found, strings.Replace(who, ":nobody", ":*", 1))
		}
	}
	slices.Sort(found)
	return found, api.OK, true
}

// things: those that stand in a tuple, and a nobody of each type.
func (p *plainUsher) things() []string {
	var all []string
	for _, g := range p.granted {
		for _, part := range strings.Split(g, "@") {
			thing, _, _ := strings.Cut(part, "#")
			if !strings.Contains(thing, "*") && !slices.Contains(all, thing) {
				all = append(all, thing)
			}
		}
	}
	types, _ := p.stretches()
	for _, i := range types {
		all = append(all, p.words[i]+":nobody")
	}
	return all
}

// tally counts what was answered.
type tally struct {
	checks  [api.ErrNone + 1]int
	stood   int
	whos    [api.ErrNone + 1]int
	told    [4]int // by how long the list is
	allOf   int
	givenUp int
}

func (m *maker) oneCheck(t *testing.T, u *usher.Usher, p *plainUsher, met *tally) {
	thing, relation, who := m.maybeSpoiled(m.thing()), m.maybeSpoiled(m.pick(m.relations...)), m.maybeSpoiled(m.thing())
	want, wantE, done := p.check(thing, relation, who)
	in, e := u.Check(thing, relation, who)
	if !done {
		met.givenUp++
		return
	}
	if in != want || e != wantE {
		t.Errorf("%q with %q: Check(%q, %q, %q) = %v, %d, want %v, %d", p.words, p.granted, thing, relation, who, in, e, want, wantE)
	}
	met.checks[e]++
	if in {
		met.stood++
	}
}

func (m *maker) oneWho(t *testing.T, u *usher.Usher, p *plainUsher, met *tally) {
	thing, relation := m.maybeSpoiled(m.thing()), m.maybeSpoiled(m.pick(m.relations...))
	want, wantE, done := p.who(thing, relation)
	list, e := u.Who(thing, relation)
	if !done {
		met.givenUp++
		return
	}
	if !slices.Equal(list, want) || e != wantE {
		t.Errorf("%q with %q: Who(%q, %q) = %q, %d, want %q, %d", p.words, p.granted, thing, relation, list, e, want, wantE)
	}
	met.whos[e]++
	met.told[min(len(list), 3)]++
	if slices.ContainsFunc(list, func(s string) bool { return strings.HasSuffix(s, ":*") }) {
		met.allOf++
	}
}

// P8 to P10: questions by chance, between writes, deletes and loads by chance.
func TestMadeQuestions(t *testing.T) {
	m := &maker{Rand: rand.New(rand.NewSource(5)), lists: 6}
	var met tally
	var written, deleted [api.ErrNone + 1]int
	for range 800 {
		model := m.goodModel()
		u, p := begin(t, model), &plainUsher{}
		p.load(model)
		for range 8 {
			for range 20 {
				m.oneCall(t, u, p, &written, &deleted)
			}
			for range 10 {
				m.oneCheck(t, u, p, &met)
				m.oneWho(t, u, p, &met)
			}
			wantGrants(t, u, p.granted...)
			if t.Failed() {
				t.FailNow()
			}
		}
	}
	met.wantAllMet(t)
}

func (met tally) wantAllMet(t *testing.T) {
	t.Helper()
	counts := []int{met.stood, met.checks[api.OK] - met.stood, met.allOf, met.whos[api.OK] - met.allOf}
	counts = append(counts, met.told[:]...)
	for _, e := range []api.Errno{api.ErrText, api.ErrName} {
		counts = append(counts, met.checks[e], met.whos[e])
	}
	if slices.Min(counts) < 1000 || met.givenUp > 1000 {
		t.Errorf("some answers were met too seldom: %+v", met)
	}
}

// P1, P9, P10: any bytes, for each of what is asked.
func TestAnyQuestions(t *testing.T) {
	r := rand.New(rand.NewSource(6))
	const first, second = "doc:d#viewer@user:*", "doc:d#banned@user:ann"
	u, p := beginWith(t, docs, first, second), &plainUsher{}
	p.load(docs)
	p.write(first)
	p.write(second)
	for range 20000 {
		asked := []string{"doc:d", "viewer", "user:bob"}
		i := r.Intn(len(asked))
		b := make([]byte, r.Intn(12))
		for k := range b {
			b[k] = byte(r.Intn(256))
		}
		if k := r.Intn(len(asked[i]) + 1); r.Intn(2) == 0 {
			asked[i] = string(b)
		} else {
			asked[i] = asked[i][:k] + string(b[:min(len(b), 2)]) + asked[i][k:]
		}
		want, wantE, _ := p.check(asked[0], asked[1], asked[2])
		if in, e := u.Check(asked[0], asked[1], asked[2]); in != want || e != wantE {
			t.Errorf("Check(%q) = %v, %d, want %v, %d", asked, in, e, want, wantE)
		}
		list, wantE, _ := p.who(asked[0], asked[1])
		if got, e := u.Who(asked[0], asked[1]); !slices.Equal(got, list) || e != wantE {
			t.Errorf("Who(%q) = %q, %d, want %q, %d", asked[:2], got, e, list, wantE)
		}
	}
	for _, s := range []string{strings.Repeat("a", 1000000), strings.Repeat("a:", 1000000), "doc:" + strings.Repeat("d", 1000000)} {
		for _, asked := range [][3]string{{s, "viewer", "user:ann"}, {"doc:d", s, "user:ann"}, {"doc:d", "viewer", s}} {
			if in, e := u.Check(asked[0], asked[1], asked[2]); in || e != api.ErrText {
				t.Errorf("Check of a long text = %v, %d", in, e)
			}
		}
	}
}
