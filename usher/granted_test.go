package usher_test

import (
	"math/rand"
	"regexp"
	"slices"
	"strings"
	"testing"

	"usher/api"
	"usher/usher"
)

// plainUsher reads P6 and P7 a second time, by the bare tokens of the model. An usher is held against it.
type plainUsher struct {
	plain
	granted []string
}

var tupleForm = regexp.MustCompile(strings.ReplaceAll(`\A(W):W#(W)@(W):(\*|W(#W)?)\z`, "W", "[a-z][a-z0-9]{0,7}"))

func (p *plainUsher) load(model string) api.Errno {
	e, _ := plainAnswer(model)
	if e == api.OK {
		*p = plainUsher{plain: plainTokens(model)}
	}
	return e
}

// entry: how a grant that lets the subject is written.
func entry(kind, word, relation string) string {
	switch {
	case relation != "":
		return kind + " # " + relation[1:]
	case word == "*":
		return kind + " *"
	}
	return kind
}

func (p *plainUsher) write(grant string) api.Errno {
	m := tupleForm.FindStringSubmatch(grant)
	if m == nil {
		return api.ErrText
	}
	_, all := p.stretches()
	s, ok := p.find(all, m[1], m[2])
	if !ok {
		return api.ErrName
	}
	if !slices.Contains(p.entries(s), entry(m[3], m[4], m[5])) {
		return api.ErrGrant
	}
	if slices.Contains(p.granted, grant) {
		return api.ErrTwice
	}
	if len(p.granted) == 24 {
		return api.ErrFull
	}
	p.granted = append(p.granted, grant)
	slices.Sort(p.granted)
	return api.OK
}

func (p *plainUsher) entries(s stretch) []string {
	var all []string
	for i := s.from; i < s.to; i++ {
		if p.words[i] == "[" {
			list := strings.Join(p.words[i+1:p.unitEnd(i)-1], " ")
			all = append(all, strings.Split(list, " , ")...)
		}
	}
	return all
}

func (p *plainUsher) delete(grant string) api.Errno {
	if !tupleForm.MatchString(grant) {
		return api.ErrText
	}
	i := slices.Index(p.granted, grant)
	if i < 0 {
		return api.ErrNone
	}
	p.granted = slices.Delete(p.granted, i, i+1)
	return api.OK
}

// goodModel: a model that Print takes.
func (m *maker) goodModel() string {
	for {
		loose, _ := m.model()
		if e, _ := plainAnswer(loose); e == api.OK {
			return loose
		}
	}
}

func (m *maker) thing() string {
	return m.pick(m.kinds...) + ":" + m.pick("x", "y", "z")
}

func (m *maker) tuple() string {
	s := m.thing() + "#" + m.pick(m.relations...) + "@"
	switch m.Intn(3) {
	case 0:
		return s + m.pick(m.kinds...) + ":*"
	case 1:
		return s + m.thing() + "#" + m.pick(m.relations...)
	}
	return s + m.thing()
}

func (m *maker) maybeSpoiled(text string) string {
	if m.Intn(20) > 0 {
		return text
	}
	i := m.Intn(len(text))
	return text[:i] + m.pick(strings.Split("/q/z9/abcdefgh/:/#/@/*/ /\xff", "/")...) + text[i+m.Intn(2):]
}

// P1, P6, P7: calls by chance, and all that is granted behind each.
func TestMadeGrants(t *testing.T) {
	m := &maker{Rand: rand.New(rand.NewSource(3)), lists: 6}
	var written, deleted [api.ErrNone + 1]int
	for range 300 {
		model := m.goodModel()
		u, p := begin(t, model), &plainUsher{}
		p.load(model)
		for range 250 {
			m.oneCall(t, u, p, &written, &deleted)
			wantGrants(t, u, p.granted...)
			if t.Failed() {
				t.FailNow()
			}
		}
	}
	for _, e := range []api.Errno{api.OK, api.ErrText, api.ErrName, api.ErrGrant, api.ErrTwice, api.ErrFull} {
		if written[e] < 100 {
			t.Errorf("Write answered %d only %d times", e, written[e])
		}
	}
	for _, e := range []api.Errno{api.OK, api.ErrText, api.ErrNone} {
		if deleted[e] < 100 {
			t.Errorf("Delete answered %d only %d times", e, deleted[e])
		}
	}
}

func (m *maker) oneCall(t *testing.T, u *usher.Usher, p *plainUsher, written, deleted *[api.ErrNone + 1]int) {
	grant := m.maybeSpoiled(m.tuple())
	switch k := m.Intn(100); {
	case k == 0:
		model, _ := m.model()
		if e, want := u.Load(model), p.load(model); e != want {
			t.Errorf("Load(%q) = %d, want %d", model, e, want)
		}
	case k < 6:
		want := p.delete(grant)
		deleted[want]++
		wantDeletes(t, u, want, grant)
	default:
		want := p.write(grant)
		written[want]++
		wantWrites(t, u, want, grant)
	}
}

// P1: any bytes, for each of the calls.
func TestAnyGrants(t *testing.T) {
	r := rand.New(rand.NewSource(4))
	u, p := begin(t, docs), &plainUsher{}
	p.load(docs)
	const some = "doc:sub#editor@group:g#member"
	for range 20000 {
		b := make([]byte, r.Intn(30))
		for i := range b {
			b[i] = byte(r.Intn(256))
		}
		k := r.Intn(len(some))
		for _, s := range []string{string(b), some[:k] + string(b[:min(len(b), 2)]) + some[k:]} {
			wantWrites(t, u, p.write(s), s)
			wantGrants(t, u, p.granted...)
			wantDeletes(t, u, p.delete(s), s)
			if e, want := u.Load(s), p.load(s); e != want {
				t.Errorf("Load(%q) = %d, want %d", s, e, want)
			}
			if e, _ := plainAnswer(s); e == api.OK {
				u.Load(docs)
				p.load(docs)
			}
		}
	}
}
