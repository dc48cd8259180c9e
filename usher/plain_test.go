package usher_test

import (
	"regexp"
	"slices"
	"strconv"

	"usher/api"
)

// This file reads P3 and P4 a second time, by a table of states and by the bare tokens: slow, but plain. Print is held against it.

var tokenForm = regexp.MustCompile(`[a-z][a-z0-9]*|[^ \t\n]`)

// follows: from a state, by a token (NAME for any name), to the next state. In brackets `done ;` and outside of them `done )` do not count.
var follows = map[string]string{
	"top type": "typed", "typed NAME": "named", "named {": "relations", "relations NAME": "related", "relations }": "top", "related :": "unit",
	"unit NAME": "own", "unit [": "grant", "unit (": "unit",
	"grant NAME": "granted", "granted *": "whole", "granted #": "whose", "whose NAME": "whole",
	"granted ,": "grant", "granted ]": "done", "whole ,": "grant", "whole ]": "done",
	"own .": "tied", "tied NAME": "done",
	"own |": "unit", "own &": "unit", "own -": "unit", "own ;": "relations", "own )": "done",
	"done |": "unit", "done &": "unit", "done -": "unit", "done ;": "relations", "done )": "done",
}

type plain struct {
	words  []string
	places []int
}

func plainTokens(text string) plain {
	var p plain
	for _, m := range tokenForm.FindAllStringIndex(text, -1) {
		p.words = append(p.words, text[m[0]:m[1]])
		p.places = append(p.places, m[0])
	}
	return p
}

func isWord(s string) bool { return s[0] >= 'a' && s[0] <= 'z' }

// plainAnswer tells which error Print must answer, and where.
func plainAnswer(text string) (api.Errno, int) {
	if len(text) > 500 {
		return api.ErrLong, 0
	}
	p := plainTokens(text)
	if e, at := p.readError(len(text)); e != api.OK {
		return e, at
	}
	return p.nameError()
}

func (p plain) readError(end int) (api.Errno, int) {
	state, types, relations, open := "top", 0, 0, 0
	for i, w := range p.words {
		class := w
		if isWord(w) && w != "type" {
			class = "NAME"
		}
		next, ok := follows[state+" "+class]
		if !ok || w == ";" && open > 0 || w == ")" && open == 0 {
			return api.ErrText, p.places[i]
		}
		switch {
		case class == "NAME" && len(w) > 8, w == "type" && types == 5, state == "relations" && class == "NAME" && relations == 6, w == "(" && open == 4:
			return api.ErrSize, p.places[i]
		case w == "type":
			types++
			relations = 0
		case state == "relations" && class == "NAME":
			relations++
		case w == "(":
			open++
		case w == ")":
			open--
		}
		state = next
	}
	if state != "top" {
		return api.ErrText, end
	}
	return api.OK, 0
}

// stretch is the tokens of an expression, and whose it is.
type stretch struct{ kind, relation, from, to int }

func (p plain) stretches() (types []int, all []stretch) {
	kind := 0
	for i := 0; i < len(p.words); i++ {
		switch {
		case p.words[i] == "type":
			kind = i + 1
			types = append(types, kind)
		case p.words[i] == ":":
			to := i + slices.Index(p.words[i:], ";")
			all = append(all, stretch{kind, i - 1, i + 1, to})
			i = to
		}
	}
	return types, all
}

func (p plain) nameError() (api.Errno, int) {
	types, all := p.stretches()
	defined := map[string]bool{}
	for i, w := range p.words {
		key := w
		if s := slices.IndexFunc(all, func(s stretch) bool { return s.relation == i }); s >= 0 {
			key = strconv.Itoa(all[s].kind) + " " + w // by the type's token: another type of its name is another one
		} else if !slices.Contains(types, i) {
			continue
		}
		if defined[key] {
			return api.ErrTwice, p.places[i]
		}
		defined[key] = true
	}
	for _, s := range all {
		for i := s.from; i < s.to; i++ {
			if isWord(p.words[i]) && !p.isThere(all, types, s, i) {
				return api.ErrName, p.places[i]
			}
		}
	}
	return p.loopError(all)
}

func (p plain) find(all []stretch, kind, relation string) (stretch, bool) {
	for _, s := range all {
		if p.words[s.kind] == kind && p.words[s.relation] == relation {
			return s, true
		}
	}
	return stretch{}, false
}

func (p plain) inList(s stretch, i int) bool {
	for i--; i >= s.from; i-- {
		if p.words[i] == "[" || p.words[i] == "]" {
			return p.words[i] == "["
		}
	}
	return false
}

func (p plain) isThere(all []stretch, types []int, s stretch, i int) bool {
	w := p.words[i]
	if p.words[i-1] == "#" {
		_, ok := p.find(all, p.words[i-2], w)
		return ok
	}
	if p.inList(s, i) {
		return slices.ContainsFunc(types, func(t int) bool { return p.words[t] == w })
	}
	if p.words[i-1] == "." {
		return len(p.tied(all, s, i-1)) > 0
	}
	_, ok := p.find(all, p.words[s.kind], w)
	return ok
}

// tied: the relations that a tie with its point at i leads to.
func (p plain) tied(all []stretch, s stretch, i int) []stretch {
	var found []stretch
	by, _ := p.find(all, p.words[s.kind], p.words[i-1])
	for k := by.from; k < by.to; k++ {
		alone := p.words[k-1] != "#" && p.words[k+1] != "#" && p.words[k+1] != "*"
		if isWord(p.words[k]) && alone && p.inList(by, k) {
			if to, ok := p.find(all, p.words[k], p.words[i+1]); ok {
				found = append(found, to)
			}
		}
	}
	return found
}

// hangs: what the tokens from..to of an expression hang on at first hand.
func (p plain) hangs(all []stretch, s stretch, from, to int) []stretch {
	var found []stretch
	for i := from; i < to; i++ {
		switch w := p.words[i]; {
		case w == "[":
			for k := s.from; k < s.to; k++ {
				if p.words[k] == "#" {
					on, _ := p.find(all, p.words[k-1], p.words[k+1])
					found = append(found, on)
				}
			}
		case w == ".":
			found = append(found, p.tied(all, s, i)...)
		case isWord(w) && !p.inList(s, i) && p.words[i-1] != "." && p.words[i+1] != ".":
			on, _ := p.find(all, p.words[s.kind], w)
			found = append(found, on)
		}
	}
	return found
}

func (p plain) loopError(all []stretch) (api.Errno, int) {
	closed := map[[2]stretch]bool{}
	for _, s := range all {
		for _, on := range p.hangs(all, s, s.from, s.to) {
			closed[[2]stretch{s, on}] = true
		}
	}
	for _, k := range all {
		for _, i := range all {
			for _, j := range all {
				if closed[[2]stretch{i, k}] && closed[[2]stretch{k, j}] {
					closed[[2]stretch{i, j}] = true
				}
			}
		}
	}
	for _, s := range all {
		for i := s.from; i < s.to; i++ {
			if p.words[i] != "-" {
				continue
			}
			for _, on := range p.hangs(all, s, i+1, p.unitEnd(i+1)) {
				if on == s || closed[[2]stretch{on, s}] {
					return api.ErrLoop, p.places[i]
				}
			}
		}
	}
	return api.OK, 0
}

func (p plain) unitEnd(i int) int {
	switch p.words[i] {
	case "[":
		return i + slices.Index(p.words[i:], "]") + 1
	case "(":
		for open := 0; ; i++ {
			switch p.words[i] {
			case "(":
				open++
			case ")":
				open--
			}
			if open == 0 {
				return i + 1
			}
		}
	}
	if p.words[i+1] == "." {
		return i + 3
	}
	return i + 1
}
