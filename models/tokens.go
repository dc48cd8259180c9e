package models

import "usher/words"

// token is a word, or any other single byte that is no blank; the end of the text is a token without text.
type token struct {
	Place
	text string
}

// tokenFrom finds the first token of the text that begins at this place or behind it.
func tokenFrom(text string, at int) token {
	for at < len(text) && isBlank(text[at]) {
		at++
	}
	return token{Place(at), text[at : at+tokenSize(text[at:])]}
}

func tokenSize(text string) int {
	if text == "" {
		return 0
	}
	return max(1, words.Size(text))
}

func (t token) isName() bool {
	return words.Size(t.text) > 0 && t.text != "type"
}

func isBlank(c byte) bool { return c == ' ' || c == '\t' || c == '\n' }
