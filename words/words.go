// Package words tells what a word is.
package words

import "usher/api"

// Size tells how many bytes the word has that the text begins with: 0, if it begins with none.
func Size(text string) int {
	if text == "" || !isLetter(text[0]) {
		return 0
	}
	size := 1
	for size < len(text) && (isLetter(text[size]) || isDigit(text[size])) {
		size++
	}
	return size
}

// Fits tells whether the text is one word within the bound.
func Fits(text string) bool {
	return 0 < len(text) && len(text) <= api.MaxName && Size(text) == len(text)
}

func isLetter(c byte) bool { return 'a' <= c && c <= 'z' }

func isDigit(c byte) bool { return '0' <= c && c <= '9' }
