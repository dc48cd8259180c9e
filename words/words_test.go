package words

import "testing"

// A word is a letter and all letters and digits that follow it; it fits up to MaxName bytes.
func TestWords(t *testing.T) {
	for _, c := range []struct {
		text string
		size int
		fits bool
	}{
		{"", 0, false}, {"a", 1, true}, {"z9", 2, true}, {"a0b", 3, true}, {"type", 4, true}, {"abcdefgh", 8, true},
		{"abcdefghi", 9, false}, {"a23456789", 9, false}, {"ab c", 2, false}, {"a-", 1, false}, {"1a", 0, false}, {" a", 0, false}, {"A", 0, false},
		{"aB", 1, false}, {"a_b", 1, false}, {"a`", 1, false}, {"a{", 1, false}, {"`", 0, false}, {"{", 0, false}, {"a/", 1, false}, {"a:", 1, false},
		{"é", 0, false}, {"aé", 1, false}, {"a\xff", 1, false}, {"a\x00", 1, false}, {"*", 0, false},
	} {
		if n := Size(c.text); n != c.size {
			t.Errorf("Size(%q) = %d, want %d", c.text, n, c.size)
		}
		if fits := Fits(c.text); fits != c.fits {
			t.Errorf("Fits(%q) = %t, want %t", c.text, fits, c.fits)
		}
	}
}
