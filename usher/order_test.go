package usher_test

import "testing"

// P5: types and relations line by line, in the text's order, however it was laid out.
func TestLines(t *testing.T) {
	for text, want := range map[string]string{
		"":                                    "",
		" \t\n":                               "",
		"type a{}":                            "type a {\n}\n",
		"\ntype\ta\n{ } \t\n":                 "type a {\n}\n",
		"type b{c:[b,a*,b#c];a:[a];}type a{}": "type b {\n\tc: [b, a*, b#c];\n\ta: [a];\n}\ntype a {\n}\n",
		"type a { b : [ a , a * , a # b ] ; c : b . b & ( b | c ) ; }": "type a {\n\tb: [a, a*, a#b];\n\tc: b.b & (b | c);\n}\n",
		docs:        docsInOrder,
		docsInOrder: docsInOrder,
	} {
		wantWritten(t, text, want)
	}
}

// P5: brackets stand just where they are needed.
func TestBrackets(t *testing.T) {
	for _, c := range [][2]string{
		{"a", "a"}, {"(a)", "a"}, {"((((a))))", "a"}, {"([t])", "[t]"}, {"(a.a)", "a.a"},
		{"a|b|c", "a | b | c"}, {"(a|b)|c", "a | b | c"}, {"a|(b|c)", "a | b | c"}, {"((a|b))|((c|a))", "a | b | c | a"},
		{"a&b|c-a", "a & b | c - a"}, {"(a&b)|(c-a)", "a & b | c - a"}, {"a|((b&c))", "a | b & c"},
		{"a&b-c", "a & b - c"}, {"(a&b)-c", "a & b - c"}, {"((a-b)&c)-a", "a - b & c - a"},
		{"a&(b&c)", "a & (b & c)"}, {"a-(b-c)", "a - (b - c)"}, {"a&((b-c)&a)", "a & (b - c & a)"}, {"a-((b&c))", "a - (b & c)"},
		{"(a|b)&c", "(a | b) & c"}, {"((a|b))&c", "(a | b) & c"}, {"a-(b|c)", "a - (b | c)"}, {"a-(((b|c)))", "a - (b | c)"},
		{"((a|b)|c)&a", "(a | b | c) & a"}, {"((a|b)&c)-a", "(a | b) & c - a"}, {"((a|b)&c)|a", "(a | b) & c | a"},
		{"((a&b)|c)&(a|(b&c))", "(a & b | c) & (a | b & c)"}, {"(((a|b)&c)|a)-(b-(c|a))", "((a | b) & c | a) - (b - (c | a))"},
		{"a&(b)-(c.c)&([t,t*])", "a & b - c.c & [t, t*]"},
	} {
		wantWritten(t, "type t{a:[t];b:[t];c:[t];x:"+c[0]+";}", "type t {\n\ta: [t];\n\tb: [t];\n\tc: [t];\n\tx: "+c[1]+";\n}\n")
	}
}
