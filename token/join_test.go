package token_test

import (
	"math/rand"
	"slices"
	"strings"
	"testing"

	"brindlewood/api"
	"brindlewood/token"
)

// sources are texts whose tokens Join lays out otherwise, or in the same way.
var sources = []string{
	"", "\n\n", "# a", "a", "if a:\n  b", "  a", "a\n", "a b\nc\n", "a\n     b\n          c\n     d\ne", "a\n b\n  c\n   d\n    'e'", "(\n\n)[ {} # x\n]\nf(x,y)", "x=-1.5**0x1f",
	"'é€😀' r\"\\\" # a\nb''\n f'{a}'", "\"\"\"a\n\n  b\"\"\"(\n)", "a\n \"\"\"b\n  \"\"\"\nr\"\"\"\n\"\"\"", "-> - > ==!= = =", "1.5 .5 1 . 5 1. 5", "@f\ndef g(*a):\n  pass\n\nelse:\n  # x\n  while true:\n\n    break",
}

// tokensOf returns the tokens of a source, which has no fault.
func tokensOf(t *testing.T, text string) []api.Token {
	t.Helper()
	l, f := token.Scan(text)
	if f != noFault {
		t.Fatalf("Scan(%q): fault %v", brief(text), f)
	}
	return l
}

// expectJoined compares the text of a list, or its fault, with the oracle.
func expectJoined(t *testing.T, l []api.Token) {
	t.Helper()
	text, fault := joinedOr(l)
	expectJoin(t, l, text, fault)
}

// R6.3: texts that are known: lines, levels and the blanks ahead of tokens.
func TestJoin(t *testing.T) {
	for text, want := range map[string]string{
		"": "", "  # x\n": "", "a": "a\n", "\n\na\n\n": "a\n", "if a:\n  b": "if a :\n  b\n", "  a": "  a\n", "f(x,y)": "f ( x , y )\n", "(\n a # x\n)": "( a )\n", "-x**2": "- x ** 2\n",
		"a\n b\n  c\n d\ne": "a\n  b\n    c\n  d\ne\n", "a\n      b\n       c\nd": "a\n  b\n    c\nd\n", " a\n  b\nc": "  a\n    b\nc\n", "a\n b\n  c": "a\n  b\n    c\n",
		"1.5.5'é€😀'": "1.5 . 5 'é€😀'\n", "r\"\\\"b''": "r\"\\\" b''\n", "r ''": "r ''\n", "(\"\"\"a\n b\"\"\")": "( \"\"\"a\n b\"\"\" )\n", "a\n \"\"\"\n\"\"\"x": "a\n  \"\"\"\n\"\"\" x\n", "- >= =": "- >= =\n",
	} {
		expectJoin(t, tokensOf(t, text), want, noFault)
		expectJoin(t, bare(tokensOf(t, text)), want, noFault)
	}
}

// R6.3: the text of the tokens of a source has the same tokens, wherever these stood.
func TestJoinScanned(t *testing.T) {
	chance := rand.New(rand.NewSource(63))
	texts := slices.Clone(sources)
	for range 3000 {
		texts = append(texts, randomText(chance))
	}
	for _, text := range texts {
		l, f := token.Scan(text)
		if f != noFault {
			continue
		}
		joined, f := token.Join(l)
		if f != noFault || !slices.Equal(bare(tokensOf(t, joined)), bare(l)) {
			t.Fatalf("%q becomes %q, fault %v", brief(text), brief(joined), f)
		}
		expectJoined(t, l)
		again, _ := token.Join(tokensOf(t, joined))
		if again != joined {
			t.Fatalf("%q becomes %q", brief(joined), brief(again))
		}
	}
}

// R6.3: positions do not count.
func TestJoinPositions(t *testing.T) {
	chance := rand.New(rand.NewSource(64))
	for _, text := range sources {
		l := tokensOf(t, text)
		want, f := token.Join(l)
		for range 10 {
			for i := range l {
				l[i].Line, l[i].Column = []int{minInt, -1, 0, 1, 7, maxInt}[chance.Intn(6)], chance.Intn(100)-50
			}
			expectJoin(t, l, want, f)
		}
	}
}

// R6.3: lists whose text gives other tokens.
func TestJoinOtherTokens(t *testing.T) {
	a, b := name("a"), name("b")
	for _, l := range [][]api.Token{
		nil, {}, {line}, {in}, {out}, {a}, {a, line}, {a, end}, {end, end}, {line, end}, {in, end}, {in, out, end}, {out, end}, {out, in, end}, {end, a, line, end}, {a, line, end, end}, {a, line, end, b, line, end},
		{a, line, line, end}, {line, a, line, end}, {in, a, line, end}, {in, in, a, line, out, out, end}, {a, in, line, out, end}, {a, line, in, out, b, line, end}, {a, line, in, b, line, end}, {out, a, line, end}, {out, a, line, in, end}, {out, in, in, a, line, out, end},
		{in, a, line, in, in, b, line, out, out, out, end}, {in, a, line, out, out, b, line, end}, {a, line, in, b, line, out, out, end}, {a, end, b, line, end}, {a, in, b, line, out, end}, {a, in, out, b, line, end}, {a, line, b, end, line},
		{sign("("), line, end}, {sign("("), a, line, sign(")"), line, end}, {sign("["), sign(")"), line, end}, {sign(")"), line, end}, {sign("("), line, sign(")"), line, end},
		{name(""), line, end}, {name(" "), line, end}, {name("a "), line, end}, {name(" a"), line, end}, {name("a b"), line, end}, {name("a\nb"), line, end}, {name("é"), line, end}, {name("1a"), line, end}, {name("a\x00"), line, end}, {name("\xff"), line, end}, {name("a\n"), end}, {name("#"), line, end}, {a, name("# b"), line, end},
		{name("if"), line, end}, {key("a"), line, end}, {number("a"), line, end}, {name("1"), line, end}, {str("a"), line, end}, {name("'a'"), line, end}, {sign("a"), line, end}, {name("="), line, end}, {sign("''"), line, end}, {key("If"), line, end}, {key(""), line, end},
		{number("01"), line, end}, {number("1."), line, end}, {number("-1"), line, end}, {number("0x"), line, end}, {number(strings.Repeat("1", api.MaxNumeral+1)), line, end}, {name(strings.Repeat("a", api.MaxName+1)), line, end},
		{str("'"), line, end}, {str("'a\n'"), line, end}, {str("''''"), line, end}, {str("rb''"), line, end}, {str("' "), str(" '"), line, end}, {str(`"""`), line, end}, {str("'\\'"), line, end},
		{sign("=="), sign("= ="), line, end}, {sign("!"), line, end}, {sign("()"), line, end}, {sign("***"), line, end}, {sign(""), line, end}, {a, sign(""), line, end}, {sign(" "), a, line, end},
	} {
		expectJoin(t, l, "", noTokens)
		expectJoined(t, l)
	}
}

// R6.3: tokens with other kinds, and texts of tokens that have none.
func TestJoinOtherKinds(t *testing.T) {
	for _, text := range sources {
		l := tokensOf(t, text)
		for i, k := range l {
			for _, kind := range []int{minInt, -8, -1, 0, 1, 2, 3, 4, 5, 6, 7, 8, 9, 10, 260, maxInt} {
				l[i].Kind = kind
				expectJoined(t, l)
				if kind != k.Kind {
					expectJoin(t, l, "", noTokens)
				}
			}
			l[i] = k
			for _, other := range []string{"", " ", "a", "\n", "0", k.Text + " ", " " + k.Text, k.Text + "\n", k.Text + "_", k.Text + "\x00", "# " + k.Text} {
				l[i].Text = other
				expectJoined(t, l)
				if k.Kind <= api.TokDedent && other != "" {
					expectJoin(t, l, "", noTokens)
				}
			}
			l[i] = k
		}
	}
}

// R6.3: lists from which tokens were taken, to which some were added, and whose order was changed.
func TestJoinChanged(t *testing.T) {
	for _, text := range sources {
		l := tokensOf(t, text)
		for i := range l {
			expectJoined(t, slices.Delete(slices.Clone(l), i, i+1))
			expectJoined(t, l[:i])
			expectJoined(t, l[i:])
			for _, k := range []api.Token{line, in, out, end, name("a"), key("if"), str("'\\''"), sign("("), sign(")"), sign("="), number("1"), l[i]} {
				expectJoined(t, slices.Insert(slices.Clone(l), i, k))
			}
			for j := range i {
				other := slices.Clone(l)
				other[i], other[j] = other[j], other[i]
				expectJoined(t, other)
			}
		}
	}
}

// R6.3: all short lists of a few tokens.
func TestJoinAll(t *testing.T) {
	pieces := map[string]api.Token{"a": name("a"), "\n": line, ">": in, "<": out, ".": end, "'": str("'a'"), "(": sign("("), ")": sign(")")}
	forAll(chars("a\n><.("), 6, func(text string) {
		var l []api.Token
		for _, char := range chars(text) {
			l = append(l, pieces[char])
		}
		expectJoined(t, l)
	})
	forAll(chars("a\n><')"), 5, func(text string) {
		l := []api.Token{sign("(")}
		for _, char := range chars(text) {
			l = append(l, pieces[char])
		}
		expectJoined(t, append(l, line, end))
	})
}

// R6.3: how many bytes the text of a list has, even if it gives other tokens: with what fills it up to MaxSource bytes its size is no fault, with one byte more it is.
func TestJoinSizes(t *testing.T) {
	a := name("a")
	odd := api.Token{Kind: 9, Text: "x"}
	low := api.Token{Kind: -1, Text: "\xff"}
	withText := api.Token{Kind: api.TokLine, Text: strings.Repeat("a", 100)}
	for _, l := range [][]api.Token{
		nil, {a}, {a, a, a}, {line}, {line, line, a}, {in}, {in, in, in}, {out}, {out, out, out}, {out, in}, {out, out, in, in, in}, {in, out, out, in, in}, {a, in}, {a, in, a, out, a}, {a, line, in}, {a, line, in, a, a, line},
		{a, line, out}, {a, line, out, a, line, in, in}, {end}, {end, end, in}, {a, end, a, end}, {a, line, end}, {in, end, a, end, line, end}, {a, end, line, in, end, out, end, in}, {in, a, in, in, a, line},
		{name("")}, {name(""), name("")}, {line, name("")}, {in, name("")}, {odd}, {low, low}, {in, odd, line, low}, {a, odd, in, low}, {withText}, {in, withText, a},
		{{Kind: api.TokIndent, Text: "aaa"}}, {{Kind: api.TokDedent, Text: "aaa"}}, {{Kind: api.TokEnd, Text: "aaa"}}, {{Kind: minInt, Text: "aaa"}}, {{Kind: maxInt, Text: ""}}, {{Kind: api.TokNumber, Text: "é"}, {Kind: api.TokKeyword, Text: "a\nb"}, str("'\n")},
	} {
		ahead := len(joined(append(slices.Clone(l), sign(""))))
		filled := append(slices.Clone(l), sign(strings.Repeat("$", api.MaxSource-ahead)))
		expectJoin(t, filled, "", noTokens)
		expectJoin(t, append(filled, in, in, end, out), "", noTokens)
		expectJoin(t, append(filled, line), "", tooLarge)
		expectJoin(t, append(filled, end, name("")), "", tooLarge)
		expectJoin(t, append(filled, line, out, name("a")), "", tooLarge)
		filled[len(l)].Text += "$"
		expectJoin(t, filled, "", tooLarge)
		expectJoin(t, append(filled, out, end), "", tooLarge)
	}
}

// R6.3: texts of MaxSource bytes that have the given tokens, and longer ones.
func TestJoinLarge(t *testing.T) {
	a := name("a")
	for _, unit := range [][]api.Token{{a}, {a, sign("+"), str("'é'")}, {name("if_"), sign("("), sign(")")}, {in, a, line, out, a, line}} {
		l := slices.Repeat(unit, api.MaxSource/(len(joined(unit))+1)/2)
		last := str("''")
		last.Text = "'" + strings.Repeat("b", api.MaxSource-len(joined(append(l, last, line)))) + "'"
		l = append(l, last, line, end)
		expectJoin(t, l, joined(l), noFault)
		if size := len(joined(l)); size != api.MaxSource {
			t.Fatalf("the text has %d bytes", size)
		}
		l[len(l)-3].Text = "'b" + l[len(l)-3].Text[1:]
		expectJoin(t, l, "", tooLarge)
	}
	expectJoin(t, slices.Repeat([]api.Token{a}, api.MaxSource/2+1), "", tooLarge)
	expectJoin(t, slices.Repeat([]api.Token{a}, api.MaxSource/2), "", noTokens)
	expectJoin(t, slices.Repeat([]api.Token{line}, api.MaxSource), "", noTokens)
	expectJoin(t, slices.Repeat([]api.Token{line}, api.MaxSource+1), "", tooLarge)
	expectJoin(t, slices.Repeat([]api.Token{end}, 2*api.MaxSource), "", noTokens)
	expectJoin(t, slices.Repeat([]api.Token{in}, 2*api.MaxSource), "", noTokens)
	expectJoin(t, append(slices.Repeat([]api.Token{in}, api.MaxSource/2), name("")), "", noTokens)
	expectJoin(t, append(slices.Repeat([]api.Token{in}, api.MaxSource/2), a), "", tooLarge)
	expectJoin(t, append(slices.Repeat([]api.Token{in}, 200_000), slices.Repeat([]api.Token{a, line}, 200_000)...), "", tooLarge)
	expectJoin(t, slices.Repeat([]api.Token{name(strings.Repeat("a", 100_000))}, 30_000), "", tooLarge)
}

// R6.3: lists that go down below the level 0 and up again.
func TestJoinLevels(t *testing.T) {
	a := name("a")
	for depth := range 10 {
		down, up := slices.Repeat([]api.Token{out}, depth), slices.Repeat([]api.Token{in}, depth)
		for _, l := range [][]api.Token{{a, line, end}, {in, a, line, out, end}, {a, line, in, a, line, out, a, line, end}} {
			expectJoined(t, slices.Concat(down, l))
			expectJoined(t, slices.Concat(down, up, l))
			expectJoined(t, slices.Concat(up, down, l))
			expectJoined(t, slices.Concat(down, l[:len(l)-1], up, []api.Token{a, line, end}))
		}
	}
	// The levels cannot be seen in these texts, but in how many bytes they have.
	filled := name(strings.Repeat("$", api.MaxSource-4))
	expectJoin(t, []api.Token{out, out, out, in, in, in, in, in, filled}, "", noTokens)
	expectJoin(t, []api.Token{out, out, in, in, in, in, in, filled}, "", tooLarge)
	expectJoin(t, []api.Token{out, out, name("$"), line, in, in, in, in, name(strings.Repeat("$", api.MaxSource-6))}, "", noTokens)
	expectJoin(t, []api.Token{out, out, name("$"), line, in, in, in, in, name(strings.Repeat("$", api.MaxSource-5))}, "", tooLarge)
}

// Z4: the list, with its spare capacity, stays as it is.
func TestJoinArguments(t *testing.T) {
	for _, text := range append(sources, strings.Repeat("a ", 8000)) {
		l := tokensOf(t, text)
		backing := append(slices.Clone(l), name("spare"), sign("$"))
		before := slices.Clone(backing)
		token.Join(backing[:len(l)])
		if !slices.Equal(backing, before) {
			t.Fatalf("Join changed the tokens of %q", brief(text))
		}
	}
}
