package literal_test

import (
	"math/rand"
	"slices"
	"strings"
	"testing"

	"brindlewood/api"
	"brindlewood/literal"
)

// R7.4: the example of the document, and parts with texts that are known.
func TestJoin(t *testing.T) {
	expectJoin(t, []api.FieldPart{plain("a{"), field("x", 'r', ">5")}, "f'a{{{x!r:>5}'", noFault)
	for _, c := range []struct {
		want  string
		parts []api.FieldPart
	}{
		{"f''", nil},
		{"f''", []api.FieldPart{}},
		{"f'a'", []api.FieldPart{plain("a")}},
		{"f'{x}'", []api.FieldPart{field("x", 0, "")}},
		{"f'{ x }'", []api.FieldPart{field(" x ", 0, "")}},
		{"f'{x!s}'", []api.FieldPart{field("x", 's', "")}},
		{"f'{x:5}'", []api.FieldPart{field("x", 0, "5")}},
		{"f'{x}{y!r}{z:#}'", []api.FieldPart{field("x", 0, ""), field("y", 'r', ""), field("z", 0, "#")}},
		{"f'a{x}b{y}c'", []api.FieldPart{plain("a"), field("x", 0, ""), plain("b"), field("y", 0, ""), plain("c")}},
		{"f'{{{x}}}'", []api.FieldPart{plain("{"), field("x", 0, ""), plain("}")}},
		{`f'{d["a"]}'`, []api.FieldPart{field(`d["a"]`, 0, "")}},
		{"f'{ {1: 2}[x!=y]}'", []api.FieldPart{field(" {1: 2}[x!=y]", 0, "")}},
		{"f'{x::!é}'", []api.FieldPart{field("x", 0, ":!é")}},
		{`f'\''`, []api.FieldPart{plain("'")}},
		{`f'"'`, []api.FieldPart{plain(`"`)}},
		{`f'"""\'\'\''`, []api.FieldPart{plain(`"""'''`)}},
		{`f'\\n\n\t\\'`, []api.FieldPart{plain("\\n\n\t\\")}},
		{`f'{{}}}}{{'`, []api.FieldPart{plain("{}}{")}},
		{`f'\x00\x0d\x1f \x7f\x80\x9f` + "\u00a0é€😀\ufffd'", []api.FieldPart{plain("\x00\r\x1f \x7f\u0080\u009f\u00a0é€😀\ufffd")}},
	} {
		expectJoin(t, c.parts, c.want, noFault)
	}
}

// R7.4: every character below 300, and some others, as a text and between others.
func TestJoinCharacters(t *testing.T) {
	for char := range rune(300) {
		expectJoinOracle(t, []api.FieldPart{plain(string(char))})
		expectJoinOracle(t, []api.FieldPart{plain("0" + string(char) + "0"), field("x", 0, ""), plain(string(char) + string(char))})
		expectJoinOracle(t, []api.FieldPart{field(string(char), 0, "")})
		expectJoinOracle(t, []api.FieldPart{field("x", 'r', string(char))})
		if got, f := literal.Join([]api.FieldPart{plain(string(char))}); f != noFault || got != written([]api.FieldPart{plain(string(char))}) {
			t.Fatalf("the character %d becomes %q, fault %v", char, got, f)
		}
	}
	for _, char := range []rune{0x7ff, 0x800, 0x2028, 0xd7ff, 0xe000, 0xfeff, 0xfffd, 0xffff, 0x10000, 0x10ffff} {
		expectJoin(t, []api.FieldPart{plain(string(char))}, "f'"+string(char)+"'", noFault)
	}
}

// R7.4: the text of the parts that Parts returns has the same parts, however the string was written.
func TestJoinParts(t *testing.T) {
	chance := rand.New(rand.NewSource(74))
	pieces := []string{"a", " ", "{{", "}}", `\n`, `\t`, `\\`, `\"`, `\'`, `\x07`, `\x80`, `\u{85}`, "é", "\u0085", "{x}", "{ y+1 }", "{f(a, b)[1:2]!r}", "{x:>5}", "{x!s:#}", "{x:}", "{x!r:}", "{ {}}", "#", "!", ":"}
	for range 5000 {
		var content strings.Builder
		for range chance.Intn(9) {
			content.WriteString(pieces[chance.Intn(len(pieces))])
		}
		for _, s := range quoted("f", content.String()) {
			parts, f := literal.Parts(s)
			if f != noFault {
				t.Fatalf("Parts(%s): fault %v", brief(s), f)
			}
			joined, f := literal.Join(parts)
			if f != noFault {
				t.Fatalf("Join(%s): fault %v", brief(parts), f)
			}
			expectParts(t, joined, parts...)
			expectJoinOracle(t, parts)
		}
	}
}

// R7.4: parts that Parts does not return.
func TestJoinOtherParts(t *testing.T) {
	for _, l := range [][]api.FieldPart{
		// Texts that are empty, follow each other, have fields that they do not use, or bytes that are not valid.
		{plain("")}, {plain(""), field("x", 0, "")}, {field("x", 0, ""), plain(""), field("y", 0, "")}, {plain("a"), plain("b")}, {plain("{"), plain("{")}, {plain("a"), plain("")}, {{}}, {{}, {}},
		{{Text: "a", Convert: 'r'}}, {{Text: "a", Convert: 1}}, {{Text: "a", Convert: minInt}}, {{Text: "a", Spec: "5"}}, {{Text: "a", Spec: " "}}, {{Convert: 's', Spec: "5"}},
		{plain("\xff")}, {plain("a\x80b")}, {plain("\xc3")}, {plain("é\xa9")}, {plain("\xe2\x82")}, {plain("\xed\xa0\x80")}, {plain("\xf4\x90\x80\x80")}, {plain("\xc0\x80")}, {plain("\xff"), field("x", 0, "")},
		// Expressions.
		{field("", 0, "")}, {field(" ", 0, "")}, {field("", 'r', "5")}, {field("x!r", 0, "")}, {field("x:5", 0, "")}, {field("x!r:5", 0, "")}, {field("x!r", 's', "")}, {field("x:5", 'r', "")}, {field("x:5", 0, "6")}, {field("x}", 0, "")}, {field("x}a{y", 0, "")}, {field("x}}", 0, "")}, {field("}", 0, "")},
		{field("{}", 0, "")}, {field("{x}", 0, "")}, {field("{", 0, "")}, {field("{x", 0, "")}, {field("(", 0, "")}, {field("x)", 0, "")}, {field("(]", 0, "")}, {field("[1:2", 0, "")}, {field("'a'", 0, "")}, {field("'", 0, "")}, {field(`"`, 0, "")}, {field(`"a`, 'r', "")}, {field("x#", 0, "")}, {field(`"#"`, 0, "")}, {field(`\x41`, 0, "")}, {field(`"\n"`, 0, "")}, {field("a\nb", 0, "")}, {field("a\tb", 0, "")}, {field("x\x00", 0, "")}, {field("\xff", 0, "")}, {field("x'", 0, "")}, {field("x'y{'z", 0, "")}, {field("x!", 0, "")}, {field("x:", 0, "")}, {field("x!=y", 0, "")},
		// Conversions.
		{field("x", 'a', "")}, {field("x", 'R', "")}, {field("x", 1, "")}, {field("x", ':', "")}, {field("x", '}', "")}, {field("x", '\'', "")}, {field("x", 255, "")}, {field("x", 256, "")}, {field("x", 256+'r', "")}, {field("x", 256+'s', "5")}, {field("x", 'r'-256, "")}, {field("x", -1, "")}, {field("x", minInt, "")}, {field("x", maxInt, "")}, {field("x", minInt+'r', "")}, {field("x", 1<<32+'s', "")},
		// Specifications.
		{field("x", 0, "{")}, {field("x", 0, "}")}, {field("x", 0, "{y}")}, {field("x", 0, "a}b{c")}, {field("x", 0, "'")}, {field("x", 0, `"`)}, {field("x", 'r', `\n`)}, {field("x", 0, "\n")}, {field("x", 0, "\t")}, {field("x", 's', "\xff")}, {field("x", 0, "}}")}, {field("x", 0, "} {y:")},
		{field("x", 0, strings.Repeat("a", api.MaxField+1))}, {plain(strings.Repeat("a", api.MaxText+1))}, {plain("a"), field("x", 0, ""), plain(strings.Repeat("'", api.MaxText+1))},
	} {
		expectJoin(t, l, "", wrongForm)
		expectJoin(t, slices.Concat([]api.FieldPart{field("a", 0, "")}, l, []api.FieldPart{field("b", 0, "")}), "", wrongForm)
	}
}

// R7.4: the sizes of parts, also of those that Parts does not return: with a text that fills the result up to MaxSource bytes its size is no fault, with one byte more it is.
func TestJoinSizes(t *testing.T) {
	for _, l := range [][]api.FieldPart{
		nil, {plain("a")}, {plain("")}, {plain("'")}, {plain(`"`)}, {plain(`\`)}, {plain("\n\t")}, {plain("\x00\x1f\x7f")}, {plain("\u0080\u009f")}, {plain("\u00a0")}, {plain("é€😀")}, {plain("{}")}, {plain("\xff")}, {plain("\xe2\x82")}, {plain("\xc3(\xf0\x9f\x98")}, {plain("\ufffd")}, {{Text: "a", Convert: 'r', Spec: strings.Repeat("a", 2*api.MaxSource)}},
		{field("", 0, "")}, {field("x", 0, "")}, {field("x", 'r', "")}, {field("x", 0, "5")}, {field("x", 's', "5")}, {field("é", 0, "€")}, {field("'{}\n\x00\\", 0, "'{}\n\x00\\")}, {field("\xff", 0, "\xff")}, {field("x", 256, "")}, {field("x", -1, "")}, {field("x", 0x1f600, "")}, {field("x", 233, "")}, {field("x", minInt, "")}, {field("x", 65536, "5")}, {{}, {}},
	} {
		for _, fill := range []api.FieldPart{plain("$"), field("$", 0, ""), field("", 0, "$")} {
			ahead := len(written(append(slices.Clone(l), fill)))
			filled := fill
			filled.Text = strings.ReplaceAll(fill.Text, "$", strings.Repeat("$", api.MaxSource-ahead+1))
			filled.Spec = strings.ReplaceAll(fill.Spec, "$", strings.Repeat("$", api.MaxSource-ahead+1))
			all := append(slices.Clone(l), filled)
			if size := len(written(all)); size != api.MaxSource {
				t.Fatalf("%d bytes", size)
			}
			if _, f := literal.Join(all); f == tooLarge {
				t.Fatalf("Join(%s): fault %v", brief(all), f)
			}
			expectJoinOracle(t, all)
			expectJoin(t, append(all, plain("a")), "", tooLarge)
			expectJoin(t, append([]api.FieldPart{plain("a")}, all...), "", tooLarge)
			expectJoin(t, append(all, field("", 0, "")), "", tooLarge)
			all[len(l)].Text += "$"
			expectJoin(t, all, "", tooLarge)
		}
	}
}

// R7.4: large parts: results of MaxSource bytes, and parts that are much too large.
func TestJoinLarge(t *testing.T) {
	long := strings.Repeat("a", api.MaxText)
	l := []api.FieldPart{plain(long), field("x", 0, ""), plain(long), field("y", 0, ""), plain(long), field("z", 0, ""), plain(long[:api.MaxText-12])}
	expectJoin(t, l, "f'"+long+"{x}"+long+"{y}"+long+"{z}"+long[:api.MaxText-12]+"'", noFault)
	l[6].Text += "a"
	expectJoin(t, l, "", tooLarge)
	controls := strings.Repeat("\x00", api.MaxText-1)
	expectJoin(t, []api.FieldPart{plain(controls)}, "f'"+strings.Repeat(`\x00`, api.MaxText-1)+"'", noFault)
	expectJoin(t, []api.FieldPart{plain(controls + "a")}, "f'"+strings.Repeat(`\x00`, api.MaxText-1)+"a'", noFault)
	expectJoin(t, []api.FieldPart{plain(controls + "'")}, "", tooLarge)
	expectJoin(t, []api.FieldPart{plain(controls + "\x00")}, "", tooLarge)
	expression := strings.Repeat("x", api.MaxSource-5)
	expectJoinLong := func(l []api.FieldPart, want string, fault api.Fault) {
		if got, f := literal.Join(l); got != want || f != fault {
			t.Fatalf("Join(%s): %s, fault %v", brief(l), brief(got), f)
		}
	}
	expectJoinLong([]api.FieldPart{field(expression, 0, "")}, "f'{"+expression+"}'", noFault)
	expectJoinLong([]api.FieldPart{field(expression+"x", 0, "")}, "", tooLarge)
	huge := strings.Repeat("\n", 3_000_000)
	expectJoinLong([]api.FieldPart{plain(huge), plain(huge)}, "", tooLarge)
	expectJoinLong([]api.FieldPart{field(huge, 'q', huge)}, "", tooLarge)
	expectJoinLong([]api.FieldPart{{Text: "a", Spec: huge}}, "", wrongForm)
	expectJoinLong(slices.Repeat([]api.FieldPart{plain("")}, 100_000), "", wrongForm)
	expectJoinLong(slices.Repeat([]api.FieldPart{field("", 0, "")}, 100_000), "", tooLarge)
	// What does not fit is left out, but nothing behind it makes up for it.
	expectJoinLong([]api.FieldPart{plain(huge), plain("")}, "", tooLarge)
	expectJoinLong([]api.FieldPart{field(huge, 0, ""), plain("a")}, "", tooLarge)
}

// R7.4: random parts.
func TestJoinRandom(t *testing.T) {
	chance := rand.New(rand.NewSource(75))
	pieces := append(chars(`ab {}'"\!:()[]#`), "\n", "\t", "\x00", "\u0085", "é", "€", "\xff", "{x}", "!r", ":5")
	pick := func(most int) string {
		var s strings.Builder
		for range chance.Intn(most + 1) {
			s.WriteString(pieces[chance.Intn(len(pieces))])
		}
		return s.String()
	}
	for range 30_000 {
		var l []api.FieldPart
		for range chance.Intn(4) {
			part := plain(pick(4))
			if chance.Intn(2) == 0 {
				part = field([]string{"x", "f(y)", pick(3)}[chance.Intn(3)], []int{0, 0, 'r', 's', 'r' + 256, chance.Intn(300)}[chance.Intn(6)], []string{"", ">5", pick(2)}[chance.Intn(3)])
			}
			l = append(l, part)
		}
		expectJoinOracle(t, l)
	}
}

// Z4: the parts, with their spare capacity, stay as they are.
func TestJoinArguments(t *testing.T) {
	for _, l := range [][]api.FieldPart{{plain("a{"), field("x", 'r', ">5")}, {plain("\xff"), {}}, {plain(strings.Repeat("a", api.MaxSource))}} {
		backing := append(slices.Clone(l), plain("spare"), field("y", 1, "z"))
		before := slices.Clone(backing)
		literal.Join(backing[:len(l)])
		if !slices.Equal(backing, before) {
			t.Fatalf("Join changed %s", brief(l))
		}
	}
}
