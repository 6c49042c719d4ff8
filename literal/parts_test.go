package literal_test

import (
	"fmt"
	"math/rand"
	"strings"
	"testing"

	"brindlewood/api"
)

// expectContent compares the parts of a formatted string in single quotes.
func expectContent(t *testing.T, content string, want ...api.FieldPart) {
	t.Helper()
	expectParts(t, "f'"+content+"'", want...)
}

// expectWrong compares the fault of a formatted string in single quotes, alone and with something ahead of the content, and if there are no double quotes in the content, also between double and three quotes.
func expectWrong(t *testing.T, content string, offset int) {
	t.Helper()
	expectPartsFault(t, "f'"+content+"'", syntax(2+offset))
	expectPartsFault(t, `f'é{a}{{`+content+"'", syntax(9+offset))
	if !strings.Contains(content, `"`) {
		expectPartsFault(t, `f"`+content+`"`, syntax(2+offset))
		expectPartsFault(t, `f"""`+content+`"""`, syntax(4+offset))
		expectPartsFault(t, "f\"\"\"\n"+content+`"""`, syntax(5+offset))
	}
}

// R7.3: the example of the document, and ordinary formatted strings.
func TestParts(t *testing.T) {
	expectParts(t, `f"a{{{x!r:>5}"`, plain("a{"), field("x", 'r', ">5"))
	expectParts(t, `f"{name} is {age + 1:>3} years old{end!s}"`, field("name", 0, ""), plain(" is "), field("age + 1", 0, ">3"), plain(" years old"), field("end", 's', ""))
	expectParts(t, `f""`)
	expectParts(t, `f''`)
	expectParts(t, `f""""""`)
	for _, s := range quoted("f", "a") {
		expectParts(t, s, plain("a"))
	}
	for _, s := range quoted("f", "{a}") {
		expectParts(t, s, field("a", 0, ""))
	}
	expectParts(t, "f\"\"\"a\n{b}\n\n{c}d\"e\"\"f\"\"\"", plain("a\n"), field("b", 0, ""), plain("\n\n"), field("c", 0, ""), plain(`d"e""f`))
}

// R7.3: texts: escapes, doubled braces, and what is empty between fields.
func TestPartsTexts(t *testing.T) {
	for content, want := range map[string]string{
		" ": " ", "a b": "a b", "é€😀": "é€😀", "#!:": "#!:", "()[]": "()[]", "([": "([", `"`: `"`, `"a`: `"a`, `\'`: "'", `\"`: `"`, `\n\t\\`: "\n\t\\", `\x41\x7b\x7d`: "A{}", `\u{41}`: "A", `\u{7b}\u{7d}`: "{}", `\u{1f600}`: "😀",
		"{{": "{", "}}": "}", "{{}}": "{}", "}}{{": "}{", "{{{{": "{{", "}}}}": "}}", "{{a}}": "{a}", "{{{{a}}}}": "{{a}}", "{{!r:}}": "{!r:}", `{{\n}}`: "{\n}", `{{\u{41}}}`: "{A}", `\\{{`: `\{`, `\u{41}}}`: "A}", `{{ }} #`: "{ } #", "\x7f\u0085": "\x7f\u0085",
	} {
		expectContent(t, content, plain(want))
		expectContent(t, content+"{x}", plain(want), field("x", 0, ""))
		expectContent(t, "{x!s}"+content, field("x", 's', ""), plain(want))
		expectContent(t, "{x:5}"+content+"{y}{z}", field("x", 0, "5"), plain(want), field("y", 0, ""), field("z", 0, ""))
		expectContent(t, content+content, plain(want+want))
	}
	expectContent(t, "{a}{b}", field("a", 0, ""), field("b", 0, ""))
	expectContent(t, "{{{a}{b}}}", plain("{"), field("a", 0, ""), field("b", 0, ""), plain("}"))
	expectContent(t, "{{{{{a}}}}}", plain("{{"), field("a", 0, ""), plain("}}"))
}

// R7.3: expressions with all their blanks, with brackets of every kind, strings of both kinds, and colons, exclamation marks and braces within brackets and strings.
func TestPartsExpressions(t *testing.T) {
	for _, expression := range []string{
		"a", " a", "a ", "  a  ", "a b", "1", "a.b", "a+b*c", "-a", "a if b else c", "é", "😀", "$", "?;", "\x7f", ".", "=", "a=", "a==b", "not a", "_",
		"()", "[]", "f(x)", "a[1]", "a[1:2]", "a[:]", "f(a!b)", "(a!=b)", "[a!=b]", "( {} )", "({})", "[{}]", " {}", " {1}", " {1: 2}[1]", " {a: {b: c}}", " { }", "({a}!{b})", "f(g(h[i{j}]))", "(())", "([{}])", "()[]", "(fn: 1)", "[:!]", "a[b(c)]",
		`""`, `"a"`, `"a" + "b"`, `" "`, `"}"`, `"{"`, `"!r"`, `":"`, `"("`, `")"`, `"]"`, `"}{"`, `f("a)")`, `["]"]`, `d["a"]`, `d["{}:!"]`, `"a"[1:2]`, `("}" "!")`, `" "" "`, `"é"`, `""""`, `""""""`,
	} {
		for tail, want := range map[string]api.FieldPart{"": field(expression, 0, ""), "!r": field(expression, 'r', ""), "!s": field(expression, 's', ""), ":": field(expression, 0, ""), ":>5": field(expression, 0, ">5"), "!r:": field(expression, 'r', ""), "!s:05": field(expression, 's', "05")} {
			expectContent(t, "{"+expression+tail+"}", want)
			expectContent(t, "a{"+expression+tail+"}}}", plain("a"), want, plain("}"))
			other := strings.ReplaceAll(expression, `"`, `'`)
			want.Text = other
			expectParts(t, `f"{`+other+tail+`}{`+other+tail+`}"`, want, want)
			expectParts(t, "f\"\"\"{"+other+tail+"}\n\"\"\"", want, plain("\n"))
		}
	}
	// Strings end with the next quote of the same kind, and no other one stands in them.
	expectContent(t, `{""":"}`, field(`"""`+`:"`, 0, ""))
}

// R7.3: conversions and specifications.
func TestPartsSpecifications(t *testing.T) {
	for _, spec := range []string{" ", ">5", "05", "#", "#x", "!", "!r", ":", "::", "a:b", "()", "(", ")]", "é€", " a ", ".2", ",", "$", "!:!", "\x7f", "r", strings.Repeat("a", api.MaxField), strings.Repeat("é", api.MaxField/2)} {
		expectContent(t, "{x:"+spec+"}", field("x", 0, spec))
		expectContent(t, "{x!r:"+spec+"}", field("x", 'r', spec))
		expectContent(t, "{ x !s:"+spec+"}}}", field(" x ", 's', spec), plain("}"))
		for _, s := range quoted("f", "{(x):"+spec+"}") {
			expectParts(t, s, field("(x)", 0, spec))
		}
	}
	for _, conversion := range []int{'r', 's'} {
		expectContent(t, fmt.Sprintf("{x!%c}", conversion), field("x", conversion, ""))
		expectContent(t, fmt.Sprintf("{x!%c:}", conversion), field("x", conversion, ""))
	}
}

// R7.3: strings that are not formatted, whatever is wrong in them.
func TestPartsOthers(t *testing.T) {
	for _, prefix := range []string{"", "r", "b"} {
		for _, content := range []string{"", "a", "{x}", "}", `\q`, "{", strings.Repeat("a", api.MaxText+1)} {
			for _, s := range quoted(prefix, content) {
				expectPartsFault(t, s, wrongType)
			}
		}
	}
	expectPartsFault(t, `b"é"`, wrongType)
	// The token ends with the first quote of the kind that closes it.
	for _, s := range []string{`f"{a["b"]}"`, `f'{a['b']}'`, `f"{"}"`, `f'{''}'`, "f'{\n}'", `f"{x}`, `f"""{x}"`, `rf"{x}"`, `F"{x}"`, `f "{x}"`, `f"{x}" `, "f\"{\t}\"", "f'\xff'"} {
		expectPartsFault(t, s, noLiteral)
	}
}

// R7.3: a } outside of fields, and wrong escapes in texts.
func TestPartsWrongTexts(t *testing.T) {
	for content, offset := range map[string]int{
		"}": 0, "a}": 1, "}a": 0, "}}}": 2, "{{}": 2, "} }": 0, "a}{": 1, "a}b}": 1, "{x}}": 3, "{x}}a": 3, "{x}}{y}": 3, "{x:}}": 4, "{x!r}}": 5, "{{x}": 3, "{{{{x}": 5, "}}}{": 2, "é}": 2, "{{{x}}": 5, "{x}}}}": 5,
		`\q`: 0, `\{x}`: 0, `\{{`: 0, `\}`: 0, `a\x4`: 1, `\x4}`: 0, `\u{}`: 0, `\u{d800}`: 0, `\u{110000}`: 0, `\u{41`: 0, `\u{{41}}`: 0, `{{\q`: 2, `{x}\q`: 3, `\\\q`: 2, `\u{41}}`: 6, `\u{0000041}`: 0,
		`\q}`: 0, `}\q`: 0, `\q{`: 0, `\q{x`: 0, `{x\q`: 2, `a\q{`: 1, `{x}}\q`: 3, `a{{\q{x`: 3, `\q{}`: 0, `é\q}`: 2,
	} {
		expectWrong(t, content, offset)
	}
}

// R7.3: bytes of a field that are not permitted where they stand.
func TestPartsWrongFields(t *testing.T) {
	for content, offset := range map[string]int{
		// No #, backslash or line feed.
		"{#}": 1, "{x#}": 2, "{x #}": 3, "{(#)}": 2, "{ #}": 2, `{"#"}`: 2, "{x!#}": 3, "{x!r#}": 4, `{\n}`: 1, `{x\}`: 2, `{x\n}`: 2, `{"\n"}`: 2, `{"\""}`: 2, `{(\x41)}`: 2, `{x!\}`: 3, `{x!r\}`: 4, `{x:\n}`: 3, `{x:a\\}`: 4, `{x!r:\x41}`: 5, `{\'a\'}`: 1, `{x\'}`: 2, `{x:\'}`: 3,
		// Brackets that close no other one, or another one.
		"{)}": 1, "{]}": 1, "{x)}": 2, "{x]}": 2, "{(]}": 2, "{(}": 2, "{[}": 2, "{[)}": 2, "{ {)}": 3, "{ {]}": 3, "{(x}": 3, "{([)]}": 3, "{())}": 3, "{([{)}])}": 4, "{(}!": 2, "{x[1:2}": 6, "{f(x!r}": 6, "{ )x}": 2, "{)": 1, "{(]": 2,
		// Conversions.
		"{x!}": 3, "{x!a}": 3, "{x!R}": 3, "{x! r}": 3, "{x!=y}": 3, "{x!!r}": 3, "{x!:5}": 3, "{x!rr}": 4, "{x!rs}": 4, "{x!r }": 4, "{x!r!s}": 4, "{x!s)}": 4, "{x!é}": 3, "{x!ré}": 4, "{x!{}": 3, `{x!"r"}`: 3, `{x!r"}`: 4, "{x!(r)}": 3, "{x!r{}": 4, "{x!\u0172}": 3, "{x!r5}": 4,
		// Specifications.
		"{x:{}": 3, "{x:{y}}": 3, "{x:{{}}}": 3, "{x:a{": 4, `{x:"}`: 3, `{x:""}`: 3, `{x:a"b"}`: 4, `{x!r:"}`: 5, "{x!r:{}": 5, "{x::{}": 4, `{"":"}`: 4, `{x:}"{x:"}`: 8,
		// The first one of several.
		"{x!a#}": 3, "{x#!a}": 2, `{#\}`: 1, `{\#}`: 1, `{x:{"}`: 3, `{x:"{}`: 3, "{)(}": 1, "{x!}{": 3, "{x#": 2, "{(]#": 2, "{x!a": 3, "{x:{": 3, "{x!r!": 4,
	} {
		expectWrong(t, content, offset)
	}
	// Quotes of the kind with which the string is closed, and line feeds.
	for _, content := range []string{"{%s}", "{x%s}", "{(%s)}", "{x!%s}", "{x!r%s}", "{x:%s}", "{x!r:5%s}", "{ %s}", "{x%s", "{'%s'}", "{x:%s", "a{{{b}{%s"} {
		for _, wrong := range []string{`"`, `""`, "\n", `"a"`, "\n\n", "\"}", "\n#", `"\q`} {
			s := fmt.Sprintf(content, wrong)
			if strings.HasSuffix(s, `"`) {
				continue
			}
			expectPartsFault(t, `f"""`+s+`"""`, syntax(4+strings.Index(content, "%")))
			expectPartsFault(t, "f\"\"\"\n\n"+s+`"""`, syntax(6+strings.Index(content, "%")))
		}
	}
	for _, s := range []string{"{'a'}", `{\'}`, `{x:\'}`} {
		expectPartsOracle(t, `f"`+s+`"`)
		expectPartsOracle(t, "f'"+s+"'")
	}
}

// R7.3: fields that do not end, and expressions that consist of blanks.
func TestPartsOpenFields(t *testing.T) {
	for _, content := range []string{
		"{", "{x", "{ ", "{ x ", "{(", "{(x", "{(x)", "{ {", "{ {x}", "{ {x", "{(!r:", "{(x!r:", "{x!", "{x!r", "{x!s", "{x:", "{x!r:", "{x:>5", "{x:!r", `{"`, `{"x}`, `{"}"`, `{"a" "}`, `{("}")`, `{"!r:}`, `{x"`, `{" {x}`, "{é", "{[(x)", "{ {}", "{ {{}", "{x: ", "{[1:2!r",
	} {
		expectWrong(t, content, 0)
		expectWrong(t, "{a}"+content, 3)
		expectWrong(t, "}}{{"+content, 4)
	}
	for _, content := range []string{"{}", "{ }", "{      }", "{!r}", "{ !s}", "{:}", "{ :>5}", "{!r:5}", "{ !r: }", "{}}", "{ }}", "{}{x}", "{:{", "{ !", "{!", "{:", "{ :", "{!x}", "{ !x}", "{  :\"}", "{ !#", "{ ::}", "{!!}"} {
		expectWrong(t, content, 0)
		expectWrong(t, "x{y}"+content, 4)
	}
	expectContent(t, "{. }", field(". ", 0, ""))
	expectContent(t, "{\u00a0}", field("\u00a0", 0, ""))
	expectContent(t, "{\u2003}", field("\u2003", 0, ""))
	expectContent(t, "{()}", field("()", 0, ""))
	expectContent(t, `{" "}`, field(`" "`, 0, ""))
}

// R7.3: texts of MaxText bytes and specifications of MaxField bytes, and longer ones, which count behind everything else.
func TestPartsSizes(t *testing.T) {
	longText, longSpec := strings.Repeat("a", api.MaxText), strings.Repeat("a", api.MaxField)
	expectContent(t, longText, plain(longText))
	expectContent(t, longText+"{x}"+longText+"{y:"+longSpec+"}", plain(longText), field("x", 0, ""), plain(longText), field("y", 0, longSpec))
	for _, more := range []string{"a", "{{", `\n`, "é", `\x41`, "}}"} {
		expectPartsFault(t, "f'"+longText+more+"'", tooLarge)
		expectPartsFault(t, "f'"+more+longText+"{x}'", tooLarge)
		expectPartsFault(t, "f'{x}"+longText+more+"'", tooLarge)
	}
	expectPartsFault(t, "f'{x:"+longSpec+"a}'", tooLarge)
	expectPartsFault(t, "f'{x!r:"+longSpec+"a}{y}'", tooLarge)
	expectPartsFault(t, "f'{x:"+strings.Repeat("é", api.MaxField/2)+"a}'", tooLarge)
	expectContent(t, strings.Repeat("{{", api.MaxText), plain(strings.Repeat("{", api.MaxText)))
	expectContent(t, strings.Repeat(`\n`, api.MaxText), plain(strings.Repeat("\n", api.MaxText)))
	expectContent(t, strings.Repeat("é", api.MaxText/2), plain(strings.Repeat("é", api.MaxText/2)))
	expectPartsFault(t, "f'"+strings.Repeat("é", api.MaxText/2)+"a'", tooLarge)
	expectPartsFault(t, "f'"+strings.Repeat(`\xe9`, api.MaxText/2)+"{{'", tooLarge)
	expectPartsFault(t, "f'"+longText+"a{'", syntax(api.MaxText+3))
	expectPartsFault(t, "f'{x:"+longSpec+"a}}'", syntax(api.MaxField+7))
	expectPartsFault(t, "f'{x:"+longSpec+"a'", syntax(2))
	expectPartsFault(t, "f'"+longText+`a\q'`, syntax(api.MaxText+3))
	// An expression is no text.
	expression := strings.Repeat(" ", api.MaxSource-6) + "x"
	compareParts(t, "f'{"+expression+"}'", []api.FieldPart{field(expression, 0, "")}, noFault)
	compareParts(t, "f'{ "+expression+"}'", nil, noLiteral)
	deep := strings.Repeat("(", api.MaxSource/2-3) + strings.Repeat(")", api.MaxSource/2-3)
	compareParts(t, "f'{"+deep+"} '", []api.FieldPart{field(deep, 0, ""), plain(" ")}, noFault)
	many := make([]api.FieldPart, (api.MaxSource-3)/3)
	for i := range many {
		many[i] = field("x", 0, "")
	}
	compareParts(t, "f'"+strings.Repeat("{x}", len(many))+"'", many, noFault)
	compareParts(t, "f'"+strings.Repeat("{x}", len(many))+"}'", nil, syntax(2+3*len(many)))
}

// R7.3: all short contents over the characters that count for formatted strings, and random ones.
func TestPartsAll(t *testing.T) {
	for _, set := range []string{"{}!:r ", `{}"(:)`, `{}[]()`, `{x}#\n`, "{}!s\"\n", `{}x'\`} {
		forAll(chars(set), 5, func(content string) {
			expectPartsOracle(t, "f'"+content+"'")
			expectPartsOracle(t, "f'{"+content+"'")
			expectPartsOracle(t, "f\"\"\"{"+content+"\"\"\"")
		})
	}
	chance := rand.New(rand.NewSource(73))
	pieces := append(chars(`{{}}{}x!:rs "'()[]#é\n`), "{x}", "{x!r}", "{x:5}", "{{", "}}", `\x41`, `\u{7b}`, "\n", "!r", ":>", "a[1:2]", `"{"`, "'}'", " ")
	for range 20_000 {
		var content strings.Builder
		for range chance.Intn(14) {
			content.WriteString(pieces[chance.Intn(len(pieces))])
		}
		for _, s := range quoted("f", content.String()) {
			expectPartsOracle(t, s)
		}
	}
}
