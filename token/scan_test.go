package token_test

import (
	"math/rand"
	"slices"
	"strings"
	"testing"
	"unsafe"

	"brindlewood/api"
	"brindlewood/token"
)

// R6.2: the example of the document, and ordinary sources.
func TestScan(t *testing.T) {
	expectTokens(t, "if a:\n  b", key("if"), name("a"), sign(":"), line, in, name("b"), line, out, end)
	expectTokens(t, "def f(x, *y):\n    return x ** 2 + y[0x1f] # sum\n\nprint(f'{f(1.50)}', r\"\\\", b'')\n",
		key("def"), name("f"), sign("("), name("x"), sign(","), sign("*"), name("y"), sign(")"), sign(":"), line,
		in, key("return"), name("x"), sign("**"), number("2"), sign("+"), name("y"), sign("["), number("0x1f"), sign("]"), line,
		out, name("print"), sign("("), str("f'{f(1.50)}'"), sign(","), str(`r"\"`), sign(","), str("b''"), sign(")"), line, end)
	expectTokens(t, "@d\nclass A(B):\n  async def g(self) -> nil:\n    x //= 0b10\n",
		sign("@"), name("d"), line, key("class"), name("A"), sign("("), name("B"), sign(")"), sign(":"), line,
		in, key("async"), key("def"), name("g"), sign("("), name("self"), sign(")"), sign("->"), key("nil"), sign(":"), line,
		in, name("x"), sign("//="), number("0b10"), line, out, out, end)
}

// R6.2: texts without tokens.
func TestScanNothing(t *testing.T) {
	for _, text := range []string{
		"", " ", "     ", "\n", "\n\n\n", "#", "# a", "#\n", "  # a\n", "\n  \n    # \"\n # (\n#'''\n", "# é€😀", "#\x7f#$\\\n   ", " \n#\n  #\n ", "# if a:\n  # b",
	} {
		expectTokens(t, text, end)
	}
	expectTokens(t, strings.Repeat(" ", api.MaxSource), end)
	expectTokens(t, strings.Repeat("\n", api.MaxSource), end)
	expectTokens(t, "#"+strings.Repeat("é", api.MaxSource/2-1), end)
}

// R6.2: comments behind tokens, with quotes and brackets in them, and # in strings.
func TestScanComments(t *testing.T) {
	for _, text := range []string{"a#", "a # b", "a # b\n", "a# ( [ {\n", "a #\"\n", "a #'b\n#'\n", "a # \"\"\"\n# \"\"\"", "a # é€😀\n\n", "a #\\\n", "# x\na\n# y", "a ## # x"} {
		expectLine(t, text, name("a"))
	}
	expectTokens(t, "a # b\nc#d\ne", name("a"), line, name("c"), line, name("e"), line, end)
	expectLine(t, "'#' # '#'", str("'#'"))
	expectLine(t, `"a # b"r'#'`, str(`"a # b"`), str("r'#'"))
	expectLine(t, "\"\"\"#\n#\"\"\"#\"", str("\"\"\"#\n#\"\"\""))
	expectLine(t, "(#)\n)", sign("("), sign(")"))
}

// R6.2: lines that contain nothing else, which change no indentation.
func TestScanEmptyLines(t *testing.T) {
	want := []api.Token{key("if"), name("a"), sign(":"), line, in, name("b"), line, name("c"), line, out, name("d"), line, end}
	for _, empty := range []string{"", "\n", "\n\n", "    \n", " \n", "      \n \n", "# x\n", "    # x\n", " # x\n      # y\n\n#\n"} {
		expectTokens(t, empty+"if a:\n"+empty+"  b\n"+empty+"  c\n"+empty+"d\n"+empty, want...)
		expectTokens(t, empty+"if a:#\n"+empty+"  b \n"+empty+"  c # x\n"+empty+"d  # y\n"+empty+"   # z", want...)
	}
}

// R6.2: indentations that are opened and closed.
func TestScanIndents(t *testing.T) {
	a, b := name("a"), name("b")
	expectTokens(t, "  a", in, a, line, out, end)
	expectTokens(t, " a\n b\n", in, a, line, b, line, out, end)
	expectTokens(t, "\n# x\n   a\nb", in, a, line, out, b, line, end)
	expectTokens(t, "a\n b\n  a\n   b\na", a, line, in, b, line, in, a, line, in, b, line, out, out, out, a, line, end)
	expectTokens(t, "a\n b\n  a\n   b\n a", a, line, in, b, line, in, a, line, in, b, line, out, out, a, line, out, end)
	expectTokens(t, "a\n b\n  a\n   b", a, line, in, b, line, in, a, line, in, b, line, out, out, out, end)
	expectTokens(t, "a\n b\n  a\n   b\n# x\n      ", a, line, in, b, line, in, a, line, in, b, line, out, out, out, end)
	expectTokens(t, "a\n   b\na\n b\na\n       b", a, line, in, b, line, out, a, line, in, b, line, out, a, line, in, b, line, out, end)
	expectTokens(t, "   a\nb\n   a", in, a, line, out, b, line, in, a, line, out, end)
	var text strings.Builder
	var want []api.Token
	const deep = 100
	for level := range deep {
		text.WriteString(strings.Repeat(" ", level) + "a\n")
		want = append(want, in, a, line)
	}
	want = append(want[1:], slices.Repeat([]api.Token{out}, deep-1)...)
	expectTokens(t, text.String(), append(slices.Clone(want), end)...)
	expectTokens(t, text.String()+"b", append(slices.Clone(want), b, line, end)...)
	expectTokens(t, text.String()+" b", slices.Concat(want[:len(want)-1], []api.Token{b, line, out, end})...)
	expectFault(t, strings.ReplaceAll(text.String(), " ", "   ")+"    b", wrongIndent(text.Len()+deep*(deep-1)+4))
}

// R6.2: indentations that are not open, also ahead of other faults in the line.
func TestScanWrongIndents(t *testing.T) {
	expectFault(t, "if a:\n  b\n c", wrongIndent(11))
	expectFault(t, "  a\n b\n", wrongIndent(5))
	expectFault(t, "a\n   b\n# x\n\n  b", wrongIndent(14))
	expectFault(t, "a\n  b\n    c\n   d", wrongIndent(15))
	expectFault(t, "a\n  b\n    c\n d", wrongIndent(13))
	expectFault(t, "'é'\n  b\n ( # x", wrongIndent(10))
	for _, behind := range []string{"$", "é", ")", "'", "'a\n'", "\"\"\"", "00", "0x", strings.Repeat("a", api.MaxName+1), strings.Repeat("1", api.MaxNumeral+1), "a $", "(", "a\n$"} {
		expectFault(t, "a\n  b\n "+behind, wrongIndent(7))
		expectFault(t, "   b\n # $ '\n  "+behind, wrongIndent(14))
	}
}

// R6.2: line feeds within brackets of each kind.
func TestScanBrackets(t *testing.T) {
	a, b := name("a"), name("b")
	for _, pair := range []string{"()", "[]", "{}"} {
		first, last := sign(pair[:1]), sign(pair[1:])
		for _, gap := range []string{"", " ", "\n", "\n\n", "\n   \n", "# x\n", " # )]}\n  # \"\n", "\n \n  # é\n       "} {
			expectLine(t, "a"+pair[:1]+gap+"b"+gap+pair[1:], a, first, b, last)
			expectLine(t, pair[:1]+gap+pair[1:], first, last)
			expectTokens(t, pair[:1]+gap+"b"+gap+pair[1:]+"\n b\na", first, b, last, line, in, b, line, out, a, line, end)
			expectTokens(t, " a\n b"+pair[:1]+gap+"a"+gap+pair[1:]+"\nb", in, a, line, b, first, a, last, line, out, b, line, end)
			for _, inner := range []string{"()", "[]", "{}"} {
				text := "a" + pair[:1] + gap + inner[:1] + gap + "b" + gap + inner[1:] + gap + pair[1:] + gap
				expectOracle(t, text+"b")
				expectLine(t, strings.TrimRight(text, "\n "), a, first, sign(inner[:1]), b, sign(inner[1:]), last)
			}
		}
	}
	expectTokens(t, "(\n)\n", sign("("), sign(")"), line, end)
	expectTokens(t, "(\n)(\n)\n[]", sign("("), sign(")"), sign("("), sign(")"), line, sign("["), sign("]"), line, end)
	expectTokens(t, "([\n{\n}\n]\n\na\n)", sign("("), sign("["), sign("{"), sign("}"), sign("]"), a, sign(")"), line, end)
	deep := strings.Repeat("(\n", 4000) + strings.Repeat("\n)", 4000)
	want := append(slices.Repeat([]api.Token{sign("(")}, 4000), slices.Repeat([]api.Token{sign(")")}, 4000)...)
	expectLine(t, deep, want...)
	expectFault(t, deep[1:], syntax(len(deep)-2))
	expectFault(t, deep[:len(deep)-1], truncated(deep[1:]))
}

// R6.2: closing brackets that do not fit.
func TestScanWrongBrackets(t *testing.T) {
	for text, offset := range map[string]int{
		")": 0, "]": 0, "}": 0, "a)": 1, "()) (": 2, "(]": 1, "(}": 1, "[)": 1, "[}": 1, "{)": 1, "{]": 1, "([)]": 2, "{(\n  }": 5, "[\n\n#]\n  ([]{})a)]": 15, "(()])": 3, " \n )": 3,
	} {
		expectFault(t, text, syntax(offset))
		expectFault(t, text+"\n$", syntax(offset))
		expectFault(t, "'é€😀'\n"+text, syntax(offset+12))
	}
}

// R6.2: brackets that are open at the end.
func TestScanOpenBrackets(t *testing.T) {
	for _, text := range []string{"(", "[", "{", "a(b", "(\n", "(a # )", "([])[", "({}", "{[(\n)\n]\n\n   ", "('é)'", " a\n (", "a\n(\n  b\n # \n"} {
		expectFault(t, text, truncated(text))
	}
}

// R6.2: characters with which no token begins.
func TestScanNoToken(t *testing.T) {
	for _, char := range append(chars("!$;?\\`\x7f"), "é", "\u0080", "\u00a0", "\u2028", "€", "\ufeff", "\ufffd", "😀", "ª", "Ⅷ", "٣") {
		expectFault(t, char, syntax(0))
		expectFault(t, "a "+char+" = ", syntax(2))
		expectFault(t, "'é'\n("+char, syntax(6))
		expectFault(t, "a"+char, syntax(1))
		expectFault(t, "1"+char, syntax(1))
		expectFault(t, "''"+char, syntax(2))
		expectFault(t, "+"+char, syntax(1))
	}
	for char := range 128 {
		if char < ' ' && char != '\n' {
			expectFault(t, "a\n("+string(rune(char)), syntax(3))
		}
		expectOracle(t, string(rune(char)))
		expectOracle(t, "a"+string(rune(char))+"a")
	}
}

// R6.2: the faults of source.Check count before all others.
func TestScanSourceFaults(t *testing.T) {
	expectFault(t, "a\tb", syntax(1))
	expectFault(t, "$ )\n  'a\n\x00", syntax(9))
	expectFault(t, "  a\n b(\xff", syntax(7))
	expectFault(t, "'\xc3", syntax(1))
	expectFault(t, "# \r\n", syntax(2))
	expectFault(t, strings.Repeat("$", api.MaxSource+1), tooLong)
	expectFault(t, strings.Repeat("\xff", api.MaxSource+1), tooLong)
	expectFault(t, strings.Repeat("$", api.MaxSource), syntax(0))
}

// R6.2: of several faults the first one from the left to the right counts.
func TestScanFirstFault(t *testing.T) {
	long := strings.Repeat("a", api.MaxName+1)
	big := strings.Repeat("1", api.MaxNumeral+1)
	for _, c := range []struct {
		text string
		want api.Fault
	}{
		{"( $ ]", syntax(2)}, {"( ] $", syntax(2)}, {"(\n" + long, fault(api.ErrName, 2)}, {"(\n'a\n)", syntax(4)}, {"[ 01 )", syntax(3)}, {"{ 'a", fault(api.ErrTruncated, 4)},
		{"( " + big, fault(api.ErrTooLong, 2)}, {long + " " + big, fault(api.ErrName, 0)}, {big + " " + long, fault(api.ErrTooLong, 0)}, {"$ " + long, syntax(0)},
		{big + "a " + long, syntax(len(big))}, {"'a\n" + long, syntax(2)}, {long + "'a\n", fault(api.ErrName, 0)}, {"0x 0b 00", syntax(2)},
		{"  a\n (", wrongIndent(5)}, {"  (\n a", fault(api.ErrTruncated, 6)}, {"  a $\n b", syntax(4)}, {"a\n  b\n 'c", wrongIndent(7)},
	} {
		expectFault(t, c.text, c.want)
	}
}

// R6.2: positions that are known, of tokens of every kind.
func TestScanPositions(t *testing.T) {
	for _, c := range []struct {
		text string
		want []api.Token
	}{
		{"", []api.Token{at(end, 1, 1)}},
		{"\n", []api.Token{at(end, 2, 1)}},
		{"  ", []api.Token{at(end, 1, 3)}},
		{" # é\n\n  # 😀", []api.Token{at(end, 3, 6)}},
		{"a", []api.Token{at(name("a"), 1, 1), at(line, 1, 2), at(end, 1, 2)}},
		{"a\n", []api.Token{at(name("a"), 1, 1), at(line, 1, 2), at(end, 2, 1)}},
		{"a  \n  ", []api.Token{at(name("a"), 1, 1), at(line, 1, 4), at(end, 2, 3)}},
		{"a # é€\n", []api.Token{at(name("a"), 1, 1), at(line, 1, 7), at(end, 2, 1)}},
		{"a # é€", []api.Token{at(name("a"), 1, 1), at(line, 1, 7), at(end, 1, 7)}},
		{"  a", []api.Token{at(in, 1, 3), at(name("a"), 1, 3), at(line, 1, 4), at(out, 1, 4), at(end, 1, 4)}},
		{"\n  a\n # x\n ", []api.Token{at(in, 2, 3), at(name("a"), 2, 3), at(line, 2, 4), at(out, 4, 2), at(end, 4, 2)}},
		{"a\n b\n  c\n# x\n\nd", []api.Token{
			at(name("a"), 1, 1), at(line, 1, 2), at(in, 2, 2), at(name("b"), 2, 2), at(line, 2, 3), at(in, 3, 3), at(name("c"), 3, 3), at(line, 3, 4),
			at(out, 6, 1), at(out, 6, 1), at(name("d"), 6, 1), at(line, 6, 2), at(end, 6, 2)}},
		{"a\n b\n  c\n d", []api.Token{
			at(name("a"), 1, 1), at(line, 1, 2), at(in, 2, 2), at(name("b"), 2, 2), at(line, 2, 3), at(in, 3, 3), at(name("c"), 3, 3), at(line, 3, 4),
			at(out, 4, 2), at(name("d"), 4, 2), at(line, 4, 3), at(out, 4, 3), at(end, 4, 3)}},
		{"'é€😀'+0x1 if", []api.Token{at(str("'é€😀'"), 1, 1), at(sign("+"), 1, 6), at(number("0x1"), 1, 7), at(key("if"), 1, 11), at(line, 1, 13), at(end, 1, 13)}},
		{"(a, # é\n  b)**=2 \nc", []api.Token{
			at(sign("("), 1, 1), at(name("a"), 1, 2), at(sign(","), 1, 3), at(name("b"), 2, 3), at(sign(")"), 2, 4), at(sign("**="), 2, 5), at(number("2"), 2, 8), at(line, 2, 10),
			at(name("c"), 3, 1), at(line, 3, 2), at(end, 3, 2)}},
		{"f\"\"\"é\n\n€😀\"\"\"a\n", []api.Token{at(str("f\"\"\"é\n\n€😀\"\"\""), 1, 1), at(name("a"), 3, 6), at(line, 3, 7), at(end, 4, 1)}},
		{"\"\"\"\n\"\"\"\n 1.5", []api.Token{at(str("\"\"\"\n\"\"\""), 1, 1), at(line, 2, 4), at(in, 3, 2), at(number("1.5"), 3, 2), at(line, 3, 5), at(out, 3, 5), at(end, 3, 5)}},
	} {
		expectScan(t, c.text, c.want, noFault)
		expectOracle(t, c.text)
	}
}

// R6.2: all texts of a few characters, with those that count for lines and indentations.
func TestScanAllLines(t *testing.T) {
	forAll(chars(" \na()#"), 6, func(text string) { expectOracle(t, text) })
	forAll([]string{"\n", "\n ", "\n  ", "\n   ", "a", "[\n"}, 6, func(text string) { expectOracle(t, text) })
}

// R6.2: all texts of a few characters of all kinds.
func TestScanAllKinds(t *testing.T) {
	forAll(append(chars(" \n#\"'\\rfb0x1.([])_A*=/-!é"), "if"), 3, func(text string) { expectOracle(t, text) })
}

// R6.2: random texts of tokens, blanks and other characters, some of them in indented lines.
func TestScanRandom(t *testing.T) {
	chance := rand.New(rand.NewSource(6))
	valid := 0
	for range 30_000 {
		text := randomText(chance)
		expectOracle(t, text)
		if _, f := token.Scan(text); f == noFault {
			valid++
		}
	}
	if valid < 5000 || valid > 25_000 {
		t.Errorf("%d of the texts have tokens", valid)
	}
}

// randomText is a source, which has a fault now and then.
func randomText(chance *rand.Rand) string {
	pieces := append(strings.Fields(allKeywords), strings.Fields(allSigns)...)
	pieces = append(pieces, "a", "_b1", "0", "17", "0x1f", "0b10", "2.50", "'a'", `"é\""`, `r"\"`, "b''", `f"{a}"`, "\"\"\"a\n\"b\"\"\"", "# é 'x\n", "(a)", "[\n]", "{(\n#)\n)\n}", "(", "]", "\n")
	wrong := []string{"$", "é", "\t", "'", `"""`, "\\", "1a", "0x", "00", "!", strings.Repeat("b", api.MaxName+1)}
	var text strings.Builder
	for range chance.Intn(5) {
		text.WriteString(strings.Repeat(" ", chance.Intn(3)))
		for range chance.Intn(6) {
			switch chance.Intn(40) {
			case 0:
				text.WriteString(wrong[chance.Intn(len(wrong))])
			default:
				piece := pieces[chance.Intn(len(pieces))]
				if strings.ContainsAny(piece, "([{}])") && chance.Intn(4) > 0 {
					piece = "x"
				}
				text.WriteString(piece + strings.Repeat(" ", chance.Intn(3)))
			}
		}
		text.WriteString("\n")
	}
	return strings.TrimSuffix(text.String(), []string{"\n", "x"}[chance.Intn(2)])
}

// Z4: the texts of tokens are memory of their own.
func TestScanMemory(t *testing.T) {
	text := strings.Clone("if abc: 'd' + 12")
	first := uintptr(unsafe.Pointer(unsafe.StringData(text)))
	l, _ := token.Scan(text)
	for _, k := range l {
		data := uintptr(unsafe.Pointer(unsafe.StringData(k.Text)))
		if k.Text != "" && data >= first && data < first+uintptr(len(text)) {
			t.Errorf("%q shares its memory with the source", k.Text)
		}
	}
	again, _ := token.Scan(text)
	again[0] = end
	if l[0].Kind != api.TokKeyword {
		t.Error("two results share their memory")
	}
}
