package token_test

import (
	"slices"
	"strings"
	"testing"

	"brindlewood/api"
	"brindlewood/token"
)

// R6.1: the keywords, in increasing order, in a list of its own for each call.
func TestKeywords(t *testing.T) {
	for range 2 {
		got := token.Keywords()
		if !slices.Equal(got, strings.Fields(allKeywords)) || !slices.IsSorted(got) {
			t.Fatalf("Keywords: %q", got)
		}
		for i := range got {
			got[i] = "a"
		}
	}
}

// R6.2: each keyword is one, and no name that differs from it in one character, begins with it or ends with it.
func TestScanKeywords(t *testing.T) {
	for _, word := range strings.Fields(allKeywords) {
		expectLine(t, word, key(word))
		expectLine(t, word+"("+word+")+"+word, key(word), sign("("), key(word), sign(")"), sign("+"), key(word))
		for _, other := range []string{word + "s", word + "_", word + "0", "_" + word, "a" + word, word[:1], word[:len(word)-1] + "q", "q" + word[1:], strings.ToUpper(word), strings.ToUpper(word[:1]) + word[1:], word + word} {
			expectLine(t, other, name(other))
			expectLine(t, other+" "+word, name(other), key(word))
		}
	}
	for _, text := range []string{"True", "None", "lambda", "and_", "else_if", "ins", "i", "fin", "function", "outers", "o", "yields"} {
		expectLine(t, text, name(text))
	}
}

// R6.2: names, which consist of letters and digits, and go on as far as possible.
func TestScanNames(t *testing.T) {
	for _, text := range []string{"a", "z", "A", "Z", "_", "__", "_0", "a0", "z9", "Az_09", "r", "b", "f", "rb", "x1f", "_1_000", "e5"} {
		expectLine(t, text, name(text))
		expectLine(t, text+"."+text, name(text), sign("."), name(text))
		expectLine(t, "(\n"+text+"\n)"+text+" "+text, sign("("), name(text), sign(")"), name(text), name(text))
		expectLine(t, "''"+text+" ''", str("''"), name(text), str("''"))
	}
	for char := range rune(128) {
		expectOracle(t, "a"+string(char))
		expectOracle(t, string(char)+"a")
		expectOracle(t, "a"+string(char)+"a")
	}
	expectLine(t, "a.5", name("a"), sign("."), number("5"))
	expectLine(t, "a5.5", name("a5"), sign("."), number("5"))
}

// R6.2: names of MaxName bytes, and longer ones.
func TestScanLongNames(t *testing.T) {
	for _, unit := range []string{"a", "_", "Z", "if", "in_", "x0"} {
		longest := strings.Repeat(unit, api.MaxName)[:api.MaxName]
		expectLine(t, longest, name(longest))
		expectLine(t, longest[:api.MaxName-1]+"="+longest, name(longest[:api.MaxName-1]), sign("="), name(longest))
		for _, behind := range []string{"0", "a", "_", "aaaaaaa", "a$", "a\n $", "a'", "a\""} {
			expectFault(t, longest+behind, fault(api.ErrName, 0))
			expectFault(t, "'é'+(\n"+longest+behind, fault(api.ErrName, 7))
			expectFault(t, " a\n "+longest+behind, fault(api.ErrName, 4))
		}
	}
	expectFault(t, strings.Repeat("a", api.MaxSource), fault(api.ErrName, 0))
}

// R6.2: numerals.
func TestScanNumerals(t *testing.T) {
	for _, text := range []string{
		"0", "1", "9", "10", "1234567890", "100", "0x0", "0x1f", "0xabcdef", "0x0123456789", "0x00", "0xe", "0b0", "0b1", "0b0110", "0b00", "0.0", "0.5", "1.50", "10.01", "0.000", "123.456789", "9.0",
	} {
		expectLine(t, text, number(text))
		for _, other := range strings.Fields(allSigns + " ! # ' \" .5 .x .. ) . \n") {
			expectOracle(t, text+other)
			expectOracle(t, other+text)
			expectOracle(t, "("+text+other+"a)")
		}
		expectLine(t, "-"+text+"+("+text+")", sign("-"), number(text), sign("+"), sign("("), number(text), sign(")"))
		expectLine(t, text+"'a'"+text+" "+text, number(text), str("'a'"), number(text), number(text))
	}
	dot := sign(".")
	expectLine(t, "1.", number("1"), dot)
	expectLine(t, "0.", number("0"), dot)
	expectLine(t, "1.a", number("1"), dot, name("a"))
	expectLine(t, "1._5", number("1"), dot, name("_5"))
	expectLine(t, "1. 5", number("1"), dot, number("5"))
	expectLine(t, "1 .5", number("1"), dot, number("5"))
	expectLine(t, "1..5", number("1"), dot, dot, number("5"))
	expectLine(t, "1.5.5", number("1.5"), dot, number("5"))
	expectLine(t, "1.5.5.5", number("1.5"), dot, number("5.5"))
	expectLine(t, "1.05.", number("1.05"), dot)
	expectLine(t, ".5", dot, number("5"))
	expectLine(t, ".5.5", dot, number("5.5"))
	expectLine(t, "0x1.5", number("0x1"), dot, number("5"))
	expectLine(t, "0b1.1", number("0b1"), dot, number("1"))
	expectLine(t, "0b1.0x1", number("0b1"), dot, number("0x1"))
	expectLine(t, "1\n.5", number("1"), line, dot, number("5"))
}

// R6.2: numerals with a wrong byte, with its offset.
func TestScanWrongNumerals(t *testing.T) {
	for text, index := range map[string]int{
		"0x": 2, "0b": 2, "0x ": 2, "0xg": 2, "0x_1": 2, "0xA": 2, "0xF": 2, "0x.1": 2, "0x\n1": 2, "0xé": 2, "0x'": 2, "0xx1": 2, "0b2": 2, "0b ": 2, "0b_": 2, "0ba": 2, "0b.1": 2, "0b'a'": 2, "0x#": 2,
		"0x1g": 3, "0x1A": 3, "0xa_": 3, "0xffx": 4, "0b12": 3, "0b01a": 4, "0b1_": 3, "0b1b": 3, "0x1r''": 3,
		"00": 1, "01": 1, "09": 1, "00.5": 1, "01.5": 1, "0a": 1, "0_": 1, "0X1": 1, "0B1": 1, "0r''": 1, "0if": 1,
		"1a": 1, "1_000": 1, "1x": 1, "1b1": 1, "12e5": 2, "1f''": 1, "12if": 2, "9_": 1, "0.5a": 3, "1.50_": 4, "1.5e5": 3, "0.0x1": 3, "0.00b": 4,
	} {
		expectFault(t, text, syntax(index))
		expectFault(t, text+"\n $", syntax(index))
		expectFault(t, " 'é€'\n [\n"+text, syntax(index+12))
		expectFault(t, "1."+text[:1]+" + "+text, syntax(index+6))
	}
	forAll(chars("01xba.9_"), 5, func(text string) { expectOracle(t, text) })
	forAll(chars("0x1fFgG b.(é"), 4, func(text string) { expectOracle(t, "0"+text) })
}

// R6.2: numerals of MaxNumeral bytes, and longer ones; a wrong byte counts before the length.
func TestScanLongNumerals(t *testing.T) {
	for _, unit := range []string{"1", "90", "0x1", "0b1", "0xfedcba987", "0.5", "0.0", "1.5"} {
		longest := unit + strings.Repeat("0", api.MaxNumeral-len(unit))
		expectLine(t, longest, number(longest))
		expectLine(t, longest[:api.MaxNumeral-1]+"+"+longest+".", number(longest[:api.MaxNumeral-1]), sign("+"), number(longest), sign("."))
		for _, behind := range []string{"1", "01", "11111111111", "1 a", "1\n$", "1.", "1'a"} {
			expectFault(t, longest+behind, fault(api.ErrTooLong, 0))
			expectFault(t, "('é€'\n"+longest+behind, fault(api.ErrTooLong, 9))
		}
		for _, letter := range []string{"_", "g", "Z", "r''"} {
			expectFault(t, longest+letter, syntax(api.MaxNumeral))
			expectFault(t, longest+"111"+letter, syntax(api.MaxNumeral+3))
			expectFault(t, "(\n"+longest+"111"+letter, syntax(api.MaxNumeral+5))
		}
	}
	whole := strings.Repeat("7", api.MaxNumeral-2)
	expectLine(t, whole+".5", number(whole+".5"))
	expectFault(t, whole+".55", fault(api.ErrTooLong, 0))
	expectLine(t, whole+"77.", number(whole+"77"), sign("."))
	expectFault(t, whole+"77.5", fault(api.ErrTooLong, 0))
	expectFault(t, strings.Repeat("1", api.MaxSource), fault(api.ErrTooLong, 0))
	expectFault(t, strings.Repeat("1", api.MaxSource-1)+"a", syntax(api.MaxSource-1))
	expectFault(t, strings.Repeat("0", api.MaxSource), syntax(1))
}

// R6.2: strings of all kinds, with what stands in them.
func TestScanStrings(t *testing.T) {
	contents := []string{"", "a", " ", "  a # b ", "(", ")", "é€😀", "0x", "{a!r:>5}", `\\`, `\n`, `\u{41}`, `\é`, `\😀\\`, `\\\\`, "\x7f\u2028"}
	for _, prefix := range []string{"", "r", "b", "f"} {
		for _, quote := range []string{`"`, `'`, `"""`} {
			for _, content := range contents {
				expectString(t, prefix+quote+content+quote)
			}
			other := map[string]string{`"`: `'`, `'`: `"`, `"""`: `'`}[quote]
			expectString(t, prefix+quote+other+quote)
			expectString(t, prefix+quote+"a"+other+other+other+" "+other+quote)
		}
		for _, content := range []string{`"a`, `""a`, `a"b`, `a""b`, `a" "" "b`, `"'""'`, "\n", "a\n\n\"\nb\n", "\n  # é\n (\n", "''\n'"} {
			expectString(t, prefix+`"""`+content+`"""`)
		}
	}
}

// expectString compares the tokens of a string, alone and between others.
func expectString(t *testing.T, text string) {
	t.Helper()
	expectLine(t, text, str(text))
	expectLine(t, "("+text+")"+text+" + "+text, sign("("), str(text), sign(")"), str(text), sign("+"), str(text))
	expectLine(t, text+"a # é", str(text), name("a"))
	expectLine(t, text+"12."+text, str(text), number("12"), sign("."), str(text))
	expectTokens(t, " "+text+"\n  \n "+text+"\na", in, str(text), line, str(text), line, out, name("a"), line, end)
	expectFault(t, text+"$", syntax(len(text)))
}

// R6.2: letters ahead of strings that are no part of them.
func TestScanPrefixes(t *testing.T) {
	for char := range rune(128) {
		expectOracle(t, string(char)+"'a'")
		expectOracle(t, "r"+string(char)+`"\"`)
		expectOracle(t, string(char)+`"""a"""`)
	}
	for _, letters := range []string{"rb", "br", "fr", "rf", "R", "B", "F", "u", "x", "rr", "_", "a", "ar", "r0"} {
		expectLine(t, letters+"'a'", name(letters), str("'a'"))
		expectLine(t, letters+`"\""`, name(letters), str(`"\""`))
	}
	expectLine(t, `r ""`, name("r"), str(`""`))
	expectLine(t, `f(b''b"")`, name("f"), sign("("), str("b''"), str(`b""`), sign(")"))
	expectLine(t, `''r''''`, str("''"), str("r''"), str("''"))
	expectLine(t, `if''`, key("if"), str("''"))
}

// R6.2: where strings end, and what follows them.
func TestScanQuotes(t *testing.T) {
	expectLine(t, `''''`, str(`''`), str(`''`))
	expectLine(t, `'''a'''`, str(`''`), str(`'a'`), str(`''`))
	expectLine(t, `"" ""`, str(`""`), str(`""`))
	expectLine(t, `"a""b"`, str(`"a"`), str(`"b"`))
	expectLine(t, `""""""`, str(`""""""`))
	expectLine(t, `"""""" ""`, str(`""""""`), str(`""`))
	expectLine(t, `""""""""`, str(`""""""`), str(`""`))
	expectLine(t, `"""a""" """b"""`, str(`"""a"""`), str(`"""b"""`))
	expectLine(t, `r"""a"""f"""b"""`, str(`r"""a"""`), str(`f"""b"""`))
	expectLine(t, `"a""""b"""`, str(`"a"`), str(`"""b"""`))
	expectLine(t, `'\''`, str(`'\''`))
	expectLine(t, `"\""'\"'`, str(`"\""`), str(`'\"'`))
	expectLine(t, `b"\""f'\''`, str(`b"\""`), str(`f'\''`))
	expectLine(t, `"\\"`, str(`"\\"`))
	expectLine(t, `"\\\""`, str(`"\\\""`))
	expectLine(t, `r"\"`, str(`r"\"`))
	expectLine(t, `r"\\"`, str(`r"\\"`))
	expectLine(t, `r'\'a`, str(`r'\'`), name("a"))
	expectLine(t, `r"""\"""a`, str(`r"""\"""`), name("a"))
	expectLine(t, `"""\""""`, str(`"""\""""`))
	expectLine(t, `"""\"""\""""`, str(`"""\"""\""""`))
	expectLine(t, `"""a\\"""`, str(`"""a\\"""`))
	expectLine(t, "\"\"\"\\\n\"\"\"", str("\"\"\"\\\n\"\"\""))
	expectLine(t, "r\"\"\"\\\n\"\"\"", str("r\"\"\"\\\n\"\"\""))
	expectLine(t, "f\"\"\"a\\\n\\\\\n\\\"\n\"\"\"", str("f\"\"\"a\\\n\\\\\n\\\"\n\"\"\""))
	forAll(chars("\"'\\\nra"), 7, func(text string) { expectOracle(t, text) })
	forAll([]string{`"""`, `"`, `\`, "r", "b", "\n", "é"}, 5, func(text string) { expectOracle(t, text) })
}

// R6.2: strings without an end.
func TestScanWrongStrings(t *testing.T) {
	for text, want := range map[string]int{
		`'`: -1, `"`: -1, `r'`: -1, `b"`: -1, `f'a`: -1, `"a'`: -1, `'a"`: -1, `'\`: -1, `"a\`: -1, `'\'`: -1, `r"\`: -1, `"\\\"`: -1, `'''`: -1, `"""`: -1, `""""`: -1, `"""""`: -1, `r"""\""`: -1, `"""\`: -1, `"""\"""`: -1, `"""a"" "`: -1, `"""""""`: -1,
		"\"\"\"\n": -1, "\"\"\"a\n\n\"\"": -1, "f\"\"\"\\\n": -1, "'é€😀 # a": -1, "\"\"\"'''": -1, "\"\"\"\\\n\\\"\"\"": -1,
		"'\n'": 1, "\"\n": 1, "'a\n": 2, "r'a\n'": 3, "'\\\n'": 2, "\"a\\\n\"": 3, "r\"\\\n\"": 3, "'\\\\\n'": 3, "f'\n": 2, "'''\n'": 3, "'é€😀\n": 10, "\"a # b\n\"": 6, "\"\"'\n'": 3, "'a\\'\n'": 4,
	} {
		wrong := func(ahead string) api.Fault {
			if want == -1 {
				return truncated(ahead + text)
			}
			return syntax(len(ahead) + want)
		}
		for _, ahead := range []string{"", " ", "a = ", "(", "'é€'", "{[\n\n(", "a\n  b\n", "# '\n", `r"\"`} {
			expectFault(t, ahead+text, wrong(ahead))
		}
	}
	long := strings.Repeat("é", api.MaxSource/2-1)
	expectFault(t, "'"+long+"\n", syntax(api.MaxSource-1))
	expectFault(t, "'"+long+"a", fault(api.ErrTruncated, api.MaxSource))
	expectLine(t, "'"+long+"'", str("'"+long+"'"))
}

// R6.2: every sign, and all pairs of signs, some of which also read as a longer one.
func TestScanSigns(t *testing.T) {
	list := strings.Fields(allSigns)
	for _, one := range list {
		if !strings.ContainsAny(one, "()[]{}") {
			expectLine(t, one, sign(one))
			expectLine(t, "a"+one+"b", name("a"), sign(one), name("b"))
			expectLine(t, one+" "+one+"#"+one, sign(one), sign(one))
		}
		for _, two := range list {
			expectOracle(t, one+two)
			expectOracle(t, "({["+one+" "+two+"]})")
			for _, three := range list {
				expectOracle(t, one+two+three)
			}
		}
	}
	forAll(chars("*/<>=!-+&@:.~"), 4, func(text string) { expectOracle(t, text) })
}

// R6.2: signs that are known, where longer ones would fit only in part.
func TestScanLongestSigns(t *testing.T) {
	for text, want := range map[string]string{
		"***": "** *", "****": "** **", "***=": "** *=", "**==": "**= =", "*= =": "*= =", "* *=": "* *=", "///=": "// /=", "//==": "//= =", "/ /": "/ /",
		"<<<": "<< <", "<<==": "<<= =", "<<<=": "<< <=", ">>>=": ">> >=", "<=>": "<= >", "<>": "< >", "><": "> <", ">=<": ">= <", "<==": "<= =", "===": "== =", "====": "== ==", "!==": "!= =", "=!=": "= !=",
		"->": "->", "-->": "- ->", "->>": "-> >", "->=": "-> =", "-=>": "-= >", "- >": "- >", ">-": "> -", "+-": "+ -", "++=": "+ +=", "-=-": "-= -", "&&": "& &", "&==": "&= =", "||=": "| |=", "^^=": "^ ^=", "%%=": "% %=",
		"~=": "~ =", "@=": "@ =", ":=": ": =", ".=": ". =", ",=": ", =", "...": ". . .", "()": "( )", "=-1": "= - 1", "~-": "~ -", "@@": "@ @", "~~": "~ ~", "::": ": :",
	} {
		var signs []api.Token
		for _, s := range strings.Fields(want) {
			if s == "1" {
				signs = append(signs, number(s))
			} else {
				signs = append(signs, sign(s))
			}
		}
		expectLine(t, text, signs...)
	}
	for text, offset := range map[string]int{"!": 0, "! =": 0, "!!=": 0, "=!": 1, "==!": 2, "a!b": 1, "!=!": 2} {
		expectFault(t, text, syntax(offset))
	}
}
