package literal_test

import (
	"fmt"
	"math/rand"
	"strings"
	"testing"
	"unicode/utf8"

	"brindlewood/api"
	"brindlewood/literal"
)

// R7.2: the example of the document, and strings with every opening.
func TestString(t *testing.T) {
	expectString(t, `b"\x41z"`, byteString("Az"), noFault)
	for _, content := range []string{"", "a", " a b ", "é€😀", "# no comment", "{x}", "}}", "nil", strings.Repeat("ab", 100), "\x7f", "\u0085\u00a0\u2028\ufffd"} {
		for _, prefix := range []string{"", "r"} {
			for _, s := range quoted(prefix, content) {
				expectString(t, s, text(content), noFault)
			}
		}
	}
	for _, content := range []string{"", "a", " a b ", "# no comment", "{x}", "}}", "\x7f"} {
		for _, s := range quoted("b", content) {
			expectString(t, s, byteString(content), noFault)
		}
	}
}

// R7.2: quotes and line feeds in strings.
func TestStringQuotes(t *testing.T) {
	for s, want := range map[string]string{
		`""`: "", `''`: "", `""""""`: "", `"'"`: "'", `'"'`: `"`, `'""'`: `""`, `"''"`: "''", `"""a"""`: "a", `"""""a"""`: `""a`, `"""a"b""c"""`: `a"b""c`, `"""'"""`: "'", "\"\"\"\n\"\"\"": "\n", "\"\"\"a\n\n b\"\"\"": "a\n\n b",
		`"""\""""`: `"`, `"""""\""""`: `"""`, `'"""'`: `"""`, `r'\'`: `\`, `r"\"`: `\`, `r"""\"""`: `\`, `r'\\'`: `\\`, "r\"\"\"\\\n\"\"\"": "\\\n", `r""""a"""`: `"a`, `r"\n\x4\u{}"`: `\n\x4\u{}`, `"\\"`: `\`, `'\\\''`: `\'`,
	} {
		expectString(t, s, text(want), noFault)
	}
	expectString(t, "b\"\"\"\n'\"a\"\"\"", byteString("\n'\"a"), noFault)
}

// R7.2: every escape.
func TestStringEscapes(t *testing.T) {
	for escape, want := range map[string]string{`\n`: "\n", `\t`: "\t", `\\`: `\`, `\"`: `"`, `\'`: "'", `\x41`: "A", `\x0a`: "\n", `\x7F`: "\x7f", `\x00`: "\x00", `\x22`: `"`, `\x5c`: `\`, `\x5cn`: `\n`} {
		for _, around := range []string{"%s", "a%s", "%sb", "%[1]s%[1]s", "{%s}", "-%s 0"} {
			content, decoded := fmt.Sprintf(around, escape), fmt.Sprintf(around, want)
			for _, s := range quoted("", "é"+content+"é") {
				expectString(t, s, text("é"+decoded+"é"), noFault)
			}
			for _, s := range quoted("b", content) {
				expectString(t, s, byteString(decoded), noFault)
			}
			for _, s := range quoted("r", content+" ") {
				expectStringOracle(t, s)
			}
		}
	}
	expectString(t, `"\\n\\\n\x41"`, text("\\n\\\nA"), noFault)
	for n := range 256 {
		for _, form := range []string{`\x%02x`, `\x%02X`} {
			s := fmt.Sprintf(form, n)
			expectString(t, `"`+s+`"`, text(string(rune(n))), noFault)
			expectString(t, `b"`+s+`"`, byteString(string([]byte{byte(n)})), noFault)
			expectString(t, `"-`+s+`0"`, text("-"+string(rune(n))+"0"), noFault)
		}
	}
}

// R7.2: \u with one to six digits, in upper and lower case, around the limits of characters.
func TestStringBraces(t *testing.T) {
	for _, n := range []int{0, 1, 9, 10, 15, 16, 0x41, 0x7f, 0x80, 0x9f, 0xff, 0x100, 0x7ff, 0x800, 0x20ac, 0xabcd, 0xd7ff, 0xd800, 0xdabc, 0xdbff, 0xdc00, 0xdfff, 0xe000, 0xfffd, 0xfffe, 0xffff, 0x10000, 0x1f600, 0xfffff, 0x100000, 0x10fffe, 0x10ffff, 0x110000, 0x110001, 0x200000, 0xabcdef, 0xffffff} {
		for _, form := range []string{`\u{%x}`, `\u{%X}`, `\u{%02x}`, `\u{%04x}`, `\u{%06x}`} {
			escape := fmt.Sprintf(form, n)
			for _, s := range quoted("", "é"+escape+"0") {
				if utf8.ValidRune(rune(n)) {
					expectString(t, s, text("é"+string(rune(n))+"0"), noFault)
				} else {
					expectString(t, s, api.Value{}, syntax(contentOf(s)+2))
				}
			}
			for _, s := range quoted("b", "a"+escape) {
				expectString(t, s, api.Value{}, syntax(contentOf(s)+1))
			}
			for _, s := range quoted("r", escape) {
				expectString(t, s, text(escape), noFault)
			}
		}
	}
	expectString(t, `"\u{0}\u{00}\u{000}\u{0000}\u{00000}\u{000000}"`, text("\x00\x00\x00\x00\x00\x00"), noFault)
}

// R7.2: all characters behind a backslash, and escapes that are none.
func TestStringWrongEscapes(t *testing.T) {
	for char := rune(32); char < 300; char++ {
		for _, prefix := range []string{"", "b", "r"} {
			for _, s := range quoted(prefix, `a\`+string(char)) {
				expectStringOracle(t, s)
				expectStringOracle(t, s[:len(s)-1]+"00}"+s[len(s)-1:])
			}
		}
	}
	for _, wrong := range []string{
		`\a`, `\0`, `\N`, `\T`, `\r`, `\b`, `\{`, `\}`, `\ `, `\é`, `\😀`, `\x`, `\x4`, `\xg0`, `\x0g`, `\x 1`, `\x+1`, `\x-1`, `\x1 `, `\x_1`, `\x1_`, `\X41`, `\xé`, `\x1é`, `\x{41}`, `\x\x41`,
		`\u`, `\u41`, `\u0041`, `\u{`, `\u{}`, `\u{41`, `\u}`, `\u{{41}}`, `\u{0000041}`, `\u{0000000}`, `\u{1000000}`, `\u{10ffff0}`, `\u{g}`, `\u{4g}`, `\u{ 41}`, `\u{41 }`, `\u{+41}`, `\u{-1}`, `\u{4_1}`, `\u{_}`, `\u{0x41}`, `\u{é}`, `\U{41}`, `\u (41)`, `\u {41}`, `\u(41)`, `\u{\x41}`, `\u{41\}`,
	} {
		for _, ahead := range []string{"", "a", `\\`, `\x41\u{41}`, "é€😀"} {
			for _, behind := range []string{"", "-", "q", `\n`, `\q`, "é"} {
				for _, s := range quoted("", ahead+wrong+behind) {
					expectString(t, s, api.Value{}, syntax(contentOf(s)+len(ahead)))
				}
			}
		}
		for _, s := range quoted("b", "a"+wrong) {
			expectString(t, s, api.Value{}, syntax(contentOf(s)+1))
		}
	}
	// The token goes on behind the backslash ahead of a line feed, but this is no escape.
	expectString(t, "\"\"\"a\\\nb\"\"\"", api.Value{}, syntax(4))
	expectString(t, "b\"\"\"\\\n\"\"\"", api.Value{}, syntax(4))
}

// R7.2: characters from 128 on in strings with b, and which fault comes first.
func TestStringBytes(t *testing.T) {
	for _, char := range []rune{0x80, 0x85, 0xa0, 0xe9, 0xff, 0x100, 0x20ac, 0xfffd, 0x1f600, 0x10ffff} {
		for _, s := range quoted("b", "a"+string(char)+`\x`) {
			expectString(t, s, api.Value{}, syntax(contentOf(s)+1))
		}
		for _, s := range quoted("b", `a\x`+string(char)) {
			expectString(t, s, api.Value{}, syntax(contentOf(s)+1))
		}
		for _, s := range quoted("b", `\x80\xff`+string(char)) {
			expectString(t, s, api.Value{}, syntax(contentOf(s)+8))
		}
		for _, s := range quoted("b", `\`+string(char)) {
			expectString(t, s, api.Value{}, syntax(contentOf(s)))
		}
	}
	expectString(t, `b"`+strings.Repeat("a", api.MaxText+1)+`é"`, api.Value{}, syntax(api.MaxText+3))
}

// R7.2: texts that are no strings, and formatted strings, whatever is wrong in them.
func TestStringOthers(t *testing.T) {
	for _, s := range []string{
		"", " ", "a", "1", "nil", "\n", "#", `"`, `'`, `"a`, `a"`, `'a"`, `"""`, `"""a`, `"""a"`, `"""a""`, `""""`, `"""""`, `"""""""`, `"""a""""`, `'''`, `''''`, `'''a'''`, `"a"b"`, `"\"`, `'\'`, `"""\"""`, `r`, `r"`, `r"\"a"`, `rb""`, `br""`, `fr""`, `ff""`, `R""`, `B""`, `F""`, `u""`, `"" ""`, `""''`, `""""""""`, `"a""b"`,
		` ""`, `"" `, "\"\"\n", "\n\"\"", `"" #`, `""#`, "#\"\"", `r ""`, "\"a\nb\"", "'\n'", "\"\\\n\"", "r'\n'", "\"a\tb\"", "'\x00'", "'\x1f'", "'\r'", "\"\xff\"", "'\xc3'", "\"\xed\xa0\x80\"", "\xff''", "(\"\")", `("a")`, `+""`, `"a"+"b"`, `"" if`, `""a`, `""1`, "b\"\xe9\"",
	} {
		expectString(t, s, api.Value{}, noLiteral)
		expectPartsFault(t, s, noLiteral)
	}
	for _, content := range []string{"", "a", `\q`, "{", "}", "{x}", "é", "{x:{}"} {
		for _, s := range quoted("f", content) {
			expectString(t, s, api.Value{}, wrongType)
		}
	}
	expectString(t, `f"`+strings.Repeat("a", api.MaxText+1)+`"`, api.Value{}, wrongType)
	expectString(t, `f"`+strings.Repeat("a", api.MaxSource)+`"`, api.Value{}, noLiteral)
}

// R7.2: constants of MaxText bytes and of more, and strings of MaxSource bytes and of more.
func TestStringSizes(t *testing.T) {
	for escape, value := range map[string]string{"a": "a", `\n`: "\n", `\x41`: "A", `\\`: `\`, "é": "é", "😀": "😀", `\xe9`: "é", `\u{e9}`: "é", `\u{20ac}`: "€"} {
		count := api.MaxText / len(value)
		fill := strings.Repeat("b", api.MaxText%len(value))
		for _, s := range quoted("", fill+strings.Repeat(escape, count)) {
			if len(s) > api.MaxSource {
				expectString(t, s, api.Value{}, noLiteral)
				continue
			}
			expectString(t, s, text(fill+strings.Repeat(value, count)), noFault)
		}
		if len(escape)*count+2 < api.MaxSource {
			expectString(t, `"b`+fill+strings.Repeat(escape, count)+`"`, api.Value{}, tooLarge)
			expectString(t, `"`+strings.Repeat(escape, count+1)+`"`, api.Value{}, tooLarge)
		}
	}
	expectString(t, `r"`+strings.Repeat(`\`, api.MaxText)+`"`, text(strings.Repeat(`\`, api.MaxText)), noFault)
	expectString(t, `r"`+strings.Repeat(`\`, api.MaxText+1)+`"`, api.Value{}, tooLarge)
	expectString(t, `b"`+strings.Repeat(`a`, api.MaxText)+`"`, byteString(strings.Repeat("a", api.MaxText)), noFault)
	expectString(t, `b"`+strings.Repeat(`a`, api.MaxText)+`\xff"`, api.Value{}, tooLarge)
	// 3999 escapes of four bytes and those around them make less than MaxSource bytes.
	full := strings.Repeat(`\xff`, 3998)
	expectString(t, `b"`+full+`\n\n"`, byteString(strings.Repeat("\xff", 3998)+"\n\n"), noFault)
	expectString(t, `b"`+full+`aaaa"`, api.Value{}, tooLarge)
	expectString(t, `b"`+full+`aaaaa"`, api.Value{}, tooLarge)
	expectString(t, `b"`+full+`aaaaaa"`, api.Value{}, noLiteral)
	expectString(t, `"`+strings.Repeat("a", api.MaxSource-2)+`"`, api.Value{}, tooLarge)
	expectString(t, `"`+strings.Repeat("a", api.MaxSource-4)+`\q"`, api.Value{}, syntax(api.MaxSource-3))
	expectString(t, `"`+strings.Repeat("a", api.MaxSource-1)+`"`, api.Value{}, noLiteral)
	expectString(t, `"\q`+strings.Repeat("a", api.MaxText)+`\q"`, api.Value{}, syntax(1))
}

// R7.2: all short strings over the characters that count for escapes, and random ones.
func TestStringAll(t *testing.T) {
	for _, set := range []string{`\nx4gé"'`, `\u{}4g`, "\\\"\na"} {
		forAll(chars(set), 4, func(content string) {
			for _, prefix := range []string{"", "r", "b"} {
				for _, s := range quoted(prefix, content) {
					expectStringOracle(t, s)
				}
			}
		})
	}
	chance := rand.New(rand.NewSource(72))
	pieces := append(chars(`\\\nxu{}09afAFgd8"' é€😀#`), `\n`, `\t`, `\\`, `\"`, `\'`, `\x`, `\x4`, `\u{`, `\u{d`, `\u{10`, "\n", "\t")
	for range 30_000 {
		var content strings.Builder
		for range chance.Intn(12) {
			content.WriteString(pieces[chance.Intn(len(pieces))])
		}
		for _, s := range quoted([]string{"", "", "r", "b", "b", "f"}[chance.Intn(6)], content.String()) {
			expectStringOracle(t, s)
		}
	}
}

// R7.2 and R7.3: results are memory of their own.
func TestStringMemory(t *testing.T) {
	for _, s := range []string{strings.Clone(`"abc"`), strings.Clone(`r'abc'`), strings.Clone(`b"""abc"""`), strings.Clone(`"a\nb"`)} {
		if v, f := literal.String(s); f != noFault || shares(v.Text, s) {
			t.Errorf("the constant of %s shares its memory, fault %v", s, f)
		}
	}
	s := strings.Clone(`f"abc{def!r:ghi}jkl{m:n}"`)
	l, f := literal.Parts(s)
	if f != noFault || len(l) != 4 {
		t.Fatalf("%v, fault %v", l, f)
	}
	for i, part := range l {
		if shares(part.Text, s) || shares(part.Spec, s) {
			t.Errorf("part %d shares its memory", i)
		}
	}
	l[0].Text = "x"
	expectParts(t, s, plain("abc"), field("def", 'r', "ghi"), plain("jkl"), field("m", 0, "n"))
}
