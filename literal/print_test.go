package literal_test

import (
	"math/big"
	"math/rand"
	"slices"
	"strings"
	"testing"

	"brindlewood/api"
	"brindlewood/literal"
)

// wantNumeral returns what Print should return for a ratio or an integer that is not negative.
func wantNumeral(x *big.Rat) (string, api.Fault) {
	places, exact := x.FloatPrec()
	if !exact {
		return "", inexact
	}
	if s := x.FloatString(places); len(s) <= api.MaxNumeral {
		return s, noFault
	}
	return "", tooLong
}

// expectPrinted compares the literal of a ratio or an integer, and that it has the same number.
func expectPrinted(t *testing.T, x *big.Rat) {
	t.Helper()
	want, fault := wantNumeral(x)
	expectPrint(t, number(x), want, fault)
	if fault == noFault {
		expectNumber(t, want, number(x), noFault)
	}
}

// sound are constants of all kinds.
func sound() []api.Value {
	return []api.Value{{}, {Kind: api.KindBool}, {Kind: api.KindBool, Ref: 1}, number(big.NewRat(0, 1)), number(big.NewRat(7, 1)), number(big.NewRat(5, 2)), text(""), text("a"), byteString(""), byteString("a\xff")}
}

// R7.5: the examples of the document, and constants of all kinds.
func TestPrint(t *testing.T) {
	expectPrint(t, number(big.NewRat(5, 2)), "2.5", noFault)
	wants := []string{"nil", "false", "true", "0", "7", "2.5", `""`, `"a"`, `b""`, `b"a\xff"`}
	for i, v := range sound() {
		expectPrint(t, v, wants[i], noFault)
	}
	expectPrint(t, api.Value{Kind: api.KindInt, Num: api.Int{Limbs: []uint32{}}, Den: api.Int{Limbs: []uint32{}}}, "0", noFault)
	expectPrint(t, api.Value{Num: api.Int{Limbs: []uint32{}}, Den: api.Int{Limbs: []uint32{}}}, "nil", noFault)
}

// R7.5: integers, and those with MaxNumeral digits and more.
func TestPrintIntegers(t *testing.T) {
	for _, x := range []*big.Int{
		big.NewInt(0), big.NewInt(1), big.NewInt(9), big.NewInt(10), big.NewInt(100), big.NewInt(1<<32 - 1), big.NewInt(1 << 32), big.NewInt(maxInt), power(2, 64), power(10, 40),
		plus(power(10, api.MaxNumeral-1), -1), power(10, api.MaxNumeral-1), plus(power(10, api.MaxNumeral), -1), power(10, api.MaxNumeral), plus(power(10, api.MaxNumeral), 1), power(2, api.MaxBits-1), plus(power(2, api.MaxBits), -1),
	} {
		expectPrinted(t, new(big.Rat).SetInt(x))
	}
	expectPrint(t, number(new(big.Rat).SetInt(plus(power(10, api.MaxNumeral), -1))), strings.Repeat("9", api.MaxNumeral), noFault)
	expectPrint(t, number(new(big.Rat).SetInt(power(10, api.MaxNumeral))), "", tooLong)
	expectPrint(t, api.Value{Kind: api.KindInt, Num: api.Int{Limbs: slices.Repeat([]uint32{1<<32 - 1}, api.MaxLimbs)}}, "", tooLong)
}

// R7.5: ratios with few and many digits behind the full stop.
func TestPrintRatios(t *testing.T) {
	for s, x := range map[string]*big.Rat{
		"0.5": big.NewRat(1, 2), "0.2": big.NewRat(1, 5), "0.1": big.NewRat(1, 10), "0.25": big.NewRat(1, 4), "0.04": big.NewRat(1, 25), "0.01": big.NewRat(1, 100), "0.05": big.NewRat(1, 20), "0.02": big.NewRat(1, 50), "0.125": big.NewRat(1, 8), "0.008": big.NewRat(1, 125), "0.001": big.NewRat(1, 1000),
		"1.5": big.NewRat(3, 2), "10.5": big.NewRat(21, 2), "100.01": big.NewRat(10001, 100), "3.14": big.NewRat(157, 50), "0.3": big.NewRat(3, 10), "0.75": big.NewRat(3, 4), "0.00001": big.NewRat(1, 100_000), "0.00032": big.NewRat(1, 3125), "0.03125": big.NewRat(1, 32), "12345678.9": big.NewRat(123456789, 10),
	} {
		expectPrint(t, number(x), s, noFault)
		expectPrinted(t, x)
	}
	for twos := range 8 {
		for fives := range 8 {
			den := new(big.Int).Mul(power(2, twos), power(5, fives))
			for num := range int64(60) {
				expectPrinted(t, new(big.Rat).SetFrac(big.NewInt(num), den))
				expectPrinted(t, new(big.Rat).SetFrac(plus(den, num), den))
			}
		}
	}
}

// R7.5: ratios whose literals have MaxNumeral bytes, and longer ones, with denominators that are powers of 2, of 5 and of both.
func TestPrintLongRatios(t *testing.T) {
	for _, x := range []*big.Rat{
		big.NewRat(1, 1), big.NewRat(3, 1), big.NewRat(9, 1), big.NewRat(11, 1), big.NewRat(99, 1), big.NewRat(101, 1), new(big.Rat).SetInt(plus(power(10, 300), 1)), new(big.Rat).SetInt(plus(power(10, 597), -1)), new(big.Rat).SetInt(plus(power(10, 598), 1)), new(big.Rat).SetInt(plus(power(10, 599), 1)), new(big.Rat).SetInt(plus(power(2, api.MaxBits), -1)), new(big.Rat).SetInt(plus(power(5, 1764), 2)),
	} {
		for _, places := range []int{1, 2, 298, 299, 300, 301, 596, 597, 598, 599, 600, 601, 602, 1000, 1200, 1233} {
			for _, den := range []*big.Int{power(2, places), power(5, places), power(10, places), new(big.Int).Mul(power(2, places), power(5, places/2)), new(big.Int).Mul(power(2, places/3), power(5, places))} {
				if y := new(big.Rat).Quo(x, new(big.Rat).SetInt(den)); !y.IsInt() && y.Denom().BitLen() <= api.MaxBits {
					expectPrinted(t, y)
				}
			}
		}
	}
	smallest := new(big.Rat).SetFrac(big.NewInt(1), power(10, api.MaxNumeral-2))
	expectPrint(t, number(smallest), "0."+strings.Repeat("0", api.MaxNumeral-3)+"1", noFault)
	expectPrint(t, number(new(big.Rat).Quo(smallest, big.NewRat(2, 1))), "", tooLong)
	for _, den := range []*big.Int{power(2, api.MaxBits-1), power(5, 1764), power(10, 1233), new(big.Int).Mul(power(2, 2000), power(5, 902))} {
		expectPrint(t, ratio(big.NewInt(1), den), "", tooLong)
		expectPrinted(t, new(big.Rat).SetFrac(plus(power(2, api.MaxBits), -1), den))
	}
}

// R7.5: ratios that have no literal, or are not in lowest terms.
func TestPrintInexact(t *testing.T) {
	one := big.NewInt(1)
	top := plus(power(2, api.MaxBits), -1)
	// Without a decimal fraction, whatever the numerator is.
	for _, den := range []*big.Int{new(big.Int), big.NewInt(3), big.NewInt(6), big.NewInt(7), big.NewInt(9), big.NewInt(15), big.NewInt(30), big.NewInt(49), big.NewInt(70), big.NewInt(1<<32 - 1), plus(power(2, 64), 1), plus(power(10, 100), 1), new(big.Int).Mul(power(2, 2000), big.NewInt(3)), new(big.Int).Mul(power(5, 1000), big.NewInt(7)), top, plus(top, -2)} {
		for _, num := range []*big.Int{new(big.Int), one, big.NewInt(3), big.NewInt(10), den, top} {
			expectPrint(t, ratio(num, den), "", inexact)
		}
	}
	// With the denominator 1, or with a common factor.
	for _, den := range []*big.Int{one, big.NewInt(2), big.NewInt(5), big.NewInt(10), big.NewInt(4), big.NewInt(25), big.NewInt(1000), power(2, api.MaxBits-1), power(5, 1764), power(10, 1000)} {
		for _, factor := range []*big.Int{new(big.Int), big.NewInt(2), big.NewInt(5), big.NewInt(10), big.NewInt(6), big.NewInt(35)} {
			if common := new(big.Int).GCD(nil, nil, factor, den); common.Cmp(one) != 0 || den.Cmp(one) == 0 {
				expectPrint(t, ratio(factor, den), "", wrongForm)
				expectPrint(t, ratio(new(big.Int).Mul(factor, plus(power(2, 300), 1)), den), "", wrongForm)
			} else {
				expectPrinted(t, new(big.Rat).SetFrac(factor, den))
			}
		}
	}
	for _, num := range []*big.Int{new(big.Int), one, big.NewInt(2), top} {
		expectPrint(t, ratio(num, one), "", wrongForm)
	}
}

// R7.5: every character below 300, and some others, in texts.
func TestPrintTexts(t *testing.T) {
	for s, want := range map[string]string{
		"\n": `"\n"`, "\t": `"\t"`, `\`: `"\\"`, `"`: `"\""`, "'": `"'"`, "\x00": `"\x00"`, "\r": `"\x0d"`, "\x1f": `"\x1f"`, " ": `" "`, "~": `"~"`, "\x7f": `"\x7f"`, "\u0080": `"\x80"`, "\u009f": `"\x9f"`, "\u00a0": "\"\u00a0\"", "ÿ": `"ÿ"`, "{}#": `"{}#"`, "é€😀": `"é€😀"`, "\ufffd": "\"\ufffd\"", `\n`: `"\\n"`, "a\n'b'\"c\"": `"a\n'b'\"c\""`, "\u2028": "\"\u2028\"",
	} {
		expectPrint(t, text(s), want, noFault)
	}
	check := func(s string) {
		expectPrint(t, text(s), wantText(s), noFault)
		if len(s) < api.MaxText {
			expectString(t, wantText(s), text(s), noFault)
		}
	}
	for char := range rune(300) {
		check(string(char))
		check("0" + string(char) + "0")
	}
	for _, char := range []rune{0x7ff, 0x800, 0xd7ff, 0xe000, 0xfffd, 0xffff, 0x10000, 0x10ffff} {
		check("a" + string(char) + "\n")
	}
	chance := rand.New(rand.NewSource(76))
	for range 3000 {
		var s strings.Builder
		for range chance.Intn(20) {
			s.WriteRune([]rune{rune(chance.Intn(32)), rune(32 + chance.Intn(128)), '"', '\\', 'é', '😀', rune(160 + chance.Intn(1000))}[chance.Intn(7)])
		}
		check(s.String())
	}
}

// R7.5: byte strings with every byte.
func TestPrintBytes(t *testing.T) {
	for s, want := range map[string]string{
		"\n\t": `b"\n\t"`, `\"'`: `b"\\\"'"`, "\x00\x0d\x1f": `b"\x00\x0d\x1f"`, " ~": `b" ~"`, "\x7f\x80\x9f\xa0\xff": `b"\x7f\x80\x9f\xa0\xff"`, "é": `b"\xc3\xa9"`, "{}#": `b"{}#"`,
	} {
		expectPrint(t, byteString(s), want, noFault)
	}
	all := make([]byte, 256)
	for b := range 256 {
		all[b] = byte(b)
		for _, s := range []string{string([]byte{byte(b)}), string([]byte{'0', byte(b), 'a'}), string([]byte{byte(b), byte(b)})} {
			expectPrint(t, byteString(s), wantBytes(s), noFault)
			expectString(t, wantBytes(s), byteString(s), noFault)
		}
	}
	expectPrint(t, byteString(string(all)), wantBytes(string(all)), noFault)
	expectString(t, wantBytes(string(all)), byteString(string(all)), noFault)
}

// R7.5: texts and byte strings of MaxText bytes and of one more; their literals may be longer than a source.
func TestPrintSizes(t *testing.T) {
	for _, unit := range []string{"a", "\x00", "\n", "é", "😀", "\u0085", "€"} {
		s := strings.Repeat(unit, api.MaxText/len(unit)) + strings.Repeat("a", api.MaxText%len(unit))
		expectPrint(t, text(s), wantText(s), noFault)
		expectPrint(t, byteString(s), wantBytes(s), noFault)
		for _, more := range []string{"a", "\x00", unit} {
			expectPrint(t, text(s+more), "", tooLarge)
			expectPrint(t, byteString(s+more), "", tooLarge)
		}
		expectPrint(t, text(s+"\xff"), "", wrongForm)
		expectPrint(t, byteString(s+"\xff"), "", tooLarge)
		expectPrint(t, text("\xff"+s[1:]), "", wrongForm)
	}
}

// R7.5: kinds that have no literals, whatever their fields contain.
func TestPrintKinds(t *testing.T) {
	for _, kind := range []int{minInt, -7, -1, api.KindRef, api.KindBuiltin, api.KindPass, api.KindUnbound, 10, 260, maxInt} {
		for _, v := range append(sound(), api.Value{Ref: 7}, text("\xff"), text(strings.Repeat("a", api.MaxText+1)), api.Value{Num: api.Int{Neg: true}}, ratio(big.NewInt(1), big.NewInt(3))) {
			v.Kind = kind
			expectPrint(t, v, "", wrongType)
		}
	}
}

// wrongNumbers are no natural numbers.
func wrongNumbers() []api.Int {
	long := make([]uint32, api.MaxLimbs+1)
	long[api.MaxLimbs] = 1
	return []api.Int{
		{Neg: true}, {Neg: true, Limbs: []uint32{}}, {Neg: true, Limbs: []uint32{1}}, {Neg: true, Limbs: []uint32{2}}, {Limbs: []uint32{0}}, {Limbs: []uint32{1, 0}}, {Limbs: []uint32{2, 0, 0}}, {Neg: true, Limbs: []uint32{0}}, {Limbs: long}, {Neg: true, Limbs: long}, {Limbs: make([]uint32, api.MaxLimbs)}, {Limbs: make([]uint32, api.MaxLimbs+1)},
	}
}

// R7.5: fields that a kind does not use, and values that it does not permit.
func TestPrintForm(t *testing.T) {
	for _, v := range sound() {
		isNumber := v.Kind == api.KindInt || v.Kind == api.KindRatio
		for _, a := range append(wrongNumbers(), toInt(big.NewInt(1)), toInt(power(2, api.MaxBits-1))) {
			other := v
			other.Den = a
			if v.Kind != api.KindRatio || slices.ContainsFunc(wrongNumbers(), func(b api.Int) bool { return equalInts(a, b) }) {
				expectPrint(t, other, "", wrongForm)
			}
			other = v
			other.Num = a
			if !isNumber || slices.ContainsFunc(wrongNumbers(), func(b api.Int) bool { return equalInts(a, b) }) {
				expectPrint(t, other, "", wrongForm)
			}
		}
		for _, ref := range []int{minInt, -1, 1, 2, 3, maxInt} {
			other := v
			other.Ref = ref
			if v.Kind != api.KindBool || ref != 1 {
				expectPrint(t, other, "", wrongForm)
			}
		}
		for _, s := range []string{"a", " ", "\x00", "\xff", strings.Repeat("a", api.MaxText+1)} {
			other := v
			other.Text = s
			if v.Kind < api.KindText {
				expectPrint(t, other, "", wrongForm)
			}
		}
	}
	for _, s := range []string{"\xff", "a\x80", "\xc3", "é\xa9", "\xe2\x82", "\xed\xa0\x80", "\xed\xbf\xbf", "\xf4\x90\x80\x80", "\xc0\x80", "\xf0\x9f\x98"} {
		expectPrint(t, text(s), "", wrongForm)
		expectPrint(t, text("\ufffd"+s+"\ufffd"), "", wrongForm)
		expectPrint(t, byteString(s), wantBytes(s), noFault)
	}
}

// R7.5: which fault comes first.
func TestPrintOrder(t *testing.T) {
	long := strings.Repeat("a", api.MaxText+1)
	expectPrint(t, api.Value{Kind: api.KindText, Text: long, Ref: 1}, "", wrongForm)
	expectPrint(t, api.Value{Kind: api.KindBytes, Text: long, Num: toInt(big.NewInt(1))}, "", wrongForm)
	expectPrint(t, api.Value{Kind: api.KindText, Text: long + "\xff"}, "", wrongForm)
	for _, den := range []int64{0, 1, 2, 3, 6} {
		v := ratio(big.NewInt(6), big.NewInt(den))
		v.Num.Neg = true
		expectPrint(t, v, "", wrongForm)
		v = ratio(big.NewInt(6), big.NewInt(den))
		v.Text = "a"
		expectPrint(t, v, "", wrongForm)
	}
	// Inexact comes ahead of what is not in lowest terms, and this ahead of what is too long.
	huge := plus(power(10, 1200), 6)
	expectPrint(t, ratio(huge, big.NewInt(6)), "", inexact)
	expectPrint(t, ratio(huge, new(big.Int)), "", inexact)
	expectPrint(t, ratio(huge, big.NewInt(2)), "", wrongForm)
	expectPrint(t, ratio(huge, big.NewInt(1)), "", wrongForm)
	expectPrint(t, ratio(huge, big.NewInt(5)), "", tooLong)
	expectPrint(t, ratio(big.NewInt(2), power(2, 2000)), "", wrongForm)
	expectPrint(t, ratio(big.NewInt(1), power(2, 2000)), "", tooLong)
}

// Z4: the limbs, with their spare capacity, stay as they are.
func TestPrintArguments(t *testing.T) {
	for _, v := range []api.Value{number(big.NewRat(5, 2)), number(big.NewRat(1<<40, 1)), number(new(big.Rat).SetFrac(plus(power(2, 2000), 1), power(10, 100))), ratio(big.NewInt(4), big.NewInt(2)), ratio(big.NewInt(4), big.NewInt(3))} {
		nums, dens := append(slices.Clone(v.Num.Limbs), 7, 8, 9), append(slices.Clone(v.Den.Limbs), 7, 8, 9)
		given := v
		given.Num.Limbs, given.Den.Limbs = nums[:len(v.Num.Limbs)], dens[:len(v.Den.Limbs)]
		literal.Print(given)
		if !slices.Equal(nums, append(slices.Clone(v.Num.Limbs), 7, 8, 9)) || !slices.Equal(dens, append(slices.Clone(v.Den.Limbs), 7, 8, 9)) {
			t.Errorf("Print changed %v", v)
		}
	}
}
