package literal

import (
	"strings"

	"brindlewood/api"
)

// formatted returns a formatted string with given parts, whatever they are, or false if it has more than MaxSource bytes.
func formatted(l []api.FieldPart) (string, bool) {
	var text strings.Builder
	fits := true
	// Nothing is written that does not fit, as the parts may be of any size.
	put := func(piece string) {
		fits = fits && text.Len()+len(piece) <= api.MaxSource
		if fits {
			text.WriteString(piece)
		}
	}
	put("f'")
	for _, part := range l {
		if part.Field {
			putField(part, put)
		} else {
			putText(part.Text, put)
		}
	}
	put("'")
	return text.String(), fits
}

// putText writes a text of a formatted string.
func putText(text string, put func(piece string)) {
	// Each byte that is not valid is a character U+FFFD here.
	for _, char := range text {
		piece := escape(char, '\'')
		put(piece)
		if char == '{' || char == '}' {
			put(piece)
		}
	}
}

// putField writes a field.
func putField(part api.FieldPart, put func(piece string)) {
	put("{")
	put(part.Text)
	if part.Convert != 0 {
		put("!")
		put(string([]byte{byte(part.Convert)}))
	}
	if part.Spec != "" {
		put(":")
		put(part.Spec)
	}
	put("}")
}
