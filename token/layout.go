package token

import (
	"strings"

	"brindlewood/api"
)

// layOut returns the text of a list of tokens, whatever they are, or false if it has more than MaxSource bytes.
func layOut(l []api.Token) (string, bool) {
	var text strings.Builder
	fits := true
	// Nothing is written that does not fit, as a few bytes of tokens can ask for any number of blanks.
	put := func(blanks int, piece string) {
		fits = fits && text.Len()+blanks+len(piece) <= api.MaxSource
		if fits {
			text.WriteString(strings.Repeat(" ", blanks))
			text.WriteString(piece)
		}
	}
	level, begins := 0, true
	for _, t := range l {
		switch t.Kind {
		case api.TokEnd:
		case api.TokIndent:
			level++
		case api.TokDedent:
			level--
		case api.TokLine:
			put(0, "\n")
			begins = true
		default:
			put(blanksAhead(level, begins), t.Text)
			begins = false
		}
	}
	if !fits {
		return "", false
	}
	return text.String(), true
}

// blanksAhead returns the number of blanks ahead of a token, which begins a line or not.
func blanksAhead(level int, begins bool) int {
	if begins {
		return max(0, 2*level)
	}
	return 1
}
