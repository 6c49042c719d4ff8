package token

import (
	"strings"
	"unicode/utf8"

	"brindlewood/api"
)

// scanner goes through a source from the left to the right.
type scanner struct {
	text         string
	offset       int // how far it has come
	line, column int // the position of the offset
	tokens       []api.Token
	begun        bool     // the line has tokens
	indents      []int    // the indentations that are open
	closings     []string // the closing brackets of those that are open
	keywords     []string
}

func newScanner(text string) *scanner {
	return &scanner{text: text, line: 1, column: 1, indents: []int{0}, keywords: Keywords()}
}

// skip goes to the next token or to the end of the text, past blanks, comments and line feeds, and ends the line that has tokens.
func (s *scanner) skip() {
	for s.offset < len(s.text) {
		switch s.text[s.offset] {
		case ' ':
			s.pass(1)
		case '#':
			comment, _, _ := strings.Cut(s.rest(), "\n")
			s.pass(len(comment))
		case '\n':
			if len(s.closings) == 0 {
				s.endLine()
			}
			s.pass(1)
		default:
			return
		}
	}
}

// read reads the token at the offset.
func (s *scanner) read() api.Fault {
	if !s.begun {
		if fault := s.indent(); fault.Code != api.OK {
			return fault
		}
		s.begun = true
	}
	take := s.taker()
	return take()
}

// indent compares the indentation of a line, whose first token is at the offset, with those that are open.
func (s *scanner) indent() api.Fault {
	// There are only blanks ahead of the first token of a line.
	blanks := s.column - 1
	if blanks > s.indentation() {
		s.indents = append(s.indents, blanks)
		s.add(api.TokIndent, "")
	}
	s.dedent(blanks)
	if blanks != s.indentation() {
		return s.fault(api.ErrIndent, 0)
	}
	return api.Fault{}
}

// dedent closes the indentations that are greater than a number of blanks.
func (s *scanner) dedent(blanks int) {
	for s.indentation() > blanks {
		s.indents = s.indents[:len(s.indents)-1]
		s.add(api.TokDedent, "")
	}
}

// indentation returns the last indentation that is open.
func (s *scanner) indentation() int {
	return s.indents[len(s.indents)-1]
}

// endLine ends a line at the offset, if it has tokens.
func (s *scanner) endLine() {
	if s.begun {
		s.add(api.TokLine, "")
		s.begun = false
	}
}

// end ends the tokens at the end of the text.
func (s *scanner) end() api.Fault {
	if len(s.closings) > 0 {
		return s.fault(api.ErrTruncated, 0)
	}
	s.endLine()
	s.dedent(0)
	s.add(api.TokEnd, "")
	return api.Fault{}
}

// rest returns the part of the text from the offset on.
func (s *scanner) rest() string {
	return s.text[s.offset:]
}

// pass goes past a number of bytes.
func (s *scanner) pass(size int) {
	passed := s.rest()[:size]
	s.offset += size
	if feed := strings.LastIndexByte(passed, '\n'); feed >= 0 {
		s.line += strings.Count(passed, "\n")
		s.column = 1
		passed = passed[feed+1:]
	}
	s.column += utf8.RuneCountInString(passed)
}

// add adds a token at the offset.
func (s *scanner) add(kind int, text string) {
	// A part of the source would share its memory, which a result must not (Z4).
	s.tokens = append(s.tokens, api.Token{Kind: kind, Text: strings.Clone(text), Line: s.line, Column: s.column})
}

// fault returns a fault at a byte behind the offset.
func (s *scanner) fault(code, ahead int) api.Fault {
	return api.Fault{Code: code, Index: s.offset + ahead}
}
