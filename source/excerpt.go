package source

import (
	"strings"
	"unicode/utf8"

	"brindlewood/api"
)

// The widths that an excerpt can have.
const (
	minWidth = 20
	maxWidth = 200
)

// Excerpt returns the part of a line around a column, and a mark below the column.
func Excerpt(text string, line, column, width int) (string, api.Fault) {
	found, _, fault := locate(text, line, column)
	if fault.Code != api.OK {
		return "", fault
	}
	if width < minWidth || width > maxWidth {
		return "", api.Fault{Code: api.ErrRange, Index: -4}
	}
	first := firstShown(utf8.RuneCountInString(found), column, width)
	part := found[size(found, first):]
	part = part[:size(part, width)]
	return part + lineFeed + strings.Repeat(" ", column-1-first) + "^", api.Fault{}
}

// firstShown returns the index of the character with which the part of a line with length characters begins.
func firstShown(length, column, width int) int {
	// For a line that is shown as a whole the last possible index is not positive, which leaves 0.
	return max(0, min(column-1-width/2, length-width))
}
