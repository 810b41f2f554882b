package precentor

import (
	"iter"
	"strings"

	"decani/api"
)

// What stands behind a word is told by names of its parts; these two are not numbers.
const (
	aName = "NAME"  // a text without spaces
	notes = "NOTES" // a number for each note of the piece
)

// form is that of all lines with a word.
type form struct {
	behind string // what stands behind the word
	asks   func(b books, s said) (string, api.Errno)
	tells  func(b books, s said) books // nil, if the line only asks
	kind   int                         // of what it tells
}

// forms returns the form of each word.
func forms() map[string]form {
	return map[string]form{
		"sang":    {behind: "NAME week note", tells: books.sang, kind: ofVoice, asks: books.breaks},
		"failed":  {behind: "NAME week note", tells: books.failed, kind: ofVoice, asks: books.breaks},
		"cough":   {behind: "NAME day", tells: books.cough, kind: ofCold, asks: books.from},
		"still":   {behind: "NAME day", tells: books.still, kind: ofCold, asks: books.from},
		"copy":    {behind: "voice NOTES", tells: books.copy, kind: ofPart, asks: books.ways},
		"count":   {behind: "kind day left error", tells: books.count, kind: ofCandle, asks: books.left},
		"breaks":  {behind: "NAME", asks: books.breaks},
		"lowest":  {behind: "NAME", asks: books.lowest},
		"highest": {behind: "NAME week", asks: books.highest},
		"sings":   {behind: "NAME week note", asks: books.sings},
		"surely":  {behind: "week note", asks: books.surely},
		"must":    {behind: "week", asks: books.must},
		"heir":    {behind: "NAME week low high", asks: books.heir},
		"ill":     {behind: "NAME day", asks: books.ill},
		"coughs":  {behind: "NAME day", asks: books.coughs},
		"caught":  {behind: "NAME", asks: books.caught},
		"from":    {asks: books.from},
		"clean":   {asks: books.clean},
		"apart":   {behind: "day", asks: books.apart},
		"ways":    {asks: books.ways},
		"notes":   {behind: "voice note", asks: books.notes},
		"line":    {behind: "voice", asks: books.line},
		"first":   {asks: books.first},
		"look":    {asks: books.look},
		"left":    {behind: "kind day", asks: books.left},
		"life":    {behind: "kind", asks: books.life},
		"dark":    {behind: "day", asks: books.dark},
		"short":   {behind: "kind", asks: books.short},
		"buy":     {behind: "kind day", asks: books.buy},
	}
}

// isTelling reports whether lines of this form tell something.
func (f form) isTelling() bool { return f.tells != nil }

// isNamed reports whether a name stands behind the word.
func (f form) isNamed() bool { return strings.HasPrefix(f.behind, aName) }

// wants returns the parts behind the word, if a piece has so many notes.
func (f form) wants(many int) []string {
	return strings.Fields(strings.Replace(f.behind, notes, strings.Repeat("note ", many), 1))
}

// formOf returns the form of a line, and its parts behind the word; what is no line is left.
func formOf(line string, many int) (form, []string) {
	if len(line) > api.PrecentorLine || strings.Contains(line, "\n") {
		panic(noLine{})
	}
	word := wordOf(line)
	f, known := forms()[word]
	parts, fit := f.parts(line[len(word):], many)
	if !known || !fit {
		panic(noLine{})
	}
	return f, parts
}

func wordOf(line string) string {
	word, _, _ := strings.Cut(line, " ")
	return word
}

// parts returns what stands behind a word, and whether these are the parts that the form wants, each after one space.
func (f form) parts(behind string, many int) ([]string, bool) {
	take := func() string {
		if behind == "" {
			return ""
		}
		part, _, _ := strings.Cut(behind[1:], " ")
		behind = behind[1+len(part):]
		return part
	}
	wanted := f.wants(many)
	var parts []string
next:
	for _, what := range wanted {
		part := take()
		if part == "" || what != aName && !canBeNumber(part) {
			continue
		}
		for i := range len(part) {
			if what != aName && !isDigit(part[i]) {
				continue next
			}
		}
		parts = append(parts, part)
	}
	return parts, len(parts) == len(wanted) && behind == ""
}

// canBeNumber reports whether a part is no longer than a number, and has no zeros in front.
func canBeNumber(part string) bool {
	return len(part) == 1 || len(part) <= api.PrecentorDigits && part[0] != '0'
}

// lines produces the lines of a file.
func lines(file string) iter.Seq[string] {
	return func(yield func(line string) bool) {
		for rest := file; rest != ""; {
			line, behind, _ := strings.Cut(rest, "\n")
			if !yield(line) {
				return
			}
			rest = behind
		}
	}
}
