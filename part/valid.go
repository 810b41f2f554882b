package part

import (
	"slices"

	"decani/api"
)

func isIn(n, low, high int) bool { return low <= n && n <= high }

func isVoice(b api.PartBook, voice int) bool { return isIn(voice, 0, len(b.Voices)-1) }

func isNumber(b api.PartBook, note int) bool { return isIn(note, 0, b.Notes-1) }

func isCopy(b api.PartBook, number int) bool { return isIn(number, 0, len(b.Copies)-1) }

// isNote reports whether there can be a note of this height.
func isNote(height int) bool { return isIn(height, 0, api.PartHigh) }

// isSet reports whether a number is a set of intervals.
func isSet(set int) bool { return isIn(set, 0, 1<<(api.PartStep+1)-1) }

func valid(b api.PartBook) bool {
	if !isIn(b.Notes, 1, api.PartNotes) || !isIn(len(b.Voices), 1, api.PartVoices) {
		return false
	}
	if !isIn(b.Step, 0, api.PartStep) || !isSet(b.Chords) || !isSet(b.Perfect) || len(b.Copies) > api.PartCopies {
		return false
	}
	return all(b.Voices, validVoice) &&
		all(b.Copies, func(c api.PartCopy) bool { return validCopy(b, c) })
}

// all reports whether something is so of each thing of a list.
func all[T any](list []T, is func(T) bool) bool {
	return !slices.ContainsFunc(list, func(one T) bool { return !is(one) })
}

func validVoice(s api.Span) bool {
	return isNote(s.Low) && isNote(s.High) && isIn(s.High-s.Low, 0, api.PartWide)
}

func validCopy(b api.PartBook, c api.PartCopy) bool {
	return isVoice(b, c.Voice) && len(c.Notes) == b.Notes && all(c.Notes, isNote)
}
