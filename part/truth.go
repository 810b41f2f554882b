package part

import "decani/api"

// place is a voice and the number of a note.
type place struct{ voice, note int }

// nowhere stands for the place that is not known, where all are.
var nowhere = place{-1, -1}

// chord is what all voices sing at a note.
type chord [api.PartVoices]int

// silence is the chord in which no voice sings.
var silence = chord{-1, -1, -1}

// interval returns how much higher a voice sings than the one below it.
func (c chord) interval(voice int) int { return c[voice] - c[voice-1] }

// truth is what is sung at each note; who is not there is silent.
type truth [api.PartNotes]chord

// before returns what is sung at the note before another one: there is silence before the first one.
func (t truth) before(note int) chord {
	if note == 0 {
		return silence
	}
	return t[note-1]
}

// sung returns the note at a place.
func (t truth) sung(at place) int { return t[at.note][at.voice] }

// differs reports whether a copy has another note than its voice.
func (t truth) differs(c api.PartCopy, note int) bool {
	return c.Notes[note] != t.sung(place{c.Voice, note})
}

// belies reports whether a copy is not right.
func (t truth) belies(c api.PartCopy) bool {
	for note := range c.Notes {
		if t.differs(c, note) {
			return true
		}
	}
	return false
}

// belied returns the numbers of all copies that are not right, increasing.
func (t truth) belied(copies []api.PartCopy) []int {
	var belied []int
	for i, c := range copies {
		if t.belies(c) {
			belied = append(belied, i)
		}
	}
	return belied
}
