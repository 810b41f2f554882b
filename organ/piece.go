package organ

import (
	"cmp"

	"decani/api"
	"decani/voice"
)

// surely is what voice.Sings returns if a boy can sing a note in each truth.
const surely = 2

// piece is one that is sung in a week, and by how many semitones it is sung higher than it is written, at least and at most.
type piece struct {
	loft
	week   int
	parts  []api.OrganPart
	higher api.Span
}

// canBeSung reports whether the boy surely can sing all notes of a part in a key, however sharp the organ is. What can be sung has no gaps: who sings both ends sings all that lies between them. A note that is beyond all notes nobody sings: of it voice.Sings returns an error, and 0.
func (p piece) canBeSung(part api.OrganPart, key int) bool {
	for _, note := range [...]int{part.Notes.Low + key + p.higher.Low, part.Notes.High + key + p.higher.High} {
		if sings, _ := voice.Sings(p.Voice, part.Boy, p.week, note); sings != surely {
			return false
		}
	}
	return true
}

// keys returns all keys in which the piece lies within all voices, increasing.
func (p piece) keys() []int {
	var keys []int
	can := p.canBeSung
keys:
	for key := -api.OrganKeys; key <= api.OrganKeys; key++ {
		for _, part := range p.parts {
			if !can(part, key) {
				continue keys
			}
		}
		keys = append(keys, key)
	}
	return keys
}

// choice is which of two keys is the better one.
type choice struct {
	better func(key, other int) bool
}

// best returns the best one of several keys, and whether there is one.
func (c choice) best(keys []int) (best int, found bool) {
	for _, key := range keys {
		if !found || c.better(key, best) {
			best, found = key, true
		}
	}
	return best, found
}

// isNearer reports whether a key is less far from 0 than another one, or as far, and lower.
func isNearer(key, other int) bool {
	return cmp.Or(cmp.Compare(max(key, -key), max(other, -other)), cmp.Compare(key, other)) < 0
}
