package bench

import (
	"cmp"
	"slices"
)

// lack returns the first part up to which the parts of a piece cannot all have their boys, and whether there is one.
func (s stalls) lack(piece int) (int, bool) {
	parts := s.parts(piece)
	for part := range parts {
		if _, found := s.first(parts[: part+1 : part+1]); !found {
			return part, true
		}
	}
	return 0, false
}

// pieces returns all pieces.
func (s stalls) pieces() []int { return s.others(nil) }

// others returns all pieces but some.
func (s stalls) others(but []int) []int {
	var others []int
	for piece := range s.Pieces {
		if !slices.Contains(but, piece) {
			others = append(others, piece)
		}
	}
	return others
}

// canBeSung reports whether some pieces can be sung.
func (s stalls) canBeSung(pieces []int) bool {
	_, found := s.first(s.parts(pieces...))
	return found
}

// change returns the first of the shortest lists of pieces without which all others can be sung. Without any pieces all can.
func (s stalls) change() []int {
	var lists [][]int
	for set := range 1 << len(s.Pieces) {
		changed := members(set)
		if s.canBeSung(s.others(changed)) {
			lists = append(lists, changed)
		}
	}
	return slices.MinFunc(lists, func(one, other []int) int {
		return cmp.Or(cmp.Compare(len(one), len(other)), slices.Compare(one, other))
	})
}

// need returns all boys without whom more pieces must be changed, increasing.
func (s stalls) need() []int {
	var need []int
	fewest := len(s.change())
	for boy := range len(s.Voice.Boys) {
		if len(s.without(boy).change()) > fewest {
			need = append(need, boy)
		}
	}
	return need
}

// members returns all numbers of a set, increasing.
func members(set int) []int {
	var members []int
	for n := 0; set>>n > 0; n++ {
		if set>>n&1 == 1 {
			members = append(members, n)
		}
	}
	return members
}
