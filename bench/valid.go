package bench

import (
	"slices"

	"decani/api"
	"decani/voice"
)

func isIn(n, low, high int) bool { return low <= n && n <= high }

func isPiece(b api.BenchBook, piece int) bool { return isIn(piece, 0, len(b.Pieces)-1) }

func isPlace(b api.BenchBook, at place) bool {
	return isPiece(b, at.piece) && isIn(at.part, 0, len(b.Pieces[at.piece].Parts)-1)
}

// isChoice reports whether these are numbers of pieces, strictly increasing.
func isChoice(b api.BenchBook, pieces []int) bool {
	for i, piece := range pieces {
		if !isPiece(b, piece) || i > 0 && pieces[i-1] >= piece {
			return false
		}
	}
	return true
}

func valid(b api.BenchBook) bool {
	return voice.Check(b.Voice) == api.OK &&
		isIn(len(b.Pieces), 1, api.BenchPieces) && isIn(b.Most, 1, api.BenchMost) &&
		all(b.Pieces, func(piece api.BenchPiece) bool { return validPiece(b, piece) })
}

// all reports whether something is so of each thing of a list.
func all[T any](list []T, is func(T) bool) bool {
	return !slices.ContainsFunc(list, func(one T) bool { return !is(one) })
}

func validPiece(b api.BenchBook, piece api.BenchPiece) bool {
	return isIn(piece.Week, 0, b.Voice.Weeks-1) && isIn(len(piece.Parts), 1, api.BenchParts) && all(piece.Parts, validPart)
}

func validPart(part api.BenchPart) bool {
	return isIn(part.Notes.Low, 0, part.Notes.High) && part.Notes.High <= api.VoiceNote && isIn(part.Many, 1, api.BenchMany)
}
