package organ

import (
	"slices"

	"decani/api"
	"decani/voice"
)

func isIn(n, low, high int) bool { return low <= n && n <= high }

func isPipe(b api.OrganBook, pipe int) bool { return isIn(pipe, 0, b.Pipes-1) }

func isWeek(b api.OrganBook, week int) bool { return isIn(week, 0, b.Voice.Weeks-1) }

func isPiece(b api.OrganBook, parts []api.OrganPart) bool {
	return isIn(len(parts), 1, api.OrganParts) && all(parts, func(part api.OrganPart) bool { return validPart(b, part) })
}

func validPart(b api.OrganBook, part api.OrganPart) bool {
	return isIn(part.Boy, 0, len(b.Voice.Boys)-1) && isIn(part.Notes.Low, 0, part.Notes.High) && part.Notes.High <= api.VoiceNote
}

func valid(b api.OrganBook) bool {
	return isIn(b.Pipes, 1, api.OrganPipes) &&
		len(b.Tunes) <= api.OrganTunes && all(b.Tunes, func(tune api.OrganTune) bool { return validTune(b, tune) }) &&
		len(b.Forks) <= api.OrganForks && all(b.Forks, func(fork api.OrganFork) bool { return validFork(b, fork) }) &&
		voice.Check(b.Voice) == api.OK
}

// all reports whether something is so of each thing of a list.
func all[T any](list []T, is func(T) bool) bool {
	return !slices.ContainsFunc(list, func(one T) bool { return !is(one) })
}

func validTune(b api.OrganBook, tune api.OrganTune) bool {
	return isPipe(b, tune.From) && isPipe(b, tune.To) && tune.From != tune.To &&
		isIn(tune.Off, -api.OrganOff, api.OrganOff) && isIn(tune.Error, 0, api.OrganError)
}

func validFork(b api.OrganBook, fork api.OrganFork) bool {
	return isPipe(b, fork.Pipe) && isIn(fork.Read, -api.OrganSharp, api.OrganSharp) && isIn(fork.Error, 0, api.OrganError)
}
