package voice

import "decani/api"

// latestTurn is the greatest number that a Turn can be: after the last week that there can be.
const latestTurn = api.VoiceWeeks

// bounds are, for each number of a truth, the greatest one that it can be, and how far the ends of what is known of it are apart at most.
var bounds = [...]struct{ most, apart int }{
	low:    {api.VoiceNote, api.VoiceWide},
	high:   {api.VoiceNote, api.VoiceWide},
	gain:   {api.VoiceGain, api.VoiceLean},
	turn:   {latestTurn, api.VoiceWide},
	breaks: {api.VoiceBreak, api.VoiceLate},
}

func isIn(n, low, high int) bool { return low <= n && n <= high }

func isBoy(b api.VoiceBook, boy int) bool { return isIn(boy, 0, len(b.Boys)-1) }

func isWeek(b api.VoiceBook, week int) bool { return isIn(week, 0, b.Weeks-1) }

func isNote(note int) bool { return isIn(note, 0, api.VoiceNote) }

// isSpan reports whether both ends are in order, and from 0 to most.
func isSpan(s api.Span, most int) bool {
	return isIn(s.Low, 0, s.High) && s.High <= most
}

func valid(b api.VoiceBook) bool {
	if !isIn(len(b.Boys), 1, api.VoiceBoys) || !isIn(b.Weeks, 1, api.VoiceWeeks) || len(b.Trials) > api.VoiceTrials {
		return false
	}
	for _, boy := range b.Boys {
		if !validBoy(boy) {
			return false
		}
	}
	for _, trial := range b.Trials {
		if !validTrial(b, trial) {
			return false
		}
	}
	return true
}

func validBoy(boy api.VoiceBoy) bool {
	for which, span := range known(boy) {
		if !isSpan(span, bounds[which].most) || span.High-span.Low > bounds[which].apart {
			return false
		}
	}
	return isIn(boy.Loss, 0, api.VoiceLoss)
}

func validTrial(b api.VoiceBook, trial api.VoiceTrial) bool {
	return isBoy(b, trial.Boy) && isWeek(b, trial.Week) && isNote(trial.Note) && isIn(trial.Sang, 0, 1)
}
