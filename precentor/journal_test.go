package precentor

import (
	"slices"
	"testing"

	"decani/api"
)

func just(n int) api.Span { return api.Span{Low: n, High: n} }

// P11.2: all books together have room for 19 lines, so that no journal that was told line by line has 150: this one is written by hand.
func TestFullJournal(t *testing.T) {
	p, e := New(api.PrecentorSetup{
		Names:  []string{"al"},
		Voice:  api.VoiceBook{Boys: []api.VoiceBoy{{Low: just(5), High: just(20), Break: just(3)}}, Weeks: 4},
		Cold:   api.ColdBook{Beds: 1, Days: 5, Begins: 1, Takes: [2]api.Span{just(1), just(1)}},
		Part:   api.PartBook{Notes: 1, Voices: []api.Span{just(0)}},
		Candle: api.CandleBook{Life: [2]api.Span{just(1), just(1)}, Days: []api.CandleDay{{}}},
	})
	if e != api.OK {
		t.Fatalf("New: %d", e)
	}
	p.journal = slices.Repeat([]string{"still al 0"}, api.PrecentorJournal-1)
	for _, x := range []struct {
		line, answer string
		e            api.Errno
	}{
		{"still al 0", "0", api.OK},
		{"still al 0", "", api.ErrFull},
		{"cough al 0", "", api.ErrFull},
		{"sang al 9 0", "", api.ErrFull},
		{"failed cy 0 0", "", api.ErrFull},
		{"copy 0 13", "", api.ErrFull},
		{"count 0 0 0 0", "", api.ErrFull},
		{"still al", "", api.ErrPrecentorLine},
		{"ill cy 0", "", api.ErrPrecentorUnknown},
		{"ill al 5", "", api.ErrRange},
		{"ill al 0", "2", api.OK},
	} {
		if answer, e := p.Do(x.line); answer != x.answer || e != x.e {
			t.Errorf("%q: %q, %d, not %q, %d", x.line, answer, e, x.answer, x.e)
		}
	}
	if len(p.Journal()) != api.PrecentorJournal || len(p.Heard()) != 1 {
		t.Errorf("kept: %d, %d", len(p.Journal()), len(p.Heard()))
	}
}

// P1: whatever a line is left by, it is an error.
func TestLeft(t *testing.T) {
	for i, x := range []struct {
		left any
		want api.Errno
	}{
		{noLine{}, api.ErrPrecentorLine},
		{stranger{}, api.ErrPrecentorUnknown},
		{untold(api.ErrFull), api.ErrFull},
		{untold(api.ErrNone), api.ErrNone},
		{unanswered(api.ErrNone), api.ErrNone},
		{unanswered(api.ErrColdAsk), api.ErrRange},
		{"cy", api.ErrRange},
		{api.ErrNone, api.ErrRange},
	} {
		if e := errorOf(x.left); e != x.want {
			t.Errorf("errorOf %d: %d, not %d", i, e, x.want)
		}
	}
}
