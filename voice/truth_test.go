package voice_test

// The functions against a second calculation, which is as plain as the chapter's sentences, and the properties P2.10 to P2.15, for many books.

import (
	"math/rand"
	"reflect"
	"slices"
	"testing"

	"decani/api"
	"decani/voice"
)

// real is what is so of a boy.
type real struct{ low, high, gain, turn, loss, breaks int }

// plainHighest goes from week to week.
func (r real) plainHighest(week int) int {
	note := r.high
	for before := 0; before < week; before++ {
		if before < r.turn {
			note += r.gain
		} else {
			note -= r.loss
		}
	}
	return note
}

func (r real) plainSings(week, note int) bool {
	return week < r.breaks && note >= r.low && note <= r.plainHighest(week)
}

func (r real) plainRight(t api.VoiceTrial) bool {
	return r.plainSings(t.Week, t.Note) == (t.Sang == 1)
}

func plainAll(v api.VoiceBoy) []real {
	var all []real
	for low := v.Low.Low; low <= v.Low.High; low++ {
		for high := v.High.Low; high <= v.High.High; high++ {
			for gain := v.Gain.Low; gain <= v.Gain.High; gain++ {
				for turn := v.Turn.Low; turn <= v.Turn.High; turn++ {
					for breaks := v.Break.Low; breaks <= v.Break.High; breaks++ {
						all = append(all, real{low, high, gain, turn, v.Loss, breaks})
					}
				}
			}
		}
	}
	return all
}

// plainTruths are, by boy, all that can be so if those of the trials are right that are not left out; without any if that cannot be of some boy.
func plainTruths(b api.VoiceBook, out []int) [][]real {
	var truths [][]real
	for boy, v := range b.Boys {
		var fit []real
		for _, r := range plainAll(v) {
			right := true
			for i, t := range b.Trials {
				right = right && (t.Boy != boy || slices.Contains(out, i) || r.plainRight(t))
			}
			if right {
				fit = append(fit, r)
			}
		}
		if fit == nil {
			return nil
		}
		truths = append(truths, fit)
	}
	return truths
}

// plainWrong goes through all sets of trials.
func plainWrong(b api.VoiceBook) []int {
	best := []int{0, 1, 2, 3, 4, 5}
	for set := 0; set < 1<<len(b.Trials); set++ {
		var out []int
		for i := range b.Trials {
			if set>>i&1 == 1 {
				out = append(out, i)
			}
		}
		better := len(out) < len(best) || len(out) == len(best) && slices.Compare(out, best) < 0
		if better && plainTruths(b, out) != nil {
			best = out
		}
	}
	return best
}

// plainOften is 2 if something is so of each, 0 if of none, and 1 otherwise.
func plainOften(l []real, is func(r real) bool) int {
	some := 0
	for _, r := range l {
		if is(r) {
			some++
		}
	}
	switch some {
	case len(l):
		return 2
	case 0:
		return 0
	}
	return 1
}

func ends(l []int) api.Span { return span(slices.Min(l), slices.Max(l)) }

// anySpan is a span from 0 to most, its ends no more than apart from each other.
func anySpan(r *rand.Rand, most, apart int) api.Span {
	low := r.Intn(most + 1)
	return span(low, min(most, low+r.Intn(apart+1)))
}

func anyTrial(r *rand.Rand, b api.VoiceBook) api.VoiceTrial {
	return trial(r.Intn(len(b.Boys)), r.Intn(b.Weeks), r.Intn(13), r.Intn(2))
}

// anyBook is one of low voices: their highest notes come below 0, and below the lowest ones.
func anyBook(r *rand.Rand) api.VoiceBook {
	b := api.VoiceBook{Weeks: 1 + r.Intn(6)}
	for range 1 + r.Intn(4) {
		b.Boys = append(b.Boys, api.VoiceBoy{
			Low: anySpan(r, 5, 2), High: anySpan(r, 9, 2), Gain: anySpan(r, 2, 1),
			Turn: anySpan(r, 6, 2), Loss: r.Intn(3), Break: anySpan(r, 9, 3),
		})
	}
	for range r.Intn(7) {
		b.Trials = append(b.Trials, anyTrial(r, b))
	}
	return b
}

// rightly tries only what is right in a truth of the book.
func rightly(b api.VoiceBook, r *rand.Rand) (api.VoiceBook, []real) {
	var truth []real
	for _, v := range b.Boys {
		all := plainAll(v)
		truth = append(truth, all[r.Intn(len(all))])
	}
	for i, t := range b.Trials {
		b.Trials[i].Sang = 0
		if truth[t.Boy].plainSings(t.Week, t.Note) {
			b.Trials[i].Sang = 1
		}
	}
	return b, truth
}

func deep(b api.VoiceBook) api.VoiceBook {
	b.Boys, b.Trials = slices.Clone(b.Boys), slices.Clone(b.Trials)
	return b
}

func TestAgainstPlainTruths(t *testing.T) {
	r := rand.New(rand.NewSource(1))
	for range 400 {
		b := anyBook(r)
		if r.Intn(3) > 0 {
			b, _ = rightly(b, r)
		}
		was := deep(b)
		truths := plainTruths(b, nil)
		if is, e := voice.Right(b); is != (truths != nil) || e != api.OK {
			t.Fatalf("Right %+v: %v, %d", b, is, e)
		}
		if l, e := voice.Wrong(b); !slices.Equal(l, plainWrong(b)) || e != api.OK {
			t.Fatalf("Wrong %+v: %v, %d", b, l, e)
		}
		if truths == nil {
			testFalse(t, b)
		} else {
			testBoys(t, b, truths)
			testWeeks(t, b, truths)
			testHeirs(t, b, truths, r)
			testTrials(t, b, truths)
		}
		if !reflect.DeepEqual(b, was) {
			t.Fatalf("changed: %+v, was %+v", b, was)
		}
	}
}

func testFalse(t *testing.T, b api.VoiceBook) {
	t.Helper()
	_, d := voice.Lowest(b, 0)
	_, e := voice.Highest(b, 0, 0)
	_, f := voice.Sings(b, 0, 0, 0)
	_, g := voice.Surely(b, 0, 0)
	_, h := voice.Must(b, 0)
	_, i := voice.Heir(b, 0, 0, span(0, 0))
	_, j := voice.Fits(b, trial(0, 0, 0, 0))
	for k, e := range []api.Errno{d, e, f, g, h, i, j} {
		if e != api.ErrVoiceFalse {
			t.Fatalf("call %d, %+v: %d", k, b, e)
		}
	}
}

func testBoys(t *testing.T, b api.VoiceBook, truths [][]real) {
	t.Helper()
	for boy, l := range truths {
		var lows, breaks []int
		for _, r := range l {
			lows, breaks = append(lows, r.low), append(breaks, r.breaks)
		}
		if s, e := voice.Lowest(b, boy); s != ends(lows) || e != api.OK {
			t.Fatalf("Lowest %+v, %d: %v, %d", b, boy, s, e)
		}
		if s, e := voice.Breaks(b, boy); s != ends(breaks) || e != api.OK {
			t.Fatalf("Breaks %+v, %d: %v, %d", b, boy, s, e)
		}
		for week := range b.Weeks {
			var highest []int
			for _, r := range l {
				if week < r.breaks {
					highest = append(highest, r.plainHighest(week))
				}
			}
			want, wantE := api.Span{}, api.ErrNone
			if highest != nil {
				want, wantE = ends(highest), api.OK
			}
			if s, e := voice.Highest(b, boy, week); s != want || e != wantE {
				t.Fatalf("Highest %+v, %d, %d: %v, %d", b, boy, week, s, e)
			}
		}
	}
}

func testWeeks(t *testing.T, b api.VoiceBook, truths [][]real) {
	t.Helper()
	for week := range b.Weeks {
		var must []int
		for boy, l := range truths {
			if plainOften(l, func(r real) bool { return week >= r.breaks }) == 2 {
				must = append(must, boy)
			}
		}
		if l, e := voice.Must(b, week); !slices.Equal(l, must) || e != api.OK {
			t.Fatalf("Must %+v, %d: %v, %d", b, week, l, e)
		}
		for note := range 15 {
			var surely []int
			for boy, l := range truths {
				want := plainOften(l, func(r real) bool { return r.plainSings(week, note) })
				if want == 2 {
					surely = append(surely, boy)
				}
				if n, e := voice.Sings(b, boy, week, note); n != want || e != api.OK {
					t.Fatalf("Sings %+v, %d, %d, %d: %d, %d", b, boy, week, note, n, e)
				}
			}
			if l, e := voice.Surely(b, week, note); !slices.Equal(l, surely) || e != api.OK {
				t.Fatalf("Surely %+v, %d, %d: %v, %d", b, week, note, l, e)
			}
		}
	}
}

// testHeirs asks note by note who surely can sing it.
func testHeirs(t *testing.T, b api.VoiceBook, truths [][]real, r *rand.Rand) {
	t.Helper()
	for range 20 {
		boy, week, notes := r.Intn(len(b.Boys)), r.Intn(b.Weeks), anySpan(r, 12, 5)
		want, wantE := 0, api.ErrNone
		for other := len(b.Boys) - 1; other >= 0; other-- {
			can := other != boy
			for note := notes.Low; note <= notes.High; note++ {
				can = can && plainOften(truths[other], func(r real) bool { return r.plainSings(week, note) }) == 2
			}
			if can {
				want, wantE = other, api.OK
			}
		}
		if n, e := voice.Heir(b, boy, week, notes); n != want || e != wantE {
			t.Fatalf("Heir %+v, %d, %d, %v: %d, %d", b, boy, week, notes, n, e)
		}
	}
}

func testTrials(t *testing.T, b api.VoiceBook, truths [][]real) {
	t.Helper()
	for boy, l := range truths {
		for week := range b.Weeks {
			for note := range 13 {
				for sang := range 2 {
					tried := trial(boy, week, note, sang)
					want := slices.ContainsFunc(l, func(r real) bool { return r.plainRight(tried) })
					if is, e := voice.Fits(b, tried); is != want || e != api.OK {
						t.Fatalf("Fits %+v, %v: %v, %d", b, tried, is, e)
					}
				}
			}
		}
	}
}

func within(n int, s api.Span) bool { return s.Low <= n && n <= s.High }

// P2.10
func TestWhatABoyCanSing(t *testing.T) {
	r := rand.New(rand.NewSource(2))
	for range 500 {
		b, truth := rightly(anyBook(r), r)
		if is, e := voice.Right(b); !is || e != api.OK {
			t.Fatalf("Right %+v: %v, %d", b, is, e)
		}
		if l, e := voice.Wrong(b); len(l) > 0 || e != api.OK {
			t.Fatalf("Wrong %+v: %v, %d", b, l, e)
		}
		for boy, v := range truth {
			lowest, _ := voice.Lowest(b, boy)
			breaks, _ := voice.Breaks(b, boy)
			if !within(v.low, lowest) || !within(v.breaks, breaks) {
				t.Fatalf("%+v, %d, %+v: %v, %v", b, boy, v, lowest, breaks)
			}
			for week := range b.Weeks {
				highest, e := voice.Highest(b, boy, week)
				if week < v.breaks && (e != api.OK || !within(v.plainHighest(week), highest)) {
					t.Fatalf("Highest %+v, %d, %d, %+v: %v, %d", b, boy, week, v, highest, e)
				}
				if must, _ := voice.Must(b, week); slices.Contains(must, boy) && week < v.breaks {
					t.Fatalf("Must %+v, %d, %+v: %v", b, week, v, must)
				}
				for note := range 15 {
					if l, _ := voice.Surely(b, week, note); slices.Contains(l, boy) && !v.plainSings(week, note) {
						t.Fatalf("Surely %+v, %d, %d, %+v: %v", b, week, note, v, l)
					}
				}
			}
		}
	}
}

// P2.11
func TestBounds(t *testing.T) {
	r := rand.New(rand.NewSource(3))
	for range 500 {
		b, _ := rightly(anyBook(r), r)
		boy, week := r.Intn(len(b.Boys)), r.Intn(b.Weeks)
		lowest, _ := voice.Lowest(b, boy)
		breaks, _ := voice.Breaks(b, boy)
		highest, e := voice.Highest(b, boy, week)
		if e == api.ErrNone {
			continue
		}
		for note := range 41 {
			n, e := voice.Sings(b, boy, week, note)
			wrong := note > highest.High && n > 0
			wrong = wrong || note == highest.High && lowest.High <= note && n == 0
			wrong = wrong || lowest.High <= note && note <= highest.Low && week < breaks.Low && n < 2
			if wrong || e != api.OK {
				t.Fatalf("Sings %+v, %d, %d, %d: %d, %d", b, boy, week, note, n, e)
			}
		}
	}
}

// P2.12, P2.13
func TestOneTrialMore(t *testing.T) {
	r := rand.New(rand.NewSource(4))
	for range 500 {
		b, _ := rightly(anyBook(r), r)
		b.Trials = b.Trials[:min(len(b.Trials), 5)]
		tried := anyTrial(r, b)
		if is, _ := voice.Fits(b, tried); !is {
			continue
		}
		more := deep(b)
		more.Trials = append(more.Trials, tried)
		for boy := range b.Boys {
			lowest, _ := voice.Lowest(b, boy)
			breaks, _ := voice.Breaks(b, boy)
			low, e := voice.Lowest(more, boy)
			late, f := voice.Breaks(more, boy)
			if e != api.OK || f != api.OK || !within(low.Low, lowest) || !within(low.High, lowest) || !within(late.Low, breaks) || !within(late.High, breaks) {
				t.Fatalf("%+v, %d: %v, %v", more, boy, low, late)
			}
			if boy != tried.Boy && (low != lowest || late != breaks) {
				t.Fatalf("%+v, %d, by a trial of %d: %v, %v", more, boy, tried.Boy, low, late)
			}
			for week := range b.Weeks {
				testOneMore(t, b, more, boy, week)
			}
		}
	}
}

func testOneMore(t *testing.T, b, more api.VoiceBook, boy, week int) {
	t.Helper()
	other := boy != more.Trials[len(more.Trials)-1].Boy
	wide, d := voice.Highest(b, boy, week)
	s, e := voice.Highest(more, boy, week)
	if e == api.OK && (d != api.OK || !within(s.Low, wide) || !within(s.High, wide)) || other && (s != wide || d != e) {
		t.Fatalf("Highest %+v, %d, %d: %v, %d", more, boy, week, s, e)
	}
	for note := range 15 {
		was, _ := voice.Sings(b, boy, week, note)
		if n, e := voice.Sings(more, boy, week, note); e != api.OK || (was != 1 || other) && n != was {
			t.Fatalf("Sings %+v, %d, %d, %d: %d, %d", more, boy, week, note, n, e)
		}
	}
}

// P2.14
func TestTrialsThatMustBeFalse(t *testing.T) {
	r := rand.New(rand.NewSource(5))
	for range 500 {
		b := anyBook(r)
		wrong, e := voice.Wrong(b)
		if e != api.OK {
			t.Fatalf("Wrong %+v: %d", b, e)
		}
		for out := 0; out < 1<<len(b.Trials); out++ {
			some := deep(b)
			some.Trials = nil
			var left []int
			for i, tried := range b.Trials {
				if out>>i&1 == 1 {
					left = append(left, i)
				} else {
					some.Trials = append(some.Trials, tried)
				}
			}
			is, _ := voice.Right(some)
			if slices.Equal(left, wrong) && !is || len(left) < len(wrong) && is {
				t.Fatalf("Wrong %+v: %v, but without %v: %v", b, wrong, left, is)
			}
		}
	}
}

// P2.15
func TestBrokenStaysBroken(t *testing.T) {
	r := rand.New(rand.NewSource(6))
	for range 500 {
		b, _ := rightly(anyBook(r), r)
		var before []int
		for week := range b.Weeks {
			l, e := voice.Must(b, week)
			if e != api.OK || slices.ContainsFunc(before, func(boy int) bool { return !slices.Contains(l, boy) }) {
				t.Fatalf("Must %+v, %d: %v, %d, before %v", b, week, l, e, before)
			}
			before = l
		}
	}
}

// P2.15
func TestMoreGainLessLoss(t *testing.T) {
	r := rand.New(rand.NewSource(7))
	for range 500 {
		b := anyBook(r)
		b.Trials = nil
		boy := r.Intn(len(b.Boys))
		better := deep(b)
		v := &better.Boys[boy]
		if r.Intn(2) == 0 {
			v.Loss = max(0, v.Loss-1)
		} else {
			v.Gain = span(v.Gain.High, min(v.Gain.High+1, api.VoiceGain))
		}
		for week := range b.Weeks {
			was, d := voice.Highest(b, boy, week)
			if s, e := voice.Highest(better, boy, week); e != d || s.Low < was.Low || s.High < was.High {
				t.Fatalf("Highest %+v, %d, %d: %v, %d, was %v, %d", better, boy, week, s, e, was, d)
			}
		}
	}
}

// P1: any arguments, also such as are not valid, are answered without a panic, and the same way twice (P2).
func TestAnyArguments(t *testing.T) {
	r := rand.New(rand.NewSource(8))
	odd := func() int {
		return []int{-1 << 63, -2, -1, 0, 1, 2, 3, 4, 5, 6, 9, 40, 41, 1<<63 - 1}[r.Intn(14)]
	}
	for range 2000 {
		b := anyBook(r)
		for range r.Intn(3) {
			switch n := r.Intn(5); {
			case n == 0:
				b.Weeks = odd()
			case n == 1:
				b.Boys[0].Low, b.Boys[0].Turn = span(odd(), odd()), span(odd(), odd())
			case n == 2:
				b.Boys[0].High, b.Boys[0].Break = span(odd(), odd()), span(odd(), odd())
			case n == 3:
				b.Boys[0].Gain, b.Boys[0].Loss = span(odd(), odd()), odd()
			case len(b.Trials) > 0:
				b.Trials[0] = trial(odd(), odd(), odd(), odd())
			}
		}
		boy, week, note, notes, tried := odd(), odd(), odd(), span(odd(), odd()), trial(odd(), odd(), odd(), odd())
		if !reflect.DeepEqual(everything(b, boy, week, note, notes, tried), everything(b, boy, week, note, notes, tried)) {
			t.Fatalf("%+v: not the same twice", b)
		}
	}
}

func everything(b api.VoiceBook, boy, week, note int, notes api.Span, tried api.VoiceTrial) []any {
	results := []any{voice.Check(b)}
	add := func(l ...any) { results = append(results, l...) }
	is, e := voice.Right(b)
	add(is, e)
	s, e := voice.Lowest(b, boy)
	add(s, e)
	s, e = voice.Highest(b, boy, week)
	add(s, e)
	s, e = voice.Breaks(b, boy)
	add(s, e)
	n, e := voice.Sings(b, boy, week, note)
	add(n, e)
	l, e := voice.Surely(b, week, note)
	add(l, e)
	l, e = voice.Must(b, week)
	add(l, e)
	n, e = voice.Heir(b, boy, week, notes)
	add(n, e)
	is, e = voice.Fits(b, tried)
	add(is, e)
	l, e = voice.Wrong(b)
	add(l, e)
	return results
}
