package office_test

import (
	"math"
	"slices"
	"testing"

	"decani/api"
	"decani/office"
)

func span(low, high int) api.Span { return api.Span{Low: low, High: high} }

func feast(low, high, rank int) api.OfficeFeast {
	return api.OfficeFeast{Day: span(low, high), Rank: rank}
}

func rule(rank, to, does int) api.OfficeRule {
	return api.OfficeRule{Rank: rank, To: to, Does: does}
}

func note(use, day, chief int) api.OfficeNote {
	return api.OfficeNote{Use: use, Day: day, Chief: chief}
}

type change func(b *api.OfficeBook)

func days(n int) change { return func(b *api.OfficeBook) { b.Days = n } }

func first(n int) change { return func(b *api.OfficeBook) { b.First = n } }

func feasts(l ...api.OfficeFeast) change { return func(b *api.OfficeBook) { b.Feasts = l } }

func notes(l ...api.OfficeNote) change { return func(b *api.OfficeBook) { b.Notes = l } }

func rules(use int, l ...api.OfficeRule) change {
	return func(b *api.OfficeBook) { b.Uses[use].Rules = l }
}

// book is that of the chapter's examples, changed.
func book(changes ...change) api.OfficeBook {
	b := api.OfficeBook{
		Days: 4, First: 28,
		Feasts: []api.OfficeFeast{feast(1, 2, 2), feast(1, 1, 1), feast(2, 2, 1)},
		Uses: [2]api.OfficeUse{
			{Rules: []api.OfficeRule{rule(1, 2, api.OfficeNext), rule(1, 1, api.OfficeToo)}},
			{Rules: []api.OfficeRule{rule(1, 2, api.OfficeToo)}, Goes: true},
		},
	}
	for _, c := range changes {
		c(&b)
	}
	return b
}

var (
	heard = notes(note(0, 3, 2))
	torn  = notes(note(0, 3, 2), note(1, 1, 0))
)

// invalid are changes that each make the book of the examples a wrong one.
var invalid = map[string]change{
	"no day":                func(b *api.OfficeBook) { *b = api.OfficeBook{} },
	"too many days":         days(api.OfficeDays + 1),
	"negative days":         days(-1),
	"portion too great":     first(api.OfficeRound),
	"portion negative":      first(-1),
	"too many feasts":       feasts(make([]api.OfficeFeast, api.OfficeFeasts+1)...),
	"feast before":          feasts(feast(-1, 0, 0)),
	"feast after":           feasts(feast(3, 4, 0)),
	"feast ends first":      feasts(feast(2, 1, 0)),
	"feast too wide":        func(b *api.OfficeBook) { b.Days, b.Feasts[0].Day = 5, span(0, 4) },
	"feast of all numbers":  feasts(feast(math.MinInt, math.MaxInt, 0)),
	"rank negative":         feasts(feast(0, 0, -1)),
	"rank too great":        feasts(feast(0, 0, api.OfficeRanks)),
	"too many rules":        rules(1, make([]api.OfficeRule, api.OfficeRules+1)...),
	"rule's rank negative":  rules(0, rule(-1, 0, 0)),
	"rule's rank too great": rules(1, rule(api.OfficeRanks, 0, 0)),
	"rule's to negative":    rules(1, rule(0, -1, 0)),
	"rule's to too great":   rules(0, rule(0, api.OfficeRanks, 0)),
	"rule does -1":          rules(0, rule(0, 0, -1)),
	"rule does 3":           rules(1, rule(0, 0, 3)),
	"too many notes":        notes(make([]api.OfficeNote, api.OfficeNotes+1)...),
	"note's use negative":   notes(note(-1, 0, 0)),
	"note's use 2":          notes(note(2, 0, 0)),
	"note's day negative":   notes(note(0, -1, 0)),
	"note's day after":      notes(note(0, 4, 0)),
	"note's feast -2":       notes(note(0, 0, -2)),
	"note's feast 3":        notes(note(0, 0, 3)),
}

// valid are changes to the limits of what a book can be.
var valid = map[string]change{
	"one day":        func(b *api.OfficeBook) { *b = api.OfficeBook{Days: 1} },
	"all days":       days(api.OfficeDays),
	"last portion":   first(api.OfficeRound - 1),
	"all feasts":     feasts(make([]api.OfficeFeast, api.OfficeFeasts)...),
	"widest feast":   feasts(feast(0, 3, 3)),
	"last feast":     feasts(feast(3, 3, 3)),
	"all rules":      rules(1, make([]api.OfficeRule, api.OfficeRules)...),
	"greatest rule":  rules(1, rule(3, 3, api.OfficeToo)),
	"all notes":      notes(note(0, 0, -1), note(1, 3, 2), note(0, 0, 0), note(0, 0, 0)),
	"empty lists":    func(b *api.OfficeBook) { b.Feasts, b.Notes = []api.OfficeFeast{}, []api.OfficeNote{} },
	"false as it is": torn,
}

// P1.1
func TestCheck(t *testing.T) {
	for name, c := range valid {
		if e := office.Check(book(c)); e != api.OK {
			t.Errorf("%s: %d", name, e)
		}
	}
	for name, c := range invalid {
		b := book(c)
		// What is asked is wrong, too: the error of the book comes first.
		errors := []api.Errno{office.Check(b)}
		is, e := office.Right(b)
		errors = append(errors, e)
		day, e := office.Day(b, -1)
		errors = append(errors, e)
		chiefs, e := office.Chief(b, 2, 9)
		errors = append(errors, e)
		falls, e := office.Falls(b, -1, 9)
		errors = append(errors, e)
		kept, e := office.Kept(b, -1, 9)
		errors = append(errors, e)
		psalms, e := office.Psalm(b, 2, 9)
		errors = append(errors, e)
		agree, e := office.Agree(b, 9)
		errors = append(errors, e)
		d, p, q, e := office.Part(b)
		errors = append(errors, e)
		fits, e := office.Fits(b, note(2, 9, 9))
		errors = append(errors, e)
		wrong, e := office.Wrong(b)
		errors = append(errors, e)
		for i, e := range errors {
			if e != api.ErrOffice {
				t.Errorf("%s: call %d: %d", name, i, e)
			}
		}
		if is || fits || day != falls || day != (api.Span{}) || len(chiefs)+len(psalms)+len(wrong) != 0 || kept != 0 || agree != 0 || d != 0 || p != 0 || q != 0 {
			t.Errorf("%s: a result beside the error", name)
		}
	}
}

// P1.1
func TestRight(t *testing.T) {
	for i, x := range []struct {
		b    api.OfficeBook
		want bool
	}{
		{book(), true},
		{book(heard), true},
		{book(torn), false},
		{book(notes(note(0, 0, -1))), true},
		{book(notes(note(0, 0, 0))), false},
		{book(notes(note(0, 1, -1))), false},
		{book(feasts()), true},
		{book(feasts(), notes(note(1, 3, -1))), true},
		{book(notes(note(0, 1, 0), note(0, 1, 1))), false},
	} {
		if is, e := office.Right(x.b); is != x.want || e != api.OK {
			t.Errorf("Right %d: %v, %d", i, is, e)
		}
	}
}

// P1.2
func TestDay(t *testing.T) {
	for i, x := range []struct {
		b     api.OfficeBook
		feast int
		want  api.Span
		e     api.Errno
	}{
		{book(), 0, span(1, 2), api.OK},
		{book(), 2, span(2, 2), api.OK},
		{book(heard), 0, span(2, 2), api.OK},
		{book(notes(note(1, 1, 0))), 0, span(1, 1), api.OK},
		{book(feasts(feast(0, 3, 0)), notes(note(0, 0, -1), note(1, 3, -1))), 0, span(1, 2), api.OK},
		{book(), 3, api.Span{}, api.ErrOfficeAsk},
		{book(), -1, api.Span{}, api.ErrOfficeAsk},
		{book(feasts()), 0, api.Span{}, api.ErrOfficeAsk},
		{book(torn), 3, api.Span{}, api.ErrOfficeAsk},
		{book(torn), 0, api.Span{}, api.ErrOfficeFalse},
	} {
		if s, e := office.Day(x.b, x.feast); s != x.want || e != x.e {
			t.Errorf("Day %d: %v, %d", i, s, e)
		}
	}
}

// asked is a call of Chief or Psalm, and what it returns.
type asked struct {
	b        api.OfficeBook
	use, day int
	want     []int
	e        api.Errno
}

// wrongAsked are the errors that Chief and Psalm share.
var wrongAsked = []asked{
	{book(), -1, 0, nil, api.ErrOfficeAsk},
	{book(), 2, 0, nil, api.ErrOfficeAsk},
	{book(), 0, -1, nil, api.ErrOfficeAsk},
	{book(), 1, 4, nil, api.ErrOfficeAsk},
	{book(torn), 1, 4, nil, api.ErrOfficeAsk},
	{book(torn), 1, 3, nil, api.ErrOfficeFalse},
}

// P1.2
func TestChief(t *testing.T) {
	equal := feasts(feast(0, 0, 1), feast(0, 0, 1), feast(0, 0, 1))
	for i, x := range append(wrongAsked[:len(wrongAsked):len(wrongAsked)], []asked{
		{book(), 0, 0, []int{-1}, api.OK},
		{book(), 0, 1, []int{0, 1}, api.OK},
		{book(), 0, 2, []int{0, 1}, api.OK},
		{book(), 0, 3, []int{-1, 2}, api.OK},
		{book(), 1, 2, []int{0, 2}, api.OK},
		{book(heard), 0, 1, []int{1}, api.OK},
		// Of the same rank the greater number yields, and each goes on to the next day.
		{book(equal, rules(0, rule(1, 1, api.OfficeNext))), 0, 0, []int{0}, api.OK},
		{book(equal, rules(0, rule(1, 1, api.OfficeNext))), 0, 1, []int{1}, api.OK},
		{book(equal, rules(0, rule(1, 1, api.OfficeNext))), 0, 2, []int{2}, api.OK},
		// One that was moved comes among the others in the order of numbers.
		{book(feasts(feast(0, 0, 1), feast(0, 0, 1), feast(1, 1, 1)), rules(0, rule(1, 1, api.OfficeNext))), 0, 1, []int{1}, api.OK},
		// The first rule counts, not the one that says more.
		{book(equal, rules(0, rule(1, 1, api.OfficeOut), rule(1, 1, api.OfficeNext))), 0, 1, []int{-1}, api.OK},
		// A rule is for the feast that yields and the other one, not the other way round.
		{book(rules(0, rule(2, 1, api.OfficeNext))), 0, 3, []int{-1}, api.OK},
	}...) {
		if l, e := office.Chief(x.b, x.use, x.day); !slices.Equal(l, x.want) || e != x.e {
			t.Errorf("Chief %d: %v, %d", i, l, e)
		}
	}
}

// P1.3
func TestFallsAndKept(t *testing.T) {
	last := book(days(1), feasts(feast(0, 0, 1), feast(0, 0, 2)))
	for i, x := range []struct {
		b          api.OfficeBook
		use, feast int
		falls      api.Span
		e          api.Errno
		kept       int
		f          api.Errno
	}{
		{book(), 0, 1, span(1, 2), api.OK, 2, api.OK},
		{book(), 0, 2, span(2, 3), api.OK, 2, api.OK},
		{book(), 1, 2, span(2, 2), api.OK, 2, api.OK},
		{book(heard), 0, 2, span(3, 3), api.OK, 2, api.OK},
		// Without a rule a feast that yields is left out.
		{book(rules(0)), 0, 1, span(1, 1), api.OK, 1, api.OK},
		{book(rules(0)), 0, 0, span(1, 2), api.OK, 2, api.OK},
		// By rule 0 of each use: moved where there is no next day, and sung, too.
		{last, 0, 0, api.Span{}, api.ErrNone, 0, api.OK},
		{last, 1, 0, span(0, 0), api.OK, 2, api.OK},
		{last, 0, 1, span(0, 0), api.OK, 2, api.OK},
		// After the last day that a season can have there is no next one, either.
		{book(days(api.OfficeDays), feasts(feast(5, 5, 1), feast(5, 5, 2))), 0, 0, api.Span{}, api.ErrNone, 0, api.OK},
		{book(days(api.OfficeDays), feasts(feast(4, 4, 1), feast(4, 4, 2))), 0, 0, span(5, 5), api.OK, 2, api.OK},
		{book(), 2, 0, api.Span{}, api.ErrOfficeAsk, 0, api.ErrOfficeAsk},
		{book(), -1, 0, api.Span{}, api.ErrOfficeAsk, 0, api.ErrOfficeAsk},
		{book(), 0, 3, api.Span{}, api.ErrOfficeAsk, 0, api.ErrOfficeAsk},
		{book(torn), 0, -1, api.Span{}, api.ErrOfficeAsk, 0, api.ErrOfficeAsk},
		{book(torn), 0, 0, api.Span{}, api.ErrOfficeFalse, 0, api.ErrOfficeFalse},
	} {
		if s, e := office.Falls(x.b, x.use, x.feast); s != x.falls || e != x.e {
			t.Errorf("Falls %d: %v, %d", i, s, e)
		}
		if n, e := office.Kept(x.b, x.use, x.feast); n != x.kept || e != x.f {
			t.Errorf("Kept %d: %d, %d", i, n, e)
		}
	}
}

// P1.4
func TestPsalm(t *testing.T) {
	for i, x := range append(wrongAsked[:len(wrongAsked):len(wrongAsked)], []asked{
		{book(), 0, 0, []int{28}, api.OK},
		{book(), 0, 1, []int{-1}, api.OK},
		{book(), 0, 3, []int{-1, 1}, api.OK},
		{book(), 1, 3, []int{29}, api.OK},
		// After the portion 29 comes the portion 0.
		{book(feasts()), 0, 1, []int{29}, api.OK},
		{book(feasts()), 0, 2, []int{0}, api.OK},
		{book(feasts()), 1, 2, []int{0}, api.OK},
		// On the day of a chief feast of rank 0 they are sung.
		{book(feasts(feast(1, 1, 0))), 0, 1, []int{29}, api.OK},
		{book(feasts(feast(1, 1, 1))), 0, 1, []int{-1}, api.OK},
		// They go on where they stopped by the use 1 alone.
		{book(feasts(feast(0, 1, 1))), 0, 2, []int{0}, api.OK},
		{book(feasts(feast(0, 1, 1))), 1, 2, []int{29}, api.OK},
		{book(feasts(feast(0, 1, 1))), 1, 1, []int{-1, 28}, api.OK},
		{book(feasts(feast(0, 2, 1))), 1, 1, []int{-1, 28, 29}, api.OK},
	}...) {
		if l, e := office.Psalm(x.b, x.use, x.day); !slices.Equal(l, x.want) || e != x.e {
			t.Errorf("Psalm %d: %v, %d", i, l, e)
		}
	}
}

// P1.5
func TestAgree(t *testing.T) {
	two := feasts(feast(0, 0, 1), feast(0, 0, 2))
	for i, x := range []struct {
		b    api.OfficeBook
		day  int
		want int
		e    api.Errno
	}{
		{book(), 0, 2, api.OK},
		{book(), 1, 1, api.OK},
		{book(), 2, 0, api.OK},
		{book(), 3, 1, api.OK},
		{book(heard), 1, 2, api.OK},
		{book(heard), 3, 0, api.OK},
		{book(feasts()), 3, 2, api.OK},
		// The chief one is the same, but not what else is sung.
		{book(two), 0, 0, api.OK},
		{book(two, rules(1, rule(1, 2, api.OfficeOut))), 0, 2, api.OK},
		// The portions of the psalms do not count.
		{book(feasts(feast(0, 0, 1))), 1, 2, api.OK},
		// One feast is sung on the day 1 by each use, but not the same one.
		{book(feasts(feast(0, 0, 1), feast(0, 0, 2), feast(0, 0, 0)), rules(0, rule(1, 2, api.OfficeToo), rule(0, 2, api.OfficeNext)), rules(1, rule(1, 2, api.OfficeNext), rule(0, 2, api.OfficeToo))), 1, 0, api.OK},
		{book(), 4, 0, api.ErrOfficeAsk},
		{book(), -1, 0, api.ErrOfficeAsk},
		{book(torn), -1, 0, api.ErrOfficeAsk},
		{book(torn), 0, 0, api.ErrOfficeFalse},
	} {
		if n, e := office.Agree(x.b, x.day); n != x.want || e != x.e {
			t.Errorf("Agree %d: %d, %d", i, n, e)
		}
	}
}

// P1.6
func TestPart(t *testing.T) {
	for i, x := range []struct {
		b                api.OfficeBook
		day, rule, other int
		e                api.Errno
	}{
		{book(), 1, 0, 0, api.OK},
		{book(heard), 2, 0, 0, api.OK},
		{book(rules(0)), 1, -1, 0, api.OK},
		{book(rules(1)), 1, 0, -1, api.OK},
		// Rules of other numbers that say the same, and no rule against one that leaves out.
		{book(rules(1, rule(0, 0, api.OfficeOut), rule(1, 2, api.OfficeNext), rule(1, 1, api.OfficeToo))), 0, 0, 0, api.ErrNone},
		{book(rules(0), rules(1, rule(1, 2, api.OfficeOut))), 0, 0, 0, api.ErrNone},
		// The first feast that yields decides, not the first rule.
		{book(feasts(feast(0, 0, 3), feast(0, 0, 2), feast(0, 0, 1)), rules(0, rule(1, 3, api.OfficeToo), rule(2, 3, api.OfficeToo)), rules(1)), 0, 1, -1, api.OK},
		// Of two truths that part on the same day the one with the lesser rules counts, though it is the later one.
		{book(days(2), feasts(feast(0, 0, 2), feast(0, 1, 1), feast(0, 0, 0)), rules(0, rule(0, 2, api.OfficeToo), rule(1, 2, api.OfficeToo)), rules(1)), 0, 0, -1, api.OK},
		// The rule says that it is moved, though there is no next day.
		{book(days(1), feasts(feast(0, 0, 1), feast(0, 0, 2)), rules(1)), 0, 0, -1, api.OK},
		{book(feasts()), 0, 0, 0, api.ErrNone},
		{book(torn), 0, 0, 0, api.ErrOfficeFalse},
	} {
		if d, p, q, e := office.Part(x.b); d != x.day || p != x.rule || q != x.other || e != x.e {
			t.Errorf("Part %d: %d, %d, %d, %d", i, d, p, q, e)
		}
	}
}

// P1.7
func TestFits(t *testing.T) {
	full := notes(slices.Repeat([]api.OfficeNote{note(0, 0, -1)}, api.OfficeNotes)...)
	for i, x := range []struct {
		b    api.OfficeBook
		note api.OfficeNote
		want bool
		e    api.Errno
	}{
		{book(), note(0, 2, 2), false, api.OK},
		{book(), note(1, 2, 2), true, api.OK},
		{book(), note(0, 3, -1), true, api.OK},
		{book(heard), note(0, 3, -1), false, api.OK},
		{book(heard), note(0, 3, 2), true, api.OK},
		{book(full), note(0, 1, 0), true, api.OK},
		{book(full), note(0, 0, 0), false, api.OK},
		{book(), note(2, 0, 0), false, api.ErrOfficeAsk},
		{book(), note(0, 4, 0), false, api.ErrOfficeAsk},
		{book(), note(0, 0, 3), false, api.ErrOfficeAsk},
		{book(torn), note(0, 0, -2), false, api.ErrOfficeAsk},
		{book(torn), note(0, 0, -1), false, api.ErrOfficeFalse},
	} {
		if is, e := office.Fits(x.b, x.note); is != x.want || e != x.e {
			t.Errorf("Fits %d: %v, %d", i, is, e)
		}
	}
}

// P1.8
func TestWrong(t *testing.T) {
	for i, x := range []struct {
		b    api.OfficeBook
		want []int
	}{
		{book(), nil},
		{book(heard), nil},
		{book(torn), []int{0}},
		// The note 1 alone stands against both others.
		{book(notes(note(0, 3, 2), note(1, 1, 0), note(0, 2, 0))), []int{1}},
		{book(notes(note(0, 0, 0), note(0, 3, 2), note(0, 0, 1))), []int{0, 2}},
		{book(notes(note(0, 0, 0), note(1, 0, 0), note(0, 0, 1), note(1, 0, 1))), []int{0, 1, 2, 3}},
		// One note is fewer than two, though the numbers of the two are less.
		{book(notes(note(0, 2, 0), note(0, 3, 2), note(1, 1, 0))), []int{2}},
		{book(notes(note(0, 3, 2), note(0, 3, -1), note(0, 3, 2), note(0, 3, -1))), []int{0, 2}},
	} {
		if l, e := office.Wrong(x.b); !slices.Equal(l, x.want) || e != api.OK {
			t.Errorf("Wrong %d: %v, %d", i, l, e)
		}
	}
}

// P1.9
func TestMemory(t *testing.T) {
	spare := make([]api.OfficeNote, 1, api.OfficeNotes)
	spare[0] = note(0, 3, 2)
	b := book(notes(spare...))
	office.Fits(b, note(1, 1, 0))
	office.Wrong(b)
	if spare[:2][1] != (api.OfficeNote{}) {
		t.Error("Fits wrote behind the notes")
	}
	for name, call := range map[string]func() []int{
		"Chief": func() []int { l, _ := office.Chief(book(), 0, 1); return l },
		"Psalm": func() []int { l, _ := office.Psalm(book(), 0, 3); return l },
		"Wrong": func() []int { l, _ := office.Wrong(book(torn)); return l },
	} {
		one := call()
		want := slices.Clone(one)
		for i := range one {
			one[i] = 77
		}
		if !slices.Equal(call(), want) {
			t.Errorf("%s: two results share memory", name)
		}
	}
}
