package precentor_test

import (
	"math"
	"reflect"
	"slices"
	"strings"
	"testing"

	"decani/api"
	"decani/precentor"
)

func span(low, high int) api.Span { return api.Span{Low: low, High: high} }

func just(n int) api.Span { return span(n, n) }

type change func(s *api.PrecentorSetup)

// setup is that of the chapter's examples, changed.
func setup(changes ...change) api.PrecentorSetup {
	s := api.PrecentorSetup{
		Names: []string{"al", "bo"},
		Voice: api.VoiceBook{
			Boys: []api.VoiceBoy{
				{Low: span(5, 6), High: span(20, 21), Gain: span(1, 2), Turn: span(2, 3), Loss: 1, Break: span(3, 5)},
				{Low: just(8), High: just(18), Gain: span(0, 1), Turn: just(1), Break: span(6, 7)},
			},
			Weeks: 4,
		},
		Cold: api.ColdBook{Beds: 2, Days: 5, Begins: 0b11, Takes: [2]api.Span{span(1, 2), just(1)}, Rooms: 2},
		Part: api.PartBook{Notes: 3, Voices: []api.Span{span(0, 2), span(3, 5)}, Step: 1, Chords: 0b11100, Perfect: 0b10000},
		Candle: api.CandleBook{
			Stock: [2]api.Span{span(10, 11), just(30)},
			Life:  [2]api.Span{span(2, 3), just(4)},
			Days: []api.CandleDay{
				{Hours: 4, Dark: span(3, 4), Lights: [2]int{2, 6}},
				{Hours: 3, Dark: just(5), Lights: [2]int{2, 6}},
				{Hours: 6, Dark: span(4, 6), Lights: [2]int{4, 6}},
			},
			Orders: []api.CandleOrder{{Day: 2, Kind: 0, Many: 4}},
		},
	}
	for _, c := range changes {
		c(&s)
	}
	return s
}

func names(l ...string) change {
	return func(s *api.PrecentorSetup) { s.Names = slices.Clone(l) }
}

// boys are as many as the names, all of them like the second one of the examples, each in a bed.
func boys(names ...string) change {
	return func(s *api.PrecentorSetup) {
		s.Names, s.Voice.Boys, s.Cold.Beds = slices.Clone(names), slices.Repeat(s.Voice.Boys[1:2], len(names)), len(names)
		s.Cold.Begins = 1
	}
}

// invalid are changes that each make the setup of the examples a wrong one.
var invalid = map[string]change{
	"nothing":            func(s *api.PrecentorSetup) { *s = api.PrecentorSetup{} },
	"no voices":          func(s *api.PrecentorSetup) { s.Voice = api.VoiceBook{} },
	"no cold":            func(s *api.PrecentorSetup) { s.Cold = api.ColdBook{} },
	"no piece":           func(s *api.PrecentorSetup) { s.Part = api.PartBook{} },
	"no candles":         func(s *api.PrecentorSetup) { s.Candle = api.CandleBook{} },
	"wrong voice":        func(s *api.PrecentorSetup) { s.Voice.Boys[1].Low = span(9, 8) },
	"wrong weeks":        func(s *api.PrecentorSetup) { s.Voice.Weeks = math.MaxInt },
	"wrong days of cold": func(s *api.PrecentorSetup) { s.Cold.Days = 7 },
	"wrong move":         func(s *api.PrecentorSetup) { s.Cold.Moves = []api.ColdMove{{Bed: 2, Day: 1}} },
	"wrong step":         func(s *api.PrecentorSetup) { s.Part.Step = -1 },
	"wrong day":          func(s *api.PrecentorSetup) { s.Candle.Days[0].Hours = 7 },
	"wrong order":        func(s *api.PrecentorSetup) { s.Candle.Orders[0].Day = 3 },
	"a trial":            func(s *api.PrecentorSetup) { s.Voice.Trials = []api.VoiceTrial{{Boy: 0, Week: 0, Note: 10, Sang: 1}} },
	"a hearing":          func(s *api.PrecentorSetup) { s.Cold.Heard = []api.ColdHeard{{Bed: 0, Day: 0}} },
	"a copy":             func(s *api.PrecentorSetup) { s.Part.Copies = []api.PartCopy{{Voice: 0, Notes: []int{0, 1, 2}}} },
	"a count":            func(s *api.PrecentorSetup) { s.Candle.Counts = []api.CandleCount{{Day: 0, Kind: 0, Left: 8}} },
	"no way":             func(s *api.PrecentorSetup) { s.Part.Chords = 0 },
	"no way after a way": func(s *api.PrecentorSetup) { s.Part.Voices = append(s.Part.Voices, just(12)) },
	"no names":           names(),
	"fewer names":        names("al"),
	"more names":         names("al", "bo", "cy"),
	"fewer boys":         func(s *api.PrecentorSetup) { s.Voice.Boys = s.Voice.Boys[:1] },
	"fewer beds":         func(s *api.PrecentorSetup) { s.Cold.Beds, s.Cold.Begins = 1, 1 },
	"more beds":          func(s *api.PrecentorSetup) { s.Cold.Beds = 3 },
	"as many names as beds, fewer boys": func(s *api.PrecentorSetup) {
		s.Names, s.Cold.Beds = []string{"al", "bo", "cy"}, 3
	},
	"as many names as boys, more beds": func(s *api.PrecentorSetup) {
		boys("al", "bo", "cy", "di")(s)
		s.Cold.Beds = 5
	},
	"five boys":         boys("al", "bo", "cy", "di", "ed"),
	"a name twice":      names("al", "al"),
	"a name twice late": boys("al", "bo", "cy", "bo"),
	"an empty name":     names("al", ""),
	"a long name":       names("al", strings.Repeat("b", api.MaxName+1)),
	"a digit first":     names("1al", "bo"),
	"a capital":         names("al", "Bo"),
	"a later capital":   names("al", "bO"),
	"a space":           names("a l", "bo"),
	"a hyphen":          names("al", "bo-"),
	"a brace":           names("al", "b{"),
	"a backquote":       names("`", "bo"),
	"a colon":           names("al", "b:"),
	"a slash":           names("a/", "bo"),
	"a line feed":       names("al", "bo\n"),
	"another letter":    names("al", "bö"),
	"no text":           names("al", "b\xff"),
}

// valid are changes to the limits of what a setup can be.
var valid = map[string]change{
	"as it is":      func(*api.PrecentorSetup) {},
	"one boy":       boys("a"),
	"four boys":     boys("al", "bo", "cy", "di"),
	"letters":       names("azbycxdwevfu", "gthsirjqkplo"),
	"digits":        names("a0123456789z", "m"),
	"nearly alike":  names("al", "al2"),
	"empty lists":   emptyLists,
	"no orders":     func(s *api.PrecentorSetup) { s.Candle.Orders = nil },
	"all moved":     func(s *api.PrecentorSetup) { s.Cold.Moves = []api.ColdMove{{Bed: 0, Day: 1}, {Bed: 1, Day: 1}} },
	"just one way":  func(s *api.PrecentorSetup) { s.Part.Voices = []api.Span{just(0), just(4)} },
	"less than low": func(s *api.PrecentorSetup) { s.Voice.Boys[0].High = just(0) },
	"no candles":    func(s *api.PrecentorSetup) { s.Candle.Stock = [2]api.Span{} },
}

func emptyLists(s *api.PrecentorSetup) {
	s.Voice.Trials = make([]api.VoiceTrial, 0, 9)
	s.Cold.Moves, s.Cold.Heard = []api.ColdMove{}, make([]api.ColdHeard, 0, 9)
	s.Part.Copies, s.Candle.Counts = make([]api.PartCopy, 0, 9), make([]api.CandleCount, 0, 9)
}

// P11.1, P11.4
func TestCheck(t *testing.T) {
	for name, c := range valid {
		if e := precentor.Check(setup(c)); e != api.OK {
			t.Errorf("Check %s: %d", name, e)
		}
		if p, e := precentor.New(setup(c)); p == nil || e != api.OK {
			t.Errorf("New %s: %v, %d", name, p, e)
		}
		if p, n, e := precentor.Open(setup(c), ""); p == nil || n != 0 || e != api.OK {
			t.Errorf("Open %s: %v, %d, %d", name, p, n, e)
		}
	}
	for name, c := range invalid {
		s := setup(c)
		if e := precentor.Check(s); e != api.ErrPrecentor {
			t.Errorf("Check %s: %d", name, e)
		}
		if p, e := precentor.New(s); p != nil || e != api.ErrPrecentor {
			t.Errorf("New %s: %v, %d", name, p, e)
		}
		// The file is wrong, too: the error of the setup comes first.
		for _, file := range []string{"", "ways\n", "x", strings.Repeat("x", api.MaxText+1)} {
			if p, n, e := precentor.Open(s, file); p != nil || n != 0 || e != api.ErrPrecentor {
				t.Errorf("Open %s: %v, %d, %d", name, p, n, e)
			}
		}
	}
}

// newOne is a new precentor.
func newOne(t *testing.T, changes ...change) *precentor.Precentor {
	t.Helper()
	p, e := precentor.New(setup(changes...))
	if p == nil || e != api.OK {
		t.Fatalf("New: %v, %d", p, e)
	}
	return p
}

// does are a line and what is answered, or its error.
type does struct {
	line, answer string
	e            api.Errno
}

// testLines does lines, one after the other.
func testLines(t *testing.T, p *precentor.Precentor, lines []does) {
	t.Helper()
	for _, x := range lines {
		if answer, e := p.Do(x.line); answer != x.answer || e != x.e {
			t.Errorf("%q: %q, %d, not %q, %d", x.line, answer, e, x.answer, x.e)
		}
	}
}

// The section Examples of the chapter, and P11.3.
func TestExamples(t *testing.T) {
	p := newOne(t)
	testLines(t, p, []does{
		{"failed al 3 15", "3 3", api.OK},
		{"sang al 3 20", "", api.ErrPrecentorFalse},
		{"sang al 9 0", "", api.ErrRange},
		{"sang cy 0 0", "", api.ErrPrecentorUnknown},
		{"highest al 3", "", api.ErrNone},
		{"highest bo 3", "18 19", api.OK},
		{"must 3", "0", api.OK},
		{"heir al 3 10 18", "1", api.OK},
		{"lowest al", "5 6", api.OK},
		{"sings bo 3 18", "2", api.OK},
		{"surely 0 18", "0 1", api.OK},
		{"cough al 1", "0", api.OK},
		{"cough bo 1", "", api.ErrPrecentorFalse},
		{"still bo 1", "0", api.OK},
		{"caught bo", "1 1", api.OK},
		{"ill bo 0", "0", api.OK},
		{"coughs bo 2", "2", api.OK},
		{"clean", "-", api.OK},
		{"apart 1", "0", api.OK},
		{"ways", "163", api.OK},
		{"look", "0 0", api.OK},
		{"copy 0 0 1 2", "6", api.OK},
		{"copy 0 0 1 1", "", api.ErrPrecentorFalse},
		{"copy 2 0 0 0", "", api.ErrRange},
		{"copy 0 0 1", "", api.ErrPrecentorLine},
		{"notes 1 2", "4 5", api.OK},
		{"line 0", "0 1 2", api.OK},
		{"line 1", "", api.ErrNone},
		{"first", "1 0", api.OK},
		{"count 0 0 8 0", "8 8", api.OK},
		{"count 0 1 3 0", "", api.ErrPrecentorFalse},
		{"left 0 2", "2 2", api.OK},
		{"life 0", "3 3", api.OK},
		{"dark 2", "4 6", api.OK},
		{"short 0", "", api.ErrNone},
		{"buy 0 2", "0", api.OK},
	})
	testKept(t, p, keeps{
		[]api.VoiceTrial{{Boy: 0, Week: 3, Note: 15, Sang: 0}},
		[]api.ColdHeard{{Bed: 0, Day: 1, Cough: true}, {Bed: 1, Day: 1}},
		[]api.PartCopy{{Voice: 0, Notes: []int{0, 1, 2}}},
		[]api.CandleCount{{Day: 0, Kind: 0, Left: 8}},
		[]string{"failed al 3 15", "cough al 1", "still bo 1", "copy 0 0 1 2", "count 0 0 8 0"},
	})
}

// keeps is what a precentor returns of what was told.
type keeps struct {
	trials  []api.VoiceTrial
	heard   []api.ColdHeard
	copies  []api.PartCopy
	counts  []api.CandleCount
	journal []string
}

// keptBy is what a precentor keeps, each list without its memory.
func keptBy(p *precentor.Precentor) keeps {
	return keeps{
		append([]api.VoiceTrial(nil), p.Trials()...),
		append([]api.ColdHeard(nil), p.Heard()...),
		append([]api.PartCopy(nil), p.Copies()...),
		append([]api.CandleCount(nil), p.Counts()...),
		append([]string(nil), p.Journal()...),
	}
}

func testKept(t *testing.T, p *precentor.Precentor, want keeps) {
	t.Helper()
	if k := keptBy(p); !reflect.DeepEqual(k, want) {
		t.Errorf("kept: %+v, not %+v", k, want)
	}
	file := ""
	for _, line := range want.journal {
		file += line + "\n"
	}
	if f := p.File(); f != file {
		t.Errorf("File: %q, not %q", f, file)
	}
}

// P11.2: the lines that the examples do not have.
func TestAnswers(t *testing.T) {
	p := newOne(t)
	testLines(t, p, []does{
		{"breaks al", "3 5", api.OK},
		{"breaks bo", "6 7", api.OK},
		{"lowest bo", "8 8", api.OK},
		{"highest al 2", "22 25", api.OK},
		{"highest al 3", "21 27", api.OK},
		{"sings al 0 20", "2", api.OK},
		{"sings al 0 21", "1", api.OK},
		{"sings al 0 22", "0", api.OK},
		{"surely 3 18", "1", api.OK},
		{"surely 0 40", "-", api.OK},
		{"must 0", "-", api.OK},
		{"heir bo 0 10 18", "0", api.OK},
		{"heir bo 3 18 18", "", api.ErrNone},
		{"ill al 0", "1", api.OK},
		{"ill al 1", "2", api.OK},
		{"coughs bo 0", "0", api.OK},
		{"caught al", "0 1", api.OK},
		{"from", "0 1", api.OK},
		{"clean", "-", api.OK},
		{"apart 2", "-", api.OK},
		{"notes 0 0", "0 1 2", api.OK},
		{"first", "0 0", api.OK},
		{"left 0 0", "6 9", api.OK},
		{"left 0 2", "-6 3", api.OK},
		{"left 1 2", "6 12", api.OK},
		{"life 1", "4 4", api.OK},
		{"dark 1", "5 5", api.OK},
		{"short 0", "2", api.OK},
		{"short 1", "", api.ErrNone},
		{"buy 0 2", "6", api.OK},
		{"buy 1 0", "0", api.OK},
	})
	testKept(t, p, keeps{})
}

// P11.2: whatever a line tells, the answer is of what is known afterwards.
func TestAnswersToWhatIsTold(t *testing.T) {
	testLines(t, newOne(t), []does{
		{"sang bo 3 19", "6 7", api.OK},
		{"highest bo 3", "19 19", api.OK},
		{"sang al 3 20", "4 5", api.OK},
		{"failed al 0 5", "4 5", api.OK},
		{"lowest al", "6 6", api.OK},
		{"still bo 1", "0 1", api.OK},
		{"cough al 1", "0", api.OK},
		{"copy 1 5 5 5", "8", api.OK},
		{"notes 0 0", "1 2", api.OK},
		{"count 1 2 10 2", "12 12", api.OK},
		{"dark 2", "4 4", api.OK},
		{"count 0 2 3 3", "0 3", api.OK},
		{"left 0 2", "0 3", api.OK},
	})
}

// P11.2: texts that are no lines. Whoever is named in them is not looked for.
func TestNoLines(t *testing.T) {
	long := "breaks " + strings.Repeat("x", api.PrecentorLine-7)
	p := newOne(t)
	testLines(t, p, []does{{long, "", api.ErrPrecentorUnknown}})
	for _, line := range []string{
		"", " ", "\n", "from\n", "from\nfrom", "\nfrom", "breaks a\nl", long + "x", strings.Repeat("x", 100000),
		// Words.
		"sing al 0 20", "Sang al 0 20", "SANG al 0 20", " sang al 0 20", "sangal 0 20", "sang\tal 0 20", "al sang 0 20", "sangs al 0 20", "san al 0 20",
		"fits", "wrong", "takes 0", "bar 0", "ask", "copies", "NAME", "-", "0",
		// Too few parts, and too many.
		"sang", "sang al", "sang al 0", "sang al 0 20 0", "failed al 0", "failed al 0 20 0", "cough", "cough al", "cough al 0 0", "still al", "still al 0 0",
		"copy", "copy 0", "copy 0 0 1", "copy 0 0 1 2 2", "count", "count 0 0 8", "count 0 0 8 0 0",
		"breaks", "breaks al 0", "lowest", "lowest al 0", "highest al", "highest al 0 0", "sings al 0", "sings al 0 0 0",
		"surely", "surely 0", "surely 0 0 0", "must", "must 0 0", "heir al 0 10", "heir al 0 10 18 0", "ill al", "ill al 0 0", "coughs al", "coughs al 0 0",
		"caught", "caught al 0", "from 0", "clean 0", "apart", "apart 1 1", "ways 0", "notes 0", "notes 0 0 0", "line", "line 0 0", "first 0", "look 0",
		"left 0", "left 0 0 0", "life", "life 0 0", "dark", "dark 0 0", "short", "short 0 0", "buy 0", "buy 0 0 0",
		// Spaces.
		"from ", "from  ", " from", "sang  al 0 20", "sang al  0 20", "sang al 0  20", "sang al 0 20 ", "breaks ", "breaks  ", "breaks al ", "must ", "must 0 ", "must  0", "must\t0", "must 0\t",
		"highest  3", "cough  0", "cough al ", "highest al ", "copy 0 0 1 2 ", "copy 0  0 1 2",
		// Numbers.
		"must x", "must 0x", "must x0", "must -1", "must +1", "must -0", "must 00", "must 01", "must 0000", "must 00000", "must 12345", "must 1.", "must 1e1", "must 1_0", "must \u0661", "must 0\r", "must \x00", "must /", "must :",
		"sang al x 20", "sang al 0 x", "sang al 0 020", "sang al 00 20", "sang al 0 10000", "sang 0 al 20", "cough al x", "copy 0 0 1 x", "copy x 0 1 2", "copy 0 x 1 2", "copy al 0 1 2", "count 0 0 -8 0", "count 0 0 8 00",
		"surely x 0", "surely 0 x", "heir al 0 10 x", "notes 0 01", "left 0 x", "buy x 0", "sang cy 0 x", "sang cy x 0", "breaks cy 0", "ill cy x",
	} {
		testLines(t, p, []does{{line, "", api.ErrPrecentorLine}})
	}
	testKept(t, p, keeps{})
}

// P11.2: a name is any text without spaces, until somebody is looked for who has it.
func TestNames(t *testing.T) {
	p := newOne(t)
	for _, name := range []string{
		"cy", "a", "all", "AL", "Al", "al\t", "\tal", "al\r", "0", "1", "-", "NAME", "al,bo", "\x00", "\xff\xfe", "ö", "al\u00a0bo", "\u2003", strings.Repeat("b", api.MaxName+1), strings.Repeat("z", 60),
	} {
		for _, line := range []string{
			"sang NAME 0 0", "failed NAME 0 0", "cough NAME 0", "still NAME 0", "breaks NAME", "lowest NAME", "highest NAME 0", "sings NAME 0 0", "heir NAME 0 0 0", "ill NAME 0", "coughs NAME 0", "caught NAME",
			// What is asked is wrong, too.
			"sang NAME 9 99", "cough NAME 9", "highest NAME 9", "sings NAME 9 99", "heir NAME 9 1 0", "ill NAME 9999",
		} {
			testLines(t, p, []does{{strings.Replace(line, "NAME", name, 1), "", api.ErrPrecentorUnknown}})
		}
	}
	p = newOne(t, boys("di", "cy", "a0123456789z", "bo"))
	testLines(t, p, []does{
		{"failed a0123456789z 0 18", "", api.ErrPrecentorFalse},
		{"failed cy 1 19", "6 7", api.OK},
		{"sang a0123456789z 1 19", "6 7", api.OK},
		{"still bo 3", "0", api.OK},
		{"surely 1 19", "2", api.OK},
		{"highest cy 3", "18 18", api.OK},
		{"highest di 3", "18 19", api.OK},
		{"heir a0123456789z 3 19 19", "", api.ErrNone},
		{"heir di 3 19 19", "2", api.OK},
		{"ill bo 3", "2", api.OK},
		{"caught a0123456789z", "2 2", api.OK},
		{"apart 1", "0", api.OK},
	})
}

// P11.2: numbers that are not between their limits, and what there is none of.
func TestRangeAndNone(t *testing.T) {
	p := newOne(t)
	for _, line := range []string{
		"sang al 4 0", "sang al 0 41", "failed bo 9999 0", "failed al 0 9999", "cough al 5", "still bo 9999",
		"copy 2 0 0 0", "copy 0 0 0 13", "copy 9999 9999 9999 9999", "count 2 0 0 0", "count 0 3 0 0", "count 0 0 301 0", "count 0 0 0 6", "count 9999 9999 9999 9999",
		"highest al 4", "sings al 4 0", "sings al 0 41", "surely 4 0", "surely 0 41", "must 4", "must 9999", "heir al 4 0 0", "heir al 0 0 41", "heir al 0 18 10",
		"ill al 5", "coughs bo 5", "apart 0", "apart 5", "notes 2 0", "notes 0 3", "line 2", "left 2 0", "left 0 3", "life 2", "dark 3", "short 2", "buy 2 0", "buy 0 3",
	} {
		testLines(t, p, []does{{line, "", api.ErrRange}})
	}
	testKept(t, p, keeps{})
	// Just between them.
	testLines(t, p, []does{
		{"failed al 3 40", "3 5", api.OK},
		{"failed al 0 0", "3 5", api.OK},
		{"still bo 0", "0 1", api.OK},
		{"cough bo 4", "0 1", api.OK},
		{"count 1 2 10 5", "6 12", api.OK},
		{"sings al 3 40", "0", api.OK},
		{"apart 4", "-", api.OK},
	})
	p = newOne(t, func(s *api.PrecentorSetup) {
		s.Cold.Rooms, s.Cold.Moves = 0, []api.ColdMove{{Bed: 1, Day: 1}}
		s.Part.Voices = []api.Span{just(0), just(4)}
		s.Cold.Begins = 1
	})
	for _, line := range []string{"caught bo", "first", "look", "short 1", "heir bo 3 18 18"} {
		testLines(t, p, []does{{line, "", api.ErrNone}})
	}
	testLines(t, p, []does{{"clean", "1", api.OK}, {"ways", "1", api.OK}, {"line 1", "4 4 4", api.OK}})
	p = newOne(t, func(s *api.PrecentorSetup) { s.Cold.Rooms = 0 })
	testLines(t, p, []does{{"apart 1", "", api.ErrNone}})
}

// fillings are by kind lines that can be told as often as a book has room, and one for which there would be room.
var fillings = []struct {
	line, wrong, false, unknown string
	most                        int
}{
	{"failed bo 0 30", "failed bo 4 30", "sang bo 0 30", "failed cy 0 30", api.VoiceTrials},
	{"still al 0", "still al 5", "cough al 0", "still cy 0", api.ColdHears},
	{"copy 0 0 0 0", "copy 0 0 0 13", "copy 0 3 3 3", "", api.PartCopies},
	{"count 0 1 5 5", "count 0 1 5 6", "count 0 1 300 5", "", api.CandleCounts},
}

// P11.2: ErrPrecentorUnknown comes before ErrRange, ErrRange before ErrFull, and ErrFull before ErrPrecentorFalse.
func TestFull(t *testing.T) {
	p := newOne(t)
	var journal []string
	for _, x := range fillings {
		for n := range x.most {
			testLines(t, p, []does{{x.false, "", api.ErrPrecentorFalse}, {x.wrong, "", api.ErrRange}})
			if answer, e := p.Do(x.line); answer == "" || e != api.OK {
				t.Errorf("%s, %d: %q, %d", x.line, n, answer, e)
			}
			journal = append(journal, x.line)
		}
		testLines(t, p, []does{{x.line, "", api.ErrFull}, {x.false, "", api.ErrFull}, {x.wrong, "", api.ErrRange}, {x.line + " ", "", api.ErrPrecentorLine}})
		if x.unknown != "" {
			testLines(t, p, []does{{x.unknown, "", api.ErrPrecentorUnknown}})
		}
		if l := p.Journal(); !slices.Equal(l, journal) {
			t.Errorf("Journal: %q", l)
		}
	}
	if len(p.Trials()) != api.VoiceTrials || len(p.Heard()) != api.ColdHears || len(p.Copies()) != api.PartCopies || len(p.Counts()) != api.CandleCounts {
		t.Errorf("kept: %+v", keptBy(p))
	}
	// Whoever is full answers still.
	testLines(t, p, []does{{"breaks bo", "6 7", api.OK}, {"from", "0 1", api.OK}, {"left 0 1", "2 7", api.OK}})
}

// P11.2: a precentor is false by what was told before, too, not only by the line alone.
func TestFalseBesides(t *testing.T) {
	p := newOne(t)
	testLines(t, p, []does{
		{"sang bo 3 19", "6 7", api.OK},
		{"failed bo 2 19", "", api.ErrPrecentorFalse},
		{"failed bo 0 19", "6 7", api.OK},
		{"cough bo 1", "1", api.OK},
		{"cough al 1", "", api.ErrPrecentorFalse},
		{"copy 1 3 4 5", "6", api.OK},
		{"copy 1 3 4 4", "", api.ErrPrecentorFalse},
		{"copy 0 0 0 0", "", api.ErrPrecentorFalse},
		{"count 1 1 18 5", "18 18", api.OK},
		{"count 1 1 12 5", "", api.ErrPrecentorFalse},
	})
	testLines(t, newOne(t), []does{{"failed bo 2 19", "6 7", api.OK}, {"cough al 1", "0", api.OK}, {"copy 1 3 4 4", "12", api.OK}})
}

// P11.2, P11.3: whom neither New nor Open returned.
func TestNoPrecentor(t *testing.T) {
	p := newOne(t)
	testLines(t, p, []does{{"failed al 3 15", "3 3", api.OK}, {"cough al 1", "0", api.OK}, {"copy 0 0 1 2", "6", api.OK}, {"count 0 0 8 0", "8 8", api.OK}})
	shown := *p
	for name, q := range map[string]*precentor.Precentor{"nil": nil, "empty": {}, "a copy": &shown} {
		for _, line := range []string{"from", "failed al 3 15", "still bo 1", "sang cy 0 0", "", "x", "\n", "must 9", strings.Repeat("x", 100)} {
			if answer, e := q.Do(line); answer != "" || e != api.ErrNil {
				t.Errorf("%s, %q: %q, %d", name, line, answer, e)
			}
		}
		testKept(t, q, keeps{})
	}
	if n := len(p.Journal()); n != 4 {
		t.Errorf("Journal: %d lines", n)
	}
}

// P11.4
func TestOpen(t *testing.T) {
	most := ""
	for _, x := range fillings {
		most += strings.Repeat(x.line+"\n", x.most)
	}
	for _, x := range []struct {
		file string
		n    int
		e    api.Errno
	}{
		{"", 0, api.OK},
		{"failed al 3 15\n", 1, api.OK},
		{"failed al 3 15\ncough al 1\nstill bo 1\ncopy 0 0 1 2\ncount 0 0 8 0\nsang al 0 20\n", 6, api.OK},
		{most, 19, api.OK},
		{most + "still al 0\n", 19, api.ErrFull},
		{most + "still cy 0\n", 19, api.ErrPrecentorUnknown},
		{most + "still al 9\n", 19, api.ErrRange},
		{most + "from\n", 19, api.ErrPrecentorLine},
		// Too long, or not ended by a line feed: before all lines.
		{strings.Repeat("\n", api.MaxText+1), 0, api.ErrLong},
		{strings.Repeat("x", api.MaxText+1), 0, api.ErrLong},
		{"failed al 3 15\n" + strings.Repeat("x", api.MaxText-16) + "\n", 1, api.ErrPrecentorLine},
		{strings.Repeat("x", api.MaxText), 0, api.ErrForm},
		{"failed al 3 15", 0, api.ErrForm},
		{"failed al 3 15\ncough al 1", 0, api.ErrForm},
		{"failed al 3 15\ncough al 1\n ", 0, api.ErrForm},
		{"x", 0, api.ErrForm},
		{"failed al 3 15\r", 0, api.ErrForm},
		// Texts that are no lines, and lines that ask.
		{"\n", 0, api.ErrPrecentorLine},
		{"failed al 3 15\n\n", 1, api.ErrPrecentorLine},
		{"failed al 3 15\n\ncough al 1\n", 1, api.ErrPrecentorLine},
		{"failed al 3 15\r\n", 0, api.ErrPrecentorLine},
		{"failed al 3 15\ncough al 1\nfrom\n", 2, api.ErrPrecentorLine},
		{"breaks al\n", 0, api.ErrPrecentorLine},
		{"breaks cy\n", 0, api.ErrPrecentorLine},
		{"must 9\n", 0, api.ErrPrecentorLine},
		{"first\nfailed al 3 15\n", 0, api.ErrPrecentorLine},
		{"failed al 3 15\nhighest al 3\n", 1, api.ErrPrecentorLine},
		{"cough al 1\nsang al 3\n", 1, api.ErrPrecentorLine},
		{"cough al 1\nx\nsang cy 0 0\n", 1, api.ErrPrecentorLine},
		{"cough al 1\nsang al 3 " + strings.Repeat("0", 80) + "\n", 1, api.ErrPrecentorLine},
		// The first line that is an error, whatever comes behind it.
		{"failed al 3 15\nsang al 3 20\nx\n", 1, api.ErrPrecentorFalse},
		{"cough al 1\nstill bo 1\nsang cy 0 0\nsang al 9 0\n", 2, api.ErrPrecentorUnknown},
		{"sang al 9 0\nsang cy 0 0\n", 0, api.ErrRange},
		{strings.Repeat("still al 0\n", 5), 4, api.ErrFull},
		{strings.Repeat("still al 0\n", 5000), 4, api.ErrFull},
	} {
		p, n, e := precentor.Open(setup(), x.file)
		if n != x.n || e != x.e || (p != nil) != (x.e == api.OK) {
			t.Errorf("Open %.60q: %v, %d, %d, not %d, %d", x.file, p != nil, n, e, x.n, x.e)
		}
		if p == nil {
			continue
		}
		if f := p.File(); f != x.file {
			t.Errorf("File: %q, not %q", f, x.file)
		}
		if want := strings.SplitAfter(x.file, "\n"); len(p.Journal()) != len(want)-1 {
			t.Errorf("Journal: %q", p.Journal())
		}
	}
	p, _, _ := precentor.Open(setup(), "failed al 3 15\ncough al 1\n")
	testLines(t, p, []does{{"sang al 3 20", "", api.ErrPrecentorFalse}, {"from", "0", api.OK}, {"still bo 1", "0", api.OK}, {"breaks al", "3 3", api.OK}})
	testKept(t, p, keeps{
		[]api.VoiceTrial{{Boy: 0, Week: 3, Note: 15, Sang: 0}},
		[]api.ColdHeard{{Bed: 0, Day: 1, Cough: true}, {Bed: 1, Day: 1}},
		nil, nil,
		[]string{"failed al 3 15", "cough al 1", "still bo 1"},
	})
}

// P11.3: what was told is kept in its order, and as it was told, also what says nothing new.
func TestLists(t *testing.T) {
	p := newOne(t)
	testLines(t, p, []does{
		{"failed bo 0 30", "6 7", api.OK}, {"count 0 2 0 5", "-5 3", api.OK}, {"sang al 2 10", "3 5", api.OK}, {"copy 1 5 4 3", "6", api.OK},
		{"failed bo 0 30", "6 7", api.OK}, {"still bo 0", "0 1", api.OK}, {"count 1 1 15 3", "18 18", api.OK}, {"copy 0 2 1 0", "1", api.OK}, {"cough al 4", "0 1", api.OK},
	})
	testKept(t, p, keeps{
		[]api.VoiceTrial{{Boy: 1, Week: 0, Note: 30, Sang: 0}, {Boy: 0, Week: 2, Note: 10, Sang: 1}, {Boy: 1, Week: 0, Note: 30, Sang: 0}},
		[]api.ColdHeard{{Bed: 1, Day: 0}, {Bed: 0, Day: 4, Cough: true}},
		[]api.PartCopy{{Voice: 1, Notes: []int{5, 4, 3}}, {Voice: 0, Notes: []int{2, 1, 0}}},
		[]api.CandleCount{{Day: 2, Kind: 0, Left: 0, Error: 5}, {Day: 1, Kind: 1, Left: 15, Error: 3}},
		[]string{"failed bo 0 30", "count 0 2 0 5", "sang al 2 10", "copy 1 5 4 3", "failed bo 0 30", "still bo 0", "count 1 1 15 3", "copy 0 2 1 0", "cough al 4"},
	})
}

// P11.1, P11.5: who changes a setup afterwards, or a result, changes no precentor, and no other setup.
func TestMemory(t *testing.T) {
	spare := func(s *api.PrecentorSetup) {
		s.Names = append(make([]string, 0, 9), s.Names...)
		s.Voice.Boys = append(make([]api.VoiceBoy, 0, 9), s.Voice.Boys...)
		s.Cold.Moves = append(make([]api.ColdMove, 0, 9), api.ColdMove{Bed: 1, Day: 4})
		s.Part.Voices = append(make([]api.Span, 0, 9), s.Part.Voices...)
		s.Candle.Days = append(make([]api.CandleDay, 0, 9), s.Candle.Days...)
		s.Candle.Orders = append(make([]api.CandleOrder, 0, 9), s.Candle.Orders...)
	}
	s, same := setup(emptyLists, spare), setup(emptyLists, spare)
	p, _ := precentor.New(s)
	told := "failed al 3 15\ncough al 1\ncopy 0 0 1 2\ncount 0 0 8 0\nstill bo 1\nfailed al 0 30\ncopy 1 3 3 4\ncount 0 1 5 2\n"
	q, n, e := precentor.Open(s, told)
	if n != 8 || e != api.OK {
		t.Fatalf("Open: %d, %d", n, e)
	}
	for line := range strings.Lines(told) {
		if _, e := p.Do(strings.TrimSuffix(line, "\n")); e != api.OK {
			t.Errorf("%s: %d", line, e)
		}
	}
	if !reflect.DeepEqual(s, same) || !reflect.DeepEqual(s.Voice.Trials[:9], make([]api.VoiceTrial, 9)) || !reflect.DeepEqual(s.Cold.Heard[:9], make([]api.ColdHeard, 9)) || !reflect.DeepEqual(s.Part.Copies[:9], make([]api.PartCopy, 9)) || !reflect.DeepEqual(s.Candle.Counts[:9], make([]api.CandleCount, 9)) {
		t.Errorf("changed: %+v", s)
	}
	was, answers := keptBy(p), allAnswers(p, s)
	s.Names[0], s.Voice.Boys[0], s.Voice.Boys[1] = "x", api.VoiceBoy{}, api.VoiceBoy{}
	s.Cold.Moves[0], s.Part.Voices[0] = api.ColdMove{Bed: 0, Day: 1}, just(9)
	clear(s.Candle.Days)
	clear(s.Candle.Orders)
	for _, one := range []*precentor.Precentor{p, q} {
		for range 2 {
			if !reflect.DeepEqual(keptBy(one), was) || !slices.Equal(allAnswers(one, same), answers) || one.File() != told {
				t.Errorf("changed: %+v, %q", keptBy(one), allAnswers(one, same))
			}
			spoil(one)
		}
	}
}

// spoil writes on all results, and behind them.
func spoil(p *precentor.Precentor) {
	trials, heard, copies, counts, journal := p.Trials(), p.Heard(), p.Copies(), p.Counts(), p.Journal()
	for i := range copies {
		clear(copies[i].Notes[:cap(copies[i].Notes)])
	}
	clear(trials[:cap(trials)])
	clear(heard[:cap(heard)])
	clear(copies[:cap(copies)])
	clear(counts[:cap(counts)])
	clear(journal[:cap(journal)])
}
