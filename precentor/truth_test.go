package precentor_test

// Precentors against a second one, who begins anew with each line, and the properties P11.6 to P11.10, for many setups.

import (
	"fmt"
	"math/rand"
	"reflect"
	"regexp"
	"slices"
	"strconv"
	"strings"
	"testing"

	"decani/api"
	"decani/candle"
	"decani/cold"
	"decani/part"
	"decani/precentor"
	"decani/voice"
)

// plain is a precentor who keeps nothing but the journal.
type plain struct {
	api.PrecentorSetup
	journal []string
}

// words are all words, each with what stands behind it: n is a name, d a number, and s a number for each note. The first six tell something.
var words = []string{
	"sang ndd", "failed ndd", "cough nd", "still nd", "copy ds", "count dddd",
	"breaks n", "lowest n", "highest nd", "sings ndd", "surely dd", "must d", "heir nddd",
	"ill nd", "coughs nd", "caught n", "from ", "clean ", "apart d",
	"ways ", "notes dd", "line d", "first ", "look ",
	"left dd", "life d", "dark d", "short d", "buy dd",
}

// patterns are, by how many notes a piece has, those of all lines of each word.
var patterns = func() (l [4][]*regexp.Regexp) {
	for notes := range l {
		for _, word := range words {
			name, behind, _ := strings.Cut(word, " ")
			behind = strings.Replace(behind, "s", strings.Repeat("d", notes), 1)
			behind = strings.NewReplacer("n", ` ([^ \n]+)`, "d", ` (0|[1-9][0-9]{0,3})`).Replace(behind)
			l[notes] = append(l[notes], regexp.MustCompile(`\A`+name+behind+`\z`))
		}
	}
	return l
}()

// parts are the word of a line, and what stands behind it; none, if it is no line.
func (p plain) parts(line string) []string {
	if len(line) > 80 {
		return nil
	}
	for i, pattern := range patterns[p.Part.Notes] {
		if parts := pattern.FindStringSubmatch(line); parts != nil {
			parts[0], _, _ = strings.Cut(words[i], " ")
			return parts
		}
	}
	return nil
}

// numbers are those of a line, with the number of the boy for a name (-1 for that of no boy).
func (p plain) numbers(parts []string) []int {
	var l []int
	for i, part := range parts[1:] {
		n, e := strconv.Atoi(part)
		if i == 0 && isNamed(parts[0]) {
			n, e = slices.Index(p.Names, part), nil
		}
		if e != nil {
			panic(part)
		}
		l = append(l, n)
	}
	return l
}

func isNamed(word string) bool {
	return slices.ContainsFunc(words, func(w string) bool { return strings.HasPrefix(w, word+" n") })
}

func isTelling(word string) bool {
	return slices.ContainsFunc(words[:6], func(w string) bool { return strings.HasPrefix(w, word+" ") })
}

// with are the books with some lines that tell something.
func (p plain) with(lines ...string) api.PrecentorSetup {
	s := p.PrecentorSetup
	for _, line := range lines {
		parts := p.parts(line)
		n := p.numbers(parts)
		switch parts[0] {
		case "sang":
			s.Voice.Trials = append(slices.Clip(s.Voice.Trials), api.VoiceTrial{Boy: n[0], Week: n[1], Note: n[2], Sang: 1})
		case "failed":
			s.Voice.Trials = append(slices.Clip(s.Voice.Trials), api.VoiceTrial{Boy: n[0], Week: n[1], Note: n[2], Sang: 0})
		case "cough":
			s.Cold.Heard = append(slices.Clip(s.Cold.Heard), api.ColdHeard{Bed: n[0], Day: n[1], Cough: true})
		case "still":
			s.Cold.Heard = append(slices.Clip(s.Cold.Heard), api.ColdHeard{Bed: n[0], Day: n[1], Cough: false})
		case "copy":
			s.Part.Copies = append(slices.Clip(s.Part.Copies), api.PartCopy{Voice: n[0], Notes: n[1:]})
		case "count":
			s.Candle.Counts = append(slices.Clip(s.Candle.Counts), api.CandleCount{Kind: n[0], Day: n[1], Left: n[2], Error: n[3]})
		}
	}
	return s
}

// areValid reports whether all books are valid.
func areValid(s api.PrecentorSetup) bool {
	return voice.Check(s.Voice) == api.OK && cold.Check(s.Cold) == api.OK && part.Check(s.Part) == api.OK && candle.Check(s.Candle) == api.OK
}

// areTrue reports whether all books can be true.
func areTrue(s api.PrecentorSetup) bool {
	ofVoice, _ := voice.Right(s.Voice)
	ofCold, _ := cold.Right(s.Cold)
	ofPart, _ := part.Right(s.Part)
	ofCandle, _ := candle.Right(s.Candle)
	return ofVoice && ofCold && ofPart && ofCandle
}

// isFull reports whether there are more of a kind than a book can have.
func isFull(s api.PrecentorSetup) bool {
	return len(s.Voice.Trials) > 6 || len(s.Cold.Heard) > 4 || len(s.Part.Copies) > 4 || len(s.Candle.Counts) > 5
}

func (p *plain) Do(line string) (string, api.Errno) {
	parts := p.parts(line)
	if parts == nil {
		return "", api.ErrPrecentorLine
	}
	n := p.numbers(parts)
	if isNamed(parts[0]) && n[0] < 0 {
		return "", api.ErrPrecentorUnknown
	}
	if isTelling(parts[0]) {
		all := append(slices.Clone(p.journal), line)
		switch {
		case !areValid(p.with(line)):
			return "", api.ErrRange
		case isFull(p.with(all...)):
			return "", api.ErrFull
		case !areTrue(p.with(all...)):
			return "", api.ErrPrecentorFalse
		}
		p.journal = all
	}
	answer, e := ask(p.with(p.journal...), parts[0], n)
	if e != api.OK && e != api.ErrNone {
		e = api.ErrRange
	}
	if e != api.OK {
		return "", e
	}
	if answer = strings.Trim(answer, "{[]}"); answer == "" {
		answer = "-"
	}
	return answer, api.OK
}

// ask asks the layers.
func ask(s api.PrecentorSetup, word string, n []int) (string, api.Errno) {
	switch word {
	case "sang", "failed", "breaks":
		return show(voice.Breaks(s.Voice, n[0]))
	case "cough", "still", "from":
		return show(cold.From(s.Cold))
	case "copy", "ways":
		return show(part.Ways(s.Part))
	case "count", "left":
		return show(candle.Left(s.Candle, n[0], n[1]))
	case "lowest":
		return show(voice.Lowest(s.Voice, n[0]))
	case "highest":
		return show(voice.Highest(s.Voice, n[0], n[1]))
	case "sings":
		return show(voice.Sings(s.Voice, n[0], n[1], n[2]))
	case "surely":
		return show(voice.Surely(s.Voice, n[0], n[1]))
	case "must":
		return show(voice.Must(s.Voice, n[0]))
	case "heir":
		return show(voice.Heir(s.Voice, n[0], n[1], span(n[2], n[3])))
	case "ill":
		return show(cold.Ill(s.Cold, n[0], n[1]))
	case "coughs":
		return show(cold.Coughs(s.Cold, n[0], n[1]))
	case "caught":
		return show(cold.Caught(s.Cold, n[0]))
	case "clean":
		return show(cold.Clean(s.Cold))
	case "apart":
		return show(cold.Apart(s.Cold, n[0]))
	case "notes":
		return show(part.Notes(s.Part, n[0], n[1]))
	case "line":
		return show(part.Line(s.Part, n[0]))
	case "first":
		voice, note, e := part.First(s.Part)
		return show([]int{voice, note}, e)
	case "look":
		voice, note, e := part.Ask(s.Part)
		return show([]int{voice, note}, e)
	case "life":
		return show(candle.Life(s.Candle, n[0]))
	case "dark":
		return show(candle.Dark(s.Candle, n[0]))
	case "short":
		return show(candle.Short(s.Candle, n[0]))
	case "buy":
		return show(candle.Buy(s.Candle, n[0], n[1]))
	}
	panic(word)
}

func show[T any](of T, e api.Errno) (string, api.Errno) { return fmt.Sprint(of), e }

// doer is a precentor.
type doer interface {
	Do(line string) (string, api.Errno)
}

// questions are by kind lines that ask.
func questions(s api.PrecentorSetup) [4][]string {
	var l [4][]string
	add := func(kind int, form string, n ...any) { l[kind] = append(l[kind], fmt.Sprintf(form, n...)) }
	for week := range s.Voice.Weeks {
		add(0, "must %d", week)
		for note := 0; note < 22; note += 3 {
			add(0, "surely %d %d", week, note)
		}
	}
	for day := range s.Cold.Days {
		add(1, "apart %d", day+1)
	}
	for _, name := range s.Names {
		add(0, "breaks %s", name)
		add(0, "lowest %s", name)
		for week := range s.Voice.Weeks {
			add(0, "highest %s %d", name, week)
			add(0, "heir %s %d %d %d", name, week, 6, 8+week)
			for note := 0; note < 22; note += 3 {
				add(0, "sings %s %d %d", name, week, note)
			}
		}
		add(1, "caught %s", name)
		for day := range s.Cold.Days {
			add(1, "ill %s %d", name, day)
			add(1, "coughs %s %d", name, day)
		}
	}
	l[1] = append(l[1], "from", "clean")
	l[2] = append(l[2], "ways", "first", "look")
	for voice := range s.Part.Voices {
		add(2, "line %d", voice)
		for note := range s.Part.Notes {
			add(2, "notes %d %d", voice, note)
		}
	}
	for day := range s.Candle.Days {
		add(3, "dark %d", day)
		for kind := range 2 {
			add(3, "left %d %d", kind, day)
			add(3, "buy %d %d", kind, day)
		}
	}
	l[3] = append(l[3], "life 0", "life 1", "short 0", "short 1")
	return l
}

// allAnswers are the answers, and the errors, of all questions.
func allAnswers(p doer, s api.PrecentorSetup) []string {
	var all []string
	for _, l := range questions(s) {
		for _, line := range l {
			all = append(all, line+": "+reply(p, line))
		}
	}
	return all
}

func reply(p doer, line string) string {
	answer, e := p.Do(line)
	return fmt.Sprintf("%s (%d)", answer, e)
}

// boyTruth is what truly is so of a boy's voice.
type boyTruth struct{ low, high, gain, turn, loss, breaks int }

// highest goes from week to week.
func (b boyTruth) highest(week int) int {
	note := b.high
	for before := range week {
		if before < b.turn {
			note += b.gain
		} else {
			note -= b.loss
		}
	}
	return note
}

func (b boyTruth) sings(week, note int) bool {
	return week < b.breaks && b.low <= note && note <= b.highest(week)
}

// real is what truly is so.
type real struct {
	boys        []boyTruth
	bed         int
	out, goes   int
	caught      []int // by bed the day, or never
	score       [][]int
	stock, life [2]int
	dark        []int
}

const never = 99

// spread lets the cold begin in a bed on a day, and go on day by day.
func spread(b api.ColdBook, bed, day, goes int) []int {
	caught := slices.Repeat([]int{never}, b.Beds)
	caught[bed] = day
	for d := day + 1; d < b.Days; d++ {
		for i := range caught {
			for _, by := range []int{i - 1, i + 1} {
				if by >= 0 && by < b.Beds && caught[i] > d && caught[by] == d-goes && !isAway(b, i, d) && !isAway(b, by, d) {
					caught[i] = d
				}
			}
		}
	}
	return caught
}

func isAway(b api.ColdBook, bed, day int) bool {
	return slices.ContainsFunc(b.Moves, func(m api.ColdMove) bool { return m.Bed == bed && m.Day <= day })
}

// left is how many candles of a kind are left at the end of a day.
func (r real) left(b api.CandleBook, kind, day int) int {
	left := r.stock[kind]
	for d := range day + 1 {
		for range b.Days[d].Lights[kind] {
			for hours := min(b.Days[d].Hours, r.dark[d]); hours > 0; hours -= r.life[kind] {
				left--
			}
		}
	}
	for _, o := range b.Orders {
		if o.Kind == kind && o.Day <= day {
			left += o.Many
		}
	}
	return left
}

// anySpan is a span with a number of it, from low to high, its ends no more than wide apart.
func anySpan(r *rand.Rand, low, high, wide int) (api.Span, int) {
	from := low + r.Intn(high-low+1)
	s := span(from, min(high, from+r.Intn(wide+1)))
	return s, s.Low + r.Intn(s.High-s.Low+1)
}

// anySetup is a setup, and what truly is so beside it.
func anySetup(r *rand.Rand) (api.PrecentorSetup, real) {
	var s api.PrecentorSetup
	var t real
	for _, n := range r.Perm(8)[:1+r.Intn(4)] {
		s.Names = append(s.Names, []string{"al", "bo", "cy", "di", "a", "a1", "abcdefghijk9", "z0"}[n])
	}
	anyVoices(r, &s, &t)
	anyCold(r, &s, &t)
	anyPiece(r, &s, &t)
	anyCandles(r, &s, &t)
	return s, t
}

func anyVoices(r *rand.Rand, s *api.PrecentorSetup, t *real) {
	s.Voice.Weeks = 1 + r.Intn(6)
	for range s.Names {
		b, x := api.VoiceBoy{Loss: r.Intn(3)}, boyTruth{}
		b.Low, x.low = anySpan(r, 0, 8, 2)
		b.High, x.high = anySpan(r, 6, 18, 2)
		b.Gain, x.gain = anySpan(r, 0, 2, 1)
		b.Turn, x.turn = anySpan(r, 0, 6, 2)
		b.Break, x.breaks = anySpan(r, 0, 9, 3)
		x.loss = b.Loss
		s.Voice.Boys, t.boys = append(s.Voice.Boys, b), append(t.boys, x)
	}
}

func anyCold(r *rand.Rand, s *api.PrecentorSetup, t *real) {
	b := api.ColdBook{Beds: len(s.Names), Days: 1 + r.Intn(6), Rooms: r.Intn(4)}
	b.Until = r.Intn(b.Days)
	b.Begins = 1 + r.Intn(1<<b.Beds-1)
	b.Takes[0], t.out = anySpan(r, 1, 3, 1)
	b.Takes[1], t.goes = anySpan(r, 1, 3, 1)
	for _, bed := range r.Perm(b.Beds)[:r.Intn(2)*r.Intn(min(3, b.Beds)+1)] {
		if b.Days > 1 {
			b.Moves = append(b.Moves, api.ColdMove{Bed: bed, Day: 1 + r.Intn(b.Days-1)})
		}
	}
	for {
		t.bed = r.Intn(b.Beds)
		if day := r.Intn(b.Until + 1); b.Begins>>t.bed&1 == 1 && !isAway(b, t.bed, day) {
			s.Cold, t.caught = b, spread(b, t.bed, day, t.goes)
			return
		}
	}
}

// anyPiece writes a piece first, and then the rules of a style that allow it.
func anyPiece(r *rand.Rand, s *api.PrecentorSetup, t *real) {
	b := api.PartBook{Notes: 1 + r.Intn(3), Step: r.Intn(3), Chords: r.Intn(256) & r.Intn(256), Perfect: r.Intn(256)}
	for voice := range 1 + r.Intn(3) {
		var line []int
		for range b.Notes {
			line = append(line, min(12, 3*voice+r.Intn(3)))
		}
		t.score = append(t.score, line)
		low := max(0, slices.Max(line)-2)
		low = low + r.Intn(slices.Min(line)-low+1)
		b.Voices = append(b.Voices, span(low, max(slices.Max(line), min(12, low+r.Intn(3)))))
		for note := range b.Notes {
			if note > 0 {
				b.Step = max(b.Step, line[note]-line[note-1], line[note-1]-line[note])
			}
			if voice > 0 {
				high := line[note] - t.score[voice-1][note]
				b.Chords |= 1 << high
				if r.Intn(2) == 0 {
					b.Chords |= 1 << min(7, high+1)
				}
				if note > 0 && high == line[note-1]-t.score[voice-1][note-1] && line[note] != line[note-1] {
					b.Perfect &^= 1 << high
				}
			}
		}
	}
	s.Part = b
}

func anyCandles(r *rand.Rand, s *api.PrecentorSetup, t *real) {
	b := &s.Candle
	for kind := range 2 {
		b.Stock[kind], t.stock[kind] = anySpan(r, 0, 60, 2)
		b.Life[kind], t.life[kind] = anySpan(r, 1, 6, 1)
	}
	for range 1 + r.Intn(4) {
		dark, n := anySpan(r, 0, 6, 2)
		b.Days = append(b.Days, api.CandleDay{Hours: r.Intn(7), Dark: dark, Lights: [2]int{r.Intn(7), r.Intn(7)}})
		t.dark = append(t.dark, n)
	}
	for range r.Intn(3) {
		b.Orders = append(b.Orders, api.CandleOrder{Day: r.Intn(len(b.Days)), Kind: r.Intn(2), Many: r.Intn(30)})
	}
}

// anyTelling is a line that tells something, rightly.
func anyTelling(r *rand.Rand, s api.PrecentorSetup, t real) string {
	boy := r.Intn(len(s.Names))
	name := s.Names[boy]
	switch r.Intn(5) {
	case 0, 1:
		week := r.Intn(s.Voice.Weeks)
		note := max(0, []int{t.boys[boy].low, t.boys[boy].highest(week)}[r.Intn(2)]+r.Intn(5)-2)
		if t.boys[boy].sings(week, note) {
			return fmt.Sprintf("sang %s %d %d", name, week, note)
		}
		return fmt.Sprintf("failed %s %d %d", name, week, note)
	case 2:
		day := r.Intn(s.Cold.Days)
		if t.caught[boy]+t.out <= day {
			return fmt.Sprintf("cough %s %d", name, day)
		}
		return fmt.Sprintf("still %s %d", name, day)
	case 3:
		voice := r.Intn(len(t.score))
		return "copy " + strings.Trim(fmt.Sprint(append([]int{voice}, t.score[voice]...)), "[]")
	}
	kind, day, wrong := r.Intn(2), r.Intn(len(s.Candle.Days)), r.Intn(6)
	left := t.left(s.Candle, kind, day)
	if left+wrong < 0 {
		return anyTelling(r, s, t) // such a number cannot be written
	}
	return fmt.Sprintf("count %d %d %d %d", kind, day, max(0, left-wrong+r.Intn(2*wrong+1)), wrong)
}

// anyWord is a line of any word, with small numbers that are often between their limits.
func anyWord(r *rand.Rand, s api.PrecentorSetup, words []string) string {
	line, behind, _ := strings.Cut(words[r.Intn(len(words))], " ")
	for _, c := range strings.Replace(behind, "s", strings.Repeat("d", s.Part.Notes), 1) {
		if c == 'n' {
			line += " " + append(s.Names, "xy")[r.Intn(len(s.Names)+r.Intn(2))]
		} else {
			line += " " + strconv.Itoa(r.Intn([]int{2, 3, 5, 12, 50}[r.Intn(5)]))
		}
	}
	return line
}

// spoilt is a line with a part more, less, or changed.
func spoilt(r *rand.Rand, line string) string {
	i := r.Intn(len(line) + 1)
	odd := []string{" ", "  ", "0", "9", "x", "-", "\n", "\t", " 0", "00000", " al", "\xff", "ö"}[r.Intn(13)]
	return line[:i] + odd + line[min(len(line), i+r.Intn(3)):]
}

// anyLine is mostly one that tells something.
func anyLine(r *rand.Rand, s api.PrecentorSetup, t real) string {
	switch r.Intn(8) {
	case 0, 1, 2:
		return anyTelling(r, s, t)
	case 3, 4:
		return anyWord(r, s, words[:6])
	case 5:
		return spoilt(r, anyTelling(r, s, t))
	case 6:
		return spoilt(r, anyWord(r, s, words))
	}
	return anyWord(r, s, words)
}

// start is a new precentor of any setup.
func start(t *testing.T, r *rand.Rand) (*precentor.Precentor, api.PrecentorSetup, real) {
	t.Helper()
	s, truth := anySetup(r)
	p, e := precentor.New(s)
	if e != api.OK {
		t.Fatalf("New %+v: %d", s, e)
	}
	return p, s, truth
}

// P11.2, P11.3, P11.8
func TestAgainstPlainLines(t *testing.T) {
	r := rand.New(rand.NewSource(1))
	found := map[api.Errno]int{}
	for range 400 {
		p, s, truth := start(t, r)
		one := &plain{PrecentorSetup: s}
		for range 30 {
			line := anyLine(r, s, truth)
			want, f := one.Do(line)
			if answer, e := p.Do(line); answer != want || e != f {
				t.Fatalf("%+v, %q, %q: %q, %d, not %q, %d", s, one.journal, line, answer, e, want, f)
			}
			found[f]++
			if all := one.with(one.journal...); !areTrue(all) {
				t.Fatalf("%+v, %q: false", s, one.journal)
			}
		}
		testSame(t, p, one)
	}
	for _, e := range []api.Errno{api.OK, api.ErrNone, api.ErrFull, api.ErrRange, api.ErrPrecentorLine, api.ErrPrecentorUnknown, api.ErrPrecentorFalse} {
		if found[e] < 50 {
			t.Errorf("too few lines of a kind: %d, %d", e, found[e])
		}
	}
}

// testSame tests that a precentor keeps what a plain one does.
func testSame(t *testing.T, p *precentor.Precentor, one *plain) {
	t.Helper()
	s := one.with(one.journal...)
	testKept(t, p, keeps{s.Voice.Trials, s.Cold.Heard, s.Part.Copies, s.Candle.Counts, one.journal})
}

// P11.6
func TestTheSameYearAgain(t *testing.T) {
	r := rand.New(rand.NewSource(2))
	most := 0
	for range 50 {
		p, s, truth := start(t, r)
		for range r.Intn(50) {
			p.Do(anyLine(r, s, truth))
		}
		most = max(most, len(p.Journal()))
		again, n, e := precentor.Open(s, p.File())
		if e != api.OK || n != len(p.Journal()) || again.File() != p.File() {
			t.Fatalf("Open %+v, %q: %d, %d", s, p.File(), n, e)
		}
		for range 3 {
			if !reflect.DeepEqual(keptBy(p), keptBy(again)) || !slices.Equal(allAnswers(p, s), allAnswers(again, s)) {
				t.Fatalf("Open %+v, %q: not the same", s, p.File())
			}
			line := anyLine(r, s, truth)
			if one, other := reply(p, line), reply(again, line); one != other {
				t.Fatalf("Open %+v, %q, %q: %s, not %s", s, p.File(), line, other, one)
			}
		}
	}
	if most < 15 {
		t.Errorf("too short journals: %d", most)
	}
}

// P11.4: the first line that is an error is told, whatever is behind it.
func TestTheFirstLineThatIsWrong(t *testing.T) {
	r := rand.New(rand.NewSource(3))
	found := map[api.Errno]int{}
	for range 1500 {
		s, truth := anySetup(r)
		one, file := &plain{PrecentorSetup: s}, ""
		number, first := -1, api.OK
		for n := range r.Intn(25) {
			line := anyTelling(r, s, truth)
			if r.Intn(6) == 0 {
				line = strings.ReplaceAll(anyLine(r, s, truth), "\n", "")
			}
			file += line + "\n"
			if first != api.OK {
				continue
			}
			_, first = one.Do(line)
			if parts := one.parts(line); parts == nil || !isTelling(parts[0]) {
				first = api.ErrPrecentorLine
			}
			number = n
		}
		found[first]++
		p, n, e := precentor.Open(s, file)
		if first != api.OK {
			if p != nil || n != number || e != first {
				t.Fatalf("Open %+v, %q: %d, %d, not %d, %d", s, file, n, e, number, first)
			}
			continue
		}
		if p == nil || n != number+1 || e != api.OK || p.File() != file {
			t.Fatalf("Open %+v, %q: %d, %d", s, file, n, e)
		}
		testSame(t, p, one)
	}
	for _, e := range []api.Errno{api.OK, api.ErrFull, api.ErrRange, api.ErrPrecentorLine, api.ErrPrecentorUnknown, api.ErrPrecentorFalse} {
		if found[e] < 15 {
			t.Errorf("too few files of a kind: %d, %d", e, found[e])
		}
	}
}

// P11.7
func TestErrorsAndQuestionsChangeNothing(t *testing.T) {
	r := rand.New(rand.NewSource(4))
	for range 25 {
		p, s, truth := start(t, r)
		same, _ := precentor.New(s)
		was, answers := keptBy(p), allAnswers(p, s)
		for range 20 {
			line := anyLine(r, s, truth)
			_, e := p.Do(line)
			if told := len(p.Journal()) > len(was.journal); told {
				if e != api.OK {
					t.Fatalf("%+v, %q: %d, but it is in the journal", s, line, e)
				}
				same.Do(line)
				was, answers = keptBy(p), allAnswers(p, s)
				if was.journal[len(was.journal)-1] != line || !slices.Equal(answers, allAnswers(same, s)) {
					t.Fatalf("%+v, %q: not the same", s, was.journal)
				}
			} else if !reflect.DeepEqual(keptBy(p), was) || !slices.Equal(allAnswers(p, s), answers) {
				t.Fatalf("%+v, %q, %q: changed", s, was.journal, line)
			}
		}
		if !reflect.DeepEqual(keptBy(same), was) || same.File() != p.File() {
			t.Fatalf("%+v, %q: not the same", s, was.journal)
		}
	}
}

// numbersOf are those of an answer.
func numbersOf(answer string) []int {
	var l []int
	for _, word := range strings.Fields(answer) {
		if n, e := strconv.Atoi(word); e == nil {
			l = append(l, n)
		}
	}
	return l
}

func isSubset(l, of []int) bool {
	return !slices.ContainsFunc(l, func(n int) bool { return !slices.Contains(of, n) })
}

// isWidened reports whether an answer tells less than the one before did.
func isWidened(line, before, after string, e, f api.Errno) bool {
	was, is := numbersOf(before), numbersOf(after)
	switch word, _, _ := strings.Cut(line, " "); word {
	case "line", "heir": // once it is known it stays so
		return e == api.OK && f != api.OK
	case "highest", "caught", "short": // once there is none there never is one
		if e == api.ErrNone || f == api.ErrNone {
			return f == api.OK
		}
		return is[0] < was[0] || word != "short" && is[1] > was[1]
	case "breaks", "lowest", "left", "life", "dark":
		return is[0] < was[0] || is[1] > was[1]
	case "sings", "ill", "coughs":
		return was[0] != 1 && is[0] != was[0]
	case "surely", "must", "clean":
		return !isSubset(was, is)
	case "from", "notes":
		return !isSubset(is, was)
	case "ways", "buy":
		return is[0] > was[0]
	case "first":
		return e == api.ErrNone && f == api.OK || e == api.OK && f == api.OK && slices.Compare(is, was) < 0
	case "look":
		return e == api.ErrNone && f == api.OK
	case "apart": // as many can be moved as before
		return e == api.OK && (f != api.OK || len(is) > len(was))
	}
	panic(line)
}

// P11.8, P11.9
func TestNothingIsWidened(t *testing.T) {
	r := rand.New(rand.NewSource(5))
	found := map[string]int{}
	kindOf := map[string]int{"sang": 0, "failed": 0, "cough": 1, "still": 1, "copy": 2, "count": 3}
	for range 60 {
		p, s, truth := start(t, r)
		all := questions(s)
		for range 12 {
			type reply struct {
				answer string
				e      api.Errno
			}
			before := map[string]reply{}
			for _, l := range all {
				for _, line := range l {
					answer, e := p.Do(line)
					before[line] = reply{answer, e}
				}
			}
			many := len(p.Journal())
			told := anyTelling(r, s, truth)
			if r.Intn(2) == 0 {
				told = anyWord(r, s, words[:6])
			}
			if p.Do(told); len(p.Journal()) == many {
				continue
			}
			word, _, _ := strings.Cut(told, " ")
			for kind, l := range all {
				for _, line := range l {
					answer, e := p.Do(line)
					was := before[line]
					if answer == was.answer && e == was.e {
						continue
					}
					if kind != kindOf[word] || isWidened(line, was.answer, answer, was.e, e) {
						t.Fatalf("%+v, %q, %q: %q, %d, was %q, %d", s, p.Journal(), line, answer, e, was.answer, was.e)
					}
					found[word]++
				}
			}
		}
	}
	for word := range kindOf {
		if found[word] < 30 {
			t.Errorf("too few answers that are others: %s, %d", word, found[word])
		}
	}
}

// P11.10
func TestTheChoirThatTrulyIs(t *testing.T) {
	r := rand.New(rand.NewSource(6))
	found := map[string]int{}
	for range 100 {
		p, s, truth := start(t, r)
		one := &plain{PrecentorSetup: s}
		for range 1 + r.Intn(25) {
			line := anyTelling(r, s, truth)
			more := append(p.Journal(), line)
			answer, e := p.Do(line)
			if full := isFull(one.with(more...)); full && e != api.ErrFull || !full && e != api.OK {
				t.Fatalf("%+v, %q, %q: %d", s, p.Journal(), line, e)
			}
			parts := one.parts(line)
			if e == api.OK && !truth.lies(s, parts[0], one.numbers(parts), numbersOf(answer), e) {
				t.Fatalf("%+v, %+v, %q, %q: %q", s, truth, p.Journal(), line, answer)
			}
		}
		for _, l := range questions(s) {
			for _, line := range l {
				answer, e := p.Do(line)
				parts := one.parts(line)
				if e == api.ErrRange {
					continue
				}
				if !truth.lies(s, parts[0], one.numbers(parts), numbersOf(answer), e) {
					t.Fatalf("%+v, %+v, %q, %q: %q, %d", s, truth, p.Journal(), line, answer, e)
				}
				found[fmt.Sprintf("%s %d", parts[0], e)]++
			}
		}
	}
	for _, word := range words[6:] {
		if word, _, _ = strings.Cut(word, " "); found[word+" 0"] < 10 {
			t.Errorf("too few answers: %s, %d", word, found[word+" 0"])
		}
	}
	for _, word := range []string{"highest", "heir", "caught", "apart", "line", "first", "look", "short"} {
		if found[word+" 4"] < 5 {
			t.Errorf("too few answers of none: %s, %d", word, found[word+" 4"])
		}
	}
}

// lies reports whether what truly is so lies between what is answered, or whether there can truly be none.
func (r real) lies(s api.PrecentorSetup, word string, n, answer []int, e api.Errno) bool {
	switch word {
	case "sang", "failed", "breaks", "lowest", "highest", "sings", "surely", "must", "heir":
		return r.liesVoice(s, word, n, answer, e)
	case "cough", "still", "ill", "coughs", "caught", "from", "clean", "apart":
		return r.liesCold(s, word, n, answer, e)
	case "copy", "ways", "notes", "line", "first", "look":
		return r.liesPart(s, word, n, answer, e)
	}
	return r.liesCandle(s, word, n, answer, e)
}

func isBetween(n int, span []int) bool { return span[0] <= n && n <= span[1] }

// isOften reports whether 2, 1 or 0 can be told of what is so, or is not.
func isOften(is bool, often int) bool { return often == 1 || is == (often == 2) }

func (r real) liesVoice(s api.PrecentorSetup, word string, n, answer []int, e api.Errno) bool {
	switch word {
	case "lowest":
		return isBetween(r.boys[n[0]].low, answer)
	case "highest":
		broken := n[1] >= r.boys[n[0]].breaks
		return broken || e == api.OK && isBetween(r.boys[n[0]].highest(n[1]), answer)
	case "sings":
		return isOften(r.boys[n[0]].sings(n[1], n[2]), answer[0])
	case "surely":
		return !slices.ContainsFunc(answer, func(boy int) bool { return !r.boys[boy].sings(n[0], n[1]) })
	case "must":
		return !slices.ContainsFunc(answer, func(boy int) bool { return n[0] < r.boys[boy].breaks })
	case "heir":
		if e != api.OK {
			return true
		}
		heir := r.boys[answer[0]]
		return answer[0] != n[0] && heir.sings(n[1], n[2]) && heir.sings(n[1], n[3])
	}
	return isBetween(r.boys[n[0]].breaks, answer)
}

func (r real) liesCold(s api.PrecentorSetup, word string, n, answer []int, e api.Errno) bool {
	switch word {
	case "ill":
		return isOften(r.caught[n[0]] <= n[1], answer[0])
	case "coughs":
		return isOften(r.caught[n[0]]+r.out <= n[1], answer[0])
	case "caught":
		return r.caught[n[0]] == never || e == api.OK && isBetween(r.caught[n[0]], answer)
	case "clean":
		return !slices.ContainsFunc(answer, func(bed int) bool { return r.caught[bed] != never })
	case "apart":
		return e != api.OK || r.isStopped(s.Cold, answer, n[0])
	}
	return slices.Contains(answer, r.bed)
}

// isStopped reports whether nobody catches the cold from a day on if these boys are moved then.
func (r real) isStopped(b api.ColdBook, beds []int, day int) bool {
	b.Moves = slices.Clone(b.Moves)
	for _, bed := range beds {
		b.Moves = append(b.Moves, api.ColdMove{Bed: bed, Day: day})
	}
	began := r.caught[r.bed]
	if isAway(b, r.bed, began) {
		return true
	}
	return !slices.ContainsFunc(spread(b, r.bed, began, r.goes), func(d int) bool { return day <= d && d < never })
}

func (r real) liesPart(s api.PrecentorSetup, word string, n, answer []int, e api.Errno) bool {
	switch word {
	case "notes":
		return slices.Contains(answer, r.score[n[0]][n[1]])
	case "line":
		return e != api.OK || slices.Equal(answer, r.score[n[0]])
	case "first", "look":
		return e != api.OK || answer[0] < len(r.score) && answer[1] < s.Part.Notes
	}
	return answer[0] > 0
}

func (r real) liesCandle(s api.PrecentorSetup, word string, n, answer []int, e api.Errno) bool {
	switch word {
	case "life":
		return isBetween(r.life[n[0]], answer)
	case "dark":
		return isBetween(r.dark[n[0]], answer)
	case "short":
		none := len(s.Candle.Days)
		if e == api.OK {
			none = answer[0]
		}
		return r.least(s.Candle, n[0], 0, none) >= 0
	case "buy":
		return r.least(s.Candle, n[0], n[1], len(s.Candle.Days))+answer[0] >= 0
	}
	return isBetween(r.left(s.Candle, n[0], n[1]), answer)
}

// least is how many candles are left on some days, at the least, but never more than 0.
func (r real) least(b api.CandleBook, kind, from, to int) int {
	least := 0
	for day := from; day < to; day++ {
		least = min(least, r.left(b, kind, day))
	}
	return least
}

// P11.2: the greatest books are calculated with, too.
func TestTheGreatestBooks(t *testing.T) {
	boy := api.VoiceBoy{Low: span(0, 2), High: span(30, 32), Gain: span(1, 2), Turn: span(2, 4), Loss: 2, Break: span(3, 6)}
	day := api.CandleDay{Hours: 6, Dark: span(4, 6), Lights: [2]int{9, 9}}
	s := api.PrecentorSetup{
		Names:  []string{"abcdefghijkl", "abcdefghijk2", "abcdefghijk1", "abcdefghijk0"},
		Voice:  api.VoiceBook{Boys: slices.Repeat([]api.VoiceBoy{boy}, 4), Weeks: 6},
		Cold:   api.ColdBook{Beds: 4, Days: 6, Begins: 0b1111, Until: 5, Takes: [2]api.Span{span(2, 3), span(2, 3)}, Rooms: 3},
		Part:   api.PartBook{Notes: 3, Voices: []api.Span{span(0, 2), span(2, 4), span(4, 6)}, Step: 7, Chords: 255},
		Candle: api.CandleBook{Stock: [2]api.Span{span(58, 60), span(58, 60)}, Life: [2]api.Span{span(1, 2), span(1, 2)}, Days: slices.Repeat([]api.CandleDay{day}, 5)},
	}
	file := strings.Repeat("failed abcdefghijkl 5 40\n", 6) + strings.Repeat("still abcdefghijk0 0\n", 4) +
		"copy 0 0 1 2\ncopy 1 3 3 3\ncopy 0 0 1 2\ncopy 1 3 3 3\n" + strings.Repeat("count 0 1 0 5\n", 5)
	p, n, e := precentor.Open(s, file)
	if n != 19 || e != api.OK || p.File() != file {
		t.Fatalf("Open: %d, %d", n, e)
	}
	testLines(t, p, []does{
		{"breaks abcdefghijkl", "3 6", api.OK},
		{"apart 5", "", api.ErrNone},
		{"ways", "27", api.OK},
		{"look", "2 0", api.OK},
		{"left 0 1", "4 5", api.OK},
		{"short 1", "1", api.OK},
	})
}

// P1: any arguments, also such as are not valid, are answered without a panic, and the same way twice (P2).
func TestAnyArguments(t *testing.T) {
	r := rand.New(rand.NewSource(8))
	odd := func() int { return []int{-1 << 63, -1, 0, 1, 2, 3, 5, 1<<63 - 1}[r.Intn(8)] }
	for range 1500 {
		s, truth := anySetup(r)
		file, lines := "", []string{}
		for range r.Intn(6) {
			line := anyLine(r, s, truth)
			file, lines = file+line+strings.Repeat("\n", r.Intn(5)/4+r.Intn(2)), append(lines, line)
		}
		switch r.Intn(12) {
		case 0:
			s.Names = append(s.Names, "x")[r.Intn(2):]
		case 1:
			s.Voice.Boys[0].Low = span(odd(), odd())
		case 2:
			s.Voice.Weeks = odd()
		case 3:
			s.Cold.Beds, s.Cold.Begins = odd(), odd()
		case 4:
			s.Cold.Days = odd()
		case 5:
			s.Part.Notes = odd()
		case 6:
			s.Part.Step, s.Part.Chords = odd(), odd()
		case 7:
			s.Part.Voices = nil
		case 8:
			s.Candle.Days[0].Hours = odd()
		case 9:
			s.Candle.Life[0] = span(odd(), odd())
		}
		if one, other := everything(s, file, lines), everything(s, file, lines); !reflect.DeepEqual(one, other) {
			t.Fatalf("%+v, %q: not the same twice", s, file)
		}
	}
}

func everything(s api.PrecentorSetup, file string, lines []string) []any {
	results := []any{precentor.Check(s)}
	add := func(l ...any) { results = append(results, l...) }
	p, e := precentor.New(s)
	q, n, f := precentor.Open(s, file)
	add(p == nil, e, q == nil, n, f)
	for _, one := range []*precentor.Precentor{p, q} {
		for _, line := range lines {
			add(reply(one, line))
		}
		add(keptBy(one), one.File())
	}
	return results
}
