package candle_test

// The functions against a second calculation, which lets each light burn hour by hour, and the properties P6.9 to P6.14, for many books.

import (
	"math/rand"
	"reflect"
	"slices"
	"testing"

	"decani/api"
	"decani/candle"
)

// real is what is truly so.
type real struct {
	stock, life [2]int
	dark        []int
}

// knowns are all spans of a book: of both stocks, both lives, and the dark of each day.
func knowns(b api.CandleBook) []api.Span {
	l := []api.Span{b.Stock[0], b.Stock[1], b.Life[0], b.Life[1]}
	for _, d := range b.Days {
		l = append(l, d.Dark)
	}
	return l
}

// plainAll are all truths of a book without counts. It counts up, number by number.
func plainAll(b api.CandleBook) []real {
	spans := knowns(b)
	var n []int
	for _, s := range spans {
		n = append(n, s.Low)
	}
	var all []real
	for {
		all = append(all, real{[2]int(n[:2]), [2]int(n[2:4]), slices.Clone(n[4:])})
		i := 0
		for i < len(n) && n[i] == spans[i].High {
			n[i] = spans[i].Low
			i++
		}
		if i == len(n) {
			return all
		}
		n[i]++
	}
}

// plainTaken lets the lights of a day burn, one after the other, hour by hour.
func plainTaken(r real, d api.CandleDay, kind, day int) int {
	taken := 0
	for range d.Lights[kind] {
		stub := 0
		for hour := 0; hour < d.Hours && hour < r.dark[day]; hour++ {
			if stub == 0 {
				taken++
				stub = r.life[kind]
			}
			stub--
		}
	}
	return taken
}

// plainLeft adds up all that came and was taken from the last day back to the first one.
func plainLeft(b api.CandleBook, r real, kind, day int) int {
	left := r.stock[kind]
	for d := day; d >= 0; d-- {
		left -= plainTaken(r, b.Days[d], kind, d)
	}
	for _, o := range b.Orders {
		if o.Kind == kind && o.Day <= day {
			left += o.Many
		}
	}
	return left
}

func plainRight(b api.CandleBook, r real, c api.CandleCount) bool {
	left := plainLeft(b, r, c.Kind, c.Day)
	return c.Left-c.Error <= left && left <= c.Left+c.Error
}

// plainTruths are those in which all counts are right that are not left out.
func plainTruths(b api.CandleBook, all []real, out []int) []real {
	var truths []real
	for _, r := range all {
		right := true
		for i, c := range b.Counts {
			right = right && (slices.Contains(out, i) || plainRight(b, r, c))
		}
		if right {
			truths = append(truths, r)
		}
	}
	return truths
}

// members are the numbers of a set.
func members(set int) []int {
	var l []int
	for i := 0; set>>i > 0; i++ {
		if set>>i&1 == 1 {
			l = append(l, i)
		}
	}
	return l
}

// plainWrong goes through all sets of counts.
func plainWrong(b api.CandleBook, all []real) []int {
	best := []int{0, 1, 2, 3, 4, 5}
	for set := range 1 << len(b.Counts) {
		out := members(set)
		sooner := len(out) < len(best) || len(out) == len(best) && slices.Compare(out, best) < 0
		if sooner && plainTruths(b, all, out) != nil {
			best = out
		}
	}
	return best
}

// ends are the least and the greatest number of some truths.
func ends(truths []real, number func(r real) int) api.Span {
	var l []int
	for _, r := range truths {
		l = append(l, number(r))
	}
	return span(slices.Min(l), slices.Max(l))
}

func anySpan(r *rand.Rand, least, most, apart int) api.Span {
	low := least + r.Intn(most-least+1)
	return span(low, min(most, low+r.Intn(apart+1)))
}

func anyCount(r *rand.Rand, b api.CandleBook) api.CandleCount {
	return count(r.Intn(len(b.Days)), r.Intn(2), r.Intn(60)-25, r.Intn(6))
}

// anyBook has so many days at most.
func anyBook(r *rand.Rand, most int) api.CandleBook {
	var b api.CandleBook
	for kind := range 2 {
		b.Stock[kind] = anySpan(r, 0, []int{9, 30, 60}[r.Intn(3)], api.CandleWide)
		b.Life[kind] = anySpan(r, 1, 6, api.CandleLean)
	}
	for range 1 + r.Intn(most) {
		b.Days = append(b.Days, day(r.Intn(7), anySpan(r, 0, 6, api.CandleWide), r.Intn(5), r.Intn(10)))
	}
	for range r.Intn(5) {
		b.Orders = append(b.Orders, order(r.Intn(len(b.Days)), r.Intn(2), r.Intn([]int{5, 20, 61}[r.Intn(3)])))
	}
	for range max(0, r.Intn(9)-3) {
		b.Counts = append(b.Counts, anyCount(r, b))
	}
	return b
}

// rightly tells only counts that are right in a truth of the book, but for the first ones that may be wrong.
func rightly(r *rand.Rand, days, wrong int) (api.CandleBook, real) {
	b := anyBook(r, days)
	all := plainAll(b)
	truth := all[r.Intn(len(all))]
	for i, c := range b.Counts {
		if i >= wrong {
			b.Counts[i].Left = plainLeft(b, truth, c.Kind, c.Day) + r.Intn(2*c.Error+1) - c.Error
		}
	}
	b.Counts = slices.DeleteFunc(b.Counts, func(c api.CandleCount) bool {
		return !within(c.Left, span(api.CandleLeast, api.CandleMost))
	})
	return b, truth
}

func within(n int, s api.Span) bool { return s.Low <= n && n <= s.High }

func deep(b api.CandleBook) api.CandleBook {
	b.Days, b.Orders, b.Counts = slices.Clone(b.Days), slices.Clone(b.Orders), slices.Clone(b.Counts)
	return b
}

func TestAgainstPlainTruths(t *testing.T) {
	r := rand.New(rand.NewSource(1))
	for n := range 1200 {
		b := anyBook(r, 4)
		if n%4 > 0 {
			b, _ = rightly(r, 4, n%4-1)
		}
		was, all := deep(b), plainAll(b)
		truths := plainTruths(b, all, nil)
		if is, e := candle.Right(b); is != (truths != nil) || e != api.OK {
			t.Fatalf("Right %+v: %v, %d", b, is, e)
		}
		if l, e := candle.Wrong(b); !slices.Equal(l, plainWrong(b, all)) || e != api.OK {
			t.Fatalf("Wrong %+v: %v, %d", b, l, e)
		}
		if truths == nil {
			testFalse(t, b)
		} else {
			testEnds(t, b, truths)
			testLacking(t, b, truths)
			testFits(t, b, truths, r)
		}
		if !reflect.DeepEqual(b, was) {
			t.Fatalf("changed: %+v, was %+v", b, was)
		}
	}
}

func testFalse(t *testing.T, b api.CandleBook) {
	t.Helper()
	_, c := candle.Left(b, 0, 0)
	_, d := candle.Life(b, 0)
	_, e := candle.Dark(b, 0)
	_, f := candle.Short(b, 0)
	_, g := candle.Surely(b, 0)
	_, h := candle.Buy(b, 0, 0)
	_, i := candle.Fits(b, count(0, 0, 0, 0))
	for k, e := range []api.Errno{c, d, e, f, g, h, i} {
		if e != api.ErrCandleFalse {
			t.Fatalf("call %d, %+v: %d", k, b, e)
		}
	}
}

func testEnds(t *testing.T, b api.CandleBook, truths []real) {
	t.Helper()
	for kind := range 2 {
		want := ends(truths, func(r real) int { return r.life[kind] })
		if s, e := candle.Life(b, kind); s != want || e != api.OK {
			t.Fatalf("Life %+v, %d: %v, %d", b, kind, s, e)
		}
		for day := range b.Days {
			want := ends(truths, func(r real) int { return plainLeft(b, r, kind, day) })
			if s, e := candle.Left(b, kind, day); s != want || e != api.OK {
				t.Fatalf("Left %+v, %d, %d: %v, %d", b, kind, day, s, e)
			}
		}
	}
	for day := range b.Days {
		want := ends(truths, func(r real) int { return r.dark[day] })
		if s, e := candle.Dark(b, day); s != want || e != api.OK {
			t.Fatalf("Dark %+v, %d: %v, %d", b, day, s, e)
		}
	}
}

func testLacking(t *testing.T, b api.CandleBook, truths []real) {
	t.Helper()
	for kind := range 2 {
		short, surely, buy := -1, -1, 0
		for day := len(b.Days) - 1; day >= 0; day-- {
			lack := 0
			for _, r := range truths {
				if left := plainLeft(b, r, kind, day); left < 0 {
					lack++
					buy = max(buy, -left)
				}
			}
			if lack > 0 {
				short = day
			}
			if lack == len(truths) {
				surely = day
			}
			if n, e := candle.Buy(b, kind, day); n != buy || e != api.OK {
				t.Fatalf("Buy %+v, %d, %d: %d, %d", b, kind, day, n, e)
			}
		}
		n, e := candle.Short(b, kind)
		testDay(t, b, n, short, e)
		n, e = candle.Surely(b, kind)
		testDay(t, b, n, surely, e)
	}
}

// testDay wants a day, or none if it is below 0.
func testDay(t *testing.T, b api.CandleBook, n, want int, e api.Errno) {
	t.Helper()
	wantE := api.OK
	if want < 0 {
		want, wantE = 0, api.ErrNone
	}
	if n != want || e != wantE {
		t.Fatalf("%+v: %d, %d, not %d, %d", b, n, e, want, wantE)
	}
}

func testFits(t *testing.T, b api.CandleBook, truths []real, r *rand.Rand) {
	t.Helper()
	for range 10 {
		c := anyCount(r, b)
		want := slices.ContainsFunc(truths, func(r real) bool { return plainRight(b, r, c) })
		if is, e := candle.Fits(b, c); is != want || e != api.OK {
			t.Fatalf("Fits %+v, %+v: %v, %d", b, c, is, e)
		}
	}
}

// P6.9
func TestHowLongCandlesLast(t *testing.T) {
	r := rand.New(rand.NewSource(2))
	for range 1000 {
		b, truth := rightly(r, 5, 0)
		if is, e := candle.Right(b); !is || e != api.OK {
			t.Fatalf("Right %+v: %v, %d", b, is, e)
		}
		if l, e := candle.Wrong(b); len(l) > 0 || e != api.OK {
			t.Fatalf("Wrong %+v: %v, %d", b, l, e)
		}
		for day, dark := range truth.dark {
			if s, e := candle.Dark(b, day); !within(dark, s) || e != api.OK {
				t.Fatalf("Dark %+v, %d: %v, %d", b, day, s, e)
			}
		}
		for kind := range 2 {
			if s, e := candle.Life(b, kind); !within(truth.life[kind], s) || e != api.OK {
				t.Fatalf("Life %+v, %d: %v, %d", b, kind, s, e)
			}
			testTruly(t, b, truth, kind)
		}
	}
}

func testTruly(t *testing.T, b api.CandleBook, truth real, kind int) {
	t.Helper()
	short, e := candle.Short(b, kind)
	surely, f := candle.Surely(b, kind)
	buy := 0
	for day := range b.Days {
		left := plainLeft(b, truth, kind, day)
		if s, e := candle.Left(b, kind, day); !within(left, s) || e != api.OK {
			t.Fatalf("Left %+v, %d, %d: %v, %d", b, kind, day, s, e)
		}
		if left < 0 && (e != api.OK || day < short) || f == api.OK && day == surely && left >= 0 {
			t.Fatalf("%+v: %d are left of %d on %d, but lacking from %d, %d, or %d, %d", b, left, kind, day, short, e, surely, f)
		}
		buy, _ = candle.Buy(b, kind, day)
		for later := day; later < len(b.Days); later++ {
			if plainLeft(b, truth, kind, later)+buy < 0 {
				t.Fatalf("Buy %+v, %d, %d: %d", b, kind, day, buy)
			}
		}
	}
}

// P6.10
func TestBothEndsCanBeCounted(t *testing.T) {
	r := rand.New(rand.NewSource(3))
	for range 300 {
		b, _ := rightly(r, 5, 0)
		for kind := range 2 {
			for day := range b.Days {
				s, _ := candle.Left(b, kind, day)
				for left, want := range map[int]bool{s.Low: true, s.High: true, s.Low - 1: false, s.High + 1: false} {
					if left > api.CandleMost {
						continue
					}
					if is, e := candle.Fits(b, count(day, kind, left, 0)); is != want || e != api.OK {
						t.Fatalf("Fits %+v, %d, %d, %d: %v, %d", b, kind, day, left, is, e)
					}
				}
			}
		}
	}
}

// P6.11
func TestOneCountMore(t *testing.T) {
	r := rand.New(rand.NewSource(4))
	isIn := func(s api.Span, e api.Errno, wide api.Span) bool {
		return e == api.OK && within(s.Low, wide) && within(s.High, wide)
	}
	for range 1000 {
		b, truth := rightly(r, 5, 0)
		b.Counts = b.Counts[:min(len(b.Counts), api.CandleCounts-1)]
		c := anyCount(r, b)
		c.Left = plainLeft(b, truth, c.Kind, c.Day)
		more := deep(b)
		more.Counts = append(more.Counts, c)
		for kind := range 2 {
			wide, _ := candle.Life(b, kind)
			if s, e := candle.Life(more, kind); !isIn(s, e, wide) {
				t.Fatalf("Life %+v, %d: %v, %d", more, kind, s, e)
			}
			was, f := candle.Short(b, kind)
			if n, e := candle.Short(more, kind); e == api.OK && (f != api.OK || n < was) {
				t.Fatalf("Short %+v, %d: %d, %d, was %d, %d", more, kind, n, e, was, f)
			}
			for day := range b.Days {
				wide, _ := candle.Left(b, kind, day)
				if s, e := candle.Left(more, kind, day); !isIn(s, e, wide) {
					t.Fatalf("Left %+v, %d, %d: %v, %d", more, kind, day, s, e)
				}
				was, _ := candle.Buy(b, kind, day)
				if n, e := candle.Buy(more, kind, day); n > was || e != api.OK {
					t.Fatalf("Buy %+v, %d, %d: %d, %d, was %d", more, kind, day, n, e, was)
				}
			}
		}
		for day := range b.Days {
			wide, _ := candle.Dark(b, day)
			if s, e := candle.Dark(more, day); !isIn(s, e, wide) {
				t.Fatalf("Dark %+v, %d: %v, %d", more, day, s, e)
			}
		}
	}
}

// P6.12: without counts, which would be others then.
func TestCandlesThatComeMore(t *testing.T) {
	r := rand.New(rand.NewSource(5))
	for range 1000 {
		b := anyBook(r, 5)
		b.Counts = nil
		b.Orders = b.Orders[:min(len(b.Orders), api.CandleOrders-1)]
		o := order(r.Intn(len(b.Days)), r.Intn(2), r.Intn(61))
		more := deep(b)
		more.Orders = append(more.Orders, o)
		for kind := range 2 {
			for day := range b.Days {
				want, _ := candle.Left(b, kind, day)
				if kind == o.Kind && day >= o.Day {
					want = span(want.Low+o.Many, want.High+o.Many)
				}
				if s, e := candle.Left(more, kind, day); s != want || e != api.OK {
					t.Fatalf("Left %+v, %d, %d: %v, not %v, %d", more, kind, day, s, want, e)
				}
			}
		}
	}
}

// P6.12
func TestDaysOnWhichNoneAreTaken(t *testing.T) {
	r := rand.New(rand.NewSource(6))
	for n := range 1000 {
		b, truth := rightly(r, 5, 0)
		b.Counts = nil
		kind, day := r.Intn(2), r.Intn(len(b.Days))
		switch n % 3 {
		case 0:
			b.Days[day].Lights[kind] = 0
		case 1:
			b.Days[day].Hours = 0
		case 2:
			b.Days[day].Dark, truth.dark[day] = just(0), 0
		}
		for range 3 {
			c := anyCount(r, b)
			c.Left = plainLeft(b, truth, c.Kind, c.Day)
			b.Counts = append(b.Counts, c)
		}
		b.Counts = slices.DeleteFunc(b.Counts, func(c api.CandleCount) bool { return c.Left > api.CandleMost })
		want := ends(plainTruths(b, plainAll(b), nil), func(r real) int { return r.stock[kind] })
		if day > 0 {
			want, _ = candle.Left(b, kind, day-1)
		}
		for _, o := range b.Orders {
			if o.Kind == kind && o.Day == day {
				want = span(want.Low+o.Many, want.High+o.Many)
			}
		}
		if s, e := candle.Left(b, kind, day); s != want || e != api.OK {
			t.Fatalf("Left %+v, %d, %d: %v, not %v, %d", b, kind, day, s, want, e)
		}
	}
}

// P6.13
func TestAsManyAsAreLacking(t *testing.T) {
	r := rand.New(rand.NewSource(7))
	for range 1000 {
		b, _ := rightly(r, 5, 0)
		for kind := range 2 {
			worst := 0
			for day := len(b.Days) - 1; day >= 0; day-- {
				s, _ := candle.Left(b, kind, day)
				later := worst
				worst = max(worst, -s.Low)
				if n, e := candle.Buy(b, kind, day); n != worst || n < later || e != api.OK {
					t.Fatalf("Buy %+v, %d, %d: %d, not %d, %d", b, kind, day, n, worst, e)
				}
			}
		}
	}
}

// P6.13: with as many none are lacking from the day on, with one fewer some are. Without counts, which would be others then.
func TestWhatIsBoughtIsEnough(t *testing.T) {
	r := rand.New(rand.NewSource(8))
	for range 1000 {
		b := anyBook(r, 5)
		b.Counts, b.Orders = nil, nil
		kind, day := r.Intn(2), r.Intn(len(b.Days))
		n, _ := candle.Buy(b, kind, day)
		if n > 4*api.CandleMany {
			continue
		}
		for fewer := range min(2, n+1) {
			bought := deep(b)
			for left := n - fewer; left > 0; left -= api.CandleMany {
				bought.Orders = append(bought.Orders, order(day, kind, min(left, api.CandleMany)))
			}
			lack := false
			for later := day; later < len(b.Days); later++ {
				s, _ := candle.Left(bought, kind, later)
				lack = lack || s.Low < 0
			}
			if lack != (fewer == 1) {
				t.Fatalf("Buy %+v, %d, %d: %d, with %d fewer: %v", b, kind, day, n, fewer, lack)
			}
		}
	}
}

// P6.14
func TestCountsThatMustBeWrong(t *testing.T) {
	r := rand.New(rand.NewSource(9))
	for range 500 {
		b, _ := rightly(r, 4, 3)
		wrong, e := candle.Wrong(b)
		if e != api.OK {
			t.Fatalf("Wrong %+v: %d", b, e)
		}
		for set := range 1 << len(b.Counts) {
			some, out := deep(b), members(set)
			some.Counts = nil
			for i, c := range b.Counts {
				if !slices.Contains(out, i) {
					some.Counts = append(some.Counts, c)
				}
			}
			is, _ := candle.Right(some)
			if slices.Equal(out, wrong) && !is || len(out) < len(wrong) && is {
				t.Fatalf("Wrong %+v: %v, but without %v: %v", b, wrong, out, is)
			}
		}
	}
}

// P6.1: the greatest book is calculated with, too.
func TestTheGreatestBook(t *testing.T) {
	b := api.CandleBook{
		Stock: [2]api.Span{span(58, 60), span(58, 60)},
		Life:  [2]api.Span{span(1, 2), span(1, 2)},
		Days:  slices.Repeat([]api.CandleDay{day(6, span(4, 6), 9, 9)}, 5),
	}
	if s, e := candle.Left(b, choir, 4); s != span(-212, -30) || e != api.OK {
		t.Errorf("Left: %v, %d", s, e)
	}
	if n, e := candle.Surely(b, altar); n != 3 || e != api.OK {
		t.Errorf("Surely: %d, %d", n, e)
	}
	if n, e := candle.Buy(b, altar, 0); n != 212 || e != api.OK {
		t.Errorf("Buy: %d, %d", n, e)
	}
	b.Counts = slices.Repeat([]api.CandleCount{count(4, choir, -212, 0), count(4, choir, -30, 0)}, 2)
	if l, e := candle.Wrong(b); !slices.Equal(l, []int{0, 2}) || e != api.OK {
		t.Errorf("Wrong: %v, %d", l, e)
	}
}

// P1: any arguments, also such as are not valid, are answered without a panic, and the same way twice (P2).
func TestAnyArguments(t *testing.T) {
	r := rand.New(rand.NewSource(10))
	odd := func() int {
		return []int{-1 << 63, -301, -300, -2, -1, 0, 1, 2, 3, 4, 5, 6, 7, 9, 60, 61, 300, 301, 1<<63 - 1}[r.Intn(19)]
	}
	for range 2000 {
		b := anyBook(r, 3)
		for range r.Intn(3) {
			switch n := r.Intn(7); {
			case n == 0:
				b.Stock[r.Intn(2)] = span(odd(), odd())
			case n == 1:
				b.Life[r.Intn(2)] = span(odd(), odd())
			case n == 2:
				b.Days = append(b.Days, day(odd(), span(odd(), odd()), odd(), odd()))
			case n == 3:
				b.Days = b.Days[:r.Intn(len(b.Days)+1)]
			case n == 4 && len(b.Orders) > 0:
				b.Orders[0] = order(odd(), odd(), odd())
			case n == 5:
				b.Life[0] = just(0)
			case len(b.Counts) > 0:
				b.Counts[0] = count(odd(), odd(), odd(), odd())
			}
		}
		kind, day, c := odd(), odd(), count(odd(), odd(), odd(), odd())
		if !reflect.DeepEqual(everything(b, kind, day, c), everything(b, kind, day, c)) {
			t.Fatalf("%+v: not the same twice", b)
		}
	}
}

func everything(b api.CandleBook, kind, day int, c api.CandleCount) []any {
	results := []any{candle.Check(b)}
	add := func(l ...any) { results = append(results, l...) }
	is, e := candle.Right(b)
	add(is, e)
	s, e := candle.Left(b, kind, day)
	add(s, e)
	s, e = candle.Life(b, kind)
	add(s, e)
	s, e = candle.Dark(b, day)
	add(s, e)
	n, e := candle.Short(b, kind)
	add(n, e)
	n, e = candle.Surely(b, kind)
	add(n, e)
	n, e = candle.Buy(b, kind, day)
	add(n, e)
	is, e = candle.Fits(b, c)
	add(is, e)
	l, e := candle.Wrong(b)
	add(l, e)
	return results
}
