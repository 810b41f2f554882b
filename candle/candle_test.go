package candle_test

import (
	"math"
	"slices"
	"testing"

	"decani/api"
	"decani/candle"
)

const altar, choir = api.CandleAltar, api.CandleChoir

func span(low, high int) api.Span { return api.Span{Low: low, High: high} }

func just(n int) api.Span { return span(n, n) }

// day is a day with lights at the altar and in the choir.
func day(hours int, dark api.Span, altar, choir int) api.CandleDay {
	return api.CandleDay{Hours: hours, Dark: dark, Lights: [2]int{altar, choir}}
}

func order(day, kind, many int) api.CandleOrder {
	return api.CandleOrder{Day: day, Kind: kind, Many: many}
}

func count(day, kind, left, wrong int) api.CandleCount {
	return api.CandleCount{Day: day, Kind: kind, Left: left, Error: wrong}
}

type change func(b *api.CandleBook)

func stock(kind int, s api.Span) change { return func(b *api.CandleBook) { b.Stock[kind] = s } }

func life(kind int, s api.Span) change { return func(b *api.CandleBook) { b.Life[kind] = s } }

func days(l ...api.CandleDay) change {
	return func(b *api.CandleBook) { b.Days = slices.Clone(l) }
}

// on puts another day in the place of one.
func on(n int, d api.CandleDay) change {
	return func(b *api.CandleBook) {
		b.Days = slices.Clone(b.Days)
		b.Days[n] = d
	}
}

func orders(l ...api.CandleOrder) change {
	return func(b *api.CandleBook) { b.Orders = slices.Clone(l) }
}

func counts(l ...api.CandleCount) change {
	return func(b *api.CandleBook) { b.Counts = slices.Clone(l) }
}

// changed is a book with changes.
func changed(b api.CandleBook, changes ...change) api.CandleBook {
	for _, c := range changes {
		c(&b)
	}
	return b
}

// book is that of the chapter's examples, changed.
func book(changes ...change) api.CandleBook {
	return changed(api.CandleBook{
		Stock:  [2]api.Span{span(10, 11), just(30)},
		Life:   [2]api.Span{span(2, 3), just(4)},
		Days:   []api.CandleDay{day(4, span(3, 4), 2, 6), day(3, just(5), 2, 6), day(6, span(4, 6), 4, 6)},
		Orders: []api.CandleOrder{order(2, altar, 4)},
	}, changes...)
}

var (
	counted = counts(count(0, altar, 8, 0))
	torn    = counts(count(0, altar, 8, 0), count(1, altar, 3, 0))
	// keen are candles of the choir that tell for how long it is dark on the day 0.
	keen = life(choir, just(3))
)

// plain is a book of so many candles at the altar that burn for so many hours, and none in the choir.
func plain(many, hours int, l ...api.CandleDay) api.CandleBook {
	return api.CandleBook{
		Stock: [2]api.Span{just(many), just(0)},
		Life:  [2]api.Span{just(hours), just(1)},
		Days:  l,
	}
}

// dark is a day on which it is sung in the dark for some hours, with lights at the altar.
func dark(hours, altar int) api.CandleDay { return day(hours, just(hours), altar, 0) }

// swapped is a book in which an altar candle is lacking either on the day 0, or on the day 1: it is dark for one hour of both together.
func swapped() api.CandleBook {
	return changed(plain(0, 1, day(1, span(0, 1), 1, 1), day(1, span(0, 1), 2, 1)),
		stock(choir, just(9)), orders(order(1, altar, 1)), counts(count(1, choir, 8, 0)))
}

// invalid are changes that each make the book of the examples a wrong one.
var invalid = map[string]change{
	"nothing":               func(b *api.CandleBook) { *b = api.CandleBook{} },
	"stock below 0":         stock(altar, span(-1, 0)),
	"stock too great":       stock(choir, span(59, 61)),
	"stock too wide":        stock(choir, span(30, 33)),
	"stock ends first":      stock(altar, span(11, 10)),
	"stock of all":          stock(altar, span(math.MinInt, math.MaxInt)),
	"life of no hour":       life(altar, span(0, 1)),
	"life too long":         life(choir, span(6, 7)),
	"life too wide":         life(altar, span(2, 4)),
	"life ends first":       life(choir, span(4, 3)),
	"life of all":           life(choir, span(math.MinInt, math.MaxInt)),
	"no day":                func(b *api.CandleBook) { b.Days, b.Orders = nil, nil },
	"too many days":         days(make([]api.CandleDay, api.CandleDays+1)...),
	"hours below 0":         on(0, day(-1, just(3), 2, 6)),
	"too many hours":        on(2, day(7, just(3), 2, 6)),
	"dark below 0":          on(1, day(3, span(-1, 0), 2, 6)),
	"dark for too long":     on(1, day(3, span(5, 7), 2, 6)),
	"dark too wide":         on(2, day(6, span(3, 6), 4, 6)),
	"dark ends first":       on(0, day(4, span(4, 3), 2, 6)),
	"dark of all":           on(0, day(4, span(math.MinInt, math.MaxInt), 2, 6)),
	"altar lights below 0":  on(0, day(4, just(3), -1, 6)),
	"too many altar lights": on(1, day(4, just(3), 10, 6)),
	"choir lights below 0":  on(2, day(4, just(3), 2, -1)),
	"too many choir lights": on(0, day(4, just(3), 2, 10)),
	"order's day 3":         orders(order(0, altar, 4), order(3, altar, 4)),
	"order's day -1":        orders(order(-1, altar, 4)),
	"order's kind 2":        orders(order(0, 2, 4)),
	"order's kind -1":       orders(order(0, -1, 4)),
	"order of too many":     orders(order(2, choir, 61)),
	"order below 0":         orders(order(2, choir, -1)),
	"too many orders":       orders(make([]api.CandleOrder, api.CandleOrders+1)...),
	"count's day 3":         counts(count(0, altar, 8, 0), count(3, altar, 8, 0)),
	"count's day -1":        counts(count(-1, altar, 8, 0)),
	"count's kind 2":        counts(count(0, 2, 8, 0)),
	"count's kind -1":       counts(count(0, -1, 8, 0)),
	"count tells too few":   counts(count(0, altar, -301, 0)),
	"count tells too many":  counts(count(0, altar, 301, 0)),
	"count too wrong":       counts(count(0, altar, 8, 6)),
	"count's error below 0": counts(count(0, altar, 8, -1)),
	"too many counts":       counts(slices.Repeat([]api.CandleCount{count(0, altar, 8, 0)}, api.CandleCounts+1)...),
}

// valid are changes to the limits of what a book can be.
var valid = map[string]change{
	"as it is": func(*api.CandleBook) {},
	"all least": func(b *api.CandleBook) {
		*b = api.CandleBook{Life: [2]api.Span{just(1), just(1)}, Days: make([]api.CandleDay, 1)}
	},
	"all greatest": func(b *api.CandleBook) {
		*b = api.CandleBook{
			Stock: [2]api.Span{span(58, 60), span(58, 60)},
			Life:  [2]api.Span{span(5, 6), span(5, 6)},
			Days:  slices.Repeat([]api.CandleDay{day(6, span(4, 6), 9, 9)}, 5),
		}
	},
	"widest at 0":        func(b *api.CandleBook) { b.Stock[0], b.Life[0], b.Days[0].Dark = span(0, 2), span(1, 2), span(0, 2) },
	"all orders":         orders(order(2, choir, 60), order(0, altar, 0), order(2, choir, 60), order(1, altar, 60)),
	"empty orders":       func(b *api.CandleBook) { b.Orders = []api.CandleOrder{} },
	"all counts":         counts(slices.Repeat([]api.CandleCount{count(2, choir, -300, 5)}, 5)...),
	"greatest count":     counts(count(2, choir, 300, 0)),
	"same count twice":   counts(count(0, altar, 8, 0), count(0, altar, 8, 0)),
	"empty counts":       func(b *api.CandleBook) { b.Counts = []api.CandleCount{} },
	"false as it is":     torn,
	"dark while no song": on(0, day(0, span(4, 6), 9, 9)),
}

// P6.1
func TestCheck(t *testing.T) {
	for name, c := range valid {
		if e := candle.Check(book(c)); e != api.OK {
			t.Errorf("%s: %d", name, e)
		}
	}
	for name, c := range invalid {
		b := book(c)
		// What is asked is wrong, too: the error of the book comes first.
		errors := []api.Errno{candle.Check(b)}
		is, e := candle.Right(b)
		errors = append(errors, e)
		left, e := candle.Left(b, 2, 9)
		errors = append(errors, e)
		life, e := candle.Life(b, -1)
		errors = append(errors, e)
		dark, e := candle.Dark(b, -1)
		errors = append(errors, e)
		short, e := candle.Short(b, 2)
		errors = append(errors, e)
		surely, e := candle.Surely(b, -1)
		errors = append(errors, e)
		buy, e := candle.Buy(b, 2, -1)
		errors = append(errors, e)
		fits, e := candle.Fits(b, count(9, 9, 999, 9))
		errors = append(errors, e)
		wrong, e := candle.Wrong(b)
		errors = append(errors, e)
		for i, e := range errors {
			if e != api.ErrCandle {
				t.Errorf("%s: call %d: %d", name, i, e)
			}
		}
		if is || fits || left != life || life != dark || dark != (api.Span{}) || short != 0 || surely != 0 || buy != 0 || len(wrong) != 0 {
			t.Errorf("%s: a result beside the error", name)
		}
	}
}

// P6.1
func TestRight(t *testing.T) {
	for i, x := range []struct {
		b    api.CandleBook
		want bool
	}{
		{book(), true},
		{book(counted), true},
		{book(torn), false},
		{book(counts(count(1, altar, 3, 0))), true},
		// 6 to 9 are left.
		{book(counts(count(0, altar, 5, 0))), false},
		{book(counts(count(0, altar, 5, 1))), true},
		{book(counts(count(0, altar, 1, 5))), true},
		{book(counts(count(0, altar, 0, 5))), false},
		{book(counts(count(0, altar, 10, 0))), false},
		{book(counts(count(0, altar, 10, 1))), true},
		{book(counts(count(0, altar, 14, 5))), true},
		{book(counts(count(0, altar, 15, 5))), false},
		{book(counts(count(0, altar, 300, 5))), false},
		{book(counts(count(0, altar, -300, 5))), false},
		// It is dark for both kinds: if for 3 hours, a choir light takes one candle, if for 4, two.
		{book(keen, counts(count(0, choir, 24, 0), count(0, altar, 8, 0))), true},
		{book(keen, counts(count(0, choir, 18, 0), count(0, altar, 8, 0))), false},
		{book(keen, counts(count(0, choir, 18, 5), count(0, altar, 8, 0))), false},
		{book(keen, counts(count(0, choir, 19, 5), count(0, altar, 8, 0))), true},
		{book(keen, counts(count(0, altar, 8, 0), count(0, choir, 18, 0))), false},
		{book(keen, counts(count(0, choir, 18, 0), count(0, altar, 7, 0))), true},
		// What is counted on a later day tells of the days before.
		{book(counts(count(0, altar, 6, 0), count(1, altar, 3, 0))), false},
		{book(counts(count(0, altar, 7, 0), count(1, altar, 3, 0))), true},
		{book(counts(count(1, altar, 3, 0), count(0, altar, 7, 0))), true},
		{book(counts(count(0, altar, 9, 0), count(1, altar, 7, 0), count(2, altar, 3, 0))), true},
		{book(counts(count(0, altar, 9, 0), count(1, altar, 7, 0), count(2, altar, 4, 0))), false},
		// None are counted from one kind as the other one.
		{book(counts(count(0, choir, 8, 0))), false},
		{book(counts(count(0, choir, 24, 0))), true},
	} {
		if is, e := candle.Right(x.b); is != x.want || e != api.OK {
			t.Errorf("Right %d: %v, %d", i, is, e)
		}
	}
}

// P6.2
func TestLeft(t *testing.T) {
	greatest := plain(0, 1, slices.Repeat([]api.CandleDay{dark(6, 9)}, 5)...)
	for i, x := range []struct {
		b         api.CandleBook
		kind, day int
		want      api.Span
		e         api.Errno
	}{
		{book(), altar, 0, span(6, 9), api.OK},
		{book(), altar, 1, span(2, 7), api.OK},
		{book(), altar, 2, span(-6, 3), api.OK},
		{book(), choir, 0, just(24), api.OK},
		{book(), choir, 2, span(6, 12), api.OK},
		{book(counted), altar, 0, just(8), api.OK},
		{book(counted), altar, 2, just(2), api.OK},
		{book(counted), choir, 2, span(6, 12), api.OK},
		{book(keen), choir, 0, span(18, 24), api.OK},
		{book(keen, counted), choir, 0, just(24), api.OK},
		{book(counts(count(0, altar, 8, 1))), altar, 0, span(7, 9), api.OK},
		{book(counts(count(2, choir, 12, 0))), altar, 2, span(-2, 3), api.OK},
		// Orders come on their days, all of them, each of its kind.
		{book(orders()), altar, 2, span(-10, -1), api.OK},
		{book(orders(order(0, altar, 4))), altar, 0, span(10, 13), api.OK},
		{book(orders(order(1, altar, 4))), altar, 0, span(6, 9), api.OK},
		{book(orders(order(1, altar, 4))), altar, 1, span(6, 11), api.OK},
		{book(orders(order(1, altar, 4))), altar, 2, span(-6, 3), api.OK},
		{book(orders(order(1, altar, 4))), choir, 1, just(18), api.OK},
		{book(orders(order(1, choir, 4))), choir, 1, just(22), api.OK},
		{book(orders(order(1, altar, 4), order(0, altar, 1), order(1, altar, 4), order(1, choir, 60))), altar, 1, span(11, 16), api.OK},
		{changed(plain(60, 1, dark(0, 0)), orders(slices.Repeat([]api.CandleOrder{order(0, altar, 60)}, 4)...)), altar, 0, just(300), api.OK},
		// A light takes a candle for each so many hours, and one more for what is left over.
		{plain(20, 6, dark(6, 1)), altar, 0, just(19), api.OK},
		{plain(20, 5, dark(6, 1)), altar, 0, just(18), api.OK},
		{plain(20, 4, dark(6, 1)), altar, 0, just(18), api.OK},
		{plain(20, 3, dark(6, 1)), altar, 0, just(18), api.OK},
		{plain(20, 2, dark(5, 1)), altar, 0, just(17), api.OK},
		{plain(20, 2, dark(6, 1)), altar, 0, just(17), api.OK},
		{plain(20, 1, dark(6, 1)), altar, 0, just(14), api.OK},
		{plain(20, 6, dark(1, 1)), altar, 0, just(19), api.OK},
		// No light burns a stub of another one, or of another day.
		{plain(20, 4, dark(2, 3)), altar, 0, just(17), api.OK},
		{plain(20, 4, dark(5, 3)), altar, 0, just(14), api.OK},
		{plain(20, 4, dark(2, 1), dark(2, 1)), altar, 1, just(18), api.OK},
		// It burns while it is sung and dark: for the fewer hours of both.
		{plain(20, 1, day(2, just(6), 1, 0)), altar, 0, just(18), api.OK},
		{plain(20, 1, day(6, just(2), 1, 0)), altar, 0, just(18), api.OK},
		{plain(20, 1, day(2, span(1, 3), 1, 0)), altar, 0, span(18, 19), api.OK},
		{plain(20, 1, day(6, span(0, 2), 1, 0)), altar, 0, span(18, 20), api.OK},
		// None are taken where nothing burns.
		{plain(20, 1, dark(0, 9)), altar, 0, just(20), api.OK},
		{plain(20, 1, day(0, just(6), 9, 0)), altar, 0, just(20), api.OK},
		{plain(20, 1, day(6, just(0), 9, 0)), altar, 0, just(20), api.OK},
		{plain(20, 1, dark(6, 0)), altar, 0, just(20), api.OK},
		{plain(20, 1, day(6, just(6), 0, 1)), altar, 0, just(20), api.OK},
		{plain(20, 1, day(6, just(6), 0, 1)), choir, 0, just(-6), api.OK},
		{greatest, altar, 0, just(-54), api.OK},
		{greatest, altar, 4, just(-270), api.OK},
		{book(), 2, 0, api.Span{}, api.ErrCandleAsk},
		{book(), -1, 0, api.Span{}, api.ErrCandleAsk},
		{book(), 0, 3, api.Span{}, api.ErrCandleAsk},
		{book(), 1, -1, api.Span{}, api.ErrCandleAsk},
		{book(torn), 0, 3, api.Span{}, api.ErrCandleAsk},
		{book(torn), 2, 0, api.Span{}, api.ErrCandleAsk},
		{book(torn), choir, 0, api.Span{}, api.ErrCandleFalse},
	} {
		if s, e := candle.Left(x.b, x.kind, x.day); s != x.want || e != x.e {
			t.Errorf("Left %d: %v, %d", i, s, e)
		}
	}
}

// P6.3
func TestLife(t *testing.T) {
	for i, x := range []struct {
		b    api.CandleBook
		kind int
		want api.Span
		e    api.Errno
	}{
		{book(), altar, span(2, 3), api.OK},
		{book(), choir, just(4), api.OK},
		{book(counted), altar, just(3), api.OK},
		{book(counts(count(0, altar, 6, 0))), altar, span(2, 3), api.OK},
		{book(counts(count(1, altar, 3, 0))), altar, just(2), api.OK},
		{book(life(choir, span(5, 6)), counts(count(2, choir, 6, 0))), choir, just(5), api.OK},
		{book(life(choir, span(5, 6)), counts(count(2, choir, 12, 0))), choir, span(5, 6), api.OK},
		{book(life(altar, span(5, 6))), altar, span(5, 6), api.OK},
		{book(), 2, api.Span{}, api.ErrCandleAsk},
		{book(torn), -1, api.Span{}, api.ErrCandleAsk},
		{book(torn), choir, api.Span{}, api.ErrCandleFalse},
	} {
		if s, e := candle.Life(x.b, x.kind); s != x.want || e != x.e {
			t.Errorf("Life %d: %v, %d", i, s, e)
		}
	}
}

// P6.3
func TestDark(t *testing.T) {
	for i, x := range []struct {
		b    api.CandleBook
		day  int
		want api.Span
		e    api.Errno
	}{
		{book(), 0, span(3, 4), api.OK},
		{book(), 1, just(5), api.OK},
		{book(), 2, span(4, 6), api.OK},
		{book(counted), 0, just(3), api.OK},
		{book(counted), 2, span(4, 6), api.OK},
		{book(counts(count(2, choir, 12, 0))), 2, just(4), api.OK},
		{book(counts(count(2, choir, 6, 0))), 2, span(5, 6), api.OK},
		{book(keen, counts(count(0, choir, 18, 0))), 0, just(4), api.OK},
		// It is known what is dark beyond what is sung, but not by counts.
		{book(on(1, day(3, span(4, 6), 2, 6)), counted), 1, span(4, 6), api.OK},
		{book(), 3, api.Span{}, api.ErrCandleAsk},
		{book(), -1, api.Span{}, api.ErrCandleAsk},
		{book(days(day(0, just(0), 0, 0)), orders()), 1, api.Span{}, api.ErrCandleAsk},
		{book(torn), 3, api.Span{}, api.ErrCandleAsk},
		{book(torn), 1, api.Span{}, api.ErrCandleFalse},
	} {
		if s, e := candle.Dark(x.b, x.day); s != x.want || e != x.e {
			t.Errorf("Dark %d: %v, %d", i, s, e)
		}
	}
}

// P6.4
func TestShortAndSurely(t *testing.T) {
	const none = -1
	for i, x := range []struct {
		b                   api.CandleBook
		kind, short, surely int
	}{
		{book(), altar, 2, none},
		{book(), choir, none, none},
		{book(counted), altar, none, none},
		{book(orders()), altar, 2, 2},
		{book(stock(altar, span(0, 2))), altar, 0, 1},
		{book(stock(altar, span(2, 4))), altar, 0, 2},
		{book(stock(choir, span(10, 12))), choir, 1, 2},
		{book(stock(choir, span(4, 6))), choir, 0, 1},
		{book(stock(choir, span(4, 6))), altar, 2, none},
		// Who has none left lacks none.
		{plain(6, 1, dark(2, 3)), altar, none, none},
		{plain(5, 1, dark(2, 3)), altar, 0, 0},
		{plain(6, 1, dark(2, 3), dark(1, 1)), altar, 1, 1},
		{changed(plain(5, 1, dark(2, 3)), stock(altar, span(5, 6))), altar, 0, none},
		// Orders come before the lights burn, but not a day too late.
		{changed(plain(5, 1, dark(2, 3), dark(0, 0)), orders(order(0, altar, 1))), altar, none, none},
		{changed(plain(5, 1, dark(2, 3), dark(0, 0)), orders(order(1, altar, 1))), altar, 0, 0},
		{changed(plain(6, 1, dark(2, 3), dark(1, 1), dark(0, 0)), orders(order(2, altar, 9))), altar, 1, 1},
		// Surely on one day: it is not enough that some are lacking on some day in each truth.
		{swapped(), altar, 0, none},
		{changed(swapped(), orders()), altar, 0, 1},
		{changed(swapped(), counts()), altar, 0, none},
		{changed(swapped(), counts(count(0, choir, 8, 0))), altar, 0, 0},
		{changed(swapped(), counts(count(0, choir, 9, 0), count(1, choir, 8, 0))), altar, 1, 1},
	} {
		for _, call := range []struct {
			name string
			f    func(b api.CandleBook, kind int) (int, api.Errno)
			want int
		}{{"Short", candle.Short, x.short}, {"Surely", candle.Surely, x.surely}} {
			wantE := api.OK
			if call.want == none {
				call.want, wantE = 0, api.ErrNone
			}
			if n, e := call.f(x.b, x.kind); n != call.want || e != wantE {
				t.Errorf("%s %d: %d, %d", call.name, i, n, e)
			}
			for _, kind := range []int{-1, 2} {
				if n, e := call.f(x.b, kind); n != 0 || e != api.ErrCandleAsk {
					t.Errorf("%s %d, of %d: %d, %d", call.name, i, kind, n, e)
				}
				if n, e := call.f(book(torn), kind); n != 0 || e != api.ErrCandleAsk {
					t.Errorf("%s, torn, of %d: %d, %d", call.name, kind, n, e)
				}
			}
			if n, e := call.f(book(torn), x.kind); n != 0 || e != api.ErrCandleFalse {
				t.Errorf("%s, torn: %d, %d", call.name, n, e)
			}
		}
	}
}

// P6.5
func TestBuy(t *testing.T) {
	early := changed(plain(0, 1, dark(1, 3), dark(0, 0), dark(1, 4)), orders(order(1, altar, 5)))
	for i, x := range []struct {
		b               api.CandleBook
		kind, day, want int
		e               api.Errno
	}{
		{book(), altar, 0, 6, api.OK},
		{book(), altar, 1, 6, api.OK},
		{book(), altar, 2, 6, api.OK},
		{book(), choir, 0, 0, api.OK},
		{book(counted), altar, 2, 0, api.OK},
		{book(orders()), altar, 0, 10, api.OK},
		{book(stock(choir, span(4, 6))), choir, 0, 20, api.OK},
		{book(stock(choir, span(4, 6)), counts(count(0, choir, 0, 0))), choir, 0, 18, api.OK},
		{book(stock(choir, span(4, 6))), altar, 0, 6, api.OK},
		// At the worst 3 are lacking on the day 0, and 2 on the day 2; those of days before are not bought any more.
		{early, altar, 0, 3, api.OK},
		{early, altar, 1, 2, api.OK},
		{early, altar, 2, 2, api.OK},
		// What is lacking on one day is not made up for by what comes on a later one.
		{changed(plain(0, 1, dark(1, 3), dark(0, 0)), orders(order(1, altar, 9))), altar, 0, 3, api.OK},
		{changed(plain(0, 1, dark(1, 3), dark(0, 0)), orders(order(1, altar, 9))), altar, 1, 0, api.OK},
		{plain(6, 1, dark(2, 3)), altar, 0, 0, api.OK},
		{plain(5, 1, dark(2, 3)), altar, 0, 1, api.OK},
		{plain(0, 1, slices.Repeat([]api.CandleDay{dark(6, 9)}, 5)...), altar, 4, 270, api.OK},
		{swapped(), altar, 0, 1, api.OK},
		{book(), 2, 0, 0, api.ErrCandleAsk},
		{book(), -1, 0, 0, api.ErrCandleAsk},
		{book(), altar, 3, 0, api.ErrCandleAsk},
		{book(torn), altar, -1, 0, api.ErrCandleAsk},
		{book(torn), 2, 0, 0, api.ErrCandleAsk},
		{book(torn), altar, 0, 0, api.ErrCandleFalse},
	} {
		if n, e := candle.Buy(x.b, x.kind, x.day); n != x.want || e != x.e {
			t.Errorf("Buy %d: %d, %d", i, n, e)
		}
	}
}

// P6.6
func TestFits(t *testing.T) {
	five := counts(slices.Repeat([]api.CandleCount{count(0, altar, 8, 0)}, 5)...)
	for i, x := range []struct {
		b    api.CandleBook
		c    api.CandleCount
		want bool
		e    api.Errno
	}{
		{book(), count(0, altar, 5, 0), false, api.OK},
		{book(), count(0, altar, 5, 1), true, api.OK},
		{book(), count(0, altar, 9, 0), true, api.OK},
		{book(), count(0, altar, 10, 0), false, api.OK},
		{book(), count(2, altar, -6, 0), true, api.OK},
		{book(), count(2, altar, -7, 0), false, api.OK},
		{book(), count(2, choir, 9, 2), false, api.OK},
		{book(), count(2, choir, 9, 3), true, api.OK},
		{book(), count(0, altar, -300, 5), false, api.OK},
		{book(), count(0, altar, 300, 5), false, api.OK},
		{book(counted), count(1, altar, 6, 0), true, api.OK},
		{book(counted), count(1, altar, 3, 0), false, api.OK},
		// There can be a sixth count.
		{book(five), count(1, altar, 6, 0), true, api.OK},
		{book(five), count(1, altar, 3, 0), false, api.OK},
		{book(five), count(1, altar, 6, 6), false, api.ErrCandleAsk},
		{book(), count(0, 2, 8, 0), false, api.ErrCandleAsk},
		{book(), count(0, -1, 8, 0), false, api.ErrCandleAsk},
		{book(), count(3, altar, 8, 0), false, api.ErrCandleAsk},
		{book(), count(-1, altar, 8, 0), false, api.ErrCandleAsk},
		{book(), count(0, altar, 301, 0), false, api.ErrCandleAsk},
		{book(), count(0, altar, -301, 0), false, api.ErrCandleAsk},
		{book(), count(0, altar, 8, 6), false, api.ErrCandleAsk},
		{book(torn), count(0, altar, 8, -1), false, api.ErrCandleAsk},
		{book(torn), count(0, altar, 8, 0), false, api.ErrCandleFalse},
	} {
		if is, e := candle.Fits(x.b, x.c); is != x.want || e != x.e {
			t.Errorf("Fits %d: %v, %d", i, is, e)
		}
	}
}

// P6.7
func TestWrong(t *testing.T) {
	eight, three, six := count(0, altar, 8, 0), count(1, altar, 3, 0), count(1, altar, 6, 0)
	more := stock(choir, span(30, 31))
	few, many := count(0, choir, 24, 0), count(0, choir, 25, 0)
	for i, x := range []struct {
		b    api.CandleBook
		want []int
	}{
		{book(), nil},
		{book(counted), nil},
		{book(torn), []int{0}},
		{book(counts(three, eight)), []int{0}},
		{book(counts(eight, three, six)), []int{1}},
		{book(counts(eight, three, three)), []int{0}},
		// One that comes later is better than two.
		{book(counts(three, three, eight)), []int{2}},
		{book(counts(eight, three, six, three)), []int{0, 2}},
		{book(counts(count(0, altar, 300, 5), eight, count(2, choir, 0, 5), three)), []int{0, 1, 2}},
		{book(counts(slices.Repeat([]api.CandleCount{count(0, altar, -300, 5)}, 5)...)), []int{0, 1, 2, 3, 4}},
		// Of several lists of two the first one.
		{book(more, counts(eight, three, few, many)), []int{0, 2}},
		{book(more, counts(few, eight, three, many)), []int{0, 1}},
		{book(more, counts(many, few, six, three, eight)), []int{0, 3}},
		// An error is enough, or not.
		{book(counts(eight, count(1, altar, 3, 3))), nil},
		{book(counts(eight, count(1, altar, 3, 2))), []int{0}},
	} {
		if l, e := candle.Wrong(x.b); !slices.Equal(l, x.want) || e != api.OK {
			t.Errorf("Wrong %d: %v, %d", i, l, e)
		}
	}
}

// P6.8: lists have room for more, so that whoever writes behind their ends is found out.
func TestMemory(t *testing.T) {
	days := [5]api.CandleDay{day(4, span(3, 4), 2, 6), day(3, just(5), 2, 6), day(6, span(4, 6), 4, 6)}
	come := [4]api.CandleOrder{order(2, altar, 4), order(0, altar, 9), order(0, altar, 9), order(0, altar, 9)}
	told := [7]api.CandleCount{count(0, altar, 8, 0), count(1, altar, 3, 0), count(0, choir, 9, 0), count(0, choir, 9, 0), count(0, choir, 9, 0), count(0, choir, 9, 0), count(0, choir, 9, 0)}
	wasDays, wasCome, wasTold := days, come, told
	b := book()
	b.Days, b.Orders, b.Counts = days[:3], come[:1], told[:1]
	if is, e := candle.Fits(b, count(1, altar, 6, 0)); !is || e != api.OK {
		t.Errorf("Fits: %v, %d", is, e)
	}
	candle.Left(b, altar, 2)
	candle.Buy(b, altar, 0)
	b.Counts = told[:2]
	one, d := candle.Wrong(b)
	other, e := candle.Wrong(b)
	if len(one) == 0 || d != api.OK || e != api.OK {
		t.Fatalf("Wrong: %v, %d, %d", one, d, e)
	}
	one[0] = 99
	if other[0] == 99 || days != wasDays || come != wasCome || told != wasTold {
		t.Errorf("shared memory: %v, %v, %v, %v", other, days, come, told)
	}
}
