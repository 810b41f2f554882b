package candle

import "decani/api"

// place is a kind and a day.
type place struct{ kind, day int }

// pair is a number of each kind of candles.
type pair [api.CandleChoir + 1]int

// tooFew is less than anybody can count.
const tooFew = api.CandleLeast - 1

// nothing stands for the candles that are left where there is no truth.
var nothing = pair{tooFew, tooFew}

// truth is how many candles there are at first, for how many hours one burns, for how many it is dark on each day, and how many candles are left at its end.
type truth struct {
	stock, life pair
	dark        [api.CandleDays]int
	left        [api.CandleDays]pair
}

// before returns how many candles are left at the end of the day before another one: before the first day all are.
func (t truth) before(day int) pair {
	if day == 0 {
		return t.stock
	}
	return t.left[day-1]
}

// lit returns for how many hours lights burn on a day on which it is sung for some.
func (t truth) lit(day, hours int) int { return min(hours, t.dark[day]) }

// needed returns how many candles of a kind a light takes that burns for some hours: what is left over takes one more.
func (t truth) needed(kind, hours int) int {
	life := t.life[kind]
	return (hours + life - 1) / life
}

// belies reports whether a count is not right.
func (t truth) belies(count api.CandleCount) bool {
	off := count.Left - t.left[count.Day][count.Kind]
	return !isIn(off, -count.Error, count.Error)
}

// belied returns the numbers of all counts that are not right, increasing.
func (t truth) belied(counts []api.CandleCount) []int {
	var belied []int
	for i, count := range counts {
		if t.belies(count) {
			belied = append(belied, i)
		}
	}
	return belied
}
