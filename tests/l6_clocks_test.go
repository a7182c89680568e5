package tests

import (
	"fmt"
	"math"
	"reflect"
	"slices"
	"strings"
	"testing"

	"loop.example/g01265/impl"
)

// clockDigits are the digits of all times, hours first, in ascending order.
var clockDigits = digitsOfTheDay()

// noTimes are numbers that are not valid as times.
var noTimes = []int{
	-1, -2, -59, -60, -61, -1439, -1440, -1441, 1440, 1441, 1499, 1500, 2400, 2880, 1 << 31, 1 << 32, 1<<32 + 20, math.MaxInt, math.MaxInt - 1439, math.MinInt, math.MinInt + 20, math.MinInt + 1440,
}

// mirroredWritten are the times to which all times mirror, -1 for those that mirror to none.
var mirroredWritten = mirroredDay()

// mirrorTimes are all times that mirror to one: each of these hours with each of these minutes.
var mirrorTimes = timesOf([]int{0, 2, 5, 20, 22}, []int{0, 5, 20, 50, 55})

// turnTimes are all times that turn to one.
var turnTimes = timesOf([]int{0, 2, 5, 20, 22}, []int{0, 2, 20, 22, 50})

// mirrorPairs are the pairs of different times that mirror to one another, written out by hand.
var mirrorPairs = [][2]int{
	{at(0, 5), at(20, 0)}, {at(0, 20), at(5, 0)}, {at(0, 50), at(2, 0)}, {at(0, 55), at(22, 0)}, {at(2, 5), at(20, 50)},
	{at(2, 20), at(5, 50)}, {at(2, 55), at(22, 50)}, {at(5, 5), at(20, 20)}, {at(5, 55), at(22, 20)}, {at(20, 55), at(22, 5)},
}

func at(hours, minutes int) int { return 60*hours + minutes }

func digitsOfTheDay() []string {
	var all []string
	for hours := range 24 {
		for minutes := range 60 {
			all = append(all, fmt.Sprintf("%02d%02d", hours, minutes))
		}
	}
	return all
}

func timesOf(hours, minutes []int) []int {
	var times []int
	for _, h := range hours {
		for _, m := range minutes {
			times = append(times, at(h, m))
		}
	}
	return times
}

// everyTime returns all times that are as wanted, in ascending order.
func everyTime(wanted func(t int) bool) []int {
	var times []int
	for t := range clockDigits {
		if wanted(t) {
			times = append(times, t)
		}
	}
	return times
}

// timeOfDigits returns the time that has some digits, and -1 if there is none.
func timeOfDigits(digits string) int { return slices.Index(clockDigits, digits) }

// mirroredByDigits returns the time to which a time mirrors, and -1 if there is none.
func mirroredByDigits(t int) int {
	digits := ""
	for _, digit := range clockDigits[t] {
		place := strings.IndexRune("0258", digit)
		if place < 0 {
			return -1
		}
		digits = "0528"[place:place+1] + digits
	}
	return timeOfDigits(digits)
}

func mirroredDay() []int {
	var all []int
	for t := range clockDigits {
		all = append(all, mirroredByDigits(t))
	}
	return all
}

// turnedByDigits returns the time to which a time turns, and -1 if there is none.
func turnedByDigits(t int) int {
	digits, _ := turnedDigits(clockDigits[t])
	return timeOfDigits(digits)
}

// litByDigits returns how many bars of the digits of a time light.
func litByDigits(t int) int {
	lit := 0
	for _, digit := range clockDigits[t] {
		lit += len(digitLetters[digit-'0'])
	}
	return lit
}

// fitsByDigits reports whether each cell of a time is that of a list, or -1 stands there.
func fitsByDigits(t int, pattern []int) bool {
	for place, cell := range shownBy(clockDigits[t]) {
		if pattern[place] != -1 && pattern[place] != cell {
			return false
		}
	}
	return true
}

func TestLimitsOfClocks(t *testing.T) {
	if impl.DayMinutes != 1440 || len(clockDigits) != 1440 {
		t.Error("DayMinutes", impl.DayMinutes)
	}
}

func TestClockRow(t *testing.T) {
	for time, digits := range clockDigits {
		if row, ok := impl.ClockRow(time); !ok || !slices.Equal(row, shownBy(digits)) {
			t.Errorf("the row of %d: %v, %v, not that of %s", time, row, ok, digits)
		}
	}
	for time, want := range map[int][]int{
		0: {63, 63, 63, 63}, 1: {63, 63, 63, 6}, 59: {63, 63, 109, 111}, 60: {63, 6, 63, 63}, 61: {63, 6, 63, 6}, 754: {6, 91, 79, 102}, 1439: {91, 79, 109, 111},
	} {
		if row, ok := impl.ClockRow(time); !ok || !slices.Equal(row, want) {
			t.Errorf("the row of %d: %v, %v", time, row, ok)
		}
	}
}

func TestTimesLeadBackFromTheirRows(t *testing.T) {
	for time := range clockDigits {
		row, _ := impl.ClockRow(time)
		if back, ok := impl.TimeOfRow(row); !ok || back != time {
			t.Errorf("the time of %v: %d, %v, not %d", row, back, ok, time)
		}
	}
}

func TestTimeOfRowOfAllDigits(t *testing.T) {
	shown := 0
	for number := range 10000 {
		digits := fmt.Sprintf("%04d", number)
		want := timeOfDigits(digits)
		time, ok := impl.TimeOfRow(shownBy(digits))
		if ok != (want >= 0) || time != max(want, 0) {
			t.Fatalf("the time of %s: %d, %v", digits, time, ok)
		}
		if ok {
			shown++
		}
	}
	if shown != 1440 {
		t.Error("rows that show times:", shown)
	}
	for digits, want := range map[string]int{"0000": 0, "0059": 59, "0100": 60, "2359": 1439, "1234": 754, "0060": -1, "0099": -1, "2360": -1, "2400": -1, "2459": -1, "9959": -1, "9999": -1, "1275": -1} {
		if time, ok := impl.TimeOfRow(shownBy(digits)); ok != (want >= 0) || time != max(want, 0) {
			t.Errorf("the time of %s: %d, %v", digits, time, ok)
		}
	}
}

func TestTimeOfRowsThatShowNoneFails(t *testing.T) {
	rows := slices.Concat([][]int{nil, {}}, noRows)
	for _, digits := range []string{"0", "1", "9", "00", "12", "59", "000", "123", "159", "959", "00000", "01234", "00001", "12340", "02359", "000000", "001234", "123400", "120000", "0000000", "0001234"} {
		rows = append(rows, shownBy(digits))
	}
	for cell := range 128 {
		for place := range 4 {
			row := shownBy("1234")
			row[place] = cell
			if !slices.Contains(digitNumbers, cell) {
				rows = append(rows, row)
			}
		}
	}
	for _, no := range noCells {
		for place := range 4 {
			row := shownBy("0000")
			row[place] = no
			rows = append(rows, row)
		}
	}
	for _, row := range rows {
		if time, ok := impl.TimeOfRow(row); ok || time != 0 {
			t.Errorf("the time of %.60s: %d, %v", fmt.Sprint(row), time, ok)
		}
	}
}

func TestTimesInMirrorsAndTurned(t *testing.T) {
	for time, digits := range clockDigits {
		mirrored, one := impl.MirrorTime(time)
		if want := mirroredWritten[time]; one != (want >= 0) || mirrored != max(want, 0) {
			t.Errorf("%s mirrors to %d, %v, not to %d", digits, mirrored, one, want)
		}
		turned, two := impl.TurnTime(time)
		if want := turnedByDigits(time); two != (want >= 0) || turned != max(want, 0) {
			t.Errorf("%s turns to %d, %v, not to %d", digits, turned, two, want)
		}
	}
}

func TestTimesInMirrorsAreThoseOfTheirRows(t *testing.T) {
	for time := range clockDigits {
		for _, x := range []struct {
			row func([]int) ([]int, bool)
			of  func(int) (int, bool)
		}{{impl.MirrorRow, impl.MirrorTime}, {impl.TurnRow, impl.TurnTime}} {
			row, _ := impl.ClockRow(time)
			moved, _ := x.row(row)
			other, ok := x.of(time)
			shown, _ := impl.ClockRow(other)
			if is := slices.ContainsFunc(clockDigits, func(digits string) bool { return slices.Equal(shownBy(digits), moved) }); ok != is || ok && !slices.Equal(shown, moved) {
				t.Errorf("%d leads to %d, %v", time, other, ok)
			}
		}
	}
}

func TestTimesLeadBackInMirrorsAndTurned(t *testing.T) {
	var mirroring, turning []int
	for time := range clockDigits {
		if other, ok := impl.MirrorTime(time); ok {
			mirroring = append(mirroring, time)
			if back, ok := impl.MirrorTime(other); !ok || back != time {
				t.Errorf("%d mirrors to %d, and this to %d, %v", time, other, back, ok)
			}
		}
		if other, ok := impl.TurnTime(time); ok {
			turning = append(turning, time)
			if back, ok := impl.TurnTime(other); !ok || back != time {
				t.Errorf("%d turns to %d, and this to %d, %v", time, other, back, ok)
			}
		}
	}
	if !slices.Equal(mirroring, mirrorTimes) || !slices.Equal(turning, turnTimes) {
		t.Error("these mirror and turn to times:", mirroring, turning)
	}
}

func TestSomeTimesInMirrors(t *testing.T) {
	for _, x := range []struct{ time, mirrored, turned int }{
		{at(0, 0), at(0, 0), at(0, 0)}, {at(0, 20), at(5, 0), at(2, 0)}, {at(2, 50), at(2, 50), at(5, 20)}, {at(5, 20), at(5, 20), at(2, 50)}, {at(20, 5), at(20, 5), -1},
		{at(22, 55), at(22, 55), -1}, {at(20, 2), -1, at(20, 2)}, {at(22, 22), -1, at(22, 22)}, {at(5, 50), at(2, 20), at(5, 50)}, {at(22, 0), at(0, 55), at(0, 22)},
		{at(8, 0), -1, -1}, {at(0, 8), -1, -1}, {at(11, 11), -1, -1}, {at(6, 20), -1, -1}, {at(0, 2), -1, at(20, 0)}, {at(0, 5), at(20, 0), -1}, {at(23, 59), -1, -1}, {at(0, 1), -1, -1},
	} {
		mirrored, one := impl.MirrorTime(x.time)
		turned, two := impl.TurnTime(x.time)
		if one != (x.mirrored >= 0) || two != (x.turned >= 0) || mirrored != max(x.mirrored, 0) || turned != max(x.turned, 0) {
			t.Errorf("%s mirrors to %d, %v and turns to %d, %v", clockDigits[x.time], mirrored, one, turned, two)
		}
	}
}

func TestSameInMirrorAndTurned(t *testing.T) {
	if same := impl.SameInMirror(); !slices.Equal(same, []int{at(0, 0), at(2, 50), at(5, 20), at(20, 5), at(22, 55)}) || !slices.Equal(same, everyTime(func(t int) bool { return mirroredWritten[t] == t })) {
		t.Error("the same in a mirror:", same)
	}
	if same := impl.SameTurned(); !slices.Equal(same, []int{at(0, 0), at(2, 20), at(5, 50), at(20, 2), at(22, 22)}) || !slices.Equal(same, everyTime(func(t int) bool { return turnedByDigits(t) == t })) {
		t.Error("the same when turned:", same)
	}
}

func TestMirrorPairs(t *testing.T) {
	pairs := impl.MirrorPairs()
	if !slices.Equal(pairs, mirrorPairs) {
		t.Error("the pairs are", pairs)
	}
	all := impl.SameInMirror()
	for _, pair := range pairs {
		one, ok := impl.MirrorTime(pair[0])
		other, fine := impl.MirrorTime(pair[1])
		if !ok || !fine || one != pair[1] || other != pair[0] || pair[0] >= pair[1] {
			t.Errorf("%v mirror to %d, %v and %d, %v", pair, one, ok, other, fine)
		}
		all = append(all, pair[:]...)
	}
	slices.Sort(all)
	if !slices.Equal(all, everyTime(func(t int) bool { return mirroredWritten[t] >= 0 })) {
		t.Error("the same ones and the pairs are", all)
	}
}

func TestWaitForMirror(t *testing.T) {
	for time := range clockDigits {
		want := 0
		for !slices.Contains(mirrorTimes, (time+want)%1440) {
			want++
		}
		if wait, ok := impl.WaitForMirror(time); !ok || wait != want {
			t.Errorf("from %s on: %d, %v, not %d", clockDigits[time], wait, ok, want)
		}
	}
	for time, want := range map[int]int{
		at(0, 0): 0, at(0, 1): 4, at(0, 5): 0, at(0, 6): 14, at(0, 51): 4, at(0, 55): 0, at(0, 56): 64, at(5, 56): 844, at(8, 0): 720, at(22, 55): 0, at(22, 56): 64, at(23, 0): 60, at(23, 59): 1,
	} {
		if wait, ok := impl.WaitForMirror(time); !ok || wait != want {
			t.Errorf("from %s on: %d, %v", clockDigits[time], wait, ok)
		}
	}
}

func TestApartInMirror(t *testing.T) {
	count := 0
	var many [1440]int
	for minutes := range many {
		want := slices.DeleteFunc(slices.Clone(mirrorTimes), func(t int) bool { return mirroredWritten[t] != (t+minutes)%1440 })
		times, ok := impl.ApartInMirror(minutes)
		if !ok || !slices.Equal(times, want) {
			t.Fatalf("%d minutes apart: %v, %v, not %v", minutes, times, ok, want)
		}
		many[minutes] = len(times)
		count += len(times)
	}
	// Who mirrors to a time so many minutes behind it is as far behind that one, round the day.
	for minutes, there := range many {
		if back := many[(1440-minutes)%1440]; back != there {
			t.Errorf("%d minutes apart are %d, and the other way round %d", minutes, there, back)
		}
	}
	if count != len(mirrorTimes) {
		t.Error("times that mirror to one:", count)
	}
}

func TestSomeTimesApartInMirror(t *testing.T) {
	for minutes, want := range map[int][]int{
		0: impl.SameInMirror(), 1: nil, 1439: nil, 280: {at(0, 20)}, 1160: {at(5, 0)}, 70: {at(0, 50), at(20, 55)}, 1370: {at(2, 0), at(22, 5)}, 1195: {at(0, 5), at(2, 55)},
		245: {at(20, 0), at(22, 50)}, 1265: {at(0, 55)}, 175: {at(22, 0)}, 210: {at(2, 20)}, 1230: {at(5, 50)}, 720: nil,
	} {
		if times, ok := impl.ApartInMirror(minutes); !ok || !slices.Equal(times, want) {
			t.Errorf("%d minutes apart: %v, %v", minutes, times, ok)
		}
	}
}

func TestLitAt(t *testing.T) {
	for time, digits := range clockDigits {
		if lit, ok := impl.LitAt(time); !ok || lit != litByDigits(time) {
			t.Errorf("at %s light %d, %v, not %d", digits, lit, ok, litByDigits(time))
		}
	}
	for time, want := range map[int]int{at(0, 0): 24, at(1, 1): 16, at(8, 8): 26, at(11, 11): 8, at(23, 59): 21, at(20, 8): 24} {
		if lit, ok := impl.LitAt(time); !ok || lit != want {
			t.Errorf("at %s light %d, %v", clockDigits[time], lit, ok)
		}
	}
}

func TestBrightestAndDarkestTime(t *testing.T) {
	var lit []int
	for time := range clockDigits {
		lit = append(lit, litByDigits(time))
	}
	most, fewest := slices.Max(lit), slices.Min(lit)
	if time, count := impl.BrightestTime(); time != at(8, 8) || count != 26 || time != slices.Index(lit, most) || count != most {
		t.Error("the brightest time:", time, count)
	}
	if time, count := impl.DarkestTime(); time != at(11, 11) || count != 8 || time != slices.Index(lit, fewest) || count != fewest {
		t.Error("the darkest time:", time, count)
	}
}

func TestMinuteChanges(t *testing.T) {
	for time, digits := range clockDigits {
		next := clockDigits[(time+1)%1440]
		want := 0
		for place := range 4 {
			want += changesWritten[digits[place]-'0'][next[place]-'0']
		}
		if changes, ok := impl.MinuteChanges(time); !ok || changes != want {
			t.Errorf("from %s to %s: %d, %v, not %d", digits, next, changes, ok, want)
		}
	}
	for time, want := range map[int]int{at(0, 0): 4, at(0, 1): 5, at(0, 9): 6, at(0, 59): 9, at(9, 59): 11, at(19, 59): 12, at(23, 58): 1, at(23, 59): 11} {
		if changes, ok := impl.MinuteChanges(time); !ok || changes != want {
			t.Errorf("behind %s: %d, %v", clockDigits[time], changes, ok)
		}
	}
}

func TestTimesLike(t *testing.T) {
	patterns := [][]int{{-1, -1, -1, -1}}
	for cell := range 128 {
		for place := range 4 {
			one := []int{-1, -1, -1, -1}
			one[place] = cell
			but := shownBy("1234")
			but[place] = cell
			patterns = append(patterns, one, but)
		}
	}
	for number := 0; number < 10000; number += 7 {
		row := shownBy(fmt.Sprintf("%04d", number))
		patterns = append(patterns, row)
		for set := number % 16; set < 16; set += 5 {
			open := slices.Clone(row)
			for place := range open {
				if set>>place&1 == 1 {
					open[place] = -1
				}
			}
			patterns = append(patterns, open)
		}
	}
	for _, pattern := range patterns {
		want := everyTime(func(t int) bool { return fitsByDigits(t, pattern) })
		if times, ok := impl.TimesLike(pattern); !ok || !slices.Equal(times, want) {
			t.Fatalf("times like %v: %v, %v, not %v", pattern, times, ok, want)
		}
	}
}

func TestSomeTimesLike(t *testing.T) {
	for _, x := range []struct{ pattern, times []int }{
		{[]int{63, -1, 63, 63}, []int{0, 60, 120, 180, 240, 300, 360, 420, 480, 540}}, {[]int{63, 63, 63, 63}, []int{0}}, {[]int{91, 79, 109, 111}, []int{1439}},
		{[]int{91, -1, 109, 111}, []int{at(20, 59), at(21, 59), at(22, 59), at(23, 59)}}, {[]int{-1, 111, 63, 63}, []int{at(9, 0), at(19, 0)}}, {[]int{-1, 102, 109, 6}, []int{at(4, 51), at(14, 51)}},
		{[]int{-1, 6, 6, 6}, []int{at(1, 11), at(11, 11), at(21, 11)}}, {[]int{91, 102, -1, -1}, nil}, {[]int{-1, -1, 125, -1}, nil}, {[]int{79, -1, -1, -1}, nil}, {[]int{-1, -1, -1, 0}, nil},
		{[]int{0, 0, 0, 0}, nil}, {[]int{127, 127, 127, 127}, nil}, {[]int{63, 63, 63, 62}, nil}, {[]int{1, -1, -1, -1}, nil}, {[]int{-1, -1, -1, 126}, nil},
	} {
		if times, ok := impl.TimesLike(x.pattern); !ok || !slices.Equal(times, x.times) {
			t.Errorf("times like %v: %v, %v", x.pattern, times, ok)
		}
	}
	if times, ok := impl.TimesLike([]int{-1, -1, -1, -1}); !ok || len(times) != 1440 || times[0] != 0 || times[1439] != 1439 {
		t.Error("times like any ones:", times, ok)
	}
}

// noPatterns are lists that TimesLike does not take: of other lengths, or with numbers that are neither cells nor -1.
func noPatterns() [][]int {
	lists := slices.Concat(noRows, [][]int{
		nil, {}, {-1}, {63}, {-1, -1}, {-1, -1, -1}, {63, 63, 63}, {-1, -1, -1, -1, -1}, {63, 63, 63, 63, 63}, {63, 63, 63, 63, -1}, {-1, 63, 63, 63, 63}, slices.Repeat([]int{-1}, 100000),
		{-2, -2, -2, -2}, {128, 128, 128, 128}, {-2, 128, 63, -1}, {63, 79, 0, 128}, {79, 102, -2, -1}, {-1, 0, 0, -2},
	})
	for _, no := range noCells[1:] {
		for place := range 4 {
			pattern, row := []int{-1, -1, -1, -1}, shownBy("0000")
			pattern[place], row[place] = no, no
			lists = append(lists, pattern, row)
		}
	}
	return lists
}

func TestTimesLikeFailsForOtherLists(t *testing.T) {
	if slices.Contains(noCells[1:], -1) {
		t.Fatal("-1 stands for any cell")
	}
	for _, list := range noPatterns() {
		if times, ok := impl.TimesLike(list); ok || len(times) != 0 {
			t.Errorf("times like %.60s: %v, %v", fmt.Sprint(list), times, ok)
		}
	}
}

func TestTimesOfBars(t *testing.T) {
	var all []int
	for bars := range 29 {
		want := everyTime(func(t int) bool { return litByDigits(t) == bars })
		times, ok := impl.TimesOfBars(bars)
		if !ok || !slices.Equal(times, want) {
			t.Errorf("with %d bars: %v, %v, not %v", bars, times, ok, want)
		}
		if (len(times) == 0) != (bars < 8 || bars > 26) {
			t.Errorf("with %d bars: %d times", bars, len(times))
		}
		all = append(all, times...)
	}
	slices.Sort(all)
	if !slices.Equal(all, everyTime(func(int) bool { return true })) {
		t.Error("times together:", len(all))
	}
	for bars, want := range map[int][]int{
		0: nil, 1: nil, 7: nil, 8: {at(11, 11)}, 9: {at(11, 17), at(17, 11)}, 25: {at(0, 8), at(6, 8), at(8, 0), at(8, 6), at(8, 9), at(9, 8)}, 26: {at(8, 8)}, 27: nil, 28: nil,
	} {
		times, ok := impl.TimesOfBars(bars)
		for _, time := range want {
			if !slices.Contains(times, time) {
				t.Errorf("with %d bars: not %s", bars, clockDigits[time])
			}
		}
		if !ok || (len(want) < 2 || bars == 9) && len(times) != len(want) {
			t.Errorf("with %d bars: %v, %v", bars, times, ok)
		}
	}
}

func TestInvalidTimesAndNumbersFail(t *testing.T) {
	for _, no := range noTimes {
		row, a := impl.ClockRow(no)
		mirrored, b := impl.MirrorTime(no)
		turned, c := impl.TurnTime(no)
		wait, d := impl.WaitForMirror(no)
		apart, e := impl.ApartInMirror(no)
		lit, f := impl.LitAt(no)
		changes, g := impl.MinuteChanges(no)
		if a || b || c || d || e || f || g || len(row) != 0 || mirrored != 0 || turned != 0 || wait != 0 || len(apart) != 0 || lit != 0 || changes != 0 {
			t.Errorf("%d: %v", no, []any{row, a, mirrored, b, turned, c, wait, d, apart, e, lit, f, changes, g})
		}
	}
	for _, bars := range append([]int{29, 30, 35, 42, 127, -8, -28}, noTimes...) {
		if times, ok := impl.TimesOfBars(bars); ok || len(times) != 0 {
			t.Errorf("with %d bars: %v, %v", bars, times, ok)
		}
	}
}

func TestArgumentsOfClocksAreNotModified(t *testing.T) {
	for _, given := range [][]int{{63, 6, 63, 6, 63, 6, 6}, {-1, -1, 63, 63, -1, 5}, {91, 79, 109, 111, 6, 128}, {-2, 128, 63, 63, 63, 63}, {0, 1, 2, 3, 4, 5}} {
		kept := slices.Clone(given)
		for size := range len(given) + 1 {
			impl.TimeOfRow(given[:size])
			impl.TimesLike(given[:size])
		}
		if !slices.Equal(given, kept) {
			t.Error("the list is", given, "and was", kept)
		}
	}
}

func TestResultsOfClocksStandAlone(t *testing.T) {
	given := []int{63, -1, 63, 63}
	calls := map[string]func() ([]int, bool){
		"ClockRow":         func() ([]int, bool) { return impl.ClockRow(61) },
		"ClockRow no":      func() ([]int, bool) { return impl.ClockRow(-1) },
		"SameInMirror":     func() ([]int, bool) { return impl.SameInMirror(), true },
		"SameTurned":       func() ([]int, bool) { return impl.SameTurned(), true },
		"ApartInMirror":    func() ([]int, bool) { return impl.ApartInMirror(70) },
		"ApartInMirror no": func() ([]int, bool) { return impl.ApartInMirror(1440) },
		"TimesLike":        func() ([]int, bool) { return impl.TimesLike(given) },
		"TimesLike all":    func() ([]int, bool) { return impl.TimesLike([]int{-1, -1, -1, -1}) },
		"TimesLike no":     func() ([]int, bool) { return impl.TimesLike(given[:3]) },
		"TimesOfBars":      func() ([]int, bool) { return impl.TimesOfBars(20) },
		"TimesOfBars no":   func() ([]int, bool) { return impl.TimesOfBars(29) },
	}
	standAlone(t, given, calls)
	pairs := impl.MirrorPairs()
	clear(pairs[:cap(pairs)])
	if again := impl.MirrorPairs(); !slices.Equal(again, mirrorPairs) {
		t.Error("MirrorPairs is", again)
	}
}

// answersOfClocks returns what all functions of the chapter return for times, numbers and rows of all sorts.
func answersOfClocks() []any {
	var all []any
	tell := func(x ...any) { all = append(all, fmt.Sprint(x...)) }
	numbers := slices.Concat(noTimes, noCells, noNumbers)
	for n := 0; n < 1440; n += 5 {
		numbers = append(numbers, n)
	}
	for _, n := range numbers {
		row, one := impl.ClockRow(n)
		mirrored, two := impl.MirrorTime(n)
		turned, three := impl.TurnTime(n)
		wait, four := impl.WaitForMirror(n)
		apart, five := impl.ApartInMirror(n)
		lit, six := impl.LitAt(n)
		changes, seven := impl.MinuteChanges(n)
		times, eight := impl.TimesOfBars(n)
		tell(row, mirrored, turned, wait, apart, lit, changes, times, one, two, three, four, five, six, seven, eight)
	}
	for _, r := range slices.Concat(manyRows(), noRows, noPatterns(), [][]int{{63, -1, 63, 63}, {-1, -1, -1, -1}}) {
		time, one := impl.TimeOfRow(r)
		times, two := impl.TimesLike(r)
		tell(time, times, one, two)
	}
	bright, most := impl.BrightestTime()
	dark, fewest := impl.DarkestTime()
	tell(impl.SameInMirror(), impl.SameTurned(), impl.MirrorPairs(), bright, most, dark, fewest)
	return all
}

func TestClocksReturnTheSameForAllArguments(t *testing.T) {
	if !reflect.DeepEqual(answersOfClocks(), answersOfClocks()) {
		t.Error("other results for the same arguments")
	}
}
