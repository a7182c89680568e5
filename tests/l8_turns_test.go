package tests

import (
	"fmt"
	"math"
	"math/rand/v2"
	"reflect"
	"slices"
	"strings"
	"testing"

	"loop.example/g01265/impl"
)

// drivenBy returns the Slots that texts tell: places of cells, a colon, and letters of bars.
func drivenBy(texts ...string) []impl.Slot {
	frame := []impl.Slot{}
	for _, text := range texts {
		places, letters, _ := strings.Cut(text, ":")
		var s impl.Slot
		for _, place := range places {
			s.Cells += []int{1, 2, 4, 8, 16, 32}[place-'0']
		}
		for _, letter := range letters {
			s.Bars += []int{1, 2, 4, 8, 16, 32, 64}[letter-'a']
		}
		frame = append(frame, s)
	}
	return frame
}

// lamp is a bar of a cell, by the place of the cell and the letter of the bar.
type lamp struct {
	place  int
	letter rune
}

// lampsOf returns all bars of cells that light in a Slot.
func lampsOf(s impl.Slot) []lamp {
	var lamps []lamp
	for place, bit := range []int{1, 2, 4, 8, 16, 32} {
		if s.Cells/bit%2 == 1 {
			for _, letter := range lettersOf(s.Bars) {
				lamps = append(lamps, lamp{place, letter})
			}
		}
	}
	return lamps
}

// timesByHand returns how often each lamp lights that lights in a frame.
func timesByHand(frame []impl.Slot) map[lamp]int {
	times := map[lamp]int{}
	for _, s := range frame {
		for _, l := range lampsOf(s) {
			times[l]++
		}
	}
	return times
}

// rowWith returns the row of k cells with all lamps for which lights answers true.
func rowWith(k int, lights func(l lamp) bool) []int {
	row := []int{}
	for place := range k {
		row = append(row, cellWith(func(letter string) bool { return lights(lamp{place, rune(letter[0])}) }))
	}
	return row
}

// seenByHand returns the row of k cells that is seen of a frame.
func seenByHand(k int, frame []impl.Slot) []int {
	times := timesByHand(frame)
	return rowWith(k, func(l lamp) bool { return times[l] > 0 })
}

// leftOut returns a frame without the Slot at a place.
func leftOut(frame []impl.Slot, place int) []impl.Slot {
	return slices.Delete(slices.Clone(frame), place, place+1)
}

// vainByHand returns all places of Slots whose lamps all light in another Slot, too.
func vainByHand(frame []impl.Slot) []int {
	var vain []int
	times := timesByHand(frame)
	for place, s := range frame {
		if !slices.ContainsFunc(lampsOf(s), func(l lamp) bool { return times[l] == 1 }) {
			vain = append(vain, place)
		}
	}
	return vain
}

// linesByHand returns all lines that a Slot drives: places of cells and letters of bars.
func linesByHand(s impl.Slot) string {
	lines := ""
	for place, bit := range []int{1, 2, 4, 8, 16, 32} {
		if s.Cells/bit%2 == 1 {
			lines += fmt.Sprint(place)
		}
	}
	return lines + lettersOf(s.Bars)
}

// switchesByHand returns how many lines are driven by just one of two Slots that follow one another, all pairs together.
func switchesByHand(frame []impl.Slot) int {
	switches := 0
	for place, s := range frame {
		before := linesByHand(frame[(place+len(frame)-1)%len(frame)])
		lines := linesByHand(s)
		for _, line := range "012345abcdefg" {
			if strings.ContainsRune(before, line) != strings.ContainsRune(lines, line) {
				switches++
			}
		}
	}
	return switches
}

// compareSlots compares two Slots by Cells, and then by Bars.
func compareSlots(a, b impl.Slot) int {
	if a.Cells != b.Cells {
		return a.Cells - b.Cells
	}
	return a.Bars - b.Bars
}

// manyFrames returns frames for k cells of each length: with all Slots, few different ones, those of few lines, and those without cells or bars.
func manyFrames(k int) [][]impl.Slot {
	top := powerOfTwo(k)
	frames := [][]impl.Slot{nil, {}, {{}}, {{Cells: top - 1, Bars: 127}}, {{Cells: top - 1}}, {{Bars: 127}}, slices.Repeat([]impl.Slot{{Cells: 1, Bars: 8}}, impl.MaxSlots), make([]impl.Slot, impl.MaxSlots)}
	numbers := rand.New(rand.NewPCG(8, uint64(k)))
	slot := func() impl.Slot { return impl.Slot{Cells: numbers.IntN(top), Bars: numbers.IntN(128)} }
	line := func() impl.Slot {
		return impl.Slot{Cells: powerOfTwo(numbers.IntN(k)), Bars: powerOfTwo(numbers.IntN(7)) | powerOfTwo(numbers.IntN(7))}
	}
	for size := 1; size <= impl.MaxSlots; size++ {
		for range 6 {
			few := []impl.Slot{slot(), line(), {Cells: numbers.IntN(top)}}
			var mixed, alike, narrow []impl.Slot
			for range size {
				mixed = append(mixed, slot())
				alike = append(alike, few[numbers.IntN(3)])
				narrow = append(narrow, line())
			}
			frames = append(frames, mixed, alike, narrow)
		}
	}
	return frames
}

// powerOfTwo returns 2 to the power of n.
func powerOfTwo(n int) int {
	return []int{1, 2, 4, 8, 16, 32, 64, 128}[n]
}

// noFrames returns lists that are no frames for k cells: with Cells or Bars beyond their bounds, and of too many Slots.
func noFrames(k int) [][]impl.Slot {
	lists := [][]impl.Slot{
		make([]impl.Slot, impl.MaxSlots+1), slices.Repeat([]impl.Slot{{Cells: 1, Bars: 1}}, impl.MaxSlots+1), make([]impl.Slot, impl.MaxSlots+2), make([]impl.Slot, 100000),
		slices.Repeat([]impl.Slot{{Cells: -1, Bars: 1}}, impl.MaxSlots+1),
	}
	good := impl.Slot{Cells: 1, Bars: 127}
	var bad []impl.Slot
	for _, cells := range []int{-1, -2, powerOfTwo(k), powerOfTwo(k) + 1, 128, 1 << 32, 1<<32 + 1, math.MaxInt, math.MinInt, math.MinInt + 1} {
		bad = append(bad, impl.Slot{Cells: cells, Bars: 1}, impl.Slot{Cells: cells}, impl.Slot{Cells: cells, Bars: 128})
	}
	for _, bars := range noCells {
		bad = append(bad, impl.Slot{Cells: 1, Bars: bars}, impl.Slot{Bars: bars})
	}
	for _, s := range bad {
		lists = append(lists, []impl.Slot{s}, []impl.Slot{s, good}, []impl.Slot{good, s}, []impl.Slot{good, {}, s, good, good}, append(slices.Repeat([]impl.Slot{good}, impl.MaxSlots-1), s))
	}
	return lists
}

func TestLimitsOfTurns(t *testing.T) {
	if impl.MaxSlots != 12 {
		t.Error("MaxSlots", impl.MaxSlots)
	}
}

func TestIsFrame(t *testing.T) {
	for k := 1; k <= impl.MaxCells; k++ {
		for _, frame := range manyFrames(k) {
			if is, ok := impl.IsFrame(k, frame); !is || !ok {
				t.Fatalf("%v of %d cells is a frame: %v, %v", frame, k, is, ok)
			}
		}
		for _, list := range noFrames(k) {
			if is, ok := impl.IsFrame(k, list); is || !ok {
				t.Fatalf("%.60s of %d cells is a frame: %v, %v", fmt.Sprint(list), k, is, ok)
			}
		}
		for cells := -3; cells < 135; cells++ {
			for bars := -3; bars < 135; bars++ {
				want := cells >= 0 && cells <= []int{0, 1, 3, 7, 15, 31, 63}[k] && bars >= 0 && bars <= 127
				if is, ok := impl.IsFrame(k, []impl.Slot{{Cells: cells, Bars: bars}}); is != want || !ok {
					t.Fatalf("{%d %d} of %d cells is a frame: %v, %v", cells, bars, k, is, ok)
				}
			}
		}
	}
	for size := range 20 {
		if is, ok := impl.IsFrame(1, make([]impl.Slot, size)); is != (size <= 12) || !ok {
			t.Errorf("%d empty Slots are a frame: %v, %v", size, is, ok)
		}
	}
}

func TestSeenAndDutyOfFrames(t *testing.T) {
	for k := 1; k <= impl.MaxCells; k++ {
		for _, frame := range manyFrames(k) {
			seen, ok := impl.SeenOf(k, frame)
			if !ok || !slices.Equal(seen, seenByHand(k, frame)) {
				t.Fatalf("of %v of %d cells is seen %v, %v", frame, k, seen, ok)
			}
			times := timesByHand(frame)
			want := make([][7]int, k)
			for l, count := range times {
				want[l.place][l.letter-'a'] = count
			}
			duty, ok := impl.DutyOf(k, frame)
			if !ok || !slices.Equal(duty, want) {
				t.Fatalf("the duty of %v of %d cells is %v, %v", frame, k, duty, ok)
			}
			for place, counts := range duty {
				if (counts == [7]int{}) != (seen[place] == 0) {
					t.Fatalf("of %v is seen %v, and its duty is %v", frame, seen, duty)
				}
			}
		}
	}
}

func TestSomeSeenAndDuty(t *testing.T) {
	for _, x := range []struct {
		k     int
		frame []impl.Slot
		seen  []int
		duty  [][7]int
	}{
		{1, nil, []int{0}, [][7]int{{}}},
		{6, nil, []int{0, 0, 0, 0, 0, 0}, [][7]int{{}, {}, {}, {}, {}, {}}},
		{2, drivenBy("0:bc", "01:a"), []int{7, 1}, [][7]int{{1, 1, 1}, {1}}},
		{3, drivenBy("02:ag", ":abcdefg", "012:", "2:g"), []int{65, 0, 65}, [][7]int{{1, 0, 0, 0, 0, 0, 1}, {}, {1, 0, 0, 0, 0, 0, 2}}},
		{6, drivenBy("5:d", "012345:d", "05:e", "5:d"), []int{24, 8, 8, 8, 8, 24}, [][7]int{{3: 1, 4: 1}, {3: 1}, {3: 1}, {3: 1}, {3: 1}, {3: 3, 4: 1}}},
		{1, slices.Repeat(drivenBy("0:abcdefg"), 12), []int{127}, [][7]int{{12, 12, 12, 12, 12, 12, 12}}},
	} {
		seen, one := impl.SeenOf(x.k, x.frame)
		duty, two := impl.DutyOf(x.k, x.frame)
		if !one || !two || !slices.Equal(seen, x.seen) || !slices.Equal(duty, x.duty) {
			t.Errorf("of %v of %d cells is seen %v, %v, and its duty is %v, %v", x.frame, x.k, seen, one, duty, two)
		}
	}
}

func TestPlainFramesAreForTheirRows(t *testing.T) {
	for _, r := range manyRows() {
		if len(r) == 0 {
			continue
		}
		want := []impl.Slot{}
		for place, c := range r {
			if c > 0 {
				want = append(want, impl.Slot{Cells: powerOfTwo(place), Bars: c})
			}
		}
		frame, ok := impl.PlainFrame(r)
		if !ok || !slices.Equal(frame, want) {
			t.Fatalf("the plain frame of %v is %v, %v", r, frame, ok)
		}
		if seen, ok := impl.SeenOf(len(r), frame); !ok || !slices.Equal(seen, r) {
			t.Fatalf("of the plain frame of %v is seen %v, %v", r, seen, ok)
		}
		if slots, ok := impl.LeastSlots(r); !ok || slots > len(frame) {
			t.Fatalf("the plain frame of %v is %v, and the least one has %d Slots, %v", r, frame, slots, ok)
		}
	}
}

func TestSomePlainFrames(t *testing.T) {
	for _, x := range []struct {
		row   []int
		frame []impl.Slot
	}{
		{[]int{6, 0, 7}, drivenBy("0:bc", "2:abc")}, {[]int{0}, nil}, {[]int{0, 0, 0, 0, 0, 0}, nil}, {[]int{127}, drivenBy("0:abcdefg")}, {[]int{0, 0, 0, 0, 0, 64}, drivenBy("5:g")},
		{[]int{1, 1, 1, 1, 1, 1}, drivenBy("0:a", "1:a", "2:a", "3:a", "4:a", "5:a")},
	} {
		if frame, ok := impl.PlainFrame(x.row); !ok || !slices.Equal(frame, x.frame) {
			t.Errorf("the plain frame of %v is %v, %v", x.row, frame, ok)
		}
	}
}

// piecesOf returns what each Slot shows that shows nothing but what lights in a row, as numbers with a bit for each lamp of the row, and the number of all lamps.
func piecesOf(r []int) ([]int, int) {
	var lamps []lamp
	for place, c := range r {
		lamps = append(lamps, lampsOf(impl.Slot{Cells: powerOfTwo(place), Bars: c})...)
	}
	pieces := map[int]bool{}
	for cells := 1; cells < powerOfTwo(len(r)); cells++ {
		for bars := 1; bars < 128; bars++ {
			piece := 0
			for _, l := range lampsOf(impl.Slot{Cells: cells, Bars: bars}) {
				bit := slices.Index(lamps, l)
				if bit < 0 {
					piece = 0
					break
				}
				piece |= 1 << bit
			}
			if piece != 0 {
				pieces[piece] = true
			}
		}
	}
	var list []int
	for piece := range pieces {
		list = append(list, piece)
	}
	return list, 1<<len(lamps) - 1
}

// leastByHand returns the length of the shortest frames for a row with few lamps, from all that is seen of frames of no Slots on, one Slot more each time.
func leastByHand(r []int) int {
	pieces, all := piecesOf(r)
	reached := make([]bool, all+1)
	reached[0] = true
	newest := []int{0}
	for slots := 0; ; slots++ {
		if reached[all] {
			return slots
		}
		var next []int
		for _, seen := range newest {
			for _, piece := range pieces {
				if !reached[seen|piece] {
					reached[seen|piece] = true
					next = append(next, seen|piece)
				}
			}
		}
		newest = next
	}
}

// risingRows returns all rows of k of the cells 0 to less than top in which no cell is less than the one before it.
func risingRows(k, top int) [][]int {
	rows := [][]int{{}}
	for range k {
		var longer [][]int
		for _, r := range rows {
			from := 0
			if len(r) > 0 {
				from = r[len(r)-1]
			}
			for c := from; c < top; c++ {
				longer = append(longer, append(slices.Clone(r), c))
			}
		}
		rows = longer
	}
	return rows
}

func TestLeastSlotsOfRowsWithFewBars(t *testing.T) {
	var rows [][]int
	for _, x := range [][2]int{{1, 128}, {2, 16}, {3, 16}, {4, 8}, {5, 4}, {6, 4}} {
		rows = append(rows, risingRows(x[0], x[1])...)
	}
	numbers := rand.New(rand.NewPCG(8, 8))
	for range 150 {
		row := make([]int, 4+numbers.IntN(3))
		for range 12 {
			row[numbers.IntN(len(row))] |= powerOfTwo(numbers.IntN(7))
		}
		rows = append(rows, row)
	}
	for i, r := range rows {
		r = mixed(r, i)
		want := leastByHand(r)
		if slots, ok := impl.LeastSlots(r); !ok || slots != want {
			t.Fatalf("the least number of Slots of %v is %d, %v, not %d", r, slots, ok, want)
		}
	}
}

// leastBySets returns the least number of sets of bars of which each cell of a row has some together. Each set may be that of all bars that light in some of the cells.
func leastBySets(r []int) int {
	sets := map[int]bool{}
	for cells := 1; cells < powerOfTwo(len(r)); cells++ {
		common := 127
		for place, c := range r {
			if cells/powerOfTwo(place)%2 == 1 {
				common &= c
			}
		}
		sets[common] = true
	}
	delete(sets, 0)
	var list []int
	for set := range sets {
		list = append(list, set)
	}
	for slots := 0; ; slots++ {
		if anyShows(r, list, nil, slots) {
			return slots
		}
	}
}

// anyShows reports whether some sets, and so many more of a list, are together those of which each cell of a row has some.
func anyShows(r, list, some []int, more int) bool {
	if more == 0 {
		return !slices.ContainsFunc(r, func(c int) bool {
			for _, set := range some {
				if set&c == set {
					c |= set << 7
				}
			}
			return c>>7 != c&127
		})
	}
	for i := range list {
		if anyShows(r, list[i+1:], append(slices.Clone(some), list[i]), more-1) {
			return true
		}
	}
	return false
}

func TestLeastSlotsOfRowsWithManyBars(t *testing.T) {
	numbers := rand.New(rand.NewPCG(8, 6))
	for i := range 120 {
		row := make([]int, 4+i%3)
		for place := range row {
			row[place] = numbers.IntN(128)
			if i%2 == 0 {
				row[place] |= numbers.IntN(128)
			}
		}
		want := leastBySets(row)
		if slots, ok := impl.LeastSlots(row); !ok || slots != want {
			t.Fatalf("the least number of Slots of %v is %d, %v, not %d", row, slots, ok, want)
		}
	}
}

func TestLeastSlotsOfManyRows(t *testing.T) {
	for i, r := range manyRows() {
		if len(r) == 0 {
			continue
		}
		slots, ok := impl.LeastSlots(r)
		set := slices.Compact(slices.Sorted(slices.Values(r)))
		set = slices.DeleteFunc(set, func(c int) bool { return c == 0 })
		if !ok || slots > len(set) || (slots == 0) != (len(set) == 0) || (slots == 1) != (len(set) == 1) {
			t.Fatalf("the least number of Slots of %v is %d, %v", r, slots, ok)
		}
		for name, other := range map[string][]int{
			"mixed": mixed(r, i), "turned": backwards(r, turnedByHand), "mirrored": backwards(r, mirroredByHand), "once": append(slices.Clone(set), 0)[:max(len(set), 1)],
		} {
			if again, ok := impl.LeastSlots(other); !ok || again != slots {
				t.Fatalf("the least number of Slots of %v is %d, and %s, as %v, %d, %v", r, slots, name, other, again, ok)
			}
		}
	}
}

func TestSomeLeastSlots(t *testing.T) {
	for _, x := range []struct {
		row   []int
		slots int
	}{
		{[]int{0}, 0}, {[]int{0, 0, 0, 0, 0, 0}, 0}, {[]int{127}, 1}, {[]int{64}, 1}, {[]int{0, 1}, 1}, {[]int{127, 127, 127, 127, 127, 127}, 1}, {[]int{0, 0, 9, 0, 9, 9}, 1},
		{[]int{6, 7, 1}, 2}, {[]int{6, 7}, 2}, {[]int{1, 2}, 2}, {[]int{1, 3, 7}, 3}, {[]int{3, 5, 6}, 3}, {[]int{1, 3, 7, 15, 31, 63}, 6}, {[]int{1, 2, 4, 8, 16, 32}, 6}, {[]int{1, 2, 4, 7}, 3},
		// Each of these cells lacks one bar that all others have. Four Slots do for six cells: each cell is in two of them, in another pair each time, and its bar in the two others.
		{[]int{1, 2}, 2}, {[]int{6, 5, 3}, 3}, {[]int{14, 13, 11, 7}, 4}, {[]int{30, 29, 27, 23, 15}, 4}, {[]int{62, 61, 59, 55, 47, 31}, 4}, {[]int{126, 125, 123, 119, 111, 95}, 4},
		// Some of these cells have the bars of two others together.
		{[]int{3, 12, 15}, 2}, {[]int{3, 12, 15, 48, 51, 60}, 3}, {[]int{1, 2, 3, 4, 5, 6}, 3}, {[]int{7, 56, 63, 64, 71, 120}, 3}, {digitNumbers[:6], 5}, {digitNumbers[4:], 4},
	} {
		if slots, ok := impl.LeastSlots(x.row); !ok || slots != x.slots {
			t.Errorf("the least number of Slots of %v is %d, %v, not %d", x.row, slots, ok, x.slots)
		}
	}
}

func TestFullBars(t *testing.T) {
	for _, r := range manyRows() {
		for cells := -3; cells < 140; cells++ {
			want := rowWith(1, func(l lamp) bool {
				for place, c := range r {
					if cells/powerOfTwo(place)%2 == 1 && !strings.ContainsRune(lettersOf(c), l.letter) {
						return false
					}
				}
				return true
			})[0]
			fine := len(r) > 0 && cells >= 1 && cells <= powerOfTwo(len(r))-1
			if !fine {
				want = 0
			}
			if bars, ok := impl.FullBars(r, cells); ok != fine || bars != want {
				t.Fatalf("the full bars of %v in %d are %d, %v, not %d", r, cells, bars, ok, want)
			}
		}
	}
	for _, x := range []struct {
		row   []int
		cells int
		bars  int
	}{
		{[]int{6, 7}, 3, 6}, {[]int{6, 7}, 2, 7}, {[]int{0}, 1, 0}, {[]int{127}, 1, 127}, {[]int{127, 127, 127, 127, 127, 126}, 63, 126}, {[]int{127, 127, 127, 127, 127, 126}, 31, 127}, {[]int{1, 64, 65}, 5, 1}, {[]int{1, 64, 65}, 3, 0},
	} {
		if bars, ok := impl.FullBars(x.row, x.cells); !ok || bars != x.bars {
			t.Errorf("the full bars of %v in %d are %d, %v", x.row, x.cells, bars, ok)
		}
	}
}

func TestFullBarsFailsForOtherCells(t *testing.T) {
	for size := 1; size <= impl.MaxCells; size++ {
		row := slices.Repeat([]int{127}, size)
		for _, cells := range []int{0, -1, -2, powerOfTwo(size), powerOfTwo(size) + 1, 127, 128, 1 << 32, 1<<32 + 1, math.MaxInt, math.MinInt, math.MinInt + 1} {
			if bars, ok := impl.FullBars(row, cells); ok || bars != 0 {
				t.Errorf("the full bars of %v in %d are %d, %v", row, cells, bars, ok)
			}
		}
		if bars, ok := impl.FullBars(row, powerOfTwo(size)-1); !ok || bars != 127 {
			t.Errorf("the full bars of %v in all cells are %d, %v", row, bars, ok)
		}
	}
}

func TestNoRowsCannotBeDriven(t *testing.T) {
	rows := append(slices.Clone(noRows), nil, []int{})
	for _, no := range noCells {
		rows = append(rows, []int{no}, []int{no, 6}, []int{6, no}, []int{0, 0, no, 0, 0, 0})
	}
	for _, r := range rows {
		frame, one := impl.PlainFrame(r)
		slots, two := impl.LeastSlots(r)
		if one || two || len(frame) != 0 || slots != 0 {
			t.Errorf("%.60s: %v, %v, %d, %v", fmt.Sprint(r), frame, one, slots, two)
		}
		for _, cells := range []int{0, 1, 2, 3, 63, 64, 127} {
			if bars, ok := impl.FullBars(r, cells); ok || bars != 0 {
				t.Errorf("the full bars of %.60s in %d are %d, %v", fmt.Sprint(r), cells, bars, ok)
			}
		}
	}
}

func TestGhostsOf(t *testing.T) {
	for k := 1; k <= impl.MaxCells; k++ {
		for _, frame := range manyFrames(k) {
			seen, ghosts := timesByHand(frame), map[lamp]int{}
			for place, s := range frame {
				before := frame[(place+len(frame)-1)%len(frame)]
				for _, l := range lampsOf(impl.Slot{Cells: s.Cells, Bars: before.Bars}) {
					ghosts[l]++
				}
			}
			want := rowWith(k, func(l lamp) bool { return ghosts[l] > 0 && seen[l] == 0 })
			if row, ok := impl.GhostsOf(k, frame); !ok || !slices.Equal(row, want) {
				t.Fatalf("the ghosts of %v of %d cells are %v, %v, not %v", frame, k, row, ok, want)
			}
		}
	}
}

func TestSomeGhosts(t *testing.T) {
	for _, x := range []struct {
		k     int
		frame []impl.Slot
		row   []int
	}{
		{2, drivenBy("0:bc", "01:a"), []int{0, 6}}, {1, nil, []int{0}}, {3, nil, []int{0, 0, 0}}, {2, drivenBy("01:ag"), []int{0, 0}}, {2, drivenBy("0:a", "0:a"), []int{0, 0}},
		{2, drivenBy("0:a", "1:b"), []int{2, 1}}, {3, drivenBy("0:a", "1:b", "2:c"), []int{4, 1, 2}}, {3, drivenBy("2:c", "1:b", "0:a"), []int{2, 4, 1}},
		{3, drivenBy("0:a", ":", "1:b", "2:c"), []int{4, 0, 2}}, {3, drivenBy("0:a", "1:b", "2:c", ":"), []int{0, 1, 2}}, {2, drivenBy("0:a", ":b", "1:c"), []int{4, 2}}, {2, drivenBy("0:a", "1:", "1:c"), []int{4, 1}},
	} {
		if row, ok := impl.GhostsOf(x.k, x.frame); !ok || !slices.Equal(row, x.row) {
			t.Errorf("the ghosts of %v of %d cells are %v, %v", x.frame, x.k, row, ok)
		}
	}
}

func TestFramesWithBlanksHaveNoGhosts(t *testing.T) {
	for k := 1; k <= impl.MaxCells; k++ {
		for _, frame := range manyFrames(k) {
			blanked, ok := impl.WithBlanks(k, frame)
			if len(frame) > 6 {
				if ok || len(blanked) != 0 {
					t.Fatalf("%v with blanks is %v, %v", frame, blanked, ok)
				}
				continue
			}
			want := []impl.Slot{}
			for _, s := range frame {
				want = append(want, s, impl.Slot{})
			}
			if !ok || !slices.Equal(blanked, want) {
				t.Fatalf("%v with blanks is %v, %v", frame, blanked, ok)
			}
			if ghosts, ok := impl.GhostsOf(k, blanked); !ok || !slices.Equal(ghosts, make([]int, k)) {
				t.Fatalf("the ghosts of %v with blanks are %v, %v", frame, ghosts, ok)
			}
			before, _ := impl.DutyOf(k, frame)
			if duty, ok := impl.DutyOf(k, blanked); !ok || !slices.Equal(duty, before) {
				t.Fatalf("the duty of %v with blanks is %v, %v", frame, duty, ok)
			}
		}
	}
}

func TestVainSlots(t *testing.T) {
	for k := 1; k <= impl.MaxCells; k++ {
		for _, frame := range manyFrames(k) {
			vain, ok := impl.VainSlots(k, frame)
			if !ok || !slices.Equal(vain, vainByHand(frame)) {
				t.Fatalf("the vain Slots of %v are %v, %v", frame, vain, ok)
			}
			for place := range frame {
				same := slices.Equal(seenByHand(k, leftOut(frame, place)), seenByHand(k, frame))
				if slices.Contains(vain, place) != same {
					t.Fatalf("the vain Slots of %v are %v", frame, vain)
				}
			}
		}
	}
}

func TestDropVainLeavesWhatIsSeenAndNoVainSlot(t *testing.T) {
	for k := 1; k <= impl.MaxCells; k++ {
		for _, frame := range manyFrames(k) {
			want := frame
			for vain := vainByHand(want); len(vain) > 0; vain = vainByHand(want) {
				want = leftOut(want, vain[0])
			}
			rest, ok := impl.DropVain(k, frame)
			if !ok || !slices.Equal(rest, want) {
				t.Fatalf("%v without its vain Slots is %v, %v", frame, rest, ok)
			}
			if vain, ok := impl.VainSlots(k, rest); !ok || len(vain) != 0 {
				t.Fatalf("of %v are left %v, with the vain Slots %v, %v", frame, rest, vain, ok)
			}
			before, _ := impl.SeenOf(k, frame)
			if seen, ok := impl.SeenOf(k, rest); !ok || !slices.Equal(seen, before) {
				t.Fatalf("of %v are left %v, of which is seen %v, %v", frame, rest, seen, ok)
			}
		}
	}
}

func TestSomeVainSlots(t *testing.T) {
	for _, x := range []struct {
		k           int
		frame, rest []impl.Slot
		vain        []int
	}{
		{2, drivenBy("0:bc", "0:b"), drivenBy("0:bc"), []int{1}}, {2, nil, nil, nil}, {1, drivenBy(":"), nil, []int{0}}, {2, drivenBy("01:", ":ab", ":"), nil, []int{0, 1, 2}},
		// Of Slots that are the same each one is vain, but not all of them together: the last one is left.
		{1, drivenBy("0:a", "0:a"), drivenBy("0:a"), []int{0, 1}}, {1, slices.Repeat(drivenBy("0:a"), 12), drivenBy("0:a"), []int{0, 1, 2, 3, 4, 5, 6, 7, 8, 9, 10, 11}},
		{2, drivenBy("01:a", "0:b", "01:a"), drivenBy("0:b", "01:a"), []int{0, 2}}, {2, drivenBy("0:a", "1:a", "01:a"), drivenBy("01:a"), []int{0, 1, 2}}, {2, drivenBy("01:a", "0:a", "1:a"), drivenBy("0:a", "1:a"), []int{0, 1, 2}},
		// One of these Slots is vain only as long as another one that is vain is left in.
		{2, drivenBy("01:ab", "0:ab", "1:ab"), drivenBy("0:ab", "1:ab"), []int{0, 1, 2}}, {2, drivenBy("0:ab", "01:ab", "1:abc"), drivenBy("01:ab", "1:abc"), []int{0, 1}},
		{3, drivenBy("01:a", "12:a", "02:a"), drivenBy("12:a", "02:a"), []int{0, 1, 2}}, {3, drivenBy("0:abc", "1:abc", "2:abc"), drivenBy("0:abc", "1:abc", "2:abc"), nil},
		{1, drivenBy("0:ab", "0:bc", "0:cd", "0:da"), drivenBy("0:bc", "0:da"), []int{0, 1, 2, 3}}, {1, drivenBy("0:ab", "0:bc", "0:cd"), drivenBy("0:ab", "0:cd"), []int{1}},
	} {
		vain, one := impl.VainSlots(x.k, x.frame)
		rest, two := impl.DropVain(x.k, x.frame)
		if !one || !two || !slices.Equal(vain, x.vain) || !slices.Equal(rest, x.rest) {
			t.Errorf("the vain Slots of %v are %v, %v, and %v, %v are left", x.frame, vain, one, rest, two)
		}
	}
}

func TestSwitchesOf(t *testing.T) {
	for k := 1; k <= impl.MaxCells; k++ {
		for _, frame := range manyFrames(k) {
			if switches, ok := impl.SwitchesOf(k, frame); !ok || switches != switchesByHand(frame) {
				t.Fatalf("the switches of %v are %d, %v", frame, switches, ok)
			}
		}
	}
	for _, x := range []struct {
		k        int
		frame    []impl.Slot
		switches int
	}{
		{1, nil, 0}, {6, nil, 0}, {1, drivenBy("0:a"), 0}, {6, drivenBy("012345:abcdefg"), 0}, {1, drivenBy("0:a", "0:a"), 0}, {1, drivenBy(":", "0:a"), 4}, {2, drivenBy("0:bc", "01:a"), 8},
		{6, drivenBy(":", "012345:abcdefg"), 26}, {6, slices.Repeat(drivenBy(":", "012345:abcdefg"), 6), 156}, {3, drivenBy("0:a", "1:a", "2:a"), 6}, {3, drivenBy("0:a", "1:b", "1:a"), 8},
	} {
		if switches, ok := impl.SwitchesOf(x.k, x.frame); !ok || switches != x.switches {
			t.Errorf("the switches of %v are %d, %v", x.frame, switches, ok)
		}
	}
}

func TestLeastSwitches(t *testing.T) {
	for k := 1; k <= impl.MaxCells; k++ {
		for i, frame := range manyFrames(k) {
			best, fewest, ok := impl.LeastSwitches(k, frame)
			if len(frame) > 6 {
				if ok || len(best) != 0 || fewest != 0 {
					t.Fatalf("%v has the least switches as %v, %d, %v", frame, best, fewest, ok)
				}
				continue
			}
			if len(frame) == 6 && i%3 == 0 && k < 6 {
				continue
			}
			sorted := slices.SortedFunc(slices.Values(frame), compareSlots)
			want, few := sorted, switchesByHand(sorted)
			for _, places := range ordersOf([]int{0, 1, 2, 3, 4, 5}[:len(frame)]) {
				var order []impl.Slot
				for _, place := range places {
					order = append(order, sorted[place])
				}
				if switches := switchesByHand(order); switches < few {
					want, few = order, switches
				}
			}
			if !ok || fewest != few || !slices.Equal(best, want) {
				t.Fatalf("%v has the least switches as %v, %d, %v, not as %v, %d", frame, best, fewest, ok, want, few)
			}
			if switches, ok := impl.SwitchesOf(k, best); !ok || switches != fewest {
				t.Fatalf("%v has the switches %d, %v, not %d", best, switches, ok, fewest)
			}
		}
	}
}

func TestSomeLeastSwitches(t *testing.T) {
	for _, x := range []struct {
		k           int
		frame, best []impl.Slot
		fewest      int
	}{
		{1, nil, nil, 0}, {1, drivenBy("0:a"), drivenBy("0:a"), 0}, {2, drivenBy("01:a", "0:bc"), drivenBy("0:bc", "01:a"), 8}, {1, drivenBy("0:", ":a", "0:a", ":"), drivenBy(":", ":a", "0:a", "0:"), 4},
		{1, drivenBy("0:c", "0:b", "0:a"), drivenBy("0:a", "0:b", "0:c"), 6}, {1, drivenBy("0:g", "0:", "0:g", "0:", "0:g", "0:"), drivenBy("0:", "0:", "0:", "0:g", "0:g", "0:g"), 2},
		{3, drivenBy("2:c", "1:b", "0:a"), drivenBy("0:a", "1:b", "2:c"), 12}, {6, drivenBy("5:a", "4:a", "3:a", "2:a", "1:a", "0:a"), drivenBy("0:a", "1:a", "2:a", "3:a", "4:a", "5:a"), 12},
		{1, drivenBy("0:ab", "0:", "0:cd", "0:abcd"), drivenBy("0:", "0:ab", "0:abcd", "0:cd"), 8},
	} {
		if best, fewest, ok := impl.LeastSwitches(x.k, x.frame); !ok || fewest != x.fewest || !slices.Equal(best, x.best) {
			t.Errorf("%v has the least switches as %v, %d, %v", x.frame, best, fewest, ok)
		}
	}
}

func TestBrightestBars(t *testing.T) {
	for k := 1; k <= impl.MaxCells; k++ {
		for _, frame := range manyFrames(k) {
			greatest, least := 0, 0
			for _, count := range timesByHand(frame) {
				greatest = max(greatest, count)
				if least == 0 || count < least {
					least = count
				}
			}
			most, few, ok := impl.BrightestBars(k, frame)
			if ok != (greatest > 0) || most != greatest || few != least {
				t.Fatalf("the brightest bars of %v are %d, %d, %v", frame, most, few, ok)
			}
		}
	}
	for _, x := range []struct {
		k           int
		frame       []impl.Slot
		most, least int
	}{
		{1, nil, 0, 0}, {6, drivenBy(":", "012345:", ":abcdefg"), 0, 0}, {1, drivenBy("0:a"), 1, 1}, {6, slices.Repeat(drivenBy("5:g"), 12), 12, 12}, {2, drivenBy("0:a", "0:a", "0:a", "01:ab", "1:b"), 4, 1}, {2, drivenBy("0:ab", "0:ab", "01:a", "1:a"), 3, 2},
	} {
		if most, least, ok := impl.BrightestBars(x.k, x.frame); ok != (x.most > 0) || most != x.most || least != x.least {
			t.Errorf("the brightest bars of %v are %d, %d, %v", x.frame, most, least, ok)
		}
	}
}

// failsOfTurns tells which functions do not fail for a number of cells and a list, or return more than zero values.
func failsOfTurns(k int, list []impl.Slot) string {
	seen, a := impl.SeenOf(k, list)
	duty, b := impl.DutyOf(k, list)
	ghosts, c := impl.GhostsOf(k, list)
	blanked, d := impl.WithBlanks(k, list)
	vain, e := impl.VainSlots(k, list)
	rest, f := impl.DropVain(k, list)
	switches, g := impl.SwitchesOf(k, list)
	best, fewest, h := impl.LeastSwitches(k, list)
	most, least, i := impl.BrightestBars(k, list)
	if a || b || c || d || e || f || g || h || i || len(seen)+len(duty)+len(ghosts)+len(blanked)+len(vain)+len(rest)+len(best) != 0 || switches != 0 || fewest != 0 || most != 0 || least != 0 {
		return fmt.Sprint(seen, a, duty, b, ghosts, c, blanked, d, vain, e, rest, f, switches, g, best, fewest, h, most, least, i)
	}
	return ""
}

func TestAllFunctionsFailForNoFrames(t *testing.T) {
	for k := 1; k <= impl.MaxCells; k++ {
		for _, list := range noFrames(k) {
			if failed := failsOfTurns(k, list); failed != "" {
				t.Errorf("%.60s of %d cells: %s", fmt.Sprint(list), k, failed)
			}
		}
	}
	// What is a frame for more cells is none for fewer.
	for k := 2; k <= impl.MaxCells; k++ {
		list := []impl.Slot{{Cells: powerOfTwo(k - 1), Bars: 1}}
		if failed := failsOfTurns(k-1, list); failed != "" {
			t.Errorf("%v of %d cells: %s", list, k-1, failed)
		}
		if seen, ok := impl.SeenOf(k, list); !ok || seen[k-1] != 1 {
			t.Errorf("of %v of %d cells is seen %v, %v", list, k, seen, ok)
		}
	}
}

func TestAllFunctionsFailForOtherNumbersOfCells(t *testing.T) {
	for _, k := range noCounts {
		for _, list := range slices.Concat(manyFrames(1), noFrames(1), noFrames(6)) {
			if failed := failsOfTurns(k, list); failed != "" {
				t.Fatalf("%.60s of %d cells: %s", fmt.Sprint(list), k, failed)
			}
			if is, ok := impl.IsFrame(k, list); is || ok {
				t.Fatalf("%.60s of %d cells is a frame: %v, %v", fmt.Sprint(list), k, is, ok)
			}
		}
	}
}

func TestArgumentsOfTurnsAreNotModified(t *testing.T) {
	for _, given := range [][]impl.Slot{
		drivenBy("01:a", "0:a", "1:a", "0:bc", ":", "01:g", "1:"), slices.Repeat(drivenBy("1:b", "0:a"), 7), {{Cells: 1, Bars: 1}, {Cells: -1, Bars: 1}, {Cells: 1, Bars: 128}, {}},
	} {
		frame := slices.Clone(given)
		for size := range len(frame) + 1 {
			for k := range 8 {
				part := frame[:size]
				impl.IsFrame(k, part)
				failsOfTurns(k, part)
			}
		}
		if !slices.Equal(frame, given) {
			t.Error("the frame is", frame, "and was", given)
		}
	}
	row := []int{6, 7, 1, 0, 127, 6, 128, -1}
	kept := slices.Clone(row)
	for size := range len(row) + 1 {
		impl.PlainFrame(row[:size])
		impl.LeastSlots(row[:size])
		impl.FullBars(row[:size], 3)
	}
	if !slices.Equal(row, kept) {
		t.Error("the row is", row, "and was", kept)
	}
}

// standApart fails for calls whose results share memory with those of later calls, or with a frame or a row that is given to them.
func standApart[E comparable](t *testing.T, frame []impl.Slot, row []int, spoiled E, calls map[string]func() ([]E, bool)) {
	keptFrame, keptRow := slices.Clone(frame), slices.Clone(row)
	for name, call := range calls {
		first, ok := call()
		kept := slices.Clone(first)
		for i := range first[:cap(first)] {
			first[:cap(first)][i] = spoiled
		}
		if again, fine := call(); ok != fine || !slices.Equal(again, kept) {
			t.Error(name, "is", again, "and was", kept)
		}
		if !slices.Equal(frame, keptFrame) || !slices.Equal(row, keptRow) {
			t.Fatal(name, "shares its argument:", frame, row)
		}
	}
}

func TestResultsOfTurnsStandAlone(t *testing.T) {
	frame, row := drivenBy("0:bc", "1:a", "2:g"), []int{6, 0, 7}
	same := drivenBy("0:a", "0:a", "0:a")
	leastOf := func(k int, list []impl.Slot) ([]impl.Slot, bool) {
		best, _, ok := impl.LeastSwitches(k, list)
		return best, ok
	}
	for _, given := range [][]impl.Slot{frame, frame[:1], frame[:0], same, same[1:], {{Cells: 64}}} {
		standApart(t, given[:cap(given)], row, impl.Slot{Cells: -7, Bars: -7}, map[string]func() ([]impl.Slot, bool){
			"PlainFrame":    func() ([]impl.Slot, bool) { return impl.PlainFrame(row) },
			"PlainFrame no": func() ([]impl.Slot, bool) { return impl.PlainFrame(row[:0]) },
			"WithBlanks":    func() ([]impl.Slot, bool) { return impl.WithBlanks(3, given) },
			"DropVain":      func() ([]impl.Slot, bool) { return impl.DropVain(3, given) },
			"LeastSwitches": func() ([]impl.Slot, bool) { return leastOf(3, given) },
		})
		standApart(t, given[:cap(given)], row, -7, map[string]func() ([]int, bool){
			"SeenOf":    func() ([]int, bool) { return impl.SeenOf(3, given) },
			"GhostsOf":  func() ([]int, bool) { return impl.GhostsOf(3, given) },
			"VainSlots": func() ([]int, bool) { return impl.VainSlots(3, given) },
		})
		standApart(t, given[:cap(given)], row, [7]int{-7, -7}, map[string]func() ([][7]int, bool){
			"DutyOf": func() ([][7]int, bool) { return impl.DutyOf(3, given) },
		})
	}
}

// answersOfTurns returns what all functions of the chapter return for numbers of cells, frames and rows of all sorts.
func answersOfTurns() []any {
	var all []any
	tell := func(x ...any) { all = append(all, fmt.Sprint(x...)) }
	for _, k := range append(slices.Clone(noCounts), 1, 2, 3, 6) {
		for _, frame := range slices.Concat(manyFrames(2), noFrames(2)) {
			is, a := impl.IsFrame(k, frame)
			seen, b := impl.SeenOf(k, frame)
			duty, c := impl.DutyOf(k, frame)
			ghosts, d := impl.GhostsOf(k, frame)
			blanked, e := impl.WithBlanks(k, frame)
			vain, f := impl.VainSlots(k, frame)
			rest, g := impl.DropVain(k, frame)
			switches, h := impl.SwitchesOf(k, frame)
			best, fewest, i := impl.LeastSwitches(k, frame)
			most, least, j := impl.BrightestBars(k, frame)
			tell(is, seen, duty, ghosts, blanked, vain, rest, switches, best, fewest, most, least, a, b, c, d, e, f, g, h, i, j)
		}
	}
	for _, r := range slices.Concat(manyRows(), noRows) {
		frame, one := impl.PlainFrame(r)
		slots, two := impl.LeastSlots(r)
		tell(frame, slots, one, two)
		for _, cells := range append([]int{0, 1, 2, 3, 7, 15, 31, 63, 64}, noCells...) {
			bars, ok := impl.FullBars(r, cells)
			tell(bars, ok)
		}
	}
	return all
}

func TestTurnsReturnTheSameForAllArguments(t *testing.T) {
	if !reflect.DeepEqual(answersOfTurns(), answersOfTurns()) {
		t.Error("other results for the same arguments")
	}
}
