package tests

import (
	"fmt"
	"math"
	"math/rand/v2"
	"reflect"
	"slices"
	"strings"
	"testing"

	"loop.example/g01265/impl"
)

// farWritten tells how far all cells are from one another, letter by letter.
var farWritten = farByLetters()

// noCodes are lists that are no codes: of no cells or too many, with a cell twice, or with numbers that are no cells.
var noCodes = [][]int{
	nil, {}, {-1}, {128}, {255}, {-128}, {1 << 32}, {1<<32 + 6}, {math.MaxInt}, {math.MinInt}, {0, 0}, {127, 127}, {1, 2, 1}, {5, 6, 7, 7},
	{0, -1}, {-1, 0}, {0, 128}, {128, 0}, {6, 64, 128}, {-1, -1}, {128, 128}, {0, 1, 2, 3, 4, 5, 6, 7, 8, 9, 10, 0}, {0, 1, 2, 3, 4, 5, 6, 7, 8, 9, 10, 10},
	{0, 1, 2, 3, 4, 5, 6, 7, 8, 9, 10, 128}, {-1, 1, 2, 3, 4, 5, 6, 7, 8, 9, 10, 11}, {0, 1, 2, 3, 4, 5, 6, 7, 8, 9, 10, 11, 12},
	{0, 1, 2, 3, 4, 5, 6, 7, 8, 9, 10, 11, 11}, {0, 1, 2, 3, 4, 5, 6, 7, 8, 9, 10, 11, 0}, {12, 11, 10, 9, 8, 7, 6, 5, 4, 3, 2, 1, 0, 127},
	make([]int, 12), make([]int, 13), make([]int, 100000), everyCell(),
}

// noDistances are numbers that are not 1..7.
var noDistances = []int{0, -1, -7, 8, 9, 127, 128, 1 << 32, 1<<32 + 1, math.MaxInt, math.MinInt, math.MinInt + 1}

// noMosts are numbers that are not 1..MaxCode.
var noMosts = []int{0, -1, -12, 13, 14, 128, 1 << 32, 1<<32 + 1, math.MaxInt, math.MinInt, math.MinInt + 12}

func everyCell() []int {
	var all []int
	for c := range 128 {
		all = append(all, c)
	}
	return all
}

func farByLetters() [128][128]int {
	var letters [128]string
	for c := range letters {
		letters[c] = lettersOf(c)
	}
	var far [128][128]int
	for a, one := range letters {
		for b, other := range letters {
			for _, letter := range []string{"a", "b", "c", "d", "e", "f", "g"} {
				if strings.Contains(one, letter) != strings.Contains(other, letter) {
					far[a][b]++
				}
			}
		}
	}
	return far
}

// manyCodes returns all codes of one cell, and codes of each other size: of cells far and near, in order and not, with many that are alike.
func manyCodes() [][]int {
	codes := [][]int{
		{0, 7, 56}, {0, 1, 7, 56}, {0, 127}, {127, 0}, {0, 1}, {1, 0}, {63, 127}, {0, 3}, {0, 7}, {0, 15}, {0, 31}, {0, 63}, {0, 1, 2, 4, 8, 16, 32, 64},
		{64, 32, 16, 8, 4, 2, 1, 0}, {127, 126, 125, 123, 119, 111, 95, 63}, {0, 1, 2, 3, 4, 5, 6, 7, 8, 9, 10, 11}, {11, 10, 9, 8, 7, 6, 5, 4, 3, 2, 1, 0},
		{0, 3, 5, 6, 9, 10, 12, 15, 17, 18, 20, 23}, {0, 7, 25, 30, 42, 45, 51, 52, 75, 76, 82, 85}, {0, 15, 51, 60, 85, 90, 102, 105},
		{1, 2, 0, 7}, {3, 1, 0, 2}, {1, 0, 3, 2, 127}, {0, 1, 3, 7, 15, 31, 63, 127}, {127, 63, 31, 15, 7, 3, 1, 0},
		slices.Clone(digitNumbers), backwards(digitNumbers, func(c int) int { return c }),
	}
	for c := range 128 {
		codes = append(codes, []int{c})
	}
	numbers := rand.New(rand.NewPCG(5, 7))
	for size := 2; size <= 12; size++ {
		for _, among := range []int{16, 32, 128, 128} {
			for range 4 {
				code := numbers.Perm(among)[:size]
				offset := numbers.IntN(128)
				codes = append(codes, backwards(code, func(c int) int { return c ^ offset }))
			}
		}
	}
	return codes
}

// pairsByHand returns all pairs of places of a code whose cells are d far from one another.
func pairsByHand(code []int, d int) [][2]int {
	var pairs [][2]int
	for i := range code {
		for k := range code {
			if i < k && farWritten[code[i]][code[k]] == d {
				pairs = append(pairs, [2]int{i, k})
			}
		}
	}
	return pairs
}

// gapByHand returns the least d at which there are pairs, and 0 if there is none.
func gapByHand(code []int) int {
	for d := 1; d <= 7; d++ {
		if len(pairsByHand(code, d)) > 0 {
			return d
		}
	}
	return 0
}

// farsFrom tells how far all cells of a code are from a cell.
func farsFrom(code []int, c int) []int {
	var fars []int
	for _, other := range code {
		fars = append(fars, farWritten[c][other])
	}
	return fars
}

// nearCells returns all cells that are at most k far from a cell.
func nearCells(c int, k int) []int {
	return slices.DeleteFunc(everyCell(), func(other int) bool { return farWritten[c][other] > k })
}

// isSpreadByHand reports whether no two cells are less than d far from one another.
func isSpreadByHand(cells []int, d int) bool {
	for less := 1; less < d; less++ {
		if len(pairsByHand(cells, less)) > 0 {
			return false
		}
	}
	return true
}

// cellsAt returns the cells at some places of a code.
func cellsAt(code []int, places []int) []int {
	var cells []int
	for _, place := range places {
		cells = append(cells, code[place])
	}
	return cells
}

// spreadParts returns the places of the first largest part of a code that is spread by d, by looking at all parts, and how many are as large.
func spreadParts(code []int, d int) ([]int, int) {
	var close [12]int
	for i := range code {
		for k := range code {
			if i != k && farWritten[code[i]][code[k]] < d {
				close[i] |= 1 << k
			}
		}
	}
	var best []int
	many := 0
	for set := range 1 << len(code) {
		var part []int
		apart := true
		for place := range code {
			if set>>place&1 == 1 {
				part = append(part, place)
				apart = apart && close[place]&set == 0
			}
		}
		switch {
		case !apart || len(part) < len(best):
		case len(part) > len(best):
			best, many = part, 1
		default:
			many++
			if slices.Compare(part, best) < 0 {
				best = part
			}
		}
	}
	return best, many
}

func TestLimitsOfCodes(t *testing.T) {
	if impl.MaxCode != 12 || impl.Cells != 128 {
		t.Error("MaxCode, Cells", impl.MaxCode, impl.Cells)
	}
}

func TestIsCode(t *testing.T) {
	for _, code := range manyCodes() {
		if !impl.IsCode(code) {
			t.Error("no code:", code)
		}
	}
	for _, code := range noCodes {
		if impl.IsCode(code) {
			t.Errorf("a code: %.60s", fmt.Sprint(code))
		}
	}
	for _, no := range noCells {
		for size := range 12 {
			for place := range size + 1 {
				if code := slices.Insert(everyCell()[:size:size], place, no); impl.IsCode(code) {
					t.Error("a code:", code)
				}
			}
		}
	}
	for size := 1; size <= 12; size++ {
		code := everyCell()[128-size:]
		if !impl.IsCode(code) {
			t.Error("no code:", code)
		}
		for i := range code {
			for k := range i {
				twice := slices.Clone(code)
				twice[i] = twice[k]
				if impl.IsCode(twice) {
					t.Error("a code:", twice)
				}
			}
		}
	}
	if all := everyCell(); impl.IsCode(all[:13]) || !impl.IsCode(all[:12]) || impl.IsCode(all[:0]) {
		t.Error("sizes of codes")
	}
}

func TestDigitCode(t *testing.T) {
	for i, set := range setsOfDigits() {
		for _, digits := range [][]int{set, mixed(set, i), backwards(set, func(digit int) int { return digit })} {
			code, ok := impl.DigitCode(digits)
			if ok != (len(set) > 0) || !slices.Equal(code, cellsAt(digitNumbers, digits)) {
				t.Fatalf("the code of %v: %v, %v", digits, code, ok)
			}
			if ok && !impl.IsCode(code) {
				t.Fatalf("no code of %v: %v", digits, code)
			}
		}
	}
	for _, x := range []struct{ digits, code []int }{
		{[]int{1, 7}, []int{6, 7}}, {[]int{7, 1}, []int{7, 6}}, {[]int{0}, []int{63}}, {[]int{9}, []int{111}}, {[]int{8, 0, 4}, []int{127, 63, 102}},
		{[]int{0, 1, 2, 3, 4, 5, 6, 7, 8, 9}, []int{63, 6, 91, 79, 102, 109, 125, 7, 127, 111}},
	} {
		if code, ok := impl.DigitCode(x.digits); !ok || !slices.Equal(code, x.code) {
			t.Errorf("the code of %v: %v, %v", x.digits, code, ok)
		}
	}
}

func TestDigitCodeOfInvalidListsFails(t *testing.T) {
	all := append(slices.Clone(noOrders), nil, []int{})
	for _, no := range noDigits {
		all = append(all, []int{no}, []int{no, 4}, []int{4, 2, no}, []int{0, 1, 2, 3, no, 5, 6, 7, 8, 9})
	}
	for digit := range 10 {
		all = append(all, []int{digit, digit}, []int{digit, (digit + 3) % 10, digit})
	}
	for _, digits := range all {
		if code, ok := impl.DigitCode(digits); ok || len(code) != 0 {
			t.Errorf("the code of %.60s: %v, %v", fmt.Sprint(digits), code, ok)
		}
	}
}

func TestGapsAreThoseOfTheNearestPairs(t *testing.T) {
	alike := 0
	for _, code := range manyCodes() {
		want := gapByHand(code)
		gap, one := impl.GapOf(code)
		pairs, two := impl.GapPairs(code)
		if !one || !two || gap != want || !slices.Equal(pairs, pairsByHand(code, want)) {
			t.Errorf("%v: %d, %v and %v, %v, not %d and %v", code, gap, one, pairs, two, want, pairsByHand(code, want))
		}
		if (len(pairs) == 0) != (len(code) == 1) || (gap == 0) != (len(code) == 1) {
			t.Errorf("%v of %d cells: %d and %v", code, len(code), gap, pairs)
		}
		if len(pairs) > 1 {
			alike++
		}
	}
	if alike < 50 {
		t.Error("too few codes with several nearest pairs:", alike)
	}
}

func TestGapsOfAllPairsOfCells(t *testing.T) {
	for a := range 128 {
		for b := range 128 {
			if a == b {
				continue
			}
			code, far := []int{a, b}, farWritten[a][b]
			gap, one := impl.GapOf(code)
			pairs, two := impl.GapPairs(code)
			sees, three := impl.SeesUpTo(code)
			mends, four := impl.MendsUpTo(code)
			if !one || !two || !three || !four || gap != far || !slices.Equal(pairs, [][2]int{{0, 1}}) || sees != far-1 || mends != []int{0, 0, 0, 1, 1, 2, 2, 3}[far] {
				t.Fatalf("%v: %d, %v, %d, %d", code, gap, pairs, sees, mends)
			}
		}
	}
}

func TestSomeGaps(t *testing.T) {
	for _, x := range []struct {
		code  []int
		gap   int
		pairs [][2]int
	}{
		{[]int{0}, 0, nil}, {[]int{127}, 0, nil}, {[]int{0, 127}, 7, [][2]int{{0, 1}}}, {[]int{0, 7, 56}, 3, [][2]int{{0, 1}, {0, 2}}},
		{[]int{7, 56, 0}, 3, [][2]int{{0, 2}, {1, 2}}}, {[]int{1, 2, 4}, 2, [][2]int{{0, 1}, {0, 2}, {1, 2}}}, {[]int{127, 0, 3, 124}, 2, [][2]int{{0, 3}, {1, 2}}},
		{digitNumbers, 1, [][2]int{{0, 8}, {1, 7}, {3, 9}, {5, 6}, {5, 9}, {6, 8}, {8, 9}}},
		{[]int{0, 7, 25, 30, 42, 45}, 3, [][2]int{{0, 1}, {0, 2}, {0, 4}, {1, 3}, {1, 5}, {2, 3}, {2, 5}, {3, 4}, {4, 5}}},
	} {
		gap, one := impl.GapOf(x.code)
		pairs, two := impl.GapPairs(x.code)
		if !one || !two || gap != x.gap || !slices.Equal(pairs, x.pairs) {
			t.Errorf("%v: %d, %v and %v, %v", x.code, gap, one, pairs, two)
		}
	}
}

func TestNearestCellsAreTheLeastFar(t *testing.T) {
	alike := 0
	for _, code := range manyCodes() {
		for c := range 128 {
			fars := farsFrom(code, c)
			least := slices.Min(fars)
			near, far, ok := impl.NearestOf(code, c)
			if !ok || far != least || !slices.Equal(near, placesOf(fars, least)) {
				t.Fatalf("of %v nearest to %d: %v, %d, %v, not %v, %d", code, c, near, far, ok, placesOf(fars, least), least)
			}
			if len(near) > 2 {
				alike++
			}
		}
	}
	if alike < 1000 {
		t.Error("too few cells to which several are the nearest:", alike)
	}
}

func TestSomeNearestCells(t *testing.T) {
	for _, x := range []struct {
		code []int
		c    int
		near []int
		far  int
	}{
		{[]int{0, 7, 56}, 1, []int{0}, 1}, {[]int{0, 7, 56}, 7, []int{1}, 0}, {[]int{0, 127}, 7, []int{0}, 3}, {[]int{0, 127}, 15, []int{1}, 3},
		{[]int{5}, 5, []int{0}, 0}, {[]int{0}, 127, []int{0}, 7}, {[]int{127}, 0, []int{0}, 7}, {[]int{85}, 42, []int{0}, 7}, {[]int{7, 56}, 0, []int{0, 1}, 3},
		{[]int{64, 32, 16, 8, 4, 2, 1}, 0, []int{0, 1, 2, 3, 4, 5, 6}, 1}, {[]int{64, 32, 16, 8, 4, 2, 1}, 127, []int{0, 1, 2, 3, 4, 5, 6}, 6},
		{digitNumbers, 127, []int{8}, 0}, {digitNumbers, 0, []int{1}, 2}, {digitNumbers, 126, []int{8}, 1}, {digitNumbers, 64, []int{1, 4}, 3},
	} {
		if near, far, ok := impl.NearestOf(x.code, x.c); !ok || far != x.far || !slices.Equal(near, x.near) {
			t.Errorf("of %v nearest to %d: %v, %d, %v", x.code, x.c, near, far, ok)
		}
	}
}

func TestNearestOfNoCellsFails(t *testing.T) {
	for _, no := range noCells {
		for _, code := range [][]int{{0}, {127}, {0, 127}, digitNumbers, everyCell()[:12], nil, {no}} {
			if near, far, ok := impl.NearestOf(code, no); ok || len(near) != 0 || far != 0 {
				t.Errorf("of %v nearest to %d: %v, %d, %v", code, no, near, far, ok)
			}
		}
	}
}

// mendsWithin reports whether the cells near those of a code within k are all different ones for different places.
func mendsWithin(code []int, k int) bool {
	var all []int
	for _, c := range code {
		all = append(all, nearCells(c, k)...)
	}
	slices.Sort(all)
	return len(slices.Compact(slices.Clone(all))) == len(all)
}

// seesWithin reports whether no cell of a code is near another one of it within k.
func seesWithin(code []int, k int) bool {
	for i, c := range code {
		for other, far := range farsFrom(code, c) {
			if i != other && far <= k {
				return false
			}
		}
	}
	return true
}

func TestMendsAndSeesUpTo(t *testing.T) {
	seen := map[[2]int]bool{}
	for _, code := range manyCodes() {
		mends, one := impl.MendsUpTo(code)
		sees, two := impl.SeesUpTo(code)
		if len(code) == 1 {
			if one || two || mends != 0 || sees != 0 {
				t.Errorf("%v of one cell: %d, %v, %d, %v", code, mends, one, sees, two)
			}
			continue
		}
		if !one || !two || !mendsWithin(code, mends) || mendsWithin(code, mends+1) || !seesWithin(code, sees) || seesWithin(code, sees+1) {
			t.Errorf("%v mends %d, %v and sees %d, %v", code, mends, one, sees, two)
		}
		if gap := gapByHand(code); sees != gap-1 || mends != (gap-1)/2 {
			t.Errorf("%v mends %d and sees %d with the gap %d", code, mends, sees, gap)
		}
		seen[[2]int{mends, sees}] = true
	}
	if len(seen) != 7 {
		t.Error("not all gaps:", seen)
	}
}

func TestCellsNearACode(t *testing.T) {
	for _, code := range manyCodes() {
		cover, ok := impl.CoverOf(code)
		least := -1
		for k := range 8 {
			var all []int
			for _, c := range code {
				all = append(all, nearCells(c, k)...)
			}
			slices.Sort(all)
			want := len(slices.Compact(all))
			if count, ok := impl.CountNear(code, k); !ok || count != want {
				t.Fatalf("near %v within %d: %d, %v, not %d", code, k, count, ok, want)
			}
			if want == 128 && least < 0 {
				least = k
			}
		}
		if !ok || cover != least {
			t.Errorf("%v covers all within %d, %v, not %d", code, cover, ok, least)
		}
		if count, ok := impl.CountNear(code, 0); !ok || count != len(code) {
			t.Errorf("near %v within 0: %d, %v", code, count, ok)
		}
	}
}

func TestCountNearFailsForOtherNumbers(t *testing.T) {
	for _, code := range [][]int{{0}, {127}, {0, 127}, digitNumbers, everyCell()[:12]} {
		for _, k := range noDistances[1:] {
			if count, ok := impl.CountNear(code, k); ok || count != 0 {
				t.Errorf("near %v within %d: %d, %v", code, k, count, ok)
			}
		}
	}
	for _, x := range [][3]int{{0, 0, 1}, {0, 1, 8}, {5, 2, 29}, {127, 3, 64}, {64, 6, 127}, {127, 7, 128}} {
		if count, ok := impl.CountNear([]int{x[0]}, x[1]); !ok || count != x[2] {
			t.Errorf("near %d within %d: %d, %v", x[0], x[1], count, ok)
		}
	}
}

func TestFarthestCell(t *testing.T) {
	alike := 0
	for _, code := range manyCodes() {
		var least []int
		for c := range 128 {
			least = append(least, slices.Min(farsFrom(code, c)))
		}
		most := slices.Max(least)
		cells := placesOf(least, most)
		cell, far, one := impl.FarthestCell(code)
		if !one || cell != cells[0] || far != most {
			t.Errorf("the farthest from %v: %d, %d, %v, not %d, %d", code, cell, far, one, cells[0], most)
		}
		if cover, two := impl.CoverOf(code); !two || cover != most {
			t.Errorf("%v covers all within %d, %v, not %d", code, cover, two, most)
		}
		if len(cells) > 1 {
			alike++
		}
	}
	if alike < 50 {
		t.Error("too few codes from which several cells are the farthest:", alike)
	}
}

func TestSomeCovers(t *testing.T) {
	for _, x := range []struct {
		code      []int
		cell, far int
	}{
		{[]int{0}, 127, 7}, {[]int{127}, 0, 7}, {[]int{85}, 42, 7}, {[]int{0, 127}, 7, 3}, {[]int{0, 7, 56}, 91, 4}, {[]int{0, 1}, 126, 6},
		{[]int{0, 15, 51, 60, 85, 90, 102, 105}, 22, 3}, {[]int{0, 1, 2, 3, 4, 5, 6, 7, 8, 9, 10, 11}, 124, 4}, {digitNumbers, 48, 4},
	} {
		cell, far, one := impl.FarthestCell(x.code)
		cover, two := impl.CoverOf(x.code)
		if !one || !two || cell != x.cell || far != x.far || cover != x.far {
			t.Errorf("the farthest from %v: %d, %d, %v and %d, %v", x.code, cell, far, one, cover, two)
		}
	}
}

func TestGreedyCode(t *testing.T) {
	for d := 1; d <= 7; d++ {
		for most := 1; most <= 12; most++ {
			var want []int
			for c := 0; c < 128 && len(want) < most; c++ {
				if isSpreadByHand(append(slices.Clone(want), c), d) {
					want = append(want, c)
				}
			}
			code, ok := impl.GreedyCode(d, most)
			if !ok || !slices.Equal(code, want) || !impl.IsCode(code) || !isSpreadByHand(code, d) {
				t.Errorf("spread by %d of at most %d: %v, %v, not %v", d, most, code, ok, want)
			}
		}
	}
	for _, x := range []struct {
		d, most int
		code    []int
	}{
		{1, 1, []int{0}}, {7, 1, []int{0}}, {7, 2, []int{0, 127}}, {7, 3, []int{0, 127}}, {7, 12, []int{0, 127}}, {6, 12, []int{0, 63}}, {5, 12, []int{0, 31}},
		{4, 12, []int{0, 15, 51, 60, 85, 90, 102, 105}}, {4, 7, []int{0, 15, 51, 60, 85, 90, 102}}, {3, 12, []int{0, 7, 25, 30, 42, 45, 51, 52, 75, 76, 82, 85}},
		{2, 12, []int{0, 3, 5, 6, 9, 10, 12, 15, 17, 18, 20, 23}}, {1, 12, []int{0, 1, 2, 3, 4, 5, 6, 7, 8, 9, 10, 11}}, {1, 2, []int{0, 1}},
	} {
		if code, ok := impl.GreedyCode(x.d, x.most); !ok || !slices.Equal(code, x.code) {
			t.Errorf("spread by %d of at most %d: %v, %v", x.d, x.most, code, ok)
		}
	}
}

func TestGreedyCodeFailsForOtherNumbers(t *testing.T) {
	for _, d := range append([]int{1, 2, 3, 4, 5, 6, 7}, noDistances...) {
		for _, most := range append([]int{1, 2, 11, 12}, noMosts...) {
			if !slices.Contains(noDistances, d) && !slices.Contains(noMosts, most) {
				continue
			}
			if code, ok := impl.GreedyCode(d, most); ok || len(code) != 0 {
				t.Errorf("spread by %d of at most %d: %v, %v", d, most, code, ok)
			}
		}
	}
}

func TestSpreadPart(t *testing.T) {
	alike := 0
	for _, code := range manyCodes() {
		for d := 1; d <= 7; d++ {
			want, many := spreadParts(code, d)
			part, ok := impl.SpreadPart(code, d)
			if !ok || !slices.Equal(part, want) {
				t.Fatalf("of %v spread by %d: %v, %v, not %v", code, d, part, ok, want)
			}
			if !slices.IsSorted(part) || !isSpreadByHand(cellsAt(code, part), d) {
				t.Fatalf("of %v not spread by %d: %v", code, d, part)
			}
			if many > 3 && len(part) > 2 {
				alike++
			}
		}
	}
	if alike < 50 {
		t.Error("too few codes with several largest parts:", alike)
	}
}

func TestSomeSpreadParts(t *testing.T) {
	for _, x := range []struct {
		code []int
		d    int
		part []int
	}{
		{[]int{0, 1, 7, 56}, 3, []int{0, 2, 3}}, {[]int{0, 1, 7, 56}, 1, []int{0, 1, 2, 3}}, {[]int{0, 1, 7, 56}, 7, []int{0}}, {[]int{9}, 1, []int{0}},
		{[]int{9}, 7, []int{0}}, {[]int{0, 127}, 7, []int{0, 1}}, {[]int{1, 0, 127}, 7, []int{1, 2}}, {[]int{0, 1, 126, 127}, 7, []int{0, 3}},
		{[]int{0, 1, 2, 3}, 2, []int{0, 3}}, {[]int{1, 0, 3, 2}, 2, []int{0, 3}}, {[]int{0, 1, 2, 4, 8, 16, 32, 64}, 2, []int{1, 2, 3, 4, 5, 6, 7}},
		{[]int{0, 1, 2, 3, 4, 5, 6, 7, 8, 9, 10, 11}, 1, []int{0, 1, 2, 3, 4, 5, 6, 7, 8, 9, 10, 11}}, {[]int{0, 1, 2, 3, 4, 5, 6, 7, 8, 9, 10, 11}, 5, []int{0}},
		{[]int{0, 1, 2, 3, 4, 5, 6, 7, 8, 9, 10, 11}, 3, []int{0, 7}}, {digitNumbers, 2, []int{0, 1, 2, 3, 4, 5}}, {digitNumbers, 3, []int{0, 2, 4, 5, 7}},
	} {
		if part, ok := impl.SpreadPart(x.code, x.d); !ok || !slices.Equal(part, x.part) {
			t.Errorf("of %v spread by %d: %v, %v", x.code, x.d, part, ok)
		}
	}
}

func TestFlipCode(t *testing.T) {
	for _, code := range manyCodes() {
		for bars := range 128 {
			var want []int
			for _, c := range code {
				sent, change := lettersOf(c), lettersOf(bars)
				want = append(want, cellWith(func(letter string) bool { return strings.Contains(sent, letter) != strings.Contains(change, letter) }))
			}
			flipped, ok := impl.FlipCode(code, bars)
			if !ok || !slices.Equal(flipped, want) || !impl.IsCode(flipped) {
				t.Fatalf("%v with %s changed: %v, %v, not %v", code, lettersOf(bars), flipped, ok, want)
			}
			if bars%19 != 0 {
				continue
			}
			before, one := impl.GapOf(code)
			behind, two := impl.GapOf(flipped)
			if !one || !two || before != behind {
				t.Fatalf("%v with %s changed: the gap is %d, and was %d", code, lettersOf(bars), behind, before)
			}
			for d := 1; d <= 7; d++ {
				before, one := impl.CountFar(code, d)
				behind, two := impl.CountFar(flipped, d)
				if !one || !two || before != behind {
					t.Fatalf("%v with %s changed: %d pairs are %d far, and were %d", code, lettersOf(bars), behind, d, before)
				}
			}
		}
	}
	for _, x := range []struct {
		code []int
		bars int
		want []int
	}{{[]int{0, 7}, 127, []int{127, 120}}, {[]int{0, 7}, 0, []int{0, 7}}, {[]int{7, 0}, 1, []int{6, 1}}, {[]int{64}, 64, []int{0}}} {
		if flipped, ok := impl.FlipCode(x.code, x.bars); !ok || !slices.Equal(flipped, x.want) {
			t.Errorf("%v with %d changed: %v, %v", x.code, x.bars, flipped, ok)
		}
	}
}

func TestFlipCodeFailsForNoCells(t *testing.T) {
	for _, no := range noCells {
		for _, code := range [][]int{{0}, {127}, {0, 127}, digitNumbers, everyCell()[:12], nil, {no}} {
			if flipped, ok := impl.FlipCode(code, no); ok || len(flipped) != 0 {
				t.Errorf("%v with %d changed: %v, %v", code, no, flipped, ok)
			}
		}
	}
}

func TestCountFar(t *testing.T) {
	for _, code := range manyCodes() {
		all := 0
		for d := 1; d <= 7; d++ {
			count, ok := impl.CountFar(code, d)
			if want := len(pairsByHand(code, d)); !ok || count != want {
				t.Fatalf("of %v %d far: %d, %v, not %d", code, d, count, ok, want)
			}
			all += count
		}
		if all != len(code)*(len(code)-1)/2 {
			t.Errorf("of %v: %d pairs", code, all)
		}
	}
	for _, x := range []struct {
		code []int
		d    int
		want int
	}{{[]int{0, 7, 56}, 3, 2}, {[]int{0, 7, 56}, 6, 1}, {[]int{0, 7, 56}, 1, 0}, {[]int{0, 127}, 7, 1}, {[]int{5}, 1, 0}, {[]int{5}, 7, 0}, {digitNumbers, 1, 7}, {digitNumbers, 6, 1}, {digitNumbers, 7, 0}} {
		if count, ok := impl.CountFar(x.code, x.d); !ok || count != x.want {
			t.Errorf("of %v %d far: %d, %v", x.code, x.d, count, ok)
		}
	}
}

func TestSpreadPartAndCountFarFailForOtherNumbers(t *testing.T) {
	for _, code := range [][]int{{0}, {127}, {0, 127}, digitNumbers, everyCell()[:12], nil} {
		for _, d := range noDistances {
			part, one := impl.SpreadPart(code, d)
			count, two := impl.CountFar(code, d)
			if one || two || len(part) != 0 || count != 0 {
				t.Errorf("%v with %d: %v, %v, %d, %v", code, d, part, one, count, two)
			}
		}
	}
}

func TestAllFunctionsFailForNoCodes(t *testing.T) {
	for _, code := range noCodes {
		gap, a := impl.GapOf(code)
		pairs, b := impl.GapPairs(code)
		mends, c := impl.MendsUpTo(code)
		sees, d := impl.SeesUpTo(code)
		cover, e := impl.CoverOf(code)
		cell, far, f := impl.FarthestCell(code)
		if a || b || c || d || e || f || gap != 0 || len(pairs) != 0 || mends != 0 || sees != 0 || cover != 0 || cell != 0 || far != 0 {
			t.Errorf("%.60s: %v", fmt.Sprint(code), []any{gap, a, pairs, b, mends, c, sees, d, cover, e, cell, far, f})
		}
		for k := range 8 {
			count, one := impl.CountNear(code, k)
			part, two := impl.SpreadPart(code, k)
			many, three := impl.CountFar(code, k)
			if one || two || three || count != 0 || len(part) != 0 || many != 0 {
				t.Errorf("%.60s with %d: %v", fmt.Sprint(code), k, []any{count, one, part, two, many, three})
			}
		}
		for _, cell := range []int{0, 1, 63, 127} {
			near, far, one := impl.NearestOf(code, cell)
			flipped, two := impl.FlipCode(code, cell)
			if one || two || len(near) != 0 || far != 0 || len(flipped) != 0 {
				t.Errorf("%.60s with %d: %v", fmt.Sprint(code), cell, []any{near, far, one, flipped, two})
			}
		}
	}
}

func TestArgumentsOfCodesAreNotModified(t *testing.T) {
	for _, code := range slices.Concat(manyCodes(), [][]int{{3, 3, 1}, {5, -1, 9}, {9, 8, 128}, {9, 3, 7, 0, 8, 2, 6, 5, 1, 4}, {7, 3, 7}}) {
		given := append(slices.Clone(code), 9, 8, 7)
		kept := slices.Clone(given)
		for size := range len(code) + 1 {
			part := given[:size]
			impl.IsCode(part)
			impl.DigitCode(part)
			impl.GapOf(part)
			impl.GapPairs(part)
			impl.NearestOf(part, 21)
			impl.MendsUpTo(part)
			impl.SeesUpTo(part)
			impl.CountNear(part, 1)
			impl.CoverOf(part)
			impl.FarthestCell(part)
			impl.FlipCode(part, 127)
			for d := 1; d <= 7; d++ {
				impl.SpreadPart(part, d)
				impl.CountFar(part, d)
			}
		}
		if !slices.Equal(given, kept) {
			t.Fatal("the code is", given, "and was", kept)
		}
	}
}

func TestResultsOfCodesStandAlone(t *testing.T) {
	given := []int{3, 1, 7}
	calls := map[string]func() ([]int, bool){
		"DigitCode":      func() ([]int, bool) { return impl.DigitCode(given) },
		"DigitCode {}":   func() ([]int, bool) { return impl.DigitCode(given[:0]) },
		"DigitCode all":  func() ([]int, bool) { return impl.DigitCode([]int{0, 1, 2, 3, 4, 5, 6, 7, 8, 9}) },
		"NearestOf":      func() ([]int, bool) { near, _, ok := impl.NearestOf(given, 5); return near, ok },
		"NearestOf same": func() ([]int, bool) { near, _, ok := impl.NearestOf([]int{0, 1, 2}, 0); return near, ok },
		"NearestOf no":   func() ([]int, bool) { near, _, ok := impl.NearestOf(given, -1); return near, ok },
		"GreedyCode":     func() ([]int, bool) { return impl.GreedyCode(3, 12) },
		"GreedyCode 1":   func() ([]int, bool) { return impl.GreedyCode(1, 12) },
		"GreedyCode no":  func() ([]int, bool) { return impl.GreedyCode(0, 12) },
		"SpreadPart":     func() ([]int, bool) { return impl.SpreadPart(given, 2) },
		"SpreadPart all": func() ([]int, bool) { return impl.SpreadPart(given, 1) },
		"SpreadPart own": func() ([]int, bool) { return impl.SpreadPart([]int{0, 1, 2}, 1) },
		"SpreadPart no":  func() ([]int, bool) { return impl.SpreadPart(given, 8) },
		"FlipCode":       func() ([]int, bool) { return impl.FlipCode(given, 127) },
		"FlipCode 0":     func() ([]int, bool) { return impl.FlipCode(given, 0) },
		"FlipCode no":    func() ([]int, bool) { return impl.FlipCode(given, 128) },
	}
	standAlone(t, given, calls)
	pairs, _ := impl.GapPairs(digitNumbers)
	kept := slices.Clone(pairs)
	clear(pairs[:cap(pairs)])
	if again, ok := impl.GapPairs(digitNumbers); !ok || !slices.Equal(again, kept) {
		t.Error("GapPairs is", again, "and was", kept)
	}
}

// answersOfCodes returns what all functions of the chapter return for codes and numbers of all sorts.
func answersOfCodes() []any {
	var all []any
	tell := func(x ...any) { all = append(all, fmt.Sprint(x...)) }
	numbers := slices.Concat(noCells, noDistances, noMosts, []int{1, 2, 3, 4, 5, 6, 7, 12, 63, 127})
	for _, d := range numbers {
		for _, most := range numbers {
			code, ok := impl.GreedyCode(d, most)
			tell(code, ok)
		}
	}
	for _, code := range slices.Concat(manyCodes(), noCodes, noOrders) {
		digits, one := impl.DigitCode(code)
		gap, two := impl.GapOf(code)
		pairs, three := impl.GapPairs(code)
		mends, four := impl.MendsUpTo(code)
		sees, five := impl.SeesUpTo(code)
		cover, six := impl.CoverOf(code)
		cell, far, seven := impl.FarthestCell(code)
		tell(impl.IsCode(code), digits, gap, pairs, mends, sees, cover, cell, far, one, two, three, four, five, six, seven)
		for _, n := range numbers {
			near, far, one := impl.NearestOf(code, n)
			count, two := impl.CountNear(code, n)
			part, three := impl.SpreadPart(code, n)
			flipped, four := impl.FlipCode(code, n)
			many, five := impl.CountFar(code, n)
			tell(near, far, count, part, flipped, many, one, two, three, four, five)
		}
	}
	return all
}

func TestCodesReturnTheSameForAllArguments(t *testing.T) {
	if !reflect.DeepEqual(answersOfCodes(), answersOfCodes()) {
		t.Error("other results for the same arguments")
	}
}
