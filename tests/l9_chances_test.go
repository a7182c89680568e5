package tests

import (
	"fmt"
	"math"
	"math/big"
	"reflect"
	"slices"
	"testing"

	"loop.example/g01265/impl"
)

// noFlickers are p and q of no flicker.
var noFlickers = [][2]int{
	{0, 0}, {1, 0}, {-1, 0}, {-1, -1}, {0, -1}, {1, -1}, {-2, -1}, {-1, 1}, {2, 1}, {-1, 5}, {6, 5}, {-1, 10}, {11, 10}, {0, 11}, {1, 11}, {10, 11}, {11, 11}, {12, 11}, {5, 100},
	{math.MaxInt, 10}, {math.MinInt, 10}, {0, math.MaxInt}, {0, math.MinInt}, {math.MaxInt, math.MaxInt}, {math.MinInt, math.MinInt}, {1 << 32, 10}, {1<<32 + 1, 2}, {0, 1 << 32}, {1, 1<<32 + 2},
}

// noDraws are numbers of bars that cannot be drawn.
var noDraws = []int{-1, -2, -7, 8, 9, 10, 127, 128, 1 << 32, 1<<32 + 1, math.MaxInt, math.MinInt, math.MinInt + 7}

// noTestSizes are numbers of digits beyond those that are drawn.
var noTestSizes = []int{-1, -2, -4, 5, 6, 7, 10, 100, 1 << 32, 1<<32 + 2, math.MaxInt, math.MinInt, math.MinInt + 4}

// noMeans are the greatest numbers of MeanBars that are not valid.
var noMeans = []int{-1, -2, -9999, 10000, 10001, 99999, 999999, 1 << 32, 1<<32 + 9, math.MaxInt, math.MinInt, math.MinInt + 9}

// flickers returns p and q of all flickers.
func flickers() [][2]int {
	var all [][2]int
	for q := 1; q <= 10; q++ {
		for p := 0; p <= q; p++ {
			all = append(all, [2]int{p, q})
		}
	}
	return all
}

// ratio returns the number that a fraction tells.
func ratio(part, whole int) *big.Rat { return big.NewRat(int64(part), int64(whole)) }

// lowest returns the fraction of a number that has no common divisor.
func lowest(x *big.Rat) [2]int { return [2]int{int(x.Num().Int64()), int(x.Denom().Int64())} }

// together returns the sum of fractions.
func together(list ...[2]int) [2]int {
	sum := new(big.Rat)
	for _, x := range list {
		sum.Add(sum, ratio(x[0], x[1]))
	}
	return lowest(sum)
}

// isLess compares fractions.
func isLess(a, b [2]int) bool { return ratio(a[0], a[1]).Cmp(ratio(b[0], b[1])) < 0 }

// flickerByHand returns the chance that just so many of seven bars, known ones, flicker, bar by bar.
func flickerByHand(far, p, q int) *big.Rat {
	chance := ratio(1, 1)
	for bar := range 7 {
		if bar < far {
			chance.Mul(chance, ratio(p, q))
		} else {
			chance.Mul(chance, ratio(q-p, q))
		}
	}
	return chance
}

// lotsOf returns how many of all lists of seven lots, each one of q, lead from a cell to each cell, where a bar flickers with the first p of the lots.
func lotsOf(c, p, q int) [128]int {
	var counts [128]int
	counts[c] = 1
	for _, bar := range []int{1, 2, 4, 8, 16, 32, 64} {
		var next [128]int
		for cell, count := range counts {
			other := cell + bar
			if cell/bar%2 == 1 {
				other = cell - bar
			}
			for lot := range q {
				if lot < p {
					next[other] += count
				} else {
					next[cell] += count
				}
			}
		}
		counts = next
	}
	return counts
}

func TestLimitsOfChances(t *testing.T) {
	if impl.MaxDrawn != 4 {
		t.Error("digits that are drawn at most:", impl.MaxDrawn)
	}
}

func TestChanceFlicker(t *testing.T) {
	for _, f := range flickers() {
		var want [8][2]int
		for far := range want {
			want[far] = lowest(flickerByHand(far, f[0], f[1]))
		}
		for c := range 128 {
			for as := range 128 {
				if chance, ok := impl.ChanceFlicker(c, as, f[0], f[1]); !ok || chance != want[farWritten[c][as]] {
					t.Fatalf("%d is shown as %d with flicker %v: %v, %v, not %v", c, as, f, chance, ok, want[farWritten[c][as]])
				}
			}
		}
	}
}

func TestChanceFlickerIsTheShareOfAllLots(t *testing.T) {
	for _, f := range flickers() {
		lots := 1
		for range 7 {
			lots *= f[1]
		}
		for _, c := range append([]int{0, 1, 64, 42, 85}, digitNumbers...) {
			for as, count := range lotsOf(c, f[0], f[1]) {
				if chance, ok := impl.ChanceFlicker(c, as, f[0], f[1]); !ok || chance != lowest(ratio(count, lots)) {
					t.Fatalf("%d is shown as %d with flicker %v: %v, %v, not %d of %d", c, as, f, chance, ok, count, lots)
				}
			}
		}
	}
}

func TestWhatACellIsShownAsIsOneTogether(t *testing.T) {
	for _, f := range flickers() {
		for _, c := range []int{0, 6, 63, 64, 127} {
			var chances [][2]int
			for as := range 128 {
				chance, ok := impl.ChanceFlicker(c, as, f[0], f[1])
				if !ok {
					t.Fatal("no chance:", c, as, f)
				}
				chances = append(chances, chance)
			}
			if sum := together(chances...); sum != [2]int{1, 1} {
				t.Errorf("what %d is shown as with flicker %v is %v together", c, f, sum)
			}
		}
	}
}

func TestNoFlickerAndFlickerOfEachBar(t *testing.T) {
	for q := 1; q <= 10; q++ {
		for c := range 128 {
			for as := range 128 {
				still, one := impl.ChanceFlicker(c, as, 0, q)
				all, two := impl.ChanceFlicker(c, as, q, q)
				wantStill, wantAll := [2]int{0, 1}, [2]int{0, 1}
				if c == as {
					wantStill = [2]int{1, 1}
				}
				if c+as == 127 && farWritten[c][as] == 7 {
					wantAll = [2]int{1, 1}
				}
				if !one || !two || still != wantStill || all != wantAll {
					t.Fatalf("%d is shown as %d with flicker 0 of %d: %v, %v, and %d of it: %v, %v", c, as, q, still, one, q, all, two)
				}
			}
		}
	}
}

func TestSomeFlickers(t *testing.T) {
	for _, x := range []struct {
		c, as, p, q int
		chance      [2]int
	}{
		{6, 7, 1, 10, [2]int{531441, 10000000}}, {0, 127, 1, 10, [2]int{1, 10000000}}, {0, 0, 1, 10, [2]int{4782969, 10000000}}, {127, 0, 9, 10, [2]int{4782969, 10000000}}, {0, 3, 9, 10, [2]int{81, 10000000}},
		{0, 1, 2, 6, [2]int{64, 2187}}, {1, 0, 4, 10, [2]int{1458, 78125}}, {0, 0, 3, 9, [2]int{128, 2187}}, {7, 7, 5, 10, [2]int{1, 128}}, {7, 120, 1, 2, [2]int{1, 128}},
		{0, 1, 0, 7, [2]int{0, 1}}, {5, 5, 0, 1, [2]int{1, 1}}, {0, 63, 7, 7, [2]int{0, 1}}, {0, 127, 1, 1, [2]int{1, 1}}, {42, 85, 10, 10, [2]int{1, 1}}, {42, 42, 10, 10, [2]int{0, 1}},
	} {
		if chance, ok := impl.ChanceFlicker(x.c, x.as, x.p, x.q); !ok || chance != x.chance {
			t.Errorf("%d is shown as %d with flicker %d of %d: %v, %v", x.c, x.as, x.p, x.q, chance, ok)
		}
	}
}

func TestChanceReadAs(t *testing.T) {
	for _, f := range flickers() {
		for digit, c := range digitNumbers {
			for as, other := range digitNumbers {
				want := lowest(flickerByHand(farWritten[c][other], f[0], f[1]))
				if chance, ok := impl.ChanceReadAs(digit, as, f[0], f[1]); !ok || chance != want {
					t.Fatalf("%d is shown as %d with flicker %v: %v, %v, not %v", digit, as, f, chance, ok, want)
				}
			}
		}
	}
	for _, x := range []struct {
		digit, as, p, q int
		chance          [2]int
	}{
		{1, 7, 1, 2, [2]int{1, 128}}, {1, 7, 1, 10, [2]int{531441, 10000000}}, {8, 0, 1, 10, [2]int{531441, 10000000}}, {6, 1, 9, 10, [2]int{531441, 10000000}}, {6, 1, 2, 10, [2]int{4, 78125}},
		{8, 1, 1, 1, [2]int{0, 1}}, {0, 0, 0, 5, [2]int{1, 1}}, {0, 8, 0, 5, [2]int{0, 1}}, {3, 9, 3, 6, [2]int{1, 128}},
	} {
		if chance, ok := impl.ChanceReadAs(x.digit, x.as, x.p, x.q); !ok || chance != x.chance {
			t.Errorf("%d is shown as %d with flicker %d of %d: %v, %v", x.digit, x.as, x.p, x.q, chance, ok)
		}
	}
}

func TestChanceNoDigit(t *testing.T) {
	for _, f := range flickers() {
		for digit, c := range digitNumbers {
			want := new(big.Rat)
			for as := range 128 {
				if !slices.Contains(digitNumbers, as) {
					want.Add(want, flickerByHand(farWritten[c][as], f[0], f[1]))
				}
			}
			if chance, ok := impl.ChanceNoDigit(digit, f[0], f[1]); !ok || chance != lowest(want) {
				t.Fatalf("%d is shown as no digit with flicker %v: %v, %v, not %v", digit, f, chance, ok, want)
			}
		}
	}
	for _, x := range []struct {
		digit, p, q int
		chance      [2]int
	}{
		{4, 1, 2, [2]int{59, 64}}, {8, 1, 10, [2]int{343819, 1000000}}, {1, 1, 10, [2]int{461827, 1000000}}, {3, 2, 6, [2]int{601, 729}},
		{8, 0, 1, [2]int{0, 1}}, {1, 0, 10, [2]int{0, 1}}, {0, 1, 1, [2]int{1, 1}}, {8, 10, 10, [2]int{1, 1}},
	} {
		if chance, ok := impl.ChanceNoDigit(x.digit, x.p, x.q); !ok || chance != x.chance {
			t.Errorf("%d is shown as no digit with flicker %d of %d: %v, %v", x.digit, x.p, x.q, chance, ok)
		}
	}
}

func TestWhatADigitIsShownAsIsOneTogether(t *testing.T) {
	for _, f := range flickers() {
		for digit := range 10 {
			none, ok := impl.ChanceNoDigit(digit, f[0], f[1])
			chances := [][2]int{none}
			for as := range 10 {
				chance, fine := impl.ChanceReadAs(digit, as, f[0], f[1])
				chances, ok = append(chances, chance), ok && fine
			}
			if !ok {
				t.Fatal("no chance:", digit, f)
			}
			if sum := together(chances...); sum != [2]int{1, 1} {
				t.Errorf("what %d is shown as with flicker %v is %v together: %v", digit, f, sum, chances)
			}
		}
	}
}

// chancesByHand returns the chance of each digit that a cell comes from it, and nothing if it comes from none.
func chancesByHand(c, p, q int) [][2]int {
	sum := new(big.Rat)
	var shares []*big.Rat
	for _, sent := range digitNumbers {
		share := flickerByHand(farWritten[sent][c], p, q)
		sum.Add(sum, share)
		shares = append(shares, share)
	}
	if sum.Sign() == 0 {
		return nil
	}
	var chances [][2]int
	for _, share := range shares {
		chances = append(chances, lowest(share.Quo(share, sum)))
	}
	return chances
}

func TestChancesForAreOneTogether(t *testing.T) {
	for _, f := range flickers() {
		none := 0
		for c := range 128 {
			want := chancesByHand(c, f[0], f[1])
			chances, ok := impl.ChancesFor(c, f[0], f[1])
			if ok != (want != nil) || !slices.Equal(chances, want) {
				t.Fatalf("%d with flicker %v comes from the digits with %v, %v, not %v", c, f, chances, ok, want)
			}
			if !ok {
				none++
			} else if sum := together(chances...); len(chances) != 10 || sum != [2]int{1, 1} {
				t.Fatalf("%d with flicker %v comes from the digits with %v, %v together", c, f, chances, sum)
			}
		}
		if sure := f[0] == 0 || f[0] == f[1]; sure && none != 118 || !sure && none != 0 {
			t.Errorf("cells that no digit can be shown as with flicker %v: %d", f, none)
		}
	}
}

// outOf returns fractions with the same denominator, which have no common divisor with it.
func outOf(whole int, parts ...int) [][2]int {
	var all [][2]int
	for _, part := range parts {
		all = append(all, [2]int{part, whole})
	}
	return all
}

// justDigit returns the chances of the digits if one of them is sure.
func justDigit(sure int) [][2]int {
	all := slices.Repeat([][2]int{{0, 1}}, 10)
	all[sure] = [2]int{1, 1}
	return all
}

func TestSomeChancesFor(t *testing.T) {
	for _, x := range []struct {
		c, p, q int
		chances [][2]int
	}{
		{6, 1, 10, outOf(597970, 81, 531441, 9, 729, 6561, 9, 1, 59049, 9, 81)}, {0, 1, 10, outOf(66610, 9, 59049, 81, 81, 729, 81, 9, 6561, 1, 9)}, {64, 9, 10, outOf(7490, 6561, 1, 9, 9, 1, 9, 81, 9, 729, 81)},
		{127, 1, 3, outOf(111, 16, 1, 8, 8, 4, 8, 16, 2, 32, 16)}, {127, 2, 6, outOf(111, 16, 1, 8, 8, 4, 8, 16, 2, 32, 16)}, {7, 1, 2, outOf(10, 1, 1, 1, 1, 1, 1, 1, 1, 1, 1)}, {0, 5, 10, outOf(10, 1, 1, 1, 1, 1, 1, 1, 1, 1, 1)},
		{127, 0, 1, justDigit(8)}, {6, 0, 10, justDigit(1)}, {0, 1, 1, justDigit(8)}, {64, 1, 1, justDigit(0)}, {121, 10, 10, justDigit(1)},
		{0, 0, 1, nil}, {64, 0, 1, nil}, {126, 0, 10, nil}, {127, 1, 1, nil}, {7, 1, 1, nil}, {63, 10, 10, nil},
	} {
		if chances, ok := impl.ChancesFor(x.c, x.p, x.q); ok != (x.chances != nil) || !slices.Equal(chances, x.chances) {
			t.Errorf("%d with flicker %d of %d comes from the digits with %v, %v", x.c, x.p, x.q, chances, ok)
		}
	}
}

// failsOfFlicker tells which functions do not fail for a cell, another one, a digit, another one, and flicker p of q, or return more than zero values.
func failsOfFlicker(c, as, digit, read, p, q int) string {
	shown, a := impl.ChanceFlicker(c, as, p, q)
	told, b := impl.ChanceReadAs(digit, read, p, q)
	none, d := impl.ChanceNoDigit(digit, p, q)
	list, e := impl.ChancesFor(c, p, q)
	if a || b || d || e || shown != [2]int{} || told != [2]int{} || none != [2]int{} || len(list) != 0 {
		return fmt.Sprint(shown, a, told, b, none, d, list, e)
	}
	return ""
}

func TestNoFlickersFail(t *testing.T) {
	for _, f := range noFlickers {
		for digit, c := range digitNumbers {
			for as := range 10 {
				if failed := failsOfFlicker(c, digitNumbers[as], digit, as, f[0], f[1]); failed != "" {
					t.Errorf("%d, %d and flicker %v: %s", digit, as, f, failed)
				}
			}
		}
		for _, c := range []int{0, 1, 64, 120} {
			if failed := failsOfFlicker(c, c, 8, 8, f[0], f[1]); failed != "" {
				t.Errorf("%d and flicker %v: %s", c, f, failed)
			}
		}
	}
}

func TestNoCellsAndNoDigitsHaveNoChances(t *testing.T) {
	for _, f := range append(flickers(), noFlickers...) {
		for _, no := range noCells {
			for _, digit := range noDigits {
				if failed := failsOfFlicker(no, no, digit, digit, f[0], f[1]); failed != "" {
					t.Errorf("%d, %d and flicker %v: %s", no, digit, f, failed)
				}
			}
			for _, c := range []int{0, 6, 127} {
				one, a := impl.ChanceFlicker(no, c, f[0], f[1])
				two, b := impl.ChanceFlicker(c, no, f[0], f[1])
				if a || b || one != [2]int{} || two != [2]int{} {
					t.Errorf("%d, %d and flicker %v: %v", no, c, f, []any{one, a, two, b})
				}
			}
		}
		for _, no := range noDigits {
			for digit := range 10 {
				one, a := impl.ChanceReadAs(no, digit, f[0], f[1])
				two, b := impl.ChanceReadAs(digit, no, f[0], f[1])
				if a || b || one != [2]int{} || two != [2]int{} {
					t.Errorf("%d, %d and flicker %v: %v", no, digit, f, []any{one, a, two, b})
				}
			}
		}
	}
}

func TestMeanBars(t *testing.T) {
	sum := 0
	for n := range 10000 {
		for _, sign := range fmt.Sprint(n) {
			sum += len(digitLetters[sign-'0'])
		}
		if n > 300 && n%89 != 0 && n < 9990 && n != 999 && n != 1000 {
			continue
		}
		if mean, ok := impl.MeanBars(n); !ok || mean != lowest(ratio(sum, n+1)) {
			t.Fatalf("the mean up to %d is %v, %v, not %d of %d", n, mean, ok, sum, n+1)
		}
	}
	for n, want := range map[int][2]int{
		0: {6, 1}, 1: {4, 1}, 2: {13, 3}, 7: {9, 2}, 9: {49, 10}, 10: {57, 11}, 11: {61, 12}, 19: {59, 10}, 99: {46, 5}, 100: {934, 101}, 999: {351, 25}, 1000: {14060, 1001}, 9998: {189316, 9999}, 9999: {9467, 500},
	} {
		if mean, ok := impl.MeanBars(n); !ok || mean != want {
			t.Errorf("the mean up to %d is %v, %v", n, mean, ok)
		}
	}
	for _, n := range noMeans {
		if mean, ok := impl.MeanBars(n); ok || mean != [2]int{} {
			t.Errorf("the mean up to %d is %v, %v", n, mean, ok)
		}
	}
}

// darkByHand returns all Faults of k bars that are dark.
func darkByHand(k int) []impl.Fault {
	return slices.DeleteFunc(faultsByHand(), func(f impl.Fault) bool { return f.Lit != 0 || len(lettersOf(f.Dark)) != k })
}

func TestDarkBarsThatAreDrawn(t *testing.T) {
	for k := range 8 {
		faults := darkByHand(k)
		seen, told, harmless := 0, 0, 0
		for _, f := range faults {
			images, alone := imagesByHand(f), 0
			for _, c := range images {
				if len(placesOf(images, c)) == 1 {
					alone++
				}
			}
			told += alone
			if alone == 10 {
				harmless++
			}
			slices.Sort(images)
			seen += len(slices.Compact(images))
		}
		mean, one := impl.MeanImages(k)
		tells, two := impl.ChanceTold(k)
		good, three := impl.ChanceHarmless(k)
		draws := len(faults)
		if !one || !two || !three || mean != lowest(ratio(seen, draws)) || tells != lowest(ratio(told, 10*draws)) || good != lowest(ratio(harmless, draws)) {
			t.Errorf("with %d dark bars: %v, %v, %v, %v, %v, %v, and %d, %d, %d of %d draws", k, mean, one, tells, two, good, three, seen, told, harmless, draws)
		}
	}
}

func TestChancesOfAllNumbersOfDarkBars(t *testing.T) {
	means := [][2]int{{10, 1}, {9, 1}, {164, 21}, {45, 7}, {172, 35}, {71, 21}, {2, 1}, {1, 1}}
	told := [][2]int{{1, 1}, {4, 5}, {62, 105}, {137, 350}, {11, 50}, {19, 210}, {1, 70}, {0, 1}}
	harmless := [][2]int{{1, 1}, {2, 7}, {1, 21}, {0, 1}, {0, 1}, {0, 1}, {0, 1}, {0, 1}}
	for k := range 8 {
		mean, one := impl.MeanImages(k)
		tells, two := impl.ChanceTold(k)
		good, three := impl.ChanceHarmless(k)
		if !one || !two || !three || mean != means[k] || tells != told[k] || good != harmless[k] {
			t.Errorf("with %d dark bars: %v", k, []any{mean, one, tells, two, good, three})
		}
	}
}

func TestWithMoreDarkBarsLessIsTold(t *testing.T) {
	for k := 1; k <= 7; k++ {
		for name, call := range map[string]func(k int) ([2]int, bool){"MeanImages": impl.MeanImages, "ChanceTold": impl.ChanceTold, "ChanceHarmless": impl.ChanceHarmless} {
			before, one := call(k - 1)
			now, two := call(k)
			if !one || !two {
				t.Fatal(name, "fails:", k)
			}
			if isLess(before, now) {
				t.Errorf("%s grows from %v with %d dark bars to %v with %d", name, before, k-1, now, k)
			}
		}
	}
}

func TestOtherNumbersOfBarsAreNotDrawn(t *testing.T) {
	for _, k := range noDraws {
		mean, one := impl.MeanImages(k)
		tells, two := impl.ChanceTold(k)
		good, three := impl.ChanceHarmless(k)
		if one || two || three || mean != [2]int{} || tells != [2]int{} || good != [2]int{} {
			t.Errorf("with %d dark bars: %v", k, []any{mean, one, tells, two, good, three})
		}
	}
}

// drawsOf returns all lists of so many digits.
func drawsOf(m int) [][]int {
	lists := [][]int{nil}
	for range m {
		var longer [][]int
		for _, list := range lists {
			for digit := range 10 {
				longer = append(longer, append(slices.Clone(list), digit))
			}
		}
		lists = longer
	}
	return lists
}

func TestDigitsThatAreDrawn(t *testing.T) {
	for m := range impl.MaxDrawn + 1 {
		draws := drawsOf(m)
		full, found := 0, 0
		for _, test := range draws {
			if isFullByHand(test) {
				full++
			}
			for _, s := range statesWritten[1:] {
				if placeByHand(test, s) >= 0 {
					found++
				}
			}
		}
		chance, one := impl.ChanceFull(m)
		mean, two := impl.MeanFound(m)
		if !one || !two || chance != lowest(ratio(full, len(draws))) || mean != lowest(ratio(found, len(draws))) {
			t.Errorf("%d digits: %v, %v, %v, %v, and %d, %d of %d draws", m, chance, one, mean, two, full, found, len(draws))
		}
	}
	fulls := [][2]int{{0, 1}, {0, 1}, {0, 1}, {3, 250}, {6, 125}}
	means := [][2]int{{0, 1}, {7, 1}, {481, 50}, {1093, 100}, {58573, 5000}}
	for m := range 5 {
		chance, one := impl.ChanceFull(m)
		mean, two := impl.MeanFound(m)
		if !one || !two || chance != fulls[m] || mean != means[m] {
			t.Errorf("%d digits: %v, %v, %v, %v", m, chance, one, mean, two)
		}
	}
}

func TestWithMoreDigitsMoreIsFound(t *testing.T) {
	for m := 1; m <= impl.MaxDrawn; m++ {
		for name, call := range map[string]func(m int) ([2]int, bool){"ChanceFull": impl.ChanceFull, "MeanFound": impl.MeanFound} {
			before, one := call(m - 1)
			now, two := call(m)
			if !one || !two {
				t.Fatal(name, "fails:", m)
			}
			if isLess(now, before) {
				t.Errorf("%s falls from %v with %d digits to %v with %d", name, before, m-1, now, m)
			}
		}
	}
}

func TestOtherNumbersOfDigitsAreNotDrawn(t *testing.T) {
	for _, m := range noTestSizes {
		chance, one := impl.ChanceFull(m)
		mean, two := impl.MeanFound(m)
		if one || two || chance != [2]int{} || mean != [2]int{} {
			t.Errorf("%d digits: %v", m, []any{chance, one, mean, two})
		}
	}
}

func TestMeanChanges(t *testing.T) {
	changes := 0
	for _, a := range digitNumbers {
		for _, b := range digitNumbers {
			changes += farWritten[a][b]
		}
	}
	if mean := impl.MeanChanges(); mean != lowest(ratio(changes, 100)) || mean != [2]int{131, 50} {
		t.Error("the mean is", mean, "and there are", changes, "of 100 draws")
	}
}

func TestChanceSameDigit(t *testing.T) {
	for _, f := range faultsByHand() {
		images, same := imagesByHand(f), 0
		for _, c := range images {
			same += len(placesOf(images, c))
		}
		if chance, ok := impl.ChanceSameDigit(f); !ok || chance != lowest(ratio(same, 100)) {
			t.Fatalf("under %v two digits are the same with %v, %v, not %d of 100", f, chance, ok, same)
		}
	}
	for f, want := range map[impl.Fault][2]int{
		{}: {1, 10}, {Dark: 64}: {3, 25}, {Lit: 64}: {3, 25}, {Dark: 127}: {1, 1}, {Lit: 127}: {1, 1}, {Dark: 42, Lit: 85}: {1, 1}, {Dark: 63, Lit: 64}: {1, 1},
		{Dark: 16}: {7, 50}, {Lit: 16}: {7, 50}, {Dark: 1}: {3, 25}, {Dark: 65, Lit: 2}: {1, 5}, {Dark: 126}: {17, 25}, {Lit: 18}: {11, 50},
	} {
		if chance, ok := impl.ChanceSameDigit(f); !ok || chance != want {
			t.Errorf("under %v two digits are the same with %v, %v", f, chance, ok)
		}
	}
	for _, f := range noFaults {
		if chance, ok := impl.ChanceSameDigit(f); ok || chance != [2]int{} {
			t.Errorf("under %v two digits are the same with %v, %v", f, chance, ok)
		}
	}
}

func TestResultsOfChancesStandAlone(t *testing.T) {
	standApart(t, nil, nil, [2]int{-7, -7}, map[string]func() ([][2]int, bool){
		"ChancesFor":      func() ([][2]int, bool) { return impl.ChancesFor(6, 1, 10) },
		"ChancesFor sure": func() ([][2]int, bool) { return impl.ChancesFor(127, 0, 1) },
		"ChancesFor none": func() ([][2]int, bool) { return impl.ChancesFor(0, 0, 1) },
		"ChancesFor no":   func() ([][2]int, bool) { return impl.ChancesFor(128, 1, 2) },
	})
}

// answersOfChances returns what all functions of the chapter return for cells, digits, flickers, numbers and Faults of all sorts.
func answersOfChances() []any {
	all := []any{impl.MeanChanges()}
	tell := func(x ...any) { all = append(all, fmt.Sprint(x...)) }
	for _, f := range append(flickers(), noFlickers...) {
		for _, c := range slices.Concat(noCells, digitNumbers, noDigits, []int{0, 1, 2, 3, 4, 5, 7, 8, 9, 64}) {
			shown, a := impl.ChanceFlicker(c, f[0], f[0], f[1])
			other, b := impl.ChanceFlicker(f[1], c, f[0], f[1])
			told, d := impl.ChanceReadAs(c, f[0], f[0], f[1])
			read, e := impl.ChanceReadAs(f[1], c, f[0], f[1])
			none, g := impl.ChanceNoDigit(c, f[0], f[1])
			list, h := impl.ChancesFor(c, f[0], f[1])
			tell(shown, other, told, read, none, list, a, b, d, e, g, h)
		}
	}
	for _, n := range slices.Concat(noMeans, noDraws, noTestSizes, []int{0, 1, 2, 3, 4, 5, 6, 7, 9999}) {
		bars, a := impl.MeanBars(n)
		images, b := impl.MeanImages(n)
		told, c := impl.ChanceTold(n)
		harmless, d := impl.ChanceHarmless(n)
		full, e := impl.ChanceFull(n)
		found, f := impl.MeanFound(n)
		tell(bars, images, told, harmless, full, found, a, b, c, d, e, f)
	}
	for _, f := range slices.Concat(faultsByHand(), noFaults) {
		same, ok := impl.ChanceSameDigit(f)
		tell(same, ok)
	}
	return all
}

func TestChancesReturnTheSameForAllArguments(t *testing.T) {
	if !reflect.DeepEqual(answersOfChances(), answersOfChances()) {
		t.Error("other results for the same arguments")
	}
}
