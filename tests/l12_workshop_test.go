package tests

import (
	"fmt"
	"math"
	"math/rand/v2"
	"reflect"
	"regexp"
	"slices"
	"strings"
	"testing"

	"loop.example/g01265/impl"
)

// noJobCounts are numbers that are not 0..MaxJobs.
var noJobCounts = []int{-1, -2, -1000, 1001, 1002, 1 << 32, 1<<32 + 1, math.MaxInt, math.MinInt, math.MinInt + 1}

// noKinds are numbers that are no Kinds of Jobs.
var noKinds = []int{0, -1, -7, 8, 9, 10, 1 << 32, 1<<32 + 1, 1<<32 + 6, math.MaxInt, math.MinInt, math.MinInt + 1}

// farOff are numbers that are neither places nor bars nor digits.
var farOff = []int{-7, -2, -1, 10, 11, 64, 127, 128, 256, 1 << 32, 1<<32 + 1, math.MaxInt, math.MinInt, math.MinInt + 1}

// benchWith returns the Bench of six texts, each with the bars that are sent, those always dark and those always lit, with slashes between them.
func benchWith(count int, texts ...string) impl.Bench {
	b := impl.Bench{Count: count}
	for place, text := range texts {
		parts := strings.Split(text+"//", "/")
		for i, cells := range []*[6]int{&b.Cells, &b.Dark, &b.Lit} {
			cells[place] = cellWith(func(letter string) bool { return strings.Contains(parts[i], letter) })
		}
	}
	return b
}

// manyBenches returns Benches without Faults and with all bars faulty, at their first and last Jobs, and others with cells and Faults of all sorts.
func manyBenches() []impl.Bench {
	all, dark, lit := "abcdefg", "/abcdefg", "//abcdefg"
	benches := []impl.Bench{
		{}, {Count: 1000}, {Count: 999}, benchWith(1, all, all, all, all, all, all), benchWith(0, "bc", "abdeg", "abcdg", "bcfg", "acdfg", "acdefg"),
		benchWith(2, dark, dark, dark, dark, dark, dark), benchWith(3, lit, lit, lit, lit, lit, lit), benchWith(4, all+dark, all+lit, dark, lit, "bc/abcd/efg", "a/efg/abcd"),
		benchWith(999, "abc/g", "abcdefg/g", "abcdef//g", "bc/ad/g", "abdeg/bc", "//a"), benchWith(1000, "a", "b/b", "c//d", "d/e/f", "e/abc/defg", "f//abcdefg"),
	}
	numbers, faults := rand.New(rand.NewPCG(12, 7)), faultsByHand()
	for i := range 40 {
		b := impl.Bench{Count: []int{0, 7, 500, 998}[i%4]}
		for place := range 6 {
			b.Cells[place] = numbers.IntN(128)
			if i%3 > 0 {
				b.Cells[place] = digitNumbers[numbers.IntN(10)]
			}
			if numbers.IntN(3) > 0 {
				f := faults[numbers.IntN(len(faults))]
				b.Dark[place], b.Lit[place] = f.Dark&numbers.IntN(128), f.Lit&numbers.IntN(128)
			}
		}
		benches = append(benches, b)
	}
	return benches
}

// noBenches returns Benches that are not valid, for each of the reasons for it, at each place.
func noBenches() []impl.Bench {
	var all []impl.Bench
	for _, b := range []impl.Bench{{}, benchWith(3, "bc", "abc/g", "abcdefg//g", "a", "b/c/d", "")} {
		for _, count := range noJobCounts {
			b.Count = count
			all = append(all, b)
		}
	}
	for place := range 6 {
		for _, c := range noCells {
			b := benchWith(0, "a", "bc", "abc", "", "/g", "//g")
			b.Cells[place] = c
			all = append(all, b)
		}
		for _, f := range noFaults {
			b := benchWith(1000, "", "", "/g", "//a", "bc", "bcfg")
			b.Dark[place], b.Lit[place] = f.Dark, f.Lit
			all = append(all, b)
		}
	}
	return all
}

// faultOf returns the Fault of a place of a Bench.
func faultOf(b impl.Bench, place int) impl.Fault {
	return impl.Fault{Dark: b.Dark[place], Lit: b.Lit[place]}
}

// benchRowByHand returns what the cells of a Bench show, letter by letter.
func benchRowByHand(b impl.Bench) []int {
	var row []int
	for place, c := range b.Cells {
		row = append(row, shownByHand(faultOf(b, place), c))
	}
	return row
}

// seenOtherwise returns a Bench whose places are in the opposite order, with each cell and each Fault changed.
func seenOtherwise(b impl.Bench, change func(int) int) impl.Bench {
	other := impl.Bench{Count: b.Count}
	for place := range 6 {
		other.Cells[5-place], other.Dark[5-place], other.Lit[5-place] = change(b.Cells[place]), change(b.Dark[place]), change(b.Lit[place])
	}
	return other
}

// jobByHand returns the Bench behind a Job by the document's table, and whether the Job is possible.
func jobByHand(b impl.Bench, j impl.Job) (impl.Bench, bool) {
	names := map[int]string{1: "AB", 2: "A", 3: "AB", 4: "AB", 5: "A", 6: "-", 7: "-"}[j.Kind]
	if b.Count > 999 || names == "" || j.A < 0 || j.A > 5 || j.A != 0 && names == "-" || j.B != 0 && names != "AB" {
		return impl.Bench{}, false
	}
	after, possible := b, true
	after.Count++
	dark, lit := lettersOf(b.Dark[j.A]), lettersOf(b.Lit[j.A])
	letter := ""
	if j.B >= 0 && j.B < 7 {
		letter = "abcdefg"[j.B : j.B+1]
	}
	switch j.Kind {
	case 1:
		possible = j.B >= 0 && j.B <= 9
		if possible {
			after.Cells[j.A] = digitNumbers[j.B]
		}
	case 2:
		after.Cells[j.A] = 0
	case 3:
		possible = letter != "" && !strings.Contains(dark, letter)
		dark, lit = dark+letter, strings.ReplaceAll(lit, letter, "")
	case 4:
		possible = letter != "" && !strings.Contains(lit, letter)
		dark, lit = strings.ReplaceAll(dark, letter, ""), lit+letter
	case 5:
		possible = dark+lit != ""
		dark, lit = "", ""
	case 6:
		return seenOtherwise(after, turnedByHand), true
	case 7:
		return seenOtherwise(after, mirroredByHand), true
	}
	if !possible {
		return impl.Bench{}, false
	}
	after.Dark[j.A] = cellWith(func(l string) bool { return strings.Contains(dark, l) })
	after.Lit[j.A] = cellWith(func(l string) bool { return strings.Contains(lit, l) })
	return after, true
}

func TestLimitsOfTheWorkshop(t *testing.T) {
	limits := []int{impl.MaxJobs, impl.MaxRecords, impl.MaxCommand, impl.MaxReply, impl.MaxScriptLines, impl.JobShow, impl.JobClear, impl.JobDark, impl.JobLit, impl.JobMend, impl.JobTurn, impl.JobMirror, impl.LogOK, impl.LogInvalid, impl.LogFull}
	if !slices.Equal(limits, []int{1000, 60, 160, 250, 30, 1, 2, 3, 4, 5, 6, 7, 0, 1, 2}) {
		t.Error("limits", limits)
	}
}

func TestIsBench(t *testing.T) {
	for _, b := range manyBenches() {
		for _, count := range []int{0, 1, 999, 1000} {
			b.Count = count
			if !impl.IsBench(b) {
				t.Error("a Bench:", b)
			}
		}
	}
	for place := range 6 {
		for _, f := range faultsByHand() {
			b := impl.Bench{}
			b.Cells[place], b.Dark[place], b.Lit[place] = f.Dark, f.Dark, f.Lit
			if !impl.IsBench(b) {
				t.Fatal("a Bench:", b)
			}
		}
	}
}

func TestAllFunctionsFailForNoBenches(t *testing.T) {
	for _, b := range noBenches() {
		sent, one := impl.SentRow(b)
		shown, two := impl.BenchRow(b)
		c, three := impl.NewConsole(b)
		replayed, four := impl.ReplayLog(b, impl.Log{})
		if impl.IsBench(b) || one || two || three || four || len(sent)+len(shown) != 0 || c != (impl.Console{}) || replayed != 0 {
			t.Fatal("no Bench:", b, sent, one, shown, two, c, three, replayed, four)
		}
		for _, j := range []impl.Job{{Kind: 1}, {Kind: 2, A: 5}, {Kind: 3, B: 1}, {Kind: 4, A: 2, B: 6}, {Kind: 5, A: 4}, {Kind: 6}, {Kind: 7}, {}} {
			after, one := impl.DoJob(b, j)
			end, many, two := impl.DoJobs(b, []impl.Job{j, j})
			if one || two || many != 0 || after != (impl.Bench{}) || end != (impl.Bench{}) {
				t.Fatal("a Job", j, "at no Bench:", b, after, one, end, many, two)
			}
		}
		if end, many, ok := impl.DoJobs(b, nil); ok || many != 0 || end != (impl.Bench{}) {
			t.Fatal("no Jobs at no Bench:", b, end, many, ok)
		}
		if impl.IsValidConsole(impl.Console{Bench: b}) {
			t.Fatal("a Console with no Bench:", b)
		}
	}
}

func TestNewBench(t *testing.T) {
	for _, r := range manyRows() {
		b, ok := impl.NewBench(r)
		var want impl.Bench
		for place, c := range r {
			want.Cells[place] = c
		}
		if !ok || b != want || !impl.IsBench(b) {
			t.Fatalf("a Bench of %v is %v, %v", r, b, ok)
		}
	}
	for _, r := range noRows {
		if b, ok := impl.NewBench(r); ok || b != (impl.Bench{}) {
			t.Errorf("a Bench of %.60s is %v, %v", fmt.Sprint(r), b, ok)
		}
	}
}

func TestRowsOfBenches(t *testing.T) {
	for _, b := range manyBenches() {
		sent, one := impl.SentRow(b)
		shown, two := impl.BenchRow(b)
		if !one || !two || !slices.Equal(sent, b.Cells[:]) || !slices.Equal(shown, benchRowByHand(b)) {
			t.Fatal(b, "has the rows", sent, one, shown, two)
		}
	}
	b := benchWith(0, "abcdefg/g", "bc//a", "abc/abcdefg", "-//abcdefg", "bcfg/b/a", "")
	sent, _ := impl.SentRow(b)
	shown, _ := impl.BenchRow(b)
	if !slices.Equal(sent, []int{127, 6, 7, 0, 102, 0}) || !slices.Equal(shown, []int{63, 7, 0, 127, 101, 0}) {
		t.Error("the rows are", sent, shown)
	}
}

// sameJob fails if a Job does not lead to what comes of it by hand.
func sameJob(t *testing.T, b impl.Bench, j impl.Job) {
	t.Helper()
	want, possible := jobByHand(b, j)
	after, ok := impl.DoJob(b, j)
	if ok != possible || after != want || ok && !impl.IsBench(after) {
		t.Fatalf("%v at %v: %v, %v, not %v, %v", j, b, after, ok, want, possible)
	}
	end, many, fine := impl.DoJobs(b, []impl.Job{j})
	if !fine || possible && (many != 1 || end != want) || !possible && (many != 0 || end != b) {
		t.Fatalf("just %v at %v: %v, %d, %v, not %v, %v", j, b, end, many, fine, want, possible)
	}
}

func TestJobs(t *testing.T) {
	for _, b := range manyBenches() {
		for kind := -1; kind < 10; kind++ {
			for a := -1; a < 8; a++ {
				for j := -1; j < 12; j++ {
					sameJob(t, b, impl.Job{Kind: kind, A: a, B: j})
				}
			}
		}
	}
}

func TestJobsThatAreNone(t *testing.T) {
	b := benchWith(5, "bc/a", "abc//d", "/abcdefg", "//abcdefg", "", "a/b/c")
	for _, a := range append([]int{0, 3, 5, 6, 7}, farOff...) {
		for _, j := range append([]int{0, 1, 6, 7, 9}, farOff...) {
			for kind := range 8 {
				sameJob(t, b, impl.Job{Kind: kind, A: a, B: j})
			}
		}
	}
	for _, kind := range noKinds {
		for _, j := range []impl.Job{{Kind: kind}, {Kind: kind, A: 1}, {Kind: kind, B: 1}, {Kind: kind, A: 5, B: 6}} {
			if after, ok := impl.DoJob(b, j); ok || after != (impl.Bench{}) {
				t.Error("no Job:", j, after, ok)
			}
		}
	}
}

func TestSomeJobs(t *testing.T) {
	b := benchWith(8, "bc", "abc/g", "/abcdefg", "//abcdefg", "a/b/c", "")
	for _, x := range []struct {
		kind, a, b int
		want       string
	}{
		{1, 0, 8, "abcdefg|abc/g|/abcdefg|//abcdefg|a/b/c|"}, {1, 1, 0, "bc|abcdef/g|/abcdefg|//abcdefg|a/b/c|"}, {1, 5, 9, "bc|abc/g|/abcdefg|//abcdefg|a/b/c|abcdfg"}, {1, 0, 1, "bc|abc/g|/abcdefg|//abcdefg|a/b/c|"},
		{1, 0, 10, ""}, {1, 0, -1, ""}, {1, 6, 1, ""}, {1, -1, 1, ""}, {2, 0, 0, "|abc/g|/abcdefg|//abcdefg|a/b/c|"}, {2, 5, 0, "bc|abc/g|/abcdefg|//abcdefg|a/b/c|"}, {2, 4, 0, "bc|abc/g|/abcdefg|//abcdefg|/b/c|"},
		{2, 0, 1, ""}, {2, 6, 0, ""}, {2, -1, 0, ""}, {3, 0, 6, "bc/g|abc/g|/abcdefg|//abcdefg|a/b/c|"}, {3, 1, 0, "bc|abc/ag|/abcdefg|//abcdefg|a/b/c|"}, {3, 4, 2, "bc|abc/g|/abcdefg|//abcdefg|a/bc|"},
		{3, 3, 6, "bc|abc/g|/abcdefg|/g/abcdef|a/b/c|"}, {3, 1, 6, ""}, {3, 2, 0, ""}, {3, 2, 6, ""}, {3, 4, 1, ""}, {3, 0, 7, ""}, {3, 0, -1, ""}, {3, 6, 0, ""},
		{4, 0, 6, "bc//g|abc/g|/abcdefg|//abcdefg|a/b/c|"}, {4, 1, 6, "bc|abc//g|/abcdefg|//abcdefg|a/b/c|"}, {4, 2, 0, "bc|abc/g|/bcdefg/a|//abcdefg|a/b/c|"}, {4, 4, 1, "bc|abc/g|/abcdefg|//abcdefg|a//bc|"},
		{4, 3, 0, ""}, {4, 3, 6, ""}, {4, 4, 2, ""}, {4, 0, 7, ""}, {4, 0, -1, ""}, {4, 6, 0, ""}, {5, 1, 0, "bc|abc|/abcdefg|//abcdefg|a/b/c|"}, {5, 2, 0, "bc|abc/g||//abcdefg|a/b/c|"},
		{5, 3, 0, "bc|abc/g|/abcdefg||a/b/c|"}, {5, 4, 0, "bc|abc/g|/abcdefg|//abcdefg|a|"}, {5, 0, 0, ""}, {5, 5, 0, ""}, {5, 1, 1, ""}, {5, 6, 0, ""}, {5, -1, 0, ""},
		{6, 0, 0, "|d/e/f|//abcdefg|/abcdefg|def/g|ef"}, {6, 1, 0, ""}, {6, 0, 1, ""}, {6, 5, 0, ""}, {7, 0, 0, "|a/f/e|//abcdefg|/abcdefg|aef/g|ef"}, {7, 1, 0, ""}, {7, 0, 1, ""}, {7, 0, -1, ""}, {0, 0, 0, ""}, {8, 0, 0, ""},
	} {
		var want impl.Bench
		if x.want != "" {
			want = benchWith(9, strings.Split(x.want, "|")...)
		}
		if after, ok := impl.DoJob(b, impl.Job{Kind: x.kind, A: x.a, B: x.b}); ok != (x.want != "") || after != want {
			t.Errorf("%v: %v, %v, not %v", x, after, ok, want)
		}
	}
}

func TestABenchAtMaxJobs(t *testing.T) {
	for _, b := range manyBenches() {
		b.Count = 1000
		for kind := 1; kind < 8; kind++ {
			for place := range 6 {
				for j := range 10 {
					if after, ok := impl.DoJob(b, impl.Job{Kind: kind, A: place, B: j}); ok || after != (impl.Bench{}) {
						t.Fatal("a Job behind the last one:", kind, place, j, after, ok)
					}
				}
			}
		}
		end, many, ok := impl.DoJobs(b, []impl.Job{{Kind: 6}, {Kind: 7}})
		shown, fine := impl.BenchRow(b)
		if !ok || many != 0 || end != b || !fine || !slices.Equal(shown, benchRowByHand(b)) {
			t.Fatal("at the last Job:", end, many, ok, shown, fine)
		}
		b.Count = 999
		if after, ok := impl.DoJob(b, impl.Job{Kind: 6}); !ok || after.Count != 1000 {
			t.Fatal("the last Job:", after, ok)
		}
	}
}

func TestTurningAndMirroringTwice(t *testing.T) {
	for _, b := range manyBenches() {
		b.Count = b.Count % 999
		for kind, change := range map[int]func([]int) ([]int, bool){6: impl.TurnRow, 7: impl.MirrorRow} {
			once, one := impl.DoJob(b, impl.Job{Kind: kind})
			twice, two := impl.DoJob(once, impl.Job{Kind: kind})
			before, three := impl.BenchRow(b)
			shown, four := impl.BenchRow(once)
			want, five := change(before)
			if !one || !two || !three || !four || !five || !slices.Equal(shown, want) || once.Count != b.Count+1 || twice.Count != b.Count+2 {
				t.Fatal("behind", kind, "is shown", shown, "not", want, once, twice)
			}
			sent, _ := impl.SentRow(b)
			moved, _ := impl.SentRow(once)
			if want, _ := change(sent); !slices.Equal(moved, want) {
				t.Fatal("behind", kind, "is sent", moved, "not", want)
			}
			twice.Count = b.Count
			if twice != b {
				t.Fatal("behind", kind, "twice is", twice, "and was", b)
			}
		}
	}
}

// someJobs returns a list of Jobs of which most are possible.
func someJobs(size, number int) []impl.Job {
	numbers := rand.New(rand.NewPCG(uint64(size), uint64(number)))
	list := make([]impl.Job, size)
	for i := range list {
		kind := 1 + numbers.IntN(7)
		list[i] = impl.Job{Kind: kind}
		if kind < 6 {
			list[i].A = numbers.IntN(6)
		}
		if kind == 1 || kind == 3 || kind == 4 {
			list[i].B = numbers.IntN(7)
		}
	}
	return list
}

func TestDoJobs(t *testing.T) {
	different := map[int]bool{}
	for i, b := range manyBenches() {
		for number := range 20 {
			list := someJobs(number*3, i*100+number)
			want, made := b, 0
			for _, j := range list {
				next, ok := jobByHand(want, j)
				if !ok {
					break
				}
				want, made = next, made+1
			}
			end, many, ok := impl.DoJobs(b, list)
			if !ok || end != want || many != made || !impl.IsBench(end) {
				t.Fatalf("%v at %v: %v, %d, %v, not %v, %d", list, b, end, many, ok, want, made)
			}
			different[made] = true
		}
	}
	if len(different) < 20 {
		t.Error("only so many numbers of Jobs:", different)
	}
}

func TestManyJobs(t *testing.T) {
	for _, x := range []struct{ count, size, made int }{
		{0, 0, 0}, {0, 1, 1}, {0, 999, 999}, {0, 1000, 1000}, {0, 1001, 1000}, {0, 100000, 1000}, {990, 10, 10}, {990, 11, 10}, {1000, 0, 0}, {1000, 1, 0}, {999, 2, 1},
	} {
		b := benchWith(x.count, "bc/a", "abdeg", "", "abc//g", "", "")
		end, many, ok := impl.DoJobs(b, slices.Repeat([]impl.Job{{Kind: 7}}, x.size))
		want := b
		if x.made%2 == 1 {
			want = seenOtherwise(b, mirroredByHand)
		}
		want.Count = x.count + x.made
		if !ok || many != x.made || end != want {
			t.Errorf("%v: %v, %d, %v", x, end, many, ok)
		}
	}
	for _, list := range [][]impl.Job{nil, {}, {{}}, {{Kind: 8}, {Kind: 6}}, {{Kind: 5}, {Kind: 6}}, {{Kind: 1, A: 6}, {Kind: 1}}} {
		b := benchWith(3, "bc", "a/b", "", "", "", "//c")
		if end, many, ok := impl.DoJobs(b, list); !ok || many != 0 || end != b {
			t.Error("no Job can be made:", list, end, many, ok)
		}
	}
}

// recordForm is what the line of a record looks like, without its newline.
var recordForm = regexp.MustCompile(`^([0-9]+) ([ -"$-?A-~]{1,160})@([ -"$-~]{0,250})#([0-9]+)$`)

// encodedByHand returns the encoding of a record, whether it is valid or not.
func encodedByHand(k int, e impl.LogRecord) string {
	return sealedByHand(fmt.Sprintf("%d %s@%s", k, e.Command, e.Reply)) + "\n"
}

// readByHand returns the records with whose encodings s begins, and where the last one ends.
func readByHand(s string) ([]impl.LogRecord, int) {
	var records []impl.LogRecord
	end := 0
	for len(records) < 60 {
		size := strings.IndexByte(s[end:], '\n')
		if size < 0 {
			break
		}
		line := s[end : end+size]
		m := recordForm.FindStringSubmatch(line)
		if m == nil || m[1] != fmt.Sprint(len(records)) || sealedByHand(line[:strings.IndexByte(line, '#')]) != line {
			break
		}
		records = append(records, impl.LogRecord{Command: m[2], Reply: m[3]})
		end += size + 1
	}
	return records, end
}

// someRecords returns so many valid records, short ones and, at some places, the longest ones.
func someRecords(many int) []impl.LogRecord {
	some := []impl.LogRecord{
		{Command: "row", Reply: "- - - - - -"}, {Command: "x", Reply: ""}, {Command: " ", Reply: " "}, {Command: strings.Repeat("~", 160), Reply: strings.Repeat("@", 250)},
		{Command: "0 row", Reply: "a@b"}, {Command: "show 0 8", Reply: "?"}, {Command: "\"$?A", Reply: "!~"},
	}
	records := make([]impl.LogRecord, many)
	for i := range records {
		records[i] = some[i%len(some)]
	}
	return records
}

// logOf returns the log of records of which so many are durable.
func logOf(records []impl.LogRecord, durable int) impl.Log {
	l := impl.Log{Count: len(records)}
	for k, e := range records {
		if k < durable {
			l.Durable += encodedByHand(k, e)
		} else {
			l.Pending += encodedByHand(k, e)
		}
	}
	return l
}

// manyLogs returns logs without records, with some, and with MaxRecords, of which none, some or all are durable.
func manyLogs() []impl.Log {
	var all []impl.Log
	for _, many := range []int{0, 1, 2, 7, 20, 59, 60} {
		for _, durable := range []int{0, 1, many / 2, many - 1, many} {
			if durable >= 0 && durable <= many {
				all = append(all, logOf(someRecords(many), durable))
			}
		}
	}
	longest := slices.Repeat([]impl.LogRecord{{Command: strings.Repeat("c", 160), Reply: strings.Repeat("r", 250)}}, 60)
	return append(all, logOf(longest, 0), logOf(longest, 31), logOf(longest, 60))
}

// noLogs returns logs that are not valid, for each of the reasons for it.
func noLogs() []impl.Log {
	l := logOf(someRecords(3), 1)
	whole := l.Durable + l.Pending
	var all []impl.Log
	for _, count := range []int{2, 4, 0, -1, -3, 60, 61, 1<<32 + 3, math.MaxInt, math.MinInt} {
		all = append(all, impl.Log{Durable: l.Durable, Pending: l.Pending, Count: count})
	}
	for _, count := range []int{1, -1, 60, math.MaxInt, math.MinInt} {
		all = append(all, impl.Log{Count: count})
	}
	for cut := range len(whole) {
		if cut > 0 && whole[cut-1] != '\n' {
			all = append(all, impl.Log{Durable: whole[:cut], Pending: whole[cut:], Count: 3}, impl.Log{Durable: whole[:cut], Count: strings.Count(whole[:cut], "\n")})
			all = append(all, impl.Log{Pending: whole[:cut], Count: strings.Count(whole[:cut], "\n")}, impl.Log{Pending: whole[:cut], Count: 1 + strings.Count(whole[:cut], "\n")})
		}
	}
	e := impl.LogRecord{Command: "row", Reply: "-"}
	for _, s := range []string{
		encodedByHand(1, e), encodedByHand(-1, e), encodedByHand(60, e), encodedByHand(0, e) + encodedByHand(0, e), encodedByHand(0, e) + encodedByHand(2, e), encodedByHand(1, e) + encodedByHand(0, e),
		"\n", encodedByHand(0, e) + "\n", "\n" + encodedByHand(0, e), encodedByHand(0, e) + "x", " " + encodedByHand(0, e), strings.Replace(encodedByHand(0, e), "\n", " \n", 1), strings.Replace(encodedByHand(0, e), "\n", "\r\n", 1),
		strings.Replace(encodedByHand(0, e), "row", "raw", 1), strings.Replace(encodedByHand(0, e), "#", "#0", 1), strings.Replace(encodedByHand(0, e), "#", "", 1), strings.Replace(encodedByHand(0, e), "#", "##", 1),
		sealedByHand("00 row@-") + "\n", sealedByHand("+0 row@-") + "\n", sealedByHand("-0 row@-") + "\n", sealedByHand(" row@-") + "\n", sealedByHand("0row@-") + "\n", sealedByHand("0 row") + "\n", sealedByHand("0 row-") + "\n",
		sealedByHand("0") + "\n", sealedByHand("") + "\n", sealedByHand("0 ") + "\n", sealedByHand("0 @") + "\n", sealedByHand("0 @-") + "\n", sealedByHand("0 r#w@-") + "\n", sealedByHand("0 row@#") + "\n", sealedByHand("x row@-") + "\n", sealedByHand("0\trow@-") + "\n",
		sealedByHand("0 r\x1fw@-") + "\n", sealedByHand("0 row@\x7f") + "\n", sealedByHand("0 row@\xff") + "\n", sealedByHand("0 row@a\nb") + "\n", sealedByHand("0 r\nw@a") + "\n", sealedByHand("0 \u00e9@a") + "\n",
		encodedByHand(0, impl.LogRecord{Command: strings.Repeat("c", 161)}), encodedByHand(0, impl.LogRecord{Command: "c", Reply: strings.Repeat("r", 251)}),
	} {
		all = append(all, impl.Log{Durable: s, Count: strings.Count(s, "\n")}, impl.Log{Pending: s, Count: strings.Count(s, "\n")}, impl.Log{Pending: s, Count: 1})
	}
	many := logOf(someRecords(61), 61)
	sixty := logOf(someRecords(60), 60)
	for _, count := range []int{60, 61} {
		all = append(all, impl.Log{Durable: many.Durable, Count: count}, impl.Log{Durable: sixty.Durable, Pending: many.Durable[len(sixty.Durable):], Count: count})
	}
	for _, size := range []int{29999, 30000, 30001, 1 << 20} {
		long := sixty.Durable + strings.Repeat("x", size-len(sixty.Durable))
		all = append(all, impl.Log{Durable: long, Count: 60}, impl.Log{Durable: sixty.Durable, Pending: long[len(sixty.Durable):], Count: 60}, impl.Log{Pending: strings.Repeat("\n", size), Count: 60})
	}
	return all
}

func TestIsValidRecord(t *testing.T) {
	text := func(n int) string { return strings.Repeat("a", n) }
	for _, x := range []struct {
		command, reply string
		want           bool
	}{
		{"a", "", true}, {"a", "a", true}, {"", "", false}, {"", "a", false}, {text(160), "", true}, {text(161), "", false}, {text(1 << 20), "", false}, {"a", text(250), true}, {"a", text(251), false}, {"a", text(1 << 20), false},
		{text(160), text(250), true}, {text(161), text(250), false}, {text(160), text(251), false}, {" ", " ", true}, {"a@", "", false}, {"@", "", false}, {"a", "@", true}, {"a", "a@a@", true}, {"a#", "", false}, {"a", "#", false}, {"a", "a#a", false}, {"~", "~", true},
		{text(159) + "#", "", false}, {text(159) + "@", "", false}, {text(159) + "\n", "", false}, {"a", text(249) + "#", false}, {"a", text(249) + "\n", false}, {"\u00e9", "", false}, {"a", "\u00e9", false}, {"a", "\ufffd", false},
	} {
		if impl.IsValidRecord(impl.LogRecord{Command: x.command, Reply: x.reply}) != x.want {
			t.Errorf("a record of %.30q (%d) and %.30q (%d) is not %v", x.command, len(x.command), x.reply, len(x.reply), x.want)
		}
	}
	for c := range 256 {
		for _, s := range []string{string([]byte{byte(c)}), string([]byte{'a', byte(c)}), string([]byte{byte(c), 'a'}), string([]byte{'a', byte(c), 'a'})} {
			plain := c >= 32 && c <= 126 && c != 35
			one, two := impl.IsValidRecord(impl.LogRecord{Command: s}), impl.IsValidRecord(impl.LogRecord{Command: "a", Reply: s})
			if one != (plain && c != 64) || two != plain {
				t.Fatalf("%q as Command: %v, as Reply: %v", s, one, two)
			}
		}
	}
}

func TestEncodeRecord(t *testing.T) {
	for _, e := range append(someRecords(7), impl.LogRecord{}, impl.LogRecord{Reply: "a"}, impl.LogRecord{Command: "a@"}, impl.LogRecord{Command: "a", Reply: "#"}, impl.LogRecord{Command: strings.Repeat("a", 161)}, impl.LogRecord{Command: "a\n"}) {
		for k := -3; k < 64; k++ {
			line, ok := impl.EncodeRecord(k, e)
			want, fine := "", k >= 0 && k < 60 && impl.IsValidRecord(e)
			if fine {
				want = encodedByHand(k, e)
			}
			if ok != fine || line != want {
				t.Fatalf("%v is encoded with %d: %q, %v, not %q", e, k, line, ok, want)
			}
		}
		for _, k := range []int{-60, 1 << 32, 1<<32 + 1, math.MaxInt, math.MinInt, math.MinInt + 1} {
			if line, ok := impl.EncodeRecord(k, e); ok || line != "" {
				t.Errorf("%v is encoded with %d: %q, %v", e, k, line, ok)
			}
		}
	}
	if line, ok := impl.EncodeRecord(59, impl.LogRecord{Command: "told 0", Reply: "none"}); !ok || line != sealedByHand("59 told 0@none")+"\n" {
		t.Errorf("the encoding is %q, %v", line, ok)
	}
}

// sameRead fails if a log of these texts and this Count is not read as by hand.
func sameRead(t *testing.T, l impl.Log) {
	t.Helper()
	want, end := readByHand(l.Durable + l.Pending)
	valid := len(l.Durable+l.Pending) <= 30000 && end == len(l.Durable+l.Pending) && l.Count == len(want) && (l.Durable == "" || strings.HasSuffix(l.Durable, "\n"))
	records, ok := impl.LogRecords(l)
	if impl.IsValidLog(l) != valid || ok != valid || valid && !slices.Equal(records, want) || !valid && len(records) != 0 {
		t.Fatalf("%.90q, %.90q with %d records: valid is %v; %d records, %v", l.Durable, l.Pending, l.Count, valid, len(records), ok)
	}
	sameRecovered(t, l.Durable+l.Pending)
}

// sameRecovered fails if bytes are not recovered as by hand.
func sameRecovered(t *testing.T, s string) {
	t.Helper()
	records, end := readByHand(s)
	want := impl.Log{Durable: s[:end], Count: len(records)}
	if len(s) > 30000 {
		want, end = impl.Log{}, 0
	}
	if l, at, ok := impl.RecoverLog(s); ok != (len(s) <= 30000) || l != want || at != end || ok && !impl.IsValidLog(l) {
		t.Fatalf("%.90q (%d) is recovered with %d records, %d bytes, %v, not with %d, %d", s, len(s), l.Count, at, ok, want.Count, end)
	}
}

func TestLogs(t *testing.T) {
	for _, l := range manyLogs() {
		if !impl.IsValidLog(l) {
			t.Fatalf("a log: %.90q, %.90q, %d", l.Durable, l.Pending, l.Count)
		}
		sameRead(t, l)
	}
	if !impl.IsValidLog(impl.Log{}) {
		t.Error("the empty log")
	}
	for i, l := range noLogs() {
		if impl.IsValidLog(l) {
			t.Fatalf("no log, %d: %.90q, %.90q, %d", i, l.Durable, l.Pending, l.Count)
		}
		sameRead(t, l)
	}
}

func TestLogsWithOtherBytes(t *testing.T) {
	l := logOf(someRecords(3), 3)
	for i := range len(l.Durable) {
		for _, c := range []byte{l.Durable[i] + 1, l.Durable[i] - 1, 255 - l.Durable[i], '\n', '@', '#', '0', ' ', 0} {
			s := l.Durable[:i] + string([]byte{c}) + l.Durable[i+1:]
			for count := range 4 {
				sameRead(t, impl.Log{Durable: s, Count: count})
			}
			sameRead(t, impl.Log{Durable: l.Durable[:i] + string([]byte{c}) + l.Durable[i:], Count: 3})
		}
		sameRead(t, impl.Log{Durable: l.Durable[:i] + l.Durable[i+1:], Count: 3})
	}
}

func TestAllFunctionsFailForNoLogs(t *testing.T) {
	b := benchWith(0, "bc")
	for _, l := range noLogs() {
		synced, one := impl.SyncLog(l)
		crashed, two := impl.CrashLog(l, 0, false)
		records, three := impl.LogRecords(l)
		replayed, four := impl.ReplayLog(b, l)
		if one || two || three || four || synced != (impl.Log{}) || crashed != "" || len(records) != 0 || replayed != 0 {
			t.Fatalf("no log: %.90q, %.90q, %d", l.Durable, l.Pending, l.Count)
		}
		for _, e := range []impl.LogRecord{{Command: "row", Reply: "-"}, {}} {
			if after, code := impl.AppendRecord(l, e); code != impl.LogInvalid || after != l {
				t.Fatalf("%v is appended to no log, %.90q, %.90q, %d: %d", e, l.Durable, l.Pending, l.Count, code)
			}
		}
		if impl.IsValidConsole(impl.Console{Bench: b, Log: l}) {
			t.Fatalf("a Console with no log: %.90q, %.90q, %d", l.Durable, l.Pending, l.Count)
		}
	}
}

func TestAppendRecord(t *testing.T) {
	none := []impl.LogRecord{{}, {Reply: "a"}, {Command: "a@b"}, {Command: "a", Reply: "#"}, {Command: "a", Reply: strings.Repeat("r", 251)}, {Command: strings.Repeat("c", 161)}, {Command: "a\n"}}
	for _, l := range manyLogs() {
		for _, e := range someRecords(7) {
			want, code := l, impl.LogFull
			if l.Count < 60 {
				want, code = impl.Log{Durable: l.Durable, Pending: l.Pending + encodedByHand(l.Count, e), Count: l.Count + 1}, impl.LogOK
			}
			after, got := impl.AppendRecord(l, e)
			if got != code || after != want || !impl.IsValidLog(after) {
				t.Fatalf("%v appended to %d records: %d records, %d", e, l.Count, after.Count, got)
			}
		}
		for _, e := range none {
			if after, code := impl.AppendRecord(l, e); code != impl.LogInvalid || after != l {
				t.Fatalf("%v appended to %d records: %d records, %d", e, l.Count, after.Count, code)
			}
		}
	}
}

func TestLogsGrow(t *testing.T) {
	var l impl.Log
	for k, e := range someRecords(60) {
		after, code := impl.AppendRecord(l, e)
		if k%7 == 3 {
			after, _ = impl.SyncLog(after)
		}
		records, ok := impl.LogRecords(after)
		if code != impl.LogOK || !ok || !slices.Equal(records, someRecords(k+1)) {
			t.Fatal("behind", k, "records are", len(records), ok, code)
		}
		l = after
	}
	if after, code := impl.AppendRecord(l, impl.LogRecord{Command: "a"}); code != impl.LogFull || after != l {
		t.Error("more than all records:", after.Count, code)
	}
}

func TestSyncLog(t *testing.T) {
	for _, l := range manyLogs() {
		want := impl.Log{Durable: l.Durable + l.Pending, Count: l.Count}
		synced, ok := impl.SyncLog(l)
		again, fine := impl.SyncLog(synced)
		if !ok || !fine || synced != want || again != want || !impl.IsValidLog(synced) {
			t.Fatalf("%d records are synced to %d, %v, and again to %d, %v", l.Count, synced.Count, ok, again.Count, fine)
		}
	}
}

func TestCrashes(t *testing.T) {
	for _, l := range []impl.Log{{}, logOf(someRecords(4), 0), logOf(someRecords(4), 4), logOf(someRecords(5), 2), logOf(someRecords(60), 58)} {
		for keep := range len(l.Pending) + 1 {
			for _, torn := range []bool{false, true} {
				want := []byte(l.Durable + l.Pending[:keep])
				left := string(want)
				if torn && keep > 0 {
					want[len(want)-1] = ^want[len(want)-1]
					left = left[:len(left)-1]
				}
				s, ok := impl.CrashLog(l, keep, torn)
				if !ok || s != string(want) {
					t.Fatalf("a crash keeps %d, %v of %d records: %q, %v", keep, torn, l.Count, s, ok)
				}
				whole := left[:strings.LastIndexByte(left, '\n')+1]
				recovered, at, fine := impl.RecoverLog(s)
				if !fine || at != len(whole) || recovered != (impl.Log{Durable: whole, Count: strings.Count(whole, "\n")}) {
					t.Fatalf("a crash that keeps %d, %v of %d records leaves %d, %d, %v", keep, torn, l.Count, recovered.Count, at, fine)
				}
			}
		}
		for _, keep := range []int{-1, -2, len(l.Pending) + 1, len(l.Pending) + len(l.Durable) + 1, 1 << 32, math.MaxInt, math.MinInt} {
			for _, torn := range []bool{false, true} {
				if s, ok := impl.CrashLog(l, keep, torn); ok || s != "" {
					t.Errorf("a crash keeps %d, %v of %d: %q, %v", keep, torn, len(l.Pending), s, ok)
				}
			}
		}
	}
}

func TestRecoverLog(t *testing.T) {
	sixty := logOf(someRecords(60), 60).Durable
	for _, s := range []string{
		"", "\n", "x", "x\n", sixty, sixty[1:], sixty[:len(sixty)-1], sixty + "x", sixty + "\n", sixty + sixty, sixty + encodedByHand(60, impl.LogRecord{Command: "row"}), sixty + encodedByHand(0, impl.LogRecord{Command: "row"}),
		encodedByHand(0, impl.LogRecord{Command: "row"}) + encodedByHand(2, impl.LogRecord{Command: "row"}), encodedByHand(0, impl.LogRecord{Command: "row"}) + "x\n" + encodedByHand(1, impl.LogRecord{Command: "row"}),
		encodedByHand(0, impl.LogRecord{Command: "row"}) + encodedByHand(1, impl.LogRecord{}), encodedByHand(1, impl.LogRecord{Command: "row"}), strings.Repeat("\n", 30000), strings.Repeat("x", 30000), strings.Repeat("#", 30001),
		sixty + strings.Repeat("x", 30000-len(sixty)), sixty + strings.Repeat("x", 30001-len(sixty)), sixty + strings.Repeat("\n", 1<<20), allBytes(), strings.Repeat("0 a@b#", 5000),
	} {
		sameRecovered(t, s)
	}
	for cut := range len(sixty) {
		if cut%13 == 0 || sixty[cut] == '\n' || cut > 0 && sixty[cut-1] == '\n' {
			sameRecovered(t, sixty[:cut])
			sameRecovered(t, sixty[:cut]+sixty[cut+1:])
		}
	}
	if l, at, ok := impl.RecoverLog(sixty + encodedByHand(60, impl.LogRecord{Command: "row"})); !ok || at != len(sixty) || l != (impl.Log{Durable: sixty, Count: 60}) {
		t.Error("with a record too many:", l.Count, at, ok)
	}
}

func TestConsoles(t *testing.T) {
	for i, b := range manyBenches() {
		c, ok := impl.NewConsole(b)
		if !ok || c != (impl.Console{Bench: b}) || !impl.IsValidConsole(c) {
			t.Fatal("a Console with", b, "is", c, ok)
		}
		logs := manyLogs()
		if l := logs[i%len(logs)]; !impl.IsValidConsole(impl.Console{Bench: b, Log: l}) {
			t.Fatal("a Console with", b, "and", l.Count, "records")
		}
	}
}

// commandForms is what the commands of the document's table look like.
var commandForms = regexp.MustCompile(strings.ReplaceAll(`^(?:(show|dark|lit|full) N N|(clear|mend|digits|told|images|harmless|near|bulbs|same) N|(turn|mirror|row|sent|number|bars|first|least))$`, "N", `(0|-?[1-9][0-9]{0,5})`))

// litUpTo tells how many bars light for all numbers 0..n together, digit by digit.
var litUpTo = litSums()

func litSums() []int {
	sums, sum := []int{}, 0
	for n := range 10000 {
		for _, digit := range fmt.Sprint(n) {
			sum += len(digitLetters[digit-'0'])
		}
		sums = append(sums, sum)
	}
	return sums
}

// rowWritten tells a row by the letters of its cells.
func rowWritten(r []int) string {
	var texts []string
	for _, c := range r {
		texts = append(texts, lettersOf(c))
		if c == 0 {
			texts[len(texts)-1] = "-"
		}
	}
	return strings.Join(texts, " ")
}

// listWritten tells a list of numbers.
func listWritten(list []int) string {
	if len(list) == 0 {
		return "none"
	}
	return strings.Trim(fmt.Sprint(list), "[]")
}

// reportWritten tells what is so.
func reportWritten(is bool) string {
	return map[bool]string{true: "yes", false: "no"}[is]
}

// fractionWritten tells a part of a whole.
func fractionWritten(part, whole int) string {
	return strings.Trim(strings.ReplaceAll(fmt.Sprint(lowest(ratio(part, whole))), " ", "/"), "[]")
}

// executedByHand returns the Bench behind a command, and the reply, by the document's table.
func executedByHand(b impl.Bench, line string) (impl.Bench, string) {
	m := commandForms.FindStringSubmatch(line)
	if m == nil {
		return b, "?"
	}
	word, numbers := m[1]+m[4]+m[6], [2]int{}
	fmt.Sscan(m[2]+m[5], &numbers[0])
	fmt.Sscan(m[3], &numbers[1])
	if kind, is := map[string]int{"show": 1, "clear": 2, "dark": 3, "lit": 4, "mend": 5, "turn": 6, "mirror": 7}[word]; is {
		if after, ok := jobByHand(b, impl.Job{Kind: kind, A: numbers[0], B: numbers[1]}); ok {
			return after, rowWritten(benchRowByHand(after))
		}
		return b, "?"
	}
	if strings.Contains(" digits told images harmless near same ", " "+word+" ") {
		if numbers[0] < 0 || numbers[0] > 5 {
			return b, "?"
		}
		return b, placeByCommand(word, faultOf(b, numbers[0]), benchRowByHand(b)[numbers[0]])
	}
	return b, tellByCommand(b, word, numbers)
}

// placeByCommand returns the reply to a command for a place with a Fault that shows a cell.
func placeByCommand(word string, f impl.Fault, shown int) string {
	images := imagesByHand(f)
	told, same := []int{}, 0
	different := map[int]bool{}
	for digit, c := range images {
		same += len(placesOf(images, c))
		different[c] = true
		if len(placesOf(images, c)) == 1 {
			told = append(told, digit)
		}
	}
	switch word {
	case "digits":
		return listWritten(placesOf(images, shown))
	case "told":
		return listWritten(told)
	case "images":
		return fmt.Sprint(len(different))
	case "harmless":
		return reportWritten(len(told) == 10)
	case "near":
		fars := farsFrom(digitNumbers, shown)
		return listWritten(placesOf(fars, slices.Min(fars)))
	}
	return fractionWritten(same, 100)
}

// tellByCommand returns the reply to any other command that is no Job.
func tellByCommand(b impl.Bench, word string, numbers [2]int) string {
	shown := benchRowByHand(b)
	switch word {
	case "row":
		return rowWritten(shown)
	case "sent":
		return rowWritten(b.Cells[:])
	case "bars":
		return fmt.Sprint(len(strings.NewReplacer(" ", "", "-", "").Replace(rowWritten(shown))))
	case "least":
		return fmt.Sprint(len(leastWritten))
	case "number":
		number := 0
		for _, c := range shown {
			if !slices.Contains(digitNumbers, c) {
				return "?"
			}
			number = number*10 + slices.Index(digitNumbers, c)
		}
		return fmt.Sprint(number)
	case "first":
		var first []int
		for place, c := range shown {
			digits := placesOf(imagesByHand(faultOf(b, place)), c)
			if len(digits) == 0 {
				return "?"
			}
			first = append(first, digits[0])
		}
		return listWritten(first)
	case "full":
		if min(numbers[0], numbers[1]) < 0 || max(numbers[0], numbers[1]) > 9 {
			return "?"
		}
		return reportWritten(isFullByHand(numbers[:]))
	}
	if numbers[0] < 0 || numbers[0] > 9999 {
		return "?"
	}
	return fractionWritten(litUpTo[numbers[0]], numbers[0]+1)
}

// sameExecuted fails if a command does not lead to what comes of it by hand.
func sameExecuted(t *testing.T, c impl.Console, line string) {
	t.Helper()
	after, want := executedByHand(c.Bench, line)
	then, reply := impl.ExecuteCommand(c, line)
	l := c.Log
	l.Pending += encodedByHand(l.Count, impl.LogRecord{Command: line, Reply: want})
	l.Count++
	if reply != want || then != (impl.Console{Bench: after, Log: l}) || !impl.IsValidConsole(then) {
		t.Fatalf("%q at %v: %q, not %q, and %v, not %v, with the log %.90q, not %.90q", line, c.Bench, reply, want, then.Bench, after, then.Log.Pending, l.Pending)
	}
}

// The words of all commands, by how many arguments they have.
var (
	commandsOfTwo  = []string{"show", "dark", "lit", "full"}
	commandsOfOne  = []string{"clear", "mend", "digits", "told", "images", "harmless", "near", "bulbs", "same"}
	commandsOfNone = []string{"turn", "mirror", "row", "sent", "number", "bars", "first", "least"}
)

// everyCommand returns all commands with arguments that are places, bars and digits, and with the next ones beyond.
func everyCommand() []string {
	lines := slices.Clone(commandsOfNone)
	for a := -1; a < 7; a++ {
		for _, word := range commandsOfOne {
			lines = append(lines, fmt.Sprint(word, " ", a))
		}
		for b := -1; b < 11; b++ {
			for _, word := range commandsOfTwo {
				lines = append(lines, fmt.Sprint(word, " ", a, " ", b))
			}
		}
	}
	for a := 7; a < 11; a++ {
		for b := range 10 {
			lines = append(lines, fmt.Sprint("full ", a, " ", b))
		}
	}
	return append(lines, "bulbs 9", "bulbs 10", "bulbs 99", "bulbs 1234", "bulbs 9998", "bulbs 9999", "bulbs 10000", "bulbs 999999", "bulbs -1", "bulbs 1000000")
}

// spoiledCommands returns lines that are no commands, though much like them.
func spoiledCommands() []string {
	lines := []string{" ", "  ", "?", "none", "no", "A", "A B", "0", "0 0", "-", "x", "help", "rows", "ro", "bulb 1", "shows 0 8", "unlit 0 1", "show,0,8", "show A B", "clear A", "mend A", "told a", strings.Repeat("row ", 40), strings.Repeat("a", 160), strings.Repeat(" ", 160), strings.Repeat("9", 160)}
	for _, word := range slices.Concat(commandsOfNone, commandsOfOne, commandsOfTwo) {
		lines = append(lines, word, word+" ", " "+word, word+"  ", strings.ToUpper(word), word+"1", word+" x", word+" 0 x", word+" x 0", word+" 0", word+" 1", word+" 0 0", word+" 1 1", word+" 0 0 0", word+" 0 0 0 0", word+" 1 ", " "+word+" 1", word+"  1", word+" 1  1", word+" 1 1 ", word+"  1 1", word+" "+word)
		for _, number := range []string{"00", "01", "-0", "+1", "1.0", "0x1", "1e0", "1_0", "-", "+", "1000000", "-1000000", "999999", "-999999", "4294967297", "18446744073709551617", "9223372036854775808", "one", "A"} {
			lines = append(lines, word+" "+number, word+" "+number+" 1", word+" 1 "+number)
		}
	}
	return lines
}

func TestEachCommand(t *testing.T) {
	logs := manyLogs()
	for i, b := range manyBenches() {
		l := logs[i%len(logs)]
		if l.Count == 60 {
			l = impl.Log{}
		}
		for _, line := range everyCommand() {
			sameExecuted(t, impl.Console{Bench: b, Log: l}, line)
		}
	}
}

func TestCommandsWithOtherArguments(t *testing.T) {
	for _, b := range []impl.Bench{{}, {Count: 1000}, benchWith(7, "bc/a", "abc//g", "abdeg/g/a", "/abcdefg", "//abcdefg", "abcdefg/abc/defg")} {
		for _, line := range spoiledCommands() {
			sameExecuted(t, impl.Console{Bench: b}, line)
		}
	}
}

func TestSomeCommands(t *testing.T) {
	b := benchWith(0, "abcdefg/g", "bc", "abc//dg", "/abcdefg", "//abcdefg", "abdeg/b")
	for line, want := range map[string]string{
		"row": "abcdef bc abcdg - abcdefg adeg", "sent": "abcdefg bc abc - - abdeg", "number": "?", "bars": "24", "digits 0": "0 8", "digits 1": "1", "digits 2": "3 7", "digits 3": "0 1 2 3 4 5 6 7 8 9", "digits 4": "0 1 2 3 4 5 6 7 8 9", "digits 5": "2",
		"told 0": "1 2 3 4 5 6 7 9", "told 3": "none", "told 1": "0 1 2 3 4 5 6 7 8 9", "images 0": "9", "images 1": "10", "images 4": "1", "harmless 1": "yes", "harmless 0": "no", "first": "0 1 3 0 0 2", "near 0": "0", "near 3": "1", "near 4": "8", "near 5": "2",
		"full 1 2": "no", "full 2 5": "no", "full 0 10": "?", "full 9 9": "no", "least": "6", "bulbs 0": "6/1", "bulbs 9": "49/10", "bulbs 10000": "?", "same 0": "3/25", "same 1": "1/10", "same 3": "1/1", "same 6": "?", "digits 6": "?", "told -1": "?",
		"show 0 8": "abcdef bc abcdg - abcdefg adeg", "show 1 8": "abcdef abcdefg abcdg - abcdefg adeg", "clear 5": "abcdef bc abcdg - abcdefg -", "dark 4 6": "abcdef bc abcdg - abcdef adeg", "lit 3 0": "abcdef bc abcdg a abcdefg adeg", "mend 3": "abcdef bc abcdg - abcdefg adeg",
		"mend 4": "abcdef bc abcdg - - adeg", "mend 1": "?", "dark 0 6": "?", "lit 4 0": "?", "turn": "abdg abcdefg - adefg ef abcdef", "mirror": "acdg abcdefg - adefg ef abcdef",
	} {
		if _, reply := impl.ExecuteCommand(impl.Console{Bench: b}, line); reply != want {
			t.Errorf("%q: %q, not %q", line, reply, want)
		}
	}
	digits := benchWith(0, "abcdef", "bc", "abdeg", "bcf//g", "acdefg/e", "abcdfg")
	for line, want := range map[string]string{"number": "12459", "first": "0 1 2 4 5 9", "bars": "28"} {
		if _, reply := impl.ExecuteCommand(impl.Console{Bench: digits}, line); reply != want {
			t.Errorf("%q: %q, not %q", line, reply, want)
		}
	}
}

func TestTheLastJobsOfAConsole(t *testing.T) {
	c := impl.Console{Bench: benchWith(998, "bc")}
	for _, x := range [][2]string{{"show 5 8", "bc - - - - abcdefg"}, {"turn", "abcdefg - - - - ef"}, {"turn", "?"}, {"clear 0", "?"}, {"row", "abcdefg - - - - ef"}, {"dark 0 0", "?"}, {"near 0", "8"}} {
		next, reply := impl.ExecuteCommand(c, x[0])
		if reply != x[1] {
			t.Errorf("%q: %q, not %q", x[0], reply, x[1])
		}
		c = next
	}
	if c.Bench != benchWith(1000, "abcdefg", "", "", "", "", "ef") || c.Log.Count != 7 {
		t.Error("the Console is", c.Bench, c.Log.Count)
	}
}

// noCommands are lines that are no Command of a valid record.
func noCommands() []string {
	lines := []string{"", "@", "#", "row@", "@row", "row#", "show 0 8@", "show@0 8", "\n", "row\n", "row\nrow", "row\r", "\trow", "row\x00", "show\t0 8", "show 0\x7f8", "\x1f", "row\x80", "\u00e9", "row \xff", strings.Repeat("a", 161), "row" + strings.Repeat(" ", 158), strings.Repeat("a", 1<<20)}
	for c := range 256 {
		if c < 32 || c > 126 || c == '#' || c == '@' {
			lines = append(lines, string([]byte{byte(c)}), "row"+string([]byte{byte(c)}))
		}
	}
	return lines
}

// unchanged fails if a line leads to another Console, or is answered by another reply.
func unchanged(t *testing.T, c impl.Console, line, want string) {
	t.Helper()
	if after, reply := impl.ExecuteCommand(c, line); reply != want || after != c {
		t.Fatalf("%.40q at %v with the log %.60q, %.60q, %d: %q, not %q", line, c.Bench, c.Log.Durable, c.Log.Pending, c.Log.Count, reply, want)
	}
}

func TestTheOrderOfReplies(t *testing.T) {
	b, some := benchWith(3, "bc", "abc/g"), logOf(someRecords(7), 3)
	full := impl.Console{Bench: b, Log: logOf(someRecords(60), 40)}
	lines := []string{"row", "turn", "show 0 8", "show 0 10", "mend 0", "x", "row ", "?"}
	for _, line := range append(noCommands(), lines...) {
		for i, none := range noBenches() {
			if i%9 == 0 {
				unchanged(t, impl.Console{Bench: none, Log: some}, line, "no")
				unchanged(t, impl.Console{Bench: none, Log: full.Log}, line, "no")
			}
		}
	}
	for _, l := range noLogs() {
		for _, line := range append(lines, "", "a@", strings.Repeat("a", 161)) {
			unchanged(t, impl.Console{Bench: b, Log: l}, line, "no")
		}
	}
	for _, line := range noCommands() {
		unchanged(t, full, line, "bad")
		unchanged(t, impl.Console{Bench: b, Log: some}, line, "bad")
		unchanged(t, impl.Console{Bench: b}, line, "bad")
	}
	for _, line := range slices.Concat(lines, everyCommand(), spoiledCommands()) {
		unchanged(t, full, line, "full")
	}
	for _, line := range []string{"show 0 10", "mend 0", "x", "row ", "?"} {
		sameExecuted(t, impl.Console{Bench: b, Log: some}, line)
		sameExecuted(t, impl.Console{Bench: b, Log: logOf(someRecords(59), 59)}, line)
	}
}

// someLines returns commands of which most can be executed.
func someLines(size, number int) []string {
	numbers, every, spoiled := rand.New(rand.NewPCG(uint64(number), uint64(size))), everyCommand(), spoiledCommands()
	lines := make([]string, size)
	for i := range lines {
		switch numbers.IntN(8) {
		case 0:
			lines[i] = spoiled[numbers.IntN(len(spoiled))]
		case 1, 2:
			lines[i] = every[numbers.IntN(len(every))]
		case 3:
			lines[i] = commandsOfNone[numbers.IntN(2)]
		default:
			lines[i] = fmt.Sprint(commandsOfTwo[numbers.IntN(3)], " ", numbers.IntN(6), " ", numbers.IntN(7))
		}
	}
	return lines
}

// repliesByHand returns the replies to lines, of which some may be no Commands, and the Console behind them.
func repliesByHand(c impl.Console, lines []string) ([]string, impl.Console) {
	var replies []string
	for _, line := range lines {
		reply := "full"
		if line == "" || len(line) > 160 || strings.Trim(line, " !\"$%&'()*+,-./0123456789:;<=>?ABCDEFGHIJKLMNOPQRSTUVWXYZ[\\]^_`abcdefghijklmnopqrstuvwxyz{|}~") != "" {
			reply = "bad"
		} else if c.Log.Count < 60 {
			c.Bench, reply = executedByHand(c.Bench, line)
			c.Log.Pending += encodedByHand(c.Log.Count, impl.LogRecord{Command: line, Reply: reply})
			c.Log.Count++
		}
		replies = append(replies, reply)
	}
	return replies, c
}

func TestRunScript(t *testing.T) {
	for i, b := range manyBenches() {
		for size := 1; size <= 30; size += 1 + i%3 {
			lines := someLines(size, i)
			if i%4 == 1 {
				lines[size/2] = []string{"", "row@", "\xff", strings.Repeat("a", 161)}[i%16/4]
			}
			for _, l := range []impl.Log{{}, logOf(someRecords(50), 20), logOf(someRecords(60), 60)} {
				c := impl.Console{Bench: b, Log: l}
				replies, ok := impl.RunScript(c, strings.Join(lines, "\n"))
				want, _ := repliesByHand(c, lines)
				if !ok || !slices.Equal(replies, want) {
					t.Fatalf("%q at %v with %d records: %q, %v, not %q", lines, b, l.Count, replies, ok, want)
				}
			}
		}
	}
}

func TestSomeScripts(t *testing.T) {
	a := func(n int) string { return strings.Repeat("a", n) }
	for _, x := range []struct {
		text string
		want []string
	}{
		{"", []string{"bad"}}, {"\n", []string{"bad", "bad"}}, {"bars", []string{"2"}}, {"bars\n", []string{"2", "bad"}}, {"\nbars", []string{"bad", "2"}}, {"bars\n\nbars", []string{"2", "bad", "2"}}, {"clear 0\nbars\nsent", []string{"- - - - - -", "0", "- - - - - -"}},
		{"bars\r\nbars", []string{"bad", "2"}}, {"show 5 8\nx\nturn\nbars", []string{"bc - - - - abcdefg", "?", "abcdefg - - - - ef", "9"}}, {strings.Repeat("bars\n", 29) + "bars", slices.Repeat([]string{"2"}, 30)}, {strings.Repeat("bars\n", 29), append(slices.Repeat([]string{"2"}, 29), "bad")},
		{strings.Repeat("\n", 29), slices.Repeat([]string{"bad"}, 30)}, {strings.Repeat("\n", 30), nil}, {strings.Repeat("bars\n", 30), nil}, {strings.Repeat("bars\n", 30) + "bars", nil}, {strings.Repeat("\n", 4000), nil}, {a(160), []string{"?"}}, {a(161), []string{"bad"}},
		{a(4000), []string{"bad"}}, {a(4001), nil}, {"bars\n" + a(3995), []string{"2", "bad"}}, {"bars\n" + a(3996), nil}, {strings.Repeat(a(132)+"\n", 29) + a(143), slices.Repeat([]string{"?"}, 30)}, {strings.Repeat(a(132)+"\n", 29) + a(144), nil}, {a(1 << 20), nil},
	} {
		replies, ok := impl.RunScript(impl.Console{Bench: benchWith(0, "bc")}, x.text)
		if ok != (x.want != nil) || !slices.Equal(replies, x.want) {
			t.Errorf("%.40q (%d): %q, %v", x.text, len(x.text), replies, ok)
		}
	}
}

func TestScriptsFailForNoConsoles(t *testing.T) {
	for _, text := range []string{"", "row", "row\nrow", "x"} {
		for _, b := range noBenches() {
			if replies, ok := impl.RunScript(impl.Console{Bench: b}, text); ok || len(replies) != 0 {
				t.Fatalf("%q at %v: %q, %v", text, b, replies, ok)
			}
		}
		for _, l := range noLogs() {
			if replies, ok := impl.RunScript(impl.Console{Log: l}, text); ok || len(replies) != 0 {
				t.Fatalf("%q with the log %.60q, %.60q, %d: %q, %v", text, l.Durable, l.Pending, l.Count, replies, ok)
			}
		}
	}
}

func TestReplayingALogReproducesAllReplies(t *testing.T) {
	for i, b := range manyBenches() {
		c, ok := impl.NewConsole(b)
		if !ok {
			t.Fatal("no Console with", b)
		}
		lines := someLines(60, i)
		want, end := repliesByHand(c, lines)
		for k, line := range lines {
			next, reply := impl.ExecuteCommand(c, line)
			if reply != want[k] {
				t.Fatalf("%q behind %d others: %q, not %q", line, k, reply, want[k])
			}
			if k%17 == i%17 {
				next.Log, _ = impl.SyncLog(next.Log)
			}
			c = next
			if n, ok := impl.ReplayLog(b, c.Log); k%5 == 4 && (!ok || n != k+1) {
				t.Fatalf("%d, %v of %d replies are reproduced", n, ok, k+1)
			}
		}
		if c.Bench != end.Bench || c.Log.Durable+c.Log.Pending != end.Log.Pending || c.Log.Count != 60 {
			t.Fatal("the Console is", c.Bench, c.Log.Count, "not", end.Bench, end.Log.Count)
		}
	}
}

func TestReplayingALogWithOtherReplies(t *testing.T) {
	b := benchWith(990, "bc", "abdeg/g", "", "abc//d", "", "abcdefg")
	lines := []string{"row", "dark 5 6", "number", "x", "turn", "first", "lit 1 2", "told 0", "mirror", "mend 0", "mend 0", "show 0 8", "row", "clear 5", "bars"}
	replies, c := repliesByHand(impl.Console{Bench: b}, lines)
	records, ok := impl.LogRecords(c.Log)
	if !ok || len(records) != len(lines) {
		t.Fatal("records are", len(records), ok)
	}
	for k := range lines {
		for _, other := range []string{replies[k] + " ", "", "full", "bad", "no", "none", strings.ToUpper(replies[k]) + "!"} {
			changed := slices.Clone(records)
			changed[k].Reply = other
			for _, durable := range []int{0, k, len(lines)} {
				if n, ok := impl.ReplayLog(b, logOf(changed, durable)); !ok || n != k {
					t.Errorf("with %q instead of %q at %d: %d, %v", other, replies[k], k, n, ok)
				}
			}
			changed[len(lines)-1].Reply, changed[len(lines)/2].Reply = "-", "-"
			if n, ok := impl.ReplayLog(b, logOf(changed, 1)); !ok || n != min(k, len(lines)/2) {
				t.Errorf("with other replies at %d and %d: %d, %v", k, len(lines)/2, n, ok)
			}
		}
	}
	if n, ok := impl.ReplayLog(b, impl.Log{}); !ok || n != 0 {
		t.Error("a log without records:", n, ok)
	}
	if n, ok := impl.ReplayLog(impl.Bench{}, c.Log); !ok || n != 0 {
		t.Error("from another Bench:", n, ok)
	}
	b.Count = 998
	if n, ok := impl.ReplayLog(b, c.Log); !ok || n != 6 {
		t.Error("from a Bench with fewer Jobs left:", n, ok)
	}
	if n, ok := impl.ReplayLog(b, logOf(someRecords(60), 60)); !ok || n != 0 {
		t.Error("a log that no Console has kept:", n, ok)
	}
}

func TestArgumentsOfTheWorkshopAreNotModified(t *testing.T) {
	row, list := []int{6, 127, 0, 63, 7, 1, 2}, append(someJobs(30, 1), impl.Job{Kind: 9}, impl.Job{Kind: 6})
	keptRow, keptList := slices.Clone(row), slices.Clone(list)
	for size := range len(row) + 1 {
		impl.NewBench(row[:size])
	}
	for _, b := range manyBenches() {
		for size := range len(list) + 1 {
			impl.DoJobs(b, list[:size])
		}
	}
	if !slices.Equal(row, keptRow) || !slices.Equal(list, keptList) {
		t.Error("the row is", row, "and was", keptRow, "the Jobs are", list, "and were", keptList)
	}
}

func TestResultsOfTheWorkshopStandAlone(t *testing.T) {
	row := []int{6, 127, 0, 63, 7, 1}
	for _, b := range append(manyBenches()[:9], impl.Bench{Count: -1}) {
		kept := b
		standAlone(t, row, map[string]func() ([]int, bool){
			"SentRow":          func() ([]int, bool) { return impl.SentRow(b) },
			"BenchRow":         func() ([]int, bool) { return impl.BenchRow(b) },
			"SentRow of a row": func() ([]int, bool) { made, _ := impl.NewBench(row); return impl.SentRow(made) },
		})
		standApart(t, nil, row, "spoiled", map[string]func() ([]string, bool){
			"RunScript":    func() ([]string, bool) { return impl.RunScript(impl.Console{Bench: b}, "row\nsent\nx") },
			"RunScript no": func() ([]string, bool) { return impl.RunScript(impl.Console{Bench: b}, strings.Repeat("\n", 30)) },
		})
		if b != kept {
			t.Fatal("the Bench is", b, "and was", kept)
		}
	}
	l := logOf(someRecords(5), 2)
	standApart(t, nil, nil, impl.LogRecord{Command: "spoiled"}, map[string]func() ([]impl.LogRecord, bool){
		"LogRecords":    func() ([]impl.LogRecord, bool) { return impl.LogRecords(l) },
		"LogRecords {}": func() ([]impl.LogRecord, bool) { return impl.LogRecords(impl.Log{}) },
		"LogRecords no": func() ([]impl.LogRecord, bool) { return impl.LogRecords(impl.Log{Count: 1}) },
	})
}

// answersOfTheWorkshop returns what all functions of the chapter return for Benches, Jobs, logs and lines of all sorts.
func answersOfTheWorkshop() []any {
	var all []any
	tell := func(x ...any) { all = append(all, fmt.Sprint(x...)) }
	lines := slices.Concat(someLines(40, 9), noCommands())
	logs := slices.Concat(manyLogs(), noLogs()[:60])
	for i, b := range append(manyBenches(), noBenches()[:40]...) {
		sent, one := impl.SentRow(b)
		shown, two := impl.BenchRow(b)
		end, many, three := impl.DoJobs(b, someJobs(i, 3))
		tell(impl.IsBench(b), sent, one, shown, two, end, many, three)
		c, four := impl.NewConsole(b)
		c.Log = logs[i%len(logs)]
		after, reply := impl.ExecuteCommand(c, lines[i%len(lines)])
		replies, five := impl.RunScript(c, strings.Join(lines[:i%32], "\n"))
		replayed, six := impl.ReplayLog(b, after.Log)
		tell(impl.IsValidConsole(c), c, four, after, reply, replies, five, replayed, six)
	}
	for i, l := range logs {
		e := impl.LogRecord{Command: lines[i%len(lines)], Reply: lines[i%41]}
		after, code := impl.AppendRecord(l, e)
		line, one := impl.EncodeRecord(i%62, e)
		synced, two := impl.SyncLog(l)
		crashed, three := impl.CrashLog(l, i, i%2 == 0)
		recovered, at, four := impl.RecoverLog(l.Durable + l.Pending + line)
		records, five := impl.LogRecords(l)
		tell(impl.IsValidRecord(e), impl.IsValidLog(l), after, code, line, one, synced, two, crashed, three, recovered, at, four, records, five)
	}
	return all
}

func TestTheWorkshopReturnsTheSameForAllArguments(t *testing.T) {
	if !reflect.DeepEqual(answersOfTheWorkshop(), answersOfTheWorkshop()) {
		t.Error("other results for the same arguments")
	}
}
