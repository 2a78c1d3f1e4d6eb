package tests

import (
	"math"
	"slices"
	"testing"

	"loop.example/g00525/impl"
)

// The signatures of chapter 2.
var (
	_ func(impl.Tape) int64                        = impl.TapeFault
	_ func(int64, int64) impl.TapeResult           = impl.SeedTape
	_ func(impl.Tape, int64, int64) impl.IntResult = impl.WordAt
	_ func(impl.Tape, int64) impl.TapeResult       = impl.TapeFor
	_ func(impl.Tape, impl.Tape) bool              = impl.SameTapes
	_                                              = impl.TapeResult{Code: impl.OK, Tape: impl.Tape{Lanes: [][]int64{}}}
)

var (
	noParties = []int64{math.MinInt64, -256, -4, -1, 4, 5, 7, 256, 1 << 32, 1<<32 + 1, math.MaxInt64}
	noWords   = []int64{math.MinInt64, -256, -255, -1, 256, 257, 511, 512, 65536, 1 << 32, math.MaxInt64}
)

func tapeOf(lanes ...[]int64) impl.Tape {
	return impl.Tape{Lanes: lanes}
}

func filled(many int, word int64) []int64 {
	return slices.Repeat([]int64{word}, many)
}

func cloneTape(t impl.Tape) impl.Tape {
	lanes := make([][]int64, len(t.Lanes))
	for i, lane := range t.Lanes {
		lanes[i] = slices.Clone(lane)
	}
	return impl.Tape{Lanes: lanes}
}

// wantLanes does not lean on SameTapes, which is under test itself.
func wantLanes(t *testing.T, what string, got impl.TapeResult, want ...[]int64) {
	t.Helper()
	if got.Code != impl.OK || !slices.EqualFunc(got.Tape.Lanes, want, slices.Equal) {
		t.Errorf("%s: got %v, want %v", what, got, want)
	}
}

func wantTapeCode(t *testing.T, what string, got impl.TapeResult, want int64) {
	t.Helper()
	if got.Code != want || len(got.Tape.Lanes) != 0 {
		t.Errorf("%s: got %v, want code %d and no tape", what, got, want)
	}
}

// faultyTapes are of each fault, and of two faults where the first one is to be told.
func faultyTapes() map[string]struct {
	tape impl.Tape
	code int64
} {
	type faulty = struct {
		tape impl.Tape
		code int64
	}
	long, wrong, good := filled(901, 7), []int64{1, 256, 2}, []int64{1, 2, 3}
	return map[string]faulty{
		"no tape":                              {impl.Tape{}, impl.ErrForm},
		"no lanes":                             {tapeOf([][]int64{}...), impl.ErrForm},
		"one lane":                             {tapeOf(good), impl.ErrForm},
		"three lanes":                          {tapeOf(good, good, good), impl.ErrForm},
		"five lanes":                           {tapeOf(good, good, good, good, good), impl.ErrForm},
		"eight lanes":                          {tapeOf(nil, nil, nil, nil, nil, nil, nil, nil), impl.ErrForm},
		"three lanes, one long":                {tapeOf(long, good, good), impl.ErrForm},
		"five lanes, one wrong":                {tapeOf(wrong, good, good, good, good), impl.ErrForm},
		"five lanes, the last long":            {tapeOf(good, good, good, good, long), impl.ErrForm},
		"lane 0 long":                          {tapeOf(long, good, good, good), impl.ErrMany},
		"lane 3 long":                          {tapeOf(good, good, good, long), impl.ErrMany},
		"one lane long and wrong":              {tapeOf(good, filled(901, 256), good, good), impl.ErrMany},
		"long ahead of wrong":                  {tapeOf(good, long, wrong, good), impl.ErrMany},
		"wrong ahead of long":                  {tapeOf(good, wrong, long, good), impl.ErrRange},
		"wrong in the first, long in the last": {tapeOf(wrong, good, good, long), impl.ErrRange},
		"wrong at the end of a full lane":      {tapeOf(good, good, good, append(filled(899, 1), 256)), impl.ErrRange},
		"below 0":                              {tapeOf(good, good, []int64{-1}, good), impl.ErrRange},
	}
}

func TestTapeNumbers(t *testing.T) {
	if impl.Parties != 4 || impl.MaxTape != 900 {
		t.Errorf("got %d and %d", impl.Parties, impl.MaxTape)
	}
}

func TestTapeFaultNone(t *testing.T) {
	good := []impl.Tape{
		tapeOf(nil, nil, nil, nil),
		tapeOf([]int64{}, nil, []int64{}, nil),
		tapeOf([]int64{0}, []int64{255}, nil, []int64{0, 255}),
		tapeOf(filled(900, 0), filled(900, 255), filled(900, 1), filled(900, 254)),
		tapeOf(filled(900, 255), nil, filled(1, 0), filled(899, 128)),
	}
	for i, tape := range good {
		if got := impl.TapeFault(tape); got != impl.OK {
			t.Errorf("tape %d: %d", i, got)
		}
	}
	for word := range int64(256) {
		if got := impl.TapeFault(tapeOf(nil, nil, []int64{word}, nil)); got != impl.OK {
			t.Errorf("word %d: %d", word, got)
		}
	}
}

func TestTapeFaultOrder(t *testing.T) {
	for what, faulty := range faultyTapes() {
		if got := impl.TapeFault(faulty.tape); got != faulty.code {
			t.Errorf("%s: got %d, want %d", what, got, faulty.code)
		}
	}
}

func TestTapeFaultEveryPlace(t *testing.T) {
	for lane := range 4 {
		for _, wrong := range noWords {
			for place := range 5 {
				tape := tapeOf(filled(5, 9), filled(5, 9), filled(5, 9), filled(5, 9))
				tape.Lanes[lane][place] = wrong
				if got := impl.TapeFault(tape); got != impl.ErrRange {
					t.Errorf("word %d in lane %d: %d", wrong, lane, got)
				}
			}
		}
		for _, many := range []int{901, 902, 1800, 5000} {
			tape := tapeOf(nil, nil, nil, nil)
			tape.Lanes[lane] = filled(many, 0)
			if got := impl.TapeFault(tape); got != impl.ErrMany {
				t.Errorf("%d words in lane %d: %d", many, lane, got)
			}
		}
	}
}

// For any two lanes, the fault of the one ahead is told.
func TestTapeFaultLaneByLane(t *testing.T) {
	for first := range 4 {
		for second := first + 1; second < 4; second++ {
			tape := tapeOf(nil, nil, nil, nil)
			tape.Lanes[first], tape.Lanes[second] = []int64{5, -1}, filled(901, 5)
			if got := impl.TapeFault(tape); got != impl.ErrRange {
				t.Errorf("lanes %d, %d: %d", first, second, got)
			}
			tape.Lanes[first], tape.Lanes[second] = tape.Lanes[second], tape.Lanes[first]
			if got := impl.TapeFault(tape); got != impl.ErrMany {
				t.Errorf("lanes %d, %d: %d", first, second, got)
			}
		}
	}
}

func TestSeedTapeKnown(t *testing.T) {
	wantLanes(t, "1, 2", impl.SeedTape(1, 2), []int64{21, 71}, []int64{250, 58}, []int64{176, 217}, []int64{196, 109})
	wantLanes(t, "0, 1", impl.SeedTape(0, 1), []int64{10}, []int64{35}, []int64{253}, []int64{230})
	wantLanes(t, "0, 3", impl.SeedTape(0, 3), []int64{10, 35, 253}, []int64{230, 216, 236}, []int64{98, 54, 100}, []int64{195, 90, 108})
	wantLanes(t, "65535, 3", impl.SeedTape(65535, 3), []int64{135, 110, 149}, []int64{171, 186, 165}, []int64{48, 91, 45}, []int64{207, 56, 37})
	wantLanes(t, "7, 5", impl.SeedTape(7, 5), []int64{85, 28, 50, 199, 157}, []int64{212, 127, 37, 73, 26}, []int64{246, 98, 135, 165, 239}, []int64{87, 9, 133, 47, 250})
	// From this seed on the next one is 0.
	wantLanes(t, "45438, 1", impl.SeedTape(45438, 1), []int64{0}, []int64{10}, []int64{35}, []int64{253})
	for _, seed := range []int64{0, 1, 65535} {
		wantLanes(t, "no words", impl.SeedTape(seed, 0), nil, nil, nil, nil)
	}
}

func TestSeedTapeFull(t *testing.T) {
	for seed, sum := range map[int64]int64{0: 453709, 65535: 454604} {
		got := impl.SeedTape(seed, 900)
		if got.Code != impl.OK || len(got.Tape.Lanes) != 4 || impl.TapeFault(got.Tape) != impl.OK {
			t.Fatalf("seed %d: %v", seed, got.Code)
		}
		for i, lane := range got.Tape.Lanes {
			if len(lane) != 900 {
				t.Errorf("seed %d: lane %d has %d words", seed, i, len(lane))
			}
			for _, word := range lane {
				sum -= word
			}
		}
		if sum != 0 {
			t.Errorf("seed %d: the sum of all words is off by %d", seed, sum)
		}
	}
	lanes := impl.SeedTape(0, 900).Tape.Lanes
	if lanes[0][898] != 196 || lanes[0][899] != 105 || lanes[1][0] != 186 || lanes[1][1] != 249 || lanes[3][898] != 73 || lanes[3][899] != 242 {
		t.Errorf("the ends of the lanes of seed 0 are others: %v", lanes)
	}
}

// Behind one another, the lanes are the same words however long a lane is.
func TestSeedTapeGoesOnFromLaneToLane(t *testing.T) {
	for _, seed := range []int64{0, 1, 2, 873, 874, 12345, 65534, 65535} {
		want := make([]int64, 0, 3600)
		for next := seed; len(want) < 3600; {
			next = (next*75 + 74) % 65537
			want = append(want, next/7%256)
		}
		for _, n := range []int64{0, 1, 2, 3, 7, 300, 899, 900} {
			got := impl.SeedTape(seed, n)
			if got.Code != impl.OK || len(got.Tape.Lanes) != 4 {
				t.Fatalf("seed %d, n %d: %v", seed, n, got)
			}
			for i, lane := range got.Tape.Lanes {
				from := int64(i) * n
				if !slices.Equal(lane, want[from:from+n]) {
					t.Errorf("seed %d, n %d: lane %d is %v", seed, n, i, lane)
				}
			}
		}
	}
}

func TestSeedTapeEverySeed(t *testing.T) {
	for seed := range int64(65536) {
		first := (seed*75 + 74) % 65537
		second := (first*75 + 74) % 65537
		third := (second*75 + 74) % 65537
		fourth := (third*75 + 74) % 65537
		got := impl.SeedTape(seed, 1)
		want := [][]int64{{first / 7 % 256}, {second / 7 % 256}, {third / 7 % 256}, {fourth / 7 % 256}}
		if got.Code != impl.OK || !slices.EqualFunc(got.Tape.Lanes, want, slices.Equal) {
			t.Fatalf("seed %d: got %v, want %v", seed, got, want)
		}
	}
}

func TestSeedTapeOutOfBounds(t *testing.T) {
	for _, seed := range []int64{math.MinInt64, -65536, -1, 65536, 65537, 131072, 1 << 32, math.MaxInt64} {
		for _, n := range []int64{0, 1, 900, 901, -1} {
			wantTapeCode(t, "seed", impl.SeedTape(seed, n), impl.ErrRange)
		}
	}
	for _, n := range []int64{math.MinInt64, -900, -1, 901, 902, 65536, 1 << 32, 1 << 62, math.MaxInt64} {
		for _, seed := range []int64{0, 1, 65535} {
			wantTapeCode(t, "n", impl.SeedTape(seed, n), impl.ErrRange)
		}
	}
}

func TestWordAt(t *testing.T) {
	tape := tapeOf([]int64{0, 255, 3}, nil, filled(900, 77), []int64{9})
	for lane, words := range tape.Lanes {
		for n, word := range words {
			wantInt(t, "a word", impl.WordAt(tape, int64(lane), int64(n)), value(word))
		}
		end := int64(len(words))
		for _, n := range []int64{end, end + 1, end + 2, 900, 901, 65536, 1 << 32, 1<<32 + 1, math.MaxInt64 - 1, math.MaxInt64} {
			wantInt(t, "behind the end", impl.WordAt(tape, int64(lane), n), value(0))
		}
	}
	wantInt(t, "the last one of a full lane", impl.WordAt(tape, 2, 899), value(77))
	wantInt(t, "behind a full lane", impl.WordAt(tape, 2, 900), value(0))
	wantInt(t, "an empty lane", impl.WordAt(tape, 1, 0), value(0))
	// What stands in memory behind a lane's end is no word of it.
	under := []int64{1, 2, 3, 4}
	wantInt(t, "a piece", impl.WordAt(tapeOf(under[:2], nil, nil, nil), 0, 2), value(0))
}

func TestWordAtOutOfBounds(t *testing.T) {
	tape := impl.SeedTape(5, 3).Tape
	for _, lane := range noParties {
		for _, n := range []int64{0, 2, 3, -1} {
			wantInt(t, "no party", impl.WordAt(tape, lane, n), code(impl.ErrRange))
		}
	}
	for lane := range int64(4) {
		for _, n := range []int64{math.MinInt64, -900, -3, -1} {
			wantInt(t, "below 0", impl.WordAt(tape, lane, n), code(impl.ErrRange))
			wantInt(t, "below 0 in no words", impl.WordAt(tapeOf(nil, nil, nil, nil), lane, n), code(impl.ErrRange))
		}
	}
}

func TestWordAtAsksTheTapeFirst(t *testing.T) {
	for what, faulty := range faultyTapes() {
		for _, lane := range []int64{0, 3, 4, -1} {
			for _, n := range []int64{0, 900, -1} {
				wantInt(t, what, impl.WordAt(faulty.tape, lane, n), code(faulty.code))
			}
		}
	}
}

func TestTapeForLacksItsLaneAlone(t *testing.T) {
	tapes := []impl.Tape{
		impl.SeedTape(1, 2).Tape,
		impl.SeedTape(65535, 900).Tape,
		tapeOf([]int64{0}, []int64{255, 0}, []int64{1, 2, 3}, []int64{4, 5, 6, 7}),
		tapeOf(nil, []int64{}, []int64{8}, nil),
		tapeOf(nil, nil, nil, nil),
		tapeOf(filled(900, 255), nil, filled(900, 0), filled(899, 1)),
	}
	for _, tape := range tapes {
		for party := range int64(4) {
			want := cloneTape(tape).Lanes
			want[party] = nil
			got := impl.TapeFor(tape, party)
			wantLanes(t, "TapeFor", got, want...)
			if impl.TapeFault(got.Tape) != impl.OK {
				t.Errorf("what is told to party %d has a fault", party)
			}
			for n := range int64(5) {
				wantInt(t, "its own lane", impl.WordAt(got.Tape, party, n), value(0))
			}
			wantLanes(t, "told again", impl.TapeFor(got.Tape, party), want...)
		}
	}
}

// Whatever stands in its lane, a party is told the same.
func TestTapeForTellsNothingOfItsLane(t *testing.T) {
	for party := range int64(4) {
		one := impl.SeedTape(3, 4).Tape
		other := cloneTape(one)
		for _, lane := range [][]int64{nil, {}, {0}, {255, 255}, filled(900, 3)} {
			other.Lanes[party] = lane
			wantLanes(t, "TapeFor", impl.TapeFor(other, party), impl.TapeFor(one, party).Tape.Lanes...)
		}
	}
}

func TestTapeForWrong(t *testing.T) {
	for _, party := range noParties {
		wantTapeCode(t, "no party", impl.TapeFor(impl.SeedTape(5, 3).Tape, party), impl.ErrRange)
		wantTapeCode(t, "no party, no words", impl.TapeFor(tapeOf(nil, nil, nil, nil), party), impl.ErrRange)
	}
	for what, faulty := range faultyTapes() {
		for _, party := range []int64{0, 1, 2, 3, 4, -1} {
			wantTapeCode(t, what, impl.TapeFor(faulty.tape, party), faulty.code)
		}
	}
}

func TestSameTapes(t *testing.T) {
	same := [][2]impl.Tape{
		{impl.SeedTape(1, 2).Tape, impl.SeedTape(1, 2).Tape},
		{impl.SeedTape(9, 900).Tape, impl.SeedTape(9, 900).Tape},
		{tapeOf(nil, nil, nil, nil), tapeOf([]int64{}, nil, []int64{}, []int64{})},
		{impl.Tape{}, impl.Tape{Lanes: [][]int64{}}},
		{impl.SeedTape(1, 0).Tape, impl.SeedTape(2, 0).Tape},
		// Faults are not asked for: what is the same is the same.
		{tapeOf([]int64{-1, 999}), tapeOf([]int64{-1, 999})},
		{tapeOf(filled(901, 1), nil, nil), tapeOf(filled(901, 1), nil, []int64{})},
		{tapeOf(nil, nil, nil, nil, []int64{math.MinInt64}), tapeOf(nil, nil, nil, nil, []int64{math.MinInt64})},
	}
	for i, pair := range same {
		if !impl.SameTapes(pair[0], pair[1]) || !impl.SameTapes(pair[1], pair[0]) || !impl.SameTapes(pair[0], pair[0]) {
			t.Errorf("pair %d is the same", i)
		}
	}
	other := [][2]impl.Tape{
		{impl.SeedTape(1, 2).Tape, impl.SeedTape(2, 2).Tape},
		{impl.SeedTape(1, 2).Tape, impl.SeedTape(1, 3).Tape},
		{impl.Tape{}, tapeOf(nil)},
		{tapeOf(nil, nil, nil), tapeOf(nil, nil, nil, nil)},
		{tapeOf(nil, nil, nil, nil), tapeOf(nil, nil, nil, nil, nil)},
		{tapeOf(nil, nil, nil, nil), tapeOf([]int64{0}, nil, nil, nil)},
		{tapeOf([]int64{1, 2}, nil, nil, nil), tapeOf([]int64{1}, []int64{2}, nil, nil)},
		{tapeOf([]int64{1}, []int64{2}, nil, nil), tapeOf([]int64{2}, []int64{1}, nil, nil)},
		{tapeOf([]int64{1, 2}, nil, nil, nil), tapeOf([]int64{2, 1}, nil, nil, nil)},
		{tapeOf([]int64{0}), tapeOf([]int64{256})},
		{tapeOf([]int64{0}), tapeOf([]int64{1 << 32})},
		{tapeOf([]int64{math.MinInt64}), tapeOf([]int64{math.MaxInt64})},
	}
	for i, pair := range other {
		if impl.SameTapes(pair[0], pair[1]) || impl.SameTapes(pair[1], pair[0]) {
			t.Errorf("pair %d is not the same", i)
		}
	}
}

func TestSameTapesButForOneThing(t *testing.T) {
	whole := impl.SeedTape(4, 6).Tape
	for lane := range 4 {
		for place := range 6 {
			near := cloneTape(whole)
			near.Lanes[lane][place] ^= 1
			if impl.SameTapes(whole, near) || impl.SameTapes(near, whole) {
				t.Errorf("word %d of lane %d is another one", place, lane)
			}
		}
		longer, shorter := cloneTape(whole), cloneTape(whole)
		longer.Lanes[lane] = append(longer.Lanes[lane], 0)
		shorter.Lanes[lane] = shorter.Lanes[lane][:5]
		for _, near := range []impl.Tape{longer, shorter, impl.TapeFor(whole, int64(lane)).Tape} {
			if impl.SameTapes(whole, near) || impl.SameTapes(near, whole) {
				t.Errorf("lane %d has not as many words: %v", lane, near)
			}
		}
	}
	for _, more := range [][]int64{nil, {}, {0}} {
		near := cloneTape(whole)
		near.Lanes = append(near.Lanes, more)
		if impl.SameTapes(whole, near) || impl.SameTapes(near, whole) {
			t.Errorf("there is one lane more: %v", more)
		}
	}
}

func TestTapesChangeNoArgument(t *testing.T) {
	// The lanes lie behind one another in one memory, with something behind the last one.
	under := []int64{1, 2, 3, 4, 5, 6, 7, 8, 42, 43}
	lanes := [][]int64{under[0:2], under[2:4], under[4:6], under[6:8], under[8:10]}
	tape := impl.Tape{Lanes: lanes[:4]}
	for _, party := range []int64{-1, 0, 1, 2, 3, 4} {
		impl.TapeFault(tape)
		impl.WordAt(tape, party, 1)
		impl.WordAt(tape, party, 2)
		impl.TapeFor(tape, party)
		impl.SameTapes(tape, tape)
		impl.SameTapes(impl.Tape{Lanes: lanes}, tape)
	}
	if !slices.Equal(under, []int64{1, 2, 3, 4, 5, 6, 7, 8, 42, 43}) || len(tape.Lanes) != 4 {
		t.Errorf("an argument was changed: %v", under)
	}
	for i, lane := range lanes {
		if len(lane) != 2 || &lane[0] != &under[2*i] {
			t.Errorf("lane %d of an argument was changed: %v", i, lane)
		}
	}
}

// spoil writes over all that a tape holds, and behind the end of each lane, as far as its memory goes.
func spoil(t impl.Tape) {
	for i, lane := range t.Lanes {
		lane = lane[:cap(lane)]
		for place := range lane {
			lane[place] = -9
		}
		t.Lanes[i] = nil
	}
}

func TestTapeForIsNewMemory(t *testing.T) {
	whole := impl.SeedTape(4, 6).Tape
	kept := cloneTape(whole)
	for party := range int64(4) {
		first, second := impl.TapeFor(whole, party), impl.TapeFor(whole, party)
		want := cloneTape(second.Tape)
		spoil(first.Tape)
		if !slices.EqualFunc(whole.Lanes, kept.Lanes, slices.Equal) {
			t.Fatalf("party %d: an answer shares memory with the argument: %v", party, whole)
		}
		wantLanes(t, "another answer", second, want.Lanes...)
		given := cloneTape(whole)
		third := impl.TapeFor(given, party)
		spoil(given)
		wantLanes(t, "when the argument is written over", third, want.Lanes...)
	}
}

func TestSeedTapeIsNewMemory(t *testing.T) {
	first, second := impl.SeedTape(4, 6), impl.SeedTape(4, 6)
	want := cloneTape(second.Tape)
	spoil(first.Tape)
	wantLanes(t, "another answer", second, want.Lanes...)
	wantLanes(t, "a later answer", impl.SeedTape(4, 6), want.Lanes...)
}

// Lanes of one argument may be one memory; those of an answer never are.
func TestNoTwoLanesOfAnAnswerShareMemory(t *testing.T) {
	one := []int64{1, 2, 3, 4}
	answers := []impl.Tape{impl.SeedTape(4, 6).Tape, impl.SeedTape(4, 1).Tape, impl.SeedTape(8, 900).Tape}
	for party := range int64(4) {
		answers = append(answers, impl.TapeFor(tapeOf(one, one, one, one), party).Tape, impl.TapeFor(tapeOf(one[:2], one[2:], one[1:3], one), party).Tape)
	}
	for _, answer := range answers {
		for i := range answer.Lanes {
			kept := cloneTape(answer)
			lane := answer.Lanes[i][:cap(answer.Lanes[i])]
			for place := range lane {
				lane[place] = -9
			}
			for other := range answer.Lanes {
				if other != i && !slices.Equal(answer.Lanes[other], kept.Lanes[other]) {
					t.Errorf("lanes %d and %d share memory", i, other)
				}
			}
		}
	}
	if !slices.Equal(one, []int64{1, 2, 3, 4}) {
		t.Errorf("an answer shares memory with the argument: %v", one)
	}
}

func TestTapesAnswerTheSameAgain(t *testing.T) {
	before := impl.SeedTape(77, 20).Tape
	told := impl.TapeFor(before, 1).Tape
	impl.SeedTape(78, 900)
	impl.SeedTape(-1, 3)
	impl.TapeFor(impl.Tape{}, 0)
	impl.TapeFor(impl.SeedTape(3, 900).Tape, 3)
	wantLanes(t, "SeedTape again", impl.SeedTape(77, 20), before.Lanes...)
	wantLanes(t, "TapeFor again", impl.TapeFor(before, 1), told.Lanes...)
}
