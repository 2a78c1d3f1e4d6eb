package tests

import (
	"math"
	"slices"
	"testing"

	"loop.example/g00525/impl"
)

// The signatures of chapter 6.
var (
	_ func([]int64) impl.IntResult                          = impl.AgreeInput
	_ func(impl.Net, int64, int64) impl.MixResult           = impl.InputMirror
	_ func(impl.Net, int64, []int64) impl.ManyResult        = impl.InputMany
	_ func(impl.Mirror, int64, int64) impl.OpenResult       = impl.OpenMirror
	_ func(impl.Mirror, int64, int64, int64) impl.IntResult = impl.PartFrom
	_                                                       = impl.OpenResult{Code: impl.OK, Values: []int64{}}
	_                                                       = impl.ManyResult{Code: impl.OK, Mirrors: []impl.Mirror{}, Net: impl.Net{}}
	_ [impl.SentOfInput - 3]struct{}                        = [0]struct{}{}
)

// bys are what one who lies may add, those among them that turn nothing by q 2.
var bys = []int64{0, 1, 2, 3, 127, 128, 254, 255}

func sameMirrors(a impl.Mirror, b impl.Mirror) bool {
	return a.Q == b.Q && slices.EqualFunc(a.Views, b.Views, slices.Equal)
}

func wantMany(t *testing.T, what string, got impl.ManyResult, want impl.ManyResult) {
	t.Helper()
	if got.Code != impl.OK || !slices.EqualFunc(got.Mirrors, want.Mirrors, sameMirrors) || !sameNets(got.Net, want.Net) {
		t.Errorf("%s: got %v, want %v", what, got, want)
	}
}

func wantManyCode(t *testing.T, what string, got impl.ManyResult, want int64) {
	t.Helper()
	if got.Code != want || len(got.Mirrors) != 0 || !sameNets(got.Net, impl.Net{}) {
		t.Errorf("%s: got %v, want code %d and nothing else", what, got, want)
	}
}

func wantOpen(t *testing.T, what string, got impl.OpenResult, want ...int64) {
	t.Helper()
	if got.Code != impl.OK || !slices.Equal(got.Values, want) {
		t.Errorf("%s: got %v, want %v", what, got, want)
	}
}

func wantOpenCode(t *testing.T, what string, got impl.OpenResult, want int64) {
	t.Helper()
	if got.Code != want || len(got.Values) != 0 {
		t.Errorf("%s: got %v, want code %d and no values", what, got, want)
	}
}

// threeOthers are all parties but one, rising.
func threeOthers(but int64) []int64 {
	return slices.DeleteFunc([]int64{0, 1, 2, 3}, func(party int64) bool { return party == but })
}

// inputByHand goes by the words of the chapter, on plain numbers, with one call for each word.
func inputByHand(n impl.Net, owner int64, v int64) impl.MixResult {
	n = cloneNet(n)
	var parts [4]int64
	left := v
	for _, party := range threeOthers(owner) {
		word := impl.TakeWord(n, party, 256)
		parts[party], n = word.Value, cloneNet(word.Net)
		left -= word.Value
	}
	parts[owner] = mod(256, left)
	for _, party := range threeOthers(owner) {
		told := parts[owner]
		if n.Cheat.Who == owner && n.Cheat.At == n.Sent {
			told = mod(256, told+n.Cheat.By)
		}
		n.Heard[party] = append(n.Heard[party], told)
		n.Sent++
	}
	return impl.MixResult{Mirror: likeMirror(256, parts[0], parts[1], parts[2], parts[3]), Net: n}
}

// wantCostOfInputs asks what was taken, told and heard for so many inputs, and that all else stayed.
func wantCostOfInputs(t *testing.T, before impl.Net, after impl.Net, owner int64, many int) {
	t.Helper()
	want := cloneNet(before)
	want.Sent += int64(3 * many)
	for party, list := range after.Heard {
		more := many
		if int64(party) == owner {
			more = 0
		}
		want.Used[party] += int64(more)
		had := before.Heard[party]
		if len(list) != len(had)+more || !slices.Equal(list[:len(had)], had) {
			t.Errorf("%d inputs of %d: party %d heard %v, ahead of it %v", many, owner, party, list, had)
		}
	}
	want.Heard = after.Heard
	if !sameNets(after, want) {
		t.Errorf("%d inputs of %d: got %v, want %v", many, owner, after, want)
	}
}

func TestAgreeInput(t *testing.T) {
	for _, c := range []struct {
		heard []int64
		want  int64
	}{
		{[]int64{7, 7, 7}, 7}, {[]int64{0, 0, 0}, 0}, {[]int64{255, 255, 255}, 255},
		{[]int64{7, 7, 9}, 7}, {[]int64{7, 9, 7}, 7}, {[]int64{9, 7, 7}, 7},
		{[]int64{0, 0, 255}, 0}, {[]int64{0, 255, 0}, 0}, {[]int64{255, 0, 0}, 0},
		{[]int64{255, 255, 0}, 255}, {[]int64{255, 0, 255}, 255}, {[]int64{0, 255, 255}, 255},
		{[]int64{1, 2, 3}, 0}, {[]int64{3, 2, 1}, 0}, {[]int64{0, 1, 255}, 0}, {[]int64{255, 254, 253}, 0}, {[]int64{9, 0, 8}, 0},
	} {
		wantInt(t, "AgreeInput", impl.AgreeInput(c.heard), value(c.want))
	}
}

// Whatever the third one says, in whatever place, two agree.
func TestAgreeInputOfTwoAlike(t *testing.T) {
	for v := range int64(256) {
		for other := range int64(256) {
			wantInt(t, "the last one", impl.AgreeInput([]int64{v, v, other}), value(v))
			wantInt(t, "the second one", impl.AgreeInput([]int64{v, other, v}), value(v))
			wantInt(t, "the first one", impl.AgreeInput([]int64{other, v, v}), value(v))
			third := (v + 1 + other) % 256
			if v != other && v != third && other != third {
				wantInt(t, "none", impl.AgreeInput([]int64{v, other, third}), value(0))
			}
		}
	}
}

func TestAgreeInputWrong(t *testing.T) {
	for _, list := range [][]int64{nil, {}, {1}, {1, 1}, {1, 1, 1, 1}, filled(6, 0), {256, -1}, {-1, -1, -1, -1}, filled(900, 300)} {
		wantInt(t, "not three", impl.AgreeInput(list), code(impl.ErrMany))
	}
	for _, no := range noElements(256) {
		for place := range 3 {
			list := []int64{7, 7, 7}
			list[place] = no
			wantInt(t, "one is no element", impl.AgreeInput(list), code(impl.ErrRange))
		}
		wantInt(t, "all are none", impl.AgreeInput([]int64{no, no, no}), code(impl.ErrRange))
		wantInt(t, "no two are the same", impl.AgreeInput([]int64{1, 2, no}), code(impl.ErrRange))
	}
}

// One input with all its numbers worked out by hand.
func TestInputByHand(t *testing.T) {
	n := netOf(tapeOf([]int64{10, 11}, []int64{20}, []int64{30, 31}, []int64{240}), honest)
	want := impl.MixResult{Mirror: likeMirror(256, 10, 76+256-10-30-240, 30, 240), Net: cloneNet(n)}
	want.Net.Used = []int64{1, 0, 1, 1}
	want.Net.Sent = 3
	want.Net.Heard = [][]int64{{52}, nil, {52}, {52}}
	wantMix(t, "InputMirror", impl.InputMirror(n, 1, 76), want)
	wantInt(t, "ValueOf", impl.ValueOf(want.Mirror, -1), value(76))
	// The next one: lanes 1 and 3 end.
	next := impl.MixResult{Mirror: likeMirror(256, 11, 20, 31, 5+256-11-20-31), Net: cloneNet(want.Net)}
	next.Net.Used = []int64{2, 1, 2, 1}
	next.Net.Sent = 6
	next.Net.Heard = [][]int64{{52, 199}, {199}, {52, 199}, {52}}
	wantMix(t, "the next one", impl.InputMirror(want.Net, 3, 5), next)
	both := impl.ManyResult{Mirrors: []impl.Mirror{likeMirror(256, 10, 52, 30, 240), likeMirror(256, 11, 226, 31, 0)}, Net: cloneNet(n)}
	both.Net.Used = []int64{2, 0, 2, 2}
	both.Net.Sent = 6
	both.Net.Heard = [][]int64{{52, 226}, nil, {52, 226}, {52, 226}}
	wantMany(t, "InputMany", impl.InputMany(n, 1, []int64{76, 12}), both)
}

// Each owner, each element, in nets of all kinds.
func TestWhatIsGivenIsWorthWhatWasGiven(t *testing.T) {
	for _, n := range someNets() {
		for owner := range int64(4) {
			for v := range int64(256) {
				got := impl.InputMirror(n, owner, v)
				wantMix(t, "InputMirror", got, inputByHand(n, owner, v))
				for _, but := range buts {
					wantInt(t, "ValueOf", impl.ValueOf(got.Mirror, but), value(v))
				}
				if impl.NetFault(got.Net) != impl.OK {
					t.Fatalf("%v", got)
				}
				wantCostOfInputs(t, n, got.Net, owner, 1)
			}
		}
	}
}

// The words are those of the others' lanes, from where these were left; what the owner's lane has counts for nothing.
func TestWhichWordsAnInputTakes(t *testing.T) {
	for owner := range int64(4) {
		n := busyNet(honest, 6)
		n.Tape = impl.SeedTape(9, 8).Tape
		got := impl.InputMirror(n, owner, 200)
		for _, party := range threeOthers(owner) {
			for _, other := range threeOthers(party) {
				if part := got.Mirror.Views[other][party]; part != n.Tape.Lanes[party][n.Used[party]] {
					t.Errorf("owner %d: %d has %d of part %d", owner, other, part, party)
				}
			}
		}
		other := cloneNet(n)
		other.Tape.Lanes[owner] = []int64{1, 2, 3}
		other.Used[owner] = 777
		wantMirror(t, "another lane of the owner", impl.MirrorResult{Mirror: impl.InputMirror(other, owner, 200).Mirror}, got.Mirror)
	}
}

func TestInputsBehindTheEndOfLanes(t *testing.T) {
	for owner := range int64(4) {
		var parts [4]int64
		parts[owner] = 201
		bare := likeMirror(256, parts[0], parts[1], parts[2], parts[3])
		for _, used := range []int64{3, 4, 900, 65536, 99998, 99999} {
			n := netOf(smallTape(), honest)
			n.Used = []int64{used, used, used, used}
			got := impl.InputMirror(n, owner, 201)
			wantMirror(t, "no words left", impl.MirrorResult{Code: got.Code, Mirror: got.Mirror}, bare)
			wantCostOfInputs(t, n, got.Net, owner, 1)
		}
		// What stands in memory behind a lane's end is no word of it.
		under := filled(8, 77)
		n := netOf(tapeOf(under[:0], under[:0], under[:0], under[:0]), honest)
		got := impl.InputMirror(n, owner, 201)
		wantMirror(t, "pieces", impl.MirrorResult{Code: got.Code, Mirror: got.Mirror}, bare)
		// Lanes that end one by one.
		n = netOf(tapeOf([]int64{9}, nil, []int64{8, 7}, []int64{6, 5, 4}), honest)
		wantMany(t, "lanes that end", impl.InputMany(n, owner, []int64{1, 2, 3, 4}), manyByHand(n, owner, []int64{1, 2, 3, 4}))
	}
}

// Each of the four, at each message ahead, among the three, and behind: nobody but the owner turns anything, and of what it turns all that hear agree.
func TestAnInputWithOneWhoCheats(t *testing.T) {
	for owner := range int64(4) {
		for _, who := range buts {
			for _, sent := range []int64{0, 5, 6} {
				for at := range int64(12) {
					for _, by := range bys {
						for _, cry := range []bool{false, true} {
							n := busyNet(impl.Cheat{Who: who, At: at, By: by, Cry: cry}, sent)
							got := impl.InputMirror(n, owner, 77)
							wantMix(t, "InputMirror", got, inputByHand(n, owner, 77))
							wantInt(t, "ValueOf", impl.ValueOf(got.Mirror, -1), value(77))
							wantCostOfInputs(t, n, got.Net, owner, 1)
						}
					}
				}
			}
		}
	}
}

// The owner turns what just one of the three hears, and that one has the part nonetheless.
func TestWhoHearsWhatTheOwnerTurned(t *testing.T) {
	for owner := range int64(4) {
		calm := impl.InputMirror(busyNet(honest, 6), owner, 130)
		for place, to := range threeOthers(owner) {
			n := busyNet(impl.Cheat{Who: owner, At: int64(6 + place), By: 9, Cry: true}, 6)
			got := impl.InputMirror(n, owner, 130)
			want := impl.MixResult{Mirror: calm.Mirror, Net: cloneNet(calm.Net)}
			want.Net.Cheat = n.Cheat
			last := len(want.Net.Heard[to]) - 1
			want.Net.Heard[to][last] = mod(256, want.Net.Heard[to][last]+9)
			wantMix(t, "InputMirror", got, want)
		}
	}
}

// What was asked ahead is not asked again: an input that begins within the bounds is given.
func TestInputsNearTheLastCounts(t *testing.T) {
	for owner := range int64(4) {
		for _, sent := range []int64{99995, 99996, 99997, 99998, 99999} {
			n := busyNet(honest, sent)
			got := impl.InputMirror(n, owner, 9)
			wantMix(t, "Sent", got, inputByHand(n, owner, 9))
			wantCostOfInputs(t, n, got.Net, owner, 1)
			if fault := impl.NetFault(got.Net); (fault == impl.OK) != (sent+3 <= 99999) {
				t.Errorf("%d were sent ahead: fault %d", sent, fault)
			}
			many := impl.InputMany(n, owner, filled(60, 9))
			if many.Code != impl.OK || len(many.Mirrors) != 60 || many.Net.Sent != sent+180 {
				t.Errorf("%d were sent ahead: %v", sent, many)
			}
		}
		for lane := range int64(4) {
			n := busyNet(honest, 6)
			n.Used[lane] = 99999
			got := impl.InputMirror(n, owner, 9)
			wantInt(t, "ValueOf", impl.ValueOf(got.Mirror, -1), value(9))
			wantCostOfInputs(t, n, got.Net, owner, 1)
			wantCostOfInputs(t, n, impl.InputMany(n, owner, []int64{1, 2}).Net, owner, 2)
			// Behind the last word that is counted there is a fault, but where the owner's lane was not asked.
			next := impl.InputMirror(got.Net, owner, 9)
			if lane == owner {
				wantCostOfInputs(t, n, next.Net, owner, 2)
			} else {
				wantMixCode(t, "the next one", next, impl.ErrRange)
			}
		}
		wantMixCode(t, "the next one", impl.InputMirror(impl.InputMirror(busyNet(honest, 99999), owner, 9).Net, owner, 9), impl.ErrRange)
		wantMixCode(t, "more than are counted", impl.InputMirror(busyNet(honest, 100000), owner, 9), impl.ErrRange)
		wantManyCode(t, "more than are counted", impl.InputMany(busyNet(honest, 100000), owner, nil), impl.ErrRange)
		// The last message at which one may cheat.
		n := busyNet(impl.Cheat{Who: owner, At: 99999, By: 3}, 99998)
		wantMix(t, "at 99999", impl.InputMirror(n, owner, 9), inputByHand(n, owner, 9))
	}
}

func TestInputsInAFaultyNet(t *testing.T) {
	many := [][]int64{nil, {7}, filled(61, 7), {-1}, filled(61, 256)}
	for _, owner := range []int64{0, 3, -1, 4, math.MaxInt64} {
		for _, v := range []int64{0, 255, -1, 256} {
			for _, faulty := range faultyNets() {
				wantMixCode(t, faulty.what, impl.InputMirror(faulty.net, owner, v), faulty.code)
				for _, list := range many {
					wantManyCode(t, faulty.what, impl.InputMany(faulty.net, owner, list), faulty.code)
				}
			}
			for _, z := range []impl.Quarrel{{Some: true}, {Some: true, From: 1, Check: 2, To: 3, Told: 9}, {Some: true, From: -5}} {
				n := busyNet(honest, 6)
				n.Quarrel = z
				wantMixCode(t, "a quarrel", impl.InputMirror(n, owner, v), impl.ErrState)
				for _, list := range many {
					wantManyCode(t, "a quarrel", impl.InputMany(n, owner, list), impl.ErrState)
				}
			}
		}
	}
	// Some tells whether there is one.
	n := busyNet(honest, 6)
	n.Quarrel = impl.Quarrel{From: 2}
	wantMix(t, "no quarrel is there", impl.InputMirror(n, 1, 9), inputByHand(n, 1, 9))
	wantMany(t, "no quarrel is there", impl.InputMany(n, 1, []int64{9}), manyByHand(n, 1, []int64{9}))
}

func TestInputsOutOfBounds(t *testing.T) {
	n := busyNet(honest, 6)
	for _, no := range noParties {
		for _, v := range []int64{0, 7, 255, -1, 256} {
			wantMixCode(t, "no owner", impl.InputMirror(n, no, v), impl.ErrRange)
		}
		// The owner is asked ahead of how many there are, and of them.
		for _, list := range [][]int64{nil, {7}, filled(60, 7), filled(61, 7), {256}, filled(61, -1)} {
			wantManyCode(t, "no owner", impl.InputMany(n, no, list), impl.ErrRange)
		}
	}
	for owner := range int64(4) {
		for _, no := range noElements(256) {
			wantMixCode(t, "no element", impl.InputMirror(n, owner, no), impl.ErrRange)
			for _, many := range []int{1, 2, 60} {
				for _, place := range []int{0, many / 2, many - 1} {
					list := filled(many, 7)
					list[place] = no
					wantManyCode(t, "one is no element", impl.InputMany(n, owner, list), impl.ErrRange)
				}
			}
			// How many there are is asked ahead of each.
			wantManyCode(t, "too many, of no elements", impl.InputMany(n, owner, filled(61, no)), impl.ErrMany)
		}
		for _, many := range []int{61, 62, 120, 1000, 70000} {
			wantManyCode(t, "too many", impl.InputMany(n, owner, filled(many, 7)), impl.ErrMany)
		}
	}
}

// manyByHand gives one behind the other.
func manyByHand(n impl.Net, owner int64, list []int64) impl.ManyResult {
	want := impl.ManyResult{Net: cloneNet(n)}
	for _, v := range list {
		one := inputByHand(want.Net, owner, v)
		want.Mirrors = append(want.Mirrors, one.Mirror)
		want.Net = one.Net
	}
	return want
}

func TestInputMany(t *testing.T) {
	for _, n := range someNets() {
		for owner := range int64(4) {
			for _, many := range []int{0, 1, 2, 3, 10, 59, 60} {
				list := make([]int64, many)
				for i := range list {
					list[i] = mod(256, int64(i*i*7)+owner*100-3)
				}
				got := impl.InputMany(n, owner, list)
				wantMany(t, "InputMany", got, manyByHand(n, owner, list))
				for i, v := range list {
					wantInt(t, "ValueOf", impl.ValueOf(got.Mirrors[i], -1), value(v))
				}
				wantCostOfInputs(t, n, got.Net, owner, many)
			}
			wantMany(t, "nil", impl.InputMany(n, owner, nil), impl.ManyResult{Net: n})
			wantMany(t, "none", impl.InputMany(n, owner, []int64{}), impl.ManyResult{Net: n})
		}
	}
}

// One is what InputMirror tells of it, and what comes behind it begins in that net.
func TestManyAreOneBehindTheOther(t *testing.T) {
	for owner := range int64(4) {
		for at := range int64(40) {
			n := netOf(impl.SeedTape(owner+1, 7).Tape, impl.Cheat{Who: owner, At: at, By: 1 + at, Cry: true})
			list := []int64{0, 255, 128, 1, 77, 0, 9, 200, 31, 45}
			want := impl.ManyResult{Net: n}
			for _, v := range list {
				one := impl.InputMirror(want.Net, owner, v)
				want.Mirrors, want.Net = append(want.Mirrors, one.Mirror), one.Net
			}
			got := impl.InputMany(n, owner, list)
			wantMany(t, "InputMany", got, want)
			for i, v := range list {
				wantInt(t, "ValueOf", impl.ValueOf(got.Mirrors[i], -1), value(v))
			}
			cut := impl.InputMany(n, owner, list[:4])
			rest := impl.InputMany(cut.Net, owner, list[4:])
			wantMany(t, "in two calls", impl.ManyResult{Mirrors: append(cut.Mirrors, rest.Mirrors...), Net: rest.Net}, want)
		}
	}
}

// Each input has its own numbers of messages: at each of them the owner turns what one alone hears.
func TestACheatAmongManyInputs(t *testing.T) {
	list := filled(60, 5)
	for owner := range int64(4) {
		n := netOf(impl.SeedTape(2, 100).Tape, honest)
		calm := impl.InputMany(n, owner, list)
		for at := range int64(181) {
			n.Cheat = impl.Cheat{Who: owner, At: at, By: 200}
			got := impl.InputMany(n, owner, list)
			want := impl.ManyResult{Mirrors: calm.Mirrors, Net: cloneNet(calm.Net)}
			want.Net.Cheat = n.Cheat
			if at < 180 {
				heard := want.Net.Heard[threeOthers(owner)[at%3]]
				heard[at/3] = mod(256, heard[at/3]+200)
			}
			wantMany(t, "InputMany", got, want)
		}
	}
}

// partByHand is what three tell of a part, and which of it two tell.
func partByHand(m impl.Mirror, part int64, who int64, by int64) impl.IntResult {
	var told []int64
	for _, party := range threeOthers(part) {
		v := m.Views[party][part]
		if party == who {
			v = (v + by) % m.Q
		}
		told = append(told, v)
	}
	for i := range told {
		if told[i] == told[(i+1)%3] {
			return value(told[i])
		}
	}
	return code(impl.ErrNone)
}

// wantOpened asks what is told of each part, and what each party opens.
func wantOpened(t *testing.T, m impl.Mirror, who int64, by int64) {
	t.Helper()
	var values []int64
	for party := range int64(4) {
		part := partByHand(m, party, who, by)
		wantInt(t, "PartFrom", impl.PartFrom(m, party, who, by), part)
		if part.Code == impl.OK {
			view := m.Views[party]
			values = append(values, (view[0]+view[1]+view[2]+view[3]+part.Value)%m.Q)
		}
	}
	if len(values) < 4 {
		wantOpenCode(t, "OpenMirror", impl.OpenMirror(m, who, by), impl.ErrNone)
		return
	}
	wantOpen(t, "OpenMirror", impl.OpenMirror(m, who, by), values...)
}

func TestOpenByHand(t *testing.T) {
	m := likeMirror(256, 10, 20, 30, 240)
	wantOpen(t, "nobody lies", impl.OpenMirror(m, -1, 9), 44, 44, 44, 44)
	wantOpen(t, "one lies", impl.OpenMirror(m, 2, 9), 44, 44, 44, 44)
	for part, want := range []int64{10, 20, 30, 240} {
		for _, who := range buts {
			wantInt(t, "PartFrom", impl.PartFrom(m, int64(part), who, 255), value(want))
		}
	}
	// Party 1 has part 0 otherwise: what it opens itself is another one, and nobody else hears of it.
	odd := withPart(m, 1, 0, 13)
	wantOpen(t, "odd", impl.OpenMirror(odd, -1, 0), 44, 47, 44, 44)
	wantInt(t, "odd", impl.PartFrom(odd, 0, -1, 0), value(10))
	// One who lies beside it makes three of it, or two.
	wantInt(t, "three", impl.PartFrom(odd, 0, 2, 1), code(impl.ErrNone))
	wantOpenCode(t, "three", impl.OpenMirror(odd, 2, 1), impl.ErrNone)
	wantInt(t, "two", impl.PartFrom(odd, 0, 2, 3), value(13))
	wantOpen(t, "two", impl.OpenMirror(odd, 2, 3), 47, 47, 44, 44)
	wantInt(t, "back", impl.PartFrom(odd, 0, 1, 253), value(10))
	// Bits.
	bits := likeMirror(2, 1, 0, 1, 1)
	wantOpen(t, "bits", impl.OpenMirror(bits, 3, 1), 1, 1, 1, 1)
	wantOpen(t, "bits", impl.OpenMirror(withPart(bits, 0, 3, 0), 1, 3), 0, 1, 1, 0)
	wantOpen(t, "bits, by 2", impl.OpenMirror(withPart(bits, 0, 3, 0), 1, 2), 0, 1, 1, 1)
}

// A mirror that is alike opens as what it is worth for all, whoever lies, by whatever.
func TestWhatIsOpenedIsWhatItIsWorth(t *testing.T) {
	for _, q := range rings {
		for _, parts := range edgeParts(q) {
			m := likeMirror(q, parts[0], parts[1], parts[2], parts[3])
			v := impl.ValueOf(m, -1).Value
			for _, who := range buts {
				for by := range int64(256) {
					wantOpen(t, "OpenMirror", impl.OpenMirror(m, who, by), v, v, v, v)
					for part := range int64(4) {
						wantInt(t, "PartFrom", impl.PartFrom(m, part, who, by), value(parts[part]))
					}
				}
			}
		}
	}
}

// One who lies may have anything: all others open what it is worth without it.
func TestWhatIsOpenedWhateverOneHas(t *testing.T) {
	for _, q := range rings {
		for _, parts := range edgeParts(q) {
			for who := range int64(4) {
				m := likeMirror(q, parts[0], parts[1], parts[2], parts[3])
				for seed := range int64(8) {
					for _, part := range threeOthers(who) {
						m.Views[who][part] = mod(q, seed*seed*31+part*7+seed)
					}
					for _, by := range bys {
						wantOpened(t, m, who, by)
						got := impl.OpenMirror(m, who, by)
						for _, party := range threeOthers(who) {
							if got.Code != impl.OK || got.Values[party] != impl.ValueOf(m, who).Value {
								t.Errorf("%v, %d lies by %d: party %d opens %v", m, who, by, party, got)
							}
						}
					}
				}
			}
		}
	}
}

// Of bits two of three are always the same, so that there is always one.
func TestOpenEveryMirrorOfBits(t *testing.T) {
	for bits := range 4096 {
		m := bitMirror(bits)
		for _, who := range buts {
			for _, by := range []int64{0, 1, 254, 255} {
				wantOpened(t, m, who, by)
			}
		}
		if got := impl.OpenMirror(m, -1, 0); got.Code != impl.OK {
			t.Errorf("%v: %v", m, got)
		}
	}
}

func TestOpenWhateverMirrors(t *testing.T) {
	for _, q := range rings {
		for _, m := range someMirrors(q) {
			for _, who := range buts {
				for _, by := range bys {
					wantOpened(t, m, who, by)
				}
			}
		}
	}
	// One part in each place, with two, or with three, that one alone has.
	for party := range 4 {
		for part := range 4 {
			if party == part {
				continue
			}
			one := withPart(likeMirror(256, 9, 8, 7, 6), party, part, 200)
			for other := range 4 {
				if other == part || other == party {
					continue
				}
				for _, has := range []int64{200, 201, 100} {
					for _, who := range buts {
						for _, by := range []int64{0, 1, 55, 56, 100, 156, 255} {
							wantOpened(t, withPart(one, other, part, has), who, by)
						}
					}
				}
			}
		}
	}
}

// Where no two of the three have the same of a part there is none of it, and nothing is opened; of the other parts there is one.
func TestNoTwoHaveTheSame(t *testing.T) {
	for some := 1; some < 16; some++ {
		m := likeMirror(256, 10, 20, 30, 240)
		for part := range int64(4) {
			if some>>part&1 == 1 {
				for place, party := range threeOthers(part) {
					m.Views[party][part] = int64(50 + 10*place)
				}
			}
		}
		for part := range int64(4) {
			want := value([]int64{10, 20, 30, 240}[part])
			if some>>part&1 == 1 {
				want = code(impl.ErrNone)
			}
			wantInt(t, "PartFrom", impl.PartFrom(m, part, -1, 0), want)
			wantInt(t, "the one that lacks it lies", impl.PartFrom(m, part, part, 7), want)
			for _, who := range buts {
				for _, by := range []int64{0, 3, 10, 20, 236, 246, 255} {
					wantInt(t, "PartFrom", impl.PartFrom(m, part, who, by), partByHand(m, part, who, by))
					wantOpened(t, m, who, by)
				}
			}
		}
		wantOpenCode(t, "OpenMirror", impl.OpenMirror(m, -1, 0), impl.ErrNone)
	}
}

// One who lies turns what it tells the others, not what it has itself: what it lacks it is told by those.
func TestOneWhoLiesTurnsNothingOfItsOwn(t *testing.T) {
	for who := range int64(4) {
		for seed := range int64(40) {
			m := unlikeMirror(256, seed)
			// What it lacks all others have alike, so that one may be opened.
			for _, party := range threeOthers(who) {
				m.Views[party][who] = seed
			}
			want := impl.PartFrom(m, who, -1, 0)
			for _, by := range bys {
				wantInt(t, "PartFrom", impl.PartFrom(m, who, who, by), want)
			}
		}
	}
	m := withPart(likeMirror(256, 1, 2, 3, 4), 2, 0, 50)
	for _, by := range bys {
		if got := impl.OpenMirror(m, 2, by); got.Code != impl.OK || got.Values[2] != 59 {
			t.Errorf("by %d: %v", by, got)
		}
	}
}

func TestOpenOfFaultyMirrors(t *testing.T) {
	for _, q := range rings {
		for _, faulty := range faultyMirrors(q) {
			for _, who := range []int64{-1, 0, 3, -2, 4, math.MinInt64} {
				for _, by := range []int64{0, 255, -1, 256} {
					wantOpenCode(t, faulty.what, impl.OpenMirror(faulty.mirror, who, by), faulty.code)
					for _, part := range []int64{0, 3, -1, 4} {
						wantInt(t, faulty.what, impl.PartFrom(faulty.mirror, part, who, by), code(faulty.code))
					}
				}
			}
		}
	}
}

func TestOpenOutOfBounds(t *testing.T) {
	for _, q := range rings {
		// There is none of a part in the last of these, which is asked behind all that is out of bounds.
		for _, m := range []impl.Mirror{likeMirror(q, 1, 0, 1, 1), unlikeMirror(q, 5)} {
			for _, no := range noButs {
				for _, by := range []int64{0, 1, 255, -1, 256} {
					wantOpenCode(t, "no who", impl.OpenMirror(m, no, by), impl.ErrRange)
					for part := range int64(4) {
						wantInt(t, "no who", impl.PartFrom(m, part, no, by), code(impl.ErrRange))
					}
				}
			}
			// By q 2, too, by is 0 to 255.
			for _, no := range noElements(256) {
				for _, who := range buts {
					wantOpenCode(t, "wrong by", impl.OpenMirror(m, who, no), impl.ErrRange)
					for part := range int64(4) {
						wantInt(t, "wrong by", impl.PartFrom(m, part, who, no), code(impl.ErrRange))
					}
				}
			}
			for _, no := range noParties {
				for _, who := range []int64{-1, 0, 1, 2, 3, -2, 4} {
					for _, by := range []int64{0, 255, 256} {
						wantInt(t, "no part", impl.PartFrom(m, no, who, by), code(impl.ErrRange))
					}
				}
			}
		}
	}
	if got := impl.OpenMirror(unlikeMirror(256, 5), -1, 0); got.Code != impl.ErrNone {
		t.Errorf("there is one: %v", got)
	}
}

// What is given is opened by all as what was given, whoever cheats, and whoever lies.
func TestWhatIsGivenIsOpened(t *testing.T) {
	for owner := range int64(4) {
		for who := range int64(4) {
			for at := range int64(4) {
				n := netOf(impl.SeedTape(owner+9, 4).Tape, impl.Cheat{Who: who, At: at, By: 99})
				for v := range int64(256) {
					m := impl.InputMirror(n, owner, v).Mirror
					wantOpen(t, "OpenMirror", impl.OpenMirror(m, who, 99), v, v, v, v)
				}
			}
		}
	}
}

// What one who is not the owner hears of an input tells nothing of it: for another one there is another word of its lane with which it hears just the same.
func TestAnInputIsHidden(t *testing.T) {
	for owner := range int64(4) {
		for _, party := range threeOthers(owner) {
			n := netOf(impl.SeedTape(9, 5).Tape, honest)
			want := impl.InputMirror(n, owner, 77)
			for more := range int64(256) {
				other := cloneNet(n)
				other.Tape.Lanes[party][0] = mod(256, other.Tape.Lanes[party][0]+more)
				got := impl.InputMirror(other, owner, mod(256, 77+more))
				if !slices.Equal(got.Net.Heard[party], want.Net.Heard[party]) || !slices.Equal(got.Mirror.Views[party], want.Mirror.Views[party]) {
					t.Errorf("owner %d, %d more: party %d sees %v and %v", owner, more, party, got, want)
				}
			}
		}
	}
}

func TestInputsChangeNoArgument(t *testing.T) {
	kept := []int64{1, 2, 3, 4, 5, 6, 7, 8, 0, 1, 2, 3, 20, 21, 22, 23, 24, 25, 26, 27, 42, 43, 44, 45}
	parts := []int64{0, 5, 6, 7, 4, 0, 6, 7, 4, 5, 0, 7, 4, 5, 6, 0, 77, 78, 79}
	given := []int64{7, 7, 9, 255, 0, 300}
	under, ofMirror, list := slices.Clone(kept), slices.Clone(parts), slices.Clone(given)
	n, m := laidNet(under), laidMirror(256, ofMirror)
	before := cloneNet(n)
	for _, owner := range buts {
		for many := range 7 {
			impl.AgreeInput(list[:many])
			impl.InputMany(n, owner, list[:many])
			impl.InputMany(n, owner, list[many:])
		}
		impl.AgreeInput(list[2:5])
		impl.InputMirror(n, owner, 9)
		impl.InputMirror(n, owner, 256)
		for _, by := range []int64{0, 9, 256} {
			impl.OpenMirror(m, owner, by)
			for part := range int64(5) {
				impl.PartFrom(m, part, owner, by)
			}
		}
	}
	if !slices.Equal(under, kept) || !slices.Equal(ofMirror, parts) || !slices.Equal(list, given) || !sameNets(n, before) || !sameMirrors(m, laidMirror(256, parts)) {
		t.Errorf("an argument was changed: %v, %v, %v", under, ofMirror, list)
	}
}

// inputAnswers are answers of all functions of the chapter that make lists, as many inputs.
func inputAnswers(n impl.Net, m impl.Mirror, list []int64) []impl.ManyResult {
	var answers []impl.ManyResult
	for owner := range int64(4) {
		one := impl.InputMirror(n, owner, 9)
		open := impl.OpenMirror(m, owner, 9)
		answers = append(answers, impl.InputMany(n, owner, list), impl.InputMany(n, owner, nil),
			impl.ManyResult{Code: one.Code, Mirrors: []impl.Mirror{one.Mirror}, Net: one.Net},
			impl.ManyResult{Code: open.Code, Mirrors: []impl.Mirror{{Views: [][]int64{open.Values}}}})
	}
	return answers
}

// manyLists are all lists of numbers that an answer holds.
func manyLists(r impl.ManyResult) [][]int64 {
	lists := netLists(r.Net)
	for _, m := range r.Mirrors {
		lists = append(lists, m.Views...)
	}
	return lists
}

func cloneMany(r impl.ManyResult) impl.ManyResult {
	mirrors := make([]impl.Mirror, len(r.Mirrors))
	for i, m := range r.Mirrors {
		mirrors[i] = cloneMirror(m)
	}
	return impl.ManyResult{Code: r.Code, Mirrors: mirrors, Net: cloneNet(r.Net)}
}

func spoilMany(r impl.ManyResult) {
	spoilNet(r.Net)
	for _, m := range r.Mirrors {
		spoilMirror(m)
	}
	clear(r.Mirrors[:cap(r.Mirrors)])
}

func TestInputsAreNewMemory(t *testing.T) {
	kept := []int64{1, 2, 3, 4, 5, 6, 7, 8, 0, 1, 2, 3, 20, 21, 22, 23, 24, 25, 26, 27, 42, 43, 44, 45}
	parts := []int64{0, 5, 6, 7, 4, 0, 6, 7, 4, 5, 0, 7, 4, 5, 6, 0}
	given := []int64{7, 7, 9}
	under, ofMirror, list := slices.Clone(kept), slices.Clone(parts), slices.Clone(given)
	n, m := laidNet(under), laidMirror(256, ofMirror)
	first, second := inputAnswers(n, m, list), inputAnswers(n, m, list)
	var want []impl.ManyResult
	for _, answer := range second {
		want = append(want, cloneMany(answer))
	}
	for _, answer := range first {
		spoilMany(answer)
	}
	if !slices.Equal(under, kept) || !slices.Equal(ofMirror, parts) || !slices.Equal(list, given) {
		t.Fatalf("an answer shares memory with an argument: %v, %v, %v", under, ofMirror, list)
	}
	for i, later := range inputAnswers(n, m, list) {
		wantMany(t, "a later answer", later, want[i])
	}
	spoilNet(n)
	spoilList(ofMirror)
	spoilList(list)
	for i, answer := range second {
		wantMany(t, "when others and the arguments are written over", answer, want[i])
	}
}

// wantListsApart asks that no two lists of one answer share memory; it writes over them.
func wantListsApart(t *testing.T, answers []impl.ManyResult) {
	t.Helper()
	for i, answer := range answers {
		if answer.Code != impl.OK {
			t.Fatalf("answer %d: %v", i, answer)
		}
		for j, list := range manyLists(answer) {
			kept := cloneLists(manyLists(answer))
			spoilList(list)
			for k, other := range manyLists(answer) {
				if k != j && !slices.Equal(other, kept[k]) {
					t.Errorf("answer %d: lists %d and %d share memory", i, j, k)
				}
			}
		}
		// The lists of views are no one list either.
		for j, m := range answer.Mirrors {
			clear(m.Views[:cap(m.Views)])
			for k, other := range answer.Mirrors[j+1:] {
				if len(other.Views) == 0 || other.Views[0] == nil {
					t.Errorf("answer %d: the views of mirrors %d and %d are one list", i, j, j+1+k)
				}
			}
		}
	}
}

// Lists of the arguments may be one memory; those of an answer never are.
func TestNoTwoListsOfAnInputShareMemory(t *testing.T) {
	one := []int64{0, 0, 0, 0}
	lists := [][]int64{one, one, one, one}
	n := impl.Net{Tape: impl.Tape{Lanes: lists}, Used: one, Heard: lists, Cheat: impl.Cheat{Who: 3, At: 2, By: 3, Cry: true}}
	wantListsApart(t, inputAnswers(n, impl.Mirror{Q: 256, Views: lists}, one))
	if !slices.Equal(one, []int64{0, 0, 0, 0}) {
		t.Errorf("an answer shares memory with an argument: %v", one)
	}
}

func TestInputsAnswerTheSameAgain(t *testing.T) {
	m := withPart(likeMirror(256, 1, 2, 3, 4), 2, 0, 50)
	for _, cheat := range []impl.Cheat{honest, {Who: 1, At: 4, By: 9}} {
		n := busyNet(cheat, 2)
		one, many, open := impl.InputMirror(n, 1, 9), impl.InputMany(n, 1, []int64{7, 8}), impl.OpenMirror(m, 3, 0)
		impl.InputMirror(one.Net, 1, 200)
		impl.InputMany(many.Net, 2, filled(60, 9))
		impl.InputMany(impl.Net{}, math.MinInt64, nil)
		impl.OpenMirror(impl.Mirror{}, math.MaxInt64, math.MinInt64)
		// Behind what no two tell, too.
		impl.AgreeInput([]int64{1, 2, 3})
		impl.OpenMirror(m, 3, 9)
		impl.PartFrom(m, 0, 3, 9)
		wantMix(t, "InputMirror again", impl.InputMirror(n, 1, 9), one)
		wantMany(t, "InputMany again", impl.InputMany(n, 1, []int64{7, 8}), many)
		wantOpen(t, "OpenMirror again", impl.OpenMirror(m, 3, 0), open.Values...)
	}
}
