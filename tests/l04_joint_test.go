package tests

import (
	"math"
	"slices"
	"testing"

	"loop.example/g00525/impl"
)

// The signatures of chapter 4.
var (
	_ func(impl.Net) int64                                                    = impl.NetFault
	_ func(impl.Tape, impl.Cheat) impl.NetResult                              = impl.NewNet
	_ func(impl.Net, int64, int64) impl.NetResult                             = impl.TakeWord
	_ func(impl.Net, int64, int64, int64, int64, int64, int64) impl.NetResult = impl.SendJoint
	_ func(impl.Quarrel) impl.PairResult                                      = impl.JudgeQuarrel
	_ func(impl.Quarrel) impl.IntResult                                       = impl.TrustedOf
	_ func(impl.Cheat) int64                                                  = impl.CheatFault
	_                                                                         = impl.Cheat{Who: -1, At: 0, By: 0, Cry: false}
	_                                                                         = impl.Quarrel{Some: true, From: 0, Check: 0, To: 0, Told: 0, Heard: 0, Other: 0, Vowed: 0}
	_                                                                         = impl.NetResult{Code: impl.OK, Value: 0, Net: impl.Net{Tape: impl.Tape{}, Used: []int64{}, Sent: 0, Heard: [][]int64{}, Cheat: impl.Cheat{}, Quarrel: impl.Quarrel{}}}
	_                                                                         = impl.PairResult{Code: impl.OK, First: 0, Second: 0}
)

var (
	noCounts = []int64{math.MinInt64, -99999, -1, 100000, 100001, 200000, 1 << 32, 1<<32 + 1, math.MaxInt64}
	honest   = impl.Cheat{Who: -1}
)

// netOf does not lean on NewNet, which is under test itself.
func netOf(tape impl.Tape, cheat impl.Cheat) impl.Net {
	return impl.Net{Tape: tape, Used: []int64{0, 0, 0, 0}, Heard: [][]int64{nil, nil, nil, nil}, Cheat: cheat}
}

func smallTape() impl.Tape {
	return tapeOf([]int64{21, 71, 200}, []int64{250, 58, 3}, []int64{176, 217, 0}, []int64{196, 109, 255})
}

// busyNet is one in which much was done already.
func busyNet(cheat impl.Cheat, sent int64) impl.Net {
	n := netOf(smallTape(), cheat)
	n.Used = []int64{1, 0, 3, 2}
	n.Sent = sent
	n.Heard = [][]int64{{9}, nil, {0, 255, 7}, {4, 4}}
	return n
}

func cloneLists(lists [][]int64) [][]int64 {
	fresh := make([][]int64, len(lists))
	for i, list := range lists {
		fresh[i] = slices.Clone(list)
	}
	return fresh
}

func cloneNet(n impl.Net) impl.Net {
	n.Tape = cloneTape(n.Tape)
	n.Used = slices.Clone(n.Used)
	n.Heard = cloneLists(n.Heard)
	return n
}

func sameNets(a impl.Net, b impl.Net) bool {
	return slices.EqualFunc(a.Tape.Lanes, b.Tape.Lanes, slices.Equal) && slices.Equal(a.Used, b.Used) && a.Sent == b.Sent &&
		slices.EqualFunc(a.Heard, b.Heard, slices.Equal) && a.Cheat == b.Cheat && a.Quarrel == b.Quarrel
}

func wantNet(t *testing.T, what string, got impl.NetResult, v int64, want impl.Net) {
	t.Helper()
	if got.Code != impl.OK || got.Value != v || !sameNets(got.Net, want) {
		t.Errorf("%s: got %v, want %d, %v", what, got, v, want)
	}
}

func wantNetCode(t *testing.T, what string, got impl.NetResult, want int64) {
	t.Helper()
	if got.Code != want || got.Value != 0 || !sameNets(got.Net, impl.Net{}) {
		t.Errorf("%s: got %v, want code %d and no net", what, got, want)
	}
}

type faultyNet struct {
	what string
	net  impl.Net
	code int64
}

// changed is a busy net with one thing, or several, made wrong.
func changed(what string, code int64, changes ...func(*impl.Net)) faultyNet {
	n := busyNet(honest, 6)
	for _, change := range changes {
		change(&n)
	}
	return faultyNet{what, n, code}
}

// faultyNets are of each fault, and of two faults where the first one is to be told.
func faultyNets() []faultyNet {
	long := func(n *impl.Net) { n.Tape.Lanes[2] = filled(901, 1) }
	word := func(n *impl.Net) { n.Tape.Lanes[3] = []int64{256} }
	lanes := func(n *impl.Net) { n.Tape.Lanes = n.Tape.Lanes[:3] }
	three := func(n *impl.Net) { n.Used = n.Used[:3] }
	five := func(n *impl.Net) { n.Used = append(n.Used, 0) }
	threeHeard := func(n *impl.Net) { n.Heard = n.Heard[:3] }
	fiveHeard := func(n *impl.Net) { n.Heard = append(n.Heard, nil) }
	used := func(n *impl.Net) { n.Used[1] = 100000 }
	sent := func(n *impl.Net) { n.Sent = -1 }
	heard := func(n *impl.Net) { n.Heard[3] = []int64{0, 256} }
	who := func(n *impl.Net) { n.Cheat.Who = 4 }
	quarrel := func(n *impl.Net) { n.Quarrel = impl.Quarrel{Some: true, Check: 1, To: 2} }
	list := []faultyNet{
		{"zero", impl.Net{}, impl.ErrForm},
		changed("three lanes", impl.ErrForm, lanes),
		changed("a long lane", impl.ErrMany, long),
		changed("a wrong word", impl.ErrRange, word),
		changed("a long lane, three Used", impl.ErrMany, long, three),
		changed("a wrong word, three Used", impl.ErrRange, word, three),
		changed("a wrong word, five Heard", impl.ErrRange, word, fiveHeard),
		changed("three lanes, a wrong number Used", impl.ErrForm, lanes, used),
		changed("a long lane, a wrong number sent", impl.ErrMany, long, sent),
		changed("a long lane, a wrong cheat", impl.ErrMany, long, who),
		changed("three Used", impl.ErrForm, three),
		changed("five Used", impl.ErrForm, five),
		changed("no Used", impl.ErrForm, func(n *impl.Net) { n.Used = nil }),
		changed("three Heard", impl.ErrForm, threeHeard),
		changed("five Heard", impl.ErrForm, fiveHeard),
		changed("no Heard", impl.ErrForm, func(n *impl.Net) { n.Heard = nil }),
		changed("three Used, five Heard", impl.ErrForm, three, fiveHeard),
		changed("a wrong number Used, three Heard", impl.ErrForm, used, threeHeard),
		changed("wrong Sent, five Used", impl.ErrForm, sent, five),
		changed("wrong Heard, five Used", impl.ErrForm, heard, five),
		changed("a wrong cheat, three Heard", impl.ErrForm, who, threeHeard),
		changed("a wrong number Used", impl.ErrRange, used),
		changed("wrong Sent", impl.ErrRange, sent),
		changed("wrong Heard", impl.ErrRange, heard),
		changed("a wrong cheat", impl.ErrRange, who),
		changed("wrong At", impl.ErrRange, func(n *impl.Net) { n.Cheat.At = 100000 }),
		changed("wrong By", impl.ErrRange, func(n *impl.Net) { n.Cheat.By = 256 }),
	}
	for _, faulty := range slices.Clone(list[1:]) {
		n := cloneNet(faulty.net)
		quarrel(&n)
		list = append(list, faultyNet{faulty.what + ", and a quarrel", n, faulty.code})
	}
	return list
}

func TestCheatFault(t *testing.T) {
	for _, cry := range []bool{false, true} {
		for _, who := range buts {
			for _, at := range []int64{0, 1, 2, 65536, 99998, 99999} {
				for by := range int64(256) {
					if got := impl.CheatFault(impl.Cheat{Who: who, At: at, By: by, Cry: cry}); got != impl.OK {
						t.Errorf("%d, %d, %d: %d", who, at, by, got)
					}
				}
			}
		}
		var wrong []impl.Cheat
		for _, who := range noButs {
			wrong = append(wrong, impl.Cheat{Who: who, Cry: cry}, impl.Cheat{Who: who, At: 99999, By: 255, Cry: cry})
		}
		for _, at := range noCounts {
			wrong = append(wrong, impl.Cheat{Who: -1, At: at, Cry: cry}, impl.Cheat{Who: 3, At: at, By: 255, Cry: cry})
		}
		for _, by := range noWords {
			wrong = append(wrong, impl.Cheat{Who: -1, By: by, Cry: cry}, impl.Cheat{Who: 0, At: 99999, By: by, Cry: cry})
		}
		for _, c := range append(wrong, impl.Cheat{Who: 4, At: -1, By: 256, Cry: cry}) {
			if got := impl.CheatFault(c); got != impl.ErrRange {
				t.Errorf("%v: %d", c, got)
			}
			if got := impl.NetFault(netOf(smallTape(), c)); got != impl.ErrRange {
				t.Errorf("a net with %v: %d", c, got)
			}
			wantNetCode(t, "NewNet", impl.NewNet(smallTape(), c), impl.ErrRange)
		}
	}
}

func TestNetFaultNone(t *testing.T) {
	full := busyNet(impl.Cheat{Who: 3, At: 99999, By: 255, Cry: true}, 99999)
	full.Tape = tapeOf(filled(900, 0), filled(900, 255), nil, filled(900, 1))
	full.Used = []int64{99999, 99999, 99999, 99999}
	full.Heard = [][]int64{filled(99999, 255), filled(1, 0), nil, filled(5000, 128)}
	empty := netOf(tapeOf(nil, nil, nil, nil), impl.Cheat{})
	empty.Heard = [][]int64{{}, nil, {}, nil}
	good := []impl.Net{full, empty, netOf(smallTape(), honest), busyNet(honest, 0), busyNet(honest, 1)}
	// What stands in a quarrel is no fault of the net.
	for _, z := range []impl.Quarrel{{Some: true}, {Some: true, From: -1, Check: 99, Told: math.MinInt64}, {From: 7, Vowed: math.MaxInt64}} {
		n := busyNet(honest, 6)
		n.Quarrel = z
		good = append(good, n)
	}
	for i, n := range good {
		if got := impl.NetFault(n); got != impl.OK {
			t.Errorf("net %d: %d", i, got)
		}
	}
	for told := range int64(256) {
		n := busyNet(honest, 6)
		n.Heard[1] = []int64{told}
		if got := impl.NetFault(n); got != impl.OK {
			t.Errorf("%d was heard: %d", told, got)
		}
	}
}

func TestNetFaultOrder(t *testing.T) {
	for _, faulty := range faultyNets() {
		if got := impl.NetFault(faulty.net); got != faulty.code {
			t.Errorf("%s: got %d, want %d", faulty.what, got, faulty.code)
		}
	}
	for what, faulty := range faultyTapes() {
		if got := impl.NetFault(impl.Net{Tape: faulty.tape, Cheat: impl.Cheat{Who: 9}}); got != faulty.code {
			t.Errorf("%s: got %d, want %d", what, got, faulty.code)
		}
	}
}

func TestNetFaultEveryPlace(t *testing.T) {
	for _, wrong := range noCounts {
		for lane := range 4 {
			n := busyNet(honest, 6)
			n.Used[lane] = wrong
			if got := impl.NetFault(n); got != impl.ErrRange {
				t.Errorf("%d of lane %d are used: %d", wrong, lane, got)
			}
		}
		if got := impl.NetFault(busyNet(honest, wrong)); got != impl.ErrRange {
			t.Errorf("%d were sent: %d", wrong, got)
		}
	}
	for _, wrong := range noWords {
		for party := range 4 {
			for place := range 3 {
				n := busyNet(honest, 6)
				n.Heard[party] = []int64{1, 2, 3}
				n.Heard[party][place] = wrong
				if got := impl.NetFault(n); got != impl.ErrRange {
					t.Errorf("party %d heard %d: %d", party, wrong, got)
				}
			}
		}
	}
	for many := range 9 {
		n, m := busyNet(honest, 6), busyNet(honest, 6)
		n.Used, m.Heard = make([]int64, many), make([][]int64, many)
		want := int64(impl.ErrForm)
		if many == 4 {
			want = impl.OK
		}
		if a, b := impl.NetFault(n), impl.NetFault(m); a != want || b != want {
			t.Errorf("%d: %d and %d", many, a, b)
		}
	}
}

func TestNewNet(t *testing.T) {
	tapes := []impl.Tape{smallTape(), impl.SeedTape(1, 4).Tape, impl.SeedTape(65535, 900).Tape, tapeOf(nil, []int64{}, []int64{8}, nil)}
	cheats := []impl.Cheat{honest, {}, {Who: 3, At: 99999, By: 255, Cry: true}, {Who: -1, At: 7, By: 1, Cry: true}, {Who: 1, By: 2}}
	for _, tape := range tapes {
		for _, cheat := range cheats {
			got := impl.NewNet(tape, cheat)
			wantNet(t, "NewNet", got, 0, netOf(tape, cheat))
			if fault := impl.NetFault(got.Net); fault != impl.OK {
				t.Errorf("a new net has a fault: %d", fault)
			}
		}
	}
}

func TestNewNetWrong(t *testing.T) {
	for what, faulty := range faultyTapes() {
		for _, cheat := range []impl.Cheat{honest, {Who: 4}, {At: -1}, {By: 256}} {
			wantNetCode(t, what, impl.NewNet(faulty.tape, cheat), faulty.code)
		}
	}
}

func TestWordsAreTakenOneBehindTheOther(t *testing.T) {
	for _, q := range rings {
		for lane := range int64(4) {
			tape := smallTape()
			n := netOf(tape, honest)
			for i := range int64(6) {
				want := int64(0)
				if i < 3 {
					want = tape.Lanes[lane][i] % q
				}
				after := cloneNet(n)
				after.Used[lane] = i + 1
				got := impl.TakeWord(n, lane, q)
				wantNet(t, "TakeWord", got, want, after)
				n = got.Net
			}
		}
	}
}

// Each lane has its own count, whatever is taken between.
func TestWordsOfLanesBetweenOneAnother(t *testing.T) {
	tape := impl.SeedTape(77, 20).Tape
	n := impl.NewNet(tape, impl.Cheat{Who: 2, By: 9, Cry: true}).Net
	var used [4]int64
	for i, lane := range []int64{0, 3, 3, 1, 0, 2, 3, 0, 0, 1, 3, 3} {
		q := rings[i%2]
		got := impl.TakeWord(n, lane, q)
		if got.Code != impl.OK || got.Value != tape.Lanes[lane][used[lane]]%q {
			t.Errorf("step %d: %v", i, got)
		}
		used[lane]++
		if !slices.Equal(got.Net.Used, used[:]) {
			t.Errorf("step %d: %v are used, not %v", i, got.Net.Used, used)
		}
		n = got.Net
	}
	if impl.TakeWord(n, 1, 2).Value != tape.Lanes[1][2]%2 || impl.TakeWord(n, 1, 256).Value != tape.Lanes[1][2] {
		t.Error("q counts for the word alone, not for its place")
	}
}

func TestTakeWordLeavesAllElse(t *testing.T) {
	quarrel := impl.Quarrel{Some: true, From: 1, Check: 2, To: 3, Told: 5, Heard: 6, Other: 5, Vowed: 5}
	for _, z := range []impl.Quarrel{{}, quarrel, {Some: true}} {
		n := busyNet(impl.Cheat{Who: 2, At: 3, By: 4, Cry: true}, 6)
		n.Quarrel = z
		for lane, want := range []int64{71, 250, 0, 255} {
			for _, q := range rings {
				after := cloneNet(n)
				after.Used[lane]++
				wantNet(t, "TakeWord", impl.TakeWord(n, int64(lane), q), want%q, after)
			}
		}
	}
}

func TestTakeWordBehindTheEnd(t *testing.T) {
	for _, tape := range []impl.Tape{smallTape(), tapeOf(nil, nil, nil, nil), impl.SeedTape(3, 900).Tape} {
		for _, used := range []int64{900, 901, 65536, 99998, 99999} {
			for lane := range int64(4) {
				n := netOf(tape, honest)
				n.Used[lane] = used
				after := cloneNet(n)
				after.Used[lane] = used + 1
				wantNet(t, "TakeWord", impl.TakeWord(n, lane, 256), 0, after)
			}
		}
	}
	n := netOf(impl.SeedTape(3, 900).Tape, honest)
	n.Used[2] = 899
	if got := impl.TakeWord(n, 2, 256); got.Value != n.Tape.Lanes[2][899] || got.Net.Used[2] != 900 {
		t.Errorf("the last one of a full lane: %d", got.Value)
	}
	// What stands in memory behind a lane's end is no word of it.
	under := []int64{1, 2, 3, 4}
	n = netOf(tapeOf(under[:2], nil, nil, nil), honest)
	n.Used[0] = 2
	if got := impl.TakeWord(n, 0, 256); got.Value != 0 {
		t.Errorf("a piece: %d", got.Value)
	}
	// What can't be counted any more is a fault of the next call.
	n.Used[0] = 99999
	wantNetCode(t, "more than are counted", impl.TakeWord(impl.TakeWord(n, 0, 256).Net, 0, 256), impl.ErrRange)
}

func TestTakeWordWrong(t *testing.T) {
	n := busyNet(honest, 6)
	for _, lane := range noParties {
		for _, q := range []int64{2, 256, 0, 3} {
			wantNetCode(t, "no lane", impl.TakeWord(n, lane, q), impl.ErrRange)
		}
	}
	for _, q := range noRings {
		for lane := range int64(4) {
			wantNetCode(t, "no ring", impl.TakeWord(n, lane, q), impl.ErrRange)
		}
	}
	for _, faulty := range faultyNets() {
		for _, lane := range []int64{0, 3, 4, -1} {
			for _, q := range []int64{2, 256, 3} {
				wantNetCode(t, faulty.what, impl.TakeWord(faulty.net, lane, q), faulty.code)
			}
		}
	}
}

// triples are all orders of three parties.
func triples() [][3]int64 {
	var list [][3]int64
	for from := range int64(4) {
		for check := range int64(4) {
			for to := range int64(4) {
				if from != check && from != to && check != to {
					list = append(list, [3]int64{from, check, to})
				}
			}
		}
	}
	return list
}

// afterJoint is the net behind two messages, where these were told.
func afterJoint(n impl.Net, to int64, told int64, vowed int64) impl.Net {
	after := cloneNet(n)
	after.Sent += 2
	after.Heard[to] = append(after.Heard[to], told, vowed)
	return after
}

func someElements(q int64) []int64 {
	if q == 2 {
		return []int64{0, 1}
	}
	return []int64{0, 1, 7, 127, 128, 251, 254, 255}
}

func TestTwoTellAlike(t *testing.T) {
	cheats := []impl.Cheat{honest, {Who: -1, At: 6, By: 255, Cry: true}, {Who: -1, By: 1}}
	for _, q := range rings {
		for _, p := range triples() {
			for _, cheat := range cheats {
				for a := range q {
					for _, n := range []impl.Net{netOf(smallTape(), cheat), busyNet(cheat, 6), busyNet(cheat, 5)} {
						wantNet(t, "SendJoint", impl.SendJoint(n, q, p[0], p[1], p[2], a, a), a, afterJoint(n, p[2], a, a))
					}
				}
			}
		}
	}
}

// Two who tell two things are told apart, though none of them is the one who cheats.
func TestTwoTellTwoThings(t *testing.T) {
	for _, q := range rings {
		for _, p := range triples() {
			for _, a := range someElements(q) {
				for _, b := range someElements(q) {
					if a == b {
						continue
					}
					n := busyNet(honest, 6)
					after := afterJoint(n, p[2], a, b)
					after.Quarrel = impl.Quarrel{Some: true, From: p[0], Check: p[1], To: p[2], Told: a, Heard: a, Other: b, Vowed: b}
					got := impl.SendJoint(n, q, p[0], p[1], p[2], a, b)
					wantNet(t, "SendJoint", got, a, after)
					wantPair(t, "From and Check", impl.JudgeQuarrel(got.Net.Quarrel), p[0], p[1])
				}
			}
		}
	}
}

// Messages are numbered: the first is from's, of number Sent, the second is check's.
func TestOneWhoTellsCheats(t *testing.T) {
	for _, q := range rings {
		for _, p := range triples() {
			for _, cry := range []bool{false, true} {
				first := busyNet(impl.Cheat{Who: p[0], At: 6, By: 1, Cry: cry}, 6)
				z := impl.Quarrel{Some: true, From: p[0], Check: p[1], To: p[2], Told: 0, Heard: 1, Other: 0, Vowed: 0}
				if cry {
					z.Told = 1
				}
				after := afterJoint(first, p[2], 1, 0)
				after.Quarrel = z
				wantNet(t, "from cheats", impl.SendJoint(first, q, p[0], p[1], p[2], 0, 0), 1, after)

				second := busyNet(impl.Cheat{Who: p[1], At: 7, By: 1, Cry: cry}, 6)
				z = impl.Quarrel{Some: true, From: p[0], Check: p[1], To: p[2], Told: 0, Heard: 0, Other: 1, Vowed: 0}
				if cry {
					z.Vowed = 1
				}
				after = afterJoint(second, p[2], 0, 1)
				after.Quarrel = z
				wantNet(t, "check cheats", impl.SendJoint(second, q, p[0], p[1], p[2], 0, 0), 0, after)
			}
		}
	}
}

func TestOneWhoTellsCheatsAtAnotherMessage(t *testing.T) {
	for _, q := range rings {
		for _, p := range triples() {
			for _, cry := range []bool{false, true} {
				for _, at := range []int64{0, 5, 7, 8, 99999} {
					n := busyNet(impl.Cheat{Who: p[0], At: at, By: 255, Cry: cry}, 6)
					wantNet(t, "from", impl.SendJoint(n, q, p[0], p[1], p[2], 1, 1), 1, afterJoint(n, p[2], 1, 1))
				}
				for _, at := range []int64{0, 5, 6, 8, 99999} {
					n := busyNet(impl.Cheat{Who: p[1], At: at, By: 255, Cry: cry}, 6)
					wantNet(t, "check", impl.SendJoint(n, q, p[0], p[1], p[2], 1, 1), 1, afterJoint(n, p[2], 1, 1))
				}
			}
		}
	}
}

// By 0, and what is even by q 2, is told as if nobody cheated.
func TestMessagesThatTurnNothing(t *testing.T) {
	for _, p := range triples() {
		for _, cry := range []bool{false, true} {
			for at := range int64(2) {
				who := p[at]
				for by := range int64(256) {
					n := netOf(smallTape(), impl.Cheat{Who: who, At: at, By: by, Cry: cry})
					got := impl.SendJoint(n, 2, p[0], p[1], p[2], 1, 1)
					if by%2 == 0 {
						wantNet(t, "an even By", got, 1, afterJoint(n, p[2], 1, 1))
					} else if !got.Net.Quarrel.Some || got.Net.Heard[p[2]][at] != 0 {
						t.Errorf("By %d: %v", by, got)
					}
				}
				n := netOf(smallTape(), impl.Cheat{Who: who, At: at, Cry: cry})
				wantNet(t, "By 0", impl.SendJoint(n, 256, p[0], p[1], p[2], 9, 9), 9, afterJoint(n, p[2], 9, 9))
			}
		}
	}
}

// What was told is of q: it goes round.
func TestWhatIsToldGoesRound(t *testing.T) {
	for a := range int64(256) {
		for _, by := range []int64{1, 5, 128, 254, 255} {
			n := netOf(smallTape(), impl.Cheat{Who: 0, By: by})
			got := impl.SendJoint(n, 256, 0, 1, 3, a, a)
			if want := (a + by) % 256; got.Value != want || got.Net.Quarrel.Heard != want || got.Net.Quarrel.Told != a || !slices.Equal(got.Net.Heard[3], []int64{want, a}) {
				t.Errorf("%d by %d: %v", a, by, got)
			}
			n.Cheat = impl.Cheat{Who: 3, By: by, Cry: true}
			got = impl.SendJoint(n, 256, 0, 1, 3, a, a)
			if want := (a + by) % 256; got.Value != a || got.Net.Quarrel.Heard != want || got.Net.Quarrel.Other != a || !slices.Equal(got.Net.Heard[3], []int64{a, a}) {
				t.Errorf("%d by %d: %v", a, by, got)
			}
		}
	}
}

// From At on it cries out; what it heard stays what it was told, whatever it says of it.
func TestOneWhoComparesCriesOut(t *testing.T) {
	for _, q := range rings {
		for _, p := range triples() {
			for _, by := range []int64{0, 1, 2, 254, 255} {
				for _, sent := range []int64{0, 1, 6, 99998, 99999} {
					for _, at := range []int64{0, 1, 2, 5, 6, 7, 8, 99997, 99998, 99999} {
						n := busyNet(impl.Cheat{Who: p[2], At: at, By: by, Cry: true}, sent)
						after := afterJoint(n, p[2], 1, 1)
						if sent >= at {
							after.Quarrel = impl.Quarrel{Some: true, From: p[0], Check: p[1], To: p[2], Told: 1, Heard: (1 + by) % q, Other: 1, Vowed: 1}
						}
						got := impl.SendJoint(n, q, p[0], p[1], p[2], 1, 1)
						wantNet(t, "SendJoint", got, 1, after)
						if sent >= at {
							wantPair(t, "To and From", impl.JudgeQuarrel(got.Net.Quarrel), p[2], p[0])
						}
						n.Cheat.Cry = false
						wantNet(t, "without Cry", impl.SendJoint(n, q, p[0], p[1], p[2], 1, 1), 1, afterJoint(n, p[2], 1, 1))
					}
				}
			}
		}
	}
}

// Where two tell two things to one who cheats, it tells of it in its own way, with Cry or not, at any message.
func TestOneWhoComparesCheatsInAQuarrelOfOthers(t *testing.T) {
	for _, q := range rings {
		for _, p := range triples() {
			for _, cry := range []bool{false, true} {
				for _, at := range []int64{0, 6, 7, 99999} {
					for _, by := range []int64{0, 1, 2, 255} {
						n := busyNet(impl.Cheat{Who: p[2], At: at, By: by, Cry: cry}, 6)
						after := afterJoint(n, p[2], 1, 0)
						after.Quarrel = impl.Quarrel{Some: true, From: p[0], Check: p[1], To: p[2], Told: 1, Heard: (1 + by) % q, Other: 0, Vowed: 0}
						wantNet(t, "SendJoint", impl.SendJoint(n, q, p[0], p[1], p[2], 1, 0), 1, after)
					}
				}
			}
		}
	}
}

// Two things may become the same on the way: then there is nothing to quarrel about.
func TestTwoThingsThatAreToldAlike(t *testing.T) {
	for _, cry := range []bool{false, true} {
		n := busyNet(impl.Cheat{Who: 1, At: 6, By: 5, Cry: cry}, 6)
		wantNet(t, "from", impl.SendJoint(n, 256, 1, 0, 2, 7, 12), 12, afterJoint(n, 2, 12, 12))
		n = busyNet(impl.Cheat{Who: 0, At: 7, By: 251, Cry: cry}, 6)
		wantNet(t, "check", impl.SendJoint(n, 256, 1, 0, 2, 7, 12), 7, afterJoint(n, 2, 7, 7))
		n = busyNet(impl.Cheat{Who: 0, At: 7, By: 1, Cry: cry}, 6)
		wantNet(t, "check by 2", impl.SendJoint(n, 2, 1, 0, 2, 1, 0), 1, afterJoint(n, 2, 1, 1))
	}
}

// One who stands by it tells of what it told, not of what it had to tell, though others differ as well.
func TestWhoStandsByWhatItTold(t *testing.T) {
	for _, cry := range []bool{false, true} {
		n := netOf(smallTape(), impl.Cheat{Who: 2, By: 5, Cry: cry})
		want := impl.Quarrel{Some: true, From: 2, Check: 3, To: 0, Told: 7, Heard: 12, Other: 8, Vowed: 8}
		if cry {
			want.Told = 12
		}
		if got := impl.SendJoint(n, 256, 2, 3, 0, 7, 8); got.Net.Quarrel != want {
			t.Errorf("from: got %v, want %v", got.Net.Quarrel, want)
		}
		n.Cheat.At = 1
		want = impl.Quarrel{Some: true, From: 3, Check: 2, To: 0, Told: 7, Heard: 7, Other: 13, Vowed: 8}
		if cry {
			want.Vowed = 13
		}
		if got := impl.SendJoint(n, 256, 3, 2, 0, 7, 8); got.Net.Quarrel != want {
			t.Errorf("check: got %v, want %v", got.Net.Quarrel, want)
		}
		// At a message that is past it told what it had to tell.
		n.Sent = 2
		want = impl.Quarrel{Some: true, From: 3, Check: 2, To: 0, Told: 7, Heard: 7, Other: 8, Vowed: 8}
		if got := impl.SendJoint(n, 256, 3, 2, 0, 7, 8); got.Net.Quarrel != want {
			t.Errorf("past: got %v, want %v", got.Net.Quarrel, want)
		}
	}
}

// The party that has no part in it changes nothing, whatever it would do.
func TestTheFourthOneCheats(t *testing.T) {
	for _, q := range rings {
		for _, p := range triples() {
			fourth := 6 - p[0] - p[1] - p[2]
			for _, at := range []int64{0, 5, 6, 7, 8} {
				n := busyNet(impl.Cheat{Who: fourth, At: at, By: 255, Cry: true}, 6)
				wantNet(t, "SendJoint", impl.SendJoint(n, q, p[0], p[1], p[2], 1, 1), 1, afterJoint(n, p[2], 1, 1))
			}
		}
	}
}

// Where two have to tell the same: it is heard, or who cheats is told apart and not trusted.
func wantPromise(t *testing.T, n impl.Net, q int64, p [3]int64, a int64) {
	t.Helper()
	got := impl.SendJoint(n, q, p[0], p[1], p[2], a, a)
	z, who := got.Net.Quarrel, n.Cheat.Who
	heard := got.Net.Heard[p[2]]
	two := heard[len(heard)-2:]
	if got.Code != impl.OK || got.Value != two[0] || z.Some != (two[0] != two[1] || n.Cheat.Cry && who == p[2] && n.Sent >= n.Cheat.At) {
		t.Fatalf("%v, %d, %v, %d: %v", n, q, p, a, got)
	}
	if !z.Some {
		if z != (impl.Quarrel{}) || got.Value != a || two[1] != a {
			t.Errorf("%v, %d, %v, %d: no quarrel, but %v", n, q, p, a, got)
		}
		return
	}
	apart, trusted := impl.JudgeQuarrel(z), impl.TrustedOf(z)
	if apart.Code != impl.OK || apart.First >= apart.Second || who != apart.First && who != apart.Second {
		t.Errorf("%v: %d cheats, %v is told apart", z, who, apart)
	}
	if trusted.Code != impl.OK || trusted.Value < 0 || trusted.Value > 3 || trusted.Value == apart.First || trusted.Value == apart.Second || trusted.Value == who {
		t.Errorf("%v: %d cheats, %v is trusted", z, who, trusted)
	}
}

func TestWhoCheatsIsToldApart(t *testing.T) {
	for _, q := range rings {
		for _, p := range triples() {
			for _, who := range buts {
				for _, cry := range []bool{false, true} {
					for _, at := range []int64{0, 5, 6, 7, 8, 99999} {
						for _, by := range []int64{0, 1, 2, 128, 254, 255} {
							for _, a := range someElements(q) {
								wantPromise(t, busyNet(impl.Cheat{Who: who, At: at, By: by, Cry: cry}, 6), q, p, a)
							}
						}
					}
				}
			}
		}
	}
}

// Messages go on being numbered from call to call, and stand behind one another in what is heard.
func TestMessagesOneBehindTheOther(t *testing.T) {
	n := impl.NewNet(smallTape(), impl.Cheat{Who: 1, At: 5, By: 10}).Net
	n = impl.SendJoint(n, 256, 1, 0, 3, 11, 11).Net
	n = impl.SendJoint(n, 2, 2, 1, 3, 1, 1).Net
	n = impl.SendJoint(n, 256, 0, 1, 3, 33, 33).Net
	want := netOf(smallTape(), impl.Cheat{Who: 1, At: 5, By: 10})
	want.Sent = 6
	want.Heard[3] = []int64{11, 11, 1, 1, 33, 43}
	want.Quarrel = impl.Quarrel{Some: true, From: 0, Check: 1, To: 3, Told: 33, Heard: 33, Other: 43, Vowed: 33}
	wantNet(t, "three calls", impl.NetResult{Net: n}, 0, want)
	wantNetCode(t, "a fourth one", impl.SendJoint(n, 256, 0, 1, 3, 33, 33), impl.ErrState)
}

func TestTheLastMessagesThatAreCounted(t *testing.T) {
	for _, sent := range []int64{99997, 99998, 99999} {
		for _, who := range []int64{0, 1} {
			n := busyNet(impl.Cheat{Who: who, At: 99999, By: 3}, sent)
			after := afterJoint(n, 2, 7, 7)
			if who == 0 && sent == 99999 {
				after = afterJoint(n, 2, 10, 7)
				after.Quarrel = impl.Quarrel{Some: true, From: 0, Check: 1, To: 2, Told: 7, Heard: 10, Other: 7, Vowed: 7}
			}
			if who == 1 && sent == 99998 {
				after = afterJoint(n, 2, 7, 10)
				after.Quarrel = impl.Quarrel{Some: true, From: 0, Check: 1, To: 2, Told: 7, Heard: 7, Other: 10, Vowed: 7}
			}
			wantNet(t, "SendJoint", impl.SendJoint(n, 256, 0, 1, 2, 7, 7), after.Heard[2][3], after)
		}
	}
	// What can't be counted any more is a fault of the next call.
	n := impl.SendJoint(busyNet(honest, 99999), 256, 0, 1, 2, 7, 7).Net
	if n.Sent != 100001 {
		t.Errorf("%d were sent", n.Sent)
	}
	wantNetCode(t, "more than are counted", impl.SendJoint(n, 256, 0, 1, 2, 7, 7), impl.ErrRange)
}

func TestSendJointOutOfBounds(t *testing.T) {
	n := busyNet(impl.Cheat{Who: 2, At: 6, By: 5, Cry: true}, 6)
	for _, q := range noRings {
		for _, a := range []int64{0, 1, 2, 255, -1} {
			wantNetCode(t, "no ring", impl.SendJoint(n, q, 0, 1, 2, a, a), impl.ErrRange)
		}
	}
	for _, q := range rings {
		for _, p := range noParties {
			wantNetCode(t, "from", impl.SendJoint(n, q, p, 1, 2, 1, 1), impl.ErrRange)
			wantNetCode(t, "check", impl.SendJoint(n, q, 0, p, 2, 1, 1), impl.ErrRange)
			wantNetCode(t, "to", impl.SendJoint(n, q, 0, 1, p, 1, 1), impl.ErrRange)
			wantNetCode(t, "all", impl.SendJoint(n, q, p, p, p, 1, 1), impl.ErrRange)
		}
		for p := range int64(4) {
			for other := range int64(4) {
				wantNetCode(t, "from is check", impl.SendJoint(n, q, p, p, other, 1, 1), impl.ErrRange)
				wantNetCode(t, "from is to", impl.SendJoint(n, q, p, other, p, 1, 1), impl.ErrRange)
				wantNetCode(t, "check is to", impl.SendJoint(n, q, other, p, p, 1, 1), impl.ErrRange)
			}
		}
		for _, v := range noElements(q) {
			wantNetCode(t, "a", impl.SendJoint(n, q, 0, 1, 2, v, 1), impl.ErrRange)
			wantNetCode(t, "b", impl.SendJoint(n, q, 0, 1, 2, 1, v), impl.ErrRange)
			wantNetCode(t, "both", impl.SendJoint(n, q, 0, 1, 2, v, v), impl.ErrRange)
		}
	}
}

// The net's fault comes ahead of a quarrel, and that ahead of what leaves its bounds.
func TestSendJointOrder(t *testing.T) {
	calls := [][6]int64{{256, 0, 1, 2, 7, 7}, {2, 3, 2, 1, 1, 0}, {3, 0, 1, 2, 0, 0}, {256, 0, 0, 2, 7, 7}, {256, 0, 1, 4, 7, 7}, {256, -1, 1, 2, 7, 7}, {2, 0, 1, 2, 2, 0}, {256, 0, 1, 2, 0, 256}}
	for _, c := range calls {
		for _, faulty := range faultyNets() {
			wantNetCode(t, faulty.what, impl.SendJoint(faulty.net, c[0], c[1], c[2], c[3], c[4], c[5]), faulty.code)
		}
		for _, z := range []impl.Quarrel{{Some: true}, {Some: true, Check: 1, To: 2, Heard: 9}, {Some: true, From: -5}} {
			n := busyNet(honest, 6)
			n.Quarrel = z
			wantNetCode(t, "a quarrel", impl.SendJoint(n, c[0], c[1], c[2], c[3], c[4], c[5]), impl.ErrState)
		}
	}
}

// wantPair takes the two in any order.
func wantPair(t *testing.T, what string, got impl.PairResult, a int64, b int64) {
	t.Helper()
	if want := (impl.PairResult{First: min(a, b), Second: max(a, b)}); got != want {
		t.Errorf("%s: got %v, want %v", what, got, want)
	}
}

func TestJudgeQuarrel(t *testing.T) {
	for _, p := range triples() {
		from, check, to := p[0], p[1], p[2]
		// Told, Heard, Other, Vowed, and the two of whom one lies.
		cases := [][6]int64{
			{5, 5, 5, 5, to, from},
			{0, 0, 0, 0, to, from},
			{5, 6, 5, 5, to, from},
			{5, 6, 6, 5, to, from},
			{5, 6, 6, 6, to, from},
			{5, 6, 7, 8, to, from},
			{0, 256, 0, 0, to, from},
			{math.MinInt64, math.MaxInt64, 0, 0, to, from},
			{5, 5, 6, 5, to, check},
			{5, 5, 5, 6, to, check},
			{5, 5, 6, 7, to, check},
			{5, 5, 0, 1 << 32, to, check},
			{5, 5, 6, 6, from, check},
			{6, 6, 5, 5, from, check},
			{0, 0, 256, 256, from, check},
			{math.MaxInt64, math.MaxInt64, math.MinInt64, math.MinInt64, from, check},
		}
		for _, c := range cases {
			z := impl.Quarrel{Some: true, From: from, Check: check, To: to, Told: c[0], Heard: c[1], Other: c[2], Vowed: c[3]}
			wantPair(t, "JudgeQuarrel", impl.JudgeQuarrel(z), c[4], c[5])
			trusted := int64(0)
			for trusted == c[4] || trusted == c[5] {
				trusted++
			}
			wantInt(t, "TrustedOf", impl.TrustedOf(z), value(trusted))
		}
	}
}

// Of every pair that can be told apart, the lowest of the two others.
func TestTrustedOf(t *testing.T) {
	for _, c := range [][4]int64{{0, 1, 3, 2}, {0, 2, 3, 1}, {0, 3, 1, 1}, {1, 2, 3, 0}, {1, 3, 0, 0}, {2, 3, 0, 0}} {
		for _, two := range [][2]int64{{c[0], c[1]}, {c[1], c[0]}} {
			z := impl.Quarrel{Some: true, From: two[0], Check: c[2], To: two[1], Told: 1}
			wantPair(t, "JudgeQuarrel", impl.JudgeQuarrel(z), c[0], c[1])
			wantInt(t, "TrustedOf", impl.TrustedOf(z), value(c[3]))
		}
	}
}

func wantNoJudge(t *testing.T, z impl.Quarrel, want int64) {
	t.Helper()
	if got := impl.JudgeQuarrel(z); got != (impl.PairResult{Code: want}) {
		t.Errorf("%v: got %v, want code %d", z, got, want)
	}
	wantInt(t, "TrustedOf", impl.TrustedOf(z), code(want))
}

func TestNoQuarrelToJudge(t *testing.T) {
	wantNoJudge(t, impl.Quarrel{}, impl.ErrNone)
	// Some tells whether there is one, whatever else stands there.
	wantNoJudge(t, impl.Quarrel{From: 0, Check: 1, To: 2, Told: 1}, impl.ErrNone)
	wantNoJudge(t, impl.Quarrel{From: 9, Check: 9, To: -9}, impl.ErrNone)
	n := busyNet(honest, 6)
	n.Quarrel = impl.Quarrel{From: 1}
	if got := impl.SendJoint(n, 256, 0, 1, 2, 7, 7); got.Code != impl.OK || got.Value != 7 {
		t.Errorf("no quarrel is there: %v", got)
	}
}

func TestQuarrelOfWrongParties(t *testing.T) {
	for _, told := range []int64{0, 1} {
		for _, p := range noParties {
			wantNoJudge(t, impl.Quarrel{Some: true, From: p, Check: 1, To: 2, Told: told}, impl.ErrRange)
			wantNoJudge(t, impl.Quarrel{Some: true, From: 0, Check: p, To: 2, Told: told}, impl.ErrRange)
			wantNoJudge(t, impl.Quarrel{Some: true, From: 0, Check: 1, To: p, Told: told}, impl.ErrRange)
		}
		for p := range int64(4) {
			for other := range int64(4) {
				wantNoJudge(t, impl.Quarrel{Some: true, From: p, Check: p, To: other, Told: told}, impl.ErrRange)
				wantNoJudge(t, impl.Quarrel{Some: true, From: p, Check: other, To: p, Told: told}, impl.ErrRange)
				wantNoJudge(t, impl.Quarrel{Some: true, From: other, Check: p, To: p, Told: told}, impl.ErrRange)
			}
		}
	}
}

// laidNet has all its lists behind one another in one memory, with something behind the last one.
func laidNet(under []int64) impl.Net {
	return impl.Net{
		Tape:  tapeOf(under[0:2], under[2:4], under[4:6], under[6:8]),
		Used:  under[8:12],
		Sent:  6,
		Heard: [][]int64{under[12:14], under[14:16], under[16:18], under[18:20]},
		Cheat: impl.Cheat{Who: 1, At: 6, By: 3, Cry: true},
	}
}

func TestNetsChangeNoArgument(t *testing.T) {
	kept := []int64{1, 2, 3, 4, 5, 6, 7, 8, 0, 1, 2, 3, 20, 21, 22, 23, 24, 25, 26, 27, 42, 43, 44, 45}
	under := slices.Clone(kept)
	n := laidNet(under)
	before := cloneNet(n)
	for _, q := range []int64{0, 2, 256} {
		for _, p := range buts {
			impl.NetFault(n)
			impl.NewNet(n.Tape, n.Cheat)
			impl.TakeWord(n, p, q)
			for _, c := range triples() {
				impl.SendJoint(n, q, c[0], c[1], c[2], 1, 1)
				impl.SendJoint(n, q, c[0], p, c[2], 1, 0)
			}
		}
	}
	if !slices.Equal(under, kept) || !sameNets(n, before) {
		t.Errorf("an argument was changed: %v", under)
	}
	for i, list := range netLists(n) {
		if from := []int{0, 2, 4, 6, 8, 12, 14, 16, 18}[i]; &list[0] != &under[from] {
			t.Errorf("list %d of an argument was changed: %v", i, list)
		}
	}
}

// netLists are all lists of numbers that a net holds.
func netLists(n impl.Net) [][]int64 {
	return slices.Concat(n.Tape.Lanes, [][]int64{n.Used}, n.Heard)
}

// spoilList writes over a list, and behind its end, as far as its memory goes.
func spoilList(list []int64) {
	list = list[:cap(list)]
	for place := range list {
		list[place] = -9
	}
}

func spoilNet(n impl.Net) {
	for _, list := range netLists(n) {
		spoilList(list)
	}
	for _, lists := range [][][]int64{n.Tape.Lanes, n.Heard} {
		lists = lists[:cap(lists)]
		for i := range lists {
			lists[i] = nil
		}
	}
}

// netAnswers are answers of all functions of the chapter that make a net, with a quarrel and without one.
func netAnswers(n impl.Net) []impl.NetResult {
	return []impl.NetResult{
		impl.NewNet(n.Tape, n.Cheat),
		impl.TakeWord(n, 0, 256), impl.TakeWord(n, 3, 2),
		impl.SendJoint(n, 256, 0, 2, 3, 7, 7), impl.SendJoint(n, 2, 2, 3, 0, 1, 1),
		impl.SendJoint(n, 256, 1, 2, 3, 7, 7), impl.SendJoint(n, 256, 0, 2, 1, 7, 7), impl.SendJoint(n, 256, 0, 2, 3, 7, 8),
	}
}

func TestNetAnswersAreNewMemory(t *testing.T) {
	kept := []int64{1, 2, 3, 4, 5, 6, 7, 8, 0, 1, 2, 3, 20, 21, 22, 23, 24, 25, 26, 27, 42, 43, 44, 45}
	under := slices.Clone(kept)
	n := laidNet(under)
	first, second := netAnswers(n), netAnswers(n)
	var want []impl.Net
	for _, answer := range second {
		want = append(want, cloneNet(answer.Net))
	}
	for _, answer := range first {
		spoilNet(answer.Net)
	}
	if !slices.Equal(under, kept) || !sameNets(n, laidNet(kept)) {
		t.Fatalf("an answer shares memory with the argument: %v", n)
	}
	for i, later := range netAnswers(n) {
		wantNet(t, "a later answer", later, second[i].Value, want[i])
	}
	spoilNet(n)
	for i, answer := range second {
		wantNet(t, "when others and the argument are written over", answer, answer.Value, want[i])
	}
}

// Lists of one argument may be one memory; those of an answer never are.
func TestNoTwoListsOfANetShareMemory(t *testing.T) {
	one := []int64{1, 2, 3, 4}
	lists := [][]int64{one, one, one, one}
	n := impl.Net{Tape: impl.Tape{Lanes: lists}, Used: one, Sent: 6, Heard: lists, Cheat: impl.Cheat{Who: 1, At: 6, By: 3, Cry: true}}
	for i, answer := range netAnswers(n) {
		if answer.Code != impl.OK {
			t.Fatalf("answer %d: %v", i, answer)
		}
		for j, list := range netLists(answer.Net) {
			kept := cloneLists(netLists(answer.Net))
			spoilList(list)
			for k, other := range netLists(answer.Net) {
				if k != j && !slices.Equal(other, kept[k]) {
					t.Errorf("answer %d: lists %d and %d share memory", i, j, k)
				}
			}
		}
		lanes := answer.Net.Tape.Lanes
		heard := cloneLists(answer.Net.Heard)
		clear(lanes[:cap(lanes)])
		if !slices.EqualFunc(answer.Net.Heard, heard, slices.Equal) {
			t.Errorf("answer %d: lanes and what was heard are one list", i)
		}
	}
	if !slices.Equal(one, []int64{1, 2, 3, 4}) {
		t.Errorf("an answer shares memory with the argument: %v", one)
	}
}

// What is told behind one net is not heard in another one that began the same.
func TestTwoNetsOutOfOne(t *testing.T) {
	n := impl.SendJoint(netOf(smallTape(), honest), 256, 0, 1, 3, 5, 5).Net
	n = impl.SendJoint(n, 256, 0, 1, 3, 6, 6).Net
	one := impl.SendJoint(n, 256, 0, 1, 3, 7, 7).Net
	other := impl.SendJoint(n, 256, 0, 1, 3, 8, 8).Net
	if !slices.Equal(one.Heard[3], []int64{5, 5, 6, 6, 7, 7}) || !slices.Equal(other.Heard[3], []int64{5, 5, 6, 6, 8, 8}) || len(n.Heard[3]) != 4 {
		t.Errorf("%v and %v", one.Heard, other.Heard)
	}
	a, b := impl.TakeWord(n, 2, 256), impl.TakeWord(n, 2, 256)
	if a.Value != b.Value || a.Net.Used[2] != 1 || b.Net.Used[2] != 1 || n.Used[2] != 0 {
		t.Errorf("%v and %v", a, b)
	}
}

func TestNetsAnswerTheSameAgain(t *testing.T) {
	n := busyNet(impl.Cheat{Who: 0, At: 6, By: 9}, 6)
	word, joint := impl.TakeWord(n, 3, 256), impl.SendJoint(n, 256, 0, 1, 2, 7, 7)
	impl.TakeWord(word.Net, 3, 256)
	impl.SendJoint(joint.Net, 256, 0, 1, 2, 7, 7)
	impl.SendJoint(busyNet(honest, 50), 2, 3, 2, 1, 0, 1)
	impl.NewNet(impl.Tape{}, honest)
	impl.TakeWord(impl.Net{}, 9, 9)
	wantNet(t, "TakeWord again", impl.TakeWord(n, 3, 256), word.Value, word.Net)
	wantNet(t, "SendJoint again", impl.SendJoint(n, 256, 0, 1, 2, 7, 7), joint.Value, joint.Net)
}
