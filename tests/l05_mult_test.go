package tests

import (
	"math"
	"slices"
	"testing"

	"loop.example/g00525/impl"
)

// The signatures of chapter 5.
var (
	_ func(int64, []int64, []int64, int64, int64) impl.IntResult  = impl.CrossOf
	_ func(impl.Net, []impl.Mirror, []impl.Mirror) impl.MixResult = impl.DotMirrors
	_ func(impl.Net, impl.Mirror, impl.Mirror) impl.MixResult     = impl.MultMirrors
	_ func(int64, int64) impl.PairResult                          = impl.OthersOf
	_ func(impl.Net, impl.Mirror, impl.Mirror) impl.MixResult     = impl.XorBits
	_                                                             = impl.MixResult{Code: impl.OK, Mirror: impl.Mirror{}, Net: impl.Net{}}
	_ [impl.MaxTerms - 6]struct{}                                 = [0]struct{}{}
	_ [impl.SentOfDot - 12]struct{}                               = [0]struct{}{}
)

// sixPairs are i, j, and the two others, in the order in which pairs are gone through.
var sixPairs = [][4]int64{{0, 1, 2, 3}, {0, 2, 1, 3}, {0, 3, 1, 2}, {1, 2, 0, 3}, {1, 3, 0, 2}, {2, 3, 0, 1}}

func wantMix(t *testing.T, what string, got impl.MixResult, want impl.MixResult) {
	t.Helper()
	if got.Code != impl.OK || got.Mirror.Q != want.Mirror.Q || !slices.EqualFunc(got.Mirror.Views, want.Mirror.Views, slices.Equal) || !sameNets(got.Net, want.Net) {
		t.Errorf("%s: got %v, want %v", what, got, want)
	}
}

func wantMixCode(t *testing.T, what string, got impl.MixResult, want int64) {
	t.Helper()
	if got.Code != want || got.Mirror.Q != 0 || len(got.Mirror.Views) != 0 || !sameNets(got.Net, impl.Net{}) {
		t.Errorf("%s: got %v, want code %d and nothing else", what, got, want)
	}
}

func mod(q int64, v int64) int64 {
	return (v%q + q) % q
}

// dotByHand goes by the words of the chapter, on plain numbers, with one call for each word and each message.
func dotByHand(n impl.Net, xs []impl.Mirror, ys []impl.Mirror) impl.MixResult {
	q := xs[0].Q
	m := likeMirror(q, 0, 0, 0, 0)
	put := func(party int64, part int64, more int64) {
		m.Views[party][part] = mod(q, m.Views[party][part]+more)
	}
	for term, x := range xs {
		for party := range int64(4) {
			for part := range int64(4) {
				if part != party {
					put(party, part, x.Views[party][part]*ys[term].Views[party][part])
				}
			}
		}
	}
	for _, p := range sixPairs {
		i, j, k, l := p[0], p[1], p[2], p[3]
		word := impl.TakeWord(n, j, q)
		reckoned := func(party int64) int64 {
			sum := -word.Value
			for term := range xs {
				x, y := xs[term].Views[party], ys[term].Views[party]
				sum += x[i]*y[j] + x[j]*y[i]
			}
			return mod(q, sum)
		}
		joint := impl.SendJoint(word.Net, q, k, l, j, reckoned(k), reckoned(l))
		n = joint.Net
		if n.Quarrel.Some {
			return impl.MixResult{Net: n}
		}
		put(i, j, word.Value)
		put(k, j, word.Value)
		put(l, j, word.Value)
		put(k, i, reckoned(k))
		put(l, i, reckoned(l))
		put(j, i, joint.Value)
	}
	return impl.MixResult{Mirror: m, Net: n}
}

// sharesOf is a mirror that is worth v, its parts told by seed.
func sharesOf(q int64, v int64, seed int64) impl.Mirror {
	a, b, c := mod(q, seed*71+5), mod(q, seed*29+200), mod(q, seed*seed*3+77)
	return likeMirror(q, a, mod(q, v-a-b-c), b, c)
}

// someRows are xs, and ys, of 1 to 6 terms; all are alike.
func someRows(q int64) [][2][]impl.Mirror {
	var list [][2][]impl.Mirror
	for many := range int64(6) {
		for first := range int64(5) {
			var xs, ys []impl.Mirror
			for term := range many + 1 {
				seed := 31*first + 7*term + many
				xs = append(xs, sharesOf(q, mod(q, seed*seed+first), seed))
				ys = append(ys, sharesOf(q, mod(q, seed*13+term), seed+1000))
			}
			list = append(list, [2][]impl.Mirror{xs, ys})
		}
	}
	return list
}

// someNets have short lanes and long ones, and things done already; nobody cheats.
func someNets() []impl.Net {
	return []impl.Net{
		netOf(impl.SeedTape(9, 30).Tape, honest),
		netOf(tapeOf(nil, nil, nil, nil), honest),
		netOf(smallTape(), impl.Cheat{Who: -1, At: 0, By: 255, Cry: true}),
		busyNet(honest, 6),
		busyNet(honest, 7),
	}
}

func TestOthersOf(t *testing.T) {
	for _, p := range sixPairs {
		want := impl.PairResult{First: p[2], Second: p[3]}
		if a, b := impl.OthersOf(p[0], p[1]), impl.OthersOf(p[1], p[0]); a != want || b != want {
			t.Errorf("%v: %v and %v", p, a, b)
		}
	}
}

func TestOthersOfWrong(t *testing.T) {
	want := impl.PairResult{Code: impl.ErrRange}
	for i := range int64(4) {
		if got := impl.OthersOf(i, i); got != want {
			t.Errorf("%d twice: %v", i, got)
		}
		for _, no := range noParties {
			if a, b, c := impl.OthersOf(i, no), impl.OthersOf(no, i), impl.OthersOf(no, no); a != want || b != want || c != want {
				t.Errorf("%d and %d: %v, %v, %v", i, no, a, b, c)
			}
		}
	}
}

func TestCrossOf(t *testing.T) {
	views := map[int64][][]int64{
		2:   {{0, 0, 0, 0}, {1, 1, 1, 1}, {1, 0, 0, 0}, {0, 1, 0, 0}, {0, 0, 1, 0}, {0, 0, 0, 1}, {1, 0, 1, 1}, {0, 1, 1, 0}},
		256: {{0, 0, 0, 0}, {255, 255, 255, 255}, {1, 2, 3, 4}, {9, 8, 7, 250}, {0, 128, 16, 254}, {128, 128, 2, 127}, {17, 31, 101, 203}},
	}
	for _, q := range rings {
		for _, x := range views[q] {
			for _, y := range views[q] {
				for i := range int64(4) {
					for j := range int64(4) {
						if i == j {
							continue
						}
						wantInt(t, "CrossOf", impl.CrossOf(q, x, y, i, j), value((x[i]*y[j]+x[j]*y[i])%q))
					}
				}
			}
		}
	}
	wantInt(t, "26", impl.CrossOf(256, []int64{1, 2, 3, 4}, []int64{9, 8, 7, 250}, 0, 1), value(26))
	wantInt(t, "goes round", impl.CrossOf(256, []int64{255, 0, 0, 255}, []int64{255, 0, 0, 254}, 3, 0), value(3))
	wantInt(t, "two bits", impl.CrossOf(2, []int64{1, 1, 0, 0}, []int64{1, 1, 0, 0}, 1, 0), value(0))
}

// All elements, with each other, at two places.
func TestCrossOfEveryElement(t *testing.T) {
	for _, q := range rings {
		for a := range q {
			for b := range q {
				wantInt(t, "CrossOf", impl.CrossOf(q, []int64{0, a, 0, q - 1}, []int64{0, 1, 0, b}, 1, 3), value((a*b+q-1)%q))
				wantInt(t, "CrossOf", impl.CrossOf(q, []int64{0, 1, 0, b}, []int64{0, a, 0, q - 1}, 3, 1), value((a*b+q-1)%q))
			}
		}
	}
}

func TestCrossOfWrong(t *testing.T) {
	good, short, long := []int64{1, 0, 1, 0}, []int64{1, 0, 1}, []int64{1, 0, 1, 0, 0}
	notFour := [][]int64{nil, {}, {1}, short, long, {-1, 0, 1}, {256, 0, 1, 0, 300}, filled(8, 0)}
	for _, no := range noRings {
		for _, x := range [][]int64{good, short, nil, {-1, 0, 0, 0}} {
			wantInt(t, "no ring", impl.CrossOf(no, x, good, 0, 1), code(impl.ErrRange))
			wantInt(t, "no ring", impl.CrossOf(no, good, x, 0, 0), code(impl.ErrRange))
		}
	}
	for _, q := range rings {
		for p := range int64(4) {
			for _, x := range [][]int64{good, short, nil, {q, 0, 0, 0}} {
				wantInt(t, "twice the same", impl.CrossOf(q, x, good, p, p), code(impl.ErrRange))
				for _, no := range noParties {
					wantInt(t, "no i", impl.CrossOf(q, good, x, no, p), code(impl.ErrRange))
					wantInt(t, "no j", impl.CrossOf(q, x, good, p, no), code(impl.ErrRange))
					wantInt(t, "none", impl.CrossOf(q, x, x, no, no), code(impl.ErrRange))
				}
			}
		}
		for _, no := range notFour {
			wantInt(t, "x has not four", impl.CrossOf(q, no, good, 0, 1), code(impl.ErrForm))
			wantInt(t, "y has not four", impl.CrossOf(q, good, no, 0, 1), code(impl.ErrForm))
			wantInt(t, "both have not four", impl.CrossOf(q, no, no, 3, 2), code(impl.ErrForm))
			// Whether both have four parts is asked ahead of any part.
			wantInt(t, "x is wrong, y has not four", impl.CrossOf(q, []int64{q, -1, 0, 0}, no, 0, 1), code(impl.ErrForm))
			wantInt(t, "y is wrong, x has not four", impl.CrossOf(q, no, []int64{q, -1, 0, 0}, 0, 1), code(impl.ErrForm))
		}
		for place := range 4 {
			for _, wrong := range noElements(q) {
				x := slices.Clone(good)
				x[place] = wrong
				// A part that is no element tells so, be it at i, at j, or at none of them.
				for _, p := range sixPairs {
					wantInt(t, "x", impl.CrossOf(q, x, good, p[0], p[1]), code(impl.ErrRange))
					wantInt(t, "y", impl.CrossOf(q, good, x, p[1], p[0]), code(impl.ErrRange))
				}
			}
		}
	}
}

// One product with all its numbers worked out by hand.
func TestDotOfOneTermByHand(t *testing.T) {
	x, y := likeMirror(256, 1, 2, 3, 4), likeMirror(256, 9, 8, 7, 250)
	n := netOf(tapeOf([]int64{99}, []int64{10}, []int64{20, 30}, []int64{40, 50, 60}), honest)
	// Products: 9, 16, 21, 232. Pairs: 0, 1: 26; 0, 2: 34; 0, 3: 286; 1, 2: 38; 1, 3: 532; 2, 3: 778.
	want := impl.MixResult{Mirror: likeMirror(256, (9+16+14+246)%256, (16+10+8+226)%256, (21+20+30+206)%256, (232+40+50+60)%256), Net: cloneNet(n)}
	want.Net.Used = []int64{0, 1, 2, 3}
	want.Net.Sent = 12
	want.Net.Heard = [][]int64{nil, {16, 16}, {14, 14, 8, 8}, {246, 246, 226, 226, 206, 206}}
	wantMix(t, "DotMirrors", impl.DotMirrors(n, []impl.Mirror{x}, []impl.Mirror{y}), want)
	wantMix(t, "MultMirrors", impl.MultMirrors(n, x, y), want)
	wantInt(t, "10 times 18", impl.ValueOf(impl.MultMirrors(n, x, y).Mirror, -1), value(180))
}

func TestDotOfBitsByHand(t *testing.T) {
	x, y := likeMirror(2, 1, 0, 1, 1), likeMirror(2, 1, 1, 0, 1)
	n := netOf(tapeOf(nil, []int64{3}, []int64{2, 255}, []int64{1, 0, 7}), honest)
	// Products: 1, 0, 0, 1. Pairs: 0, 1: 1; 0, 2: 1; 0, 3: 2; 1, 2: 1; 1, 3: 1; 2, 3: 1. Words by q: 1; 0, 1; 1, 0, 1.
	want := impl.MixResult{Mirror: likeMirror(2, (1+0+1+1)%2, (0+1+0+1)%2, (0+0+1+0)%2, (1+1+0+1)%2), Net: cloneNet(n)}
	want.Net.Used = []int64{0, 1, 2, 3}
	want.Net.Sent = 12
	want.Net.Heard = [][]int64{nil, {0, 0}, {1, 1, 0, 0}, {1, 1, 1, 1, 0, 0}}
	wantMix(t, "DotMirrors", impl.DotMirrors(n, []impl.Mirror{x}, []impl.Mirror{y}), want)
	wantInt(t, "1 and 1", impl.ValueOf(want.Mirror, -1), value(1))
}

func TestDotsAreReckonedAsSaid(t *testing.T) {
	for _, q := range rings {
		for _, n := range someNets() {
			for _, row := range someRows(q) {
				want := dotByHand(n, row[0], row[1])
				wantMix(t, "DotMirrors", impl.DotMirrors(n, row[0], row[1]), want)
				if len(row[0]) == 1 {
					wantMix(t, "MultMirrors", impl.MultMirrors(n, row[0][0], row[1][0]), want)
				}
			}
		}
	}
}

// A row is worth the sum of its products, for all, and costs the same, however long it is.
func TestARowIsWorthTheSumOfItsProducts(t *testing.T) {
	for _, q := range rings {
		for _, n := range someNets() {
			for _, row := range someRows(q) {
				sum := int64(0)
				for term := range row[0] {
					sum += worth(row[0][term], -1) * worth(row[1][term], -1)
				}
				got := impl.DotMirrors(n, row[0], row[1])
				if got.Code != impl.OK || got.Mirror.Q != q || got.Net.Quarrel.Some || impl.NetFault(got.Net) != impl.OK {
					t.Fatalf("%v", got)
				}
				for _, but := range buts {
					wantInt(t, "ValueOf", impl.ValueOf(got.Mirror, but), value(sum%q))
				}
				wantCostOfDot(t, n, got.Net, 6)
			}
		}
	}
}

// wantCostOfDot asks what was taken, told and heard when the first so many pairs were gone through, and that all else stayed.
func wantCostOfDot(t *testing.T, before impl.Net, after impl.Net, pairs int) {
	t.Helper()
	want := cloneNet(before)
	want.Sent += int64(2 * pairs)
	for _, p := range sixPairs[:pairs] {
		want.Used[p[1]]++
	}
	for party, list := range after.Heard {
		had := before.Heard[party]
		if len(list) != len(had)+int(2*(want.Used[party]-before.Used[party])) || !slices.Equal(list[:len(had)], had) {
			t.Errorf("%d pairs: party %d heard %v, ahead of it %v", pairs, party, list, had)
		}
	}
	want.Heard, want.Quarrel = after.Heard, after.Quarrel
	if !sameNets(after, want) {
		t.Errorf("%d pairs: got %v, want %v", pairs, after, want)
	}
}

// All products of two elements, each in parts that hide them.
func TestMultMirrorsOfEveryTwo(t *testing.T) {
	n := netOf(impl.SeedTape(77, 5).Tape, honest)
	for _, q := range rings {
		for a := range q {
			for b := range q {
				if q == 256 && (a+b)%5 != 0 {
					continue
				}
				got := impl.MultMirrors(n, sharesOf(q, a, a+b), sharesOf(q, b, a+3*b+1))
				wantInt(t, "MultMirrors", impl.ValueOf(got.Mirror, -1), value(a*b%q))
			}
		}
	}
}

// A part of each one, so that just one pair, or one square, makes the product: part i and part j of the two factors.
func TestEachPairMakesItsProduct(t *testing.T) {
	for _, q := range rings {
		for _, n := range someNets() {
			for i := range 4 {
				for j := range 4 {
					var a, b [4]int64
					a[i], b[j] = 1, 1
					x, y := likeMirror(q, a[0], a[1], a[2], a[3]), likeMirror(q, b[0], b[1], b[2], b[3])
					got := impl.MultMirrors(n, x, y)
					wantMix(t, "MultMirrors", got, dotByHand(n, []impl.Mirror{x}, []impl.Mirror{y}))
					wantInt(t, "ValueOf", impl.ValueOf(got.Mirror, -1), value(1))
				}
			}
		}
	}
}

// Without words nothing is hidden: what goes to which part is to be seen. The lower one of a pair gets it.
func TestWhichPartGetsWhat(t *testing.T) {
	n := netOf(tapeOf(nil, nil, nil, nil), honest)
	for _, p := range sixPairs {
		i, j := p[0], p[1]
		var a, b, want [4]int64
		a[i], b[j], want[i] = 5, 7, 35
		x, y := likeMirror(256, a[0], a[1], a[2], a[3]), likeMirror(256, b[0], b[1], b[2], b[3])
		after := likeMirror(256, want[0], want[1], want[2], want[3])
		for _, got := range []impl.MixResult{impl.MultMirrors(n, x, y), impl.MultMirrors(n, y, x)} {
			wantMirror(t, "MultMirrors", impl.MirrorResult{Code: got.Code, Mirror: got.Mirror}, after)
			heard := make([][]int64, 4)
			for _, other := range sixPairs {
				told := int64(0)
				if other == p {
					told = 35
				}
				heard[other[1]] = append(heard[other[1]], told, told)
			}
			if !slices.EqualFunc(got.Net.Heard, heard, slices.Equal) {
				t.Errorf("%v: heard %v, not %v", p, got.Net.Heard, heard)
			}
		}
	}
}

// Each word goes to the part of the lane's own party, and off that of the lower one of its pair.
func TestWhichWordGoesWhere(t *testing.T) {
	zero := likeMirror(256, 0, 0, 0, 0)
	for lane := range 4 {
		for place := range 4 {
			tape := tapeOf(nil, nil, nil, nil)
			tape.Lanes[lane] = make([]int64, place+1)
			tape.Lanes[lane][place] = 9
			n := netOf(tape, honest)
			var want [4]int64
			if place < lane {
				want[lane], want[place] = 9, 247
			}
			got := impl.MultMirrors(n, zero, zero)
			wantMirror(t, "MultMirrors", impl.MirrorResult{Code: got.Code, Mirror: got.Mirror}, likeMirror(256, want[0], want[1], want[2], want[3]))
			wantCostOfDot(t, n, got.Net, 6)
		}
	}
}

// Lane 0 hides nothing; words are taken from where the lanes were left.
func TestWordsThatAreTaken(t *testing.T) {
	x, y := likeMirror(256, 1, 2, 3, 4), likeMirror(256, 9, 8, 7, 250)
	n := busyNet(honest, 6)
	first := impl.MultMirrors(n, x, y)
	wantCostOfDot(t, n, first.Net, 6)
	n.Tape.Lanes[0] = []int64{1, 1, 1, 1}
	n.Used[0] = 99
	if other := impl.MultMirrors(n, x, y); !slices.EqualFunc(other.Mirror.Views, first.Mirror.Views, slices.Equal) {
		t.Errorf("lane 0 counts: %v", other)
	}
	// One row behind the other goes on where the first one ended.
	n = netOf(impl.SeedTape(3, 6).Tape, honest)
	second := impl.MultMirrors(impl.MultMirrors(n, x, y).Net, y, x)
	late := cloneNet(n)
	late.Used = []int64{0, 1, 2, 3}
	again := impl.MultMirrors(late, y, x)
	if !slices.EqualFunc(second.Mirror.Views, again.Mirror.Views, slices.Equal) || second.Net.Sent != 24 || !slices.Equal(second.Net.Used, []int64{0, 2, 4, 6}) {
		t.Errorf("got %v, want %v", second, again)
	}
}

func TestDotsBehindTheEndOfLanes(t *testing.T) {
	x, y := sharesOf(256, 12, 5), sharesOf(256, 250, 8)
	bare := impl.MultMirrors(netOf(tapeOf(nil, nil, nil, nil), honest), x, y)
	for _, used := range []int64{3, 4, 900, 65536, 99996} {
		n := netOf(smallTape(), honest)
		n.Used = []int64{used, used, used, used}
		got := impl.MultMirrors(n, x, y)
		wantMirror(t, "no words left", impl.MirrorResult{Code: got.Code, Mirror: got.Mirror}, bare.Mirror)
		wantCostOfDot(t, n, got.Net, 6)
	}
	// Lanes that end between two words of one row.
	for left := range int64(4) {
		n := netOf(impl.SeedTape(5, 10).Tape, honest)
		n.Used = []int64{10 - left, 10 - left, 10 - left, 10 - left}
		wantMix(t, "lanes that end", impl.MultMirrors(n, x, y), dotByHand(n, []impl.Mirror{x}, []impl.Mirror{y}))
	}
	// What stands in memory behind a lane's end is no word of it.
	under := filled(8, 77)
	n := netOf(tapeOf(under[:0], under[:0], under[:0], under[:0]), honest)
	got := impl.MultMirrors(n, x, y)
	wantMirror(t, "pieces", impl.MirrorResult{Code: got.Code, Mirror: got.Mirror}, bare.Mirror)
}

// What was asked ahead is not asked again: a row that begins within the bounds is reckoned to its end.
func TestDotsNearTheLastCounts(t *testing.T) {
	x, y := sharesOf(256, 12, 5), sharesOf(256, 250, 8)
	for _, sent := range []int64{99986, 99987, 99988, 99989, 99990, 99998, 99999} {
		early := impl.MultMirrors(busyNet(honest, 6), x, y)
		n := busyNet(honest, sent)
		got := impl.MultMirrors(n, x, y)
		want := impl.MixResult{Mirror: early.Mirror, Net: cloneNet(early.Net)}
		want.Net.Sent = sent + 12
		wantMix(t, "Sent", got, want)
		wantCostOfDot(t, n, got.Net, 6)
		if fault := impl.NetFault(got.Net); (fault == impl.OK) != (sent+12 <= 99999) {
			t.Errorf("%d were sent ahead: fault %d", sent, fault)
		}
		if xor := impl.XorBits(n, x, y); xor.Code != impl.OK || xor.Net.Sent != sent+12 {
			t.Errorf("%d were sent ahead: %v", sent, xor)
		}
	}
	for lane := range 4 {
		for _, used := range []int64{99996, 99997, 99998, 99999} {
			n := busyNet(honest, 6)
			n.Used[lane] = used
			got := impl.MultMirrors(n, x, y)
			wantInt(t, "ValueOf", impl.ValueOf(got.Mirror, -1), value(12*250%256))
			wantCostOfDot(t, n, got.Net, 6)
		}
	}
	n := busyNet(honest, 99999)
	wantMixCode(t, "the next row", impl.MultMirrors(impl.MultMirrors(n, x, y).Net, x, y), impl.ErrRange)
	wantMixCode(t, "more than are counted", impl.MultMirrors(busyNet(honest, 100000), x, y), impl.ErrRange)
	// The last message at which one may cheat, in the midst of a row.
	n = busyNet(impl.Cheat{Who: 2, At: 99999, By: 3}, 99994)
	got := impl.MultMirrors(n, x, y)
	if z := got.Net.Quarrel; !z.Some || z.From != 1 || z.Check != 2 || z.To != 3 || got.Net.Sent != 100000 {
		t.Errorf("at 99999: %v", got)
	}
}

// tellers are who tells the twelve messages of a row.
func tellers() []int64 {
	var list []int64
	for _, p := range sixPairs {
		list = append(list, p[2], p[3])
	}
	return list
}

// endOfDot is after how many pairs a row ends, if one cheats, and whether that is in a quarrel.
func endOfDot(c impl.Cheat, sent int64, q int64) (int, bool) {
	for place, p := range sixPairs {
		number := sent + int64(2*place)
		lies := c.By%q != 0 && (number == c.At && p[2] == c.Who || number+1 == c.At && p[3] == c.Who)
		if lies || c.Cry && p[1] == c.Who && number >= c.At {
			return place + 1, true
		}
	}
	return 6, false
}

// wantRowOrQuarrel asks of a row what is promised, whoever cheats.
func wantRowOrQuarrel(t *testing.T, n impl.Net, xs []impl.Mirror, ys []impl.Mirror) {
	t.Helper()
	got := impl.DotMirrors(n, xs, ys)
	wantMix(t, "DotMirrors", got, dotByHand(n, xs, ys))
	pairs, quarrel := endOfDot(n.Cheat, n.Sent, xs[0].Q)
	wantCostOfDot(t, n, got.Net, pairs)
	if got.Net.Quarrel.Some != quarrel {
		t.Fatalf("%v: quarrel %v", n.Cheat, got.Net.Quarrel)
	}
	if !quarrel {
		sum := int64(0)
		for term := range xs {
			sum += worth(xs[term], -1) * worth(ys[term], -1)
		}
		wantInt(t, "ValueOf", impl.ValueOf(got.Mirror, -1), value(sum%xs[0].Q))
		return
	}
	if got.Mirror.Q != 0 || len(got.Mirror.Views) != 0 {
		t.Errorf("%v: a mirror in a quarrel: %v", n.Cheat, got.Mirror)
	}
	apart, trusted := impl.JudgeQuarrel(got.Net.Quarrel), impl.TrustedOf(got.Net.Quarrel)
	if who := n.Cheat.Who; apart.Code != impl.OK || who != apart.First && who != apart.Second || trusted.Value == who {
		t.Errorf("%v: %v are told apart, %v is trusted", n.Cheat, apart, trusted)
	}
	p := sixPairs[pairs-1]
	if z := got.Net.Quarrel; z.From != p[2] || z.Check != p[3] || z.To != p[1] {
		t.Errorf("%v: pair %v, but %v", n.Cheat, p, z)
	}
}

// Each of the four, at each of the twelve messages, ahead of them and behind them.
func TestARowWithOneWhoCheats(t *testing.T) {
	for _, q := range rings {
		rows := someRows(q)
		for _, row := range [][2][]impl.Mirror{rows[3], rows[28]} {
			for _, who := range buts {
				for at := range int64(20) {
					for _, by := range []int64{0, 1, 2, 128, 254, 255} {
						for _, cry := range []bool{false, true} {
							c := impl.Cheat{Who: who, At: at, By: by, Cry: cry}
							wantRowOrQuarrel(t, netOf(smallTape(), c), row[0], row[1])
							wantRowOrQuarrel(t, busyNet(c, 6), row[0], row[1])
							wantRowOrQuarrel(t, busyNet(c, 3), row[0], row[1])
						}
					}
				}
			}
		}
	}
}

// Every message is told by one, and turned by that one alone.
func TestWhoTellsWhichMessage(t *testing.T) {
	x, y := sharesOf(256, 12, 5), sharesOf(256, 250, 8)
	for number, teller := range tellers() {
		for who := range int64(4) {
			n := netOf(smallTape(), impl.Cheat{Who: who, At: int64(number), By: 7})
			got := impl.MultMirrors(n, x, y)
			if got.Net.Quarrel.Some != (who == teller) {
				t.Errorf("message %d, %d cheats: %v", number, who, got.Net.Quarrel)
			}
			if who == teller && (got.Net.Sent != int64(number/2*2+2) || len(got.Mirror.Views) != 0) {
				t.Errorf("message %d: %v", number, got)
			}
		}
	}
}

func TestAQuarrelAtTheFirstPair(t *testing.T) {
	x, y := likeMirror(256, 1, 2, 3, 4), likeMirror(256, 9, 8, 7, 250)
	n := netOf(tapeOf([]int64{99}, []int64{10}, []int64{20, 30}, []int64{40, 50, 60}), impl.Cheat{Who: 2, At: 0, By: 5})
	want := impl.MixResult{Net: cloneNet(n)}
	want.Net.Used = []int64{0, 1, 0, 0}
	want.Net.Sent = 2
	want.Net.Heard = [][]int64{nil, {21, 16}, nil, nil}
	want.Net.Quarrel = impl.Quarrel{Some: true, From: 2, Check: 3, To: 1, Told: 16, Heard: 21, Other: 16, Vowed: 16}
	wantMix(t, "MultMirrors", impl.MultMirrors(n, x, y), want)
	wantMix(t, "XorBits", impl.XorBits(n, x, y), want)
	wantMixCode(t, "another row", impl.MultMirrors(want.Net, x, y), impl.ErrState)
}

func TestAQuarrelAtTheLastPair(t *testing.T) {
	x, y := likeMirror(256, 1, 2, 3, 4), likeMirror(256, 9, 8, 7, 250)
	n := netOf(tapeOf([]int64{99}, []int64{10}, []int64{20, 30}, []int64{40, 50, 60}), impl.Cheat{Who: 1, At: 11, By: 100, Cry: true})
	want := impl.MixResult{Net: cloneNet(n)}
	want.Net.Used = []int64{0, 1, 2, 3}
	want.Net.Sent = 12
	want.Net.Heard = [][]int64{nil, {16, 16}, {14, 14, 8, 8}, {246, 246, 226, 226, 206, 50}}
	want.Net.Quarrel = impl.Quarrel{Some: true, From: 0, Check: 1, To: 3, Told: 206, Heard: 206, Other: 50, Vowed: 50}
	wantMix(t, "MultMirrors", impl.MultMirrors(n, x, y), want)
	wantMix(t, "XorBits", impl.XorBits(n, x, y), want)
}

// One who compares cries out at the first pair from At on in which it hears something.
func TestACryInARow(t *testing.T) {
	x, y := sharesOf(256, 12, 5), sharesOf(256, 250, 8)
	for _, c := range []struct{ who, at, sent int64 }{
		{1, 0, 2}, {1, 1, 0}, {2, 0, 4}, {2, 2, 4}, {2, 3, 8}, {2, 6, 8}, {2, 7, 0},
		{3, 0, 6}, {3, 4, 6}, {3, 5, 10}, {3, 9, 12}, {3, 10, 12}, {3, 11, 0}, {0, 0, 0}, {0, 99999, 0},
	} {
		n := netOf(smallTape(), impl.Cheat{Who: c.who, At: c.at, Cry: true})
		for _, got := range []impl.MixResult{impl.MultMirrors(n, x, y), impl.XorBits(n, x, y)} {
			sent := c.sent
			if sent == 0 {
				sent = 12
			}
			if got.Code != impl.OK || got.Net.Quarrel.Some != (c.sent != 0) || got.Net.Sent != sent || (len(got.Mirror.Views) == 0) != (c.sent != 0) {
				t.Errorf("%v: %v", c, got)
			}
		}
	}
}

// Mirrors that don't agree are no fault: everybody goes by what it has.
func TestDotsOfViewsThatDontAgree(t *testing.T) {
	for _, q := range rings {
		list := someMirrors(q)
		for i := range list {
			xs, ys := []impl.Mirror{list[i]}, []impl.Mirror{list[(3*i+1)%len(list)]}
			for many := range 6 {
				for _, cheat := range []impl.Cheat{honest, {Who: 0, At: 6, By: 1}, {Who: 2, At: 3, By: 7, Cry: true}} {
					n := busyNet(cheat, 0)
					wantMix(t, "DotMirrors", impl.DotMirrors(n, xs, ys), dotByHand(n, xs, ys))
				}
				xs, ys = append(xs, list[(i+many)%len(list)]), append(ys, list[(5*many+i)%len(list)])
				if len(xs) > impl.MaxTerms {
					break
				}
			}
		}
	}
}

// A part that one alone has otherwise goes into its own sums, where no message tells of it.
func TestEverybodyGoesByItsOwnView(t *testing.T) {
	n := netOf(tapeOf(nil, nil, nil, nil), honest)
	zero, y := likeMirror(256, 0, 0, 0, 0), likeMirror(256, 0, 0, 0, 0)
	for party := range 4 {
		for part := range 4 {
			if party == part {
				continue
			}
			x := withPart(zero, party, part, 3)
			for with := range y.Views {
				// Where y has that part alone, nothing but the product of both at this part is there.
				z := cloneMirror(y)
				if with != part {
					z.Views[with][part] = 5
				}
				want := zero
				if with == party {
					want = withPart(zero, party, part, 15)
				}
				got := impl.MultMirrors(n, x, z)
				wantMirror(t, "MultMirrors", impl.MirrorResult{Code: got.Code, Mirror: got.Mirror}, want)
			}
		}
	}
}

// Where two reckon two things, and one who cheats makes them alike, each of the three puts its own: k and l what they reckoned, j what it was told.
func TestTheOneWhoHearsPutsWhatItWasTold(t *testing.T) {
	for place, p := range sixPairs {
		i, j, k, l := p[0], p[1], p[2], p[3]
		x := likeMirror(256, 0, 0, 0, 0)
		y := likeMirror(256, 0, 0, 0, 0)
		for _, party := range []int64{k, l} {
			x.Views[party][i], y.Views[party][j] = 10, 10
		}
		y.Views[l][j] = 11
		n := netOf(tapeOf(nil, nil, nil, nil), impl.Cheat{Who: k, At: int64(2 * place), By: 10})
		got := impl.MultMirrors(n, x, y)
		want := likeMirror(256, 0, 0, 0, 0)
		want.Views[k][i], want.Views[l][i], want.Views[j][i] = 100, 110, 110
		wantMirror(t, "from cheats", impl.MirrorResult{Code: got.Code, Mirror: got.Mirror}, want)
		n.Cheat = impl.Cheat{Who: l, At: int64(2*place + 1), By: 246}
		got = impl.MultMirrors(n, x, y)
		want.Views[j][i] = 100
		wantMirror(t, "check cheats", impl.MirrorResult{Code: got.Code, Mirror: got.Mirror}, want)
		// Without one who cheats the two of them quarrel.
		n.Cheat = honest
		got = impl.MultMirrors(n, x, y)
		if z := got.Net.Quarrel; z != (impl.Quarrel{Some: true, From: k, Check: l, To: j, Told: 100, Heard: 100, Other: 110, Vowed: 110}) || len(got.Mirror.Views) != 0 {
			t.Errorf("%v: %v", p, got)
		}
	}
}

// manyOf is a row of mirrors that are worth 0.
func manyOf(q int64, many int) []impl.Mirror {
	list := make([]impl.Mirror, many)
	for i := range list {
		list[i] = likeMirror(q, 0, 0, 0, 0)
	}
	return list
}

func TestDotsOfTooManyTerms(t *testing.T) {
	n := busyNet(honest, 6)
	for _, q := range rings {
		for xs := range 10 {
			for ys := range 10 {
				got := impl.DotMirrors(n, manyOf(q, xs), manyOf(q, ys))
				if xs == ys && xs >= 1 && xs <= 6 {
					wantCostOfDot(t, n, got.Net, 6)
					continue
				}
				wantMixCode(t, "not as many", got, impl.ErrMany)
				// Ahead of what the mirrors are.
				wantMixCode(t, "not as many, with faults", impl.DotMirrors(n, make([]impl.Mirror, xs), make([]impl.Mirror, ys)), impl.ErrMany)
				wantMixCode(t, "not as many, of two q", impl.DotMirrors(n, manyOf(q, xs), manyOf(258-q, ys)), impl.ErrMany)
			}
		}
	}
	wantMixCode(t, "nil", impl.DotMirrors(n, nil, nil), impl.ErrMany)
}

func TestDotsInAFaultyNet(t *testing.T) {
	x := likeMirror(256, 1, 2, 3, 4)
	rows := [][2][]impl.Mirror{{{x}, {x}}, {nil, nil}, {{x}, nil}, {manyOf(2, 7), manyOf(2, 7)}, {{{}}, {{}}}, {{x}, manyOf(2, 1)}}
	for _, row := range rows {
		for _, faulty := range faultyNets() {
			wantMixCode(t, faulty.what, impl.DotMirrors(faulty.net, row[0], row[1]), faulty.code)
			if len(row[0]) == 1 && len(row[1]) == 1 {
				wantMixCode(t, faulty.what, impl.MultMirrors(faulty.net, row[0][0], row[1][0]), faulty.code)
				wantMixCode(t, faulty.what, impl.XorBits(faulty.net, row[0][0], row[1][0]), faulty.code)
			}
		}
		for _, z := range []impl.Quarrel{{Some: true}, {Some: true, From: 1, Check: 2, To: 3, Told: 9}, {Some: true, From: -5}} {
			n := busyNet(honest, 6)
			n.Quarrel = z
			wantMixCode(t, "a quarrel", impl.DotMirrors(n, row[0], row[1]), impl.ErrState)
			if len(row[0]) == 1 && len(row[1]) == 1 {
				wantMixCode(t, "a quarrel", impl.MultMirrors(n, row[0][0], row[1][0]), impl.ErrState)
				wantMixCode(t, "a quarrel", impl.XorBits(n, row[0][0], row[1][0]), impl.ErrState)
			}
		}
	}
	// Some tells whether there is one.
	n := busyNet(honest, 6)
	n.Quarrel = impl.Quarrel{From: 2}
	if got := impl.MultMirrors(n, x, x); got.Code != impl.OK || got.Net.Sent != 18 {
		t.Errorf("no quarrel is there: %v", got)
	}
}

// setIn puts a mirror at a place of xs, or behind them of ys.
func setIn(row [2][]impl.Mirror, place int, m impl.Mirror) {
	many := len(row[0])
	row[place/many][place%many] = m
}

func TestDotsOfFaultyMirrors(t *testing.T) {
	n := busyNet(honest, 6)
	for _, q := range rings {
		for _, faulty := range faultyMirrors(q) {
			for _, many := range []int{1, 2, 6} {
				for place := range 2 * many {
					row := [2][]impl.Mirror{manyOf(q, many), manyOf(q, many)}
					setIn(row, place, faulty.mirror)
					wantMixCode(t, faulty.what, impl.DotMirrors(n, row[0], row[1]), faulty.code)
				}
			}
			good := likeMirror(q, 1, 0, 1, 1)
			for _, other := range []impl.Mirror{good, {}} {
				wantMixCode(t, faulty.what, impl.MultMirrors(n, faulty.mirror, other), faulty.code)
				wantMixCode(t, faulty.what, impl.XorBits(n, faulty.mirror, other), faulty.code)
			}
			wantMixCode(t, faulty.what, impl.MultMirrors(n, good, faulty.mirror), faulty.code)
			// Its fault comes ahead of q not being Ring.
			wantMixCode(t, faulty.what, impl.XorBits(n, good, faulty.mirror), faulty.code)
		}
	}
}

// Of two faults the one that stands ahead is told, be it in xs or in ys.
func TestDotsOneByOne(t *testing.T) {
	n := busyNet(honest, 6)
	for _, q := range rings {
		form, wrong := mirrorOf(q), withPart(likeMirror(q, 1, 1, 1, 1), 1, 3, q)
		for first := range 6 {
			for second := first + 1; second < 6; second++ {
				row := [2][]impl.Mirror{manyOf(q, 3), manyOf(q, 3)}
				setIn(row, first, form)
				setIn(row, second, wrong)
				wantMixCode(t, "form ahead", impl.DotMirrors(n, row[0], row[1]), impl.ErrForm)
				setIn(row, first, wrong)
				setIn(row, second, form)
				wantMixCode(t, "range ahead", impl.DotMirrors(n, row[0], row[1]), impl.ErrRange)
			}
		}
	}
}

func TestDotsOfTwoRings(t *testing.T) {
	n := busyNet(honest, 6)
	for _, q := range rings {
		for _, many := range []int{1, 2, 3, 6} {
			for place := range 2 * many {
				row := [2][]impl.Mirror{manyOf(q, many), manyOf(q, many)}
				setIn(row, place, likeMirror(258-q, 1, 1, 0, 0))
				wantMixCode(t, "one of another q", impl.DotMirrors(n, row[0], row[1]), impl.ErrForm)
			}
			wantMixCode(t, "all ys of another q", impl.DotMirrors(n, manyOf(q, many), manyOf(258-q, many)), impl.ErrForm)
		}
		a, b := likeMirror(q, 1, 0, 0, 0), likeMirror(258-q, 1, 0, 0, 0)
		wantMixCode(t, "two q", impl.MultMirrors(n, a, b), impl.ErrForm)
		wantMixCode(t, "two q", impl.XorBits(n, a, b), impl.ErrForm)
	}
}

// Each mirror is asked all codes ahead of the next one: its fault, and whether its q is another one.
func TestDotsOfTwoRingsAndAFault(t *testing.T) {
	n := busyNet(honest, 6)
	for _, q := range rings {
		wrong := withPart(likeMirror(q, 1, 1, 1, 1), 1, 3, q)
		other := likeMirror(258-q, 1, 0, 0, 0)
		for first := 1; first < 6; first++ {
			for second := first + 1; second < 6; second++ {
				row := [2][]impl.Mirror{manyOf(q, 3), manyOf(q, 3)}
				setIn(row, first, other)
				setIn(row, second, wrong)
				wantMixCode(t, "another q ahead", impl.DotMirrors(n, row[0], row[1]), impl.ErrForm)
				setIn(row, second, mirrorOf(3))
				wantMixCode(t, "another q ahead of none", impl.DotMirrors(n, row[0], row[1]), impl.ErrForm)
				setIn(row, first, wrong)
				setIn(row, second, other)
				wantMixCode(t, "a fault ahead", impl.DotMirrors(n, row[0], row[1]), impl.ErrRange)
			}
		}
		// One that has both tells its fault.
		row := [2][]impl.Mirror{manyOf(q, 3), manyOf(q, 3)}
		setIn(row, 4, withPart(other, 0, 1, 256))
		wantMixCode(t, "both", impl.DotMirrors(n, row[0], row[1]), impl.ErrRange)
	}
}

func TestXorBits(t *testing.T) {
	for _, n := range someNets() {
		for a := range int64(2) {
			for b := range int64(2) {
				for seed := range int64(30) {
					x, y := sharesOf(256, a, seed), sharesOf(256, b, 3*seed+500)
					got := impl.XorBits(n, x, y)
					for _, but := range buts {
						wantInt(t, "XorBits", impl.ValueOf(got.Mirror, but), value(a^b))
					}
					wantCostOfDot(t, n, got.Net, 6)
				}
				plain := impl.XorBits(n, impl.PlainMirror(256, a).Mirror, impl.PlainMirror(256, b).Mirror)
				wantInt(t, "of plain ones", impl.ValueOf(plain.Mirror, -1), value(a^b))
			}
		}
	}
}

// xorByHand is both, less twice the product, view by view, part by part.
func xorByHand(n impl.Net, a impl.Mirror, b impl.Mirror) impl.MixResult {
	product := dotByHand(n, []impl.Mirror{a}, []impl.Mirror{b})
	if product.Net.Quarrel.Some {
		return product
	}
	for party, view := range product.Mirror.Views {
		for part := range view {
			view[part] = mod(256, a.Views[party][part]+b.Views[party][part]-2*view[part])
		}
	}
	return product
}

// Values that are no bits are no fault, nor are views that don't agree.
func TestXorBitsOfWhateverMirrors(t *testing.T) {
	list := someMirrors(256)
	for i, a := range list {
		for j, b := range list {
			for _, cheat := range []impl.Cheat{honest, {Who: int64(i % 4), At: int64(j % 13), By: 9, Cry: i%2 == 0}} {
				n := busyNet(cheat, 0)
				wantMix(t, "XorBits", impl.XorBits(n, a, b), xorByHand(n, a, b))
			}
		}
	}
	n := busyNet(honest, 0)
	for v := range int64(256) {
		got := impl.XorBits(n, sharesOf(256, v, v), sharesOf(256, 200, 8))
		wantInt(t, "XorBits", impl.ValueOf(got.Mirror, -1), value(mod(256, v+200-2*v*200)))
	}
}

func TestXorBitsWithOneWhoCheats(t *testing.T) {
	x, y := sharesOf(256, 1, 5), sharesOf(256, 1, 8)
	for _, who := range buts {
		for at := range int64(14) {
			for _, cry := range []bool{false, true} {
				n := netOf(smallTape(), impl.Cheat{Who: who, At: at, By: 130, Cry: cry})
				got := impl.XorBits(n, x, y)
				wantMix(t, "XorBits", got, xorByHand(n, x, y))
				pairs, quarrel := endOfDot(n.Cheat, 0, 256)
				wantCostOfDot(t, n, got.Net, pairs)
				if quarrel != got.Net.Quarrel.Some || quarrel != (len(got.Mirror.Views) == 0) || quarrel != (got.Mirror.Q == 0) {
					t.Errorf("%v: %v", n.Cheat, got)
				}
			}
		}
	}
}

// Bits by q 2 are no bits of the ring, though they make together what they make.
func TestXorBitsOfAnotherRing(t *testing.T) {
	for a := range int64(2) {
		for b := range int64(2) {
			n := busyNet(honest, 6)
			wantMixCode(t, "both by 2", impl.XorBits(n, sharesOf(2, a, 1), sharesOf(2, b, 2)), impl.ErrForm)
			wantMixCode(t, "a by 2", impl.XorBits(n, sharesOf(2, a, 1), sharesOf(256, b, 2)), impl.ErrForm)
			wantMixCode(t, "b by 2", impl.XorBits(n, sharesOf(256, a, 1), sharesOf(2, b, 2)), impl.ErrForm)
			// It is asked ahead of anything that is told.
			n.Cheat = impl.Cheat{Who: 2, At: 6, By: 1}
			wantMixCode(t, "one cheats", impl.XorBits(n, sharesOf(2, a, 1), sharesOf(2, b, 2)), impl.ErrForm)
		}
	}
}

// laidMirror has its views behind one another in one memory.
func laidMirror(q int64, under []int64) impl.Mirror {
	return mirrorOf(q, under[0:4], under[4:8], under[8:12], under[12:16])
}

func TestProductsChangeNoArgument(t *testing.T) {
	kept := []int64{1, 2, 3, 4, 5, 6, 7, 8, 0, 1, 2, 3, 20, 21, 22, 23, 24, 25, 26, 27, 42, 43, 44, 45}
	parts := []int64{0, 5, 6, 7, 4, 0, 6, 7, 4, 5, 0, 7, 4, 5, 6, 0, 77, 78, 79}
	under, ofMirror := slices.Clone(kept), slices.Clone(parts)
	n, m := laidNet(under), laidMirror(256, ofMirror)
	before := cloneNet(n)
	row := []impl.Mirror{m, m, m, {Q: 7}}
	for _, cheat := range []impl.Cheat{n.Cheat, honest, {Who: 2, At: 6, By: 9}} {
		n.Cheat, before.Cheat = cheat, cheat
		for many := range 4 {
			impl.DotMirrors(n, row[:many], row[:many])
			impl.DotMirrors(n, row[:many], row[1:])
		}
		impl.MultMirrors(n, m, m)
		impl.XorBits(n, m, m)
		for _, p := range sixPairs {
			impl.CrossOf(256, ofMirror[:4], ofMirror[4:8], p[0], p[1])
			impl.CrossOf(2, ofMirror[:4], ofMirror[4:9], p[0], p[1])
		}
	}
	if !slices.Equal(under, kept) || !slices.Equal(ofMirror, parts) || !sameNets(n, before) {
		t.Errorf("an argument was changed: %v, %v", under, ofMirror)
	}
	if row[3].Q != 7 || row[3].Views != nil || row[0].Q != 256 || len(row[0].Views) != 4 {
		t.Errorf("a row was changed: %v", row)
	}
}

// mixAnswers are answers of all functions of the chapter that make a mirror, with a quarrel and without one.
func mixAnswers(n impl.Net, m impl.Mirror) []impl.MixResult {
	calm := n
	calm.Cheat = honest
	return []impl.MixResult{
		impl.DotMirrors(calm, []impl.Mirror{m, m}, []impl.Mirror{m, m}), impl.MultMirrors(calm, m, m), impl.XorBits(calm, m, m),
		impl.DotMirrors(n, []impl.Mirror{m, m}, []impl.Mirror{m, m}), impl.MultMirrors(n, m, m), impl.XorBits(n, m, m),
	}
}

// mixLists are all lists of numbers that an answer holds.
func mixLists(r impl.MixResult) [][]int64 {
	return slices.Concat(netLists(r.Net), r.Mirror.Views)
}

func cloneMix(r impl.MixResult) impl.MixResult {
	return impl.MixResult{Code: r.Code, Mirror: cloneMirror(r.Mirror), Net: cloneNet(r.Net)}
}

func spoilMix(r impl.MixResult) {
	spoilNet(r.Net)
	for _, view := range r.Mirror.Views {
		spoilList(view)
	}
	views := r.Mirror.Views[:cap(r.Mirror.Views)]
	for i := range views {
		views[i] = nil
	}
}

func TestProductsAreNewMemory(t *testing.T) {
	kept := []int64{1, 2, 3, 4, 5, 6, 7, 8, 0, 1, 2, 3, 20, 21, 22, 23, 24, 25, 26, 27, 42, 43, 44, 45}
	parts := []int64{0, 5, 6, 7, 4, 0, 6, 7, 4, 5, 0, 7, 4, 5, 6, 0}
	under, ofMirror := slices.Clone(kept), slices.Clone(parts)
	n, m := laidNet(under), laidMirror(256, ofMirror)
	first, second := mixAnswers(n, m), mixAnswers(n, m)
	var want []impl.MixResult
	for _, answer := range second {
		want = append(want, cloneMix(answer))
	}
	for _, answer := range first {
		spoilMix(answer)
	}
	if !slices.Equal(under, kept) || !slices.Equal(ofMirror, parts) {
		t.Fatalf("an answer shares memory with an argument: %v, %v", under, ofMirror)
	}
	for i, later := range mixAnswers(n, m) {
		wantMix(t, "a later answer", later, want[i])
	}
	spoilNet(n)
	spoilList(ofMirror)
	for i, answer := range second {
		wantMix(t, "when others and the arguments are written over", answer, want[i])
	}
}

// Lists of the arguments may be one memory; those of an answer never are.
func TestNoTwoListsOfAProductShareMemory(t *testing.T) {
	one := []int64{0, 0, 0, 0}
	lists := [][]int64{one, one, one, one}
	n := impl.Net{Tape: impl.Tape{Lanes: lists}, Used: one, Heard: lists, Cheat: impl.Cheat{Who: 3, At: 2, By: 3, Cry: true}}
	for i, answer := range mixAnswers(n, impl.Mirror{Q: 256, Views: lists}) {
		if answer.Code != impl.OK || answer.Net.Quarrel.Some != (i > 2) {
			t.Fatalf("answer %d: %v", i, answer)
		}
		for j, list := range mixLists(answer) {
			kept := cloneLists(mixLists(answer))
			spoilList(list)
			for k, other := range mixLists(answer) {
				if k != j && !slices.Equal(other, kept[k]) {
					t.Errorf("answer %d: lists %d and %d share memory", i, j, k)
				}
			}
		}
	}
	if !slices.Equal(one, []int64{0, 0, 0, 0}) {
		t.Errorf("an answer shares memory with an argument: %v", one)
	}
}

func TestProductsAnswerTheSameAgain(t *testing.T) {
	x, y := sharesOf(256, 12, 5), sharesOf(256, 250, 8)
	for _, cheat := range []impl.Cheat{honest, {Who: 0, At: 10, By: 9}} {
		n := busyNet(cheat, 2)
		dot, xor := impl.DotMirrors(n, []impl.Mirror{x, y}, []impl.Mirror{y, y}), impl.XorBits(n, x, y)
		impl.DotMirrors(dot.Net, []impl.Mirror{x, y}, []impl.Mirror{y, y})
		impl.MultMirrors(busyNet(honest, 50), sharesOf(2, 1, 1), sharesOf(2, 1, 2))
		impl.XorBits(impl.Net{}, impl.Mirror{}, impl.Mirror{})
		impl.DotMirrors(n, nil, nil)
		impl.OthersOf(9, 9)
		impl.CrossOf(math.MaxInt64, nil, nil, math.MinInt64, math.MaxInt64)
		wantMix(t, "DotMirrors again", impl.DotMirrors(n, []impl.Mirror{x, y}, []impl.Mirror{y, y}), dot)
		wantMix(t, "XorBits again", impl.XorBits(n, x, y), xor)
	}
}

// What one alone hears of a row tells nothing of its factors: for other parts there are other words with which it hears just the same.
func TestWhatIsHeardIsHidden(t *testing.T) {
	x, y := sharesOf(256, 12, 5), sharesOf(256, 250, 8)
	n := netOf(impl.SeedTape(9, 5).Tape, honest)
	want := impl.MultMirrors(n, x, y).Net.Heard[3]
	for more := range int64(256) {
		// Party 3 does not know part 3, nor its lane.
		other := cloneMirror(x)
		for party := range 3 {
			other.Views[party][3] = mod(256, other.Views[party][3]+more)
		}
		m := cloneNet(n)
		heard := impl.MultMirrors(m, other, y).Net.Heard[3]
		for word := range 3 {
			m.Tape.Lanes[3][word] = mod(256, m.Tape.Lanes[3][word]+heard[2*word]-want[2*word])
		}
		if got := impl.MultMirrors(m, other, y).Net.Heard[3]; !slices.Equal(got, want) {
			t.Errorf("%d more: %v, not %v", more, got, want)
		}
	}
}
