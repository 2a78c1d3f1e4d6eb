package tests

import (
	"math"
	"slices"
	"testing"

	"loop.example/g00525/impl"
)

// The signatures and constants of chapter 9.
var (
	_ func(impl.Mirror, int64) impl.MirrorResult          = impl.LiftBit
	_ func(impl.Net, impl.Mirror) impl.MixResult          = impl.InjectBit
	_ func(impl.Net, impl.Mirror) impl.MixResult          = impl.ReluMirror
	_ func(impl.Net, []impl.Mirror) impl.ManyResult       = impl.ReluMany
	_ [impl.DotsOfRelu - signCarries - xorDots]struct{}   = [1]struct{}{}
	_ [impl.DotsOfRelu*impl.SentOfDot - reluSent]struct{} = [0]struct{}{}
	_ [impl.DotsOfRelu - reluDots]struct{}                = [0]struct{}{}
)

// A bit as a number is three products; a sign, its bit, and the product of both make one number that is not below 0.
const (
	xorDots  = 3
	reluDots = 25
	reluSent = 300
)

func keptOf(v int64) int64 {
	if isBelow(v) == 1 {
		return 0
	}
	return v
}

// bitOf is the mirror of q 2 whose parts are the lowest four bits of a number.
func bitOf(parts int64) impl.Mirror {
	return likeMirror(2, parts&1, parts>>1&1, parts>>2&1, parts>>3&1)
}

func liftByHand(b impl.Mirror, part int) impl.Mirror {
	m := likeMirror(256, 0, 0, 0, 0)
	for party := range 4 {
		if party != part {
			m.Views[party][part] = b.Views[party][part]
		}
	}
	return m
}

// injectByHand goes by the words of the chapter, with products as they are reckoned by hand.
func injectByHand(n impl.Net, b impl.Mirror) impl.MixResult {
	low := xorByHand(n, liftByHand(b, 0), liftByHand(b, 1))
	if low.Net.Quarrel.Some {
		return low
	}
	high := xorByHand(low.Net, liftByHand(b, 2), liftByHand(b, 3))
	if high.Net.Quarrel.Some {
		return high
	}
	return xorByHand(high.Net, low.Mirror, high.Mirror)
}

func reluByHand(n impl.Net, m impl.Mirror) impl.MixResult {
	sign := signByHand(n, m)
	if sign.Net.Quarrel.Some {
		return sign
	}
	below := injectByHand(sign.Net, sign.Mirror)
	if below.Net.Quarrel.Some {
		return below
	}
	product := dotByHand(below.Net, []impl.Mirror{m}, []impl.Mirror{below.Mirror})
	if !product.Net.Quarrel.Some {
		product.Mirror = joined(m, product.Mirror, -1)
	}
	return product
}

// manyRelusByHand is one behind the other, each as one step tells it.
func manyRelusByHand(n impl.Net, list []impl.Mirror, one func(impl.Net, impl.Mirror) impl.MixResult) impl.ManyResult {
	want := impl.ManyResult{Net: n}
	for _, m := range list {
		kept := one(want.Net, m)
		want.Net = kept.Net
		if kept.Net.Quarrel.Some {
			return impl.ManyResult{Net: kept.Net}
		}
		want.Mirrors = append(want.Mirrors, kept.Mirror)
	}
	return want
}

// endOfRelu is how many products, and pairs of the next one, are gone through if one cheats, and whether that ends in a quarrel: those of the sign are by q 2, all others by Ring.
func endOfRelu(c impl.Cheat, sent int64) (int, int, bool) {
	if rows, pairs, quarrel := endOfRows(c, sent, 2, signCarries); quarrel {
		return rows, pairs, true
	}
	rows, pairs, quarrel := endOfRows(c, sent+12*signCarries, 256, reluDots-signCarries)
	return signCarries + rows, pairs, quarrel
}

// endOfRelus is the same of so many, one behind the other.
func endOfRelus(c impl.Cheat, sent int64, many int) (int, int, bool) {
	for i := range many {
		if rows, pairs, quarrel := endOfRelu(c, sent+int64(reluSent*i)); quarrel {
			return reluDots*i + rows, pairs, true
		}
	}
	return reluDots * many, 0, false
}

func TestLiftBitByHand(t *testing.T) {
	b := likeMirror(2, 1, 1, 0, 1)
	wantMirror(t, "part 0", impl.LiftBit(b, 0), mirrorOf(256, []int64{0, 0, 0, 0}, []int64{1, 0, 0, 0}, []int64{1, 0, 0, 0}, []int64{1, 0, 0, 0}))
	wantMirror(t, "part 1", impl.LiftBit(b, 1), mirrorOf(256, []int64{0, 1, 0, 0}, []int64{0, 0, 0, 0}, []int64{0, 1, 0, 0}, []int64{0, 1, 0, 0}))
	wantMirror(t, "part 2", impl.LiftBit(b, 2), likeMirror(256, 0, 0, 0, 0))
	wantMirror(t, "part 3", impl.LiftBit(b, 3), mirrorOf(256, []int64{0, 0, 0, 1}, []int64{0, 0, 0, 1}, []int64{0, 0, 0, 1}, []int64{0, 0, 0, 0}))
	// Everybody has what it knows itself.
	odd := withPart(withPart(b, 1, 0, 0), 2, 3, 0)
	wantMirror(t, "part 0, not alike", impl.LiftBit(odd, 0), mirrorOf(256, []int64{0, 0, 0, 0}, []int64{0, 0, 0, 0}, []int64{1, 0, 0, 0}, []int64{1, 0, 0, 0}))
	wantMirror(t, "part 3, not alike", impl.LiftBit(odd, 3), mirrorOf(256, []int64{0, 0, 0, 1}, []int64{0, 0, 0, 1}, []int64{0, 0, 0, 0}, []int64{0, 0, 0, 0}))
}

func TestEveryBitIsLifted(t *testing.T) {
	for bits := range 4096 {
		b := bitMirror(bits)
		for part := range 4 {
			got := impl.LiftBit(b, int64(part))
			wantMirror(t, "LiftBit", got, liftByHand(b, part))
			if fault := impl.MirrorFault(got.Mirror); fault != impl.OK {
				t.Errorf("part %d of %v: fault %d of %v", part, b, fault, got)
			}
		}
	}
}

// What is lifted is worth the part, whoever is left out, and tells nothing of the others.
func TestWhatIsLiftedIsWorthThePart(t *testing.T) {
	for parts := range int64(16) {
		for part := range int64(4) {
			got := impl.LiftBit(bitOf(parts), part)
			for _, but := range buts {
				wantInt(t, "LiftBit", impl.ValueOf(got.Mirror, but), value(parts>>part&1))
			}
			for other := range int64(16) {
				if other>>part&1 == parts>>part&1 {
					wantMirror(t, "other parts", impl.LiftBit(bitOf(other), part), got.Mirror)
				}
			}
		}
	}
}

func TestLiftBitWrong(t *testing.T) {
	for _, part := range append([]int64{0, 1, 2, 3}, noParties...) {
		for _, q := range rings {
			for _, faulty := range faultyMirrors(q) {
				wantMirrorCode(t, faulty.what, impl.LiftBit(faulty.mirror, part), faulty.code)
			}
		}
		// The ring is asked ahead of the part.
		for _, m := range someMirrors(256) {
			wantMirrorCode(t, "of Ring", impl.LiftBit(m, part), impl.ErrForm)
		}
		wantMirrorCode(t, "zero", impl.LiftBit(impl.Mirror{}, part), impl.ErrRange)
	}
	for _, no := range noParties {
		for _, m := range someMirrors(2) {
			wantMirrorCode(t, "no party", impl.LiftBit(m, no), impl.ErrRange)
		}
	}
}

// Parts 1 and 1, without words: their product stands in part 0 whole, and is taken twice.
func TestInjectBitByHand(t *testing.T) {
	n := netOf(tapeOf(nil, nil, nil, nil), honest)
	want := impl.MixResult{Mirror: likeMirror(256, 255, 1, 0, 0), Net: cloneNet(n)}
	want.Net.Used = []int64{0, 3, 6, 9}
	want.Net.Sent = 36
	want.Net.Heard = [][]int64{nil, {1, 1, 0, 0, 0, 0}, filled(12, 0), filled(18, 0)}
	wantMix(t, "parts 0 and 1", impl.InjectBit(n, likeMirror(2, 1, 1, 0, 0)), want)
	// A word of lane 1 hides it.
	n.Tape.Lanes[1] = []int64{7}
	want.Mirror = likeMirror(256, 13, 243, 0, 0)
	want.Net.Tape.Lanes[1] = []int64{7}
	want.Net.Heard[1] = []int64{250, 250, 0, 0, 0, 0}
	wantMix(t, "with a word", impl.InjectBit(n, likeMirror(2, 1, 1, 0, 0)), want)
	// Parts 2 and 3 come behind them, both sums at last: 1 in part 1, and 1 in part 2.
	n.Tape.Lanes[1] = nil
	want.Mirror = likeMirror(256, 0, 255, 1, 0)
	want.Net.Tape.Lanes[1] = nil
	want.Net.Heard = [][]int64{nil, filled(6, 0), append(filled(10, 0), 1, 1), filled(18, 0)}
	wantMix(t, "parts 1 and 2", impl.InjectBit(n, likeMirror(2, 0, 1, 1, 0)), want)
	want.Mirror = likeMirror(256, 0, 0, 255, 1)
	want.Net.Heard = [][]int64{nil, filled(6, 0), filled(12, 0), append(append(filled(10, 0), 1, 1), filled(6, 0)...)}
	wantMix(t, "parts 2 and 3", impl.InjectBit(n, likeMirror(2, 0, 0, 1, 1)), want)
}

// Both bits in every sharing, with and without words that hide them.
func TestABitAsANumberIsWorthWhatItWas(t *testing.T) {
	for parts := range int64(16) {
		b := bitOf(parts)
		for _, n := range append(someNets(), netOf(impl.SeedTape(parts, 9).Tape, honest), netOf(impl.SeedTape(parts+77, 9).Tape, honest)) {
			got := impl.InjectBit(n, b)
			for _, but := range buts {
				wantInt(t, "InjectBit", impl.ValueOf(got.Mirror, but), value(worth(b, -1)))
			}
			if got.Code != impl.OK || got.Mirror.Q != 256 || got.Net.Quarrel.Some || impl.NetFault(got.Net) != impl.OK {
				t.Errorf("%v: %v", b, got)
			}
			wantCostOfRows(t, n, got.Net, xorDots, 0)
		}
	}
	for _, bit := range []int64{0, 1} {
		got := impl.InjectBit(busyNet(honest, 6), impl.PlainMirror(2, bit).Mirror)
		wantOpen(t, "OpenMirror", impl.OpenMirror(got.Mirror, 2, 99), filled(4, bit)...)
	}
}

// Parts 0 and 1 are put together, then 2 and 3, then both.
func TestInjectBitIsReckonedAsSaid(t *testing.T) {
	for _, n := range append(someNets(), netOf(impl.SeedTape(8, 9).Tape, honest)) {
		for parts := range int64(16) {
			b := bitOf(parts)
			got := impl.InjectBit(n, b)
			wantMix(t, "InjectBit", got, injectByHand(n, b))
			low := impl.XorBits(n, impl.LiftBit(b, 0).Mirror, impl.LiftBit(b, 1).Mirror)
			high := impl.XorBits(low.Net, impl.LiftBit(b, 2).Mirror, impl.LiftBit(b, 3).Mirror)
			wantMix(t, "by XorBits", got, impl.XorBits(high.Net, low.Mirror, high.Mirror))
		}
	}
}

// Views that don't agree are no fault: everybody goes by what it has, and where that makes a quarrel it ends.
func TestInjectBitOfEveryMirror(t *testing.T) {
	ends := map[int64]int{}
	for bits := range 4096 {
		b := bitMirror(bits)
		n := netOf(impl.SeedTape(int64(bits), 9).Tape, honest)
		got := impl.InjectBit(n, b)
		wantMix(t, "InjectBit", got, injectByHand(n, b))
		if got.Net.Quarrel.Some != (got.Mirror.Q == 0) {
			t.Errorf("%v: %v", b, got)
		}
		if got.Net.Quarrel.Some {
			ends[got.Net.Sent]++
		}
	}
	// The first product has something in parts 0 and 1 alone, the second one in parts 2 and 3, the last one in all.
	for sent := range ends {
		if sent != 2 && sent < 24 {
			t.Errorf("quarrels by messages: %v", ends)
		}
	}
	if ends[2] == 0 || len(ends) != 8 {
		t.Errorf("quarrels by messages: %v", ends)
	}
}

func wantInjectOrQuarrel(t *testing.T, n impl.Net, b impl.Mirror) {
	t.Helper()
	got := impl.InjectBit(n, b)
	wantMix(t, "InjectBit", got, injectByHand(n, b))
	rows, pairs, quarrel := endOfRows(n.Cheat, n.Sent, 256, xorDots)
	wantWorthOrQuarrel(t, n, got, worth(b, -1), rows, pairs, quarrel)
}

// Each of the four, at each message of each of the three products, ahead of the first one and behind the last one.
func TestInjectBitWithOneWhoCheats(t *testing.T) {
	for _, who := range buts {
		for at := range int64(12*xorDots + 8) {
			for _, by := range []int64{0, 1, 2, 128, 255} {
				for _, cry := range []bool{false, true} {
					c := impl.Cheat{Who: who, At: at, By: by, Cry: cry}
					wantInjectOrQuarrel(t, netOf(impl.SeedTape(4, 9).Tape, c), likeMirror(2, 1, 1, 0, 1))
				}
			}
			wantInjectOrQuarrel(t, busyNet(impl.Cheat{Who: who, At: at, By: 3}, 5), likeMirror(2, 0, 1, 0, 1))
		}
	}
}

func TestAQuarrelInEachProductOfInjectBit(t *testing.T) {
	b := likeMirror(2, 1, 1, 0, 1)
	for product := range xorDots {
		for number, teller := range tellers() {
			at := int64(12*product + number)
			n := netOf(impl.SeedTape(4, 9).Tape, impl.Cheat{Who: teller, At: at, By: 2})
			got := impl.InjectBit(n, b)
			p := sixPairs[number/2]
			z := got.Net.Quarrel
			if got.Code != impl.OK || got.Mirror.Q != 0 || len(got.Mirror.Views) != 0 || !z.Some || z.From != p[2] || z.Check != p[3] || z.To != p[1] {
				t.Errorf("message %d: %v", at, got)
			}
			wantCostOfRows(t, n, got.Net, product, number/2+1)
			wantMixCode(t, "another bit", impl.InjectBit(got.Net, b), impl.ErrState)
			wantMixCode(t, "a number", impl.ReluMirror(got.Net, sharesOf(256, 9, 9)), impl.ErrState)
			// What turns nothing makes none.
			n.Cheat.By = 0
			wantInt(t, "nothing", impl.ValueOf(impl.InjectBit(n, b).Mirror, -1), value(1))
		}
	}
}

// Every number of Ring, each in several parts, with and without words that hide them.
func TestWhatIsBelowZeroBecomesZeroAndWhatIsNotStays(t *testing.T) {
	for v := range int64(256) {
		plain := impl.PlainMirror(256, v).Mirror
		for seed, n := range append(someNets(), netOf(impl.SeedTape(v, 75).Tape, honest)) {
			for _, m := range []impl.Mirror{plain, sharesOf(256, v, int64(seed)), sharesOf(256, v, v+int64(seed))} {
				got := impl.ReluMirror(n, m)
				for _, but := range buts {
					wantInt(t, "ReluMirror", impl.ValueOf(got.Mirror, but), value(keptOf(v)))
				}
				if got.Code != impl.OK || got.Mirror.Q != 256 || got.Net.Quarrel.Some || impl.NetFault(got.Net) != impl.OK {
					t.Errorf("%d: %v", v, got)
				}
				wantCostOfRows(t, n, got.Net, impl.DotsOfRelu, 0)
			}
		}
		if signed := impl.SignedOf(v).Value; keptOf(v) != max(signed, 0) {
			t.Errorf("%d: SignedOf it is %d", v, signed)
		}
	}
}

// What is kept is kept again, and opened alike by all that do not lie.
func TestWhatIsKeptStays(t *testing.T) {
	for _, v := range someNumbers {
		once := impl.ReluMirror(netOf(impl.SeedTape(v, 150).Tape, honest), sharesOf(256, v, 5))
		twice := impl.ReluMirror(once.Net, once.Mirror)
		for _, who := range buts {
			wantOpen(t, "once", impl.OpenMirror(once.Mirror, who, 255), filled(4, keptOf(v))...)
			wantOpen(t, "twice", impl.OpenMirror(twice.Mirror, who, 255), filled(4, keptOf(v))...)
		}
		if twice.Net.Sent != 600 || !slices.Equal(twice.Net.Used, []int64{0, 50, 100, 150}) {
			t.Errorf("%d: %v", v, twice.Net)
		}
	}
}

// The sign comes first, then its bit as a number, then the product.
func TestReluMirrorIsReckonedAsSaid(t *testing.T) {
	for _, n := range append(someNets(), netOf(impl.SeedTape(8, 75).Tape, honest)) {
		for _, v := range someNumbers {
			m := sharesOf(256, v, v+3)
			got := impl.ReluMirror(n, m)
			wantMix(t, "ReluMirror", got, reluByHand(n, m))
			sign := impl.SignBit(n, m)
			below := impl.InjectBit(sign.Net, sign.Mirror)
			product := impl.MultMirrors(below.Net, m, below.Mirror)
			kept := impl.SubMirrors(m, product.Mirror)
			wantMix(t, "by MultMirrors", got, impl.MixResult{Mirror: kept.Mirror, Net: product.Net})
		}
	}
}

// The highest bit is carried nowhere, so that nothing but 0 is told of 128 in one part.
func TestReluMirrorByHand(t *testing.T) {
	n := netOf(tapeOf(nil, nil, nil, nil), honest)
	want := impl.MixResult{Mirror: likeMirror(256, 0, 0, 0, 0), Net: cloneNet(n)}
	want.Net.Used = []int64{0, 25, 50, 75}
	want.Net.Sent = 300
	want.Net.Heard = [][]int64{nil, filled(50, 0), filled(100, 0), filled(150, 0)}
	wantMix(t, "128", impl.ReluMirror(n, likeMirror(256, 128, 0, 0, 0)), want)
	want.Mirror = likeMirror(256, 127, 0, 0, 0)
	wantMix(t, "127", impl.ReluMirror(n, likeMirror(256, 127, 0, 0, 0)), want)
	want.Mirror = likeMirror(256, 0, 0, 0, 0)
	wantMix(t, "128 in part 3", impl.ReluMirror(n, likeMirror(256, 0, 0, 0, 128)), want)
	// 16 and 128 have no bit together, so that 3 is told nothing but 0 ahead of the last product: 16 in part 0 times 1 in part 3.
	want.Net.Heard[3][24*6], want.Net.Heard[3][24*6+1] = 16, 16
	wantMix(t, "144 in parts 0 and 3", impl.ReluMirror(n, likeMirror(256, 16, 0, 0, 128)), want)
	// A word of lane 3 hides it there.
	n.Tape.Lanes[3] = append(filled(72, 0), 7)
	want.Net.Tape = n.Tape
	want.Net.Heard[3][24*6], want.Net.Heard[3][24*6+1] = 9, 9
	want.Mirror = likeMirror(256, 7, 0, 0, 249)
	wantMix(t, "with a word", impl.ReluMirror(n, likeMirror(256, 16, 0, 0, 128)), want)
}

// Views that don't agree are no fault here, either.
func TestReluMirrorOfViewsThatDontAgree(t *testing.T) {
	list := someMirrors(256)
	for first := range int64(12) {
		list = append(list, withPart(sharesOf(256, 20*first, first), int(first%4), int(first+1)%4, 77))
	}
	quarrels := 0
	for _, m := range list {
		for _, cheat := range []impl.Cheat{honest, {Who: 0, At: 100, By: 1}, {Who: 2, At: 270, By: 7, Cry: true}} {
			n := netOf(impl.SeedTape(8, 75).Tape, cheat)
			got := impl.ReluMirror(n, m)
			wantMix(t, "ReluMirror", got, reluByHand(n, m))
			if got.Net.Quarrel.Some {
				quarrels++
			}
		}
	}
	if quarrels == 0 || quarrels == 3*len(list) {
		t.Errorf("%d quarrels", quarrels)
	}
}

func wantReluOrQuarrel(t *testing.T, n impl.Net, m impl.Mirror) {
	t.Helper()
	rows, pairs, quarrel := endOfRelu(n.Cheat, n.Sent)
	wantWorthOrQuarrel(t, n, impl.ReluMirror(n, m), keptOf(worth(m, -1)), rows, pairs, quarrel)
}

// Each of the four, at each message of the bits, of what is injected and of the product, ahead of the first one and behind the last one.
func TestReluMirrorWithOneWhoCheats(t *testing.T) {
	below, above := sharesOf(256, 200, 6), sharesOf(256, 100, 6)
	for _, who := range buts {
		for at := range int64(reluSent + 8) {
			for _, by := range []int64{0, 1, 128} {
				for _, cry := range []bool{false, true} {
					c := impl.Cheat{Who: who, At: at, By: by, Cry: cry}
					wantReluOrQuarrel(t, netOf(impl.SeedTape(4, 75).Tape, c), below)
				}
			}
			wantReluOrQuarrel(t, busyNet(impl.Cheat{Who: who, At: at, By: 255}, 5), above)
		}
	}
}

// The first product, some in the midst of the bits and their last one, the three of what is injected, and the last one.
func TestAQuarrelInEachStepOfReluMirror(t *testing.T) {
	m := sharesOf(256, 200, 6)
	for _, product := range []int{0, 6, 7, 11, 13, 14, 20, 21, 22, 23, 24} {
		for number, teller := range tellers() {
			at := int64(12*product + number)
			n := netOf(impl.SeedTape(4, 75).Tape, impl.Cheat{Who: teller, At: at, By: 9})
			got := impl.ReluMirror(n, m)
			wantMix(t, "ReluMirror", got, reluByHand(n, m))
			wantCostOfRows(t, n, got.Net, product, number/2+1)
			p := sixPairs[number/2]
			if z := got.Net.Quarrel; !z.Some || z.From != p[2] || z.Check != p[3] || z.To != p[1] || got.Mirror.Q != 0 || len(got.Mirror.Views) != 0 {
				t.Errorf("%v: %v", n.Cheat, got)
			}
			wantMixCode(t, "another number", impl.ReluMirror(got.Net, m), impl.ErrState)
			wantManyCode(t, "others", impl.ReluMany(got.Net, []impl.Mirror{m}), impl.ErrState)
			wantManyCode(t, "none", impl.ReluMany(got.Net, nil), impl.ErrState)
			for _, other := range threeOthers(teller) {
				n.Cheat.Who = other
				wantReluOrQuarrel(t, n, m)
			}
		}
	}
}

// An even number turns nothing in the bits, which are by q 2; it does in all that is behind them.
func TestACheatThatTurnsNothing(t *testing.T) {
	m := sharesOf(256, 200, 6)
	for product := range reluDots {
		for number, teller := range tellers() {
			for _, by := range []int64{0, 2, 254} {
				n := netOf(impl.SeedTape(4, 75).Tape, impl.Cheat{Who: teller, At: int64(12*product + number), By: by})
				calm := cloneNet(n)
				calm.Cheat = honest
				got, want := impl.ReluMirror(n, m), impl.ReluMirror(calm, m)
				if quarrel := product >= signCarries && by != 0; quarrel != got.Net.Quarrel.Some {
					t.Errorf("%v: %v", n.Cheat, got.Net.Quarrel)
				} else if !quarrel {
					want.Net.Cheat = n.Cheat
					wantMix(t, "nothing is turned", got, want)
				}
			}
		}
	}
}

// Behind the last product nothing is told: whoever cheats at the message that is next, or cries out from there on, finds none.
func TestBehindTheLastProductNothingIsTold(t *testing.T) {
	for who := range int64(4) {
		for _, cry := range []bool{false, true} {
			n := netOf(impl.SeedTape(4, 75).Tape, impl.Cheat{Who: who, At: 36, By: 1, Cry: cry})
			bit := impl.InjectBit(n, likeMirror(2, 1, 1, 0, 1))
			wantInt(t, "InjectBit", impl.ValueOf(bit.Mirror, -1), value(1))
			n.Cheat.At = reluSent
			kept := impl.ReluMirror(n, sharesOf(256, 90, 4))
			wantInt(t, "ReluMirror", impl.ValueOf(kept.Mirror, -1), value(90))
			if bit.Net.Quarrel.Some || kept.Net.Quarrel.Some {
				t.Errorf("%v: %v, %v", n.Cheat, bit.Net.Quarrel, kept.Net.Quarrel)
			}
			// The next one is told there.
			pairs, quarrel := endOfDot(n.Cheat, reluSent, 2)
			two := impl.ReluMany(n, []impl.Mirror{sharesOf(256, 90, 4), sharesOf(256, 91, 4)})
			if quarrel {
				wantCostOfRows(t, n, two.Net, reluDots, pairs)
			}
			if two.Net.Quarrel.Some != quarrel || quarrel == (len(two.Mirrors) == 2) {
				t.Errorf("%v: %v", n.Cheat, two)
			}
		}
	}
}

func TestRelusBehindTheEndOfLanes(t *testing.T) {
	b, m := likeMirror(2, 1, 1, 0, 1), sharesOf(256, 100, 6)
	none := netOf(tapeOf(nil, nil, nil, nil), honest)
	bare, bareKept := impl.InjectBit(none, b), impl.ReluMirror(none, m)
	for _, used := range []int64{3, 4, 900, 65536, 99924} {
		n := netOf(smallTape(), honest)
		n.Used = []int64{used, used, used, used}
		bit, kept := impl.InjectBit(n, b), impl.ReluMirror(n, m)
		if !sameMirrors(bit.Mirror, bare.Mirror) || !sameMirrors(kept.Mirror, bareKept.Mirror) {
			t.Errorf("%d used: %v, %v", used, bit.Mirror, kept.Mirror)
		}
		wantCostOfRows(t, n, bit.Net, xorDots, 0)
		wantCostOfRows(t, n, kept.Net, reluDots, 0)
	}
	// Lanes that end in each of the products.
	for left := range int64(76) {
		n := netOf(impl.SeedTape(5, 76).Tape, honest)
		n.Used = []int64{76 - left, 76 - left, 76 - left, 76 - left}
		wantMix(t, "lanes that end", impl.InjectBit(n, b), injectByHand(n, b))
		got := impl.ReluMirror(n, m)
		wantMix(t, "lanes that end", got, reluByHand(n, m))
		wantInt(t, "lanes that end", impl.ValueOf(got.Mirror, -1), value(100))
	}
	// What stands in memory behind a lane's end is no word of it.
	under := filled(80, 77)
	n := netOf(tapeOf(under[:0], under[:0], under[:0], under[:0]), honest)
	if bit, kept := impl.InjectBit(n, b), impl.ReluMirror(n, m); !sameMirrors(bit.Mirror, bare.Mirror) || !sameMirrors(kept.Mirror, bareKept.Mirror) {
		t.Errorf("pieces: %v, %v", bit.Mirror, kept.Mirror)
	}
}

// What was asked ahead is not asked again: what begins within the bounds is reckoned to its end.
func TestRelusNearTheLastCounts(t *testing.T) {
	b, m := likeMirror(2, 1, 1, 0, 1), sharesOf(256, 100, 6)
	list := []impl.Mirror{m, m, m, m}
	for _, sent := range []int64{98799, 98800, 99699, 99700, 99963, 99964, 99988, 99999} {
		n, early := busyNet(honest, sent), busyNet(honest, 6)
		bit, kept, many := impl.InjectBit(early, b), impl.ReluMirror(early, m), impl.ReluMany(early, list)
		bit.Net.Sent, kept.Net.Sent, many.Net.Sent = sent+36, sent+300, sent+1200
		wantMix(t, "Sent", impl.InjectBit(n, b), bit)
		wantMix(t, "Sent", impl.ReluMirror(n, m), kept)
		wantMany(t, "Sent", impl.ReluMany(n, list), many)
		if fault := impl.NetFault(impl.ReluMany(n, list).Net); (fault == impl.OK) != (sent+1200 <= 99999) {
			t.Errorf("%d were sent ahead: fault %d", sent, fault)
		}
	}
	for lane := range 4 {
		n := busyNet(honest, 6)
		n.Used[lane] = 99999
		got := impl.ReluMirror(n, m)
		wantInt(t, "Used", impl.ValueOf(got.Mirror, -1), value(100))
		wantCostOfRows(t, n, got.Net, reluDots, 0)
		wantCostOfRows(t, n, impl.InjectBit(n, b).Net, xorDots, 0)
		wantCostOfRows(t, n, impl.ReluMany(n, list).Net, 4*reluDots, 0)
	}
	late := busyNet(honest, 99999)
	wantMixCode(t, "the next bit", impl.InjectBit(impl.InjectBit(late, b).Net, b), impl.ErrRange)
	wantMixCode(t, "the next number", impl.ReluMirror(impl.ReluMirror(late, m).Net, m), impl.ErrRange)
	wantManyCode(t, "the next ones", impl.ReluMany(impl.ReluMany(late, list).Net, list), impl.ErrRange)
	for _, many := range []int{0, 1, 4} {
		wantManyCode(t, "more than are counted", impl.ReluMany(busyNet(honest, 100000), list[:many]), impl.ErrRange)
	}
	wantMixCode(t, "more than are counted", impl.InjectBit(busyNet(honest, 100000), b), impl.ErrRange)
	wantMixCode(t, "more than are counted", impl.ReluMirror(busyNet(honest, 100000), m), impl.ErrRange)
}

func TestRelusInAFaultyNet(t *testing.T) {
	quarrels := []impl.Quarrel{{Some: true}, {Some: true, From: 1, Check: 2, To: 3, Told: 9}, {Some: true, From: -5}}
	for _, m := range []impl.Mirror{likeMirror(256, 1, 2, 3, 4), unlikeMirror(256, 5), {}, mirrorOf(256), likeMirror(2, 1, 0, 0, 1), mirrorOf(2), withPart(likeMirror(256, 1, 2, 3, 4), 0, 1, 256)} {
		for _, faulty := range faultyNets() {
			wantMixCode(t, faulty.what, impl.InjectBit(faulty.net, m), faulty.code)
			wantMixCode(t, faulty.what, impl.ReluMirror(faulty.net, m), faulty.code)
			for _, many := range []int{0, 1, 4, 5, 70} {
				wantManyCode(t, faulty.what, impl.ReluMany(faulty.net, slices.Repeat([]impl.Mirror{m}, many)), faulty.code)
			}
		}
		for _, z := range quarrels {
			n := busyNet(honest, 6)
			n.Quarrel = z
			wantMixCode(t, "a quarrel", impl.InjectBit(n, m), impl.ErrState)
			wantMixCode(t, "a quarrel", impl.ReluMirror(n, m), impl.ErrState)
			for _, many := range []int{0, 1, 4, 5, 70} {
				wantManyCode(t, "a quarrel", impl.ReluMany(n, slices.Repeat([]impl.Mirror{m}, many)), impl.ErrState)
			}
		}
	}
	// Some tells whether there is one.
	n := busyNet(honest, 6)
	n.Quarrel = impl.Quarrel{From: 2}
	if got := impl.InjectBit(n, likeMirror(2, 1, 0, 0, 1)); got.Code != impl.OK || got.Mirror.Q != 256 || got.Net.Sent != 42 {
		t.Errorf("no quarrel is there: %v", got)
	}
	if got := impl.ReluMirror(n, likeMirror(256, 1, 2, 3, 4)); got.Code != impl.OK || got.Mirror.Q != 256 || got.Net.Sent != 306 {
		t.Errorf("no quarrel is there: %v", got)
	}
	if got := impl.ReluMany(n, manyOf(256, 2)); got.Code != impl.OK || len(got.Mirrors) != 2 || got.Net.Sent != 606 {
		t.Errorf("no quarrel is there: %v", got)
	}
}

func TestRelusOfFaultyMirrors(t *testing.T) {
	for _, n := range []impl.Net{busyNet(honest, 6), busyNet(impl.Cheat{Who: 2, At: 6, By: 1}, 6)} {
		for _, q := range rings {
			for _, faulty := range faultyMirrors(q) {
				wantMixCode(t, faulty.what, impl.InjectBit(n, faulty.mirror), faulty.code)
				wantMixCode(t, faulty.what, impl.ReluMirror(n, faulty.mirror), faulty.code)
				wantManyCode(t, faulty.what, impl.ReluMany(n, []impl.Mirror{faulty.mirror}), faulty.code)
			}
		}
		for _, m := range someMirrors(256) {
			wantMixCode(t, "of Ring", impl.InjectBit(n, m), impl.ErrForm)
		}
		for _, m := range someMirrors(2) {
			wantMixCode(t, "q 2", impl.ReluMirror(n, m), impl.ErrForm)
			wantManyCode(t, "q 2", impl.ReluMany(n, []impl.Mirror{m}), impl.ErrForm)
		}
		wantMixCode(t, "zero", impl.InjectBit(n, impl.Mirror{}), impl.ErrRange)
		wantMixCode(t, "zero", impl.ReluMirror(n, impl.Mirror{}), impl.ErrRange)
		wantManyCode(t, "zero", impl.ReluMany(n, []impl.Mirror{{}}), impl.ErrRange)
	}
}

// None, one, and so on to four; what they are is told in order.
func TestReluMany(t *testing.T) {
	for _, n := range append(someNets(), netOf(impl.SeedTape(8, 300).Tape, honest)) {
		for many := range 5 {
			for first := range someNumbers {
				var list []impl.Mirror
				for i := range many {
					list = append(list, sharesOf(256, someNumbers[(first+5*i)%len(someNumbers)], int64(first+i)))
				}
				got := impl.ReluMany(n, list)
				wantMany(t, "ReluMany", got, manyRelusByHand(n, list, impl.ReluMirror))
				if first < 4 {
					wantMany(t, "by hand", got, manyRelusByHand(n, list, reluByHand))
				}
				wantCostOfRows(t, n, got.Net, many*reluDots, 0)
				if got.Code != impl.OK || len(got.Mirrors) != many || got.Net.Quarrel.Some {
					t.Fatalf("%d: %v", many, got)
				}
				for i, kept := range got.Mirrors {
					for _, but := range buts {
						wantInt(t, "ReluMany", impl.ValueOf(kept, but), value(keptOf(worth(list[i], -1))))
					}
				}
			}
		}
	}
}

func TestReluManyOfNone(t *testing.T) {
	for _, cheat := range []impl.Cheat{honest, {Who: 0, At: 6, By: 1}, {Who: 1, At: 0, By: 1, Cry: true}} {
		n := busyNet(cheat, 6)
		for _, none := range [][]impl.Mirror{nil, {}, make([]impl.Mirror, 0, 9)} {
			wantMany(t, "none", impl.ReluMany(n, none), impl.ManyResult{Net: n})
		}
	}
}

// One mirror may stand there more than once.
func TestReluManyOfTheSame(t *testing.T) {
	m := sharesOf(256, 77, 4)
	n := netOf(impl.SeedTape(6, 300).Tape, honest)
	got := impl.ReluMany(n, []impl.Mirror{m, m, m, m})
	for i, kept := range got.Mirrors {
		wantInt(t, "the same", impl.ValueOf(kept, -1), value(77))
		// Other words hide it.
		for _, other := range got.Mirrors[:i] {
			if sameMirrors(kept, other) {
				t.Errorf("mirror %d is one ahead of it: %v", i, kept)
			}
		}
	}
}

func wantRelusOrQuarrel(t *testing.T, n impl.Net, list []impl.Mirror) {
	t.Helper()
	got := impl.ReluMany(n, list)
	wantMany(t, "ReluMany", got, manyRelusByHand(n, list, impl.ReluMirror))
	rows, pairs, quarrel := endOfRelus(n.Cheat, n.Sent, len(list))
	wantCostOfRows(t, n, got.Net, rows, pairs)
	if got.Net.Quarrel.Some != quarrel {
		t.Fatalf("%v: quarrel %v", n.Cheat, got.Net.Quarrel)
	}
	if !quarrel {
		for i, kept := range got.Mirrors {
			wantInt(t, "ValueOf", impl.ValueOf(kept, -1), value(keptOf(worth(list[i], -1))))
		}
		return
	}
	if len(got.Mirrors) != 0 {
		t.Errorf("%v: mirrors in a quarrel: %v", n.Cheat, got.Mirrors)
	}
	wantToldApart(t, got.Net)
}

// Each of the four, at each message of four numbers, ahead of the first one and behind the last one.
func TestReluManyWithOneWhoCheats(t *testing.T) {
	list := []impl.Mirror{sharesOf(256, 5, 1), sharesOf(256, 129, 2), sharesOf(256, 128, 3), sharesOf(256, 127, 4)}
	for _, who := range buts {
		for at := range int64(4*reluSent + 8) {
			c := impl.Cheat{Who: who, At: at, By: 1 + at%2, Cry: at%3 == 0}
			wantRelusOrQuarrel(t, netOf(impl.SeedTape(4, 300).Tape, c), list)
			wantRelusOrQuarrel(t, busyNet(c, 5), list[at%4:])
		}
	}
}

// A message of each one's first product, one in its midst, its last one of the bits, and its last one.
func TestAQuarrelInEachOfReluMany(t *testing.T) {
	list := []impl.Mirror{sharesOf(256, 200, 1), sharesOf(256, 7, 2), sharesOf(256, 0, 3), sharesOf(256, 127, 4)}
	for i := range list {
		for _, product := range []int{0, 9, 20, 21, 24} {
			for number, teller := range tellers() {
				at := int64(reluSent*i + 12*product + number)
				n := netOf(impl.SeedTape(4, 300).Tape, impl.Cheat{Who: teller, At: at, By: 9})
				got := impl.ReluMany(n, list)
				wantCostOfRows(t, n, got.Net, reluDots*i+product, number/2+1)
				p := sixPairs[number/2]
				if z := got.Net.Quarrel; got.Code != impl.OK || len(got.Mirrors) != 0 || !z.Some || z.From != p[2] || z.Check != p[3] || z.To != p[1] {
					t.Errorf("message %d: %v", at, got)
				}
				wantManyCode(t, "others", impl.ReluMany(got.Net, list), impl.ErrState)
				// Those ahead of it are kept, if no more are asked for.
				if ahead := impl.ReluMany(n, list[:i]); ahead.Net.Quarrel.Some || len(ahead.Mirrors) != i {
					t.Errorf("message %d, %d numbers: %v", at, i, ahead)
				}
			}
		}
	}
}

func TestReluManyOfTooMany(t *testing.T) {
	n := busyNet(honest, 6)
	for _, many := range []int{5, 6, 8, 20, 256, 260, 70000} {
		wantManyCode(t, "too many", impl.ReluMany(n, manyOf(256, many)), impl.ErrMany)
		// Ahead of what they are.
		wantManyCode(t, "too many, with faults", impl.ReluMany(n, make([]impl.Mirror, many)), impl.ErrMany)
		wantManyCode(t, "too many, of q 2", impl.ReluMany(n, manyOf(2, many)), impl.ErrMany)
	}
}

// Each mirror is asked its fault, and whether its Q is Ring, ahead of the next one, and all of them ahead of anything that is told.
func TestReluManyOneByOne(t *testing.T) {
	kinds := []faultyMirror{
		{"form", mirrorOf(256), impl.ErrForm},
		{"range", withPart(likeMirror(256, 1, 1, 1, 1), 1, 3, 256), impl.ErrRange},
		{"q 2", likeMirror(2, 1, 0, 0, 0), impl.ErrForm},
		{"q 2, range", withPart(likeMirror(2, 1, 1, 1, 1), 1, 3, 2), impl.ErrRange},
		{"no ring", mirrorOf(3), impl.ErrRange},
	}
	for _, n := range []impl.Net{busyNet(honest, 6), busyNet(impl.Cheat{Who: 2, At: 6, By: 1}, 6)} {
		for many := 1; many <= 4; many++ {
			for first := range many {
				for _, ahead := range kinds {
					list := manyOf(256, many)
					list[first] = ahead.mirror
					wantManyCode(t, ahead.what, impl.ReluMany(n, list), ahead.code)
					for second := first + 1; second < many; second++ {
						for _, behind := range kinds {
							list := slices.Clone(list)
							list[second] = behind.mirror
							wantManyCode(t, ahead.what+" ahead of "+behind.what, impl.ReluMany(n, list), ahead.code)
						}
					}
				}
			}
		}
	}
	for _, q := range rings {
		for _, faulty := range faultyMirrors(q) {
			list := manyOf(256, 4)
			list[3] = faulty.mirror
			wantManyCode(t, faulty.what, impl.ReluMany(busyNet(honest, 6), list), faulty.code)
		}
	}
}

// A layer, and what of it is not below 0.
func TestReluOfALayer(t *testing.T) {
	for seed := range int64(20) {
		l := layerOf(256, 4, 3, seed)
		rows := l.mirrors(netOf(impl.SeedTape(seed, 320).Tape, honest))
		kept := impl.ReluMany(rows.Net, rows.Mirrors)
		for i, v := range l.worths() {
			wantInt(t, "a row", impl.ValueOf(kept.Mirrors[i], -1), value(keptOf(v)))
		}
		wantCostOfRows(t, rows.Net, kept.Net, 4*reluDots, 0)
	}
}

// reluAnswers are answers of all functions of the chapter, as many mirrors, with a quarrel and without one.
func reluAnswers(n impl.Net, m impl.Mirror, b impl.Mirror) []impl.ManyResult {
	calm, late, last := n, n, n
	calm.Cheat, late.Cheat, last.Cheat = honest, impl.Cheat{Who: 2, At: n.Sent + 27, By: 9}, impl.Cheat{Who: 2, At: n.Sent + 315, By: 9}
	var answers []impl.ManyResult
	for _, net := range []impl.Net{calm, n, late, last} {
		bit, kept := impl.InjectBit(net, b), impl.ReluMirror(net, m)
		answers = append(answers, impl.ReluMany(net, nil), impl.ReluMany(net, []impl.Mirror{m, m, m}),
			impl.ManyResult{Code: bit.Code, Mirrors: []impl.Mirror{bit.Mirror}, Net: bit.Net},
			impl.ManyResult{Code: kept.Code, Mirrors: []impl.Mirror{kept.Mirror}, Net: kept.Net})
	}
	for part := range int64(4) {
		lifted := impl.LiftBit(b, part)
		answers = append(answers, impl.ManyResult{Code: lifted.Code, Mirrors: []impl.Mirror{lifted.Mirror}})
	}
	return answers
}

func TestRelusChangeNoArgument(t *testing.T) {
	kept := []int64{1, 2, 3, 4, 5, 6, 7, 8, 0, 1, 2, 3, 20, 21, 22, 23, 24, 25, 26, 27, 42, 43, 44, 45}
	parts := []int64{0, 5, 6, 7, 4, 0, 6, 7, 4, 5, 0, 7, 4, 5, 6, 0, 77, 78, 79}
	small := []int64{0, 1, 0, 1, 1, 0, 0, 1, 1, 1, 0, 1, 1, 1, 0, 0, 77, 78, 79}
	under, ofMirror, ofBit := slices.Clone(kept), slices.Clone(parts), slices.Clone(small)
	n, m, bit := laidNet(under), laidMirror(256, ofMirror), laidMirror(2, ofBit)
	before := cloneNet(n)
	list := []impl.Mirror{m, m, m, m, {Q: 7}}
	for _, cheat := range []impl.Cheat{n.Cheat, honest, {Who: 2, At: 6, By: 9}, {Who: 2, At: 265, By: 9}, {Who: 3, At: 700, By: 9}} {
		n.Cheat, before.Cheat = cheat, cheat
		for many := range 6 {
			impl.ReluMany(n, list[:many])
			impl.ReluMany(n, list[many:])
		}
		for part := range int64(5) {
			impl.LiftBit(m, part)
			impl.LiftBit(bit, part)
		}
		impl.InjectBit(n, m)
		impl.InjectBit(n, bit)
		impl.ReluMirror(n, m)
		impl.ReluMirror(n, bit)
	}
	if !slices.Equal(under, kept) || !slices.Equal(ofMirror, parts) || !slices.Equal(ofBit, small) || !sameNets(n, before) {
		t.Errorf("an argument was changed: %v, %v, %v", under, ofMirror, ofBit)
	}
	for i, other := range list[:4] {
		if !sameMirrors(other, laidMirror(256, parts)) {
			t.Errorf("mirror %d was changed: %v", i, other)
		}
	}
	if !sameMirrors(bit, laidMirror(2, small)) || list[4].Q != 7 || list[4].Views != nil {
		t.Errorf("a bit or a list was changed: %v, %v", bit, list)
	}
}

func TestRelusAreNewMemory(t *testing.T) {
	kept := []int64{1, 2, 3, 4, 5, 6, 7, 8, 0, 1, 2, 3, 20, 21, 22, 23, 24, 25, 26, 27, 42, 43, 44, 45}
	parts := []int64{0, 5, 6, 7, 4, 0, 6, 7, 4, 5, 0, 7, 4, 5, 6, 0}
	small := []int64{0, 1, 0, 1, 1, 0, 0, 1, 1, 1, 0, 1, 1, 1, 0, 0}
	under, ofMirror, ofBit := slices.Clone(kept), slices.Clone(parts), slices.Clone(small)
	n, m, bit := laidNet(under), laidMirror(256, ofMirror), laidMirror(2, ofBit)
	first, second := reluAnswers(n, m, bit), reluAnswers(n, m, bit)
	var want []impl.ManyResult
	for _, answer := range second {
		want = append(want, cloneMany(answer))
	}
	for _, answer := range first {
		spoilMany(answer)
	}
	if !slices.Equal(under, kept) || !slices.Equal(ofMirror, parts) || !slices.Equal(ofBit, small) || !sameMirrors(m, laidMirror(256, parts)) {
		t.Fatalf("an answer shares memory with an argument: %v, %v, %v", under, ofMirror, ofBit)
	}
	for i, later := range reluAnswers(n, m, bit) {
		wantMany(t, "a later answer", later, want[i])
	}
	spoilNet(n)
	spoilList(ofMirror)
	spoilList(ofBit)
	for i, answer := range second {
		wantMany(t, "when others and the arguments are written over", answer, want[i])
	}
}

// Lists of the arguments may be one memory; those of an answer never are.
func TestNoTwoListsOfRelusShareMemory(t *testing.T) {
	one := []int64{0, 0, 0, 0}
	lists := [][]int64{one, one, one, one}
	n := impl.Net{Tape: impl.Tape{Lanes: lists}, Used: one, Heard: lists, Cheat: impl.Cheat{Who: 3, At: 2, By: 3, Cry: true}}
	wantListsApart(t, reluAnswers(n, impl.Mirror{Q: 256, Views: lists}, impl.Mirror{Q: 2, Views: lists}))
	if !slices.Equal(one, []int64{0, 0, 0, 0}) {
		t.Errorf("an answer shares memory with an argument: %v", one)
	}
}

func TestRelusAnswerTheSameAgain(t *testing.T) {
	b, m := likeMirror(2, 1, 1, 0, 1), sharesOf(256, 100, 6)
	list := []impl.Mirror{m, sharesOf(256, 200, 6)}
	for _, cheat := range []impl.Cheat{honest, {Who: 0, At: 268, By: 9}} {
		n := busyNet(cheat, 2)
		lifted, bit, kept, many := impl.LiftBit(b, 2), impl.InjectBit(n, b), impl.ReluMirror(n, m), impl.ReluMany(n, list)
		impl.InjectBit(bit.Net, likeMirror(2, 0, 1, 1, 1))
		impl.ReluMirror(kept.Net, sharesOf(256, 9, 9))
		impl.ReluMany(busyNet(honest, 50), manyOf(256, 4))
		impl.LiftBit(b, 3)
		impl.LiftBit(impl.Mirror{}, math.MinInt64)
		impl.InjectBit(impl.Net{}, impl.Mirror{})
		impl.ReluMirror(impl.Net{}, impl.Mirror{})
		impl.ReluMany(impl.Net{}, make([]impl.Mirror, 9))
		wantMirror(t, "LiftBit again", impl.LiftBit(b, 2), lifted.Mirror)
		wantMix(t, "InjectBit again", impl.InjectBit(n, b), bit)
		wantMix(t, "ReluMirror again", impl.ReluMirror(n, m), kept)
		wantMany(t, "ReluMany again", impl.ReluMany(n, list), many)
	}
}
