package tests

import (
	"math"
	"slices"
	"testing"

	"loop.example/g00525/impl"
)

// The signatures of chapter 8.
var (
	_ func(impl.Mirror, int64) impl.ManyBits                       = impl.PartBits
	_ func(impl.Net, []impl.Mirror, []impl.Mirror) impl.ManyResult = impl.AddBits
	_ func(impl.Net, impl.Mirror) impl.MixResult                   = impl.SignBit
	_ func([]impl.Mirror, int64) impl.IntResult                    = impl.ValueBits
	_                                                              = impl.ManyBits{Code: impl.OK, Mirrors: []impl.Mirror{}}
)

// A sum has a carry behind each bit but the last one; a sign is in the last bit of three sums.
const (
	carries     = 7
	signCarries = 3 * carries
)

// someNumbers are spread over the whole ring, its edges among them.
var someNumbers = []int64{0, 1, 2, 3, 5, 64, 85, 100, 126, 127, 128, 129, 170, 200, 254, 255}

func wantBits(t *testing.T, what string, got impl.ManyBits, want []impl.Mirror) {
	t.Helper()
	if got.Code != impl.OK || !slices.EqualFunc(got.Mirrors, want, sameMirrors) {
		t.Errorf("%s: got %v, want %v", what, got, want)
	}
}

func wantBitsCode(t *testing.T, what string, got impl.ManyBits, want int64) {
	t.Helper()
	if got.Code != want || len(got.Mirrors) != 0 {
		t.Errorf("%s: got %v, want code %d and no mirrors", what, got, want)
	}
}

// wantValueBits asks what bits are worth, whoever is left out.
func wantValueBits(t *testing.T, what string, list []impl.Mirror, want int64) {
	t.Helper()
	for _, but := range buts {
		wantInt(t, what, impl.ValueBits(list, but), value(want))
	}
}

// bitsWorth are bits that are worth v, each in parts that hide it.
func bitsWorth(v int64, seed int64) []impl.Mirror {
	list := make([]impl.Mirror, 8)
	for place := range list {
		list[place] = sharesOf(2, v>>place&1, seed+int64(5*place))
		seed = (seed*75 + 74) % 65537
	}
	return list
}

// unlikeBits are bits in views that don't agree.
func unlikeBits(first int64) []impl.Mirror {
	list := make([]impl.Mirror, 8)
	for place := range list {
		list[place] = unlikeMirror(2, first+int64(100*place))
	}
	return list
}

// partBitsByHand is what each party knows of a part, bit by bit.
func partBitsByHand(m impl.Mirror, part int64) []impl.Mirror {
	list := manyOf(2, 8)
	for place, bit := range list {
		for party := range 4 {
			if int64(party) != part {
				bit.Views[party][part] = m.Views[party][part] >> place & 1
			}
		}
	}
	return list
}

// addByHand goes by the words of the chapter, with products as they are reckoned by hand.
func addByHand(n impl.Net, a []impl.Mirror, b []impl.Mirror) impl.ManyResult {
	want := impl.ManyResult{Net: n}
	c := likeMirror(2, 0, 0, 0, 0)
	for place := range 8 {
		want.Mirrors = append(want.Mirrors, joined(joined(a[place], b[place], 1), c, 1))
		if place == 7 {
			break
		}
		product := dotByHand(want.Net, []impl.Mirror{joined(a[place], c, 1)}, []impl.Mirror{joined(b[place], c, 1)})
		want.Net = product.Net
		if product.Net.Quarrel.Some {
			return impl.ManyResult{Net: product.Net}
		}
		c = joined(product.Mirror, c, 1)
	}
	return want
}

// signByHand is the last bit of three sums, one behind the other.
func signByHand(n impl.Net, m impl.Mirror) impl.MixResult {
	low := addByHand(n, partBitsByHand(m, 0), partBitsByHand(m, 1))
	if low.Net.Quarrel.Some {
		return impl.MixResult{Net: low.Net}
	}
	high := addByHand(low.Net, partBitsByHand(m, 2), partBitsByHand(m, 3))
	if high.Net.Quarrel.Some {
		return impl.MixResult{Net: high.Net}
	}
	sum := addByHand(high.Net, low.Mirrors, high.Mirrors)
	if sum.Net.Quarrel.Some {
		return impl.MixResult{Net: sum.Net}
	}
	return impl.MixResult{Mirror: sum.Mirrors[7], Net: sum.Net}
}

func isBelow(v int64) int64 {
	if v >= 128 {
		return 1
	}
	return 0
}

func TestPartBitsByHand(t *testing.T) {
	m := likeMirror(256, 5, 130, 255, 0)
	one, no := likeMirror(2, 1, 0, 0, 0), likeMirror(2, 0, 0, 0, 0)
	wantBits(t, "5", impl.PartBits(m, 0), []impl.Mirror{one, no, one, no, no, no, no, no})
	one = likeMirror(2, 0, 1, 0, 0)
	wantBits(t, "130", impl.PartBits(m, 1), []impl.Mirror{no, one, no, no, no, no, no, one})
	one = likeMirror(2, 0, 0, 1, 0)
	wantBits(t, "255", impl.PartBits(m, 2), []impl.Mirror{one, one, one, one, one, one, one, one})
	wantBits(t, "0", impl.PartBits(m, 3), []impl.Mirror{no, no, no, no, no, no, no, no})
	// Everybody has the bits of what it knows itself.
	odd := withPart(withPart(m, 1, 0, 4), 3, 0, 133)
	wantBits(t, "5, 4 and 133", impl.PartBits(odd, 0), []impl.Mirror{
		withPart(likeMirror(2, 1, 0, 0, 0), 1, 0, 0), no, likeMirror(2, 1, 0, 0, 0), no, no, no, no,
		mirrorOf(2, []int64{0, 0, 0, 0}, []int64{0, 0, 0, 0}, []int64{0, 0, 0, 0}, []int64{1, 0, 0, 0}),
	})
}

func TestPartBits(t *testing.T) {
	for _, m := range someMirrors(256) {
		for part := range int64(4) {
			got := impl.PartBits(m, part)
			wantBits(t, "PartBits", got, partBitsByHand(m, part))
			for _, bit := range got.Mirrors {
				if fault := impl.MirrorFault(bit); fault != impl.OK || bit.Q != 2 {
					t.Errorf("part %d of %v: fault %d of %v", part, m, fault, bit)
				}
			}
		}
	}
}

// Everybody but that party knows all bits of a part, that party none.
func TestEveryPart(t *testing.T) {
	for part := range int64(4) {
		for v := range int64(256) {
			parts := []int64{v ^ 255, 77, v / 2, 255}
			parts[part] = v
			got := impl.PartBits(likeMirror(256, parts[0], parts[1], parts[2], parts[3]), part)
			wantValueBits(t, "ValueBits", got.Mirrors, v)
			for place, bit := range got.Mirrors {
				for party, view := range bit.Views {
					want := make([]int64, 4)
					if int64(party) != part {
						want[part] = v >> place & 1
					}
					if !slices.Equal(view, want) {
						t.Errorf("bit %d of %d, part %d: party %d has %v", place, v, part, party, view)
					}
				}
			}
		}
	}
}

// The bits of one part tell nothing of the others.
func TestPartBitsAreOfOnePartAlone(t *testing.T) {
	for part := range 4 {
		want := impl.PartBits(likeMirror(256, 91, 91, 91, 91), int64(part))
		for _, other := range someNumbers {
			parts := filled(4, other)
			parts[part] = 91
			wantBits(t, "others", impl.PartBits(likeMirror(256, parts[0], parts[1], parts[2], parts[3]), int64(part)), want.Mirrors)
		}
	}
}

func TestPartBitsWrong(t *testing.T) {
	parties := append([]int64{0, 1, 2, 3}, noParties...)
	for _, part := range parties {
		for _, q := range rings {
			for _, faulty := range faultyMirrors(q) {
				wantBitsCode(t, faulty.what, impl.PartBits(faulty.mirror, part), faulty.code)
			}
		}
		// The ring is asked ahead of the part.
		for _, m := range someMirrors(2) {
			wantBitsCode(t, "q 2", impl.PartBits(m, part), impl.ErrForm)
		}
		wantBitsCode(t, "zero", impl.PartBits(impl.Mirror{}, part), impl.ErrRange)
	}
	for _, no := range noParties {
		for _, m := range someMirrors(256) {
			wantBitsCode(t, "no party", impl.PartBits(m, no), impl.ErrRange)
		}
	}
}

func TestValueBits(t *testing.T) {
	for v := range int64(256) {
		for seed := range int64(8) {
			wantValueBits(t, "ValueBits", bitsWorth(v, seed+v), v)
		}
		plain := make([]impl.Mirror, 8)
		for place := range plain {
			plain[place] = likeMirror(2, v>>place&1, 0, 0, 0)
		}
		wantValueBits(t, "plain bits", plain, v)
	}
}

// The lowest one stands first.
func TestValueBitsOfOneBit(t *testing.T) {
	for place := range 8 {
		list := manyOf(2, 8)
		list[place] = likeMirror(2, 1, 1, 0, 1)
		wantValueBits(t, "one bit", list, 1<<place)
		for i := range list {
			list[i] = likeMirror(2, 0, 1, 0, 0)
		}
		list[place] = likeMirror(2, 1, 0, 1, 0)
		wantValueBits(t, "all but one", list, 255-1<<place)
	}
}

// Where one has something else, the others know what the bits are worth without it; nobody knows it with that one, or where two have something else.
func TestValueBitsOfBitsThatAreNotAlike(t *testing.T) {
	odd := func(m impl.Mirror, party int, part int) impl.Mirror {
		return withPart(m, party, part, 1-m.Views[party][part])
	}
	for place := range 8 {
		for party := range 4 {
			for part := range 4 {
				if part == party {
					continue
				}
				list := bitsWorth(201, 9)
				list[place] = odd(list[place], party, part)
				for _, but := range buts {
					want := code(impl.ErrState)
					if but == int64(party) {
						want = value(201)
					}
					wantInt(t, "one has something else", impl.ValueBits(list, but), want)
				}
				other := (place + 1 + party) % 8
				list[other] = odd(list[other], part, party)
				for _, but := range buts {
					wantInt(t, "two have something else", impl.ValueBits(list, but), code(impl.ErrState))
				}
			}
		}
	}
}

// Each bit is worth what all but one know of it.
func TestValueBitsIsTheWorthOfEach(t *testing.T) {
	for first := range 64 {
		list := make([]impl.Mirror, 8)
		for place := range list {
			list[place] = bitMirror((first*65 + place*585) % 4096)
			if place != first%8 && place != first/8 {
				list[place] = likeMirror(2, 1, 0, int64(first+place)%2, 1)
			}
		}
		for _, but := range buts {
			sum, alike := int64(0), true
			for place, m := range list {
				sum += worth(m, but) << place
				alike = alike && agree(m, but)
			}
			want := code(impl.ErrState)
			if alike {
				want = value(sum)
			}
			wantInt(t, "ValueBits", impl.ValueBits(list, but), want)
		}
	}
}

func TestValueBitsOfNotAsMany(t *testing.T) {
	for _, but := range append(slices.Clone(buts), noButs...) {
		wantInt(t, "nil", impl.ValueBits(nil, but), code(impl.ErrMany))
		for _, many := range []int{0, 1, 2, 7, 9, 16, 256, 264, 70000} {
			wantInt(t, "not as many", impl.ValueBits(manyOf(2, many), but), code(impl.ErrMany))
			// Ahead of what they are.
			wantInt(t, "not as many, with faults", impl.ValueBits(make([]impl.Mirror, many), but), code(impl.ErrMany))
			wantInt(t, "not as many, of Ring", impl.ValueBits(manyOf(256, many), but), code(impl.ErrMany))
		}
	}
}

func TestValueBitsWrong(t *testing.T) {
	for place := range 8 {
		for _, but := range buts {
			for _, q := range rings {
				for _, faulty := range faultyMirrors(q) {
					list := bitsWorth(90, 4)
					list[place] = faulty.mirror
					wantInt(t, faulty.what, impl.ValueBits(list, but), code(faulty.code))
				}
			}
			list := bitsWorth(90, 4)
			for _, m := range []impl.Mirror{likeMirror(256, 1, 0, 0, 0), likeMirror(256, 0, 0, 0, 0), likeMirror(256, 200, 100, 50, 25)} {
				list[place] = m
				wantInt(t, "of Ring", impl.ValueBits(list, but), code(impl.ErrForm))
			}
			// One that is worth nothing tells so ahead of its ring.
			list[place] = unlikeMirror(256, 5)
			wantInt(t, "of Ring, not alike", impl.ValueBits(list, but), code(impl.ErrState))
		}
		wantInt(t, "all of Ring", impl.ValueBits(manyOf(256, 8), -1), code(impl.ErrForm))
	}
}

// The first one is asked its fault ahead of who is left out; that is asked ahead of all else.
func TestValueBitsWithNobodyToLeaveOut(t *testing.T) {
	for _, no := range noButs {
		for _, list := range [][]impl.Mirror{bitsWorth(90, 4), manyOf(256, 8), unlikeBits(3), append(manyOf(2, 1), make([]impl.Mirror, 7)...)} {
			wantInt(t, "no but", impl.ValueBits(list, no), code(impl.ErrRange))
		}
		for _, faulty := range faultyMirrors(2) {
			list := bitsWorth(90, 4)
			list[0] = faulty.mirror
			wantInt(t, faulty.what, impl.ValueBits(list, no), code(faulty.code))
		}
	}
}

// Each one is asked its fault, what it is worth, and its ring, ahead of the next one.
func TestValueBitsOneByOne(t *testing.T) {
	kinds := []faultyMirror{
		{"form", mirrorOf(2), impl.ErrForm},
		{"range", withPart(likeMirror(2, 1, 1, 1, 1), 1, 3, 2), impl.ErrRange},
		{"of Ring", likeMirror(256, 1, 0, 0, 0), impl.ErrForm},
		{"no ring", mirrorOf(3), impl.ErrRange},
		{"not alike", unlikeMirror(2, 5), impl.ErrState},
		{"of Ring, not alike", unlikeMirror(256, 5), impl.ErrState},
	}
	for first := range 8 {
		for second := first + 1; second < 8; second++ {
			for _, ahead := range kinds {
				for _, behind := range kinds {
					list := bitsWorth(90, 4)
					list[first], list[second] = ahead.mirror, behind.mirror
					wantInt(t, ahead.what+" ahead of "+behind.what, impl.ValueBits(list, -1), code(ahead.code))
				}
			}
		}
	}
}

// 3 and 1, in parts 0 and 3: all that is told of them is told to party 3, and all that is carried stands in part 0.
func TestAddBitsByHand(t *testing.T) {
	no, zero, three := likeMirror(2, 0, 0, 0, 0), likeMirror(2, 1, 0, 0, 0), likeMirror(2, 0, 0, 0, 1)
	a := []impl.Mirror{zero, zero, no, no, no, no, no, no}
	b := []impl.Mirror{three, no, no, no, no, no, no, no}
	n := netOf(tapeOf(nil, nil, nil, nil), honest)
	want := impl.ManyResult{Mirrors: []impl.Mirror{likeMirror(2, 1, 0, 0, 1), no, zero, no, no, no, no, no}, Net: cloneNet(n)}
	want.Net.Used = []int64{0, 7, 14, 21}
	want.Net.Sent = 84
	want.Net.Heard = [][]int64{nil, filled(14, 0), filled(28, 0), append([]int64{1, 1}, filled(40, 0)...)}
	wantMany(t, "AddBits", impl.AddBits(n, a, b), want)
	wantValueBits(t, "3 and 1", want.Mirrors, 4)
	// A word of lane 3 hides it, and stands in part 3 of what is carried, and in part 0.
	n = netOf(tapeOf(nil, nil, nil, []int64{255}), honest)
	want.Mirrors[1] = likeMirror(2, 1, 0, 0, 1)
	got := impl.AddBits(n, a, b)
	if !slices.Equal(got.Net.Heard[3][:6], []int64{0, 0, 0, 0, 0, 0}) || !sameMirrors(got.Mirrors[1], want.Mirrors[1]) {
		t.Errorf("with a word: %v", got)
	}
	wantMany(t, "with a word", got, addByHand(n, a, b))
	wantValueBits(t, "3 and 1", got.Mirrors, 4)
}

func TestAddBitsIsReckonedAsSaid(t *testing.T) {
	for i, v := range someNumbers {
		for j, w := range someNumbers {
			a, b := bitsWorth(v, int64(i+3*j)), bitsWorth(w, int64(7*i+j+50))
			for _, n := range someNets() {
				got := impl.AddBits(n, a, b)
				wantMany(t, "AddBits", got, addByHand(n, a, b))
				wantCostOfRows(t, n, got.Net, carries, 0)
				if got.Net.Quarrel.Some || impl.NetFault(got.Net) != impl.OK {
					t.Errorf("%d and %d: %v", v, w, got.Net)
				}
			}
		}
	}
}

// All sums of two elements, those among them that leave the ring.
func TestBitsThatAreAddedAreTheBitsOfTheSum(t *testing.T) {
	n := netOf(impl.SeedTape(77, 22).Tape, honest)
	for v := range int64(256) {
		for w := range int64(256) {
			sum := impl.AddBits(n, bitsWorth(v, w), bitsWorth(w, v+9))
			wantInt(t, "ValueBits", impl.ValueBits(sum.Mirrors, (v+w)%5-1), value((v+w)%256))
		}
	}
	for _, v := range someNumbers {
		for _, w := range someNumbers {
			sum := impl.AddBits(n, bitsWorth(v, w+1), bitsWorth(w, v+2))
			wantValueBits(t, "ValueBits", sum.Mirrors, (v+w)%256)
			if sum.Net.Sent != 84 || !slices.Equal(sum.Net.Used, []int64{0, 7, 14, 21}) {
				t.Errorf("%d and %d: %v", v, w, sum.Net)
			}
		}
	}
}

// Sums of parts, and of sums.
func TestSumsOfPartBits(t *testing.T) {
	n := netOf(impl.SeedTape(5, 80).Tape, honest)
	for seed := range int64(40) {
		m := sharesOf(256, 7*seed, seed)
		parts := []int64{m.Views[1][0], m.Views[0][1], m.Views[0][2], m.Views[0][3]}
		for i := range 4 {
			for j := range 4 {
				one, other := impl.PartBits(m, int64(i)).Mirrors, impl.PartBits(m, int64(j)).Mirrors
				sum := impl.AddBits(n, one, other)
				wantValueBits(t, "two parts", sum.Mirrors, (parts[i]+parts[j])%256)
				next := impl.AddBits(sum.Net, sum.Mirrors, other)
				wantValueBits(t, "three parts", next.Mirrors, (parts[i]+2*parts[j])%256)
				wantCostOfRows(t, n, next.Net, 2*carries, 0)
			}
		}
	}
}

// Mirrors that don't agree are no fault: everybody goes by what it has, and where that makes a quarrel it ends.
func TestAddBitsThatAreNotAlike(t *testing.T) {
	quarrels := 0
	for first := range int64(60) {
		a, b := unlikeBits(first), bitsWorth(3*first, first)
		// The later the bit that is not alike, the later the quarrel.
		for place := range first % 8 {
			a[place] = likeMirror(2, 1, first%2, 0, 1)
		}
		for _, cheat := range []impl.Cheat{honest, {Who: 0, At: 18, By: 1}, {Who: 2, At: 15, By: 7, Cry: true}} {
			n := busyNet(cheat, 0)
			for _, lists := range [][2][]impl.Mirror{{a, b}, {b, a}, {a, a}} {
				got := impl.AddBits(n, lists[0], lists[1])
				wantMany(t, "AddBits", got, addByHand(n, lists[0], lists[1]))
				if got.Net.Quarrel.Some {
					quarrels++
				}
			}
		}
	}
	if quarrels == 0 || quarrels == 540 {
		t.Errorf("%d quarrels", quarrels)
	}
	// In the last bit nobody tells anything.
	a := bitsWorth(90, 4)
	a[7] = unlikeMirror(2, 5)
	n := busyNet(honest, 6)
	got := impl.AddBits(n, a, bitsWorth(70, 8))
	wantMany(t, "the last bit", got, addByHand(n, a, bitsWorth(70, 8)))
	wantCostOfRows(t, n, got.Net, carries, 0)
}

// wantToldApart asks of a quarrel what is promised of one who cheats.
func wantToldApart(t *testing.T, n impl.Net) {
	t.Helper()
	apart, trusted := impl.JudgeQuarrel(n.Quarrel), impl.TrustedOf(n.Quarrel)
	if who := n.Cheat.Who; apart.Code != impl.OK || who != apart.First && who != apart.Second || trusted.Value == who {
		t.Errorf("%v: %v are told apart, %v is trusted", n.Cheat, apart, trusted)
	}
}

// wantSumOrQuarrel asks of a sum what is promised, whoever cheats.
func wantSumOrQuarrel(t *testing.T, n impl.Net, v int64, w int64) {
	t.Helper()
	a, b := bitsWorth(v, 3), bitsWorth(w, 8)
	got := impl.AddBits(n, a, b)
	wantMany(t, "AddBits", got, addByHand(n, a, b))
	rows, pairs, quarrel := endOfRows(n.Cheat, n.Sent, 2, carries)
	wantCostOfRows(t, n, got.Net, rows, pairs)
	if got.Net.Quarrel.Some != quarrel {
		t.Fatalf("%v: quarrel %v", n.Cheat, got.Net.Quarrel)
	}
	if !quarrel {
		wantValueBits(t, "ValueBits", got.Mirrors, (v+w)%256)
		return
	}
	if len(got.Mirrors) != 0 {
		t.Errorf("%v: mirrors in a quarrel: %v", n.Cheat, got.Mirrors)
	}
	wantToldApart(t, got.Net)
}

// Each of the four, at each message of each carry, ahead of the first one and behind the last one; an even number turns nothing.
func TestAddBitsWithOneWhoCheats(t *testing.T) {
	for _, who := range buts {
		for at := range int64(12*carries + 8) {
			for _, by := range []int64{0, 1, 128, 255} {
				for _, cry := range []bool{false, true} {
					c := impl.Cheat{Who: who, At: at, By: by, Cry: cry}
					wantSumOrQuarrel(t, netOf(impl.SeedTape(4, 30).Tape, c), 213, 91)
				}
			}
			wantSumOrQuarrel(t, busyNet(impl.Cheat{Who: who, At: at, By: 3}, 5), 127, 1)
		}
	}
}

// A message of the first carry, of each one in the midst, and of the last one; nobody else tells this message.
func TestAQuarrelInEachCarry(t *testing.T) {
	a, b := bitsWorth(213, 3), bitsWorth(91, 8)
	for carry := range carries {
		for number, teller := range tellers() {
			at := int64(12*carry + number)
			n := netOf(impl.SeedTape(4, 30).Tape, impl.Cheat{Who: teller, At: at, By: 9})
			got := impl.AddBits(n, a, b)
			p := sixPairs[number/2]
			z := got.Net.Quarrel
			if got.Code != impl.OK || len(got.Mirrors) != 0 || !z.Some || z.From != p[2] || z.Check != p[3] || z.To != p[1] {
				t.Errorf("message %d: %v", at, got)
			}
			wantCostOfRows(t, n, got.Net, carry, number/2+1)
			wantManyCode(t, "another sum", impl.AddBits(got.Net, a, b), impl.ErrState)
			for _, other := range threeOthers(teller) {
				n.Cheat.Who = other
				if got := impl.AddBits(n, a, b); got.Net.Quarrel.Some || len(got.Mirrors) != 8 {
					t.Errorf("message %d, %d cheats: %v", at, other, got.Net.Quarrel)
				}
			}
			// What turns nothing makes none.
			n.Cheat = impl.Cheat{Who: teller, At: at, By: 254}
			wantValueBits(t, "an even number", impl.AddBits(n, a, b).Mirrors, (213+91)%256)
		}
	}
}

func TestAQuarrelInTheFirstCarryByHand(t *testing.T) {
	no, zero, three := likeMirror(2, 0, 0, 0, 0), likeMirror(2, 1, 0, 0, 0), likeMirror(2, 0, 0, 0, 1)
	a := []impl.Mirror{zero, zero, no, no, no, no, no, no}
	b := []impl.Mirror{three, no, no, no, no, no, no, no}
	n := netOf(tapeOf(nil, nil, nil, nil), impl.Cheat{Who: 2, At: 5, By: 7})
	want := impl.ManyResult{Net: cloneNet(n)}
	want.Net.Used = []int64{0, 1, 1, 1}
	want.Net.Sent = 6
	want.Net.Heard = [][]int64{nil, {0, 0}, {0, 0}, {1, 0}}
	want.Net.Quarrel = impl.Quarrel{Some: true, From: 1, Check: 2, To: 3, Told: 1, Heard: 1, Other: 0, Vowed: 1}
	wantMany(t, "AddBits", impl.AddBits(n, a, b), want)
	// Of a sign it is the first bit of parts 0 and 1.
	m := likeMirror(256, 3, 0, 0, 1)
	n.Cheat.At = 4
	n.Cheat.Who = 1
	sign := impl.MixResult{Net: cloneNet(n)}
	sign.Net.Used = []int64{0, 1, 1, 1}
	sign.Net.Sent = 6
	sign.Net.Heard = [][]int64{nil, {0, 0}, {0, 0}, {1, 0}}
	sign.Net.Quarrel = impl.Quarrel{Some: true, From: 1, Check: 2, To: 3, Told: 0, Heard: 1, Other: 0, Vowed: 0}
	wantMix(t, "SignBit", impl.SignBit(n, m), sign)
}

// Behind the last bit nothing is carried: whoever cheats at the message that is next, or cries out from there on, finds none.
func TestTheLastBitHasNoCarry(t *testing.T) {
	for who := range int64(4) {
		for _, cry := range []bool{false, true} {
			n := netOf(impl.SeedTape(4, 30).Tape, impl.Cheat{Who: who, At: 84, By: 1, Cry: cry})
			got := impl.AddBits(n, bitsWorth(255, 3), bitsWorth(255, 8))
			wantValueBits(t, "255 and 255", got.Mirrors, 254)
			wantCostOfRows(t, n, got.Net, carries, 0)
			if got.Net.Quarrel.Some {
				t.Errorf("%v: %v", n.Cheat, got.Net.Quarrel)
			}
		}
	}
}

func TestBitsBehindTheEndOfLanes(t *testing.T) {
	a, b, m := bitsWorth(213, 3), bitsWorth(91, 8), sharesOf(256, 200, 6)
	none := netOf(tapeOf(nil, nil, nil, nil), honest)
	bare, sign := impl.AddBits(none, a, b), impl.SignBit(none, m)
	for _, used := range []int64{3, 4, 900, 65536, 99930} {
		n := netOf(smallTape(), honest)
		n.Used = []int64{used, used, used, used}
		got := impl.AddBits(n, a, b)
		if !slices.EqualFunc(got.Mirrors, bare.Mirrors, sameMirrors) {
			t.Errorf("%d used: %v, not %v", used, got.Mirrors, bare.Mirrors)
		}
		wantCostOfRows(t, n, got.Net, carries, 0)
		if got := impl.SignBit(n, m); !sameMirrors(got.Mirror, sign.Mirror) || got.Net.Sent != 252 {
			t.Errorf("%d used: %v, not %v", used, got, sign)
		}
	}
	// Lanes that end in each of the sums.
	for left := range int64(64) {
		n := netOf(impl.SeedTape(5, 64).Tape, honest)
		n.Used = []int64{64 - left, 64 - left, 64 - left, 64 - left}
		wantMany(t, "lanes that end", impl.AddBits(n, a, b), addByHand(n, a, b))
		got := impl.SignBit(n, m)
		wantMix(t, "lanes that end", got, signByHand(n, m))
		wantInt(t, "lanes that end", impl.ValueOf(got.Mirror, -1), value(1))
	}
	// What stands in memory behind a lane's end is no word of it.
	under := filled(80, 77)
	n := netOf(tapeOf(under[:0], under[:0], under[:0], under[:0]), honest)
	if got := impl.AddBits(n, a, b); !slices.EqualFunc(got.Mirrors, bare.Mirrors, sameMirrors) {
		t.Errorf("pieces: %v, not %v", got.Mirrors, bare.Mirrors)
	}
}

// What was asked ahead is not asked again: a sum that begins within the bounds is reckoned to its end.
func TestBitsNearTheLastCounts(t *testing.T) {
	a, b, m := bitsWorth(213, 3), bitsWorth(91, 8), sharesOf(256, 200, 6)
	for _, sent := range []int64{99747, 99748, 99915, 99916, 99988, 99999} {
		n, early := busyNet(honest, sent), busyNet(honest, 6)
		got, want := impl.AddBits(n, a, b), impl.AddBits(early, a, b)
		want.Net.Sent = sent + 84
		wantMany(t, "Sent", got, want)
		sign, wantSign := impl.SignBit(n, m), impl.SignBit(early, m)
		wantSign.Net.Sent = sent + 252
		wantMix(t, "Sent", sign, wantSign)
		if fault := impl.NetFault(sign.Net); (fault == impl.OK) != (sent+252 <= 99999) {
			t.Errorf("%d were sent ahead: fault %d", sent, fault)
		}
	}
	for lane := range 4 {
		n := busyNet(honest, 6)
		n.Used[lane] = 99999
		got := impl.AddBits(n, a, b)
		wantValueBits(t, "Used", got.Mirrors, (213+91)%256)
		wantCostOfRows(t, n, got.Net, carries, 0)
		sign := impl.SignBit(n, m)
		wantInt(t, "Used", impl.ValueOf(sign.Mirror, -1), value(1))
		wantCostOfRows(t, n, sign.Net, signCarries, 0)
	}
	late := busyNet(honest, 99999)
	wantManyCode(t, "the next sum", impl.AddBits(impl.AddBits(late, a, b).Net, a, b), impl.ErrRange)
	wantMixCode(t, "the next sign", impl.SignBit(impl.SignBit(late, m).Net, m), impl.ErrRange)
	wantManyCode(t, "more than are counted", impl.AddBits(busyNet(honest, 100000), a, b), impl.ErrRange)
	wantMixCode(t, "more than are counted", impl.SignBit(busyNet(honest, 100000), m), impl.ErrRange)
}

func TestBitsInAFaultyNet(t *testing.T) {
	good := bitsWorth(213, 3)
	for _, lists := range [][2][]impl.Mirror{{good, good}, {nil, nil}, {good, nil}, {nil, good}, {make([]impl.Mirror, 8), good}, {manyOf(256, 8), manyOf(256, 8)}, {manyOf(2, 9), make([]impl.Mirror, 9)}} {
		for _, faulty := range faultyNets() {
			wantManyCode(t, faulty.what, impl.AddBits(faulty.net, lists[0], lists[1]), faulty.code)
		}
		for _, z := range []impl.Quarrel{{Some: true}, {Some: true, From: 1, Check: 2, To: 3, Told: 9}, {Some: true, From: -5}} {
			n := busyNet(honest, 6)
			n.Quarrel = z
			wantManyCode(t, "a quarrel", impl.AddBits(n, lists[0], lists[1]), impl.ErrState)
		}
	}
	for _, m := range []impl.Mirror{likeMirror(256, 1, 2, 3, 4), unlikeMirror(256, 5), {}, mirrorOf(256), likeMirror(2, 1, 0, 0, 1), withPart(likeMirror(256, 1, 2, 3, 4), 0, 1, 256)} {
		for _, faulty := range faultyNets() {
			wantMixCode(t, faulty.what, impl.SignBit(faulty.net, m), faulty.code)
		}
		for _, z := range []impl.Quarrel{{Some: true}, {Some: true, From: 1, Check: 2, To: 3, Told: 9}, {Some: true, From: -5}} {
			n := busyNet(honest, 6)
			n.Quarrel = z
			wantMixCode(t, "a quarrel", impl.SignBit(n, m), impl.ErrState)
		}
	}
	// Some tells whether there is one.
	n := busyNet(honest, 6)
	n.Quarrel = impl.Quarrel{From: 2}
	if got := impl.AddBits(n, good, good); got.Code != impl.OK || len(got.Mirrors) != 8 || got.Net.Sent != 90 {
		t.Errorf("no quarrel is there: %v", got)
	}
	if got := impl.SignBit(n, likeMirror(256, 1, 2, 3, 4)); got.Code != impl.OK || got.Mirror.Q != 2 || got.Net.Sent != 258 {
		t.Errorf("no quarrel is there: %v", got)
	}
}

func TestAddBitsOfNotAsMany(t *testing.T) {
	n := busyNet(honest, 6)
	for _, one := range []int{0, 1, 7, 8, 9, 15, 16, 264, 70000} {
		for _, other := range []int{0, 1, 7, 8, 9, 15, 16, 264, 70000} {
			if one == 8 && other == 8 {
				continue
			}
			wantManyCode(t, "not as many", impl.AddBits(n, manyOf(2, one), manyOf(2, other)), impl.ErrMany)
			// Ahead of what they are.
			wantManyCode(t, "not as many, with faults", impl.AddBits(n, make([]impl.Mirror, one), make([]impl.Mirror, other)), impl.ErrMany)
			wantManyCode(t, "not as many, of Ring", impl.AddBits(n, manyOf(256, one), manyOf(256, other)), impl.ErrMany)
		}
	}
	wantManyCode(t, "nil", impl.AddBits(n, nil, nil), impl.ErrMany)
	wantCostOfRows(t, n, impl.AddBits(n, manyOf(2, 8), manyOf(2, 8)).Net, carries, 0)
}

func TestAddBitsOfFaultyMirrors(t *testing.T) {
	n := busyNet(honest, 6)
	for place := range 16 {
		for _, q := range rings {
			for _, faulty := range faultyMirrors(q) {
				lists := [2][]impl.Mirror{bitsWorth(90, 4), bitsWorth(70, 8)}
				setIn(lists, place, faulty.mirror)
				wantManyCode(t, faulty.what, impl.AddBits(n, lists[0], lists[1]), faulty.code)
			}
		}
		lists := [2][]impl.Mirror{bitsWorth(90, 4), bitsWorth(70, 8)}
		setIn(lists, place, likeMirror(256, 1, 0, 0, 1))
		wantManyCode(t, "one of Ring", impl.AddBits(n, lists[0], lists[1]), impl.ErrForm)
		// It is asked ahead of anything that is told.
		wantManyCode(t, "one of Ring, one cheats", impl.AddBits(busyNet(impl.Cheat{Who: 2, At: 6, By: 1}, 6), lists[0], lists[1]), impl.ErrForm)
	}
	wantManyCode(t, "a of Ring", impl.AddBits(n, manyOf(256, 8), manyOf(2, 8)), impl.ErrForm)
	wantManyCode(t, "b of Ring", impl.AddBits(n, manyOf(2, 8), manyOf(256, 8)), impl.ErrForm)
	wantManyCode(t, "both of Ring", impl.AddBits(n, manyOf(256, 8), manyOf(256, 8)), impl.ErrForm)
}

// Each mirror is asked its fault, and whether its Q is 2, ahead of the next one: a, then b.
func TestAddBitsOneByOne(t *testing.T) {
	n := busyNet(honest, 6)
	kinds := []faultyMirror{
		{"form", mirrorOf(2), impl.ErrForm},
		{"range", withPart(likeMirror(2, 1, 1, 1, 1), 1, 3, 2), impl.ErrRange},
		{"of Ring", likeMirror(256, 1, 0, 0, 0), impl.ErrForm},
		{"of Ring, range", withPart(likeMirror(256, 1, 1, 1, 1), 1, 3, 256), impl.ErrRange},
	}
	for first := range 16 {
		for second := first + 1; second < 16; second++ {
			for _, ahead := range kinds {
				for _, behind := range kinds {
					lists := [2][]impl.Mirror{bitsWorth(90, 4), bitsWorth(70, 8)}
					setIn(lists, first, ahead.mirror)
					setIn(lists, second, behind.mirror)
					wantManyCode(t, ahead.what+" ahead of "+behind.what, impl.AddBits(n, lists[0], lists[1]), ahead.code)
				}
			}
		}
	}
}

// Every number of Ring, each in several parts, with and without words that hide them.
func TestTheSignIsOneJustWhereItIsBelowZero(t *testing.T) {
	for v := range int64(256) {
		plain := impl.PlainMirror(256, v).Mirror
		for seed, n := range append(someNets(), netOf(impl.SeedTape(v, 63).Tape, honest)) {
			for _, m := range []impl.Mirror{plain, sharesOf(256, v, int64(seed)), sharesOf(256, v, v+int64(seed))} {
				got := impl.SignBit(n, m)
				for _, but := range buts {
					wantInt(t, "SignBit", impl.ValueOf(got.Mirror, but), value(isBelow(v)))
				}
				if got.Mirror.Q != 2 || got.Net.Quarrel.Some || impl.NetFault(got.Net) != impl.OK {
					t.Errorf("%d: %v", v, got)
				}
				wantCostOfRows(t, n, got.Net, signCarries, 0)
			}
		}
		below := impl.SignedOf(v).Value < 0
		if below != (isBelow(v) == 1) {
			t.Errorf("%d: SignedOf it is below 0: %v", v, below)
		}
	}
}

// Parts whose sums leave the ring at each of the three sums.
func TestTheSignOfPartsThatGoRound(t *testing.T) {
	n := netOf(impl.SeedTape(8, 63).Tape, honest)
	for _, a := range someNumbers {
		for _, b := range someNumbers {
			for _, c := range []int64{0, 1, 127, 128, 255} {
				for _, d := range []int64{0, 1, 127, 128, 255} {
					got := impl.SignBit(n, likeMirror(256, a, b, c, d))
					wantInt(t, "SignBit", impl.ValueOf(got.Mirror, -1), value(isBelow((a+b+c+d)%256)))
				}
			}
		}
	}
}

// Parts 0 and 1 are added, then 2 and 3, then both sums.
func TestSignBitIsReckonedAsSaid(t *testing.T) {
	for _, n := range append(someNets(), netOf(impl.SeedTape(8, 63).Tape, honest)) {
		for _, v := range someNumbers {
			m := sharesOf(256, v, v+3)
			got := impl.SignBit(n, m)
			wantMix(t, "SignBit", got, signByHand(n, m))
			low := impl.AddBits(n, impl.PartBits(m, 0).Mirrors, impl.PartBits(m, 1).Mirrors)
			high := impl.AddBits(low.Net, impl.PartBits(m, 2).Mirrors, impl.PartBits(m, 3).Mirrors)
			sum := impl.AddBits(high.Net, low.Mirrors, high.Mirrors)
			wantMix(t, "by AddBits", got, impl.MixResult{Mirror: sum.Mirrors[7], Net: sum.Net})
			wantValueBits(t, "its sum", sum.Mirrors, v)
		}
	}
}

// Mirrors that don't agree are no fault here, either.
func TestTheSignOfViewsThatDontAgree(t *testing.T) {
	list := someMirrors(256)
	for first := range int64(12) {
		list = append(list, withPart(sharesOf(256, 20*first, first), int(first%4), int(first+1)%4, 77))
	}
	for _, m := range list {
		for _, cheat := range []impl.Cheat{honest, {Who: 0, At: 100, By: 1}, {Who: 2, At: 190, By: 7, Cry: true}} {
			n := netOf(impl.SeedTape(8, 63).Tape, cheat)
			wantMix(t, "SignBit", impl.SignBit(n, m), signByHand(n, m))
		}
	}
}

// wantWorthOrQuarrel asks of a mirror that so many rows, and pairs of the next one, make what is promised, whoever cheats.
func wantWorthOrQuarrel(t *testing.T, n impl.Net, got impl.MixResult, v int64, rows int, pairs int, quarrel bool) {
	t.Helper()
	wantCostOfRows(t, n, got.Net, rows, pairs)
	if got.Code != impl.OK || got.Net.Quarrel.Some != quarrel {
		t.Fatalf("%v: code %d, quarrel %v", n.Cheat, got.Code, got.Net.Quarrel)
	}
	if !quarrel {
		wantInt(t, "ValueOf", impl.ValueOf(got.Mirror, -1), value(v))
		return
	}
	if got.Mirror.Q != 0 || len(got.Mirror.Views) != 0 {
		t.Errorf("%v: a mirror in a quarrel: %v", n.Cheat, got.Mirror)
	}
	wantToldApart(t, got.Net)
}

// wantSignOrQuarrel asks of a sign what is promised, whoever cheats.
func wantSignOrQuarrel(t *testing.T, n impl.Net, m impl.Mirror) {
	t.Helper()
	rows, pairs, quarrel := endOfRows(n.Cheat, n.Sent, 2, signCarries)
	wantWorthOrQuarrel(t, n, impl.SignBit(n, m), isBelow(worth(m, -1)), rows, pairs, quarrel)
}

// Each of the four, at each message of each of the three sums, ahead of the first one and behind the last one.
func TestASignWithOneWhoCheats(t *testing.T) {
	m := sharesOf(256, 200, 6)
	for _, who := range buts {
		for at := range int64(12*signCarries + 8) {
			for _, by := range []int64{0, 1, 128} {
				for _, cry := range []bool{false, true} {
					c := impl.Cheat{Who: who, At: at, By: by, Cry: cry}
					wantSignOrQuarrel(t, netOf(impl.SeedTape(4, 63).Tape, c), m)
				}
			}
			wantSignOrQuarrel(t, busyNet(impl.Cheat{Who: who, At: at, By: 255}, 5), m)
		}
	}
}

// The first carry, one in the midst, and the last one, of each of the three sums.
func TestAQuarrelInEachSumOfASign(t *testing.T) {
	m := sharesOf(256, 100, 6)
	for _, carry := range []int{0, 3, 6, 7, 10, 13, 14, 17, 20} {
		for number, teller := range tellers() {
			n := netOf(impl.SeedTape(4, 63).Tape, impl.Cheat{Who: teller, At: int64(12*carry + number), By: 9})
			got := impl.SignBit(n, m)
			wantMix(t, "SignBit", got, signByHand(n, m))
			wantCostOfRows(t, n, got.Net, carry, number/2+1)
			p := sixPairs[number/2]
			if z := got.Net.Quarrel; !z.Some || z.From != p[2] || z.Check != p[3] || z.To != p[1] || len(got.Mirror.Views) != 0 {
				t.Errorf("%v: %v", n.Cheat, got)
			}
			wantMixCode(t, "another sign", impl.SignBit(got.Net, m), impl.ErrState)
		}
	}
}

func TestSignBitWrong(t *testing.T) {
	for _, n := range []impl.Net{busyNet(honest, 6), busyNet(impl.Cheat{Who: 2, At: 6, By: 1}, 6)} {
		for _, q := range rings {
			for _, faulty := range faultyMirrors(q) {
				wantMixCode(t, faulty.what, impl.SignBit(n, faulty.mirror), faulty.code)
			}
		}
		for _, m := range someMirrors(2) {
			wantMixCode(t, "q 2", impl.SignBit(n, m), impl.ErrForm)
		}
		wantMixCode(t, "zero", impl.SignBit(n, impl.Mirror{}), impl.ErrRange)
	}
}

// A sign is the one thing that is opened of a number.
func TestASignIsOpened(t *testing.T) {
	for _, v := range someNumbers {
		got := impl.SignBit(netOf(impl.SeedTape(v, 63).Tape, honest), sharesOf(256, v, 5))
		for _, who := range buts {
			wantOpen(t, "OpenMirror", impl.OpenMirror(got.Mirror, who, 255), filled(4, isBelow(v))...)
		}
	}
}

// bitAnswers are answers of all functions of the chapter that make lists, as many mirrors, with a quarrel and without one.
func bitAnswers(n impl.Net, m impl.Mirror, list []impl.Mirror) []impl.ManyResult {
	calm, late := n, n
	calm.Cheat, late.Cheat = honest, impl.Cheat{Who: 2, At: n.Sent + 75, By: 9}
	var answers []impl.ManyResult
	for _, net := range []impl.Net{calm, n, late} {
		one := impl.SignBit(net, m)
		answers = append(answers, impl.AddBits(net, list, list), impl.AddBits(net, list[:8], list[:8]),
			impl.ManyResult{Code: one.Code, Mirrors: []impl.Mirror{one.Mirror}, Net: one.Net})
	}
	for part := range int64(4) {
		bits := impl.PartBits(m, part)
		answers = append(answers, impl.ManyResult{Code: bits.Code, Mirrors: bits.Mirrors})
	}
	return answers
}

func TestBitsChangeNoArgument(t *testing.T) {
	kept := []int64{1, 2, 3, 4, 5, 6, 7, 8, 0, 1, 2, 3, 20, 21, 22, 23, 24, 25, 26, 27, 42, 43, 44, 45}
	parts := []int64{0, 5, 6, 7, 4, 0, 6, 7, 4, 5, 0, 7, 4, 5, 6, 0, 77, 78, 79}
	small := []int64{0, 1, 0, 1, 1, 0, 0, 1, 1, 1, 0, 1, 1, 1, 0, 0, 77, 78, 79}
	under, ofMirror, ofBit := slices.Clone(kept), slices.Clone(parts), slices.Clone(small)
	n, m, bit := laidNet(under), laidMirror(256, ofMirror), laidMirror(2, ofBit)
	before := cloneNet(n)
	list := []impl.Mirror{bit, bit, bit, bit, bit, bit, bit, bit, {Q: 7}}
	for _, cheat := range []impl.Cheat{n.Cheat, honest, {Who: 2, At: 6, By: 9}, {Who: 2, At: 100, By: 9}} {
		n.Cheat, before.Cheat = cheat, cheat
		for many := range 10 {
			impl.AddBits(n, list[:many], list[:many])
			impl.AddBits(n, list[:8], list[many:])
			impl.AddBits(n, list[1:], list[:8])
			for _, but := range buts {
				impl.ValueBits(list[:many], but)
				impl.ValueBits(list[many:], but)
			}
		}
		for part := range int64(5) {
			impl.PartBits(m, part)
			impl.PartBits(bit, part)
		}
		impl.SignBit(n, m)
		impl.SignBit(n, bit)
	}
	if !slices.Equal(under, kept) || !slices.Equal(ofMirror, parts) || !slices.Equal(ofBit, small) || !sameNets(n, before) {
		t.Errorf("an argument was changed: %v, %v, %v", under, ofMirror, ofBit)
	}
	for i, other := range list[:8] {
		if !sameMirrors(other, laidMirror(2, small)) {
			t.Errorf("mirror %d was changed: %v", i, other)
		}
	}
	if list[8].Q != 7 || list[8].Views != nil {
		t.Errorf("a list was changed: %v", list)
	}
}

func TestBitsAreNewMemory(t *testing.T) {
	kept := []int64{1, 2, 3, 4, 5, 6, 7, 8, 0, 1, 2, 3, 20, 21, 22, 23, 24, 25, 26, 27, 42, 43, 44, 45}
	parts := []int64{0, 5, 6, 7, 4, 0, 6, 7, 4, 5, 0, 7, 4, 5, 6, 0}
	small := []int64{0, 1, 0, 1, 1, 0, 0, 1, 1, 1, 0, 1, 1, 1, 0, 0}
	under, ofMirror, ofBit := slices.Clone(kept), slices.Clone(parts), slices.Clone(small)
	n, m := laidNet(under), laidMirror(256, ofMirror)
	list := slices.Repeat([]impl.Mirror{laidMirror(2, ofBit)}, 8)
	first, second := bitAnswers(n, m, list), bitAnswers(n, m, list)
	var want []impl.ManyResult
	for _, answer := range second {
		want = append(want, cloneMany(answer))
	}
	for _, answer := range first {
		spoilMany(answer)
	}
	if !slices.Equal(under, kept) || !slices.Equal(ofMirror, parts) || !slices.Equal(ofBit, small) || !sameMirrors(list[7], laidMirror(2, small)) {
		t.Fatalf("an answer shares memory with an argument: %v, %v, %v", under, ofMirror, ofBit)
	}
	for i, later := range bitAnswers(n, m, list) {
		wantMany(t, "a later answer", later, want[i])
	}
	spoilNet(n)
	spoilList(ofMirror)
	spoilList(ofBit)
	clear(list)
	for i, answer := range second {
		wantMany(t, "when others and the arguments are written over", answer, want[i])
	}
}

// Lists of the arguments may be one memory; those of an answer never are.
func TestNoTwoListsOfBitsShareMemory(t *testing.T) {
	one := []int64{0, 0, 0, 0}
	lists := [][]int64{one, one, one, one}
	n := impl.Net{Tape: impl.Tape{Lanes: lists}, Used: one, Heard: lists, Cheat: impl.Cheat{Who: 3, At: 2, By: 3, Cry: true}}
	list := slices.Repeat([]impl.Mirror{{Q: 2, Views: lists}}, 8)
	wantListsApart(t, bitAnswers(n, impl.Mirror{Q: 256, Views: lists}, list))
	if !slices.Equal(one, []int64{0, 0, 0, 0}) {
		t.Errorf("an answer shares memory with an argument: %v", one)
	}
}

func TestBitsAnswerTheSameAgain(t *testing.T) {
	a, b, m := bitsWorth(213, 3), bitsWorth(91, 8), sharesOf(256, 200, 6)
	for _, cheat := range []impl.Cheat{honest, {Who: 0, At: 80, By: 9}} {
		n := busyNet(cheat, 2)
		part, sum, sign, worth := impl.PartBits(m, 2), impl.AddBits(n, a, b), impl.SignBit(n, m), impl.ValueBits(a, 3)
		impl.AddBits(sum.Net, b, b)
		impl.SignBit(sign.Net, sharesOf(256, 9, 9))
		impl.AddBits(busyNet(honest, 50), manyOf(2, 8), b)
		impl.PartBits(sharesOf(256, 9, 9), 2)
		impl.PartBits(impl.Mirror{}, math.MinInt64)
		impl.AddBits(impl.Net{}, nil, nil)
		impl.SignBit(impl.Net{}, impl.Mirror{})
		impl.ValueBits(nil, math.MaxInt64)
		impl.ValueBits(b, 3)
		wantBits(t, "PartBits again", impl.PartBits(m, 2), part.Mirrors)
		wantMany(t, "AddBits again", impl.AddBits(n, a, b), sum)
		wantMix(t, "SignBit again", impl.SignBit(n, m), sign)
		wantInt(t, "ValueBits again", impl.ValueBits(a, 3), worth)
	}
}
