package tests

import (
	"math"
	"slices"
	"testing"

	"loop.example/g00525/impl"
)

// The signatures of chapter 7.
var (
	_ func(impl.Net, []impl.Mirror, impl.Mirror, []impl.Mirror) impl.MixResult    = impl.RowMirror
	_ func(impl.Net, []impl.Mirror, []impl.Mirror, []impl.Mirror) impl.ManyResult = impl.RowsMirror
	_ func([]impl.Mirror) impl.MirrorResult                                       = impl.SumMirrors
	_ func([]impl.Mirror, int64, int64) impl.TableResult                          = impl.OpenMany
	_                                                                             = impl.TableResult{Code: impl.OK, Rows: [][]int64{}}
)

// layer is what a layer is reckoned of.
type layer struct {
	weights, biases, xs []impl.Mirror
}

// places are all mirrors of a layer, in the order in which they are asked.
func (l layer) places() []*impl.Mirror {
	var all []*impl.Mirror
	for _, list := range [][]impl.Mirror{l.weights, l.biases, l.xs} {
		for i := range list {
			all = append(all, &list[i])
		}
	}
	return all
}

func (l layer) mirrors(n impl.Net) impl.ManyResult {
	return impl.RowsMirror(n, l.weights, l.biases, l.xs)
}

// row is the weights and the bias of one row.
func (l layer) row(i int) ([]impl.Mirror, impl.Mirror) {
	many := len(l.xs)
	return l.weights[i*many : (i+1)*many], l.biases[i]
}

// worths is what the rows are worth, by the numbers that all are worth.
func (l layer) worths() []int64 {
	var list []int64
	for i := range l.biases {
		weights, bias := l.row(i)
		sum := worth(bias, -1)
		for term, w := range weights {
			sum += worth(w, -1) * worth(l.xs[term], -1)
		}
		list = append(list, sum%bias.Q)
	}
	return list
}

// layerOf has unlike numbers in all places, in parts that hide them.
func layerOf(q int64, rows int, terms int, seed int64) layer {
	next := seed
	fresh := func(many int) []impl.Mirror {
		list := make([]impl.Mirror, many)
		for i := range list {
			next = (next*75 + 74) % 65537
			list[i] = sharesOf(q, next%q, next)
		}
		return list
	}
	return layer{weights: fresh(rows * terms), biases: fresh(rows), xs: fresh(terms)}
}

// plainLayer is worth 0 in all places.
func plainLayer(q int64, rows int, terms int) layer {
	return layer{weights: manyOf(q, rows*terms), biases: manyOf(q, rows), xs: manyOf(q, terms)}
}

// rowByHand is the products as they are reckoned by hand, and the bias, view by view.
func rowByHand(n impl.Net, weights []impl.Mirror, bias impl.Mirror, xs []impl.Mirror) impl.MixResult {
	want := dotByHand(n, weights, xs)
	if !want.Net.Quarrel.Some {
		want.Mirror = joined(want.Mirror, bias, 1)
	}
	return want
}

// rowsByHand is one row behind the other.
func rowsByHand(n impl.Net, l layer) impl.ManyResult {
	want := impl.ManyResult{Net: n}
	for i := range l.biases {
		weights, bias := l.row(i)
		one := rowByHand(want.Net, weights, bias, l.xs)
		want.Net = one.Net
		if one.Net.Quarrel.Some {
			return impl.ManyResult{Net: one.Net}
		}
		want.Mirrors = append(want.Mirrors, one.Mirror)
	}
	return want
}

// wantCostOfRows asks what was taken, told and heard when so many rows, and so many pairs of the next one, were gone through, and that all else stayed.
func wantCostOfRows(t *testing.T, before impl.Net, after impl.Net, rows int, pairs int) {
	t.Helper()
	want := cloneNet(before)
	want.Sent += int64(12*rows + 2*pairs)
	for party := range want.Used {
		want.Used[party] += int64(rows * party)
	}
	for _, p := range sixPairs[:pairs] {
		want.Used[p[1]]++
	}
	for party, list := range after.Heard {
		had := before.Heard[party]
		if len(list) != len(had)+int(2*(want.Used[party]-before.Used[party])) || !slices.Equal(list[:len(had)], had) {
			t.Errorf("%d rows, %d pairs: party %d heard %v, ahead of it %v", rows, pairs, party, list, had)
		}
	}
	want.Heard, want.Quarrel = after.Heard, after.Quarrel
	if !sameNets(after, want) {
		t.Errorf("%d rows, %d pairs: got %v, want %v", rows, pairs, after, want)
	}
}

func wantTable(t *testing.T, what string, got impl.TableResult, want ...[]int64) {
	t.Helper()
	if got.Code != impl.OK || !slices.EqualFunc(got.Rows, want, slices.Equal) {
		t.Errorf("%s: got %v, want %v", what, got, want)
	}
}

func wantTableCode(t *testing.T, what string, got impl.TableResult, want int64) {
	t.Helper()
	if got.Code != want || len(got.Rows) != 0 {
		t.Errorf("%s: got %v, want code %d and no rows", what, got, want)
	}
}

// sumByHand is all of them, view by view.
func sumByHand(list []impl.Mirror) impl.Mirror {
	sum := likeMirror(list[0].Q, 0, 0, 0, 0)
	for _, m := range list {
		sum = joined(sum, m, 1)
	}
	return sum
}

func TestSumByHand(t *testing.T) {
	a, b, c := likeMirror(256, 1, 2, 3, 250), likeMirror(256, 200, 0, 255, 6), likeMirror(256, 60, 9, 0, 128)
	wantMirror(t, "one", impl.SumMirrors([]impl.Mirror{a}), a)
	wantMirror(t, "two", impl.SumMirrors([]impl.Mirror{a, b}), likeMirror(256, 201, 2, 2, 0))
	wantMirror(t, "three", impl.SumMirrors([]impl.Mirror{a, b, c}), likeMirror(256, 5, 11, 2, 128))
	wantMirror(t, "one twice", impl.SumMirrors([]impl.Mirror{c, c}), likeMirror(256, 120, 18, 0, 0))
	x, y := likeMirror(2, 1, 0, 1, 1), likeMirror(2, 1, 1, 0, 1)
	wantMirror(t, "bits", impl.SumMirrors([]impl.Mirror{x, y}), likeMirror(2, 0, 1, 1, 0))
	wantMirror(t, "three bits", impl.SumMirrors([]impl.Mirror{x, y, y}), likeMirror(2, 1, 0, 1, 1))
	// All that there may be, of the greatest element.
	top := make([]impl.Mirror, 20)
	for i := range top {
		top[i] = likeMirror(256, 255, 255, 255, 255)
	}
	wantMirror(t, "20 of 255", impl.SumMirrors(top), likeMirror(256, 236, 236, 236, 236))
	wantMirror(t, "19 of 255", impl.SumMirrors(top[:19]), likeMirror(256, 237, 237, 237, 237))
}

// Of one to twenty, alike and not, as AddMirrors makes it, one behind the other.
func TestSums(t *testing.T) {
	for _, q := range rings {
		some := someMirrors(q)
		for many := 1; many <= 20; many++ {
			for first := range some {
				var list []impl.Mirror
				for i := range many {
					list = append(list, some[(first+i*(1+first%3))%len(some)])
				}
				got := impl.SumMirrors(list)
				wantMirror(t, "SumMirrors", got, sumByHand(list))
				step := list[0]
				for _, m := range list[1:] {
					step = impl.AddMirrors(step, m).Mirror
				}
				wantMirror(t, "as AddMirrors", got, step)
			}
		}
	}
}

func TestASumIsWorthTheSum(t *testing.T) {
	for _, q := range rings {
		for many := 1; many <= 20; many++ {
			for seed := range int64(20) {
				list := layerOf(q, 1, many, 1+seed).xs
				sum := int64(0)
				for _, m := range list {
					sum += worth(m, -1)
				}
				got := impl.SumMirrors(list)
				for _, but := range buts {
					wantInt(t, "ValueOf", impl.ValueOf(got.Mirror, but), value(sum%q))
				}
				slices.Reverse(list)
				wantMirror(t, "from the last one on", impl.SumMirrors(list), got.Mirror)
			}
		}
	}
}

func TestSumsOfNotAsMany(t *testing.T) {
	for _, q := range rings {
		wantMirrorCode(t, "nil", impl.SumMirrors(nil), impl.ErrMany)
		wantMirrorCode(t, "none", impl.SumMirrors([]impl.Mirror{}), impl.ErrMany)
		for _, many := range []int{21, 22, 40, 1000, 70000} {
			wantMirrorCode(t, "too many", impl.SumMirrors(manyOf(q, many)), impl.ErrMany)
			// Ahead of what they are.
			wantMirrorCode(t, "too many, with faults", impl.SumMirrors(make([]impl.Mirror, many)), impl.ErrMany)
			wantMirrorCode(t, "too many, of two q", impl.SumMirrors(append(manyOf(q, many), manyOf(258-q, 1)...)), impl.ErrMany)
		}
		wantMirror(t, "20", impl.SumMirrors(manyOf(q, 20)), likeMirror(q, 0, 0, 0, 0))
	}
}

func TestSumsOfFaultyMirrors(t *testing.T) {
	for _, q := range rings {
		for _, faulty := range faultyMirrors(q) {
			for _, many := range []int{1, 2, 3, 20} {
				for place := range many {
					list := manyOf(q, many)
					list[place] = faulty.mirror
					wantMirrorCode(t, faulty.what, impl.SumMirrors(list), faulty.code)
				}
			}
		}
		for _, many := range []int{2, 3, 20} {
			for place := range many {
				list := manyOf(q, many)
				list[place] = likeMirror(258-q, 1, 0, 0, 0)
				wantMirrorCode(t, "one of another q", impl.SumMirrors(list), impl.ErrForm)
			}
		}
	}
}

// Each mirror is asked its fault, and whether its q is another one, ahead of the next one.
func TestSumsOneByOne(t *testing.T) {
	for _, q := range rings {
		form, wrong, other := mirrorOf(q), withPart(likeMirror(q, 1, 1, 1, 1), 1, 3, q), likeMirror(258-q, 1, 0, 0, 0)
		for first := range 5 {
			for second := first + 1; second < 5; second++ {
				for _, c := range []struct {
					what         string
					ahead, other impl.Mirror
					code         int64
				}{
					{"form ahead of range", form, wrong, impl.ErrForm},
					{"range ahead of form", wrong, form, impl.ErrRange},
					{"range ahead of another q", wrong, other, impl.ErrRange},
				} {
					list := manyOf(q, 5)
					list[first], list[second] = c.ahead, c.other
					wantMirrorCode(t, c.what, impl.SumMirrors(list), c.code)
				}
				if first > 0 {
					list := manyOf(q, 5)
					list[first], list[second] = other, wrong
					wantMirrorCode(t, "another q ahead of range", impl.SumMirrors(list), impl.ErrForm)
				}
			}
		}
		// One that has both tells its fault.
		wantMirrorCode(t, "both", impl.SumMirrors([]impl.Mirror{likeMirror(q, 0, 0, 0, 0), withPart(other, 0, 1, 256)}), impl.ErrRange)
	}
}

// One row, and a second one behind it, with all their numbers worked out by hand.
func TestRowsByHand(t *testing.T) {
	x := likeMirror(256, 9, 8, 7, 250)
	first, second := likeMirror(256, 1, 2, 3, 4), likeMirror(256, 1, 0, 0, 0)
	one, two := likeMirror(256, 5, 6, 7, 200), likeMirror(256, 0, 0, 0, 9)
	n := netOf(tapeOf([]int64{99}, []int64{10}, []int64{20, 30}, []int64{40, 50, 60}), honest)
	// Products: 9, 16, 21, 232. Pairs: 0, 1: 26; 0, 2: 34; 0, 3: 286; 1, 2: 38; 1, 3: 532; 2, 3: 778.
	row := impl.MixResult{Mirror: likeMirror(256, (9+16+14+246+5)%256, (16+10+8+226+6)%256, (21+20+30+206+7)%256, (232+40+50+60+200)%256), Net: cloneNet(n)}
	row.Net.Used = []int64{0, 1, 2, 3}
	row.Net.Sent = 12
	row.Net.Heard = [][]int64{nil, {16, 16}, {14, 14, 8, 8}, {246, 246, 226, 226, 206, 206}}
	wantMix(t, "RowMirror", impl.RowMirror(n, []impl.Mirror{first}, one, []impl.Mirror{x}), row)
	wantInt(t, "10 times 18, and 218", impl.ValueOf(row.Mirror, -1), value((180+218)%256))
	// The lanes have ended: nothing hides the pairs 8, 7, 250, 0, 0, 0, and all of it is part 0.
	next := impl.MixResult{Mirror: likeMirror(256, (9+8+7+250)%256, 0, 0, 9), Net: cloneNet(row.Net)}
	next.Net.Used = []int64{0, 2, 4, 6}
	next.Net.Sent = 24
	next.Net.Heard = [][]int64{nil, {16, 16, 8, 8}, {14, 14, 8, 8, 7, 7, 0, 0}, {246, 246, 226, 226, 206, 206, 250, 250, 0, 0, 0, 0}}
	wantMix(t, "the next row", impl.RowMirror(row.Net, []impl.Mirror{second}, two, []impl.Mirror{x}), next)
	want := impl.ManyResult{Mirrors: []impl.Mirror{row.Mirror, next.Mirror}, Net: next.Net}
	wantMany(t, "RowsMirror", impl.RowsMirror(n, []impl.Mirror{first, second}, []impl.Mirror{one, two}, []impl.Mirror{x}), want)
}

// A row is its products, as DotMirrors makes them, and the bias.
func TestARow(t *testing.T) {
	for _, q := range rings {
		biases := someMirrors(q)
		for _, n := range someNets() {
			for i, row := range someRows(q) {
				for step := range 4 {
					bias := biases[(i+7*step)%len(biases)]
					got := impl.RowMirror(n, row[0], bias, row[1])
					wantMix(t, "RowMirror", got, rowByHand(n, row[0], bias, row[1]))
					dot := impl.DotMirrors(n, row[0], row[1])
					wantMix(t, "by DotMirrors", got, impl.MixResult{Mirror: impl.AddMirrors(dot.Mirror, bias).Mirror, Net: dot.Net})
				}
			}
		}
	}
}

// Rows of 1 term to 6, whatever the bias.
func TestARowIsWorthItsProductsAndTheBias(t *testing.T) {
	for _, q := range rings {
		for terms := 1; terms <= impl.MaxTerms; terms++ {
			for seed := range int64(12) {
				l := layerOf(q, 1, terms, 100*seed+int64(terms))
				for _, n := range someNets() {
					got := impl.RowMirror(n, l.weights, l.biases[0], l.xs)
					for _, but := range buts {
						wantInt(t, "ValueOf", impl.ValueOf(got.Mirror, but), value(l.worths()[0]))
					}
					if got.Code != impl.OK || got.Mirror.Q != q || got.Net.Quarrel.Some || impl.NetFault(got.Net) != impl.OK {
						t.Fatalf("%v", got)
					}
					wantCostOfRows(t, n, got.Net, 1, 0)
				}
			}
		}
	}
	n := netOf(impl.SeedTape(9, 30).Tape, honest)
	for v := range int64(256) {
		got := impl.RowMirror(n, []impl.Mirror{sharesOf(256, 3, 1)}, sharesOf(256, v, v), []impl.Mirror{sharesOf(256, 200, 2)})
		wantInt(t, "a bias", impl.ValueOf(got.Mirror, -1), value((600+v)%256))
	}
}

// The bias is put to what everybody has: nobody tells anything of it.
func TestNobodyHearsOfABias(t *testing.T) {
	for _, q := range rings {
		l := layerOf(q, 1, 3, 5)
		n := busyNet(honest, 6)
		want := impl.RowMirror(n, l.weights, l.biases[0], l.xs)
		for _, bias := range someMirrors(q) {
			got := impl.RowMirror(n, l.weights, bias, l.xs)
			if !sameNets(got.Net, want.Net) {
				t.Errorf("%v: %v", bias, got.Net)
			}
			wantMirror(t, "less the bias", impl.SubMirrors(got.Mirror, bias), joined(want.Mirror, l.biases[0], -1))
		}
	}
}

// wantRowWithCheat asks of a row with a bias what is promised, whoever cheats.
func wantRowWithCheat(t *testing.T, n impl.Net, l layer) {
	t.Helper()
	got := impl.RowMirror(n, l.weights, l.biases[0], l.xs)
	wantMix(t, "RowMirror", got, rowByHand(n, l.weights, l.biases[0], l.xs))
	pairs, quarrel := endOfDot(n.Cheat, n.Sent, l.xs[0].Q)
	wantCostOfRows(t, n, got.Net, 0, pairs)
	if got.Net.Quarrel.Some != quarrel || quarrel != (got.Mirror.Q == 0) || quarrel != (len(got.Mirror.Views) == 0) {
		t.Errorf("%v: %v", n.Cheat, got)
	}
	if !quarrel {
		wantInt(t, "ValueOf", impl.ValueOf(got.Mirror, -1), value(l.worths()[0]))
	}
}

// Each of the four, at each message ahead of a row, in it, and behind it; by q 2 an even number turns nothing.
func TestARowWithABiasAndOneWhoCheats(t *testing.T) {
	for _, q := range rings {
		for _, terms := range []int{1, impl.MaxTerms} {
			l := layerOf(q, 1, terms, 77)
			for _, who := range buts {
				for at := range int64(20) {
					for _, by := range []int64{0, 1, 2, 128, 255} {
						for _, cry := range []bool{false, true} {
							c := impl.Cheat{Who: who, At: at, By: by, Cry: cry}
							wantRowWithCheat(t, netOf(smallTape(), c), l)
							wantRowWithCheat(t, busyNet(c, 6), l)
						}
					}
				}
			}
		}
	}
}

func TestAQuarrelInARowByHand(t *testing.T) {
	x, w, bias := likeMirror(256, 9, 8, 7, 250), likeMirror(256, 1, 2, 3, 4), likeMirror(256, 5, 6, 7, 200)
	n := netOf(tapeOf([]int64{99}, []int64{10}, []int64{20, 30}, []int64{40, 50, 60}), impl.Cheat{Who: 2, At: 0, By: 5})
	want := impl.MixResult{Net: cloneNet(n)}
	want.Net.Used = []int64{0, 1, 0, 0}
	want.Net.Sent = 2
	want.Net.Heard = [][]int64{nil, {21, 16}, nil, nil}
	want.Net.Quarrel = impl.Quarrel{Some: true, From: 2, Check: 3, To: 1, Told: 16, Heard: 21, Other: 16, Vowed: 16}
	wantMix(t, "RowMirror", impl.RowMirror(n, []impl.Mirror{w}, bias, []impl.Mirror{x}), want)
	for rows := 1; rows <= 4; rows++ {
		l := layer{weights: manyOf(256, rows), biases: manyOf(256, rows), xs: []impl.Mirror{x}}
		l.weights[0] = w
		wantMany(t, "RowsMirror", l.mirrors(n), impl.ManyResult{Net: want.Net})
	}
	wantMixCode(t, "another row", impl.RowMirror(want.Net, []impl.Mirror{w}, bias, []impl.Mirror{x}), impl.ErrState)
	wantManyCode(t, "another layer", impl.RowsMirror(want.Net, []impl.Mirror{w}, []impl.Mirror{bias}, []impl.Mirror{x}), impl.ErrState)
}

// Layers of 1 row to 4, of 1 term to 6.
func TestALayerIsWorthWhatItsRowsAreWorth(t *testing.T) {
	for rows := 1; rows <= 4; rows++ {
		for terms := 1; terms <= impl.MaxTerms; terms++ {
			for seed := range int64(8) {
				l := layerOf(256, rows, terms, 1000*seed+int64(10*rows+terms))
				for _, n := range someNets() {
					got := l.mirrors(n)
					wantMany(t, "RowsMirror", got, rowsByHand(n, l))
					if len(got.Mirrors) != rows || impl.NetFault(got.Net) != impl.OK {
						t.Fatalf("%v", got)
					}
					for i, v := range l.worths() {
						for _, but := range buts {
							wantInt(t, "ValueOf", impl.ValueOf(got.Mirrors[i], but), value(v))
						}
					}
					wantCostOfRows(t, n, got.Net, rows, 0)
				}
			}
		}
	}
}

// Rows stand one behind the other: each is what RowMirror tells of its weights, in the net that the one ahead of it left.
func TestALayerIsItsRowsOneBehindTheOther(t *testing.T) {
	for rows := 1; rows <= 4; rows++ {
		for _, terms := range []int{1, 2, impl.MaxTerms} {
			l := layerOf(256, rows, terms, int64(31*rows+terms))
			for _, n := range someNets() {
				want := impl.ManyResult{Net: n}
				for i := range rows {
					weights, bias := l.row(i)
					one := impl.RowMirror(want.Net, weights, bias, l.xs)
					want.Mirrors, want.Net = append(want.Mirrors, one.Mirror), one.Net
					wantCostOfRows(t, n, want.Net, i+1, 0)
					cut := impl.RowsMirror(n, l.weights[:(i+1)*terms], l.biases[:i+1], l.xs)
					wantMany(t, "the first rows", cut, want)
				}
				wantMany(t, "RowsMirror", l.mirrors(n), want)
			}
		}
	}
}

// Each weight goes to its own row and its own term, each bias to its row, each x to all rows.
func TestWhichRowGetsWhat(t *testing.T) {
	n := netOf(impl.SeedTape(9, 30).Tape, honest)
	for rows := 1; rows <= 4; rows++ {
		for terms := 1; terms <= impl.MaxTerms; terms++ {
			l := layerOf(256, rows, terms, int64(7*rows+terms))
			before := l.worths()
			for place := range rows * terms {
				weights := slices.Clone(l.weights)
				weights[place] = joined(weights[place], sharesOf(256, 1, 9), 1)
				got := impl.RowsMirror(n, weights, l.biases, l.xs)
				for i, m := range got.Mirrors {
					want := before[i]
					if i == place/terms {
						want += worth(l.xs[place%terms], -1)
					}
					wantInt(t, "a weight", impl.ValueOf(m, -1), value(want%256))
				}
			}
			for place := range rows {
				biases := slices.Clone(l.biases)
				biases[place] = joined(biases[place], sharesOf(256, 100, 9), 1)
				got := impl.RowsMirror(n, l.weights, biases, l.xs)
				for i, m := range got.Mirrors {
					want := before[i]
					if i == place {
						want += 100
					}
					wantInt(t, "a bias", impl.ValueOf(m, -1), value(want%256))
				}
			}
			for place := range terms {
				xs := slices.Clone(l.xs)
				xs[place] = joined(xs[place], sharesOf(256, 1, 9), 1)
				got := impl.RowsMirror(n, l.weights, l.biases, xs)
				for i, m := range got.Mirrors {
					wantInt(t, "an x", impl.ValueOf(m, -1), value((before[i]+worth(l.weights[i*terms+place], -1))%256))
				}
			}
		}
	}
}

// Mirrors that don't agree are no fault: everybody goes by what it has, and where that makes a quarrel it ends.
func TestRowsOfViewsThatDontAgree(t *testing.T) {
	list := someMirrors(256)
	pick := func(many int, from int, step int) []impl.Mirror {
		var some []impl.Mirror
		for i := range many {
			some = append(some, list[(from+i*step)%len(list)])
		}
		return some
	}
	for first := range list {
		for rows := 1; rows <= 4; rows++ {
			for _, terms := range []int{1, 3} {
				l := layer{weights: pick(rows*terms, first, 5), biases: pick(rows, first+1, 3), xs: pick(terms, 2*first, 1)}
				for _, cheat := range []impl.Cheat{honest, {Who: 0, At: 18, By: 1}, {Who: 2, At: 15, By: 7, Cry: true}} {
					n := busyNet(cheat, 0)
					wantMany(t, "RowsMirror", l.mirrors(n), rowsByHand(n, l))
				}
			}
		}
	}
}

// endOfRows is how many rows, and pairs of the next one, are gone through if one cheats, and whether that ends in a quarrel.
func endOfRows(c impl.Cheat, sent int64, q int64, rows int) (int, int, bool) {
	for i := range rows {
		if pairs, quarrel := endOfDot(c, sent+int64(12*i), q); quarrel {
			return i, pairs, true
		}
	}
	return rows, 0, false
}

// wantLayerOrQuarrel asks of a layer what is promised, whoever cheats.
func wantLayerOrQuarrel(t *testing.T, n impl.Net, l layer) {
	t.Helper()
	got := l.mirrors(n)
	wantMany(t, "RowsMirror", got, rowsByHand(n, l))
	rows, pairs, quarrel := endOfRows(n.Cheat, n.Sent, 256, len(l.biases))
	wantCostOfRows(t, n, got.Net, rows, pairs)
	if got.Net.Quarrel.Some != quarrel {
		t.Fatalf("%v: quarrel %v", n.Cheat, got.Net.Quarrel)
	}
	if !quarrel {
		for i, v := range l.worths() {
			wantInt(t, "ValueOf", impl.ValueOf(got.Mirrors[i], -1), value(v))
		}
		return
	}
	if len(got.Mirrors) != 0 {
		t.Errorf("%v: mirrors in a quarrel: %v", n.Cheat, got.Mirrors)
	}
	apart, trusted := impl.JudgeQuarrel(got.Net.Quarrel), impl.TrustedOf(got.Net.Quarrel)
	if who := n.Cheat.Who; apart.Code != impl.OK || who != apart.First && who != apart.Second || trusted.Value == who {
		t.Errorf("%v: %v are told apart, %v is trusted", n.Cheat, apart, trusted)
	}
}

// Each of the four, at each message of each row, ahead of the first one and behind the last one.
func TestALayerWithOneWhoCheats(t *testing.T) {
	for _, rows := range []int{1, 2, 4} {
		l := layerOf(256, rows, 2, int64(55+rows))
		for _, who := range buts {
			for at := range int64(12*rows + 8) {
				for _, by := range []int64{0, 1, 128, 255} {
					for _, cry := range []bool{false, true} {
						c := impl.Cheat{Who: who, At: at, By: by, Cry: cry}
						wantLayerOrQuarrel(t, netOf(impl.SeedTape(4, 20).Tape, c), l)
						wantLayerOrQuarrel(t, busyNet(c, 5), l)
					}
				}
			}
		}
	}
}

// A message of the first row, of each one in the midst, and of the last one.
func TestAQuarrelInEachRow(t *testing.T) {
	l := layerOf(256, 4, 3, 12)
	for row := range 4 {
		for number, teller := range tellers() {
			at := int64(12*row + number)
			n := netOf(impl.SeedTape(4, 20).Tape, impl.Cheat{Who: teller, At: at, By: 9})
			got := l.mirrors(n)
			p := sixPairs[number/2]
			z := got.Net.Quarrel
			if got.Code != impl.OK || len(got.Mirrors) != 0 || !z.Some || z.From != p[2] || z.Check != p[3] || z.To != p[1] {
				t.Errorf("message %d: %v", at, got)
			}
			wantCostOfRows(t, n, got.Net, row, number/2+1)
			// The rows ahead of it are what they are if nobody cheats.
			if row > 0 {
				cut := impl.RowsMirror(n, l.weights[:3*row], l.biases[:row], l.xs)
				calm := n
				calm.Cheat = honest
				wantMany(t, "the rows ahead", impl.ManyResult{Mirrors: cut.Mirrors, Net: impl.Net{}}, impl.ManyResult{Mirrors: impl.RowsMirror(calm, l.weights[:3*row], l.biases[:row], l.xs).Mirrors})
			}
			// Nobody else tells this message.
			for _, other := range threeOthers(teller) {
				n.Cheat.Who = other
				if got := l.mirrors(n); got.Net.Quarrel.Some || len(got.Mirrors) != 4 {
					t.Errorf("message %d, %d cheats: %v", at, other, got.Net.Quarrel)
				}
			}
		}
	}
}

func TestRowsBehindTheEndOfLanes(t *testing.T) {
	l := layerOf(256, 4, 2, 21)
	bare := l.mirrors(netOf(tapeOf(nil, nil, nil, nil), honest))
	for _, used := range []int64{3, 4, 900, 65536, 99980} {
		n := netOf(smallTape(), honest)
		n.Used = []int64{used, used, used, used}
		got := l.mirrors(n)
		if !slices.EqualFunc(got.Mirrors, bare.Mirrors, sameMirrors) {
			t.Errorf("%d used: %v, not %v", used, got.Mirrors, bare.Mirrors)
		}
		wantCostOfRows(t, n, got.Net, 4, 0)
	}
	// Lanes that end in each of the rows.
	for left := range int64(13) {
		n := netOf(impl.SeedTape(5, 12).Tape, honest)
		n.Used = []int64{12 - left, 12 - left, 12 - left, 12 - left}
		wantMany(t, "lanes that end", l.mirrors(n), rowsByHand(n, l))
	}
	// What stands in memory behind a lane's end is no word of it.
	under := filled(20, 77)
	n := netOf(tapeOf(under[:0], under[:0], under[:0], under[:0]), honest)
	if got := l.mirrors(n); !slices.EqualFunc(got.Mirrors, bare.Mirrors, sameMirrors) {
		t.Errorf("pieces: %v, not %v", got.Mirrors, bare.Mirrors)
	}
}

// What was asked ahead is not asked again: a layer that begins within the bounds is reckoned to its end.
func TestRowsNearTheLastCounts(t *testing.T) {
	l := layerOf(256, 4, 2, 33)
	for _, sent := range []int64{99951, 99952, 99987, 99988, 99999} {
		n := busyNet(honest, sent)
		early := busyNet(honest, 6)
		got, want := l.mirrors(n), l.mirrors(early)
		want.Net.Sent = sent + 48
		wantMany(t, "Sent", got, want)
		if fault := impl.NetFault(got.Net); (fault == impl.OK) != (sent+48 <= 99999) {
			t.Errorf("%d were sent ahead: fault %d", sent, fault)
		}
		weights, bias := l.row(0)
		one := impl.RowMirror(n, weights, bias, l.xs)
		wantInt(t, "one row", impl.ValueOf(one.Mirror, -1), value(l.worths()[0]))
		wantCostOfRows(t, n, one.Net, 1, 0)
	}
	for lane := range 4 {
		n := busyNet(honest, 6)
		n.Used[lane] = 99999
		got := l.mirrors(n)
		for i, v := range l.worths() {
			wantInt(t, "ValueOf", impl.ValueOf(got.Mirrors[i], -1), value(v))
		}
		wantCostOfRows(t, n, got.Net, 4, 0)
	}
	wantManyCode(t, "more than are counted", l.mirrors(busyNet(honest, 100000)), impl.ErrRange)
	wantManyCode(t, "the next layer", l.mirrors(l.mirrors(busyNet(honest, 99999)).Net), impl.ErrRange)
	weights, bias := l.row(0)
	wantMixCode(t, "more than are counted", impl.RowMirror(busyNet(honest, 100000), weights, bias, l.xs), impl.ErrRange)
}

func TestRowsInAFaultyNet(t *testing.T) {
	good := layerOf(256, 2, 2, 3)
	layers := []layer{good, {}, {xs: good.xs}, {weights: good.weights, biases: good.biases}, plainLayer(2, 5, 7), {make([]impl.Mirror, 4), make([]impl.Mirror, 2), make([]impl.Mirror, 2)}, plainLayer(2, 2, 2)}
	for _, l := range layers {
		for _, bias := range []impl.Mirror{good.biases[0], {}, likeMirror(2, 1, 1, 0, 0)} {
			for _, faulty := range faultyNets() {
				wantManyCode(t, faulty.what, l.mirrors(faulty.net), faulty.code)
				wantMixCode(t, faulty.what, impl.RowMirror(faulty.net, l.weights, bias, l.xs), faulty.code)
			}
			for _, z := range []impl.Quarrel{{Some: true}, {Some: true, From: 1, Check: 2, To: 3, Told: 9}, {Some: true, From: -5}} {
				n := busyNet(honest, 6)
				n.Quarrel = z
				wantManyCode(t, "a quarrel", l.mirrors(n), impl.ErrState)
				wantMixCode(t, "a quarrel", impl.RowMirror(n, l.weights, bias, l.xs), impl.ErrState)
			}
		}
	}
	// Some tells whether there is one.
	n := busyNet(honest, 6)
	n.Quarrel = impl.Quarrel{From: 2}
	if got := good.mirrors(n); got.Code != impl.OK || len(got.Mirrors) != 2 || got.Net.Sent != 30 {
		t.Errorf("no quarrel is there: %v", got)
	}
}

func TestARowOfNotAsMany(t *testing.T) {
	n := busyNet(honest, 6)
	for _, q := range rings {
		for weights := range 10 {
			for xs := range 10 {
				got := impl.RowMirror(n, manyOf(q, weights), likeMirror(q, 1, 0, 0, 0), manyOf(q, xs))
				if weights == xs && xs >= 1 && xs <= 6 {
					wantCostOfRows(t, n, got.Net, 1, 0)
					continue
				}
				wantMixCode(t, "not as many", got, impl.ErrMany)
				// Ahead of what the mirrors are, the bias among them.
				for _, bias := range []impl.Mirror{{}, likeMirror(258-q, 1, 0, 0, 0), withPart(likeMirror(q, 0, 0, 0, 0), 0, 0, 1)} {
					wantMixCode(t, "not as many, with faults", impl.RowMirror(n, make([]impl.Mirror, weights), bias, make([]impl.Mirror, xs)), impl.ErrMany)
				}
			}
		}
	}
	wantMixCode(t, "nil", impl.RowMirror(n, nil, likeMirror(256, 0, 0, 0, 0), nil), impl.ErrMany)
}

func TestALayerOfNotAsMany(t *testing.T) {
	n := busyNet(honest, 6)
	for biases := range 7 {
		for xs := range 9 {
			fits := biases >= 1 && biases <= 4 && xs >= 1 && xs <= 6
			for _, weights := range []int{0, 1, xs, biases, biases + xs, biases*xs - 1, biases * xs, biases*xs + 1, 24, 25, 48} {
				if weights < 0 {
					continue
				}
				l := layer{manyOf(256, weights), manyOf(256, biases), manyOf(256, xs)}
				if fits && weights == biases*xs {
					wantCostOfRows(t, n, l.mirrors(n).Net, biases, 0)
					continue
				}
				wantManyCode(t, "not as many", l.mirrors(n), impl.ErrMany)
				// Ahead of what the mirrors are.
				faulty := layer{make([]impl.Mirror, weights), make([]impl.Mirror, biases), make([]impl.Mirror, xs)}
				wantManyCode(t, "not as many, with faults", faulty.mirrors(n), impl.ErrMany)
				bits := layer{manyOf(2, weights), manyOf(2, biases), manyOf(2, xs)}
				wantManyCode(t, "not as many, of q 2", bits.mirrors(n), impl.ErrMany)
			}
		}
	}
	wantManyCode(t, "nil", impl.RowsMirror(n, nil, nil, nil), impl.ErrMany)
	wantManyCode(t, "far too many", plainLayer(256, 4, 7000).mirrors(n), impl.ErrMany)
	wantManyCode(t, "far too many rows", plainLayer(256, 7000, 6).mirrors(n), impl.ErrMany)
}

func TestARowOfFaultyMirrors(t *testing.T) {
	n := busyNet(honest, 6)
	for _, q := range rings {
		bad := []impl.Mirror{{}, likeMirror(258-q, 1, 0, 0, 0)}
		for _, faulty := range faultyMirrors(q) {
			for _, many := range []int{1, 2, 6} {
				for place := range 2 * many {
					row := [2][]impl.Mirror{manyOf(q, many), manyOf(q, many)}
					setIn(row, place, faulty.mirror)
					// What is multiplied is asked ahead of the bias.
					for _, bias := range append(bad, likeMirror(q, 0, 0, 0, 0)) {
						wantMixCode(t, faulty.what, impl.RowMirror(n, row[0], bias, row[1]), faulty.code)
					}
				}
				wantMixCode(t, faulty.what, impl.RowMirror(n, manyOf(q, many), faulty.mirror, manyOf(q, many)), faulty.code)
			}
		}
		for _, many := range []int{1, 2, 6} {
			for place := range 2 * many {
				row := [2][]impl.Mirror{manyOf(q, many), manyOf(q, many)}
				setIn(row, place, likeMirror(258-q, 1, 1, 0, 0))
				if many > 1 || place > 0 {
					wrong := withPart(likeMirror(q, 0, 0, 0, 0), 0, 1, q)
					for _, bias := range []impl.Mirror{likeMirror(q, 0, 0, 0, 0), likeMirror(258-q, 0, 0, 0, 0), wrong} {
						wantMixCode(t, "one of another q", impl.RowMirror(n, row[0], bias, row[1]), impl.ErrForm)
					}
				}
			}
			wantMixCode(t, "a bias of another q", impl.RowMirror(n, manyOf(q, many), likeMirror(258-q, 1, 1, 0, 0), manyOf(q, many)), impl.ErrForm)
			// Its own fault comes ahead of that.
			wantMixCode(t, "a bias of both", impl.RowMirror(n, manyOf(q, many), withPart(likeMirror(258-q, 1, 1, 0, 0), 2, 1, 256), manyOf(q, many)), impl.ErrRange)
		}
	}
}

// Weights are asked one by one, then xs, then the bias; the first fault that stands there is told.
func TestARowOneByOne(t *testing.T) {
	n := busyNet(honest, 6)
	for _, q := range rings {
		form, wrong, other := mirrorOf(q), withPart(likeMirror(q, 1, 1, 1, 1), 1, 3, q), likeMirror(258-q, 1, 0, 0, 0)
		for first := range 7 {
			for second := first + 1; second < 7; second++ {
				for _, c := range []struct {
					what         string
					ahead, other impl.Mirror
					code         int64
				}{
					{"form ahead of range", form, wrong, impl.ErrForm},
					{"range ahead of form", wrong, form, impl.ErrRange},
					{"range ahead of another q", wrong, other, impl.ErrRange},
					{"another q ahead of range", other, wrong, impl.ErrForm},
				} {
					// The first one has the q that all are held against.
					if first == 0 && c.what == "another q ahead of range" {
						continue
					}
					all := manyOf(q, 7)
					all[first], all[second] = c.ahead, c.other
					wantMixCode(t, c.what, impl.RowMirror(n, all[:3], all[6], all[3:6]), c.code)
				}
			}
		}
	}
}

func TestALayerOfFaultyMirrors(t *testing.T) {
	n := busyNet(honest, 6)
	for _, size := range [][2]int{{1, 1}, {2, 3}, {4, 6}} {
		for place := range plainLayer(256, size[0], size[1]).places() {
			for _, faulty := range faultyMirrors(256) {
				l := plainLayer(256, size[0], size[1])
				*l.places()[place] = faulty.mirror
				wantManyCode(t, faulty.what, l.mirrors(n), faulty.code)
			}
			l := plainLayer(256, size[0], size[1])
			*l.places()[place] = likeMirror(2, 1, 0, 0, 1)
			wantManyCode(t, "one of q 2", l.mirrors(n), impl.ErrForm)
			*l.places()[place] = withPart(likeMirror(2, 1, 0, 0, 1), 0, 1, 2)
			wantManyCode(t, "one of q 2, with a fault", l.mirrors(n), impl.ErrRange)
		}
		// A row of bits is one, a layer of them is none.
		bits := plainLayer(2, size[0], size[1])
		wantManyCode(t, "all of q 2", bits.mirrors(n), impl.ErrForm)
		for _, faulty := range faultyMirrors(2) {
			*bits.places()[0] = faulty.mirror
			wantManyCode(t, faulty.what, bits.mirrors(n), faulty.code)
		}
		// It is asked ahead of anything that is told.
		cheats := busyNet(impl.Cheat{Who: 2, At: 6, By: 1}, 6)
		wantManyCode(t, "one cheats", plainLayer(2, size[0], size[1]).mirrors(cheats), impl.ErrForm)
	}
}

// Each mirror is asked its fault, and whether it has Ring, ahead of the next one: weights, then biases, then xs.
func TestLayersOneByOne(t *testing.T) {
	n := busyNet(honest, 6)
	form, wrong, bit := mirrorOf(256), withPart(likeMirror(256, 1, 1, 1, 1), 1, 3, 256), likeMirror(2, 1, 0, 0, 0)
	many := len(plainLayer(256, 2, 3).places())
	for first := range many {
		for second := first + 1; second < many; second++ {
			for _, c := range []struct {
				what         string
				ahead, other impl.Mirror
				code         int64
			}{
				{"form ahead of range", form, wrong, impl.ErrForm},
				{"range ahead of form", wrong, form, impl.ErrRange},
				{"range ahead of q 2", wrong, bit, impl.ErrRange},
				{"q 2 ahead of range", bit, wrong, impl.ErrForm},
				{"q 2 ahead of no ring", bit, mirrorOf(3), impl.ErrForm},
			} {
				l := plainLayer(256, 2, 3)
				*l.places()[first], *l.places()[second] = c.ahead, c.other
				wantManyCode(t, c.what, l.mirrors(n), c.code)
			}
		}
	}
}

// openedByHand is what OpenMirror tells of each.
func openedByHand(list []impl.Mirror, who int64, by int64) ([][]int64, int64) {
	var rows [][]int64
	for _, m := range list {
		one := impl.OpenMirror(m, who, by)
		if one.Code != impl.OK {
			return nil, one.Code
		}
		rows = append(rows, one.Values)
	}
	return rows, impl.OK
}

func TestOpenManyByHand(t *testing.T) {
	a, b, bits := likeMirror(256, 10, 20, 30, 240), likeMirror(256, 1, 2, 3, 4), likeMirror(2, 1, 0, 1, 1)
	wantTable(t, "none", impl.OpenMany([]impl.Mirror{}, -1, 0))
	wantTable(t, "one", impl.OpenMany([]impl.Mirror{a}, -1, 9), []int64{44, 44, 44, 44})
	wantTable(t, "two, one lies", impl.OpenMany([]impl.Mirror{a, b}, 2, 9), []int64{44, 44, 44, 44}, []int64{10, 10, 10, 10})
	wantTable(t, "of both q", impl.OpenMany([]impl.Mirror{b, bits, a}, 0, 255), []int64{10, 10, 10, 10}, []int64{1, 1, 1, 1}, []int64{44, 44, 44, 44})
	odd := withPart(a, 1, 0, 13)
	wantTable(t, "odd", impl.OpenMany([]impl.Mirror{a, odd}, -1, 0), []int64{44, 44, 44, 44}, []int64{44, 47, 44, 44})
	wantTable(t, "two are one", impl.OpenMany([]impl.Mirror{odd, odd}, 2, 3), []int64{47, 47, 44, 44}, []int64{47, 47, 44, 44})
	wantTableCode(t, "no two tell the same", impl.OpenMany([]impl.Mirror{a, odd, b}, 2, 1), impl.ErrNone)
}

// None, one and all that there may be, with nobody and with each of the four that lies.
func TestOpenMany(t *testing.T) {
	for many := range 21 {
		list := append(layerOf(256, 1, many, 5).xs, layerOf(2, 1, many, 6).xs...)
		for _, cut := range [][]impl.Mirror{list[:many], list[many:], list[many/2 : many/2+many]} {
			for _, who := range buts {
				for _, by := range bys {
					want := make([][]int64, many)
					for i, m := range cut {
						want[i] = filled(4, worth(m, -1))
					}
					wantTable(t, "OpenMany", impl.OpenMany(cut, who, by), want...)
				}
			}
		}
	}
}

// Whatever they are, each is opened as OpenMirror opens it, and the first code is told.
func TestOpenManyIsOpenMirrorOfEach(t *testing.T) {
	for _, q := range rings {
		some := someMirrors(q)
		for _, who := range buts {
			for _, by := range bys {
				for first := range some {
					var list []impl.Mirror
					for i := range 20 {
						list = append(list, some[(first+i)%len(some)])
						rows, none := openedByHand(list, who, by)
						got := impl.OpenMany(list, who, by)
						if none != impl.OK {
							wantTableCode(t, "OpenMany", got, none)
							continue
						}
						wantTable(t, "OpenMany", got, rows...)
					}
				}
			}
		}
	}
}

func TestOpenManyOfTooMany(t *testing.T) {
	for _, q := range rings {
		for _, many := range []int{21, 22, 40, 1000, 70000} {
			for _, who := range []int64{-1, 0, 3, -2, 4} {
				for _, by := range []int64{0, 255, -1, 256} {
					wantTableCode(t, "too many", impl.OpenMany(manyOf(q, many), who, by), impl.ErrMany)
					wantTableCode(t, "too many, with faults", impl.OpenMany(make([]impl.Mirror, many), who, by), impl.ErrMany)
				}
			}
		}
		if got := impl.OpenMany(manyOf(q, 20), -1, 0); got.Code != impl.OK || len(got.Rows) != 20 {
			t.Errorf("20: %v", got)
		}
	}
}

func TestOpenManyOfFaultyMirrors(t *testing.T) {
	for _, q := range rings {
		for _, faulty := range faultyMirrors(q) {
			for _, many := range []int{1, 2, 20} {
				for _, place := range []int{0, many / 2, many - 1} {
					list := manyOf(q, many)
					list[place] = faulty.mirror
					wantTableCode(t, faulty.what, impl.OpenMany(list, -1, 0), faulty.code)
					wantTableCode(t, faulty.what, impl.OpenMany(list, 3, 255), faulty.code)
				}
			}
			// The fault of the first one comes ahead of what is out of bounds; that comes ahead of the next one's.
			wantTableCode(t, faulty.what, impl.OpenMany([]impl.Mirror{faulty.mirror, likeMirror(q, 0, 0, 0, 0)}, 4, 0), faulty.code)
			wantTableCode(t, "out of bounds", impl.OpenMany([]impl.Mirror{likeMirror(q, 0, 0, 0, 0), faulty.mirror}, 4, 0), impl.ErrRange)
			wantTableCode(t, "out of bounds", impl.OpenMany([]impl.Mirror{likeMirror(q, 0, 0, 0, 0), faulty.mirror}, 0, -1), impl.ErrRange)
		}
	}
}

func TestOpenManyOutOfBounds(t *testing.T) {
	none := unlikeMirror(256, 5)
	for _, list := range [][]impl.Mirror{manyOf(256, 1), manyOf(2, 20), {none}, {none, likeMirror(2, 0, 1, 0, 1)}} {
		for _, no := range noButs {
			for _, by := range []int64{0, 255, -1, 256} {
				wantTableCode(t, "no who", impl.OpenMany(list, no, by), impl.ErrRange)
			}
		}
		for _, no := range noElements(256) {
			for _, who := range buts {
				wantTableCode(t, "wrong by", impl.OpenMany(list, who, no), impl.ErrRange)
			}
		}
	}
	// Of none nothing is asked.
	for _, no := range noButs {
		wantTable(t, "none, no who", impl.OpenMany(nil, no, 0))
		wantTable(t, "none, wrong by", impl.OpenMany([]impl.Mirror{}, 0, no-1000))
	}
}

// Where of one of them no two tell the same nothing is told; a fault ahead of it is told in its place, one behind it is not.
func TestOpenManyWithOneThatIsNone(t *testing.T) {
	none, form := unlikeMirror(256, 5), mirrorOf(256)
	wantOpenCode(t, "there is none", impl.OpenMirror(none, -1, 0), impl.ErrNone)
	for _, many := range []int{1, 2, 3, 20} {
		for place := range many {
			list := manyOf(256, many)
			list[place] = none
			wantTableCode(t, "none", impl.OpenMany(list, -1, 0), impl.ErrNone)
			for other := range many {
				if other == place {
					continue
				}
				two := slices.Clone(list)
				two[other] = form
				want := int64(impl.ErrNone)
				if other < place {
					want = impl.ErrForm
				}
				wantTableCode(t, "none, and a fault", impl.OpenMany(two, -1, 0), want)
			}
		}
	}
}

// What a layer is worth is opened by all, whoever lies.
func TestALayerIsOpened(t *testing.T) {
	for rows := 1; rows <= 4; rows++ {
		for seed := range int64(10) {
			l := layerOf(256, rows, 6, seed)
			got := l.mirrors(netOf(impl.SeedTape(seed, 30).Tape, honest))
			for _, who := range buts {
				var want [][]int64
				for _, v := range l.worths() {
					want = append(want, filled(4, v))
				}
				wantTable(t, "OpenMany", impl.OpenMany(got.Mirrors, who, 200), want...)
			}
			sum := int64(0)
			for _, v := range l.worths() {
				sum += v
			}
			wantInt(t, "the sum of its rows", impl.ValueOf(impl.SumMirrors(got.Mirrors).Mirror, -1), value(sum%256))
		}
	}
}

func TestRowsChangeNoArgument(t *testing.T) {
	kept := []int64{1, 2, 3, 4, 5, 6, 7, 8, 0, 1, 2, 3, 20, 21, 22, 23, 24, 25, 26, 27, 42, 43, 44, 45}
	parts := []int64{0, 5, 6, 7, 4, 0, 6, 7, 4, 5, 0, 7, 4, 5, 6, 0, 77, 78, 79}
	under, ofMirror := slices.Clone(kept), slices.Clone(parts)
	n, m := laidNet(under), laidMirror(256, ofMirror)
	before := cloneNet(n)
	list := []impl.Mirror{m, m, m, m, m, m, m, m, {Q: 7}}
	for _, cheat := range []impl.Cheat{n.Cheat, honest, {Who: 2, At: 6, By: 9}, {Who: 2, At: 20, By: 9}} {
		n.Cheat, before.Cheat = cheat, cheat
		for many := range 10 {
			impl.RowMirror(n, list[:many], m, list[:many])
			impl.RowMirror(n, list[many:], m, list[many:])
			impl.RowsMirror(n, list[:2*(many/2)], list[:2], list[:many/2])
			impl.RowsMirror(n, list[:many], list[:many], list[:1])
			impl.RowsMirror(n, list[:many], list[many:], list[:1])
			impl.SumMirrors(list[:many])
			impl.SumMirrors(list[many:])
			for _, who := range buts {
				impl.OpenMany(list[:many], who, 9)
				impl.OpenMany(list[many:], who, 256)
			}
		}
	}
	if !slices.Equal(under, kept) || !slices.Equal(ofMirror, parts) || !sameNets(n, before) {
		t.Errorf("an argument was changed: %v, %v", under, ofMirror)
	}
	for i, other := range list[:8] {
		if !sameMirrors(other, laidMirror(256, parts)) {
			t.Errorf("mirror %d was changed: %v", i, other)
		}
	}
	if list[8].Q != 7 || list[8].Views != nil {
		t.Errorf("a list was changed: %v", list)
	}
}

// rowAnswers are answers of all functions of the chapter, as many mirrors, with a quarrel and without one.
func rowAnswers(n impl.Net, m impl.Mirror) []impl.ManyResult {
	calm, late := n, n
	calm.Cheat, late.Cheat = honest, impl.Cheat{Who: 2, At: n.Sent + 12, By: 9}
	list := []impl.Mirror{m, m, m, m, m, m}
	var answers []impl.ManyResult
	for _, net := range []impl.Net{calm, n, late} {
		one := impl.RowMirror(net, list[:3], m, list[:3])
		answers = append(answers, impl.ManyResult{Code: one.Code, Mirrors: []impl.Mirror{one.Mirror}, Net: one.Net}, impl.RowsMirror(net, list, list[:2], list[:3]))
	}
	for many := 1; many < 4; many++ {
		sum, open := impl.SumMirrors(list[:many]), impl.OpenMany(list[:many], 1, 9)
		answers = append(answers, impl.ManyResult{Code: sum.Code, Mirrors: []impl.Mirror{sum.Mirror}}, impl.ManyResult{Code: open.Code, Mirrors: []impl.Mirror{{Views: open.Rows}}})
	}
	return answers
}

func TestRowsAreNewMemory(t *testing.T) {
	kept := []int64{1, 2, 3, 4, 5, 6, 7, 8, 0, 1, 2, 3, 20, 21, 22, 23, 24, 25, 26, 27, 42, 43, 44, 45}
	parts := []int64{0, 5, 6, 7, 4, 0, 6, 7, 4, 5, 0, 7, 4, 5, 6, 0}
	under, ofMirror := slices.Clone(kept), slices.Clone(parts)
	n, m := laidNet(under), laidMirror(256, ofMirror)
	first, second := rowAnswers(n, m), rowAnswers(n, m)
	var want []impl.ManyResult
	for _, answer := range second {
		want = append(want, cloneMany(answer))
	}
	for _, answer := range first {
		spoilMany(answer)
	}
	if !slices.Equal(under, kept) || !slices.Equal(ofMirror, parts) || !sameMirrors(m, laidMirror(256, parts)) {
		t.Fatalf("an answer shares memory with an argument: %v, %v", under, ofMirror)
	}
	for i, later := range rowAnswers(n, m) {
		wantMany(t, "a later answer", later, want[i])
	}
	spoilNet(n)
	spoilList(ofMirror)
	for i, answer := range second {
		wantMany(t, "when others and the arguments are written over", answer, want[i])
	}
}

// Lists of the arguments may be one memory; those of an answer never are.
func TestNoTwoListsOfRowsShareMemory(t *testing.T) {
	one := []int64{0, 0, 0, 0}
	lists := [][]int64{one, one, one, one}
	n := impl.Net{Tape: impl.Tape{Lanes: lists}, Used: one, Heard: lists, Cheat: impl.Cheat{Who: 3, At: 2, By: 3, Cry: true}}
	wantListsApart(t, rowAnswers(n, impl.Mirror{Q: 256, Views: lists}))
	if !slices.Equal(one, []int64{0, 0, 0, 0}) {
		t.Errorf("an answer shares memory with an argument: %v", one)
	}
}

func TestRowsAnswerTheSameAgain(t *testing.T) {
	l := layerOf(256, 3, 4, 8)
	for _, cheat := range []impl.Cheat{honest, {Who: 0, At: 22, By: 9}} {
		n := busyNet(cheat, 2)
		weights, bias := l.row(1)
		row, rows, sum, open := impl.RowMirror(n, weights, bias, l.xs), l.mirrors(n), impl.SumMirrors(l.weights), impl.OpenMany(l.xs, 2, 9)
		layerOf(256, 4, 6, 9).mirrors(busyNet(honest, 50))
		l.mirrors(rows.Net)
		impl.RowMirror(row.Net, weights, bias, l.xs)
		impl.RowMirror(impl.Net{}, nil, impl.Mirror{}, nil)
		impl.RowsMirror(impl.Net{}, nil, nil, nil)
		impl.SumMirrors(nil)
		impl.SumMirrors(l.xs)
		impl.OpenMany([]impl.Mirror{unlikeMirror(256, 5)}, -1, 0)
		impl.OpenMany(l.xs, math.MinInt64, math.MaxInt64)
		wantMix(t, "RowMirror again", impl.RowMirror(n, weights, bias, l.xs), row)
		wantMany(t, "RowsMirror again", l.mirrors(n), rows)
		wantMirror(t, "SumMirrors again", impl.SumMirrors(l.weights), sum.Mirror)
		wantTable(t, "OpenMany again", impl.OpenMany(l.xs, 2, 9), open.Rows...)
	}
}
