package tests

import (
	"math"
	"slices"
	"testing"

	"loop.example/g00525/impl"
)

// The signatures of chapter 3.
var (
	_ func(impl.Mirror) int64                          = impl.MirrorFault
	_ func(int64, []int64) impl.MirrorResult           = impl.MirrorOf
	_ func(impl.Mirror, int64) bool                    = impl.IsAlike
	_ func(impl.Mirror, int64) impl.IntResult          = impl.ValueOf
	_ func(impl.Mirror, impl.Mirror) impl.MirrorResult = impl.AddMirrors
	_ func(impl.Mirror, impl.Mirror) impl.MirrorResult = impl.SubMirrors
	_ func(impl.Mirror, int64) impl.MirrorResult       = impl.ScaleMirror
	_ func(int64, int64) impl.MirrorResult             = impl.PlainMirror
	_                                                  = impl.MirrorResult{Code: impl.OK, Mirror: impl.Mirror{Q: 2, Views: [][]int64{}}}
)

var (
	buts   = []int64{-1, 0, 1, 2, 3}
	noButs = []int64{math.MinInt64, -256, -4, -3, -2, 4, 5, 7, 256, 1<<32 - 1, 1 << 32, math.MaxInt64}
)

func mirrorOf(q int64, views ...[]int64) impl.Mirror {
	return impl.Mirror{Q: q, Views: views}
}

// viewsOf is what everybody has of four parts; it does not lean on MirrorOf, which is under test itself.
func viewsOf(a int64, b int64, c int64, d int64) [][]int64 {
	return [][]int64{{0, b, c, d}, {a, 0, c, d}, {a, b, 0, d}, {a, b, c, 0}}
}

func likeMirror(q int64, a int64, b int64, c int64, d int64) impl.Mirror {
	return mirrorOf(q, viewsOf(a, b, c, d)...)
}

// unlikeMirror has views that don't agree, which is no fault.
func unlikeMirror(q int64, first int64) impl.Mirror {
	m := likeMirror(q, 0, 0, 0, 0)
	next := first
	for party, view := range m.Views {
		for part := range view {
			if part != party {
				next = (next*75 + 74) % 65537
				view[part] = next / 7 % q
			}
		}
	}
	return m
}

func cloneMirror(m impl.Mirror) impl.Mirror {
	views := make([][]int64, len(m.Views))
	for i, view := range m.Views {
		views[i] = slices.Clone(view)
	}
	return impl.Mirror{Q: m.Q, Views: views}
}

// withPart is a copy with one part set.
func withPart(m impl.Mirror, party int, part int, to int64) impl.Mirror {
	near := cloneMirror(m)
	near.Views[party][part] = to
	return near
}

func wantMirror(t *testing.T, what string, got impl.MirrorResult, want impl.Mirror) {
	t.Helper()
	if got.Code != impl.OK || got.Mirror.Q != want.Q || !slices.EqualFunc(got.Mirror.Views, want.Views, slices.Equal) {
		t.Errorf("%s: got %v, want %v", what, got, want)
	}
}

func wantMirrorCode(t *testing.T, what string, got impl.MirrorResult, want int64) {
	t.Helper()
	if got.Code != want || got.Mirror.Q != 0 || len(got.Mirror.Views) != 0 {
		t.Errorf("%s: got %v, want code %d and no mirror", what, got, want)
	}
}

// edgeParts are four parts each, with 0 and q - 1 among them.
func edgeParts(q int64) [][]int64 {
	top := q - 1
	list := [][]int64{{0, 0, 0, 0}, {top, top, top, top}, {1, 0, 0, 0}, {0, 1, 0, 0}, {0, 0, 1, 0}, {0, 0, 0, 1}, {top, 0, top, 0}, {0, top, 0, top}, {1, top, 1, top}}
	if q == 256 {
		list = append(list, []int64{1, 2, 3, 250}, []int64{127, 128, 129, 130}, []int64{64, 64, 64, 64}, []int64{10, 20, 30, 40}, []int64{200, 150, 100, 50})
	}
	return list
}

// someMirrors have no fault; not all of them are alike.
func someMirrors(q int64) []impl.Mirror {
	var list []impl.Mirror
	for _, parts := range edgeParts(q) {
		list = append(list, likeMirror(q, parts[0], parts[1], parts[2], parts[3]))
	}
	for first := range int64(6) {
		list = append(list, unlikeMirror(q, 1000*first+1))
	}
	return append(list, withPart(list[1], 1, 0, 0), withPart(list[0], 3, 2, q-1))
}

type faultyMirror struct {
	what   string
	mirror impl.Mirror
	code   int64
}

// faultyMirrors are of each fault, and of two faults where the first one is to be told.
func faultyMirrors(q int64) []faultyMirror {
	good := likeMirror(q, 1, 1, 0, 1)
	zero, short, long, wrong, low := []int64{0, 0, 0, 0}, []int64{0, 0, 0}, []int64{0, 0, 0, 0, 0}, []int64{0, 0, 0, q}, []int64{0, 0, 0, -1}
	list := []faultyMirror{
		{"nil views", mirrorOf(q), impl.ErrForm},
		{"no views", mirrorOf(q, [][]int64{}...), impl.ErrForm},
		{"one view", mirrorOf(q, zero), impl.ErrForm},
		{"three views", mirrorOf(q, zero, zero, zero), impl.ErrForm},
		{"five views", mirrorOf(q, zero, zero, zero, zero, zero), impl.ErrForm},
		{"eight views", mirrorOf(q, zero, zero, zero, zero, zero, zero, zero, zero), impl.ErrForm},
		{"three views, one wrong", mirrorOf(q, wrong, zero, zero), impl.ErrForm},
		{"five views, one wrong", mirrorOf(q, wrong, zero, zero, zero, zero), impl.ErrForm},
		{"four nil views", mirrorOf(q, nil, nil, nil, nil), impl.ErrForm},
		{"one nil view", mirrorOf(q, zero, zero, zero, nil), impl.ErrForm},
		{"one empty view", mirrorOf(q, zero, []int64{}, zero, zero), impl.ErrForm},
		{"a view of three parts", mirrorOf(q, zero, zero, short, zero), impl.ErrForm},
		{"a view of five parts", mirrorOf(q, zero, zero, zero, long), impl.ErrForm},
		{"a short view with a wrong part", mirrorOf(q, zero, zero, []int64{q, q, q}, zero), impl.ErrForm},
		{"a long view with a wrong part", mirrorOf(q, []int64{0, q, -1, 0, 0}, zero, zero, zero), impl.ErrForm},
		{"a part of q", mirrorOf(q, wrong, zero, zero, zero), impl.ErrRange},
		{"a part below 0", mirrorOf(q, zero, low, zero, zero), impl.ErrRange},
		{"short ahead of wrong", mirrorOf(q, zero, short, wrong, zero), impl.ErrForm},
		{"long ahead of wrong", mirrorOf(q, long, zero, zero, low), impl.ErrForm},
		{"wrong ahead of short", mirrorOf(q, zero, wrong, short, zero), impl.ErrRange},
		{"wrong ahead of long", mirrorOf(q, low, zero, zero, long), impl.ErrRange},
		{"an own part", withPart(good, 2, 2, 1), impl.ErrForm},
		{"an own part below 0", withPart(good, 0, 0, -1), impl.ErrRange},
		{"an own part of q", withPart(good, 3, 3, q), impl.ErrRange},
		{"an own part, and a wrong one ahead of it", withPart(withPart(good, 2, 2, 1), 2, 1, q), impl.ErrRange},
		{"an own part, and a wrong one behind it", withPart(withPart(good, 2, 2, 1), 2, 3, -1), impl.ErrRange},
		{"an own part, and a wrong one in a view behind", withPart(withPart(good, 0, 0, 1), 3, 1, q), impl.ErrRange},
		{"an own part, and a wrong one in a view ahead", withPart(withPart(good, 3, 3, 1), 0, 1, q), impl.ErrRange},
	}
	for _, no := range noRings {
		list = append(list, faultyMirror{"no ring", mirrorOf(no, zero, zero, zero, zero), impl.ErrRange},
			faultyMirror{"no ring, three views", mirrorOf(no, zero, zero, zero), impl.ErrRange},
			faultyMirror{"no ring, nil views", mirrorOf(no), impl.ErrRange},
			faultyMirror{"no ring, a short view", mirrorOf(no, short, zero, zero, zero), impl.ErrRange},
			faultyMirror{"no ring, an own part", mirrorOf(no, []int64{1, 0, 0, 0}, zero, zero, zero), impl.ErrRange})
	}
	return list
}

func TestMirrorFaultNone(t *testing.T) {
	for _, q := range rings {
		for _, m := range someMirrors(q) {
			if got := impl.MirrorFault(m); got != impl.OK {
				t.Errorf("%v: %d", m, got)
			}
		}
		for party := range 4 {
			for part := range 4 {
				for v := range q {
					want := int64(impl.OK)
					if part == party && v != 0 {
						want = impl.ErrForm
					}
					if got := impl.MirrorFault(withPart(likeMirror(q, 1, 0, 1, 0), party, part, v)); got != want {
						t.Errorf("q %d, part %d of party %d is %d: got %d, want %d", q, part, party, v, got, want)
					}
				}
			}
		}
	}
	if got := impl.MirrorFault(impl.Mirror{}); got != impl.ErrRange {
		t.Errorf("the zero value: %d", got)
	}
}

func TestMirrorFaultOrder(t *testing.T) {
	for _, q := range rings {
		for _, faulty := range faultyMirrors(q) {
			if got := impl.MirrorFault(faulty.mirror); got != faulty.code {
				t.Errorf("q %d, %s: got %d, want %d", q, faulty.what, got, faulty.code)
			}
		}
	}
}

func TestMirrorFaultEveryPlace(t *testing.T) {
	for _, q := range rings {
		good := likeMirror(q, 1, 1, 1, 1)
		for party := range 4 {
			for part := range 4 {
				for _, wrong := range noElements(q) {
					if got := impl.MirrorFault(withPart(good, party, part, wrong)); got != impl.ErrRange {
						t.Errorf("q %d, part %d of party %d is %d: %d", q, part, party, wrong, got)
					}
				}
			}
			for _, many := range []int{0, 1, 2, 3, 5, 6, 8, 300} {
				m := cloneMirror(good)
				m.Views[party] = filled(many, 0)
				if got := impl.MirrorFault(m); got != impl.ErrForm {
					t.Errorf("q %d, party %d has %d parts: %d", q, party, many, got)
				}
			}
		}
	}
}

// For any two views, the fault of the one ahead is told; but own parts are asked behind all views.
func TestMirrorFaultViewByView(t *testing.T) {
	for _, q := range rings {
		for first := range 4 {
			for second := first + 1; second < 4; second++ {
				m := likeMirror(q, 1, 1, 1, 1)
				m.Views[first], m.Views[second] = []int64{0, 0, q, 0}, []int64{0, 0, 0}
				if got := impl.MirrorFault(m); got != impl.ErrRange {
					t.Errorf("q %d, views %d, %d: %d", q, first, second, got)
				}
				m.Views[first], m.Views[second] = m.Views[second], m.Views[first]
				if got := impl.MirrorFault(m); got != impl.ErrForm {
					t.Errorf("q %d, views %d, %d: %d", q, first, second, got)
				}
				m = withPart(withPart(likeMirror(q, 1, 1, 1, 1), first, first, 1), second, first, q)
				if got := impl.MirrorFault(m); got != impl.ErrRange {
					t.Errorf("q %d, an own part in view %d, a wrong one in view %d: %d", q, first, second, got)
				}
			}
		}
	}
}

func TestMirrorOf(t *testing.T) {
	for _, q := range rings {
		for _, p := range edgeParts(q) {
			got := impl.MirrorOf(q, p)
			wantMirror(t, "MirrorOf", got, likeMirror(q, p[0], p[1], p[2], p[3]))
			if fault := impl.MirrorFault(got.Mirror); fault != impl.OK {
				t.Errorf("q %d, %v: fault %d", q, p, fault)
			}
		}
		for v := range q {
			for part := range 4 {
				p := []int64{0, q - 1, 1, 0}
				p[part] = v
				wantMirror(t, "MirrorOf", impl.MirrorOf(q, p), likeMirror(q, p[0], p[1], p[2], p[3]))
			}
		}
	}
}

func TestMirrorOfWrong(t *testing.T) {
	for _, no := range noRings {
		for _, parts := range [][]int64{{0, 0, 0, 0}, {0, 0, 0}, nil, {-1, 0, 0, 0}} {
			wantMirrorCode(t, "no ring", impl.MirrorOf(no, parts), impl.ErrRange)
		}
	}
	for _, q := range rings {
		for _, many := range []int{0, 1, 2, 3, 5, 6, 8, 300} {
			for _, part := range []int64{0, 1, -1, q, math.MaxInt64} {
				wantMirrorCode(t, "not four parts", impl.MirrorOf(q, filled(many, part)), impl.ErrForm)
			}
		}
		wantMirrorCode(t, "nil parts", impl.MirrorOf(q, nil), impl.ErrForm)
		for place := range 4 {
			for _, wrong := range noElements(q) {
				parts := []int64{1, 0, 1, 0}
				parts[place] = wrong
				wantMirrorCode(t, "no element", impl.MirrorOf(q, parts), impl.ErrRange)
			}
		}
	}
}

// agree asks each two who are not left out, of each part that both know.
func agree(m impl.Mirror, but int64) bool {
	for one := range 4 {
		for other := range one {
			for part := range 4 {
				if int64(one) != but && int64(other) != but && part != one && part != other && m.Views[one][part] != m.Views[other][part] {
					return false
				}
			}
		}
	}
	return true
}

// worth is the sum of the parts as the first one knows them who is not left out.
func worth(m impl.Mirror, but int64) int64 {
	sum := int64(0)
	for part := range 4 {
		for party := range 4 {
			if party != part && int64(party) != but {
				sum += m.Views[party][part]
				break
			}
		}
	}
	return sum % m.Q
}

func wantWorth(t *testing.T, m impl.Mirror) {
	t.Helper()
	for _, but := range buts {
		alike := agree(m, but)
		if got := impl.IsAlike(m, but); got != alike {
			t.Errorf("%v but %d: got %v", m, but, got)
		}
		want := code(impl.ErrState)
		if alike {
			want = value(worth(m, but))
		}
		wantInt(t, "ValueOf", impl.ValueOf(m, but), want)
	}
}

// bitMirror is the mirror of q 2 whose twelve known parts are the bits of a number.
func bitMirror(bits int) impl.Mirror {
	m := likeMirror(2, 0, 0, 0, 0)
	for party, view := range m.Views {
		for part := range view {
			if part != party {
				view[part] = int64(bits & 1)
				bits >>= 1
			}
		}
	}
	return m
}

func TestEveryMirrorOfBits(t *testing.T) {
	for bits := range 4096 {
		wantWorth(t, bitMirror(bits))
	}
}

func TestMirrorsOfRingAlike(t *testing.T) {
	for _, q := range rings {
		for _, m := range someMirrors(q) {
			wantWorth(t, m)
		}
	}
	wantInt(t, "1, 2, 3, 250", impl.ValueOf(likeMirror(256, 1, 2, 3, 250), -1), value(0))
	wantInt(t, "255 four times", impl.ValueOf(likeMirror(256, 255, 255, 255, 255), -1), value(252))
	wantInt(t, "10, 20, 30, 40", impl.ValueOf(likeMirror(256, 10, 20, 30, 40), -1), value(100))
	wantInt(t, "1 four times of 2", impl.ValueOf(likeMirror(2, 1, 1, 1, 1), -1), value(0))
	wantInt(t, "1 three times of 2", impl.ValueOf(likeMirror(2, 1, 1, 0, 1), -1), value(1))
}

func TestFourPartsMakeTheirSumForAll(t *testing.T) {
	for _, q := range rings {
		for _, p := range edgeParts(q) {
			m := impl.MirrorOf(q, p).Mirror
			for _, but := range buts {
				if !impl.IsAlike(m, but) {
					t.Errorf("q %d, %v but %d: not alike", q, p, but)
				}
				wantInt(t, "the sum", impl.ValueOf(m, but), value((p[0]+p[1]+p[2]+p[3])%q))
			}
		}
	}
}

// One part that one party has otherwise is seen, but where that one is left out.
func TestAlikeButForOnePart(t *testing.T) {
	for _, q := range rings {
		for _, p := range edgeParts(q) {
			whole := impl.MirrorOf(q, p).Mirror
			sum := (p[0] + p[1] + p[2] + p[3]) % q
			for party := range 4 {
				for part := range 4 {
					if part == party {
						continue
					}
					near := withPart(whole, party, part, (p[part]+1)%q)
					for _, but := range buts {
						want := code(impl.ErrState)
						if but == int64(party) {
							want = value(sum)
						}
						if got := impl.IsAlike(near, but); got != (but == int64(party)) {
							t.Errorf("q %d, %v, party %d, part %d, but %d: %v", q, p, party, part, but, got)
						}
						wantInt(t, "ValueOf", impl.ValueOf(near, but), want)
					}
				}
			}
		}
	}
}

// Whatever the one who is left out has, the others are not asked for it.
func TestAllThatOneHasIsLeftOut(t *testing.T) {
	for _, q := range rings {
		for party := range 4 {
			m := likeMirror(q, 1, 1, 0, 1)
			for part := range 4 {
				if part != party {
					m.Views[party][part] = q - 1 - m.Views[party][part]
				}
			}
			for _, but := range buts {
				want := code(impl.ErrState)
				if but == int64(party) {
					want = value(3 % q)
				}
				wantInt(t, "ValueOf", impl.ValueOf(m, but), want)
			}
			wantWorth(t, m)
		}
	}
}

// Where two have a part otherwise than the third one, it is worth what those know who are asked.
func TestTwoAgainstTheOneLeftOut(t *testing.T) {
	for part := range 4 {
		for left := range 4 {
			if left == part {
				continue
			}
			m := likeMirror(256, 10, 20, 30, 40)
			for party := range 4 {
				if party != part && party != left {
					m.Views[party][part] += 100
				}
			}
			for _, but := range buts {
				want := code(impl.ErrState)
				if but == int64(left) {
					want = value(200)
				}
				wantInt(t, "ValueOf", impl.ValueOf(m, but), want)
				if got := impl.IsAlike(m, but); got != (but == int64(left)) {
					t.Errorf("part %d, left %d, but %d: %v", part, left, but, got)
				}
			}
		}
	}
}

func TestButOutOfBounds(t *testing.T) {
	for _, q := range rings {
		for _, but := range noButs {
			for _, m := range someMirrors(q) {
				wantInt(t, "but", impl.ValueOf(m, but), code(impl.ErrRange))
				if impl.IsAlike(m, but) {
					t.Errorf("q %d: alike but %d", q, but)
				}
			}
		}
	}
}

func TestValueOfAsksTheMirrorFirst(t *testing.T) {
	for _, q := range rings {
		for _, faulty := range faultyMirrors(q) {
			for _, but := range append(slices.Clone(buts), noButs...) {
				wantInt(t, faulty.what, impl.ValueOf(faulty.mirror, but), code(faulty.code))
				if impl.IsAlike(faulty.mirror, but) {
					t.Errorf("q %d, %s: alike but %d", q, faulty.what, but)
				}
			}
		}
	}
}

// joined is what the sums (by 1) or differences (by -1) of all parts are.
func joined(a impl.Mirror, b impl.Mirror, by int64) impl.Mirror {
	m := cloneMirror(a)
	for party, view := range m.Views {
		for part := range view {
			view[part] = (view[part] + by*b.Views[party][part] + a.Q) % a.Q
		}
	}
	return m
}

func wantJoined(t *testing.T, a impl.Mirror, b impl.Mirror) {
	t.Helper()
	sum, difference := impl.AddMirrors(a, b), impl.SubMirrors(a, b)
	wantMirror(t, "AddMirrors", sum, joined(a, b, 1))
	wantMirror(t, "SubMirrors", difference, joined(a, b, -1))
	for _, but := range buts {
		x, y := impl.ValueOf(a, but), impl.ValueOf(b, but)
		if x.Code == impl.OK && y.Code == impl.OK {
			wantInt(t, "the sum's worth", impl.ValueOf(sum.Mirror, but), impl.AddRing(a.Q, x.Value, y.Value))
			wantInt(t, "the difference's worth", impl.ValueOf(difference.Mirror, but), impl.SubRing(a.Q, x.Value, y.Value))
		}
	}
}

func TestSumsAndDifferences(t *testing.T) {
	for _, q := range rings {
		for _, a := range someMirrors(q) {
			for _, b := range someMirrors(q) {
				wantJoined(t, a, b)
			}
		}
	}
	for a := 0; a < 4096; a += 61 {
		for b := 0; b < 4096; b += 59 {
			wantJoined(t, bitMirror(a), bitMirror(b))
		}
	}
}

func TestSumsAndDifferencesGoRound(t *testing.T) {
	a, b := likeMirror(256, 200, 0, 255, 128), likeMirror(256, 100, 1, 255, 128)
	wantMirror(t, "sum", impl.AddMirrors(a, b), likeMirror(256, 44, 1, 254, 0))
	wantMirror(t, "difference", impl.SubMirrors(a, b), likeMirror(256, 100, 255, 0, 0))
	wantMirror(t, "difference", impl.SubMirrors(b, a), likeMirror(256, 156, 1, 0, 0))
	c, d := likeMirror(2, 0, 0, 1, 1), likeMirror(2, 0, 1, 0, 1)
	wantMirror(t, "sum of 2", impl.AddMirrors(c, d), likeMirror(2, 0, 1, 1, 0))
	wantMirror(t, "difference of 2", impl.SubMirrors(c, d), likeMirror(2, 0, 1, 1, 0))
}

func TestWhatWasAddedAndTakenIsGone(t *testing.T) {
	for _, q := range rings {
		for _, a := range someMirrors(q) {
			for _, b := range someMirrors(q) {
				wantMirror(t, "added, taken", impl.SubMirrors(impl.AddMirrors(a, b).Mirror, b), a)
				wantMirror(t, "taken, added", impl.AddMirrors(impl.SubMirrors(a, b).Mirror, b), a)
			}
			wantMirror(t, "less itself", impl.SubMirrors(a, a), likeMirror(q, 0, 0, 0, 0))
		}
	}
}

// The first mirror's fault comes ahead of the second one's, and both ahead of another Q.
func TestSumsAndDifferencesWrong(t *testing.T) {
	for _, q := range rings {
		good, other := likeMirror(q, 1, 0, 1, 1), likeMirror(258-q, 1, 0, 1, 1)
		for _, join := range []func(impl.Mirror, impl.Mirror) impl.MirrorResult{impl.AddMirrors, impl.SubMirrors} {
			wantMirrorCode(t, "another Q", join(good, other), impl.ErrForm)
			wantMirrorCode(t, "another Q", join(other, good), impl.ErrForm)
			form, far := mirrorOf(q, nil, nil, nil, nil), withPart(good, 1, 0, -1)
			wantMirrorCode(t, "form ahead of range", join(form, far), impl.ErrForm)
			wantMirrorCode(t, "range ahead of form", join(far, form), impl.ErrRange)
			for _, faulty := range faultyMirrors(q) {
				for _, second := range []impl.Mirror{good, other, form, far} {
					wantMirrorCode(t, "first: "+faulty.what, join(faulty.mirror, second), faulty.code)
				}
				for _, first := range []impl.Mirror{good, other} {
					wantMirrorCode(t, "second: "+faulty.what, join(first, faulty.mirror), faulty.code)
				}
			}
		}
	}
}

func TestScaleMirror(t *testing.T) {
	for _, q := range rings {
		for _, m := range someMirrors(q) {
			for k := range q {
				want := cloneMirror(m)
				for _, view := range want.Views {
					for part := range view {
						view[part] = view[part] * k % q
					}
				}
				got := impl.ScaleMirror(m, k)
				wantMirror(t, "ScaleMirror", got, want)
				for _, but := range buts {
					if worth := impl.ValueOf(m, but); worth.Code == impl.OK {
						wantInt(t, "a multiple's worth", impl.ValueOf(got.Mirror, but), impl.MulRing(q, worth.Value, k))
					}
				}
			}
			zero := likeMirror(q, 0, 0, 0, 0)
			wantMirror(t, "k 0", impl.ScaleMirror(m, 0), zero)
			wantMirror(t, "k 1", impl.ScaleMirror(m, 1), m)
			wantMirror(t, "k q - 1", impl.ScaleMirror(m, q-1), impl.SubMirrors(zero, m).Mirror)
		}
	}
	wantMirror(t, "times 3", impl.ScaleMirror(likeMirror(256, 1, 100, 128, 255), 3), likeMirror(256, 3, 44, 128, 253))
}

func TestScaleMirrorWrong(t *testing.T) {
	for _, q := range rings {
		for _, k := range noElements(q) {
			for _, m := range someMirrors(q) {
				wantMirrorCode(t, "no element", impl.ScaleMirror(m, k), impl.ErrRange)
			}
		}
		for _, faulty := range faultyMirrors(q) {
			for _, k := range []int64{0, 1, q - 1, q, -1, math.MaxInt64} {
				wantMirrorCode(t, faulty.what, impl.ScaleMirror(faulty.mirror, k), faulty.code)
			}
		}
	}
}

func TestPlainMirror(t *testing.T) {
	for _, q := range rings {
		for v := range q {
			got := impl.PlainMirror(q, v)
			wantMirror(t, "PlainMirror", got, likeMirror(q, v, 0, 0, 0))
			wantMirror(t, "by MirrorOf", impl.MirrorOf(q, []int64{v, 0, 0, 0}), got.Mirror)
			for _, but := range buts {
				wantInt(t, "its worth", impl.ValueOf(got.Mirror, but), value(v))
			}
		}
		for _, v := range noElements(q) {
			wantMirrorCode(t, "no element", impl.PlainMirror(q, v), impl.ErrRange)
		}
	}
	for _, q := range noRings {
		for _, v := range []int64{math.MinInt64, -1, 0, 1, 255, 256, math.MaxInt64} {
			wantMirrorCode(t, "no ring", impl.PlainMirror(q, v), impl.ErrRange)
		}
	}
}

// With the part that a party lacks the number may be any one, and the party has the same.
func TestWhatOneHasTellsNothing(t *testing.T) {
	for _, q := range rings {
		for _, p := range edgeParts(q) {
			for party := range 4 {
				has := impl.MirrorOf(q, p).Mirror.Views[party]
				seen := make([]bool, q)
				for own := range q {
					parts := slices.Clone(p)
					parts[party] = own
					m := impl.MirrorOf(q, parts).Mirror
					if !slices.Equal(m.Views[party], has) {
						t.Errorf("q %d, %v: party %d sees its own part", q, parts, party)
					}
					seen[impl.ValueOf(m, -1).Value] = true
				}
				if slices.Contains(seen, false) {
					t.Errorf("q %d, %v: party %d knows that it is not everything", q, p, party)
				}
			}
		}
	}
}

func TestMirrorsChangeNoArgument(t *testing.T) {
	// The views lie behind one another in one memory, with something behind the last one.
	kept := []int64{0, 2, 3, 4, 1, 0, 3, 4, 1, 2, 0, 4, 1, 2, 3, 0, 42, 43, 44, 45}
	under := slices.Clone(kept)
	views := [][]int64{under[0:4], under[4:8], under[8:12], under[12:16], under[16:20]}
	m, five := mirrorOf(256, views[:4]...), mirrorOf(256, views...)
	for _, k := range []int64{-2, -1, 0, 1, 3, 4, 255, 256} {
		for _, a := range []impl.Mirror{m, five} {
			impl.MirrorFault(a)
			impl.IsAlike(a, k)
			impl.ValueOf(a, k)
			impl.ScaleMirror(a, k)
			for _, b := range []impl.Mirror{m, five} {
				impl.AddMirrors(a, b)
				impl.SubMirrors(a, b)
			}
		}
		for end := range len(under) {
			impl.MirrorOf(256, under[:end])
		}
	}
	impl.MirrorOf(256, under[4:8])
	if !slices.Equal(under, kept) || m.Q != 256 || len(m.Views) != 4 || len(five.Views) != 5 {
		t.Errorf("an argument was changed: %v", under)
	}
	for i, view := range views {
		if len(view) != 4 || &view[0] != &under[4*i] {
			t.Errorf("view %d of an argument was changed: %v", i, view)
		}
	}
}

// mirrorAnswers are answers of all functions of the chapter that make a mirror, with what they were made of.
func mirrorAnswers(a impl.Mirror, b impl.Mirror, parts []int64) []impl.MirrorResult {
	return []impl.MirrorResult{
		impl.MirrorOf(256, parts), impl.PlainMirror(256, 7), impl.PlainMirror(2, 1),
		impl.AddMirrors(a, b), impl.SubMirrors(a, b), impl.AddMirrors(a, a), impl.SubMirrors(b, b),
		impl.ScaleMirror(a, 0), impl.ScaleMirror(a, 1), impl.ScaleMirror(b, 255),
	}
}

// spoilMirror writes over all that a mirror holds, and behind the end of each list, as far as its memory goes.
func spoilMirror(m impl.Mirror) {
	views := m.Views[:cap(m.Views)]
	for i, view := range views {
		view = view[:cap(view)]
		for part := range view {
			view[part] = -9
		}
		views[i] = nil
	}
}

func TestMirrorAnswersAreNewMemory(t *testing.T) {
	for _, other := range []impl.Mirror{likeMirror(256, 0, 0, 0, 0), likeMirror(256, 9, 8, 7, 6)} {
		a, b, parts := likeMirror(256, 1, 2, 3, 250), cloneMirror(other), []int64{5, 6, 7, 8}
		keptA, keptB := cloneMirror(a), cloneMirror(b)
		first, second := mirrorAnswers(a, b, parts), mirrorAnswers(a, b, parts)
		var want []impl.Mirror
		for _, answer := range second {
			want = append(want, cloneMirror(answer.Mirror))
		}
		for _, answer := range first {
			spoilMirror(answer.Mirror)
		}
		wantMirror(t, "the first argument", impl.MirrorResult{Mirror: a}, keptA)
		wantMirror(t, "the second argument", impl.MirrorResult{Mirror: b}, keptB)
		if !slices.Equal(parts, []int64{5, 6, 7, 8}) {
			t.Errorf("an answer shares memory with the parts: %v", parts)
		}
		for i, later := range mirrorAnswers(a, b, parts) {
			wantMirror(t, "a later answer", later, want[i])
		}
		spoilMirror(a)
		spoilMirror(b)
		copy(parts, []int64{-9, -9, -9, -9})
		for i, answer := range second {
			wantMirror(t, "when others and the arguments are written over", answer, want[i])
		}
	}
}

// Views of one argument may be one memory; those of an answer never are.
func TestNoTwoViewsOfAnAnswerShareMemory(t *testing.T) {
	one := []int64{0, 0, 0, 0}
	a := mirrorOf(256, one, one, one, one)
	for n, answer := range mirrorAnswers(a, a, one) {
		m := answer.Mirror
		for i := range m.Views {
			kept := cloneMirror(m)
			view := m.Views[i][:cap(m.Views[i])]
			for part := range view {
				view[part] = -9
			}
			for other := range m.Views {
				if other != i && !slices.Equal(m.Views[other], kept.Views[other]) {
					t.Errorf("answer %d: views %d and %d share memory", n, i, other)
				}
			}
		}
	}
	if !slices.Equal(one, []int64{0, 0, 0, 0}) {
		t.Errorf("an answer shares memory with an argument: %v", one)
	}
}

func TestMirrorsAnswerTheSameAgain(t *testing.T) {
	a, b := likeMirror(256, 1, 2, 3, 4), likeMirror(256, 250, 251, 252, 253)
	sum, multiple := impl.AddMirrors(a, b), impl.ScaleMirror(a, 77)
	impl.AddMirrors(b, b)
	impl.AddMirrors(impl.Mirror{}, a)
	impl.ScaleMirror(b, 3)
	impl.ScaleMirror(b, -3)
	impl.MirrorOf(2, []int64{1, 1, 1, 1})
	wantMirror(t, "AddMirrors again", impl.AddMirrors(a, b), sum.Mirror)
	wantMirror(t, "ScaleMirror again", impl.ScaleMirror(a, 77), multiple.Mirror)
	wantInt(t, "ValueOf", impl.ValueOf(a, 2), value(10))
	wantInt(t, "ValueOf again", impl.ValueOf(a, 2), value(10))
}
