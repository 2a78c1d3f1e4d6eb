package tests

import (
	"math"
	"slices"
	"testing"

	"loop.example/g00525/impl"
)

// The signatures and numbers of chapter 1: another one of them does not compile, or fails at once.
var (
	_ func(int64, int64, int64) impl.IntResult = impl.AddRing
	_ func(int64, int64, int64) impl.IntResult = impl.SubRing
	_ func(int64, int64, int64) impl.IntResult = impl.MulRing
	_ func(int64) impl.IntResult               = impl.SignedOf
	_ func(int64) impl.IntResult               = impl.RingOf
	_ func(int64) impl.IntsResult              = impl.BitsOf
	_ func([]int64) impl.IntResult             = impl.FromBits
	_ func([]int64) impl.IntResult             = impl.MajorityOf
	_                                          = impl.TextResult{Code: impl.OK, Text: ""}
)

var rings = []int64{2, 256}

// noRings has what is near a ring, what divides one, and both ends of int64.
var noRings = []int64{math.MinInt64, -256, -2, -1, 0, 1, 3, 4, 128, 255, 257, 258, 512, 65536, 65538, 1 << 32, 1<<32 + 2, math.MaxInt64}

// noElements of q, among them those that would be one in fewer bits.
func noElements(q int64) []int64 {
	return []int64{math.MinInt64, -65536, -q - 1, -q, -1, q, q + 1, 2 * q, 65536, 65537, 1 << 32, 1<<62 + 1, math.MaxInt64}
}

func wantInt(t *testing.T, what string, got impl.IntResult, want impl.IntResult) {
	t.Helper()
	if got != want {
		t.Errorf("%s: got %v, want %v", what, got, want)
	}
}

func value(v int64) impl.IntResult {
	return impl.IntResult{Code: impl.OK, Value: v}
}

func code(c int64) impl.IntResult {
	return impl.IntResult{Code: c}
}

func TestRingNumbers(t *testing.T) {
	got := []int64{impl.OK, impl.ErrForm, impl.ErrMany, impl.ErrRange, impl.ErrNone, impl.ErrText, impl.ErrState, impl.Ring, impl.Bits}
	if want := []int64{0, 1, 2, 3, 4, 5, 6, 256, 8}; !slices.Equal(got, want) {
		t.Errorf("got %v, want %v", got, want)
	}
}

func TestRingExamples(t *testing.T) {
	wantInt(t, "200 and 100", impl.AddRing(256, 200, 100), value(44))
	wantInt(t, "128 and 127", impl.AddRing(256, 128, 127), value(255))
	wantInt(t, "128 and 128", impl.AddRing(256, 128, 128), value(0))
	wantInt(t, "255 and 255", impl.AddRing(256, 255, 255), value(254))
	wantInt(t, "1 and 1 of 2", impl.AddRing(2, 1, 1), value(0))
	wantInt(t, "1 less 2", impl.SubRing(256, 1, 2), value(255))
	wantInt(t, "0 less 255", impl.SubRing(256, 0, 255), value(1))
	wantInt(t, "254 less 255", impl.SubRing(256, 254, 255), value(255))
	wantInt(t, "255 less 0", impl.SubRing(256, 255, 0), value(255))
	wantInt(t, "7 less 7", impl.SubRing(256, 7, 7), value(0))
	wantInt(t, "0 less 1 of 2", impl.SubRing(2, 0, 1), value(1))
	wantInt(t, "16 times 16", impl.MulRing(256, 16, 16), value(0))
	wantInt(t, "255 times 255", impl.MulRing(256, 255, 255), value(1))
	wantInt(t, "128 times 3", impl.MulRing(256, 128, 3), value(128))
	wantInt(t, "1 times 1 of 2", impl.MulRing(2, 1, 1), value(1))
	wantInt(t, "1 times 0 of 2", impl.MulRing(2, 1, 0), value(0))
}

func TestRingAllPairs(t *testing.T) {
	for _, q := range rings {
		for a := range q {
			for b := range q {
				difference := a - b
				if difference < 0 {
					difference += q
				}
				if got := impl.AddRing(q, a, b); got != value((a+b)%q) {
					t.Fatalf("AddRing(%d, %d, %d): %v", q, a, b, got)
				}
				if got := impl.SubRing(q, a, b); got != value(difference) {
					t.Fatalf("SubRing(%d, %d, %d): %v", q, a, b, got)
				}
				if got := impl.MulRing(q, a, b); got != value(a*b%q) {
					t.Fatalf("MulRing(%d, %d, %d): %v", q, a, b, got)
				}
			}
		}
	}
}

func TestRingPutAndTakenIsGone(t *testing.T) {
	for _, q := range rings {
		for a := range q {
			for b := range q {
				there := impl.AddRing(q, a, b).Value
				wantInt(t, "put, then taken", impl.SubRing(q, there, b), value(a))
				taken := impl.SubRing(q, a, b).Value
				wantInt(t, "taken, then put", impl.AddRing(q, taken, b), value(a))
			}
		}
	}
}

func TestRingProductOfSum(t *testing.T) {
	for _, q := range rings {
		step := max(q/32, 1)
		for a := range q {
			for b := int64(0); b < q; b += step {
				for c := range q {
					whole := impl.MulRing(q, impl.AddRing(q, a, b).Value, c)
					parts := impl.AddRing(q, impl.MulRing(q, a, c).Value, impl.MulRing(q, b, c).Value)
					if whole != parts || whole.Code != impl.OK {
						t.Fatalf("q %d: (%d and %d) times %d: %v, %v", q, a, b, c, whole, parts)
					}
				}
			}
		}
	}
}

func TestRingWrongQ(t *testing.T) {
	for _, q := range noRings {
		for _, a := range []int64{0, 1, q - 1, q} {
			wantInt(t, "AddRing", impl.AddRing(q, a, 0), code(impl.ErrRange))
			wantInt(t, "SubRing", impl.SubRing(q, a, 0), code(impl.ErrRange))
			wantInt(t, "MulRing", impl.MulRing(q, a, 0), code(impl.ErrRange))
			wantInt(t, "AddRing", impl.AddRing(q, 0, a), code(impl.ErrRange))
			wantInt(t, "SubRing", impl.SubRing(q, 0, a), code(impl.ErrRange))
			wantInt(t, "MulRing", impl.MulRing(q, 0, a), code(impl.ErrRange))
		}
	}
}

func TestRingNoElement(t *testing.T) {
	for _, q := range rings {
		for _, v := range noElements(q) {
			for _, good := range []int64{0, q - 1} {
				wantInt(t, "AddRing a", impl.AddRing(q, v, good), code(impl.ErrRange))
				wantInt(t, "AddRing b", impl.AddRing(q, good, v), code(impl.ErrRange))
				wantInt(t, "SubRing a", impl.SubRing(q, v, good), code(impl.ErrRange))
				wantInt(t, "SubRing b", impl.SubRing(q, good, v), code(impl.ErrRange))
				wantInt(t, "MulRing a", impl.MulRing(q, v, good), code(impl.ErrRange))
				wantInt(t, "MulRing b", impl.MulRing(q, good, v), code(impl.ErrRange))
			}
			wantInt(t, "AddRing both", impl.AddRing(q, v, v), code(impl.ErrRange))
			wantInt(t, "SubRing both", impl.SubRing(q, v, v), code(impl.ErrRange))
			wantInt(t, "MulRing both", impl.MulRing(q, v, v), code(impl.ErrRange))
		}
	}
}

func TestSignedOf(t *testing.T) {
	for v := range int64(256) {
		want := v
		if v >= 128 {
			want = v - 256
		}
		wantInt(t, "SignedOf", impl.SignedOf(v), value(want))
	}
	wantInt(t, "the last one that is not below 0", impl.SignedOf(127), value(127))
	wantInt(t, "the first one below 0", impl.SignedOf(128), value(-128))
	wantInt(t, "the last one", impl.SignedOf(255), value(-1))
	for _, v := range noElements(256) {
		wantInt(t, "SignedOf no element", impl.SignedOf(v), code(impl.ErrRange))
	}
}

func TestRingOf(t *testing.T) {
	for n := int64(-128); n <= 127; n++ {
		want := n
		if n < 0 {
			want = n + 256
		}
		wantInt(t, "RingOf", impl.RingOf(n), value(want))
		wantInt(t, "the sign of its element", impl.SignedOf(impl.RingOf(n).Value), value(n))
	}
	wantInt(t, "the lowest", impl.RingOf(-128), value(128))
	wantInt(t, "below 0", impl.RingOf(-1), value(255))
	wantInt(t, "the highest", impl.RingOf(127), value(127))
	for _, n := range []int64{math.MinInt64, -65537, -257, -256, -129, 128, 255, 256, 65535, 65536, math.MaxInt64} {
		wantInt(t, "RingOf out of bounds", impl.RingOf(n), code(impl.ErrRange))
	}
}

func TestElementReadBackFromSign(t *testing.T) {
	for v := range int64(256) {
		wantInt(t, "an element from its sign", impl.RingOf(impl.SignedOf(v).Value), value(v))
	}
}

func TestBitsOf(t *testing.T) {
	known := map[int64][]int64{
		0:   {0, 0, 0, 0, 0, 0, 0, 0},
		1:   {1, 0, 0, 0, 0, 0, 0, 0},
		6:   {0, 1, 1, 0, 0, 0, 0, 0},
		128: {0, 0, 0, 0, 0, 0, 0, 1},
		129: {1, 0, 0, 0, 0, 0, 0, 1},
		254: {0, 1, 1, 1, 1, 1, 1, 1},
		255: {1, 1, 1, 1, 1, 1, 1, 1},
	}
	for v, want := range known {
		if got := impl.BitsOf(v); got.Code != impl.OK || !slices.Equal(got.List, want) {
			t.Errorf("BitsOf(%d): got %v, want %v", v, got, want)
		}
	}
	for _, v := range noElements(256) {
		if got := impl.BitsOf(v); got.Code != impl.ErrRange || len(got.List) != 0 {
			t.Errorf("BitsOf(%d): %v", v, got)
		}
	}
}

func TestElementReadBackFromBits(t *testing.T) {
	for v := range int64(256) {
		bits := impl.BitsOf(v)
		if bits.Code != impl.OK || len(bits.List) != impl.Bits {
			t.Fatalf("BitsOf(%d): %v", v, bits)
		}
		sum := int64(0)
		for i, bit := range bits.List {
			if bit != 0 && bit != 1 {
				t.Errorf("BitsOf(%d): bit %d is %d", v, i, bit)
			}
			sum += bit << i
		}
		if sum != v {
			t.Errorf("BitsOf(%d) are the bits of %d", v, sum)
		}
		wantInt(t, "an element from its bits", impl.FromBits(bits.List), value(v))
	}
}

func TestFromBitsLowestFirst(t *testing.T) {
	for place := range 8 {
		bits := make([]int64, 8)
		bits[place] = 1
		wantInt(t, "one bit", impl.FromBits(bits), value(1<<place))
	}
}

func TestFromBitsWrongMany(t *testing.T) {
	wantInt(t, "nil", impl.FromBits(nil), code(impl.ErrMany))
	wantInt(t, "none", impl.FromBits([]int64{}), code(impl.ErrMany))
	for many := range 20 {
		if many == 8 {
			continue
		}
		wantInt(t, "zeros", impl.FromBits(make([]int64, many)), code(impl.ErrMany))
		// How many there are is asked ahead of what they are.
		for place := range many {
			bits := make([]int64, many)
			bits[place] = 2
			wantInt(t, "no bit, and not 8 of them", impl.FromBits(bits), code(impl.ErrMany))
		}
	}
}

func TestFromBitsNoBit(t *testing.T) {
	for place := range 8 {
		for _, wrong := range []int64{math.MinInt64, -256, -1, 2, 3, 255, 256, 257, 65536, 1<<32 + 1, math.MaxInt64} {
			zeros := make([]int64, 8)
			zeros[place] = wrong
			wantInt(t, "among zeros", impl.FromBits(zeros), code(impl.ErrRange))
			ones := []int64{1, 1, 1, 1, 1, 1, 1, 1}
			ones[place] = wrong
			wantInt(t, "among ones", impl.FromBits(ones), code(impl.ErrRange))
		}
	}
}

func TestMajorityOf(t *testing.T) {
	for _, a := range []int64{math.MinInt64, -1, 0, 1, 255, 256, math.MaxInt64} {
		for _, b := range []int64{-2, 2, 3, 127} {
			wantInt(t, "three alike", impl.MajorityOf([]int64{a, a, a}), value(a))
			wantInt(t, "the last is another", impl.MajorityOf([]int64{a, a, b}), value(a))
			wantInt(t, "the middle is another", impl.MajorityOf([]int64{a, b, a}), value(a))
			wantInt(t, "the first is another", impl.MajorityOf([]int64{b, a, a}), value(a))
			wantInt(t, "none alike", impl.MajorityOf([]int64{a, b, 77}), code(impl.ErrNone))
			wantInt(t, "none alike", impl.MajorityOf([]int64{77, b, a}), code(impl.ErrNone))
		}
	}
	wantInt(t, "none alike, though near", impl.MajorityOf([]int64{0, 256, 512}), code(impl.ErrNone))
	wantInt(t, "none alike, rising", impl.MajorityOf([]int64{1, 2, 3}), code(impl.ErrNone))
}

func TestMajorityOfWrongMany(t *testing.T) {
	for _, list := range [][]int64{nil, {}, {5}, {5, 5}, {5, 6}, {5, 5, 5, 5}, {5, 5, 5, 6}, {1, 2, 3, 4}, {5, 5, 5, 5, 5, 5}, {1, 2, 3, 4, 5, 6}} {
		wantInt(t, "MajorityOf", impl.MajorityOf(list), code(impl.ErrMany))
	}
}

func TestRingChangesNoArgument(t *testing.T) {
	// What is behind the list's end, up to its capacity, is not the function's either.
	under := []int64{1, 0, 1, 1, 0, 0, 0, 1, 42, 43}
	kept := slices.Clone(under)
	for many := range len(under) + 1 {
		impl.FromBits(under[:many])
		impl.MajorityOf(under[:many])
		if !slices.Equal(under, kept) {
			t.Fatalf("an argument was changed: %v", under)
		}
	}
	wantInt(t, "FromBits of a piece", impl.FromBits(under[:8]), value(141))
	wantInt(t, "MajorityOf a piece", impl.MajorityOf(under[:3]), value(1))
	wantInt(t, "FromBits of the piece again", impl.FromBits(under[:8]), value(141))
}

func TestBitsOfIsNewMemory(t *testing.T) {
	first := impl.BitsOf(129).List
	second := impl.BitsOf(129).List
	for i := range first {
		first[i] = 9
	}
	if want := []int64{1, 0, 0, 0, 0, 0, 0, 1}; !slices.Equal(second, want) {
		t.Errorf("two answers share memory: %v", second)
	}
	if third := impl.BitsOf(129).List; !slices.Equal(third, second) {
		t.Errorf("an answer hangs on what was done with another one: %v", third)
	}
	given := impl.BitsOf(77).List
	read := impl.FromBits(given)
	given[0] = 0
	wantInt(t, "an answer does not follow its argument", read, value(77))
}

func TestRingAnswersAtEveryArgument(t *testing.T) {
	ends := []int64{math.MinInt64, math.MinInt64 + 1, -257, -256, -129, -128, -1, 0, 1, 2, 127, 128, 255, 256, 257, math.MaxInt64 - 1, math.MaxInt64}
	for _, q := range ends {
		for _, a := range ends {
			for _, b := range ends {
				good := (q == 2 || q == 256) && a >= 0 && a < q && b >= 0 && b < q
				for _, got := range []impl.IntResult{impl.AddRing(q, a, b), impl.SubRing(q, a, b), impl.MulRing(q, a, b)} {
					if good && (got.Code != impl.OK || got.Value < 0 || got.Value >= q) || !good && got != code(impl.ErrRange) {
						t.Errorf("q %d, %d and %d: %v", q, a, b, got)
					}
				}
			}
		}
	}
}
