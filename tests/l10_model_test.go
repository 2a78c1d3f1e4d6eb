package tests

import (
	"fmt"
	"math"
	"math/rand/v2"
	"slices"
	"strconv"
	"strings"
	"testing"

	"loop.example/g00525/impl"
)

// The signatures and constants of chapter 10.
var (
	_ func(impl.Model) int64                  = impl.ModelFault
	_ func(impl.Model, int64) impl.IntResult  = impl.SizeOf
	_ func(impl.Model, int64) impl.IntResult  = impl.RangeOf
	_ func(impl.Model) impl.TextResult        = impl.ModelText
	_ func(string) impl.ModelResult           = impl.ParseModel
	_ func(impl.Model, impl.Model) bool       = impl.SameModels
	_ func(impl.Model) impl.IntsResult        = impl.FlatModel
	_                                         = impl.ModelResult{Code: impl.OK, Model: impl.Model{Width: 0, Layers: []impl.Layer{}}}
	_ [impl.MaxLayers - mostLayers]struct{}   = [0]struct{}{}
	_ [impl.MaxSize - mostSize]struct{}       = [0]struct{}{}
	_ [impl.MaxLayers + impl.MaxSize]struct{} = [6]struct{}{}
)

const (
	mostLayers = 3
	mostSize   = 3
)

var (
	// noSizes has what is near the sizes that there are, those that would be one in fewer bits, and both ends of int64.
	noSizes = []int64{math.MinInt64, -257, -3, -2, -1, 0, 4, 5, 7, 256, 257, 65537, 1 << 32, 1<<32 + 1, 1 << 62, math.MaxInt64}

	noWeights = []int64{math.MinInt64, math.MinInt64 + 1, -256, -253, -9, -5, -4, 4, 5, 9, 253, 256, 1 << 32, 1<<32 + 1, 1 << 62, math.MaxInt64}
	noBiases  = []int64{math.MinInt64, math.MinInt64 + 1, -256, -247, -11, -10, 10, 11, 247, 256, 1 << 32, 1<<32 + 1, 1 << 62, math.MaxInt64}
)

func modelOf(width int64, layers ...impl.Layer) impl.Model {
	return impl.Model{Width: width, Layers: layers}
}

// zeroLayer has rows of so many weights, all of them 0.
func zeroLayer(rows int64, size int64) impl.Layer {
	return impl.Layer{Rows: rows, Weights: filled(int(rows*size), 0), Biases: filled(int(rows), 0)}
}

// zeroModel has a layer for each of rows.
func zeroModel(width int64, rows ...int64) impl.Model {
	m := modelOf(width)
	size := width
	for _, many := range rows {
		m.Layers = append(m.Layers, zeroLayer(many, size))
		size = many
	}
	return m
}

// forms are zero models of one to three layers, with each width and with all rows that there may be.
func forms() []impl.Model {
	var list []impl.Model
	for width := int64(1); width <= 3; width++ {
		for first := int64(1); first <= 3; first++ {
			list = append(list, zeroModel(width, first))
			for second := int64(1); second <= 3; second++ {
				list = append(list, zeroModel(width, first, second))
				for third := int64(1); third <= 3; third++ {
					list = append(list, zeroModel(width, first, second, third))
				}
			}
		}
	}
	return list
}

func cloneModel(m impl.Model) impl.Model {
	layers := make([]impl.Layer, len(m.Layers))
	for i, x := range m.Layers {
		layers[i] = impl.Layer{Rows: x.Rows, Weights: slices.Clone(x.Weights), Biases: slices.Clone(x.Biases), Relu: x.Relu}
	}
	return impl.Model{Width: m.Width, Layers: layers}
}

// altered is a clone with a change, so that the model itself stays.
func altered(m impl.Model, changes ...func(*impl.Model)) impl.Model {
	m = cloneModel(m)
	for _, change := range changes {
		change(&m)
	}
	return m
}

// sameByHand goes by what is written of both: empty lists and nil are written alike.
func sameByHand(a impl.Model, b impl.Model) bool {
	return fmt.Sprint(a) == fmt.Sprint(b)
}

// knownModel is one without a fault, and what is said of it.
type knownModel struct {
	text   string
	model  impl.Model
	sizes  []int64
	ranges []int64
	flat   []int64
}

func knownModels() []knownModel {
	return []knownModel{
		{"1 p1,0,0", modelOf(1, impl.Layer{Rows: 1, Weights: []int64{0}, Biases: []int64{0}}),
			[]int64{1}, []int64{0}, []int64{0, 0}},
		{"1 p1,1,0", modelOf(1, impl.Layer{Rows: 1, Weights: []int64{1}, Biases: []int64{0}}),
			[]int64{1}, []int64{7}, []int64{1, 0}},
		{"1 r1,-3,-9", modelOf(1, impl.Layer{Rows: 1, Weights: []int64{-3}, Biases: []int64{-9}, Relu: true}),
			[]int64{1}, []int64{30}, []int64{-3, -9}},
		{"2 r1,1,-2,3", modelOf(2, impl.Layer{Rows: 1, Weights: []int64{1, -2}, Biases: []int64{3}, Relu: true}),
			[]int64{2}, []int64{24}, []int64{1, -2, 3}},
		{"1 p3,1,2,3,4,5,6", modelOf(1, impl.Layer{Rows: 3, Weights: []int64{1, 2, 3}, Biases: []int64{4, 5, 6}}),
			[]int64{1}, []int64{27}, []int64{1, 2, 3, 4, 5, 6}},
		{"3 p1,1,2,3,4", modelOf(3, impl.Layer{Rows: 1, Weights: []int64{1, 2, 3}, Biases: []int64{4}}),
			[]int64{3}, []int64{46}, []int64{1, 2, 3, 4}},
		{"3 r3,3,-3,3,-3,3,-3,3,-3,3,9,-9,9", modelOf(3, impl.Layer{Rows: 3, Weights: []int64{3, -3, 3, -3, 3, -3, 3, -3, 3}, Biases: []int64{9, -9, 9}, Relu: true}),
			[]int64{3}, []int64{72}, []int64{3, -3, 3, -3, 3, -3, 3, -3, 3, 9, -9, 9}},
		{"2 r1,1,-2,3 p2,3,0,0,-9", modelOf(2,
			impl.Layer{Rows: 1, Weights: []int64{1, -2}, Biases: []int64{3}, Relu: true},
			impl.Layer{Rows: 2, Weights: []int64{3, 0}, Biases: []int64{0, -9}}),
			[]int64{2, 1}, []int64{24, 72}, []int64{1, -2, 3, 3, 0, 0, -9}},
		{"1 p1,1,1 r1,-2,5 p1,3,-4", modelOf(1,
			impl.Layer{Rows: 1, Weights: []int64{1}, Biases: []int64{1}},
			impl.Layer{Rows: 1, Weights: []int64{-2}, Biases: []int64{5}, Relu: true},
			impl.Layer{Rows: 1, Weights: []int64{3}, Biases: []int64{-4}}),
			[]int64{1, 1, 1}, []int64{8, 21, 67}, []int64{1, 1, -2, 5, 3, -4}},
		{"2 r3,1,0,0,-1,1,1,2,-2,0 p2,1,-1,0,0,1,2,9,-9 r1,1,-1,8", modelOf(2,
			impl.Layer{Rows: 3, Weights: []int64{1, 0, 0, -1, 1, 1}, Biases: []int64{2, -2, 0}, Relu: true},
			impl.Layer{Rows: 2, Weights: []int64{1, -1, 0, 0, 1, 2}, Biases: []int64{9, -9}},
			impl.Layer{Rows: 1, Weights: []int64{1, -1}, Biases: []int64{8}, Relu: true}),
			[]int64{2, 3, 2}, []int64{14, 51, 110}, []int64{1, 0, 0, -1, 1, 1, 2, -2, 0, 1, -1, 0, 0, 1, 2, 9, -9, 1, -1, 8}},
		{"3 r3,1,0,0,0,1,0,0,0,1,1,2,3 r3,-1,0,0,0,-1,0,0,0,-1,4,5,6 r3,1,1,1,1,-1,1,0,0,0,7,8,9", modelOf(3,
			impl.Layer{Rows: 3, Weights: []int64{1, 0, 0, 0, 1, 0, 0, 0, 1}, Biases: []int64{1, 2, 3}, Relu: true},
			impl.Layer{Rows: 3, Weights: []int64{-1, 0, 0, 0, -1, 0, 0, 0, -1}, Biases: []int64{4, 5, 6}, Relu: true},
			impl.Layer{Rows: 3, Weights: []int64{1, 1, 1, 1, -1, 1, 0, 0, 0}, Biases: []int64{7, 8, 9}, Relu: true}),
			[]int64{3, 3, 3}, []int64{10, 16, 56}, []int64{1, 0, 0, 0, 1, 0, 0, 0, 1, 1, 2, 3, -1, 0, 0, 0, -1, 0, 0, 0, -1, 4, 5, 6, 1, 1, 1, 1, -1, 1, 0, 0, 0, 7, 8, 9}},
		{"1 p3,3,-3,0,9,-9,0 p1,1,0,0,-1 p3,1,-1,2,0,9,-9", modelOf(1,
			impl.Layer{Rows: 3, Weights: []int64{3, -3, 0}, Biases: []int64{9, -9, 0}},
			impl.Layer{Rows: 1, Weights: []int64{1, 0, 0}, Biases: []int64{-1}},
			impl.Layer{Rows: 3, Weights: []int64{1, -1, 2}, Biases: []int64{0, 9, -9}}),
			[]int64{1, 3, 1}, []int64{30, 31, 71}, []int64{3, -3, 0, 9, -9, 0, 1, 0, 0, -1, 1, -1, 2, 0, 9, -9}},
	}
}

// sizeByHand and rangeByHand go by the words of the chapter, from the layer asked back to the first one.
func sizeByHand(m impl.Model, layer int) int64 {
	if layer == 0 {
		return m.Width
	}
	return m.Layers[layer-1].Rows
}

func rangeByHand(m impl.Model, layer int) int64 {
	ahead := int64(7)
	if layer > 0 {
		ahead = rangeByHand(m, layer-1)
	}
	var ofRows []int64
	x := m.Layers[layer]
	size := sizeByHand(m, layer)
	for row := range x.Rows {
		sum := int64(math.Abs(float64(x.Biases[row])))
		for place := range size {
			sum += int64(math.Abs(float64(x.Weights[row*size+place]))) * ahead
		}
		ofRows = append(ofRows, sum)
	}
	return slices.Max(ofRows)
}

// faultByHand asks in the order of the chapter.
func faultByHand(m impl.Model) int64 {
	inBounds := func(list []int64, bound int64) bool {
		return len(list) == 0 || slices.Min(list) >= -bound && slices.Max(list) <= bound
	}
	switch {
	case m.Width != 1 && m.Width != 2 && m.Width != 3:
		return impl.ErrRange
	case len(m.Layers) != 1 && len(m.Layers) != 2 && len(m.Layers) != 3:
		return impl.ErrMany
	}
	for layer, x := range m.Layers {
		switch {
		case x.Rows != 1 && x.Rows != 2 && x.Rows != 3:
			return impl.ErrRange
		case len(x.Weights) != int(x.Rows*sizeByHand(m, layer)), len(x.Biases) != int(x.Rows):
			return impl.ErrForm
		case !inBounds(x.Weights, 3), !inBounds(x.Biases, 9):
			return impl.ErrRange
		case rangeByHand(m, layer) > 127:
			return impl.ErrState
		}
	}
	return impl.OK
}

func textByHand(m impl.Model) string {
	words := []string{strconv.FormatInt(m.Width, 10)}
	for _, x := range m.Layers {
		kind := "p"
		if x.Relu {
			kind = "r"
		}
		fields := []string{kind + strconv.FormatInt(x.Rows, 10)}
		for _, n := range slices.Concat(x.Weights, x.Biases) {
			fields = append(fields, strconv.FormatInt(n, 10))
		}
		words = append(words, strings.Join(fields, ","))
	}
	return strings.Join(words, " ")
}

// parseByHand reads whatever it can, and then asks whether what it read has that text.
func parseByHand(text string) (impl.Model, bool) {
	words := strings.Split(text, " ")
	width, _ := strconv.ParseInt(words[0], 10, 64)
	m := modelOf(width)
	for _, word := range words[1:] {
		fields := strings.Split(word, ",")
		if fields[0] == "" {
			return impl.Model{}, false
		}
		var list []int64
		for _, field := range fields[1:] {
			n, _ := strconv.ParseInt(field, 10, 64)
			list = append(list, n)
		}
		rows, _ := strconv.ParseInt(fields[0][1:], 10, 64)
		many := max(len(list)-int(min(max(rows, 0), 9)), 0)
		m.Layers = append(m.Layers, impl.Layer{Rows: rows, Weights: list[:many], Biases: list[many:], Relu: fields[0][0] == 'r'})
	}
	if faultByHand(m) != impl.OK || textByHand(m) != text {
		return impl.Model{}, false
	}
	return m, true
}

func wantFault(t *testing.T, what string, m impl.Model, want int64) {
	t.Helper()
	if got := impl.ModelFault(m); got != want {
		t.Errorf("%s: %v: fault %d, want %d", what, m, got, want)
	}
}

func wantModel(t *testing.T, what string, got impl.ModelResult, want impl.Model) {
	t.Helper()
	if got.Code != impl.OK || !sameByHand(got.Model, want) {
		t.Errorf("%s: got %v, want %v", what, got, want)
	}
}

func wantNoModel(t *testing.T, text string) {
	t.Helper()
	if got := impl.ParseModel(text); got.Code != impl.ErrText || got.Model.Width != 0 || len(got.Model.Layers) != 0 {
		t.Errorf("%q: got %v, want code %d and no model", text, got, impl.ErrText)
	}
}

// wantAsRead holds a text against the other reader.
func wantAsRead(t *testing.T, text string) bool {
	t.Helper()
	want, ok := parseByHand(text)
	if ok {
		wantModel(t, text, impl.ParseModel(text), want)
	} else {
		wantNoModel(t, text)
	}
	return ok
}

func wantInts(t *testing.T, what string, got impl.IntsResult, want []int64) {
	t.Helper()
	if got.Code != impl.OK || !slices.Equal(got.List, want) {
		t.Errorf("%s: got %v, want %v", what, got, want)
	}
}

// wantAllOf asks all that the chapter says of a model without a fault.
func wantAllOf(t *testing.T, k knownModel) {
	t.Helper()
	m := k.model
	wantFault(t, k.text, m, impl.OK)
	if got := impl.ModelText(m); got != (impl.TextResult{Code: impl.OK, Text: k.text}) {
		t.Errorf("got %v, want %q", got, k.text)
	}
	wantModel(t, k.text, impl.ParseModel(k.text), m)
	if got := impl.ParseModel(k.text).Model; !impl.SameModels(got, m) || !impl.SameModels(m, got) || !impl.SameModels(m, m) {
		t.Errorf("%q: %v and %v are not the same", k.text, got, m)
	}
	for layer := range m.Layers {
		wantInt(t, k.text+": SizeOf", impl.SizeOf(m, int64(layer)), value(k.sizes[layer]))
		wantInt(t, k.text+": RangeOf", impl.RangeOf(m, int64(layer)), value(k.ranges[layer]))
	}
	wantInts(t, k.text, impl.FlatModel(m), k.flat)
}

// knownOf is what is said of a model by hand.
func knownOf(m impl.Model) knownModel {
	k := knownModel{text: textByHand(m), model: m}
	for layer, x := range m.Layers {
		k.sizes = append(k.sizes, sizeByHand(m, layer))
		k.ranges = append(k.ranges, rangeByHand(m, layer))
		k.flat = append(append(k.flat, x.Weights...), x.Biases...)
	}
	return k
}

// wantFaultOfAll asks all functions that ask a model for its fault first.
func wantFaultOfAll(t *testing.T, what string, m impl.Model, want int64) {
	t.Helper()
	wantFault(t, what, m, want)
	for _, layer := range []int64{math.MinInt64, -1, 0, 1, 2, 3, int64(len(m.Layers)), math.MaxInt64} {
		wantInt(t, what+": SizeOf", impl.SizeOf(m, layer), code(want))
		wantInt(t, what+": RangeOf", impl.RangeOf(m, layer), code(want))
	}
	if got := impl.ModelText(m); got != (impl.TextResult{Code: want}) {
		t.Errorf("%s: %v: got %v, want code %d and no text", what, m, got, want)
	}
	if got := impl.FlatModel(m); got.Code != want || len(got.List) != 0 {
		t.Errorf("%s: %v: got %v, want code %d and no list", what, m, got, want)
	}
	wantNoModel(t, textByHand(m))
}

func TestModelsByHand(t *testing.T) {
	for _, k := range knownModels() {
		wantAllOf(t, k)
		// What is written here is what the words of the chapter say.
		wantAllOf(t, knownOf(k.model))
	}
}

func TestModelsOfEachForm(t *testing.T) {
	for _, m := range forms() {
		for relus := range 1 << len(m.Layers) {
			for layer := range m.Layers {
				m.Layers[layer].Relu = relus>>layer&1 == 1
			}
			wantAllOf(t, knownOf(m))
		}
	}
}

// Each number at each value that it may have, all others 0; and at those that it may not have.
func TestEachNumberOfAModelAtItsEdges(t *testing.T) {
	for _, m := range forms() {
		for layer := range m.Layers {
			for place := range m.Layers[layer].Weights {
				wantNumberWithin(t, m, &m.Layers[layer].Weights[place], 3, noWeights)
			}
			for place := range m.Layers[layer].Biases {
				wantNumberWithin(t, m, &m.Layers[layer].Biases[place], 9, noBiases)
			}
		}
	}
}

// wantNumberWithin puts values to a number of m, and 0 in the end.
func wantNumberWithin(t *testing.T, m impl.Model, number *int64, bound int64, others []int64) {
	t.Helper()
	for *number = -bound; *number <= bound; *number++ {
		wantAllOf(t, knownOf(m))
	}
	for _, *number = range others {
		wantFaultOfAll(t, "a number out of bounds", m, impl.ErrRange)
	}
	*number = 0
}

func TestAllNumbersOfAModelAtTheirEdges(t *testing.T) {
	for width := int64(1); width <= 3; width++ {
		for rows := int64(1); rows <= 3; rows++ {
			for _, relu := range []bool{false, true} {
				for _, weight := range []int64{-3, 3} {
					for _, bias := range []int64{-9, 9} {
						wantAllOf(t, knownOf(modelOf(width, impl.Layer{Rows: rows, Weights: filled(int(width*rows), weight), Biases: filled(int(rows), bias), Relu: relu})))
					}
				}
			}
		}
	}
}

func TestModelFaultOfWidth(t *testing.T) {
	for _, no := range noSizes {
		for _, k := range knownModels() {
			wantFaultOfAll(t, "Width", altered(k.model, func(m *impl.Model) { m.Width = no }), impl.ErrRange)
		}
		// As many weights as that asks for make it no better.
		if no > 0 && no < 9 {
			wantFaultOfAll(t, "Width", zeroModel(no, 2, 1), impl.ErrRange)
		}
		// Ahead of how many layers there are, and of what they are.
		for _, many := range []int{0, 1, 3, 4, 9} {
			wantFaultOfAll(t, "Width and layers", modelOf(no, make([]impl.Layer, many)...), impl.ErrRange)
		}
	}
}

func TestModelFaultOfLayers(t *testing.T) {
	for width := int64(1); width <= 3; width++ {
		for _, none := range [][]impl.Layer{nil, {}, make([]impl.Layer, 0, 9), zeroModel(width, 1, 1).Layers[:0]} {
			wantFaultOfAll(t, "no layers", modelOf(width, none...), impl.ErrMany)
		}
		for many := 4; many <= 300; many += 37 {
			rows := make([]int64, many)
			for i := range rows {
				rows[i] = int64(1 + i%3)
			}
			wantFaultOfAll(t, "too many layers", zeroModel(width, rows...), impl.ErrMany)
			// Ahead of what they are.
			wantFaultOfAll(t, "too many layers, with faults", modelOf(width, make([]impl.Layer, many)...), impl.ErrMany)
		}
	}
}

func TestModelFaultOfRows(t *testing.T) {
	for _, form := range forms() {
		for layer := range form.Layers {
			for _, no := range noSizes {
				m := altered(form, func(m *impl.Model) { m.Layers[layer].Rows = no })
				wantFaultOfAll(t, "Rows", m, impl.ErrRange)
				// As many numbers as that asks for make it no better.
				if no >= 0 && no < 9 {
					relu := m.Layers[layer].Relu
					m.Layers[layer] = zeroLayer(no, sizeByHand(m, layer))
					m.Layers[layer].Relu = relu
					wantFaultOfAll(t, "Rows", m, impl.ErrRange)
				}
				m.Layers[layer] = impl.Layer{Rows: no}
				wantFaultOfAll(t, "Rows, and no numbers", m, impl.ErrRange)
			}
		}
	}
}

func TestModelFaultOfForm(t *testing.T) {
	for _, form := range forms() {
		for layer, x := range form.Layers {
			weights, biases := len(x.Weights), len(x.Biases)
			for _, many := range [][2]int{{weights - 1, biases}, {weights + 1, biases}, {weights, biases - 1}, {weights, biases + 1}, {0, biases}, {weights, 0}, {0, 0},
				{weights - 1, biases + 1}, {weights + 1, biases - 1}, {2 * weights, biases}, {2 * weights, 2 * biases}, {weights + 256, biases}, {weights, biases + 256}} {
				m := cloneModel(form)
				m.Layers[layer].Weights, m.Layers[layer].Biases = filled(many[0], 0), filled(many[1], 0)
				// More of the one, and less of the other one, are written as those that there have to be.
				if many[0]+many[1] == weights+biases {
					wantFault(t, "form", m, impl.ErrForm)
					wantModel(t, "the other form", impl.ParseModel(textByHand(m)), form)
				} else {
					wantFaultOfAll(t, "form", m, impl.ErrForm)
				}
			}
			m := cloneModel(form)
			m.Layers[layer].Weights, m.Layers[layer].Biases = nil, nil
			wantFaultOfAll(t, "nil", m, impl.ErrForm)
		}
	}
	wantFaultOfAll(t, "many more", modelOf(1, impl.Layer{Rows: 1, Weights: filled(65537, 0), Biases: filled(1, 0)}), impl.ErrForm)
	wantFaultOfAll(t, "many more", modelOf(1, impl.Layer{Rows: 1, Weights: filled(1, 0), Biases: filled(65537, 0)}), impl.ErrForm)
	// Weights go by the rows of the layer ahead, not by Width, and not by how many rows the layer has itself.
	wantFaultOfAll(t, "by Width", modelOf(3, zeroLayer(1, 3), zeroLayer(1, 3)), impl.ErrForm)
	wantFaultOfAll(t, "by Width", modelOf(1, zeroLayer(2, 1), zeroLayer(2, 2), zeroLayer(1, 1)), impl.ErrForm)
	wantFaultOfAll(t, "by the first layer", modelOf(1, zeroLayer(3, 1), zeroLayer(2, 3), zeroLayer(1, 3)), impl.ErrForm)
	wantFaultOfAll(t, "by its own rows", modelOf(1, zeroLayer(3, 3)), impl.ErrForm)
	wantFaultOfAll(t, "by the layer behind", modelOf(2, zeroLayer(1, 3), zeroLayer(3, 1)), impl.ErrForm)
}

// ofRange is a model whose layer 0 has the range 60, and whose layer there has that range, of three layers.
func ofRange(layer int, far int64, weightSign int64, biasSign int64) impl.Model {
	m := modelOf(3,
		impl.Layer{Rows: 1, Weights: []int64{3, -3, 2}, Biases: []int64{-4}},
		impl.Layer{Rows: 1, Weights: []int64{1}, Biases: []int64{0}},
		impl.Layer{Rows: 1, Weights: []int64{1}, Biases: []int64{0}})
	m.Layers[layer].Weights[0] = 2 * weightSign
	m.Layers[layer].Biases[0] = (far - 120) * biasSign
	return m
}

func TestModelFaultOfRange(t *testing.T) {
	for _, weightSign := range []int64{-1, 1} {
		for _, biasSign := range []int64{-1, 1} {
			for _, relu := range []bool{false, true} {
				for layer := 1; layer <= 2; layer++ {
					for far := int64(120); far <= 129; far++ {
						m := ofRange(layer, far, weightSign, biasSign)
						m.Layers[layer].Relu, m.Layers[0].Relu = relu, relu
						if far <= 127 {
							wantAllOf(t, knownOf(m))
							wantInt(t, "RangeOf", impl.RangeOf(m, int64(layer)), value(far))
						} else {
							wantFaultOfAll(t, "range", m, impl.ErrState)
						}
						// The last one of two layers has a range, too.
						m.Layers = m.Layers[:2]
						if layer == 1 && far > 127 {
							wantFaultOfAll(t, "range of the last one of two", m, impl.ErrState)
						} else {
							wantAllOf(t, knownOf(m))
						}
					}
				}
			}
		}
	}
}

// The greatest row counts, wherever it stands, and no sum of rows.
func TestRangeIsThatOfTheGreatestRow(t *testing.T) {
	for first := range 3 {
		for far := range 3 {
			m := modelOf(2, zeroLayer(3, 2), zeroLayer(3, 3))
			m.Layers[0].Weights[2*first], m.Layers[0].Weights[2*first+1], m.Layers[0].Biases[first] = 3, -3, 9
			m.Layers[0].Biases[(first+1)%3] = 9
			m.Layers[1].Weights[3*far+first] = -2
			m.Layers[1].Weights[3*((far+1)%3)] = 2
			m.Layers[1].Biases[far] = -9
			m.Layers[1].Biases[(far+2)%3] = 9
			wantInt(t, "layer 0", impl.RangeOf(m, 0), value(51))
			wantInt(t, "layer 1", impl.RangeOf(m, 1), value(111))
			m.Layers[1].Weights[3*far+(first+1)%3] = 1
			wantFaultOfAll(t, "one row is above it", m, impl.ErrState)
		}
	}
}

// No first layer may be above 127: what would bring it there has another fault.
func TestRangeOfAFirstLayer(t *testing.T) {
	greatest := int64(0)
	for a := int64(-3); a <= 3; a++ {
		for b := int64(-3); b <= 3; b++ {
			for c := int64(-3); c <= 3; c++ {
				for bias := int64(-9); bias <= 9; bias++ {
					m := modelOf(3, impl.Layer{Rows: 1, Weights: []int64{a, b, c}, Biases: []int64{bias}})
					wantFault(t, "one layer", m, impl.OK)
					far := impl.RangeOf(m, 0)
					wantInt(t, "one layer", far, value(rangeByHand(m, 0)))
					greatest = max(greatest, far.Value)
				}
			}
		}
	}
	if greatest != 72 {
		t.Errorf("the greatest range is %d", greatest)
	}
	wide := modelOf(3, impl.Layer{Rows: 1, Weights: []int64{3, 3, 18}, Biases: []int64{0}})
	wantFaultOfAll(t, "a great weight", wide, impl.ErrRange)
	wantFaultOfAll(t, "a great bias", altered(wide, func(m *impl.Model) { m.Layers[0].Weights[2], m.Layers[0].Biases[0] = 3, 99 }), impl.ErrRange)
	wantFaultOfAll(t, "many weights", altered(wide, func(m *impl.Model) { m.Layers[0].Weights = filled(9, 3) }), impl.ErrForm)
	wantFaultOfAll(t, "many inputs", modelOf(9, impl.Layer{Rows: 1, Weights: filled(9, 3), Biases: []int64{0}}), impl.ErrRange)
}

// faultOfLayer is a change that makes a fault; rank is where the chapter asks for it, among those of one layer.
type faultOfLayer struct {
	what   string
	rank   int
	code   int64
	change func(*impl.Layer)
}

func faultsOfLayer() []faultOfLayer {
	return []faultOfLayer{
		{"rows 0", 0, impl.ErrRange, func(x *impl.Layer) { x.Rows = 0 }},
		{"rows 4", 0, impl.ErrRange, func(x *impl.Layer) { x.Rows = 4 }},
		{"a weight too few", 1, impl.ErrForm, func(x *impl.Layer) { x.Weights = x.Weights[:len(x.Weights)-1] }},
		{"a weight too many", 1, impl.ErrForm, func(x *impl.Layer) { x.Weights = append(x.Weights, 0) }},
		{"a bias too few", 1, impl.ErrForm, func(x *impl.Layer) { x.Biases = x.Biases[:len(x.Biases)-1] }},
		{"a bias too many", 1, impl.ErrForm, func(x *impl.Layer) { x.Biases = append(x.Biases, 0) }},
		{"a weight of 4", 2, impl.ErrRange, func(x *impl.Layer) { x.Weights[0] = 4 }},
		{"a weight of -4", 2, impl.ErrRange, func(x *impl.Layer) { x.Weights[4] = -4 }},
		{"a bias of 10", 2, impl.ErrRange, func(x *impl.Layer) { x.Biases[0] = 10 }},
		{"a bias of -10", 2, impl.ErrRange, func(x *impl.Layer) { x.Biases[1] = -10 }},
		{"range", 3, impl.ErrState, func(x *impl.Layer) { copy(x.Weights[3:], []int64{3, -3, 3}) }},
	}
}

// wideModel has three layers, each one of the range 44: three weights of 3 in a row of a later one are too much.
func wideModel() impl.Model {
	m := zeroModel(3, 3, 3, 3)
	copy(m.Layers[0].Weights, filled(9, -2))
	copy(m.Layers[0].Biases, filled(3, 2))
	for _, x := range m.Layers[1:] {
		x.Weights[0], x.Weights[4], x.Weights[8] = 1, -1, 1
	}
	return m
}

func TestEachFaultOfALayer(t *testing.T) {
	wantAllOf(t, knownOf(wideModel()))
	for layer := range 3 {
		for _, faulty := range faultsOfLayer() {
			m := wideModel()
			faulty.change(&m.Layers[layer])
			if layer == 0 && faulty.rank == 3 {
				wantAllOf(t, knownOf(m))
				continue
			}
			wantFaultOfAll(t, faulty.what, m, faulty.code)
			// Of a last layer, too.
			m.Layers = m.Layers[:layer+1]
			wantFaultOfAll(t, faulty.what, m, faulty.code)
		}
	}
}

// What is asked behind is done first, so that it finds what it changes.
func TestTwoFaultsOfALayer(t *testing.T) {
	for layer := range 3 {
		for _, behind := range faultsOfLayer() {
			for _, ahead := range faultsOfLayer() {
				if ahead.rank >= behind.rank {
					continue
				}
				m := wideModel()
				behind.change(&m.Layers[layer])
				ahead.change(&m.Layers[layer])
				wantFaultOfAll(t, ahead.what+" ahead of "+behind.what, m, ahead.code)
			}
		}
	}
}

// All that is asked of a layer, its range too, is asked ahead of all that is asked of the next one.
func TestFaultsOfTwoLayers(t *testing.T) {
	for first := range 3 {
		for second := first + 1; second < 3; second++ {
			for _, ahead := range faultsOfLayer() {
				if first == 0 && ahead.rank == 3 {
					continue
				}
				for _, behind := range faultsOfLayer() {
					m := wideModel()
					ahead.change(&m.Layers[first])
					behind.change(&m.Layers[second])
					wantFaultOfAll(t, ahead.what+" ahead of "+behind.what, m, ahead.code)
				}
			}
		}
	}
	// And behind what is asked of the model.
	for _, faulty := range faultsOfLayer() {
		for layer := range 3 {
			m := wideModel()
			faulty.change(&m.Layers[layer])
			many := altered(m, func(m *impl.Model) { m.Layers = append(m.Layers, zeroLayer(1, 3)) })
			wantFaultOfAll(t, "four layers ahead of "+faulty.what, many, impl.ErrMany)
			for _, no := range []int64{0, 4} {
				wantFaultOfAll(t, "Width ahead of "+faulty.what, altered(m, func(m *impl.Model) { m.Width = no }), impl.ErrRange)
				wantFaultOfAll(t, "Width ahead of four layers", altered(many, func(m *impl.Model) { m.Width = no }), impl.ErrRange)
			}
		}
	}
}

func TestSizeOfAndRangeOfNoLayer(t *testing.T) {
	for _, k := range knownModels() {
		many := int64(len(k.model.Layers))
		for _, layer := range []int64{math.MinInt64, -1 << 32, -2, -1, many, many + 1, 4, 256, 1 << 32, 1<<32 + 1, math.MaxInt64} {
			wantInt(t, "SizeOf", impl.SizeOf(k.model, layer), code(impl.ErrRange))
			wantInt(t, "RangeOf", impl.RangeOf(k.model, layer), code(impl.ErrRange))
		}
	}
	// What stands in memory behind the last layer is none.
	m := wideModel()
	m.Layers = m.Layers[:2]
	wantInt(t, "SizeOf", impl.SizeOf(m, 2), code(impl.ErrRange))
	wantInt(t, "RangeOf", impl.RangeOf(m, 2), code(impl.ErrRange))
}

// A range above 127 is told by its code, of each layer, also of those ahead of it.
func TestRangeOfLayersAheadOfOneThatIsTooGreat(t *testing.T) {
	m := ofRange(2, 128, 1, 1)
	for layer := range int64(4) {
		wantInt(t, "SizeOf", impl.SizeOf(m, layer), code(impl.ErrState))
		wantInt(t, "RangeOf", impl.RangeOf(m, layer), code(impl.ErrState))
	}
	m.Layers[2].Biases[0] = 7
	for layer, want := range []int64{60, 60, 127} {
		wantInt(t, "RangeOf", impl.RangeOf(m, int64(layer)), value(want))
	}
}

// randomModels are some without a fault, and some with one of their numbers or of their ranges.
func randomModels(many int) []impl.Model {
	r := rand.New(rand.NewPCG(10, 31))
	number := func(bound int, others []int64) int64 {
		if r.IntN(40) == 0 {
			return others[r.IntN(len(others))]
		}
		return int64(r.IntN(2*bound+1) - bound)
	}
	list := make([]impl.Model, many)
	for i := range list {
		m := modelOf(int64(1 + r.IntN(3)))
		size := m.Width
		bound := 1 + r.IntN(3)
		for range 1 + r.IntN(3) {
			x := impl.Layer{Rows: int64(1 + r.IntN(3)), Relu: r.IntN(2) == 0}
			for range x.Rows * size {
				x.Weights = append(x.Weights, number(bound, noWeights))
			}
			for range x.Rows {
				x.Biases = append(x.Biases, number(9, noBiases))
			}
			size = x.Rows
			m.Layers = append(m.Layers, x)
		}
		list[i] = m
	}
	return list
}

func TestManyModels(t *testing.T) {
	codes := map[int64]int{}
	for _, m := range randomModels(20000) {
		want := faultByHand(m)
		codes[want]++
		if want == impl.OK {
			wantAllOf(t, knownOf(m))
		} else {
			wantFaultOfAll(t, "a fault", m, want)
		}
	}
	if codes[impl.OK] < 2000 || codes[impl.ErrState] < 2000 || codes[impl.ErrRange] < 2000 {
		t.Errorf("by codes: %v", codes)
	}
}

func TestTextsThatNoModelHas(t *testing.T) {
	for _, text := range []string{
		// No text, or too little of one.
		"", " ", "  ", "1", "1 ", "2", "p1,1,0", " p1,1,0", "1 p", "1 r", "1 p1", "1 p1,", "1 p1,1", "1 p1,1,", "1 r1,1", "1 p,1,0", "1 1,1,0", "1 p1,1,0 p", "1 p1,1,0 p1", "1 p1,1,0 p1,1", ",", "-", "p", "r", "0",
		// A blank too many or too few.
		" 1 p1,1,0", "1  p1,1,0", "1 p1,1,0 ", "1 p1,1,0  ", "1p1,1,0", "1 p 1,1,0", "1 p1 ,1,0", "1 p1, 1,0", "1 p1,1 ,0", "1 p1,1, 0", "1 p1,- 1,0", "1 p1,1,0p1,1,0", "1 p1,1,0  p1,1,0", "1 p1,1,0 p1,1,0 ", "1 p1 1 0", "1 p1,1 0",
		// Other blanks.
		"1\tp1,1,0", "1\np1,1,0", "1 p1,1,0\n", "\n1 p1,1,0", "1 p1,1,0\r\n", "1\u00a0p1,1,0", "1 p1,1,0\x00", "\x001 p1,1,0", "1\x00p1,1,0", "1 p1,1,0\t", "1\v p1,1,0",
		// Signs that are none of those that there are.
		"1 q1,1,0", "1 s1,1,0", "1 P1,1,0", "1 R1,1,0", "1 pr1,1,0", "1 rp1,1,0", "1 pp1,1,0", "1 rr1,1,0", "1 p1;1;0", "1 p1.1.0", "1 p1,1.0,0", "1 p1,1e0,0", "1 p1,0x1,0", "1 p1,x,0", "1 p1,1,o", "1 p1,1_0,0", "1 p1,\"1\",0", "1 p1,\xff,0", "1 p1,1,0\xff", "é p1,1,0", "1 p\u0661,1,0", "1 p1,\uff11,0", "1 \u0440" + "1,1,0", "１ p1,1,0",
		// Numbers with a zero ahead.
		"01 p1,1,0", "1 p01,1,0", "1 p1,01,0", "1 p1,1,00", "1 p1,-01,0", "1 p1,1,-00", "1 p1,1,0 p1,00,0", "00 p1,1,0",
		// A minus of nothing, a plus, a minus alone, or one that stands elsewhere.
		"1 p1,-0,0", "1 p1,1,-0", "2 r1,1,-0,3", "1 p1,1,0 p1,1,-0", "1 p1,+1,0", "1 p1,1,+0", "+1 p1,1,0", "1 p+1,1,0", "1 p1,-,0", "1 p1,1,-", "1 p1,--1,0", "1 p1,-+1,0", "1 p1,+-1,0", "1 p1,1-,0", "1 p1,1-1,0", "-1 p1,1,0", "1 p-1,1,0", "1 -p1,1,0", "1 p1-,1,0", "-0 p1,1,0", "1 p1,1,\u2212" + "1", "1 p1,-,-", "- p1,1,0", "1 p-,1,0",
		// More than there may be, up to more than an int64 holds.
		"1 p1,10,0", "1 p1,11,0", "1 p1,1,10", "1 p1,1,-10", "1 p1,1,19", "10 p1,1,0", "1 p10,1,0", "1 p1,1,256", "1 p1,257,0", "1 p1,4294967297,0", "4294967297 p1,1,0",
		"1 p1,9223372036854775807,0", "1 p1,9223372036854775808,0", "1 p1,-9223372036854775808,0", "1 p1,18446744073709551616,0", "1 p1,18446744073709551617,0", "1 p1,1,18446744073709551616", "18446744073709551617 p1,1,0", "1 p18446744073709551617,1,0", "1 p1,-18446744073709551615,0", "1 p1,1,0 p1,340282366920938463463374607431768211457,0",
		// A comma too many or too few.
		",1 p1,1,0", "1, p1,1,0", "1,p1,1,0", "1 ,p1,1,0", "1 p,1,1,0", "1 p1,,1,0", "1 p1,1,,0", "1 p1,1,0,", "1 p1,1,0, p1,1,0", "1 p1,1,0 ,p1,1,0", "1 p1,1,0 p1,1,0,", "1 p11,0", "1 p1,10", "1,1 p1,1,0", "1 p1,1,0,p1,1,0", ",,", "1 ,,",
		// Numbers too few or too many.
		"2 p1,1,0", "3 p1,1,1,0", "1 p2,1,0", "1 p2,1,1,0", "1 p3,1,1,1,0,0", "1 p1,1,0,0", "1 p2,1,1,0,0,0", "2 p1,1,1,0,0", "1 r2,1,1,1", "2 p2,1,1,1,0,0", "2 p2,1,1,1,1,1,0,0", "1 p2,1,1,0,0 p1,1,0", "1 p2,1,1,0,0 p1,1,1,1,0", "2 p1,1,1,0 p1,1,1,0", "1 p1,1,0 p1,1,0,0 p1,1,0",
		// What models have that have a fault.
		"0 p1,0", "0 p1,1,0", "4 p1,1,1,1,1,0", "9 p1,1,1,1,1,1,1,1,1,1,0", "1 p0", "1 p0,1", "1 p0,1,0", "1 p4,1,1,1,1,0,0,0,0", "1 r9,0,0,0,0,0,0,0,0,0,0,0,0,0,0,0,0,0,0", "1 p1,4,0", "1 p1,-4,0", "1 p1,9,0", "1 p1,-9,9", "1 p1,1,0 p1,4,0", "1 p1,1,0 p0", "1 p1,1,0 p4,1,1,1,1,0,0,0,0",
		"1 p1,1,0 p1,1,0 p1,1,0 p1,1,0", "1 p1,1,0 r1,1,0 p1,1,0 r1,1,0 p1,1,0", "3 p1,3,3,3,0 p1,3,0", "3 p1,3,3,2,4 p1,2,8", "3 p1,3,3,2,4 p1,1,0 p1,-2,-8", "2 r2,3,3,3,3,0,0 r1,3,1,0 p1,0,0",
	} {
		wantNoModel(t, text)
		if _, ok := parseByHand(text); ok {
			t.Errorf("%q: the other reader has one", text)
		}
	}
	for _, many := range []int{4, 100, 100000} {
		wantNoModel(t, "1"+strings.Repeat(" p1,1,0", many))
		wantNoModel(t, "1 p1"+strings.Repeat(",0", many))
		wantNoModel(t, "1 p1,1,"+strings.Repeat("0", many))
		wantNoModel(t, strings.Repeat("1", many)+" p1,1,0")
		wantNoModel(t, "1 p1,1,0"+strings.Repeat(" ", many))
		wantNoModel(t, "1"+strings.Repeat(" r9", many))
	}
}

// near are all texts that one sign makes of a text: one less, one more, another one, one that is cut, and two that are swapped.
func near(text string) []string {
	var list []string
	for place := range len(text) + 1 {
		ahead, behind := text[:place], text[place:]
		list = append(list, ahead, behind)
		for _, sign := range "0123456789-, rpRP+.qs\n\t\x00" {
			list = append(list, ahead+string(sign)+behind)
			if behind != "" {
				list = append(list, ahead+string(sign)+behind[1:])
			}
		}
		if behind != "" {
			list = append(list, ahead+behind[1:], ahead+"\xff"+behind[1:], ahead+string(behind[0]&^32)+behind[1:], ahead+string(behind[0]|128)+behind[1:])
		}
		if len(behind) > 1 {
			list = append(list, ahead+string(behind[1])+string(behind[0])+behind[2:])
		}
	}
	return list
}

func TestTextsNearThoseOfModels(t *testing.T) {
	read, not := 0, 0
	for _, k := range append(knownModels(), knownOf(wideModel()), knownOf(ofRange(2, 127, -1, -1)), knownOf(zeroModel(1, 1, 1, 1))) {
		for _, text := range near(k.text) {
			if wantAsRead(t, text) {
				read++
			} else {
				not++
			}
		}
	}
	if read < 100 || not < 100 {
		t.Errorf("%d are read, %d are not", read, not)
	}
}

// tails are all texts of so many of those signs, and of fewer.
func tails(signs string, many int) []string {
	list := []string{""}
	for from := 0; many > 0; many-- {
		end := len(list)
		for _, text := range list[from:end] {
			for _, sign := range signs {
				list = append(list, text+string(sign))
			}
		}
		from = end
	}
	return list
}

func TestAllShortTexts(t *testing.T) {
	for _, tail := range tails("014-, pr", 5) {
		wantAsRead(t, tail)
		wantAsRead(t, "1 p1,"+tail)
	}
	for _, tail := range tails("19-, p", 6) {
		wantAsRead(t, "1 p"+tail)
		wantAsRead(t, "1 r1,-1,9 p1"+tail)
	}
}

// Up to three signs put between those of a text, or in the place of one of them: no way leads from the midst of a number, or from behind it, to where something else is read.
func TestTextsWithPiecesPutIn(t *testing.T) {
	for _, text := range []string{"1 p1,1,0 r1,-1,0", "1 r2,0,-1,-2,0 p1,1,0,9", "2 p1,0,1,0"} {
		for place := range len(text) + 1 {
			for _, piece := range tails("01-, pr", 3) {
				wantAsRead(t, text[:place]+piece+text[place:])
				if place < len(text) {
					wantAsRead(t, text[:place]+piece+text[place+1:])
				}
			}
		}
	}
}

// A text is read by its end, not by what stands in memory behind it.
func TestPiecesOfATextAreReadAlone(t *testing.T) {
	text := "2 r1,1,-2,3 p2,3,0,0,-9"
	wantModel(t, "a piece", impl.ParseModel(text[:11]), modelOf(2, impl.Layer{Rows: 1, Weights: []int64{1, -2}, Biases: []int64{3}, Relu: true}))
	wantNoModel(t, text[:10])
	wantNoModel(t, text[:12])
	wantNoModel(t, text[2:])
}

func TestSameModelsOfEqualOnes(t *testing.T) {
	empty := []int64{}
	for _, pair := range [][2]impl.Model{
		{{}, {}},
		{{}, {Layers: []impl.Layer{}}},
		{{Width: 7}, {Width: 7, Layers: make([]impl.Layer, 0, 4)}},
		{modelOf(1, impl.Layer{}), modelOf(1, impl.Layer{Weights: empty})},
		{modelOf(1, impl.Layer{}), modelOf(1, impl.Layer{Biases: empty})},
		{modelOf(-9, impl.Layer{Rows: -9, Relu: true}), modelOf(-9, impl.Layer{Rows: -9, Weights: empty, Biases: make([]int64, 0, 3), Relu: true})},
		{modelOf(1, impl.Layer{}, impl.Layer{Weights: empty}), modelOf(1, impl.Layer{Biases: empty}, impl.Layer{})},
		{modelOf(math.MaxInt64, make([]impl.Layer, 9)...), modelOf(math.MaxInt64, make([]impl.Layer, 9)...)},
	} {
		if !impl.SameModels(pair[0], pair[1]) || !impl.SameModels(pair[1], pair[0]) {
			t.Errorf("not the same: %v", pair)
		}
	}
	for _, m := range randomModels(500) {
		if !impl.SameModels(m, cloneModel(m)) || !impl.SameModels(m, m) {
			t.Errorf("not the same: %v", m)
		}
	}
}

// otherModels differ from m in one thing each.
func otherModels(m impl.Model) []impl.Model {
	list := []impl.Model{
		altered(m, func(m *impl.Model) { m.Width++ }),
		altered(m, func(m *impl.Model) { m.Width += 1 << 32 }),
		altered(m, func(m *impl.Model) { m.Width = -m.Width - 1 }),
		altered(m, func(m *impl.Model) { m.Layers = append(m.Layers, impl.Layer{}) }),
		altered(m, func(m *impl.Model) { m.Layers = append([]impl.Layer{{}}, m.Layers...) }),
	}
	for layer, x := range m.Layers {
		list = append(list,
			altered(m, func(m *impl.Model) { m.Layers = slices.Delete(m.Layers, layer, layer+1) }),
			altered(m, func(m *impl.Model) { m.Layers[layer].Rows++ }),
			altered(m, func(m *impl.Model) { m.Layers[layer].Rows += 256 }),
			altered(m, func(m *impl.Model) { m.Layers[layer].Relu = !x.Relu }))
		for of := range 2 {
			numbers := func(m *impl.Model) *[]int64 {
				if of == 0 {
					return &m.Layers[layer].Weights
				}
				return &m.Layers[layer].Biases
			}
			list = append(list,
				altered(m, func(m *impl.Model) { *numbers(m) = append(*numbers(m), 0) }),
				altered(m, func(m *impl.Model) { *numbers(m) = append([]int64{0}, *numbers(m)...) }))
			for place := range *numbers(&m) {
				list = append(list,
					altered(m, func(m *impl.Model) { (*numbers(m))[place]++ }),
					altered(m, func(m *impl.Model) { (*numbers(m))[place] += 256 }),
					altered(m, func(m *impl.Model) { *numbers(m) = slices.Delete(*numbers(m), place, place+1) }))
			}
		}
	}
	return list
}

func TestSameModelsOfOthers(t *testing.T) {
	faulty := []impl.Model{{}, {Width: -3}, modelOf(1, impl.Layer{}), modelOf(0, impl.Layer{Rows: 9, Weights: []int64{77}}, impl.Layer{Biases: []int64{-300, 5}}), zeroModel(2, 3, 1, 2, 2)}
	for _, k := range knownModels() {
		faulty = append(faulty, k.model)
	}
	for _, m := range faulty {
		for _, other := range otherModels(m) {
			if impl.SameModels(m, other) || impl.SameModels(other, m) {
				t.Errorf("the same: %v and %v", m, other)
			}
		}
	}
	for _, pair := range [][2]impl.Model{
		// The same numbers, at other places.
		{modelOf(1, impl.Layer{Rows: 1, Weights: []int64{1}, Biases: []int64{2}}), modelOf(1, impl.Layer{Rows: 1, Weights: []int64{2}, Biases: []int64{1}})},
		{modelOf(1, impl.Layer{Rows: 1, Weights: []int64{1, 2}}), modelOf(1, impl.Layer{Rows: 1, Biases: []int64{1, 2}})},
		{modelOf(1, impl.Layer{Rows: 1, Weights: []int64{1, 2}}), modelOf(1, impl.Layer{Rows: 1, Weights: []int64{1}, Biases: []int64{2}})},
		{modelOf(1, impl.Layer{Rows: 1}, impl.Layer{Rows: 2}), modelOf(1, impl.Layer{Rows: 2}, impl.Layer{Rows: 1})},
		{modelOf(1, impl.Layer{Relu: true}, impl.Layer{}), modelOf(1, impl.Layer{}, impl.Layer{Relu: true})},
		{modelOf(2, impl.Layer{Rows: 1}), modelOf(1, impl.Layer{Rows: 2})},
		// The same text.
		{zeroModel(1, 1), modelOf(1, impl.Layer{Rows: 1, Weights: []int64{0, 0}})},
	} {
		if impl.SameModels(pair[0], pair[1]) || impl.SameModels(pair[1], pair[0]) {
			t.Errorf("the same: %v", pair)
		}
	}
	list := randomModels(150)
	for _, a := range list {
		for _, b := range list {
			if got := impl.SameModels(a, b); got != sameByHand(a, b) {
				t.Errorf("%v and %v: %v", a, b, got)
			}
		}
	}
}

// A model of one layer, and one of three: its numbers are told with no two alike.
func TestFlatModelInOrder(t *testing.T) {
	one := modelOf(2, impl.Layer{Rows: 3, Weights: []int64{-3, -2, -1, 0, 1, 2}, Biases: []int64{4, 5, 6}})
	wantInts(t, "one layer", impl.FlatModel(one), []int64{-3, -2, -1, 0, 1, 2, 4, 5, 6})
	three := modelOf(1, impl.Layer{Rows: 2, Weights: []int64{-3, -2}, Biases: []int64{9, 8}, Relu: true},
		impl.Layer{Rows: 1, Weights: []int64{-1, 0}, Biases: []int64{7}},
		impl.Layer{Rows: 2, Weights: []int64{1, 2}, Biases: []int64{6, -9}})
	wantInts(t, "three layers", impl.FlatModel(three), []int64{-3, -2, 9, 8, -1, 0, 7, 1, 2, 6, -9})
	for _, m := range forms() {
		many := 0
		for layer, x := range m.Layers {
			many += int(x.Rows * (sizeByHand(m, layer) + 1))
		}
		wantInts(t, "zeros", impl.FlatModel(m), filled(many, 0))
	}
}

// modelLists are all lists of numbers that a model holds.
func modelLists(m impl.Model) [][]int64 {
	var lists [][]int64
	for _, x := range m.Layers {
		lists = append(lists, x.Weights, x.Biases)
	}
	return lists
}

func spoilModel(m impl.Model) {
	for _, list := range modelLists(m) {
		spoilList(list)
	}
	clear(m.Layers[:cap(m.Layers)])
}

// laidNumbers are a model's numbers as laidModel finds them: where no list is there stands 40 or more.
func laidNumbers() []int64 {
	return []int64{1, -2, 3, 0, 40, 9, -9, 41, 2, -1, 42, 5, 43, 44}
}

// laidModel has its lists laid in one memory, with something else behind each one's end, and a layer behind its last one.
func laidModel(under []int64) impl.Model {
	layers := []impl.Layer{
		{Rows: 2, Weights: under[0:4], Biases: under[5:7], Relu: true},
		{Rows: 1, Weights: under[8:10], Biases: under[11:12]},
		{Rows: 77, Weights: under[9:12], Biases: under[:0]},
	}
	return impl.Model{Width: 2, Layers: layers[:2]}
}

func TestModelsChangeNoArgument(t *testing.T) {
	// Those numbers, and some that make faults.
	for _, change := range []func([]int64){func([]int64) {}, func(u []int64) { u[0] = 4 }, func(u []int64) { u[11] = -10 }, func(u []int64) { u[9] = 3 }, func(u []int64) { u[8] = math.MinInt64 }} {
		under := laidNumbers()
		change(under)
		before := slices.Clone(under)
		m := laidModel(under)
		impl.ModelFault(m)
		for layer := int64(-1); layer <= 2; layer++ {
			impl.SizeOf(m, layer)
			impl.RangeOf(m, layer)
		}
		impl.ModelText(m)
		impl.FlatModel(m)
		impl.SameModels(m, m)
		impl.SameModels(m, laidModel(under))
		impl.SameModels(modelOf(2), m)
		if want := laidModel(before); !slices.Equal(under, before) || !sameByHand(m, want) || !sameByHand(impl.Model{Layers: m.Layers[:3]}, impl.Model{Layers: want.Layers[:3]}) {
			t.Errorf("an argument was changed: %v, %v", under, m)
		}
	}
}

func TestModelsAreNewMemory(t *testing.T) {
	under, want := laidNumbers(), []int64{1, -2, 3, 0, 9, -9, 2, -1, 5}
	m := laidModel(under)
	first, second := impl.FlatModel(m), impl.FlatModel(m)
	spoilList(first.List)
	if !slices.Equal(under, laidNumbers()) {
		t.Fatalf("an answer shares memory with the argument: %v", under)
	}
	wantInts(t, "another answer", second, want)
	wantInts(t, "a later answer", impl.FlatModel(m), want)
	text := impl.ModelText(m).Text
	spoilList(under)
	wantInts(t, "when the argument is written over", second, want)
	if text != "2 r2,1,-2,3,0,9,-9 p1,2,-1,5" {
		t.Errorf("when the argument is written over: %q", text)
	}
	// Of one layer alone, too.
	under = laidNumbers()
	m = laidModel(under)
	m.Layers = m.Layers[:1]
	spoilList(impl.FlatModel(m).List)
	if !slices.Equal(under, laidNumbers()) {
		t.Errorf("an answer shares memory with the argument: %v", under)
	}
	for _, k := range knownModels() {
		first, second := impl.ParseModel(k.text), impl.ParseModel(k.text)
		spoilModel(first.Model)
		wantModel(t, "another answer", second, k.model)
		wantModel(t, "a later answer", impl.ParseModel(k.text), k.model)
		spoilList(impl.FlatModel(second.Model).List)
		wantModel(t, "when its numbers are written over", second, k.model)
	}
}

func TestNoTwoListsOfAModelShareMemory(t *testing.T) {
	for _, k := range knownModels() {
		m := impl.ParseModel(k.text).Model
		for i, list := range modelLists(m) {
			kept := cloneLists(modelLists(m))
			spoilList(list)
			for j, other := range modelLists(m) {
				if j != i && !slices.Equal(other, kept[j]) {
					t.Errorf("%q: lists %d and %d share memory", k.text, i, j)
				}
			}
		}
	}
}

func TestModelsAnswerTheSameAgain(t *testing.T) {
	m := knownModels()[9].model
	text, flat, far := impl.ModelText(m), impl.FlatModel(m), impl.RangeOf(m, 2)
	parsed := impl.ParseModel(text.Text)
	// Behind others, and behind faults.
	wantAllOf(t, knownOf(wideModel()))
	wantNoModel(t, "2 r3,1,0,0,-1,1,1,2,-2")
	wantNoModel(t, text.Text+"1")
	impl.ModelFault(impl.Model{})
	impl.RangeOf(impl.Model{}, math.MinInt64)
	impl.SizeOf(impl.Model{}, math.MaxInt64)
	impl.ModelText(modelOf(math.MaxInt64))
	impl.FlatModel(modelOf(math.MinInt64))
	impl.SameModels(impl.Model{}, m)
	if impl.ModelText(m) != text || impl.RangeOf(m, 2) != far || impl.ModelFault(m) != impl.OK {
		t.Errorf("%v, %v again: %v, %v", text, far, impl.ModelText(m), impl.RangeOf(m, 2))
	}
	wantInts(t, "FlatModel again", impl.FlatModel(m), flat.List)
	wantModel(t, "ParseModel again", impl.ParseModel(text.Text), parsed.Model)
}
