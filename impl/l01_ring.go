package impl

const OK = 0
const ErrForm = 1
const ErrMany = 2
const ErrRange = 3
const ErrNone = 4
const ErrText = 5
const ErrState = 6
const Ring = 256
const Bits = 8

type IntResult struct {
	Code  int64
	Value int64
}
type IntsResult struct {
	Code int64
	List []int64
}
type TextResult struct {
	Code int64
	Text string
}

// bitRing is the other q that there is, beside Ring.
const bitRing = 2

// unsigned has no narrower kinds: the product of two elements of Ring has to fit.
type unsigned interface {
	~uint16 | ~uint32 | ~uint64
}

// element carries its q along, so that what comes of it is an element of the same q.
type element[W unsigned] struct {
	q     W
	value W
}

func isRing(q int64) bool {
	return q == bitRing || q == Ring
}

func isElement(q int64, v int64) bool {
	return v >= 0 && v < q
}

func elementsFault(q int64, list []int64) int64 {
	for _, v := range list {
		if !isElement(q, v) {
			return ErrRange
		}
	}
	return OK
}

func elementOf(q int64, v int64) element[uint16] {
	return element[uint16]{q: uint16(q), value: uint16(v)}
}

func (e element[W]) with(value W) element[W] {
	return element[W]{q: e.q, value: value % e.q}
}

func (e element[W]) plus(other element[W]) element[W] {
	return e.with(e.value + other.value)
}

// minus puts q to it ahead of taking, as nothing unsigned goes below 0.
func (e element[W]) minus(other element[W]) element[W] {
	return e.with(e.value + e.q - other.value)
}

func (e element[W]) times(other element[W]) element[W] {
	return e.with(e.value * other.value)
}

func (e element[W]) bit(place int) int64 {
	return int64(e.value >> place & 1)
}

func (e element[W]) result() IntResult {
	return IntResult{Value: int64(e.value)}
}

// elementsOf answers false where q, a or b is out of bounds: all three have the same code.
func elementsOf(q int64, a int64, b int64) (element[uint16], element[uint16], bool) {
	if !isRing(q) || !isElement(q, a) || !isElement(q, b) {
		return element[uint16]{}, element[uint16]{}, false
	}
	return elementOf(q, a), elementOf(q, b), true
}

func AddRing(q int64, a int64, b int64) IntResult {
	x, y, ok := elementsOf(q, a, b)
	if !ok {
		return IntResult{Code: ErrRange}
	}
	return x.plus(y).result()
}

func SubRing(q int64, a int64, b int64) IntResult {
	x, y, ok := elementsOf(q, a, b)
	if !ok {
		return IntResult{Code: ErrRange}
	}
	return x.minus(y).result()
}

func MulRing(q int64, a int64, b int64) IntResult {
	x, y, ok := elementsOf(q, a, b)
	if !ok {
		return IntResult{Code: ErrRange}
	}
	return x.times(y).result()
}

func SignedOf(v int64) IntResult {
	if !isElement(Ring, v) {
		return IntResult{Code: ErrRange}
	}
	if v < Ring/2 {
		return IntResult{Value: v}
	}
	return IntResult{Value: v - Ring}
}

func RingOf(n int64) IntResult {
	if n < -Ring/2 || n >= Ring/2 {
		return IntResult{Code: ErrRange}
	}
	if n < 0 {
		return IntResult{Value: n + Ring}
	}
	return IntResult{Value: n}
}

func BitsOf(v int64) IntsResult {
	if !isElement(Ring, v) {
		return IntsResult{Code: ErrRange}
	}
	e := elementOf(Ring, v)
	list := make([]int64, Bits)
	for i := range list {
		list[i] = e.bit(i)
	}
	return IntsResult{List: list}
}

func FromBits(bits []int64) IntResult {
	if len(bits) != Bits {
		return IntResult{Code: ErrMany}
	}
	if fault := elementsFault(bitRing, bits); fault != OK {
		return IntResult{Code: fault}
	}
	// From the highest on: each bit behind it doubles what is there already.
	sum := elementOf(Ring, 0)
	for i := Bits - 1; i >= 0; i-- {
		sum = sum.plus(sum).plus(elementOf(Ring, bits[i]))
	}
	return sum.result()
}

func MajorityOf(list []int64) IntResult {
	if len(list) != 3 {
		return IntResult{Code: ErrMany}
	}
	if list[0] == list[1] || list[0] == list[2] {
		return IntResult{Value: list[0]}
	}
	if list[1] == list[2] {
		return IntResult{Value: list[1]}
	}
	return IntResult{Code: ErrNone}
}
