package impl

import (
	"iter"
	"slices"
	"strconv"
	"strings"
)

// Error codes.
const (
	OK          = 0
	ErrInvalid  = 1
	ErrRange    = 2
	ErrLimit    = 3
	ErrState    = 4
	ErrSyntax   = 5
	ErrNotFound = 6
	ErrBudget   = 7
	ErrProof    = 8
)

// Limits of stacks.
const (
	MaxWheels = 8
	MaxBase   = 100
	MaxCount  = 1000000000000
)

// Stack has the bases of wheels.
type Stack []uint8

// Digits are what the wheels of a stack show.
type Digits [8]uint8

// number is what texts are made of.
type number interface {
	~uint8 | ~int16 | ~int64
}

// CodeName returns the name of an error code.
func CodeName(code int64) string {
	switch code {
	case OK:
		return "ok"
	case ErrInvalid:
		return "invalid"
	case ErrRange:
		return "range"
	case ErrLimit:
		return "limit"
	case ErrState:
		return "state"
	case ErrSyntax:
		return "syntax"
	case ErrNotFound:
		return "notfound"
	case ErrBudget:
		return "budget"
	case ErrProof:
		return "proof"
	}
	return ""
}

// ValidStack reports whether s is valid.
func ValidStack(s Stack) bool {
	if len(s) < 1 || len(s) > MaxWheels {
		return false
	}
	// MaxWheels bases of MaxBase have a product of 10^16, so this cannot overflow.
	size := int64(1)
	for _, base := range s {
		if base < 2 || base > MaxBase {
			return false
		}
		size *= int64(base)
	}
	return size <= MaxCount
}

// SameStack reports whether two stacks are deeply equal.
func SameStack(a, b Stack) bool {
	return slices.Equal(a, b)
}

// SizeOf returns how many values a stack shows.
func SizeOf(s Stack) (int64, int64) {
	if !ValidStack(s) {
		return 0, ErrInvalid
	}
	return s.size(), OK
}

// PlaceOf returns what a digit of a wheel is worth.
func PlaceOf(s Stack, wheel int64) (int64, int64) {
	if !ValidStack(s) {
		return 0, ErrInvalid
	}
	if !s.hasWheel(wheel) {
		return 0, ErrRange
	}
	return s.place(wheel), OK
}

// ValidDigits reports whether digits are valid for a stack.
func ValidDigits(s Stack, d Digits) bool {
	if !ValidStack(s) {
		return false
	}
	for wheel, digit := range d {
		if wheel < len(s) && digit >= s[wheel] {
			return false
		}
		if wheel >= len(s) && digit != 0 {
			return false
		}
	}
	return true
}

// DigitsOf returns the digits with a value.
func DigitsOf(s Stack, value int64) (Digits, int64) {
	if !ValidStack(s) {
		return Digits{}, ErrInvalid
	}
	if !s.hasValue(value) {
		return Digits{}, ErrRange
	}
	return s.digits(value), OK
}

// ValueOf returns the value of digits.
func ValueOf(s Stack, d Digits) (int64, int64) {
	if !ValidDigits(s, d) {
		return 0, ErrInvalid
	}
	return s.value(d), OK
}

// AddTo adds a count, and tells how many rounds there are.
func AddTo(s Stack, d Digits, count int64) (Digits, int64, int64) {
	if !ValidDigits(s, d) {
		return Digits{}, 0, ErrInvalid
	}
	if !countInRange(count) {
		return Digits{}, 0, ErrRange
	}
	sum, size := s.value(d)+count, s.size()
	return s.digits(floorMod(sum, size)), floorDiv(sum, size), OK
}

// StepUp adds 1, and tells how many wheels have moved.
func StepUp(s Stack, d Digits) (Digits, int64, int64) {
	return step(s, d, 1)
}

// StepDown takes 1 away, and tells how many wheels have moved.
func StepDown(s Stack, d Digits) (Digits, int64, int64) {
	return step(s, d, -1)
}

// MovesOf returns by how many digits each wheel turns.
func MovesOf(s Stack, d Digits, count int64) ([8]int64, int64) {
	if !ValidDigits(s, d) {
		return [8]int64{}, ErrInvalid
	}
	if !countInRange(count) {
		return [8]int64{}, ErrRange
	}
	var moves [8]int64
	value := s.value(d)
	for wheel, place := range s.places() {
		moves[wheel] = floorDiv(value+count, place) - floorDiv(value, place)
	}
	return moves, OK
}

// Complement returns the digits that are missing to the greatest value.
func Complement(s Stack, d Digits) (Digits, int64) {
	if !ValidDigits(s, d) {
		return Digits{}, ErrInvalid
	}
	var rest Digits
	for wheel, base := range s {
		rest[wheel] = base - 1 - d[wheel]
	}
	return rest, OK
}

// WayTo returns the counts that lead from the one to the other.
func WayTo(s Stack, from, to Digits) (int64, int64, int64) {
	values, ok := valuesOf(s, from, to)
	if !ok {
		return 0, 0, ErrInvalid
	}
	if from == to {
		return 0, 0, OK
	}
	size := s.size()
	forward := floorMod(values[to]-values[from], size)
	return forward, forward - size, OK
}

// CompareDigits compares the values of digits.
func CompareDigits(s Stack, a, b Digits) (int64, int64) {
	values, ok := valuesOf(s, a, b)
	if !ok {
		return 0, ErrInvalid
	}
	if a == b {
		return 0, OK
	}
	if values[a] < values[b] {
		return -1, OK
	}
	return 1, OK
}

// LastOf returns the value of the first wheels alone.
func LastOf(s Stack, d Digits, wheels int64) (int64, int64) {
	if !ValidDigits(s, d) {
		return 0, ErrInvalid
	}
	if wheels < 0 || wheels > int64(len(s)) {
		return 0, ErrRange
	}
	return s[:wheels].value(d), OK
}

// NextWith returns the least count behind which a wheel has a digit.
func NextWith(s Stack, d Digits, wheel, digit int64) (int64, int64) {
	if !ValidDigits(s, d) {
		return 0, ErrInvalid
	}
	if !s.hasDigit(wheel, digit) {
		return 0, ErrRange
	}
	if int64(d[wheel]) == digit {
		return 0, OK
	}
	// The size is a multiple of the cycle, so going over zero changes nothing.
	place, cycle := s.place(wheel), s.cycle(wheel)
	return floorMod(digit*place-s.value(d), cycle), OK
}

// CountWith returns how many values have a digit on a wheel.
func CountWith(s Stack, from, to int64, wheel, digit int64) (int64, int64) {
	if !ValidStack(s) {
		return 0, ErrInvalid
	}
	if !s.hasDigit(wheel, digit) || !s.hasValue(from) || !s.hasValue(to) {
		return 0, ErrRange
	}
	if from > to {
		return 0, OK
	}
	return s.countBelow(to+1, wheel, digit) - s.countBelow(from, wheel, digit), OK
}

// LeastStack returns the least stack that shows enough values.
func LeastStack(size, wheels int64) (Stack, int64) {
	if size < 1 || size > MaxCount || wheels < 1 || wheels > MaxWheels {
		return nil, ErrRange
	}
	base := leastBase(size, wheels)
	if base > MaxBase {
		return nil, ErrLimit
	}
	s := slices.Repeat(Stack{uint8(base)}, int(wheels))
	others := power(base, wheels-1)
	s[wheels-1] = uint8(max(2, (size+others-1)/others))
	if !ValidStack(s) {
		return nil, ErrLimit
	}
	return s, OK
}

// DigitsText returns the text of digits.
func DigitsText(s Stack, d Digits) string {
	if !ValidDigits(s, d) {
		return ""
	}
	return textLastFirst(d[:len(s)], func(wheel int) int {
		return len(decimal(s[wheel]-1, 1))
	})
}

// ReadDigits returns the digits with the given text.
func ReadDigits(s Stack, text string) (Digits, int64) {
	if !ValidStack(s) {
		return Digits{}, ErrInvalid
	}
	var d Digits
	copy(d[:], readLastFirst(text))
	// Digits have one text alone: other wheels, or zeros missing or to spare, are refused here.
	if !ValidDigits(s, d) || DigitsText(s, d) != text {
		return Digits{}, ErrSyntax
	}
	return d, OK
}

// StackText returns the text of a stack.
func StackText(s Stack) string {
	if !ValidStack(s) {
		return ""
	}
	return textLastFirst(s, func(int) int { return 1 })
}

// ReadStack returns the stack with the given text.
func ReadStack(text string) (Stack, int64) {
	s := Stack(readLastFirst(text))
	// The text is made again, as it may have zeros to spare.
	if !ValidStack(s) || StackText(s) != text {
		return nil, ErrSyntax
	}
	return s, OK
}

// places yields each wheel with what a digit of it is worth.
func (s Stack) places() iter.Seq2[int, int64] {
	return func(yield func(int, int64) bool) {
		place := int64(1)
		for wheel, base := range s {
			if !yield(wheel, place) {
				return
			}
			place *= int64(base)
		}
	}
}

// place returns what a digit of a wheel that is there is worth.
func (s Stack) place(wheel int64) int64 {
	for i, place := range s.places() {
		if int64(i) == wheel {
			return place
		}
	}
	return 0
}

// cycle returns after how many counts a wheel has turned once.
func (s Stack) cycle(wheel int64) int64 {
	return s.place(wheel) * int64(s[wheel])
}

// size returns the product of all bases of a valid stack.
func (s Stack) size() int64 {
	return s.cycle(int64(len(s)) - 1)
}

// value returns the sum of each digit times its place.
func (s Stack) value(d Digits) int64 {
	sum := int64(0)
	for wheel, place := range s.places() {
		sum += int64(d[wheel]) * place
	}
	return sum
}

// digits returns the digits with a value that the stack has.
func (s Stack) digits(value int64) Digits {
	var d Digits
	for wheel, place := range s.places() {
		d[wheel] = uint8(value / place % int64(s[wheel]))
	}
	return d
}

func (s Stack) hasWheel(wheel int64) bool {
	return wheel >= 0 && wheel < int64(len(s))
}

func (s Stack) hasDigit(wheel, digit int64) bool {
	return s.hasWheel(wheel) && digit >= 0 && digit < int64(s[wheel])
}

func (s Stack) hasValue(value int64) bool {
	return value >= 0 && value < s.size()
}

// countBelow returns how many values less than end have a digit on a wheel.
func (s Stack) countBelow(end, wheel, digit int64) int64 {
	place, cycle := s.place(wheel), s.cycle(wheel)
	begun := end%cycle - digit*place
	return end/cycle*place + min(max(begun, 0), place)
}

// valuesOf returns the value of each of the digits, or false if one is not valid.
func valuesOf(s Stack, list ...Digits) (map[Digits]int64, bool) {
	values := make(map[Digits]int64, len(list))
	for _, d := range list {
		if !ValidDigits(s, d) {
			return nil, false
		}
		values[d] = s.value(d)
	}
	return values, true
}

// step adds count, which is 1 or -1, and tells how many wheels have moved.
func step(s Stack, d Digits, count int64) (Digits, int64, int64) {
	next, _, code := AddTo(s, d, count)
	if code != OK {
		return Digits{}, 0, code
	}
	// A base is at least 2, so a wheel that moves by one shows another digit.
	moved := int64(0)
	for wheel := range s {
		if next[wheel] != d[wheel] {
			moved++
		}
	}
	return next, moved, OK
}

func countInRange(count int64) bool {
	return count >= -MaxCount && count <= MaxCount
}

// leastBase returns the least base whose power is at least size, or MaxBase + 1
// if it would be greater than MaxBase.
func leastBase(size, wheels int64) int64 {
	base := int64(2)
again:
	if base <= MaxBase && power(base, wheels) < size {
		base++
		goto again
	}
	return base
}

func power(base, exponent int64) int64 {
	product := int64(1)
	for range exponent {
		product *= base
	}
	return product
}

// floorDiv rounds down, where / rounds to zero: counts may go back below zero.
func floorDiv(a, b int64) int64 {
	if a%b < 0 {
		return a/b - 1
	}
	return a / b
}

// floorMod returns what floorDiv leaves, which is 0 to b less 1.
func floorMod(a, b int64) int64 {
	return a - floorDiv(a, b)*b
}

// decimal returns the text of a number, with zeros ahead up to a width.
func decimal[N number](n N, width int) string {
	text := strconv.FormatInt(int64(n), 10)
	return strings.Repeat("0", max(0, width-len(text))) + text
}

// textLastFirst returns the text of one number for each wheel, the last one first.
func textLastFirst[N number](list []N, width func(wheel int) int) string {
	parts := make([]string, 0, len(list))
	for wheel, n := range slices.Backward(list) {
		parts = append(parts, decimal(n, width(wheel)))
	}
	return strings.Join(parts, ":")
}

// readLastFirst returns the numbers of a text as textLastFirst makes it, that of
// the wheel 0 first, whatever their widths; none if a part is no number of a wheel.
func readLastFirst(text string) []uint8 {
	var list []uint8
	// One number more than MaxWheels is enough to be refused.
	parts := strings.SplitN(text, ":", MaxWheels+1)
	for _, part := range slices.Backward(parts) {
		n, err := strconv.ParseUint(part, 10, 8)
		if err != nil {
			return nil
		}
		list = append(list, uint8(n))
	}
	return list
}
