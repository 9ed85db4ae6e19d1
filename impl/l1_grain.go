package impl

import (
	"cmp"
	"math"
	"math/big"
	"math/bits"
	"strconv"
	"strings"
)

const MaxNumText = 1200

// Whole is a whole number, or why there is none.
type Whole struct {
	Code int
	Num  int64
}

// Divided is a quotient and what is left.
type Divided struct {
	Code int
	Quot int64
	Rest int64
}

func ReadInt(text string, base int) Whole {
	if !isBase(base) || len(text) > MaxNumText {
		return Whole{Code: 1}
	}
	s := numScan{text: text}
	s.takeSign()
	// The library stops at the first digit that is too much, so the form is looked at ahead of it.
	if s.takeDigits(base) == "" || !s.ended() {
		return Whole{Code: 2}
	}
	n, err := strconv.ParseInt(text, base, 64)
	if err != nil {
		return Whole{Code: 3}
	}
	return Whole{Num: n}
}

func WriteInt(n int64, base int) string {
	if !isBase(base) {
		return ""
	}
	return strconv.FormatInt(n, base)
}

func WriteBits(n int64, base int) string {
	if !isBase(base) {
		return ""
	}
	return strconv.FormatUint(uint64(n), base)
}

func isBase(base int) bool { return base >= 2 && base <= 36 }

func Divide(a, b int64) Divided {
	if b == 0 {
		return Divided{Code: 1}
	}
	quot := a / b
	rest := a - b*quot
	// Go cuts towards 0, which is one too high when the signs differ.
	if rest != 0 && (rest < 0) != (b < 0) {
		quot--
		rest += b
	}
	return Divided{Quot: quot, Rest: rest}
}

func Shift(n int64, by int) int64 {
	switch {
	case by > 63 || by < -63:
		return 0
	case by < 0:
		return int64(uint64(n) >> -by)
	}
	return n << by
}

const (
	FZero = 0
	FNum  = 1
	FInf  = 2
	FNan  = 3
)

// Parts is what a float is: its kind and sign, and an odd number times a power of two.
type Parts struct {
	Kind int
	Neg  bool
	Mant int64
	Exp  int
}

const (
	mantBits = 52
	mantMask = 1<<mantBits - 1
	expMask  = 1<<11 - 1
	leastExp = -1074
	infBits  = expMask << mantBits
	nanBits  = infBits | 1<<(mantBits-1)
	// farExp is so far that 64 bits times 2 to it are an infinity, and times 2 to its negative a zero.
	farExp = 2000
)

func PartsOf(f float64) Parts {
	neg := math.Signbit(f)
	switch {
	case math.IsNaN(f):
		return Parts{Kind: FNan}
	case math.IsInf(f, 0):
		return Parts{Kind: FInf, Neg: neg}
	case f == 0:
		return Parts{Kind: FZero, Neg: neg}
	}
	mant, exp := stored(f)
	even := bits.TrailingZeros64(mant)
	return Parts{Kind: FNum, Neg: neg, Mant: int64(mant >> even), Exp: exp + even}
}

// stored takes a number's bits apart: its size is mant times 2 to the exp, and mant's lowest bit is the float's.
func stored(f float64) (mant uint64, exp int) {
	all := math.Float64bits(f)
	mant = all & mantMask
	e := int(all >> mantBits & expMask)
	if e == 0 {
		return mant, leastExp
	}
	return mant | 1<<mantBits, e - 1 + leastExp
}

func Near(neg bool, mant int64, exp int) float64 {
	return withSign(neg, nearestTo(uint64(mant), exp, false))
}

func withSign(neg bool, size float64) float64 {
	if neg {
		return math.Copysign(size, -1)
	}
	return size
}

// between is the two neighbours between which an exact number lies, low being it itself when it is one of them.
// The rule by which a number is rounded stands here once, for floats and for decimals.
type between[T any] struct {
	low     T
	high    T
	lowEven bool
	side    int // of the midst on which the number lies: -1 below it, 0 on it, 1 above it
}

func (b between[T]) goesUp() bool {
	return b.side > 0 || b.side == 0 && !b.lowEven
}

func (b between[T]) nearer() T {
	if b.goesUp() {
		return b.high
	}
	return b.low
}

func (b between[T]) farther() T {
	if b.goesUp() {
		return b.low
	}
	return b.high
}

// nearestTo rounds mant times 2 to the exp; with more, something less than 2 to the exp comes to it, and mant has 55 bits at least.
func nearestTo(mant uint64, exp int, more bool) float64 {
	if mant == 0 {
		return 0
	}
	exp = max(-farExp, min(exp, farExp))
	lowest := max(exp+bits.Len64(mant)-mantBits-1, leastExp)
	kept := dropBits(mant, lowest-exp, more).nearer()
	// Added, not masked in: the highest bit of kept, and what rounding carries over, count up E.
	size := uint64(lowest-leastExp)<<mantBits + kept
	return math.Float64frombits(min(size, infBits))
}

// dropBits takes so many of the lowest bits away; below 0 it puts zeros there.
func dropBits(mant uint64, drop int, more bool) between[uint64] {
	switch {
	case drop <= 0:
		return between[uint64]{low: mant << -drop, high: mant<<-drop + 1, side: -1}
	case drop > 64:
		return between[uint64]{low: 0, high: 1, side: -1}
	}
	low := mant >> drop
	side := cmp.Compare(mant-low<<drop, uint64(1)<<(drop-1))
	if side == 0 && more {
		side = 1
	}
	return between[uint64]{low: low, high: low + 1, lowEven: low&1 == 0, side: side}
}

func BitsOf(f float64) int64 {
	if math.IsNaN(f) {
		return nanBits
	}
	return int64(math.Float64bits(f))
}

func FromBits(n int64) float64 { return math.Float64frombits(uint64(n)) }

func Above(f float64) float64 {
	switch {
	case math.IsNaN(f) || math.IsInf(f, 1):
		return f
	case f == 0:
		return math.Float64frombits(1)
	case f < 0:
		return math.Float64frombits(math.Float64bits(f) - 1)
	}
	return math.Float64frombits(math.Float64bits(f) + 1)
}

func Order(a, b float64) int {
	switch {
	case a < b:
		return -1
	case a > b:
		return 1
	case a == b:
		return 0
	}
	return 2
}

func OrderInt(n int64, f float64) int {
	switch {
	case math.IsNaN(f):
		return 2
	case f >= 1<<63:
		return -1
	case f < -1<<63:
		return 1
	}
	// n as a float would be rounded; the whole part of f is exact as an int64.
	floor := math.Floor(f)
	order := cmp.Compare(n, int64(floor))
	if order == 0 && f > floor {
		return -1
	}
	return order
}

func Floor(f float64) float64 { return math.Floor(f) }

func ToInt(f float64) Whole {
	switch {
	case math.IsNaN(f) || f < -1<<63 || f >= 1<<63:
		return Whole{Code: 3}
	case f != math.Floor(f):
		return Whole{Code: 2}
	}
	return Whole{Num: int64(f)}
}

// FltRead is a float that a text tells, or at which byte it does not.
type FltRead struct {
	Ok  bool
	At  int
	Flt float64
}

func ReadFlt(text string) FltRead {
	if len(text) > MaxNumText {
		return FltRead{At: MaxNumText}
	}
	s := numScan{text: text}
	flt, ok := s.takeFloat()
	if !ok || !s.ended() {
		return FltRead{At: s.at}
	}
	return FltRead{Ok: true, Flt: flt}
}

// numScan is a text that is read as a number, and how far it has been read: up to the first byte that cannot stand there.
type numScan struct {
	text string
	at   int
}

func (s *numScan) ended() bool { return s.at == len(s.text) }

func (s *numScan) sees(piece string) bool { return strings.HasPrefix(s.text[s.at:], piece) }

func (s *numScan) take(b byte) bool {
	if s.ended() || s.text[s.at] != b {
		return false
	}
	s.at++
	return true
}

// takeSign is true for a minus.
func (s *numScan) takeSign() bool {
	if s.take('-') {
		return true
	}
	s.take('+')
	return false
}

func (s *numScan) takeWord(word string) bool {
	for i := range len(word) {
		if !s.take(word[i]) {
			return false
		}
	}
	return true
}

func (s *numScan) takeDigits(base int) string {
	from := s.at
	for !s.ended() && digitOf(s.text[s.at]) < base {
		s.at++
	}
	return s.text[from:s.at]
}

// digitOf is above every digit of every base for a byte that is none.
func digitOf(b byte) int {
	switch {
	case b >= '0' && b <= '9':
		return int(b - '0')
	case b >= 'a' && b <= 'z':
		return int(b-'a') + 10
	}
	return 36
}

func (s *numScan) takeFloat() (float64, bool) {
	neg := s.takeSign()
	switch {
	case s.sees("i"):
		return withSign(neg, math.Inf(1)), s.takeWord("inf")
	case s.sees("n"):
		return math.NaN(), s.takeWord("nan")
	case s.sees("0x"):
		s.takeWord("0x")
		n, ok := s.takeNumber(16, 'p')
		return withSign(neg, n.fromHex()), ok
	}
	n, ok := s.takeNumber(10, 'e')
	return withSign(neg, n.fromDecimal()), ok
}

// numTold is what the text of a number tells: all its digits, how many of them stand behind the point, and the power behind the mark.
type numTold struct {
	digits string
	behind int
	power  int
}

func (s *numScan) takeNumber(base int, mark byte) (numTold, bool) {
	n := numTold{digits: s.takeDigits(base)}
	if n.digits == "" {
		return numTold{}, false
	}
	if s.take('.') {
		behind := s.takeDigits(base)
		if behind == "" {
			return numTold{}, false
		}
		n.digits += behind
		n.behind = len(behind)
	}
	if s.take(mark) {
		power, ok := s.takePower()
		if !ok {
			return numTold{}, false
		}
		n.power = power
	}
	return n, true
}

// farPower is so far that no digits of MaxNumText bytes bring a number back from it: a greater power tells the same float.
const farPower = 10000

func (s *numScan) takePower() (int, bool) {
	neg := s.takeSign()
	digits := s.takeDigits(10)
	power := 0
	for i := range len(digits) {
		power = min(power*10+digitOf(digits[i]), farPower)
	}
	if neg {
		power = -power
	}
	return power, digits != ""
}

func (n numTold) fromHex() float64 {
	return nearestRatio(wholeOf(n.digits, 16), big.NewInt(1), n.power-4*n.behind)
}

// fromDecimal takes 10 to a power as 5 to it times 2 to it; the twos cost nothing.
func (n numTold) fromDecimal() float64 {
	exp := n.power - n.behind
	whole := wholeOf(n.digits, 10)
	if exp < 0 {
		return nearestRatio(whole, powerOf(5, -exp), exp)
	}
	return nearestRatio(whole.Mul(whole, powerOf(5, exp)), big.NewInt(1), exp)
}

// wholeOf is 0 for no digits.
func wholeOf(digits string, base int) *big.Int {
	whole := new(big.Int)
	if digits != "" {
		whole.SetString(digits, base)
	}
	return whole
}

func powerOf(base int64, power int) *big.Int {
	return new(big.Int).Exp(big.NewInt(base), big.NewInt(int64(power)), nil)
}

// nearestRatio rounds a / b times 2 to the exp; a is 0 or more, b above 0.
func nearestRatio(a, b *big.Int, exp int) float64 {
	if a.Sign() == 0 {
		return 0
	}
	// So moved, the quotient has 63 or 64 bits: all that a float keeps, and enough to tell on which side of the midst it lies.
	up := 63 - a.BitLen() + b.BitLen()
	a = new(big.Int).Lsh(a, uint(max(up, 0)))
	b = new(big.Int).Lsh(b, uint(max(-up, 0)))
	quot, rest := new(big.Int).QuoRem(a, b, new(big.Int))
	return nearestTo(quot.Uint64(), exp-up, rest.Sign() != 0)
}

const MaxPlaces = 400

// The numbers from 10^leastPlain up to below 10^(mostPlain + 1) are written without an exponent.
const (
	leastPlain = -6
	mostPlain  = 20
)

func Exact(f float64) string {
	p := PartsOf(f)
	if p.Kind == FInf || p.Kind == FNan {
		return wordOf(p)
	}
	n := tensOf(uint64(p.Mant), p.Exp)
	return minus(p) + withPoint(n.whole.String(), -n.exp)
}

func wordOf(p Parts) string {
	if p.Kind == FNan {
		return "nan"
	}
	return minus(p) + "inf"
}

func minus(p Parts) string {
	if p.Neg {
		return "-"
	}
	return ""
}

// tens is a whole number times a power of ten.
type tens struct {
	whole *big.Int
	exp   int
}

// tensOf is mant times 2 to the exp, exactly: a half is 5 tenths. Its power of ten hangs on exp alone and is never above 0.
func tensOf(mant uint64, exp int) tens {
	whole := new(big.Int).SetUint64(mant)
	if exp >= 0 {
		return tens{whole: whole.Lsh(whole, uint(exp))}
	}
	return tens{whole: whole.Mul(whole, powerOf(5, -exp)), exp: exp}
}

// withPoint puts a point ahead of so many last digits, and a digit ahead of it.
func withPoint(digits string, places int) string {
	if places == 0 {
		return digits
	}
	digits = strings.Repeat("0", max(places+1-len(digits), 0)) + digits
	ahead := len(digits) - places
	return digits[:ahead] + "." + digits[ahead:]
}

// withPower writes the digits with the first one ahead of the point, times 10 to the x.
func withPower(digits string, x int) string {
	return withPoint(digits, len(digits)-1) + "e" + strconv.Itoa(x)
}

func Shortest(f float64) string {
	p := PartsOf(f)
	switch p.Kind {
	case FInf, FNan:
		return wordOf(p)
	case FZero:
		return minus(p) + "0"
	}
	digits, exp := leastDigits(f)
	x := len(digits) - 1 + exp
	switch {
	case x < leastPlain || x > mostPlain:
		return minus(p) + withPower(digits, x)
	case exp >= 0:
		return minus(p) + digits + strings.Repeat("0", exp)
	}
	return minus(p) + withPoint(digits, -exp)
}

// reach is all that is read as one number's size: what lies between low and high, and, when closed, these two; all times 10 to the exp.
type reach struct {
	size   *big.Int
	low    *big.Int
	high   *big.Int
	closed bool
	exp    int
}

// reachOf counts in quarters of the lowest place: below a power of two the next float is only half a place away, and its midst a quarter.
func reachOf(f float64) reach {
	mant, exp := stored(f)
	down := uint64(2)
	if mant == 1<<mantBits && exp > leastExp {
		down = 1
	}
	size := tensOf(4*mant, exp-2)
	return reach{
		size:   size.whole,
		low:    tensOf(4*mant-down, exp-2).whole,
		high:   tensOf(4*mant+2, exp-2).whole,
		closed: mant&1 == 0,
		exp:    size.exp,
	}
}

func (r reach) holds(n *big.Int) bool {
	low, high := n.Cmp(r.low), n.Cmp(r.high)
	if low == 0 || high == 0 {
		return r.closed
	}
	return low > 0 && high < 0
}

// leastDigits tries one digit, then two, and so on; it ends at the latest when no digit is dropped.
func leastDigits(f float64) (digits string, exp int) {
	r := reachOf(f)
	for drop := len(r.size.String()) - 1; ; drop-- {
		unit := powerOf(10, drop)
		b := dropTens(r.size, drop)
		for _, n := range []*big.Int{b.nearer(), b.farther()} {
			if r.holds(new(big.Int).Mul(n, unit)) {
				all := n.String()
				digits = strings.TrimRight(all, "0")
				return digits, r.exp + drop + len(all) - len(digits)
			}
		}
	}
}

// dropTens takes so many of the last digits away; below 0 it puts zeros there.
func dropTens(n *big.Int, drop int) between[*big.Int] {
	n = new(big.Int).Mul(n, powerOf(10, max(-drop, 0)))
	unit := powerOf(10, max(drop, 0))
	low, rest := new(big.Int).QuoRem(n, unit, new(big.Int))
	return between[*big.Int]{
		low:     low,
		high:    new(big.Int).Add(low, big.NewInt(1)),
		lowEven: low.Bit(0) == 0,
		side:    rest.Lsh(rest, 1).Cmp(unit),
	}
}

func Digits(f float64, n int) string {
	if n < 1 || n > MaxPlaces {
		return ""
	}
	p := PartsOf(f)
	switch p.Kind {
	case FInf, FNan:
		return wordOf(p)
	case FZero:
		return minus(p) + withPower(strings.Repeat("0", n), 0)
	}
	exact := tensOf(uint64(p.Mant), p.Exp)
	length := len(exact.whole.String())
	rounded := dropTens(exact.whole, length-n).nearer().String()
	// Nines that go up are one digit more.
	x := exact.exp + length - n + len(rounded) - 1
	return minus(p) + withPower(rounded[:n], x)
}

func Fixed(f float64, places int) string {
	if places < 0 || places > MaxPlaces {
		return ""
	}
	p := PartsOf(f)
	if p.Kind == FInf || p.Kind == FNan {
		return wordOf(p)
	}
	exact := tensOf(uint64(p.Mant), p.Exp)
	rounded := dropTens(exact.whole, -exact.exp-places).nearer()
	return minus(p) + withPoint(rounded.String(), places)
}

func HexOf(f float64) string {
	p := PartsOf(f)
	if p.Kind == FInf || p.Kind == FNan {
		return wordOf(p)
	}
	return minus(p) + "0x" + WriteInt(p.Mant, 16) + "p" + strconv.Itoa(p.Exp)
}
