package tests

import (
	"math"
	"math/big"
	"strings"
	"testing"

	"loop.example/g00134/impl"
)

const (
	leastSigned    = uint64(1) << 63
	greatestSigned = leastSigned - 1
	leastShort     = uint64(1) << 31
	allOnes        = uint64(math.MaxUint64)
)

// edgeNumbers are those at which signed numbers and words part, of 64 bits and of 32, with and without bits above.
var edgeNumbers = []uint64{
	0, 1, 2, 3, 5, 7, 31, 32, 33, 63, 64, 65, 95, 127, 0x1234,
	leastShort - 1, leastShort, leastShort + 1, 0xfffffff9, 0xfffffffe, 0xffffffff,
	1 << 32, 1<<32 + 1, 1<<32 + 31, 1<<32 + 63, 0x100000000 + leastShort, 0x1ffffffff,
	0x7fffffff00000000, 0x7fffffff80000000, 0x7fffffffffffffff - 1, greatestSigned,
	leastSigned, leastSigned + 1, leastSigned + leastShort, 0x80000000ffffffff,
	0xffffffff00000000, 0xffffffff00000001, 0xffffffff7fffffff, 0xffffffff80000000,
	0x8877665544332211, 0x1122334455667788, 0xdeadbeef00000005, 0xdeadbeef80000005,
	allOnes - 8, allOnes - 2, allOnes - 1, allOnes,
}

// mixedNumbers are n numbers without a rule to be seen, the same ones each time, of all lengths.
func mixedNumbers(n int) []uint64 {
	out := make([]uint64, n)
	x := uint64(0x9e3779b97f4a7c15)
	for k := range out {
		x ^= x << 13
		x ^= x >> 7
		x ^= x << 17
		out[k] = x >> (k * 11 % 64)
		if k%3 == 0 {
			out[k] = -out[k]
		}
	}
	return out
}

// eachPair goes through pairs of the edges and through pairs of mixed numbers, and of one with the other.
func eachPair(see func(a, b uint64)) {
	for _, a := range edgeNumbers {
		for _, b := range edgeNumbers {
			see(a, b)
		}
	}
	mixed := mixedNumbers(240)
	for k, a := range mixed {
		see(a, mixed[len(mixed)-1-k])
		see(a, edgeNumbers[k%len(edgeNumbers)])
		see(edgeNumbers[k%len(edgeNumbers)], a)
	}
}

// asWord is the number that the low n bits of a word are, none below 0.
func asWord(x uint64, n uint) *big.Int {
	whole := new(big.Int).SetUint64(x)
	return whole.Mod(whole, new(big.Int).Lsh(big.NewInt(1), n))
}

// asSigned is the number that the low n bits of a word are, signed.
func asSigned(x uint64, n uint) *big.Int {
	w := asWord(x, n)
	if w.Bit(int(n-1)) == 1 {
		w.Sub(w, new(big.Int).Lsh(big.NewInt(1), n))
	}
	return w
}

// lowOf are the low n bits of a number of any length, which may be below 0.
func lowOf(x *big.Int, n uint) uint64 {
	return new(big.Int).Mod(x, new(big.Int).Lsh(big.NewInt(1), n)).Uint64()
}

func oneIf(is bool) *big.Int {
	if is {
		return big.NewInt(1)
	}
	return new(big.Int)
}

func highOf(x *big.Int) *big.Int {
	return new(big.Int).Rsh(x, 64)
}

// dividedBig is a quotient or what is left, by the words of the document: towards 0, and fixed answers for 0.
func dividedBig(a, b *big.Int, rest bool) *big.Int {
	switch {
	case b.Sign() == 0 && rest:
		return a
	case b.Sign() == 0:
		return big.NewInt(-1)
	case rest:
		return new(big.Int).Rem(a, b)
	}
	return new(big.Int).Quo(a, b)
}

// reckoned is a second reading of Alu: by the name, with numbers of any length, of n bits.
func reckoned(name string, a, b uint64, n uint) *big.Int {
	x, y, out := asSigned(a, n), asSigned(b, n), new(big.Int)
	wx, wy := asWord(a, n), asWord(b, n)
	by := uint(b % uint64(n))
	switch name {
	case "add":
		return out.Add(x, y)
	case "sub":
		return out.Sub(x, y)
	case "xor":
		return out.Xor(x, y)
	case "or":
		return out.Or(x, y)
	case "and":
		return out.And(x, y)
	case "sll":
		return out.Lsh(x, by)
	case "srl":
		return out.Rsh(wx, by)
	case "sra":
		return out.Rsh(x, by)
	case "slt":
		return oneIf(x.Cmp(y) < 0)
	case "sltu":
		return oneIf(wx.Cmp(wy) < 0)
	case "mul":
		return out.Mul(x, y)
	case "mulh":
		return highOf(out.Mul(x, y))
	case "mulhu":
		return highOf(out.Mul(wx, wy))
	case "mulhsu":
		return highOf(out.Mul(x, wy))
	case "div", "rem":
		return dividedBig(x, y, name == "rem")
	case "divu", "remu":
		return dividedBig(wx, wy, name == "remu")
	}
	return nil
}

// plainName is the name of what an Op reckons, without the marks of Imm and of 32 bits, and how many bits it is of.
func plainName(name string) (string, uint) {
	withImm := map[string]string{"addi": "add", "slti": "slt", "sltiu": "sltu", "xori": "xor", "ori": "or", "andi": "and", "slli": "sll", "srli": "srl", "srai": "sra"}
	plain, short := strings.CutSuffix(name, "w")
	if other := withImm[plain]; other != "" {
		plain = other
	}
	if short {
		return plain, 32
	}
	return plain, 64
}

func wantAlu(t *testing.T, op int64, a, b, want uint64) {
	t.Helper()
	if got, ok := impl.Alu(op, a, b); !ok || got != want {
		t.Errorf("Alu of %s, %#x, %#x: %#x, %v; want %#x, true", impl.Name(op), a, b, got, ok, want)
	}
}

func TestAluAtEveryOp(t *testing.T) {
	seen := 0
	for _, l := range opLines(t) {
		if l.op < 22 || l.op > 62 {
			continue
		}
		seen++
		name, n := plainName(l.name)
		eachPair(func(a, b uint64) {
			whole := reckoned(name, a, b, n)
			if whole == nil {
				t.Fatal("no second reading of", l.name)
			}
			if n == 64 {
				wantAlu(t, l.op, a, b, lowOf(whole, 64))
			} else {
				wantAlu(t, l.op, a, b, lowOf(asSigned(lowOf(whole, 32), 32), 64))
			}
		})
	}
	if seen != 41 {
		t.Errorf("%d Ops, want 41", seen)
	}
}

// Every row here is written out by hand from the document.
func TestAluByHand(t *testing.T) {
	for _, x := range []struct {
		name       string
		a, b, want uint64
	}{
		{"addi", 5, allOnes - 2, 2}, {"addi", allOnes, 1, 0},
		{"slti", allOnes, 0, 1}, {"slti", 0, allOnes, 0}, {"slti", 4, 4, 0},
		{"sltiu", allOnes, 0, 0}, {"sltiu", 0, allOnes, 1}, {"sltiu", 4, 4, 0},
		{"xori", 0xff00, allOnes, 0xffffffffffff00ff}, {"ori", 0xf0, 0x0f, 0xff}, {"andi", 0xf3, 0x3f, 0x33},
		{"slli", 1, 63, leastSigned}, {"slli", 3, 64, 3}, {"slli", 3, 0, 3}, {"slli", 3, allOnes, leastSigned},
		{"srli", leastSigned, 63, 1}, {"srli", 8, 64 + 3, 1},
		{"srai", leastSigned, 63, allOnes}, {"srai", greatestSigned, 63, 0}, {"srai", leastSigned, 64, leastSigned},
		{"addiw", 0x7fffffff, 1, 0xffffffff80000000}, {"addiw", 0xdeadbeef00000005, 0, 5},
		{"slliw", 1, 31, 0xffffffff80000000}, {"slliw", 3, 32, 3}, {"slliw", 1, 63, 0xffffffff80000000},
		{"srliw", 0xffffffff80000000, 0, 0xffffffff80000000}, {"srliw", 0xffffffff80000000, 31, 1}, {"srliw", 8, 32 + 3, 1},
		{"sraiw", 0x80000000, 31, allOnes}, {"sraiw", 0x80000000, 32, 0xffffffff80000000}, {"sraiw", 0xf7fffffff, 31, 0},
		{"add", leastSigned, leastSigned, 0}, {"sub", 0, 1, allOnes}, {"sub", leastSigned, 1, greatestSigned},
		{"sll", 1, 64 + 5, 32}, {"slt", leastSigned, greatestSigned, 1}, {"sltu", leastSigned, greatestSigned, 0},
		{"srl", allOnes, 60, 15}, {"sra", allOnes - 15, 4, allOnes},
		{"addw", 0xffffffff, 1, 0}, {"subw", 0, 1, allOnes}, {"subw", leastShort, 1, 0x7fffffff},
		{"sllw", 0x100000001, 4, 16}, {"srlw", 0x100000010, 4, 1}, {"sraw", 0x180000000, 4, 0xfffffffff8000000},
		{"mul", 1 << 32, 1 << 32, 0}, {"mul", allOnes, allOnes, 1},
		{"mulh", leastSigned, leastSigned, 1 << 62}, {"mulh", allOnes, 1, allOnes}, {"mulh", 1 << 32, 1 << 32, 1},
		{"mulhsu", allOnes, allOnes, allOnes}, {"mulhsu", 1, allOnes, 0}, {"mulhsu", leastSigned, 2, allOnes},
		{"mulhsu", 2, leastSigned, 1}, {"mulhu", leastSigned, 2, 1}, {"mulhu", 1 << 32, 1 << 32, 1},
		{"div", allOnes - 6, 2, allOnes - 2}, {"rem", allOnes - 6, 2, allOnes}, {"rem", 7, allOnes - 1, 1},
		{"divu", allOnes, 2, greatestSigned}, {"remu", allOnes, 16, 15},
		{"mulw", 0x10000, 0x8000, 0xffffffff80000000}, {"mulw", 0x5ffffffff, 0x7ffffffff, 1},
		{"divw", 0x1fffffff9, 0xf00000002, allOnes - 2}, {"remw", 0x1fffffff9, 0xf00000002, allOnes},
		{"divuw", 0x1ffffffff, 1, allOnes}, {"divuw", 0xffffffff, 2, 0x7fffffff}, {"remuw", 0xffffffff, 16, 15},
	} {
		wantAlu(t, impl.OpOf(x.name), x.a, x.b, x.want)
	}
}

func TestDivisionByNought(t *testing.T) {
	eachPair(func(a, b uint64) {
		above := b << 32
		for _, x := range []struct {
			name       string
			by, answer uint64
		}{
			{"div", 0, allOnes}, {"divu", 0, allOnes}, {"rem", 0, a}, {"remu", 0, a},
			{"divw", above, allOnes}, {"divuw", above, allOnes},
			{"remw", above, lowOf(asSigned(a, 32), 64)}, {"remuw", above, lowOf(asSigned(a, 32), 64)},
		} {
			wantAlu(t, impl.OpOf(x.name), a, x.by, x.answer)
		}
	})
}

func TestLeastSignedByMinusOne(t *testing.T) {
	wantAlu(t, impl.OpOf("div"), leastSigned, allOnes, leastSigned)
	wantAlu(t, impl.OpOf("rem"), leastSigned, allOnes, 0)
	for _, above := range []uint64{0, 1 << 32, 0x7fffffff << 32, 0xffffffff << 32} {
		for _, too := range []uint64{0, 1 << 32, 0xffffffff << 32} {
			wantAlu(t, impl.OpOf("divw"), above+leastShort, too+0xffffffff, 0xffffffff80000000)
			wantAlu(t, impl.OpOf("remw"), above+leastShort, too+0xffffffff, 0)
		}
	}
}

// Promise 3, its first half.
func TestQuotientTimesDivisorAndRest(t *testing.T) {
	for _, p := range []struct {
		quotient, rest string
		bits           uint
		read           func(x uint64, n uint) *big.Int
	}{
		{"div", "rem", 64, asSigned}, {"divu", "remu", 64, asWord},
		{"divw", "remw", 32, asSigned}, {"divuw", "remuw", 32, asWord},
	} {
		eachPair(func(a, b uint64) {
			q, ok := impl.Alu(impl.OpOf(p.quotient), a, b)
			r, is := impl.Alu(impl.OpOf(p.rest), a, b)
			if !ok || !is {
				t.Fatal("no answer of", p.quotient, p.rest)
			}
			if lowOf(asWord(q*b+r, p.bits), p.bits) != lowOf(asWord(a, p.bits), p.bits) {
				t.Errorf("%s: %#x by %#x is %#x, and %#x left", p.quotient, a, b, q, r)
			}
			number, by, left := p.read(a, p.bits), p.read(b, p.bits), p.read(r, p.bits)
			if left.Sign() != 0 && left.Sign() != number.Sign() {
				t.Errorf("%s: of %v by %v %v is left", p.rest, number, by, left)
			}
			if by.Sign() != 0 && left.CmpAbs(by) >= 0 {
				t.Errorf("%s: of %v by %v %v is left", p.rest, number, by, left)
			}
		})
	}
}

func TestHigh(t *testing.T) {
	eachPair(func(a, b uint64) {
		want := highOf(new(big.Int).Mul(asWord(a, 64), asWord(b, 64))).Uint64()
		if got := impl.High(a, b); got != want {
			t.Errorf("High of %#x and %#x: %#x, want %#x", a, b, got, want)
		}
		if got := impl.High(b, a); got != want {
			t.Errorf("High of %#x and %#x: %#x, want %#x", b, a, got, want)
		}
		wantAlu(t, impl.OpOf("mulhu"), a, b, want)
	})
	for _, x := range [][3]uint64{{0, allOnes, 0}, {1, allOnes, 0}, {2, allOnes, 1}, {allOnes, allOnes, allOnes - 1}, {leastSigned, leastSigned, 1 << 62}, {0xffffffff, 0xffffffff, 0}, {1 << 32, 1 << 32, 1}} {
		if got := impl.High(x[0], x[1]); got != x[2] {
			t.Errorf("High of %#x and %#x: %#x, want %#x", x[0], x[1], got, x[2])
		}
	}
}

func wantBranch(t *testing.T, op int64, a, b uint64, want bool) {
	t.Helper()
	if got, ok := impl.Branch(op, a, b); !ok || got != want {
		t.Errorf("Branch of %s, %#x, %#x: %v, %v; want %v, true", impl.Name(op), a, b, got, ok, want)
	}
}

func TestBranchAtEveryOp(t *testing.T) {
	eachPair(func(a, b uint64) {
		signed, words := asSigned(a, 64).Cmp(asSigned(b, 64)), asWord(a, 64).Cmp(asWord(b, 64))
		for _, x := range []struct {
			name  string
			taken bool
		}{
			{"beq", words == 0}, {"bne", words != 0}, {"blt", signed < 0},
			{"bge", signed >= 0}, {"bltu", words < 0}, {"bgeu", words >= 0},
		} {
			wantBranch(t, impl.OpOf(x.name), a, b, x.taken)
		}
	})
}

func TestBranchByHand(t *testing.T) {
	for _, x := range []struct {
		a, b  uint64
		taken [6]bool // of the Ops 5 to 10
	}{
		{4, 4, [6]bool{true, false, false, true, false, true}},
		{0, 0, [6]bool{true, false, false, true, false, true}},
		{allOnes, allOnes, [6]bool{true, false, false, true, false, true}},
		{3, 4, [6]bool{false, true, true, false, true, false}},
		{4, 3, [6]bool{false, true, false, true, false, true}},
		{allOnes, 0, [6]bool{false, true, true, false, false, true}},
		{0, allOnes, [6]bool{false, true, false, true, true, false}},
		{leastSigned, greatestSigned, [6]bool{false, true, true, false, false, true}},
		{greatestSigned, leastSigned, [6]bool{false, true, false, true, true, false}},
		{leastSigned, allOnes, [6]bool{false, true, true, false, true, false}},
		{1, 1<<32 + 1, [6]bool{false, true, true, false, true, false}},
	} {
		for k, taken := range x.taken {
			wantBranch(t, int64(5+k), x.a, x.b, taken)
		}
	}
}

// Promise 3, its second half.
func TestBranchesAndTheirOpposites(t *testing.T) {
	for _, pair := range [][2]string{{"beq", "bne"}, {"blt", "bge"}, {"bltu", "bgeu"}} {
		eachPair(func(a, b uint64) {
			one, ok := impl.Branch(impl.OpOf(pair[0]), a, b)
			other, is := impl.Branch(impl.OpOf(pair[1]), a, b)
			if !ok || !is || one == other {
				t.Errorf("%s and %s of %#x and %#x: %v and %v", pair[0], pair[1], a, b, one, other)
			}
		})
	}
}

func wantAmo(t *testing.T, op int64, old, b, want uint64) {
	t.Helper()
	if got, ok := impl.Amo(op, old, b); !ok || got != want {
		t.Errorf("Amo of %s, %#x, %#x: %#x, %v; want %#x, true", impl.Name(op), old, b, got, ok, want)
	}
}

// chosen is a second reading of Amo.
func chosen(name string, old, b uint64, n uint) *big.Int {
	x, y, out := asSigned(old, n), asSigned(b, n), new(big.Int)
	wx, wy := asWord(old, n), asWord(b, n)
	switch name {
	case "amoswap":
		return y
	case "amoadd":
		return out.Add(x, y)
	case "amoxor":
		return out.Xor(x, y)
	case "amoand":
		return out.And(x, y)
	case "amoor":
		return out.Or(x, y)
	case "amomin", "amomax":
		if (x.Cmp(y) < 0) == (name == "amomin") {
			return x
		}
		return y
	case "amominu", "amomaxu":
		if (wx.Cmp(wy) < 0) == (name == "amominu") {
			return wx
		}
		return wy
	}
	return nil
}

func TestAmoAtEveryOp(t *testing.T) {
	seen := 0
	for _, l := range opLines(t) {
		if l.op < 65 || l.op > 84 || l.op == 74 || l.op == 75 {
			continue
		}
		seen++
		name, short := strings.CutSuffix(l.name, ".w")
		n := uint(64)
		if short {
			n = 32
		}
		name = strings.TrimSuffix(name, ".d")
		eachPair(func(old, b uint64) {
			whole := chosen(name, old, b, n)
			if whole == nil {
				t.Fatal("no second reading of", l.name)
			}
			wantAmo(t, l.op, old, b, lowOf(whole, n))
		})
	}
	if seen != 18 {
		t.Errorf("%d Ops, want 18", seen)
	}
}

func TestAmoByHand(t *testing.T) {
	for _, x := range []struct {
		name         string
		old, b, want uint64
	}{
		{"amoswap.w", 0x1122334455667788, 0xdeadbeef80000005, 0x80000005},
		{"amoadd.w", 0xffffffff, 1, 0}, {"amoadd.w", 0x17fffffff, 0x100000001, 0x80000000},
		{"amoxor.w", 0xf0f0f0f0f0f0f0f0, 0x0f0f0f0f0f0f0f0f, 0xffffffff},
		{"amoand.w", allOnes, 0xffffffff80000000, 0x80000000}, {"amoor.w", 0x100000000, 0xf80000000, 0x80000000},
		{"amomin.w", 0x80000000, 1, 0x80000000}, {"amomin.w", 0x100000005, 0x6, 5}, {"amomin.w", 6, 0xffffffff00000005, 5},
		{"amomax.w", 0x80000000, 1, 1}, {"amomax.w", 0x100000005, 0x6, 6}, {"amomax.w", 0xffffffff, 0xfffffffe, 0xffffffff},
		{"amominu.w", 0x80000000, 1, 1}, {"amominu.w", 0x100000005, 6, 5}, {"amominu.w", 0xffffffff, 0xfffffffe, 0xfffffffe},
		{"amomaxu.w", 0x80000000, 1, 0x80000000}, {"amomaxu.w", 0x100000005, 6, 6}, {"amomaxu.w", 5, 0xffffffff00000004, 5},
		{"amoswap.d", 1, allOnes, allOnes}, {"amoadd.d", allOnes, 2, 1}, {"amoadd.d", 0xffffffff, 1, 1 << 32},
		{"amoxor.d", allOnes, 1, allOnes - 1}, {"amoand.d", allOnes, leastSigned, leastSigned}, {"amoor.d", leastSigned, 1, leastSigned + 1},
		{"amomin.d", leastSigned, 1, leastSigned}, {"amomin.d", 1, allOnes, allOnes}, {"amomin.d", 0x80000000, 1, 1},
		{"amomax.d", leastSigned, 1, 1}, {"amomax.d", 1, allOnes, 1}, {"amomax.d", 0x80000000, 1, 0x80000000},
		{"amominu.d", leastSigned, 1, 1}, {"amominu.d", 1, allOnes, 1},
		{"amomaxu.d", leastSigned, 1, leastSigned}, {"amomaxu.d", 1, allOnes, allOnes},
	} {
		wantAmo(t, impl.OpOf(x.name), x.old, x.b, x.want)
	}
}

func TestOpsThatReckonNothing(t *testing.T) {
	ops := append([]int64{}, noOps...)
	for op := int64(-300); op <= 300; op++ {
		ops = append(ops, op)
	}
	for _, least := range []int64{5, 22, 65, 76} {
		ops = append(ops, math.MinInt64+least, math.MaxInt64-least, least+1<<8, least+1<<16, least+1<<32, least-1<<32, -least)
	}
	for _, op := range ops {
		for _, x := range [][2]uint64{{0, 0}, {5, 3}, {3, 5}, {allOnes, allOnes}, {leastSigned, allOnes}, {7, 0}} {
			a, b := x[0], x[1]
			if got, ok := impl.Alu(op, a, b); (op < 22 || op > 62) && (got != 0 || ok) {
				t.Errorf("Alu of %d, %#x, %#x: %#x, %v; want 0, false", op, a, b, got, ok)
			}
			if taken, ok := impl.Branch(op, a, b); (op < 5 || op > 10) && (taken || ok) {
				t.Errorf("Branch of %d, %#x, %#x: %v, %v; want false, false", op, a, b, taken, ok)
			}
			none := op < 65 || op == 74 || op == 75 || op > 84
			if got, ok := impl.Amo(op, a, b); none && (got != 0 || ok) {
				t.Errorf("Amo of %d, %#x, %#x: %#x, %v; want 0, false", op, a, b, got, ok)
			}
		}
	}
}
