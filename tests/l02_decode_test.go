package tests

import (
	"math"
	"strconv"
	"strings"
	"testing"

	"loop.example/g00134/impl"
)

// opTable is the document's table: Op, name, form, opcode, f3, more; - where it has nothing.
const opTable = `1 lui U 55 - -
2 auipc U 23 - -
3 jal J 111 - -
4 jalr I 103 0 -
5 beq B 99 0 -
6 bne B 99 1 -
7 blt B 99 4 -
8 bge B 99 5 -
9 bltu B 99 6 -
10 bgeu B 99 7 -
11 lb I 3 0 -
12 lh I 3 1 -
13 lw I 3 2 -
14 ld I 3 3 -
15 lbu I 3 4 -
16 lhu I 3 5 -
17 lwu I 3 6 -
18 sb S 35 0 -
19 sh S 35 1 -
20 sw S 35 2 -
21 sd S 35 3 -
22 addi I 19 0 -
23 slti I 19 2 -
24 sltiu I 19 3 -
25 xori I 19 4 -
26 ori I 19 6 -
27 andi I 19 7 -
28 slli H 19 1 0
29 srli H 19 5 0
30 srai H 19 5 16
31 addiw I 27 0 -
32 slliw W 27 1 0
33 srliw W 27 5 0
34 sraiw W 27 5 32
35 add R 51 0 0
36 sub R 51 0 32
37 sll R 51 1 0
38 slt R 51 2 0
39 sltu R 51 3 0
40 xor R 51 4 0
41 srl R 51 5 0
42 sra R 51 5 32
43 or R 51 6 0
44 and R 51 7 0
45 addw R 59 0 0
46 subw R 59 0 32
47 sllw R 59 1 0
48 srlw R 59 5 0
49 sraw R 59 5 32
50 mul R 51 0 1
51 mulh R 51 1 1
52 mulhsu R 51 2 1
53 mulhu R 51 3 1
54 div R 51 4 1
55 divu R 51 5 1
56 rem R 51 6 1
57 remu R 51 7 1
58 mulw R 59 0 1
59 divw R 59 4 1
60 divuw R 59 5 1
61 remw R 59 6 1
62 remuw R 59 7 1
63 lr.w A 47 2 2
64 sc.w A 47 2 3
65 amoswap.w A 47 2 1
66 amoadd.w A 47 2 0
67 amoxor.w A 47 2 4
68 amoand.w A 47 2 12
69 amoor.w A 47 2 8
70 amomin.w A 47 2 16
71 amomax.w A 47 2 20
72 amominu.w A 47 2 24
73 amomaxu.w A 47 2 28
74 lr.d A 47 3 2
75 sc.d A 47 3 3
76 amoswap.d A 47 3 1
77 amoadd.d A 47 3 0
78 amoxor.d A 47 3 4
79 amoand.d A 47 3 12
80 amoor.d A 47 3 8
81 amomin.d A 47 3 16
82 amomax.d A 47 3 20
83 amominu.d A 47 3 24
84 amomaxu.d A 47 3 28
85 fence I 15 0 -
86 fence.i I 15 1 -
87 csrrw C 115 1 -
88 csrrs C 115 2 -
89 csrrc C 115 3 -
90 csrrwi C 115 5 -
91 csrrsi C 115 6 -
92 csrrci C 115 7 -
93 ecall X 115 0 0
94 ebreak X 115 0 1
95 sret X 115 0 258
96 mret X 115 0 770
97 wfi X 115 0 261
98 sfence.vma R 115 0 9`

type opLine struct {
	op               int64
	name, form       string
	opcode, f3, more uint64
}

func opLines(t *testing.T) []opLine {
	t.Helper()
	number := func(text string) uint64 {
		if text == "-" {
			return 0
		}
		x, err := strconv.ParseUint(text, 10, 64)
		if err != nil {
			t.Fatal(err)
		}
		return x
	}
	var lines []opLine
	for _, text := range strings.Split(opTable, "\n") {
		w := strings.Split(text, " ")
		lines = append(lines, opLine{int64(number(w[0])), w[1], w[2], number(w[3]), number(w[4]), number(w[5])})
	}
	if len(lines) != 98 {
		t.Fatal(len(lines), "rows")
	}
	return lines
}

// has tells which of Rd, A, B the form of a row has, and that it may be other than 0.
func (l opLine) has() (bool, bool, bool) {
	rd := strings.Contains("RIHWUJAC", l.form) && l.op != 98
	a := strings.Contains("RIHWSBAC", l.form)
	b := strings.Contains("RSBA", l.form) && l.op != 63 && l.op != 74
	return rd, a, b
}

// imms are the least and the greatest Imm of a form, and how far two are apart.
func (l opLine) imms() (int64, int64, int64) {
	switch l.form {
	case "I", "S":
		return -2048, 2047, 1
	case "H":
		return 0, 63, 1
	case "W":
		return 0, 31, 1
	case "B":
		return -4096, 4094, 2
	case "U":
		return -2147483648, 2147479552, 4096
	case "J":
		return -1048576, 1048574, 2
	case "A":
		return 0, 3, 1
	case "C":
		return 0, 4095, 1
	}
	return 0, 0, 1
}

// someImms are the least and the greatest Imm, those near them and near 0, and
// for each bit those that have it alone and those that lack it alone.
func (l opLine) someImms() []int64 {
	least, greatest, apart := l.imms()
	var out []int64
	add := func(x int64) {
		if x >= least && x <= greatest && x%apart == 0 {
			out = append(out, x)
		}
	}
	for _, x := range []int64{least, least + apart, least / 2, -apart, 0, greatest / 3 / apart * apart, greatest - apart, greatest} {
		add(x)
	}
	for bit := int64(1); bit <= 1<<32; bit *= 2 {
		add(bit)
		add(-bit)
		add(greatest - bit)
		add(least + bit)
	}
	return out
}

// pick gives bit numbers of a word as one number, the first one named the highest.
func pick(word uint64, places ...uint64) uint64 {
	x := uint64(0)
	for _, p := range places {
		x = 2*x + word>>p%2
	}
	return x
}

// down counts bits from one down to another.
func down(from, to uint64) []uint64 {
	var out []uint64
	for k := from; k > to; k-- {
		out = append(out, k)
	}
	return append(out, to)
}

func joined(lists ...[]uint64) []uint64 {
	var out []uint64
	for _, l := range lists {
		out = append(out, l...)
	}
	return out
}

// immPlaces are the bits of a word that make up Imm, the highest first, and by how many noughts they are followed.
func (l opLine) immPlaces() ([]uint64, int64) {
	switch l.form {
	case "I", "C":
		return down(31, 20), 0
	case "H":
		return down(25, 20), 0
	case "W":
		return down(24, 20), 0
	case "S":
		return joined(down(31, 25), down(11, 7)), 0
	case "B":
		return joined(down(31, 31), down(7, 7), down(30, 25), down(11, 8)), 1
	case "U":
		return down(31, 12), 12
	case "J":
		return joined(down(31, 31), down(19, 12), down(20, 20), down(30, 21)), 1
	case "A":
		return down(26, 25), 0
	}
	return nil, 0
}

// matches is the document's column 'matched by'.
func (l opLine) matches(word uint64) bool {
	if pick(word, down(6, 0)...) != l.opcode {
		return false
	}
	if l.form == "U" || l.form == "J" {
		return true
	}
	if pick(word, down(14, 12)...) != l.f3 {
		return false
	}
	rd, rs1, rs2 := pick(word, down(11, 7)...), pick(word, down(19, 15)...), pick(word, down(24, 20)...)
	switch l.form {
	case "R", "W":
		return pick(word, down(31, 25)...) == l.more && (l.op != 98 || rd == 0)
	case "H":
		return pick(word, down(31, 26)...) == l.more
	case "A":
		return pick(word, down(31, 27)...) == l.more && (l.op != 63 && l.op != 74 || rs2 == 0)
	case "X":
		return pick(word, down(31, 20)...) == l.more && rd == 0 && rs1 == 0
	}
	return true
}

// read is what the document's table of forms says of a word that matches the row.
func (l opLine) read(word uint64) impl.Inst {
	i := impl.Inst{Op: l.op}
	rd, a, b := l.has()
	if rd {
		i.Rd = int64(pick(word, down(11, 7)...))
	}
	if a {
		i.A = int64(pick(word, down(19, 15)...))
	}
	if b {
		i.B = int64(pick(word, down(24, 20)...))
	}
	places, noughts := l.immPlaces()
	i.Imm = int64(pick(word, places...)) << noughts
	if _, greatest, _ := l.imms(); i.Imm > greatest {
		i.Imm -= 1 << (int64(len(places)) + noughts)
	}
	return i
}

// lay is the word of an Inst that the row has.
func (l opLine) lay(i impl.Inst) uint64 {
	at := map[string]int64{"R": 25, "W": 25, "H": 26, "A": 27, "X": 20}
	word := l.opcode + l.f3<<12 + l.more<<at[l.form]
	word += uint64(i.Rd)<<7 + uint64(i.A)<<15 + uint64(i.B)<<20
	places, noughts := l.immPlaces()
	for k, p := range places {
		word += uint64(i.Imm) >> (int64(len(places)-1-k) + noughts) % 2 << p
	}
	return word
}

// holds tells whether an Inst of the row's Op has a word.
func (l opLine) holds(i impl.Inst) bool {
	rd, a, b := l.has()
	fits := func(x int64, has bool) bool { return x == 0 || has && x > 0 && x < 32 }
	least, greatest, apart := l.imms()
	return fits(i.Rd, rd) && fits(i.A, a) && fits(i.B, b) && i.Imm >= least && i.Imm <= greatest && i.Imm%apart == 0
}

// wanted is what Decode must answer, and fails where two rows match.
func wanted(t *testing.T, lines []opLine, word uint64) (impl.Inst, bool) {
	t.Helper()
	var out impl.Inst
	found := false
	for _, l := range lines {
		if word < 1<<32 && l.matches(word) {
			if found {
				t.Fatalf("%#x is matched twice", word)
			}
			out, found = l.read(word), true
		}
	}
	return out, found
}

func wantDecode(t *testing.T, lines []opLine, word uint64) {
	t.Helper()
	got, ok := impl.Decode(word)
	if want, is := wanted(t, lines, word); got != want || ok != is {
		t.Fatalf("Decode of %#x: %v, %v; want %v, %v", word, got, ok, want, is)
	}
	if !ok {
		return
	}
	if back, ok := impl.Encode(got); back != word || !ok {
		t.Fatalf("Encode of %v, which is Decode of %#x: %#x, %v", got, word, back, ok)
	}
}

func wantNoDecode(t *testing.T, word uint64) {
	t.Helper()
	if got, ok := impl.Decode(word); got != (impl.Inst{}) || ok {
		t.Errorf("Decode of %#x: %v, %v; want the zero Inst, false", word, got, ok)
	}
}

func wantEncode(t *testing.T, i impl.Inst, word uint64) {
	t.Helper()
	if got, ok := impl.Encode(i); got != word || !ok {
		t.Fatalf("Encode of %v: %#x, %v; want %#x, true", i, got, ok, word)
	}
	if back, ok := impl.Decode(word); back != i || !ok {
		t.Fatalf("Decode of %#x, which is Encode of %v: %v, %v", word, i, back, ok)
	}
}

func wantNoEncode(t *testing.T, i impl.Inst) {
	t.Helper()
	if got, ok := impl.Encode(i); got != 0 || ok {
		t.Errorf("Encode of %v: %#x, %v; want 0, false", i, got, ok)
	}
}

// The words of some lines as any assembler for this machine writes them.
func TestWordsOfNamedLines(t *testing.T) {
	rows := []struct {
		word uint64
		i    impl.Inst
	}{
		{0x00000013, impl.Inst{Op: 22}},                               // nop
		{0x00008067, impl.Inst{Op: 4, A: 1}},                          // ret
		{0xffd10093, impl.Inst{Op: 22, Rd: 1, A: 2, Imm: -3}},         // addi ra, sp, -3
		{0x800000b7, impl.Inst{Op: 1, Rd: 1, Imm: -2147483648}},       // lui ra, 0x80000
		{0x7fffffb7, impl.Inst{Op: 1, Rd: 31, Imm: 0x7ffff000}},       // lui t6, 0x7ffff
		{0x00001517, impl.Inst{Op: 2, Rd: 10, Imm: 4096}},             // auipc a0, 1
		{0x0000006f, impl.Inst{Op: 3}},                                // j .
		{0xffdff06f, impl.Inst{Op: 3, Imm: -4}},                       // j . - 4
		{0x00000463, impl.Inst{Op: 5, Imm: 8}},                        // beqz zero, . + 8
		{0xfe209ee3, impl.Inst{Op: 6, A: 1, B: 2, Imm: -4}},           // bne ra, sp, . - 4
		{0x00813083, impl.Inst{Op: 14, Rd: 1, A: 2, Imm: 8}},          // ld ra, 8(sp)
		{0xfe113c23, impl.Inst{Op: 21, A: 2, B: 1, Imm: -8}},          // sd ra, -8(sp)
		{0x03f5d593, impl.Inst{Op: 29, Rd: 11, A: 11, Imm: 63}},       // srli a1, a1, 63
		{0x43f5d593, impl.Inst{Op: 30, Rd: 11, A: 11, Imm: 63}},       // srai a1, a1, 63
		{0x41f5d59b, impl.Inst{Op: 34, Rd: 11, A: 11, Imm: 31}},       // sraiw a1, a1, 31
		{0x40c58533, impl.Inst{Op: 36, Rd: 10, A: 11, B: 12}},         // sub a0, a1, a2
		{0x02c5f53b, impl.Inst{Op: 62, Rd: 10, A: 11, B: 12}},         // remuw a0, a1, a2
		{0x1005a52f, impl.Inst{Op: 63, Rd: 10, A: 11}},                // lr.w a0, (a1)
		{0x18c5b52f, impl.Inst{Op: 75, Rd: 10, A: 11, B: 12}},         // sc.d a0, a2, (a1)
		{0x06c5a52f, impl.Inst{Op: 66, Rd: 10, A: 11, B: 12, Imm: 3}}, // amoadd.w.aqrl a0, a2, (a1)
		{0x04c5a52f, impl.Inst{Op: 66, Rd: 10, A: 11, B: 12, Imm: 2}}, // amoadd.w.aq a0, a2, (a1)
		{0x0ff0000f, impl.Inst{Op: 85, Imm: 255}},                     // fence
		{0x0000100f, impl.Inst{Op: 86}},                               // fence.i
		{0x34202573, impl.Inst{Op: 88, Rd: 10, Imm: 834}},             // csrr a0, mcause
		{0xf1402573, impl.Inst{Op: 88, Rd: 10, Imm: 3860}},            // csrr a0, mhartid
		{0x3004f073, impl.Inst{Op: 92, A: 9, Imm: 768}},               // csrci mstatus, 9
		{0x00000073, impl.Inst{Op: 93}},                               // ecall
		{0x00100073, impl.Inst{Op: 94}},                               // ebreak
		{0x10200073, impl.Inst{Op: 95}},                               // sret
		{0x30200073, impl.Inst{Op: 96}},                               // mret
		{0x10500073, impl.Inst{Op: 97}},                               // wfi
		{0x12000073, impl.Inst{Op: 98}},                               // sfence.vma
		{0x12b50073, impl.Inst{Op: 98, A: 10, B: 11}},                 // sfence.vma a0, a1
	}
	for _, r := range rows {
		wantEncode(t, r.i, r.word)
	}
}

func TestNamesAndForms(t *testing.T) {
	for _, l := range opLines(t) {
		if got := impl.Name(l.op); got != l.name {
			t.Errorf("Name of %d: %q, want %q", l.op, got, l.name)
		}
		if got := impl.OpOf(l.name); got != l.op {
			t.Errorf("OpOf of %q: %d, want %d", l.name, got, l.op)
		}
		if got := impl.Form(l.op); got != l.form {
			t.Errorf("Form of %d: %q, want %q", l.op, got, l.form)
		}
	}
}

// noOps are numbers that the table does not have.
var noOps = []int64{
	0, 99, 100, 127, 128, 255, 256, 256 + 22, 1<<32 + 22, 1<<62 + 22, math.MaxInt64,
	-1, -2, -22, -97, -98, -99, -256 + 22, -1<<32 + 22, math.MinInt64 + 22, math.MinInt64,
}

func TestNoSuchOp(t *testing.T) {
	for _, op := range noOps {
		if got := impl.Name(op); got != "" {
			t.Errorf("Name of %d: %q", op, got)
		}
		if got := impl.Form(op); got != "" {
			t.Errorf("Form of %d: %q", op, got)
		}
		for _, i := range []impl.Inst{{Op: op}, {Op: op, Rd: 1, A: 2, B: 3}, {Op: op, Rd: 1, Imm: 4096}} {
			wantNoEncode(t, i)
		}
	}
}

func TestNoSuchName(t *testing.T) {
	names := []string{
		"", " ", "\n", "\x00", "x", "nop", "addi.", "lr", "lr.", ".w", "lr.w.", "lr.q", "amoadd", "fence.", "fence.j", "sfence", "sfence.vm", "sfence.vma ",
		"U", "R", "1", "22", "0", "-", "ä", "\xff", "\xff\xfe", "a\u0000dd", "add\x00", "ａｄｄ", strings.Repeat("add", 1000),
	}
	for _, l := range opLines(t) {
		high := strings.ToUpper(l.name)
		names = append(names, high, high[:1]+l.name[1:], l.name[:len(l.name)-1]+high[len(high)-1:],
			" "+l.name, l.name+" ", l.name+"\n", l.name+"x", l.name+"\x00", strings.ReplaceAll(l.name, ".", "_")+"_")
	}
	for _, name := range names {
		if got := impl.OpOf(name); got != 0 {
			t.Errorf("OpOf of %q: %d, want 0", name, got)
		}
	}
	// A name with its last byte gone may be another one's.
	for _, l := range opLines(t) {
		cut := l.name[:len(l.name)-1]
		if got := impl.OpOf(cut); impl.Name(got) != "" && impl.Name(got) != cut {
			t.Errorf("OpOf of %q: %d", cut, got)
		}
	}
}

// Promise 2, row by row: every register field and every Imm at its edges and between.
func TestEncodeAndDecodeOfEachRow(t *testing.T) {
	some := []int64{0, 1, 10, 16, 31}
	of := func(has bool) []int64 {
		if has {
			return some
		}
		return []int64{0}
	}
	for _, l := range opLines(t) {
		hasRd, hasA, hasB := l.has()
		for _, imm := range l.someImms() {
			for _, rd := range of(hasRd) {
				for _, a := range of(hasA) {
					for _, b := range of(hasB) {
						i := impl.Inst{Op: l.op, Rd: rd, A: a, B: b, Imm: imm}
						wantEncode(t, i, l.lay(i))
					}
				}
			}
		}
	}
}

func TestEveryRegister(t *testing.T) {
	for _, l := range opLines(t) {
		rd, a, b := l.has()
		_, imm, _ := l.imms()
		for r := int64(0); r < 32; r++ {
			for _, i := range []impl.Inst{{Rd: r}, {A: r}, {B: r}, {Rd: r, A: 31 - r, B: r}} {
				i.Op, i.Imm = l.op, imm
				if i.Rd == 0 || rd {
					if (i.A == 0 || a) && (i.B == 0 || b) {
						wantEncode(t, i, l.lay(i))
						continue
					}
				}
				wantNoEncode(t, i)
			}
		}
	}
}

func TestEveryImm(t *testing.T) {
	done := ""
	for _, l := range opLines(t) {
		if strings.Contains(done, l.form) {
			continue
		}
		done += l.form
		least, greatest, apart := l.imms()
		// Of the forms with 20 bits only some, an odd number apart, so that every bit changes.
		if (greatest-least)/apart > 5000 {
			apart *= 97
		}
		rd, a, b := l.has()
		i := impl.Inst{Op: l.op}
		for imm := least; imm <= greatest; imm += apart {
			i.Imm = imm
			wantEncode(t, i, l.lay(i))
		}
		if rd {
			i.Rd = 21
		}
		if a {
			i.A = 10
		}
		if b {
			i.B = 5
		}
		for imm := greatest; imm >= least; imm -= apart {
			i.Imm = imm
			wantEncode(t, i, l.lay(i))
		}
	}
	if len(done) != 11 {
		t.Error("forms:", done)
	}
}

func TestImmBeyond(t *testing.T) {
	for _, l := range opLines(t) {
		least, greatest, apart := l.imms()
		i := impl.Inst{Op: l.op, Imm: least}
		wantEncode(t, i, l.lay(i))
		i.Imm = greatest
		wantEncode(t, i, l.lay(i))
		span := greatest - least + apart
		for _, imm := range []int64{
			least - 1, least - apart, greatest + 1, greatest + apart, least - span, greatest + span, span, -span,
			1 << 31, 1 << 32, 1<<32 + greatest, 1<<32 + least, 1 << 62, -1 << 62,
			math.MinInt64, math.MinInt64 + greatest, math.MaxInt64, math.MaxInt64 - greatest,
		} {
			if imm >= least && imm <= greatest && imm%apart == 0 {
				continue
			}
			wantNoEncode(t, impl.Inst{Op: l.op, Imm: imm})
		}
	}
}

func TestImmWithLowBits(t *testing.T) {
	for _, l := range opLines(t) {
		_, _, apart := l.imms()
		for low := int64(1); low < apart; low *= 2 {
			for _, imm := range l.someImms() {
				wantNoEncode(t, impl.Inst{Op: l.op, Imm: imm + low})
				wantNoEncode(t, impl.Inst{Op: l.op, Imm: imm + apart - low})
			}
		}
	}
}

// What is read of a word with all bits of Imm, with the highest alone, and with all others.
func TestImmIsWidened(t *testing.T) {
	highest := map[string]int64{"I": -2048, "S": -2048, "B": -4096, "U": -2147483648, "J": -1048576, "H": 32, "W": 16, "A": 2, "C": 2048}
	all := map[string]int64{"I": -1, "S": -1, "B": -2, "U": -4096, "J": -2, "H": 63, "W": 31, "A": 3, "C": 4095}
	others := map[string]int64{"I": 2047, "S": 2047, "B": 4094, "U": 2147479552, "J": 1048574, "H": 31, "W": 15, "A": 1, "C": 2047}
	for _, l := range opLines(t) {
		places, _ := l.immPlaces()
		if len(places) == 0 {
			continue
		}
		bare := l.lay(impl.Inst{Op: l.op})
		full := bare
		for _, p := range places {
			full |= 1 << p
		}
		top := uint64(1) << places[0]
		for word, want := range map[uint64]int64{bare: 0, bare | top: highest[l.form], full: all[l.form], full &^ top: others[l.form]} {
			if got, ok := impl.Decode(word); got != (impl.Inst{Op: l.op, Imm: want}) || !ok {
				t.Errorf("Decode of %#x: %v, %v; want %s with Imm %d", word, got, ok, l.name, want)
			}
		}
	}
}

// What the column 'matched by' asks besides opcode and f3, at the words themselves.
func TestMatchedBy(t *testing.T) {
	lines := opLines(t)
	for _, word := range []uint64{0x12000073, 0x12b50073, 0x13ff8073} {
		for rd := range uint64(32) {
			wantDecode(t, lines, word|rd<<7)
			if rd > 0 {
				wantNoDecode(t, word|rd<<7) // sfence.vma
			}
		}
	}
	for _, word := range []uint64{0x1000202f, 0x1000302f, 0x16ffafaf, 0x16ffbfaf} {
		bare := word &^ 0x01f00000
		for rs2 := range uint64(32) {
			wantDecode(t, lines, bare|rs2<<20)
			if rs2 > 0 {
				wantNoDecode(t, bare|rs2<<20) // lr.w and lr.d
			}
		}
	}
	for _, l := range lines {
		if l.form != "X" {
			continue
		}
		word := l.lay(impl.Inst{Op: l.op})
		for rest := uint64(1); rest < 1<<10; rest++ {
			wantNoDecode(t, word|rest%32<<7|rest/32<<15)
		}
		for _, i := range []impl.Inst{{Rd: 1}, {A: 1}, {B: 1}, {Imm: 1}, {Imm: int64(l.more)}, {Imm: -1}, {Rd: 31}, {A: 31}, {B: 31}} {
			if i.Op = l.op; i != (impl.Inst{Op: l.op}) {
				wantNoEncode(t, i)
			}
		}
	}
}

func TestEveryMore(t *testing.T) {
	lines := opLines(t)
	for _, l := range lines {
		at := map[string]uint64{"R": 25, "W": 25, "H": 26, "A": 27, "X": 20}[l.form]
		if at == 0 {
			continue
		}
		bare := l.lay(impl.Inst{Op: l.op}) - l.more<<at
		taken := 0
		for more := range uint64(1) << (32 - at) {
			word := bare | more<<at
			wantDecode(t, lines, word)
			if i, ok := impl.Decode(word); ok && i.Op == l.op {
				taken++
			}
		}
		if taken != 1 {
			t.Errorf("%s is matched by %d values of more", l.name, taken)
		}
	}
}

// Every opcode, f3 and f7, with noughts and with ones in the other fields.
func TestEveryWordOfTheFixedFields(t *testing.T) {
	lines := opLines(t)
	for opcode := range uint64(128) {
		if !knownOpcode(lines, opcode) {
			for rest := range uint64(1 << 10) { // each bit above the opcode changes
				wantNoDecode(t, opcode|rest<<7|(1023-rest)<<17|rest%32<<27)
			}
			continue
		}
		for f3 := range uint64(8) {
			for f7 := range uint64(128) {
				word := opcode | f3<<12 | f7<<25
				for _, rest := range []uint64{0, 0x01ff8f80, 0x00000080, 0x00008000, 0x00100000} {
					wantDecode(t, lines, word|rest)
				}
			}
		}
	}
}

func knownOpcode(lines []opLine, opcode uint64) bool {
	for _, l := range lines {
		if l.opcode == opcode {
			return true
		}
	}
	return false
}

func TestWordsThatMatchNoRow(t *testing.T) {
	words := []uint64{
		0, 1, 2, 3 + 7<<12, 0x7f, 0xffffffff, 0x80000000, 0x00000001, 0x4501, 0x8082,
		0x00002063, 0x00003063, // a branch with f3 2, 3
		0x00004023, 0x00007023, // a store with f3 4, 7
		0x00001067, 0x00007067, // jalr with f3 1, 7
		0x00007003,             // a load with f3 7
		0x0000201b,             // of 32 bits: f3 2
		0x02001013, 0x80005013, // shifts: the first one is right, the other's 'more' is 32
		0x0200101b,             // slliw by 32
		0x40001033, 0x40007033, // sll, and with 32
		0x0200103b, 0x0200203b, // mulw's neighbours
		0x2000202f, 0x2800202f, // 'more' 4 and 5: the first one is right
		0x0000002f, 0x0000102f, 0x0000402f, // amo with f3 0, 1, 4
		0x0000200f, // fence with f3 2
		0x00004073, // csr with f3 4
		0x00200073, 0x10100073, 0x30000073, 0x7b200073, 0x10400073,
	}
	right := map[uint64]bool{0x02001013: true, 0x2000202f: true}
	lines := opLines(t)
	for _, word := range words {
		wantDecode(t, lines, word)
		if !right[word] {
			wantNoDecode(t, word)
		}
	}
}

func TestWordsOf33BitsAndMore(t *testing.T) {
	for _, l := range opLines(t) {
		word := l.lay(impl.Inst{Op: l.op})
		for bit := 32; bit < 64; bit++ {
			wantNoDecode(t, word|1<<bit)
			wantNoDecode(t, word|math.MaxUint64<<bit)
		}
	}
	for _, word := range []uint64{1 << 32, 1<<32 + 1, 1<<32 + 0x13, 1<<63 + 0x13, math.MaxUint64, math.MaxUint64 - 0x6c, 1 << 63} {
		wantNoDecode(t, word)
	}
	lines := opLines(t)
	wantDecode(t, lines, 1<<32-1)
	wantDecode(t, lines, 1<<32-1-0x10) // jal with every other bit
	if _, ok := impl.Decode(1<<32 - 1 - 0x10); !ok {
		t.Error("the greatest word of jal")
	}
}

func TestRegistersOutOfRange(t *testing.T) {
	for _, l := range opLines(t) {
		for _, r := range []int64{-1, -32, -31, 32, 33, 63, 64, 1 << 32, 1<<32 + 1, 1 << 59, math.MaxInt64, math.MinInt64, math.MinInt64 + 1} {
			wantNoEncode(t, impl.Inst{Op: l.op, Rd: r})
			wantNoEncode(t, impl.Inst{Op: l.op, A: r})
			wantNoEncode(t, impl.Inst{Op: l.op, B: r})
			wantNoEncode(t, impl.Inst{Op: l.op, Rd: r, A: r, B: r})
		}
	}
}

func TestFieldsThatTheFormLacks(t *testing.T) {
	for _, l := range opLines(t) {
		rd, a, b := l.has()
		for _, x := range []int64{1, 2, 31} {
			if !rd {
				wantNoEncode(t, impl.Inst{Op: l.op, Rd: x})
			}
			if !a {
				wantNoEncode(t, impl.Inst{Op: l.op, A: x})
			}
			if !b {
				wantNoEncode(t, impl.Inst{Op: l.op, B: x})
			}
			if l.form == "R" || l.form == "X" {
				wantNoEncode(t, impl.Inst{Op: l.op, Imm: x})
				wantNoEncode(t, impl.Inst{Op: l.op, Imm: -x})
				wantNoEncode(t, impl.Inst{Op: l.op, Imm: x << 32})
			}
		}
	}
}

// Promise 2 at words and Insts that no one chose.
func TestManyWordsAndInsts(t *testing.T) {
	lines := opLines(t)
	x := uint64(88172645463325252)
	next := func() uint64 {
		x = x*6364136223846793005 + 1442695040888963407
		return x >> 32
	}
	right := 0
	for range 60000 {
		word := next()
		if next()%2 == 0 { // else hardly any word is one
			word = word&^0x7f | lines[next()%98].opcode
		}
		wantDecode(t, lines, word)
		l := lines[next()%98]
		least, greatest, _ := l.imms()
		i := impl.Inst{Op: l.op, Rd: int64(next()%35) - 1, A: int64(next()%35) - 1, B: int64(next()%35) - 1}
		if next()%2 == 0 {
			i.Imm = least + int64(next())%(greatest-least+3) - 1
		}
		rd, a, b := l.has()
		if !rd && next()%8 > 0 {
			i.Rd = 0
		}
		if !a && next()%8 > 0 {
			i.A = 0
		}
		if !b && next()%8 > 0 {
			i.B = 0
		}
		if l.holds(i) {
			right++
			wantEncode(t, i, l.lay(i))
		} else {
			wantNoEncode(t, i)
		}
	}
	if right < 10000 {
		t.Error("only", right, "Insts are right")
	}
}

// Promise 15: an answer, whatever the argument.
func TestInstructionsAnswerAtEveryArgument(t *testing.T) {
	numbers := []int64{0, 1, -1, 31, 32, 63, 98, 99, 1 << 31, -1 << 31, 1<<32 - 1, math.MaxInt64, math.MinInt64}
	for _, op := range append([]int64{1, 3, 5, 18, 22, 28, 32, 35, 63, 87, 93}, noOps...) {
		for _, r := range numbers {
			for _, imm := range numbers {
				i := impl.Inst{Op: op, Rd: r, A: r, B: r, Imm: imm}
				word, ok := impl.Encode(i)
				if back, is := impl.Decode(word); ok && (!is || back != i) || !ok && word != 0 {
					t.Errorf("Encode of %v: %#x, %v", i, word, ok)
				}
			}
		}
	}
}
