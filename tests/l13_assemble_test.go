package tests

import (
	"bytes"
	"fmt"
	"math"
	"regexp"
	"slices"
	"strconv"
	"strings"
	"testing"

	"loop.example/g00134/impl"
)

// shownParts has, by form, what stands behind a name: d, a and b are Rd, A and B, i is Imm.
var shownParts = map[string]string{
	"R": "dab", "I": "dai", "H": "dai", "W": "dai", "C": "dai", "S": "abi", "B": "abi", "U": "di", "J": "di", "A": "dabi", "X": "",
}

// shown is the text of an Inst of the row's Op, whether it has a word or not.
func (l opLine) shown(i impl.Inst) string {
	text := l.name
	for _, part := range shownParts[l.form] {
		switch part {
		case 'd':
			text += fmt.Sprintf(" x%d", i.Rd)
		case 'a':
			text += fmt.Sprintf(" x%d", i.A)
		case 'b':
			text += fmt.Sprintf(" x%d", i.B)
		case 'i':
			text += fmt.Sprintf(" %d", i.Imm)
		}
	}
	return text
}

var (
	registerForm = regexp.MustCompile(`\Ax(0|[1-9][0-9]?)\z`)
	numberForm   = regexp.MustCompile(`\A(0|-?[1-9][0-9]{0,17})\z`)
)

// setPart gives an Inst the number of one word of a line; false where the word is none.
func setPart(i *impl.Inst, part rune, word string) bool {
	form := registerForm
	if part == 'i' {
		form = numberForm
	}
	m := form.FindStringSubmatch(word)
	if m == nil {
		return false
	}
	x, err := strconv.ParseInt(m[1], 10, 64)
	*map[rune]*int64{'d': &i.Rd, 'a': &i.A, 'b': &i.B, 'i': &i.Imm}[part] = x
	return err == nil
}

// parsedOf is a second reading of Parse: a line is words with one blank between each two.
func parsedOf(ops []opLine, text string) (impl.Inst, bool) {
	words := strings.Split(text, " ")
	for _, l := range ops {
		parts := shownParts[l.form]
		if l.name != words[0] || len(words) != len(parts)+1 {
			continue
		}
		i := impl.Inst{Op: l.op}
		for k, part := range parts {
			if !setPart(&i, part, words[k+1]) {
				return impl.Inst{}, false
			}
		}
		if !l.holds(i) {
			return impl.Inst{}, false
		}
		return i, true
	}
	return impl.Inst{}, false
}

// assembledOf is a second reading of Assemble, byte by byte.
func assembledOf(ops []opLine, text string) ([]uint64, int64) {
	if len(text) > 20000 {
		return nil, 0
	}
	var words []uint64
	line, number := []byte{}, int64(0)
	for _, b := range []byte(text) {
		if b != 10 {
			line = append(line, b)
			continue
		}
		if len(line) > 0 && line[0] != '#' {
			i, ok := parsedOf(ops, string(line))
			if !ok {
				return nil, number
			}
			words = append(words, ops[i.Op-1].lay(i))
		}
		line = line[:0]
		number++
	}
	if len(line) > 0 {
		return nil, number
	}
	return words, -1
}

func wantShow(t *testing.T, i impl.Inst, want string) {
	t.Helper()
	if got := impl.Show(i); got != want {
		t.Fatalf("Show of %v: %q, want %q", i, got, want)
	}
}

func wantParse(t *testing.T, text string, want impl.Inst) {
	t.Helper()
	if got, ok := impl.Parse(text); got != want || !ok {
		t.Fatalf("Parse of %q: %v, %v; want %v, true", text, got, ok, want)
	}
	wantShow(t, want, text)
}

// wantNoParse holds of a line that is not passed over, too: alone it is the first that does not Parse.
func wantNoParse(t *testing.T, text string) {
	t.Helper()
	if got, ok := impl.Parse(text); got != (impl.Inst{}) || ok {
		t.Fatalf("Parse of %q: %v, %v; want the zero Inst and false", text, got, ok)
	}
}

// wantRead holds Parse against the second reading, and tells whether the text is one.
func wantRead(t *testing.T, ops []opLine, text string) bool {
	t.Helper()
	want, is := parsedOf(ops, text)
	if is {
		wantParse(t, text, want)
	} else {
		wantNoParse(t, text)
	}
	return is
}

func wantWords(t *testing.T, text string, want ...uint64) {
	t.Helper()
	if got, bad := impl.Assemble(text); bad != -1 || !slices.Equal(got, want) {
		t.Fatalf("Assemble of %.200q: %#x, %d; want %#x, -1", text, got, bad, want)
	}
}

func wantBadLine(t *testing.T, text string, want int64) {
	t.Helper()
	if got, bad := impl.Assemble(text); bad != want || len(got) != 0 {
		t.Fatalf("Assemble of %.200q: %#x, %d; want nothing and %d", text, got, bad, want)
	}
}

// wantImage is an image by other means: memory is filled byte by byte.
func wantImage(t *testing.T, words []uint64, size int64) {
	t.Helper()
	want := make([]byte, size)
	for k, word := range words {
		want = stored(want, 4*k, 4, word)
	}
	if got, ok := impl.Image(words, size); !ok || !bytes.Equal(got, want) || !impl.RamOk(got) {
		t.Fatalf("Image of %d words in %d bytes: %d bytes, %v", len(words), size, len(got), ok)
	}
}

func wantNoImage(t *testing.T, words []uint64, size int64) {
	t.Helper()
	if got, ok := impl.Image(words, size); len(got) != 0 || ok {
		t.Fatalf("Image of %d words in %d bytes: %d bytes, %v; want nothing and false", len(words), size, len(got), ok)
	}
}

// numbersOfWords is a list of n words of which no two are alike.
func numbersOfWords(n int) []uint64 {
	words := make([]uint64, n)
	for k := range words {
		words[k] = uint64(k)*2654435761%(1<<32) | 1
	}
	return words
}

// Each form as a reader of the document would write it.
var formTexts = map[string]impl.Inst{
	"lui x31 -2147483648":     {Op: 1, Rd: 31, Imm: -2147483648},
	"auipc x0 2147479552":     {Op: 2, Imm: 2147479552},
	"jal x1 -1048576":         {Op: 3, Rd: 1, Imm: -1048576},
	"jalr x0 x1 0":            {Op: 4, A: 1},
	"beq x3 x4 4094":          {Op: 5, A: 3, B: 4, Imm: 4094},
	"bgeu x31 x0 -4096":       {Op: 10, A: 31, Imm: -4096},
	"lwu x10 x2 -1":           {Op: 17, Rd: 10, A: 2, Imm: -1},
	"sb x2 x9 2047":           {Op: 18, A: 2, B: 9, Imm: 2047},
	"sd x2 x1 -8":             {Op: 21, A: 2, B: 1, Imm: -8},
	"addi x1 x2 -3":           {Op: 22, Rd: 1, A: 2, Imm: -3},
	"addi x0 x0 0":            {Op: 22},
	"slli x5 x6 63":           {Op: 28, Rd: 5, A: 6, Imm: 63},
	"srai x5 x6 10":           {Op: 30, Rd: 5, A: 6, Imm: 10},
	"sraiw x30 x29 31":        {Op: 34, Rd: 30, A: 29, Imm: 31},
	"add x1 x2 x3":            {Op: 35, Rd: 1, A: 2, B: 3},
	"remuw x10 x20 x30":       {Op: 62, Rd: 10, A: 20, B: 30},
	"lr.w x7 x8 x0 2":         {Op: 63, Rd: 7, A: 8, Imm: 2},
	"lr.d x7 x8 x0 0":         {Op: 74, Rd: 7, A: 8},
	"sc.d x7 x8 x9 1":         {Op: 75, Rd: 7, A: 8, B: 9, Imm: 1},
	"amomaxu.w x31 x31 x31 3": {Op: 73, Rd: 31, A: 31, B: 31, Imm: 3},
	"fence x0 x0 255":         {Op: 85, Imm: 255},
	"fence.i x0 x0 0":         {Op: 86},
	"csrrw x1 x2 768":         {Op: 87, Rd: 1, A: 2, Imm: 768},
	"csrrci x0 x31 4095":      {Op: 92, A: 31, Imm: 4095},
	"ecall":                   {Op: 93},
	"ebreak":                  {Op: 94},
	"sret":                    {Op: 95},
	"mret":                    {Op: 96},
	"wfi":                     {Op: 97},
	"sfence.vma x0 x11 x12":   {Op: 98, A: 11, B: 12},
	"sfence.vma x0 x0 x0":     {Op: 98},
	"amoswap.d x19 x20 x21 0": {Op: 76, Rd: 19, A: 20, B: 21},
	"mulhsu x9 x10 x11":       {Op: 52, Rd: 9, A: 10, B: 11},
	"slliw x1 x1 0":           {Op: 32, Rd: 1, A: 1},
	"csrrs x13 x0 3860":       {Op: 88, Rd: 13, Imm: 3860},
	"ld x3 x4 -2048":          {Op: 14, Rd: 3, A: 4, Imm: -2048},
	"jal x0 1048574":          {Op: 3, Imm: 1048574},
	"lui x20 4096":            {Op: 1, Rd: 20, Imm: 4096},
	"lui x20 -4096":           {Op: 1, Rd: 20, Imm: -4096},
	"bne x1 x0 -2":            {Op: 6, A: 1, Imm: -2},
	"sltiu x1 x1 1":           {Op: 24, Rd: 1, A: 1, Imm: 1},
	"amominu.d x0 x0 x0 0":    {Op: 83},
	"sw x31 x30 -2048":        {Op: 20, A: 31, B: 30, Imm: -2048},
	"subw x0 x0 x0":           {Op: 46},
	"csrrwi x5 x9 3072":       {Op: 90, Rd: 5, A: 9, Imm: 3072},
	"addiw x15 x16 -17":       {Op: 31, Rd: 15, A: 16, Imm: -17},
	"divuw x12 x22 x2":        {Op: 60, Rd: 12, A: 22, B: 2},
	"srliw x3 x13 23":         {Op: 33, Rd: 3, A: 13, Imm: 23},
	"fence x31 x31 -1":        {Op: 85, Rd: 31, A: 31, Imm: -1},
	"auipc x10 -1073741824":   {Op: 2, Rd: 10, Imm: -1073741824},
	"amoadd.w x1 x2 x0 2":     {Op: 66, Rd: 1, A: 2, Imm: 2},
	"sc.w x0 x10 x5 0":        {Op: 64, A: 10, B: 5},
	"sh x0 x0 100":            {Op: 19, Imm: 100},
	"bltu x19 x29 1000":       {Op: 9, A: 19, B: 29, Imm: 1000},
	"srl x29 x19 x9":          {Op: 41, Rd: 29, A: 19, B: 9},
	"csrrsi x28 x27 26":       {Op: 91, Rd: 28, A: 27, Imm: 26},
	"srli x23 x24 9":          {Op: 29, Rd: 23, A: 24, Imm: 9},
	"jalr x17 x18 -10":        {Op: 4, Rd: 17, A: 18, Imm: -10},
	"amoxor.d x25 x26 x27 1":  {Op: 78, Rd: 25, A: 26, B: 27, Imm: 1},
	"lbu x11 x14 7":           {Op: 15, Rd: 11, A: 14, Imm: 7},
	"csrrc x4 x5 6":           {Op: 89, Rd: 4, A: 5, Imm: 6},
	"and x6 x7 x8":            {Op: 44, Rd: 6, A: 7, B: 8},
	"amoor.w x3 x1 x2 3":      {Op: 69, Rd: 3, A: 1, B: 2, Imm: 3},
	"blt x2 x1 0":             {Op: 7, A: 2, B: 1},
	"andi x21 x12 99":         {Op: 27, Rd: 21, A: 12, Imm: 99},
	"jal x30 2":               {Op: 3, Rd: 30, Imm: 2},
	"lh x16 x15 1009":         {Op: 12, Rd: 16, A: 15, Imm: 1009},
	"sub x18 x17 x16":         {Op: 36, Rd: 18, A: 17, B: 16},
	"amoand.d x14 x13 x12 2":  {Op: 79, Rd: 14, A: 13, B: 12, Imm: 2},
	"sltu x8 x6 x4":           {Op: 39, Rd: 8, A: 6, B: 4},
	"mulw x24 x25 x26":        {Op: 58, Rd: 24, A: 25, B: 26},
	"amomin.w x22 x21 x20 1":  {Op: 70, Rd: 22, A: 21, B: 20, Imm: 1},
	"amomax.d x31 x0 x31 0":   {Op: 82, Rd: 31, B: 31},
	"ori x0 x31 -1024":        {Op: 26, A: 31, Imm: -1024},
	"sfence.vma x0 x31 x0":    {Op: 98, A: 31},
	"lr.d x31 x31 x0 3":       {Op: 74, Rd: 31, A: 31, Imm: 3},
	"auipc x0 0":              {Op: 2},
	"sraw x10 x11 x1":         {Op: 49, Rd: 10, A: 11, B: 1},
	"slt x1 x10 x11":          {Op: 38, Rd: 1, A: 10, B: 11},
	"xori x11 x1 -2047":       {Op: 25, Rd: 11, A: 1, Imm: -2047},
	"bge x11 x10 4092":        {Op: 8, A: 11, B: 10, Imm: 4092},
	"csrrw x0 x0 0":           {Op: 87},
	"amominu.w x9 x19 x29 3":  {Op: 72, Rd: 9, A: 19, B: 29, Imm: 3},
	"lui x9 1048576":          {Op: 1, Rd: 9, Imm: 1048576},
	"amomaxu.d x2 x3 x5 0":    {Op: 84, Rd: 2, A: 3, B: 5},
	"sll x20 x30 x10":         {Op: 37, Rd: 20, A: 30, B: 10},
}

// Each form in ordinary lines, both ways.
func TestShowAndParseOfEachForm(t *testing.T) {
	forms := map[string]int{}
	for text, i := range formTexts {
		wantShow(t, i, text)
		wantParse(t, text, i)
		forms[impl.Form(i.Op)]++
	}
	if len(forms) != 11 {
		t.Error("forms:", forms)
	}
}

// wantBothWays is promise 13 for one Inst: Parse of Show, and the word of its line.
func wantBothWays(t *testing.T, l opLine, i impl.Inst) {
	t.Helper()
	text := l.shown(i)
	wantShow(t, i, text)
	wantParse(t, text, i)
	wantWords(t, text+"\n", l.lay(i))
}

// Promise 13, row by row: every register field and every Imm at its edges and between.
func TestShowAndParseOfEachRow(t *testing.T) {
	some := []int64{0, 1, 9, 10, 31}
	of := func(has bool) []int64 {
		if has {
			return some
		}
		return []int64{0}
	}
	for _, l := range opLines(t) {
		rds, as, bs := l.has()
		for k, imm := range l.someImms() {
			for n, rd := range of(rds) {
				for _, a := range of(as) {
					for _, b := range of(bs) {
						if k%3 == n%3 {
							wantBothWays(t, l, impl.Inst{Op: l.op, Rd: rd, A: a, B: b, Imm: imm})
						}
					}
				}
			}
		}
	}
}

func TestShowAndParseOfEveryRegister(t *testing.T) {
	for _, l := range opLines(t) {
		_, greatest, _ := l.imms()
		for r := range int64(32) {
			for _, i := range []impl.Inst{{Rd: r}, {A: r}, {B: r}, {Rd: r, A: 31 - r, B: r}} {
				i.Op, i.Imm = l.op, greatest
				if l.holds(i) {
					wantBothWays(t, l, i)
				} else {
					wantShow(t, i, "")
					wantNoParse(t, l.shownWith(i))
				}
			}
		}
	}
}

// shownWith is the text of an Inst that has no word; where only a field that the form does not show is wrong, a text that is wrong in another way.
func (l opLine) shownWith(i impl.Inst) string {
	text := l.shown(i)
	for _, name := range []struct {
		part string
		x    int64
	}{{"d", i.Rd}, {"a", i.A}, {"b", i.B}} {
		if !strings.Contains(shownParts[l.form], name.part) && name.x != 0 {
			text += fmt.Sprintf(" x%d", name.x)
		}
	}
	if !strings.Contains(shownParts[l.form], "i") && i.Imm != 0 {
		text += fmt.Sprintf(" %d", i.Imm)
	}
	return text
}

func TestShowAndParseOfEveryImm(t *testing.T) {
	done := ""
	for _, l := range opLines(t) {
		if strings.Contains(done, l.form) {
			continue
		}
		done += l.form
		least, greatest, apart := l.imms()
		if (greatest-least)/apart > 5000 {
			apart *= 97
		}
		for imm := least; imm <= greatest; imm += apart {
			i := impl.Inst{Op: l.op, Imm: imm}
			wantShow(t, i, l.shown(i))
			wantParse(t, l.shown(i), i)
		}
		for imm := greatest; imm >= least; imm -= apart {
			i := impl.Inst{Op: l.op, Imm: imm}
			wantParse(t, l.shown(i), i)
		}
	}
	if len(done) != 11 {
		t.Error("forms:", done)
	}
}

// Where there is no word there is no text: Ops that are none.
func TestShowOfNoOp(t *testing.T) {
	for _, op := range noOps {
		for _, i := range []impl.Inst{{}, {Rd: 1}, {A: 1}, {B: 1}, {Imm: 1}, {Rd: 1, A: 2, B: 3, Imm: 4}} {
			i.Op = op
			wantShow(t, i, "")
		}
	}
	wantShow(t, impl.Inst{}, "")
}

func TestShowOfRegistersOutOfRange(t *testing.T) {
	for _, l := range opLines(t) {
		for _, r := range []int64{-1, -31, -32, 32, 33, 64, 99, 100, 1 << 32, 1<<32 + 1, math.MaxInt64, math.MinInt64, math.MinInt64 + 1} {
			for _, i := range []impl.Inst{{Rd: r}, {A: r}, {B: r}, {Rd: r, A: r, B: r}} {
				i.Op = l.op
				wantShow(t, i, "")
				wantNoParse(t, l.shownWith(i))
			}
		}
	}
}

// An Imm out of its form's range, odd where it must be even, or with low bits where it has none.
func TestShowOfImmsThatAreNone(t *testing.T) {
	for _, l := range opLines(t) {
		least, greatest, apart := l.imms()
		span := greatest - least + apart
		imms := []int64{
			least - 1, least - apart, greatest + 1, greatest + apart, least - span, greatest + span, span, -span,
			1 << 31, 1 << 32, 1<<32 + greatest, 1<<32 + least, 1 << 62, -1 << 62,
			math.MinInt64, math.MinInt64 + greatest, math.MaxInt64, math.MaxInt64 - greatest,
		}
		for low := int64(1); low < apart; low *= 2 {
			for _, imm := range l.someImms() {
				imms = append(imms, imm+low, imm+apart-low)
			}
		}
		for _, imm := range imms {
			if imm >= least && imm <= greatest && imm%apart == 0 {
				continue
			}
			i := impl.Inst{Op: l.op, Imm: imm}
			wantShow(t, i, "")
			wantNoParse(t, l.shownWith(i))
		}
	}
}

// What a form (and of 63, 74 and 98 the row) wants 0.
func TestShowOfFieldsThatMustBeNought(t *testing.T) {
	for _, l := range opLines(t) {
		rd, a, b := l.has()
		for _, x := range []int64{1, 2, 31} {
			all := []impl.Inst{}
			if !rd {
				all = append(all, impl.Inst{Rd: x})
			}
			if !a {
				all = append(all, impl.Inst{A: x})
			}
			if !b {
				all = append(all, impl.Inst{B: x})
			}
			if l.form == "R" || l.form == "X" {
				all = append(all, impl.Inst{Imm: x}, impl.Inst{Imm: -x}, impl.Inst{Imm: x << 32})
			}
			for _, i := range all {
				i.Op = l.op
				wantShow(t, i, "")
				wantNoParse(t, l.shownWith(i))
			}
		}
	}
	for _, text := range []string{"lr.w x1 x2 x1 0", "lr.d x1 x2 x31 3", "sfence.vma x1 x0 x0", "sfence.vma x31 x1 x2"} {
		wantNoParse(t, text)
	}
}

// Blanks: one ahead of each part, and nowhere else; as many parts as the form has.
func TestParseOfBlanksAndParts(t *testing.T) {
	for _, text := range []string{"", " ", "  ", "x1", "1", "0", "-1", "x1 x2 x3", " x1 x2 x3", "x", "-"} {
		wantNoParse(t, text)
	}
	for text := range formTexts {
		words := strings.Split(text, " ")
		wantNoParse(t, " "+text)
		wantNoParse(t, text+" ")
		wantNoParse(t, " "+text+" ")
		wantNoParse(t, text+"  ")
		for k := 1; k < len(words); k++ {
			ahead, behind := strings.Join(words[:k], " "), strings.Join(words[k:], " ")
			wantNoParse(t, ahead+"  "+behind)
			wantNoParse(t, ahead+behind)
			wantNoParse(t, ahead+"\t"+behind)
			wantNoParse(t, ahead+","+behind)
			wantNoParse(t, ahead+", "+behind)
			wantNoParse(t, ahead+"\u00a0"+behind)
			// One part too few, each of them once, and all that are behind.
			wantNoParse(t, strings.Join(slices.Concat(words[:k], words[k+1:]), " "))
			wantNoParse(t, ahead)
		}
		for _, more := range []string{"x0", "x1", "x31", "0", "1", "-1", text} {
			for k := range words {
				wantNoParse(t, strings.Join(slices.Insert(slices.Clone(words), k+1, more), " "))
			}
			wantNoParse(t, more+" "+text)
		}
	}
}

// Names in capitals, names that are none, names alone, and parts without a name.
func TestParseOfNames(t *testing.T) {
	for text := range formTexts {
		name, parts, _ := strings.Cut(text+" ", " ")
		parts = strings.TrimSuffix(" "+parts, " ")
		high := strings.ToUpper(name)
		for _, other := range []string{
			"", high, high[:1] + name[1:], name[:len(name)-1] + high[len(high)-1:], name + "x", "y" + name, name + ".", "." + name,
			name + "\x00", name + "\n", name + "\r", "nop", "li", strings.ReplaceAll(name, ".", "_") + "_", "\ufeff" + name,
			name + name, "22", "add ", "#" + name, ".run", "ａｄｄ",
		} {
			wantNoParse(t, other+parts)
		}
		if parts != "" {
			wantNoParse(t, name)
			wantNoParse(t, parts)
			wantNoParse(t, parts[1:])
			wantNoParse(t, strings.ToUpper(text))
		}
	}
	// A name cut short may be another one; and names of other forms, with parts that are not their own.
	ops := opLines(t)
	for text := range formTexts {
		wantRead(t, ops, text[1:])
		wantRead(t, ops, "x"+text)
		for _, l := range ops {
			words := strings.Split(text, " ")
			words[0] = l.name
			wantRead(t, ops, strings.Join(words, " "))
		}
	}
}

// What is no register, at each place where one stands.
func TestParseOfRegisters(t *testing.T) {
	wrong := []string{
		"x32", "x33", "x99", "x100", "x00", "x01", "x031", "x000", "x", "x-1", "x-0", "x+1", "x 1", "1", "0", "31", "-1", "-0", "X1", "X0", "xx1", "x1x", "1x",
		"x1.", "x0x1", "r1", "a0", "zero", "ra", "x0000000000000000001", "x18446744073709551616", "x18446744073709551617", "x4294967297",
		"x340282366920938463463374607431768211457", "xx", "", "x1\x00", "x١", "x１", "ｘ1", "x\xb1", "x1\xff", "\xffx1", "x\x00", "x1,", "(x1)", "x-",
		"x1 ", "x1e0", "x0x", "0x1", "x0b1", "x1_0", "x9223372036854775808", "x" + strings.Repeat("0", 100) + "1", "x" + strings.Repeat("1", 1000),
	}
	for text, i := range formTexts {
		parts := shownParts[impl.Form(i.Op)]
		words := strings.Split(text, " ")
		for k, part := range parts {
			if part == 'i' {
				continue
			}
			for _, other := range wrong {
				with := slices.Clone(words)
				with[k+1] = other
				wantNoParse(t, strings.Join(with, " "))
			}
		}
	}
	wantParse(t, "add x0 x31 x10", impl.Inst{Op: 35, A: 31, B: 10})
}

// What is no number, at each place where one stands.
func TestParseOfNumbers(t *testing.T) {
	wrong := []string{
		"-0", "00", "000", "-00", "+0", "+1", "01", "-01", "0001", "-", "--1", "-+1", "+-1", "1-", "-1-", "", "x", "x0", "x1", "-x1", "x-1", "1 ", "- 1",
		"0x1", "0x10", "1e1", "1.0", ".1", "1.", "1_0", "0b1", "0o7", "a", "A", "0a", "1a", "a1", "1\x00", "\x001", "1\t", "\t1", "1\r", "1\n", "\n1",
		"１", "١", "−1", "1\xff", "\xff1", "\x80", "½", "1,", "(1)", "''", "\"1\"", "1#", "1 # one", "1;",
		"100000000000000000", "999999999999999999", "-999999999999999999", "1000000000000000000", "-1000000000000000000",
		"9223372036854775807", "-9223372036854775808", "9223372036854775808", "18446744073709551615", "18446744073709551616", "18446744073709551617",
		"-18446744073709551616", "-18446744073709551617", "18446744073709551618", "36893488147419103232", "18446744073709555712",
		"340282366920938463463374607431768211456", "340282366920938463463374607431768211457", "000000000000000000", "0000000000000000001", "0000000000000000000",
		strings.Repeat("0", 100), strings.Repeat("9", 1000), "-" + strings.Repeat("9", 1000), "1" + strings.Repeat("0", 100),
	}
	right := 0
	for text, i := range formTexts {
		at := strings.Index(shownParts[impl.Form(i.Op)], "i")
		if at < 0 {
			continue
		}
		words := strings.Split(text, " ")
		for _, other := range wrong {
			words[at+1] = other
			wantNoParse(t, strings.Join(words, " "))
		}
		words[at+1] = "0"
		i.Imm = 0
		wantParse(t, strings.Join(words, " "), i)
		right++
	}
	if right < 50 {
		t.Error("only", right, "lines with a number")
	}
}

// Each form's edges, one past them and one inside, as text.
func TestParseOfImmsAtTheirEdges(t *testing.T) {
	ops := opLines(t)
	for _, l := range ops {
		if !strings.Contains(shownParts[l.form], "i") {
			continue
		}
		least, greatest, apart := l.imms()
		for _, imm := range []int64{least, least + apart, 0, greatest - apart, greatest} {
			wantParse(t, l.shown(impl.Inst{Op: l.op, Imm: imm}), impl.Inst{Op: l.op, Imm: imm})
		}
		for _, imm := range []int64{least - 1, least - apart, greatest + 1, greatest + apart, least - 1<<32, greatest + 1<<32} {
			wantNoParse(t, l.shown(impl.Inst{Op: l.op, Imm: imm}))
		}
		for imm := int64(-70); imm <= 70; imm++ {
			wantRead(t, ops, l.shown(impl.Inst{Op: l.op, Imm: imm}))
		}
	}
}

// strayTexts are what does not belong into a line: other blanks and ends, a byte 0, letters that look alike, and bytes that are no rune.
var strayTexts = []string{
	"\t", "\n", "\r", "\x00", "\v", "\f", "\x7f", "\x80", "\xbf", "\xc3", "\xc3\xa9", "\xe2\x82", "\xe2\x82\xac", "\xf0\x9f\x98", "\xf0\x9f\x98\x80",
	"\xff", "\xfe", "\xff\xfe", "\xed\xa0\x80", "\xc0\x80", "\xf4\x90\x80\x80", "\ufffd", "\ufeff", "\u00a0", "\u2003", "\u0085", "\u2028", "\u0660", "\uff10", "\uff58", "\u0301", "\u200b",
}

// A stray byte or rune ahead, inside and behind: no line holds one, nor does one that has it in place of a byte.
func TestParseOfStrayBytes(t *testing.T) {
	for text := range formTexts {
		for _, stray := range strayTexts {
			for at := 0; at <= len(text); at++ {
				wantNoParse(t, text[:at]+stray+text[at:])
				if at < len(text) {
					wantNoParse(t, text[:at]+stray+text[at+1:])
				}
			}
		}
	}
}

// Every byte put in, put in place and taken out at every place: what Parse takes is what the second reading takes.
func TestParseOfEveryByte(t *testing.T) {
	ops, right := opLines(t), 0
	count := func(is bool) {
		if is {
			right++
		}
	}
	for _, text := range []string{
		"add x1 x20 x3", "addi x1 x2 -31", "slli x10 x0 6", "slliw x9 x10 3", "sd x2 x11 20", "beq x3 x4 -40", "lui x3 4096", "jal x31 -10",
		"sc.w x0 x1 x12 3", "csrrw x1 x2 768", "ecall", "sfence.vma x0 x1 x2", "lr.d x3 x4 x0 1", "addiw x0 x0 0",
	} {
		if !wantRead(t, ops, text) {
			t.Fatal(text)
		}
		for at := 0; at <= len(text); at++ {
			for b := range 256 {
				one := string([]byte{byte(b)})
				count(wantRead(t, ops, text[:at]+one+text[at:]))
				if at < len(text) {
					count(wantRead(t, ops, text[:at]+one+text[at+1:]))
				}
			}
			if at < len(text) {
				count(wantRead(t, ops, text[:at]+text[at+1:]))
			}
		}
	}
	if right < 500 {
		t.Error("only", right, "texts are right")
	}
}

// mixedLine is a line of parts that no one chose; about half of them are right.
func mixedLine(d *dice, ops []opLine) string {
	l := ops[d.below(98)]
	least, greatest, apart := l.imms()
	imm := (least + int64(d.below(uint64(greatest-least+3*apart))) - apart) / apart * apart
	text := l.shown(impl.Inst{Op: l.op, Rd: int64(d.below(34)), A: int64(d.below(33)), B: int64(d.below(33)), Imm: imm})
	switch d.below(8) {
	case 0:
		at := int(d.below(uint64(len(text) + 1)))
		pieces := []string{" ", "x", "-", "0", "1", "9", "+", "\n", "#", ".", "w", "\x80"}
		text = text[:at] + pieces[d.below(uint64(len(pieces)))] + text[at:]
	case 1:
		at := int(d.below(uint64(len(text))))
		text = text[:at] + text[at+1:]
	case 2:
		words := strings.Split(text, " ")
		words[d.below(uint64(len(words)))] = strings.Split(formText(d), " ")[0]
		text = strings.Join(words, " ")
	}
	return text
}

// formText is one of the lines by hand, drawn; a map has no order of its own.
func formText(d *dice) string {
	texts := make([]string, 0, len(formTexts))
	for text := range formTexts {
		texts = append(texts, text)
	}
	slices.Sort(texts)
	return texts[d.below(uint64(len(texts)))]
}

// Promise 13 at lines that no one chose: what Parse takes is shown as that text again.
func TestManyLines(t *testing.T) {
	ops, d, right := opLines(t), dice(0x51c8a9e0d1b7f263), 0
	for range 20000 {
		if wantRead(t, ops, mixedLine(&d, ops)) {
			right++
		}
	}
	if right < 5000 || right > 18000 {
		t.Error(right, "of 20000 lines are right")
	}
}

// Promise 13 at words that no one chose: those that are instructions, shown line by line, are assembled to themselves.
func TestShownWordsAreTheWords(t *testing.T) {
	ops, d := opLines(t), dice(0x2f6b8c9d11e3a577)
	seen := map[int64]int{}
	for range 200 {
		words, text := []uint64{}, ""
		for range 100 {
			l := ops[d.below(98)]
			bare := l.lay(impl.Inst{Op: l.op})
			word := d.below(1<<32)&^0x7f | l.opcode
			if d.below(2) == 0 { // else hardly a word is one of the shifts, amos and those without fields
				word = bare | d.below(1<<32)&^0xfe00707f
			}
			if d.below(4) == 0 {
				word = bare
			}
			i, ok := impl.Decode(word)
			if !ok {
				continue
			}
			seen[i.Op]++
			words = append(words, word)
			text += impl.Show(i) + "\n"
		}
		wantWords(t, text, words...)
	}
	if len(seen) != 98 {
		t.Error(len(seen), "Ops of 98")
	}
}

func TestAssembleOfFewLines(t *testing.T) {
	wantWords(t, "")
	wantWords(t, "\n")
	wantWords(t, "\n\n\n")
	wantWords(t, "#\n")
	wantWords(t, "# a note, and nothing else\n")
	wantWords(t, "ecall\n", 0x73)
	wantWords(t, "addi x1 x2 -3\n", 0xffd10093)
	wantWords(t, "addi x1 x2 -3\nebreak\n", 0xffd10093, 0x100073)
	wantWords(t, "ebreak\naddi x1 x2 -3\n", 0x100073, 0xffd10093)
	wantWords(t, "wfi\nwfi\nwfi\n", 0x10500073, 0x10500073, 0x10500073)
	wantWords(t, "addi x1 x2 -3\n# note\n\nbeq x3 x4 4094\n", 0xffd10093, 0x7e418fe3)
}

// A line without a byte, and one that begins with #, is passed over wherever it stands.
func TestAssembleOfLinesThatArePassedOver(t *testing.T) {
	for _, over := range []string{
		"", "#", "# note", "#addi x1 x2 -3", "##", "#\t", "#\r", "#\x00", "# \xff\xfe", "# é", "#ecall", "# #", "#" + strings.Repeat("x", 5000),
	} {
		wantWords(t, over+"\n")
		wantWords(t, over+"\n"+over+"\n")
		wantWords(t, over+"\necall\nebreak\n", 0x73, 0x100073)
		wantWords(t, "ecall\n"+over+"\nebreak\n", 0x73, 0x100073)
		wantWords(t, "ecall\nebreak\n"+over+"\n", 0x73, 0x100073)
		wantWords(t, over+"\necall\n"+over+"\nebreak\n"+over+"\n", 0x73, 0x100073)
	}
}

// A line that is not passed over and does not Parse is told, wherever it stands; those passed over ahead of it count.
func TestAssembleOfLinesThatDoNotParse(t *testing.T) {
	for _, bad := range []string{
		" ", " #", " # note", "\t#", "ecall # note", "ecall#", "\r", "ecall\r", "ecall ", " ecall", "\x00", "\x00#", "add x1 x2", "add x1 x2 x3 x4", "nop", "addi x1 x2 2048",
		".run", "ecall\x00", "é", "\xff", "\xff#", "\ufeff# note", "\ufeffecall", "ECALL", "-1", "x", ";", "//",
	} {
		wantBadLine(t, bad+"\n", 0)
		wantBadLine(t, bad+"\necall\nebreak\n", 0)
		wantBadLine(t, "ecall\n"+bad+"\nebreak\n", 1)
		wantBadLine(t, "ecall\nebreak\n"+bad+"\n", 2)
		wantBadLine(t, "\n"+bad+"\n", 1)
		wantBadLine(t, "# note\n\n# another\n"+bad+"\n", 3)
		wantBadLine(t, "ecall\n\n#\n"+bad+"\n\n"+bad+"\n", 3)
		wantBadLine(t, bad+"\n"+bad+"\n", 0)
		wantBadLine(t, "ecall\n"+bad+"\necall\n"+bad, 1)
		wantBadLine(t, "ecall\n"+bad, 1)
		wantBadLine(t, bad, 0)
	}
	// The first of two, unlike each other.
	wantBadLine(t, "ecall\nnop\nadd x1 x2\n", 1)
	wantBadLine(t, "ecall\nwfi\nadd x1 x2\nnop\n", 2)
	wantBadLine(t, "ecall\r\nebreak\r\n", 0)
	wantBadLine(t, "\r\n", 0)
	wantBadLine(t, "ecall\rebreak\n", 0)
}

// A last line that is not ended is told by its number, whatever it has.
func TestAssembleOfALineThatIsNotEnded(t *testing.T) {
	for _, last := range []string{"ecall", "#", "# note", "add x1 x2 x3", "add x1 x2", " ", "\r", "x", "\x00", "\xff"} {
		wantBadLine(t, last, 0)
		wantBadLine(t, "ecall\n"+last, 1)
		wantBadLine(t, "\n"+last, 1)
		wantBadLine(t, "#\n"+last, 1)
		wantBadLine(t, "ecall\n\n# note\nebreak\n\n"+last, 5)
		wantBadLine(t, "ecall\nnop\nebreak\n"+last, 1)
	}
}

// MaxText bytes are taken, one more is not, whatever they are; bytes count, not runes.
func TestAssembleOfLongTexts(t *testing.T) {
	if impl.MaxText != 20000 {
		t.Fatal(impl.MaxText)
	}
	lines := strings.Repeat("wfi\n", 5000)
	words := slices.Repeat([]uint64{0x10500073}, 5000)
	wantWords(t, lines, words...)
	wantWords(t, lines[4:], words[1:]...)
	wantWords(t, lines[4:]+"#ab\n", words[1:]...)
	wantWords(t, strings.Repeat("\n", 20000))
	wantWords(t, "#"+strings.Repeat("\n", 19999))
	wantWords(t, "#"+strings.Repeat("x", 19998)+"\n")
	wantWords(t, "#"+strings.Repeat("é", 9999)+"\n")
	wantBadLine(t, strings.Repeat("x", 20000), 0)
	wantBadLine(t, lines[:19999], 4999)
	wantBadLine(t, lines[:19996]+"wfj\n", 4999)
	wantBadLine(t, strings.Repeat("\n", 19999)+"x", 19999)
	for _, text := range []string{
		lines + "\n", lines + "#", lines + lines, strings.Repeat("\n", 20001), "#" + strings.Repeat("x", 19999) + "\n", "#" + strings.Repeat("é", 10000) + "\n", "#" + strings.Repeat("€", 6667) + "\n",
		strings.Repeat("\n", 20000) + "x", "ecall\nnop\n" + lines, strings.Repeat("wfi\n", 100000), "#" + strings.Repeat("\xff", 19999) + "\n",
	} {
		if len(text) <= 20000 {
			t.Fatal(len(text), "bytes")
		}
		wantBadLine(t, text, 0)
	}
}

// Many texts of lines that no one chose, against the second reading.
func TestManyTexts(t *testing.T) {
	ops, d := opLines(t), dice(0x7d3a60f14c9be825)
	right, worst := 0, int64(0)
	for range 3000 {
		text := ""
		for range d.below(8) {
			line := formText(&d)
			switch d.below(16) {
			case 0:
				line = ""
			case 1:
				line = "#" + line
			case 2:
				line = mixedLine(&d, ops)
			case 3:
				line = "\n\n" + line
			}
			text += line + "\n"
		}
		if d.below(8) == 0 && text != "" {
			at := int(d.below(uint64(len(text))))
			text = text[:at] + text[at+1:]
		}
		want, bad := assembledOf(ops, text)
		if bad == -1 {
			right++
			wantWords(t, text, want...)
		} else {
			worst = max(worst, bad)
			wantBadLine(t, text, bad)
		}
	}
	if right < 500 || right > 2800 || worst < 5 {
		t.Error(right, "of 3000 texts are right, the last bad line is", worst)
	}
}

var imageSizes = []int64{4096, 8192, 12288, 32768, 61440, 65536}

func TestImageOfWords(t *testing.T) {
	ram, ok := impl.Image([]uint64{0x11223344, 0xffd10093, 0, 1<<32 - 1}, 4096)
	first := []byte{0x44, 0x33, 0x22, 0x11, 0x93, 0, 0xd1, 0xff, 0, 0, 0, 0, 0xff, 0xff, 0xff, 0xff, 0, 0, 0, 0}
	if !ok || len(ram) != 4096 || !bytes.Equal(ram[:20], first) {
		t.Fatalf("%x, %v", ram[:20], ok)
	}
	for k, b := range ram[16:] {
		if b != 0 {
			t.Fatal("a byte behind the words is not 0:", k+16, b)
		}
	}
	x, ok := impl.Load(ram, impl.RamBase+4, 4)
	if i, is := impl.Decode(x); !ok || !is || impl.Show(i) != "addi x1 x2 -3" {
		t.Error("what is loaded there:", x, ok, i)
	}
}

func TestImageOfSizes(t *testing.T) {
	for _, size := range imageSizes {
		wantImage(t, nil, size)
		wantImage(t, []uint64{}, size)
		wantImage(t, []uint64{1<<32 - 1}, size)
		fit := int(size / 4)
		for _, n := range []int{1, 2, 3, 1023, 1024} {
			wantImage(t, numbersOfWords(n), size)
		}
		wantWholeImage(t, numbersOfWords(fit-1), size)
		wantWholeImage(t, numbersOfWords(fit), size)
		wantNoImage(t, numbersOfWords(fit+1), size)
		wantNoImage(t, numbersOfWords(fit+2), size)
		wantNoImage(t, numbersOfWords(2*fit), size)
		wantNoImage(t, make([]uint64, size), size)
		wantNoImage(t, make([]uint64, fit+1), size)
	}
}

// wantWholeImage is wantImage for many words: they are loaded back.
func wantWholeImage(t *testing.T, words []uint64, size int64) {
	t.Helper()
	ram, ok := impl.Image(words, size)
	if !ok || int64(len(ram)) != size {
		t.Fatalf("Image of %d words in %d bytes: %d bytes, %v", len(words), size, len(ram), ok)
	}
	for k := range int(size / 4) {
		want := uint64(0)
		if k < len(words) {
			want = words[k]
		}
		if got := loaded(ram, 4*k, 4); got != want {
			t.Fatalf("word %d is %#x, want %#x", k, got, want)
		}
	}
}

func TestImageOfSizesThatAreNone(t *testing.T) {
	for _, size := range []int64{
		0, 1, 4, 8, 2048, 4095, 4097, 4100, 6144, 8191, 8193, 65535, 65537, 69632, 131072, 1 << 32, 1<<32 + 4096, 1 << 40, 1<<62 + 4096, math.MaxInt64, math.MaxInt64 - 4095,
		-1, -4, -4095, -4096, -4097, -8192, -65536, -1 << 32, -1<<32 + 4096, math.MinInt64, math.MinInt64 + 4096,
	} {
		wantNoImage(t, nil, size)
		wantNoImage(t, []uint64{}, size)
		wantNoImage(t, []uint64{1}, size)
		wantNoImage(t, numbersOfWords(1024), size)
		wantNoImage(t, []uint64{1 << 32}, size)
	}
}

// A word that is too great, wherever it stands.
func TestImageOfWordsThatAreTooGreat(t *testing.T) {
	for _, great := range []uint64{1 << 32, 1<<32 + 1, 1<<32 + 0x73, 1 << 33, 1 << 40, 1 << 63, 1<<63 + 0x73, math.MaxUint64, math.MaxUint64 - 1, 1<<64 - 1<<32} {
		for _, size := range []int64{4096, 65536} {
			fit := int(size / 4)
			wantNoImage(t, []uint64{great}, size)
			for _, n := range []int{2, 10, fit} {
				for _, at := range []int{0, 1, n / 2, n - 1} {
					words := numbersOfWords(n)
					words[at] = great
					wantNoImage(t, words, size)
				}
			}
		}
	}
	wantImage(t, []uint64{1<<32 - 1, 1<<32 - 1, 1 << 31, 0}, 4096)
}

// Promise 15: Image leaves its words as they are, their spare room too, and answers a memory of its own each time.
func TestImageIsNewMemory(t *testing.T) {
	for _, n := range []int{0, 1, 7, 1024, 1025} {
		room := append(numbersOfWords(n), 11, 1<<40, 33, 44)
		was := slices.Clone(room)
		ram, ok := impl.Image(room[:n], 4096)
		again, _ := impl.Image(room[:n], 4096)
		if ok != (n <= 1024) || !slices.Equal(room, was) {
			t.Fatal("the words are not as they were, or the answer is wrong:", n, ok)
		}
		before := bytes.Clone(again)
		turnAll(ram[:cap(ram)])
		if !bytes.Equal(again, before) || !slices.Equal(room, was) {
			t.Fatal("two answers share memory, or one with its argument")
		}
		third, _ := impl.Image(room[:n], 4096)
		turnWords(room)
		if !bytes.Equal(third, before) {
			t.Fatal("an answer hangs on an earlier one, or on its argument still")
		}
	}
}

// Promise 15: each call of Assemble answers a list of its own.
func TestAssembleIsNewMemory(t *testing.T) {
	for _, text := range []string{"", "ecall\n", "addi x1 x2 -3\n# note\n\nbeq x3 x4 4094\n", strings.Repeat("wfi\n", 500)} {
		one, _ := impl.Assemble(text)
		two, _ := impl.Assemble(text)
		was := slices.Clone(two)
		turnWords(one)
		if !slices.Equal(two, was) {
			t.Fatal("two answers share memory")
		}
		if three, _ := impl.Assemble(text); !slices.Equal(three, was) {
			t.Fatal("an answer hangs on an earlier one")
		}
	}
}

// The way from text to steps: a program that is assembled, laid into a memory and run.
func TestAProgramOfLines(t *testing.T) {
	words, bad := impl.Assemble("# seven times six\naddi x5 x0 7\naddi x6 x0 6\n\nmul x7 x5 x6\nsd x0 x7 0\n")
	if bad != -1 || len(words) != 4 {
		t.Fatal(words, bad)
	}
	ram, ok := impl.Image(words[:3], 4096)
	m, right := impl.NewMachine(ram)
	if !ok || !right {
		t.Fatal(ok, right)
	}
	m, whats := impl.Steps(m, 3)
	if m.X[7] != 42 || len(whats) != 3 {
		t.Error(m.X[7], whats)
	}
}

// Promise 15: no text, no word and no number makes one of them panic.
func TestAssemblerAnswersAtEveryArgument(t *testing.T) {
	numbers := []int64{0, 1, -1, 31, 32, 63, 98, 99, 1 << 31, -1 << 31, 1<<32 - 1, math.MaxInt64, math.MinInt64}
	for _, op := range append([]int64{1, 3, 5, 18, 22, 28, 32, 35, 63, 74, 87, 93, 98}, noOps...) {
		for _, r := range numbers {
			for _, imm := range numbers {
				i := impl.Inst{Op: op, Rd: r, A: r, B: r, Imm: imm}
				text := impl.Show(i)
				if back, ok := impl.Parse(text); ok != (text != "") || ok && back != i {
					t.Errorf("Show of %v: %q, Parse of it: %v, %v", i, text, back, ok)
				}
			}
		}
	}
	ops, d := opLines(t), dice(0x4f9a1b6c2d8e7053)
	pieces := []string{" ", "x", "-", "0", "1", "7", "\n", "#", "add", "ecall", "lr.w", "x1", "x31", "x32", "\xff", "é", "\x00", "\r", "-1", "99999999999999999999", ".", "\U0010ffff"}
	for range 20000 {
		text := ""
		for range d.below(9) {
			text += pieces[d.below(uint64(len(pieces)))]
		}
		wantRead(t, ops, text)
		want, line := assembledOf(ops, text)
		if got, bad := impl.Assemble(text); bad != line || !slices.Equal(got, want) {
			t.Fatalf("Assemble of %q: %#x, %d; want %#x, %d", text, got, bad, want, line)
		}
	}
	for _, text := range []string{strings.Repeat("x", 300000), strings.Repeat(" ", 300000), "addi x1 x2 " + strings.Repeat("9", 300000), "addi" + strings.Repeat(" x1", 100000), strings.Repeat("\xff", 300000)} {
		wantNoParse(t, text)
		wantBadLine(t, text, 0)
	}
}
