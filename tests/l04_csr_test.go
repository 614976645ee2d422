package tests

import (
	"math"
	"slices"
	"strconv"
	"strings"
	"testing"

	"loop.example/g00134/impl"
)

// csrTable is the document's: place, name, number, and the bits that a register can have.
const csrTable = `0 mstatus 768 1 3 5 7 8 11 12 17 18 19
1 medeleg 770 0-9 12 13 15
2 mideleg 771 1 5 9
3 mie 772 1 3 5 7 9 11
4 mtvec 773 0 2-63
5 mscratch 832 0-63
6 mepc 833 2-63
7 mcause 834 0-3 63
8 mtval 835 0-63
9 mip 836 1 3 5 7 9 11
10 stvec 261 0 2-63
11 sscratch 320 0-63
12 sepc 321 2-63
13 scause 322 0-3 63
14 stval 323 0-63
15 satp 384 0-59 63
16 pmpcfg0 928 0-4 7 8-12 15 16-20 23 24-28 31
17 pmpaddr0 944 0-53
18 pmpaddr1 945 0-53
19 pmpaddr2 946 0-53
20 pmpaddr3 947 0-53
21 minstret 2818 0-63`

const (
	misaNumber    = 769
	mhartidNumber = 3860
	misaTold      = uint64(9223372036856090881)
)

// viewPlaces has the views' numbers, and the places of what they are views of.
var viewPlaces = map[int64]int{256: 0, 260: 3, 324: 9}

var noPrivs = []int64{2, 4, 5, 6, 7, 8, 256, 257, 259, 1 << 32, 1<<32 + 1, 1<<32 + 3, math.MaxInt64, -1, -2, -3, -4, -253, math.MinInt64, math.MinInt64 + 1, math.MinInt64 + 3}

type csrLine struct {
	place  int
	name   string
	number int64
	bits   []int
}

func csrLines(t *testing.T) []csrLine {
	t.Helper()
	var out []csrLine
	for _, text := range strings.Split(csrTable, "\n") {
		words := strings.Fields(text)
		l := csrLine{place: numberIn(t, words[0]), name: words[1], number: int64(numberIn(t, words[2]))}
		for _, w := range words[3:] {
			first, last, many := strings.Cut(w, "-")
			if !many {
				last = first
			}
			for n := numberIn(t, first); n <= numberIn(t, last); n++ {
				l.bits = append(l.bits, n)
			}
		}
		if l.place != len(out) {
			t.Fatal("not in order:", text)
		}
		out = append(out, l)
	}
	if len(out) != 22 {
		t.Fatal(len(out), "registers")
	}
	return out
}

func numberIn(t *testing.T, word string) int {
	t.Helper()
	n, err := strconv.Atoi(word)
	if err != nil {
		t.Fatal(err)
	}
	return n
}

// csrNumbers are all numbers that there is a register or a view of.
func csrNumbers(t *testing.T) []int64 {
	t.Helper()
	out := []int64{misaNumber, mhartidNumber}
	for _, l := range csrLines(t) {
		out = append(out, l.number)
	}
	for number := range viewPlaces {
		out = append(out, number)
	}
	slices.Sort(out)
	return out
}

func lowestPriv(number int64) int64 {
	return number / 256 % 4
}

// privsFor are the privileges at which a number can be read.
func privsFor(number int64) []int64 {
	var out []int64
	for _, priv := range []int64{0, 1, 3} {
		if priv >= lowestPriv(number) {
			out = append(out, priv)
		}
	}
	return out
}

// chosenBits takes the bits of a list from one word, all others from another.
func chosenBits(bits []int, from, others uint64) uint64 {
	out := uint64(0)
	for n := range 64 {
		word := others
		if slices.Contains(bits, n) {
			word = from
		}
		out += word >> n % 2 << n
	}
	return out
}

func bitsOf(x uint64) []int {
	var out []int
	for n := range 64 {
		if x>>n%2 == 1 {
			out = append(out, n)
		}
	}
	return out
}

// byteLeft is a second reading of what a write leaves of one byte of pmpcfg0.
func byteLeft(was, x byte) byte {
	if was >= 128 {
		return was
	}
	left := x%32 + x/128*128
	if left%4 == 2 {
		left -= 2
	}
	return left
}

func pmpcfgLeft(was, x uint64) uint64 {
	out := uint64(0)
	for k := 3; k >= 0; k-- {
		out = out*256 + uint64(byteLeft(byte(was>>(8*k)), byte(x>>(8*k))))
	}
	return out
}

// addrStays: does pmpaddr k stay as it is, whatever is written?
func addrStays(config uint64, k int) bool {
	own := byte(config >> (8 * k))
	if own >= 128 {
		return true
	}
	if k == 3 {
		return false
	}
	next := byte(config >> (8 * (k + 1)))
	return next >= 128 && next/8%4 == 1
}

// wordLeft is a second reading of the table's last column.
func wordLeft(list []uint64, l csrLine, x uint64) uint64 {
	was := list[l.place]
	switch {
	case l.name == "satp" && x>>60 != 0 && x>>60 != 8:
		return was
	case l.name == "satp":
		return x
	case l.name == "pmpcfg0":
		return pmpcfgLeft(was, x)
	case strings.HasPrefix(l.name, "pmpaddr") && addrStays(list[16], l.place-17):
		return was
	case l.name == "mip":
		return chosenBits([]int{1, 5, 9}, x, chosenBits([]int{3, 7, 11}, was, 0))
	}
	left := chosenBits(l.bits, x, 0)
	if l.name == "mstatus" && left/2048%4 == 2 {
		left -= 4096
	}
	return left
}

// listLeft is a second reading of WriteCsr, for numbers that can be written.
func listLeft(lines []csrLine, list []uint64, number int64, x uint64) []uint64 {
	out := slices.Clone(list)
	switch number {
	case misaNumber:
	case 256:
		out[0] = chosenBits([]int{1, 5, 8, 18, 19}, x, list[0])
	case 260:
		out[3] = chosenBits(bitsOf(list[2]), x, list[3])
	case 324:
		if list[2]/2%2 == 1 {
			out[9] = chosenBits([]int{1}, x, list[9])
		}
	default:
		for _, l := range lines {
			if l.number == number {
				out[l.place] = wordLeft(list, l, x)
			}
		}
	}
	return out
}

// wordTold is a second reading of ReadCsr, for numbers that can be read.
func wordTold(lines []csrLine, list []uint64, number int64) uint64 {
	switch number {
	case misaNumber:
		return misaTold
	case mhartidNumber:
		return 0
	case 256:
		return chosenBits([]int{1, 5, 8, 18, 19}, list[0], 0)
	case 260:
		return chosenBits(bitsOf(list[2]), list[3], 0)
	case 324:
		return chosenBits(bitsOf(list[2]), list[9], 0)
	}
	for _, l := range lines {
		if l.number == number {
			return list[l.place]
		}
	}
	return 0
}

// fullCsrs has in every place all that a write can leave there, but nothing locked.
func fullCsrs() []uint64 {
	return []uint64{
		0xe19aa, 0xb3ff, 0x222, 0xaaa, allOnes - 2, allOnes, allOnes - 3, 0x800000000000000f, allOnes, 0xaaa,
		allOnes - 2, allOnes, allOnes - 3, 0x800000000000000f, allOnes, 0x8fffffffffffffff,
		0x1f1f1f1f, 0x3fffffffffffff, 0x3fffffffffffff, 0x3fffffffffffff, 0x3fffffffffffff, allOnes,
	}
}

// withWord is a list with another word in one place.
func withWord(list []uint64, place int, x uint64) []uint64 {
	out := slices.Clone(list)
	out[place] = x
	return out
}

// midelegs are all the words that mideleg can be.
var midelegs = []uint64{0, 2, 32, 34, 512, 514, 544, 546}

var someConfigs = []uint64{
	0x80, 0x8000, 0x800000, 0x80000000, 0x88, 0x8800, 0x880000, 0x88000000, 0x9000, 0x9800, 0x900000, 0x98000000,
	0x0800, 0x080000, 0x80808080, 0x88888888, 0x9f9f9f9f, 0x1f1f1f1f, 0x9b0f8f01, 0x058c0d98, 0x8f008f00, 0x008f008f,
}

// rightLists are registers of many kinds, each of which a machine may have.
func rightLists(t *testing.T) [][]uint64 {
	t.Helper()
	none, full := make([]uint64, 22), fullCsrs()
	out := [][]uint64{none, full}
	for _, delegated := range midelegs {
		out = append(out, withWord(none, 2, delegated), withWord(full, 2, delegated))
	}
	for _, lines := range []uint64{0, 0x8, 0x80, 0x800, 0x888, 0x222} {
		out = append(out, withWord(full, 9, lines))
	}
	for k, config := range someConfigs {
		out = append(out, withWord(out[k%len(out)], 16, config))
	}
	lines, mixed := csrLines(t), mixedNumbers(22*8)
	for k := range 8 {
		list := make([]uint64, 22)
		for _, l := range lines {
			list[l.place] = wordLeft(list, l, mixed[22*k+l.place])
		}
		out = append(out, list)
	}
	return out
}

// writtenWords are what is written: nothing, all, each bit alone and each left out, and some in between.
func writtenWords() []uint64 {
	out := append([]uint64{0, allOnes, 0xaaaaaaaaaaaaaaaa, 0x5555555555555555, 0x1800, 0x9b0f8f01, 0x0a0a0a0a}, edgeNumbers...)
	for n := range 64 {
		out = append(out, 1<<n, allOnes-1<<n)
	}
	for mode := range uint64(16) {
		out = append(out, mode<<60+0x123456789)
	}
	return append(out, mixedNumbers(20)...)
}

func mustWrite(t *testing.T, list []uint64, number, priv int64, x uint64) []uint64 {
	t.Helper()
	out, ok := impl.WriteCsr(list, number, priv, x)
	if !ok || len(out) != 22 {
		t.Fatalf("WriteCsr of %d at %d of %#x: %d words, %v; list %#x", number, priv, x, len(out), ok, list)
	}
	return out
}

// wantWord writes at machine level, and holds the word of one place against what is wanted, all others against what they were.
func wantWord(t *testing.T, list []uint64, number int64, x uint64, place int, want uint64) {
	t.Helper()
	if got := mustWrite(t, list, number, 3, x); !slices.Equal(got, withWord(list, place, want)) {
		t.Errorf("WriteCsr of %d of %#x: %#x; want %#x at %d alone to come into %#x", number, x, got, want, place, list)
	}
}

func wantNoRead(t *testing.T, list []uint64, number, priv int64) {
	t.Helper()
	if x, ok := impl.ReadCsr(list, number, priv); x != 0 || ok {
		t.Errorf("ReadCsr of %d at %d: %#x, %v; want 0, false", number, priv, x, ok)
	}
}

func wantNoWrite(t *testing.T, list []uint64, number, priv int64) {
	t.Helper()
	before := slices.Clone(list)
	for _, x := range []uint64{0, 1, allOnes} {
		if out, ok := impl.WriteCsr(list, number, priv, x); len(out) != 0 || ok {
			t.Errorf("WriteCsr of %d at %d of %#x: %#x, %v; want nothing, false", number, priv, x, out, ok)
		}
	}
	if !slices.Equal(list, before) {
		t.Errorf("WriteCsr of %d at %d, refused, wrote into its argument", number, priv)
	}
}

func TestNewCsrs(t *testing.T) {
	one, other := impl.NewCsrs(), impl.NewCsrs()
	if !slices.Equal(one, make([]uint64, 22)) || !impl.CsrsOk(one) {
		t.Errorf("NewCsrs: %#x", one)
	}
	for k := range one {
		one[k] = allOnes
	}
	if !slices.Equal(other, make([]uint64, 22)) || !slices.Equal(impl.NewCsrs(), make([]uint64, 22)) {
		t.Error("NewCsrs answers the same memory twice")
	}
}

func TestRightListsAreCsrsOk(t *testing.T) {
	for _, list := range rightLists(t) {
		before := slices.Clone(list)
		if !impl.CsrsOk(list) {
			t.Errorf("not CsrsOk: %#x", list)
		}
		if !slices.Equal(list, before) {
			t.Error("CsrsOk wrote into its argument")
		}
	}
}

func TestHowManyCsrs(t *testing.T) {
	if impl.CsrsOk(nil) {
		t.Error("nil is CsrsOk")
	}
	for n := range 100 {
		if impl.CsrsOk(make([]uint64, n)) != (n == 22) {
			t.Errorf("CsrsOk of %d words: %v", n, n != 22)
		}
	}
	full := fullCsrs()
	if impl.CsrsOk(full[:21]) || impl.CsrsOk(append(slices.Clone(full), 0)) || !impl.CsrsOk(full) {
		t.Error("CsrsOk of the full list, or of one word less or more")
	}
	long := append(slices.Clone(full), full...)
	if !impl.CsrsOk(long[:22]) || impl.CsrsOk(long[:21]) || impl.CsrsOk(long) {
		t.Error("CsrsOk goes by the room behind a list")
	}
}

func TestEachBitAlone(t *testing.T) {
	for _, l := range csrLines(t) {
		for n := range 64 {
			fine := slices.Contains(l.bits, n)
			switch {
			case l.name == "mstatus" && n == 12: // alone it is 2 there, which is no privilege
				fine = false
			case l.name == "pmpcfg0" && n%8 == 1: // alone it is stores without loads
				fine = false
			}
			if got := impl.CsrsOk(withWord(make([]uint64, 22), l.place, 1<<n)); got != fine {
				t.Errorf("CsrsOk with bit %d of %s alone: %v", n, l.name, got)
			}
			full := fullCsrs()
			if !slices.Contains(l.bits, n) && impl.CsrsOk(withWord(full, l.place, full[l.place]|1<<n)) {
				t.Errorf("CsrsOk with bit %d of %s beside all that it can have", n, l.name)
			}
		}
	}
}

func TestWordsThatAreNotRight(t *testing.T) {
	none, full := make([]uint64, 22), fullCsrs()
	for _, x := range []struct {
		place int
		word  uint64
		fine  bool
	}{
		{0, 0x800, true}, {0, 0x1000, false}, {0, 0x1800, true}, {0, 0xe11aa, false}, {0, 0xe09aa, true}, {0, 0xe01aa, true},
		{9, 0x888, true}, {9, 0x889, false}, {9, 0xaaa, true}, {9, 0x1aaa, false},
		{15, 0x0fffffffffffffff, true}, {15, 0x8000000000000000, true}, {15, 0x9000000000000000, false}, {15, 0x7000000000000000, false},
		{16, 0x01, true}, {16, 0x02, false}, {16, 0x03, true}, {16, 0x82, false}, {16, 0x9f, true}, {16, 0x9e, false}, {16, 0x9d, true},
		{16, 0x02030303, false}, {16, 0x03020303, false}, {16, 0x03030203, false}, {16, 0x03030303, true}, {16, 0x2000, false}, {16, 0x400000, false},
		{16, 1 << 32, false}, {16, 0x8000000000000000, false}, {16, 0x9f9f9f9f, true}, {16, 0x9f9f9f9f9f, false},
		{17, 0x3fffffffffffff, true}, {17, 0x40000000000000, false}, {20, 0x40000000000001, false},
	} {
		if impl.CsrsOk(withWord(none, x.place, x.word)) != x.fine || impl.CsrsOk(withWord(full, x.place, x.word)) != x.fine {
			t.Errorf("CsrsOk with %#x at %d: not %v", x.word, x.place, x.fine)
		}
	}
	for mode := range uint64(16) {
		for _, low := range []uint64{0, 1, 0x0fffffffffffffff} {
			if impl.CsrsOk(withWord(full, 15, mode<<60+low)) != (mode == 0 || mode == 8) {
				t.Errorf("CsrsOk of satp %#x", mode<<60+low)
			}
		}
	}
}

// Promise 4, and every write against the second reading.
func TestWritesLeaveRegistersRight(t *testing.T) {
	lines, words := csrLines(t), writtenWords()
	for _, list := range rightLists(t) {
		for _, number := range csrNumbers(t) {
			if number == mhartidNumber {
				continue
			}
			for _, priv := range privsFor(number) {
				for _, x := range words {
					left := mustWrite(t, list, number, priv, x)
					if !impl.CsrsOk(left) {
						t.Fatalf("not CsrsOk behind %#x in %d at %d: %#x", x, number, priv, left)
					}
					if again := mustWrite(t, left, number, priv, x); !slices.Equal(again, left) {
						t.Fatalf("%#x in %d at %d, written again: %#x, at first %#x", x, number, priv, again, left)
					}
					if want := listLeft(lines, list, number, x); !slices.Equal(left, want) {
						t.Fatalf("%#x in %d at %d: %#x; want %#x", x, number, priv, left, want)
					}
				}
			}
		}
	}
}

func TestReads(t *testing.T) {
	lines := csrLines(t)
	for _, list := range rightLists(t) {
		before := slices.Clone(list)
		for _, number := range csrNumbers(t) {
			for _, priv := range privsFor(number) {
				want := wordTold(lines, list, number)
				if x, ok := impl.ReadCsr(list, number, priv); !ok || x != want {
					t.Errorf("ReadCsr of %d at %d: %#x, %v; want %#x, true", number, priv, x, ok, want)
				}
			}
		}
		if !slices.Equal(list, before) {
			t.Error("ReadCsr wrote into its argument")
		}
	}
}

// Every row here is written out by hand from the document.
func TestWritesByHand(t *testing.T) {
	none, full := make([]uint64, 22), fullCsrs()
	for _, x := range []struct {
		number   int64
		place    int
		ones     uint64 // what all ones leave of a list without a bit
		x, mixed uint64 // what another word leaves of it
		noughts  uint64 // what a 0 leaves of a full list
	}{
		{768, 0, 0xe19aa, 0xfffffffffffff7ff, 0xe01aa, 0},
		{770, 1, 0xb3ff, 0x5c00, 0x1000, 0},
		{771, 2, 0x222, 0xffd, 0x220, 0},
		{772, 3, 0xaaa, 0x555f, 0xa, 0},
		{773, 4, 0xfffffffffffffffd, 7, 5, 0},
		{832, 5, allOnes, 0x8000000000000001, 0x8000000000000001, 0},
		{833, 6, 0xfffffffffffffffc, 7, 4, 0},
		{834, 7, 0x800000000000000f, 0xc00000000000001b, 0x800000000000000b, 0},
		{835, 8, allOnes, 3, 3, 0},
		{836, 9, 0x222, 0x8a0, 0x20, 0x888},
		{261, 10, 0xfffffffffffffffd, 0x8000000000000002, 0x8000000000000000, 0},
		{320, 11, allOnes, 2, 2, 0},
		{321, 12, 0xfffffffffffffffc, 0x8000000000000003, 0x8000000000000000, 0},
		{322, 13, 0x800000000000000f, 0x7ffffffffffffff5, 5, 0},
		{323, 14, allOnes, 1 << 63, 1 << 63, 0},
		{384, 15, 0, 0x8000000000080001, 0x8000000000080001, 0},
		{928, 16, 0x9f9f9f9f, 0xff7f62ff0400, 0x9f0400, 0},
		{944, 17, 0x3fffffffffffff, 0x40000000000001, 1, 0},
		{945, 18, 0x3fffffffffffff, 0xffe0000000000000, 0x20000000000000, 0},
		{946, 19, 0x3fffffffffffff, 0xffc0000000000000, 0, 0},
		{947, 20, 0x3fffffffffffff, 0x20000000000007, 0x20000000000007, 0},
		{2818, 21, allOnes, 1<<63 + 1, 1<<63 + 1, 0},
	} {
		wantWord(t, none, x.number, allOnes, x.place, x.ones)
		wantWord(t, none, x.number, x.x, x.place, x.mixed)
		wantWord(t, none, x.number, 0, x.place, 0)
		wantWord(t, full, x.number, 0, x.place, x.noughts)
	}
}

func TestMstatusPrivileges(t *testing.T) {
	for _, list := range [][]uint64{make([]uint64, 22), fullCsrs(), withWord(fullCsrs(), 0, 0x800)} {
		for said, left := range []uint64{0, 1, 0, 3} {
			wantWord(t, list, 768, uint64(said)<<11, 0, left<<11)
			wantWord(t, list, 768, uint64(said)<<11+0xffffffffffffe7ff, 0, left<<11+0xe01aa)
			wantWord(t, list, 256, uint64(said)<<11, 0, list[0]&0x21888)
		}
	}
}

func TestMipKeepsItsLines(t *testing.T) {
	for _, lines := range []uint64{0, 0x8, 0x80, 0x800, 0x88, 0x808, 0x880, 0x888} {
		for _, soft := range []uint64{0, 0x222, 0x20} {
			list := withWord(fullCsrs(), 9, lines+soft)
			wantWord(t, list, 836, 0, 9, lines)
			wantWord(t, list, 836, allOnes, 9, lines+0x222)
			wantWord(t, list, 836, 0x888, 9, lines)
			wantWord(t, list, 836, ^uint64(0x888), 9, lines+0x222)
			wantWord(t, list, 836, 0x2, 9, lines+0x2)
			wantWord(t, list, 836, 0x20, 9, lines+0x20)
			wantWord(t, list, 836, 0x200, 9, lines+0x200)
		}
	}
}

func TestSatpModes(t *testing.T) {
	for _, was := range []uint64{0, 0x0fffffffffffffff, 0x8000000000080123, 0x8fffffffffffffff} {
		list := withWord(fullCsrs(), 15, was)
		for mode := range uint64(16) {
			for _, low := range []uint64{0, 1, 0x123456789abcdef, 0x0fffffffffffffff} {
				want := was
				if mode == 0 || mode == 8 {
					want = mode<<60 + low
				}
				wantWord(t, list, 384, mode<<60+low, 15, want)
			}
		}
	}
}

// allowed has what a write leaves of bits 0 and 1 of a byte of pmpcfg0.
var allowed = [4]uint64{0, 1, 0, 3}

func TestEachByteOfPmpcfg(t *testing.T) {
	for k := range 4 {
		at := 8 * k
		for kind := range uint64(4) {
			for _, upper := range []uint64{0, 0x04, 0x18, 0x1c, 0x60, 0x80, 0xfc} {
				x, left := kind+upper, allowed[kind]+upper&0x9c
				// Free, with the other bytes as they are and free too: these become 0.
				wantWord(t, withWord(fullCsrs(), 16, 0x1f1f1f1f), 928, x<<at, 16, left<<at)
				wantWord(t, make([]uint64, 22), 928, x<<at, 16, left<<at)
				for _, was := range []uint64{0x80, 0x8b, 0x9c, 0x9f} {
					// Locked: it stays, and what is written into the others comes about.
					list := withWord(fullCsrs(), 16, was<<at)
					wantWord(t, list, 928, x<<at, 16, was<<at)
					wantWord(t, list, 928, 0, 16, was<<at)
					wantWord(t, list, 928, allOnes, 16, 0x9f9f9f9f&^(0xff<<at)+was<<at)
				}
			}
		}
	}
}

func TestBytesAboveThoseOfPmpcfg(t *testing.T) {
	for _, was := range []uint64{0, 0x1f1f1f1f, 0x9f9f9f9f, 0x800d} {
		list := withWord(fullCsrs(), 16, was)
		for n := 32; n < 64; n++ {
			wantWord(t, list, 928, 1<<n, 16, pmpcfgLeft(was, 0))
		}
		wantWord(t, list, 928, 0xffffffff00000000, 16, pmpcfgLeft(was, 0))
		wantWord(t, list, 928, 0x9f9f9f9f0000000d, 16, pmpcfgLeft(was, 0xd))
	}
}

// Both of what locks a pmpaddr, every number of the next one's bits 3 and 4, and what does not lock it.
func TestPmpaddrLocks(t *testing.T) {
	const was, x = 0x2aaaaaaaaaaaaa, 0xffd5555555555555
	const left = uint64(x) % (1 << 54)
	for k := range 4 {
		for own := range uint64(2) {
			for next := range uint64(2) {
				for reach := range uint64(4) {
					for _, rest := range []uint64{0, 0x7} {
						config := (own<<7 + 0x08 + rest) << (8 * k)
						if k < 3 {
							config += (next<<7 + reach<<3 + rest) << (8 * (k + 1))
						}
						want := left
						if own == 1 || k < 3 && next == 1 && reach == 1 {
							want = was
						}
						list := withWord(withWord(fullCsrs(), 16, config), 17+k, was)
						wantWord(t, list, int64(944+k), x, 17+k, want)
					}
				}
			}
		}
	}
}

// A lock of another entry than its own and the next one does not hold a pmpaddr.
func TestPmpaddrLocksOfOthers(t *testing.T) {
	for k := range 4 {
		for other := range 4 {
			if other == k || other == k+1 {
				continue
			}
			for _, b := range []uint64{0x80, 0x88, 0x8f, 0x90, 0x98, 0x9f} {
				list := withWord(fullCsrs(), 16, b<<(8*other))
				wantWord(t, list, int64(944+k), 0x123, 17+k, 0x123)
			}
		}
		wantWord(t, make([]uint64, 22), int64(944+k), allOnes, 17+k, 0x3fffffffffffff)
	}
}

func TestSstatusIsAView(t *testing.T) {
	for _, status := range []uint64{0, 0xe19aa, 0x21888, 0xc0122, 0x800, 0x1800} {
		list := withWord(fullCsrs(), 0, status)
		for _, priv := range []int64{1, 3} {
			if x, ok := impl.ReadCsr(list, 256, priv); !ok || x != status&0xc0122 {
				t.Errorf("sstatus of %#x: %#x, %v", status, x, ok)
			}
		}
		wantWord(t, list, 256, 0, 0, status&^0xc0122)
		wantWord(t, list, 256, allOnes, 0, status|0xc0122)
		wantWord(t, list, 256, ^uint64(0xc0122), 0, status&^0xc0122)
		for _, n := range []int{1, 5, 8, 18, 19} {
			wantWord(t, list, 256, 1<<n, 0, status&^0xc0122|1<<n)
		}
		wantNoRead(t, list, 256, 0)
		wantNoWrite(t, list, 256, 0)
	}
}

func TestSieAndSipAreViews(t *testing.T) {
	words := []uint64{0, 0x222, 0x888, 0xaaa, 0x2, 0x20, 0x200, 0x80a}
	for _, delegated := range midelegs {
		for _, was := range words {
			list := withWord(withWord(withWord(fullCsrs(), 2, delegated), 3, was), 9, was)
			for _, number := range []int64{260, 324} {
				for _, priv := range []int64{1, 3} {
					if x, ok := impl.ReadCsr(list, number, priv); !ok || x != was&delegated {
						t.Errorf("%d of %#x with mideleg %#x: %#x, %v", number, was, delegated, x, ok)
					}
				}
				wantNoRead(t, list, number, 0)
				wantNoWrite(t, list, number, 0)
			}
			for _, x := range []uint64{0, allOnes, 0x2, 0x20, 0x200, 0x888, ^uint64(0x2), ^uint64(0x222)} {
				wantWord(t, list, 260, x, 3, was&^delegated|x&delegated)
				wantWord(t, list, 324, x, 9, was&^(delegated&2)|x&delegated&2)
			}
		}
	}
}

// A view is one of the other register's bits as they are, so the number of that one tells what was written.
func TestViewsAreReadBack(t *testing.T) {
	list := withWord(make([]uint64, 22), 2, 0x202)
	list = mustWrite(t, list, 260, 1, allOnes)
	list = mustWrite(t, list, 324, 1, allOnes)
	list = mustWrite(t, list, 256, 1, allOnes)
	for number, want := range map[int64]uint64{772: 0x202, 260: 0x202, 836: 0x2, 324: 0x2, 768: 0xc0122, 256: 0xc0122} {
		if x, ok := impl.ReadCsr(list, number, 3); !ok || x != want {
			t.Errorf("ReadCsr of %d: %#x, %v; want %#x, true", number, x, ok, want)
		}
	}
}

func TestMisaAndMhartid(t *testing.T) {
	for _, list := range rightLists(t) {
		if x, ok := impl.ReadCsr(list, misaNumber, 3); !ok || x != 9223372036856090881 {
			t.Errorf("misa: %d, %v", x, ok)
		}
		if x, ok := impl.ReadCsr(list, mhartidNumber, 3); !ok || x != 0 {
			t.Errorf("mhartid: %d, %v", x, ok)
		}
		for _, x := range []uint64{0, 1, misaTold, allOnes} {
			if out := mustWrite(t, list, misaNumber, 3, x); !slices.Equal(out, list) {
				t.Errorf("a write of %#x into misa changes something", x)
			}
		}
		for _, priv := range append([]int64{0, 1, 3}, noPrivs...) {
			wantNoWrite(t, list, mhartidNumber, priv)
			if priv != 3 {
				wantNoRead(t, list, mhartidNumber, priv)
				wantNoRead(t, list, misaNumber, priv)
				wantNoWrite(t, list, misaNumber, priv)
			}
		}
	}
}

// manyNumbers are all of 12 bits, some beyond on both sides, and those that are like one of the table in part.
func manyNumbers(t *testing.T) []int64 {
	t.Helper()
	out := []int64{math.MinInt64, math.MinInt64 + 1, math.MaxInt64, math.MaxInt64 - 1, 4095, 4096}
	for n := int64(-5000); n <= 9000; n++ {
		out = append(out, n)
	}
	for _, n := range csrNumbers(t) {
		out = append(out, n+1<<16, n+1<<32, n-1<<32, n+1<<62, math.MinInt64+n, math.MaxInt64-n)
	}
	return out
}

func TestEveryNumberAtEveryPrivilege(t *testing.T) {
	list, known := fullCsrs(), csrNumbers(t)
	for _, number := range manyNumbers(t) {
		for _, priv := range append([]int64{0, 1, 3}, noPrivs...) {
			is := slices.Contains(known, number)
			reads := is && (priv == 0 || priv == 1 || priv == 3) && priv >= lowestPriv(number)
			if !reads {
				wantNoRead(t, list, number, priv)
			} else if _, ok := impl.ReadCsr(list, number, priv); !ok {
				t.Errorf("ReadCsr of %d at %d: false", number, priv)
			}
			if !reads || number/1024%4 == 3 {
				wantNoWrite(t, list, number, priv)
			} else if out, ok := impl.WriteCsr(list, number, priv, 0); !ok || len(out) != 22 {
				t.Errorf("WriteCsr of %d at %d: %d words, %v", number, priv, len(out), ok)
			}
		}
	}
}

func TestPrivilegesByHand(t *testing.T) {
	list := fullCsrs()
	for number, least := range map[int64]int64{256: 1, 260: 1, 324: 1, 261: 1, 320: 1, 321: 1, 322: 1, 323: 1, 384: 1, 768: 3, 769: 3, 770: 3, 836: 3, 928: 3, 944: 3, 947: 3, 2818: 3} {
		for _, priv := range []int64{0, 1, 2, 3, 4} {
			fine := priv >= least && priv != 2 && priv != 4
			_, reads := impl.ReadCsr(list, number, priv)
			_, writes := impl.WriteCsr(list, number, priv, 5)
			if reads != fine || writes != fine {
				t.Errorf("%d at %d: read %v, written %v", number, priv, reads, writes)
			}
		}
	}
}

// wrongLists are too short, too long, or have in one place what its register can not have.
func wrongLists(t *testing.T) [][]uint64 {
	t.Helper()
	full := fullCsrs()
	lists := [][]uint64{nil, {}, {0}, full[:21], append(slices.Clone(full), 0), make([]uint64, 21), make([]uint64, 23), make([]uint64, 44)}
	for _, l := range csrLines(t) {
		for n := range 64 {
			if !slices.Contains(l.bits, n) {
				lists = append(lists, withWord(full, l.place, full[l.place]|1<<n))
			}
		}
	}
	return append(lists, withWord(full, 0, 0x1000), withWord(full, 16, 0x02), withWord(full, 16, 0x82000000))
}

func TestListsThatAreNotRight(t *testing.T) {
	for _, list := range wrongLists(t) {
		for _, number := range append(csrNumbers(t), -1, 0, 767, 4095, 4096, math.MinInt64, math.MaxInt64) {
			for _, priv := range []int64{0, 1, 2, 3} {
				wantNoRead(t, list, number, priv)
				wantNoWrite(t, list, number, priv)
			}
		}
	}
}

func TestPlace(t *testing.T) {
	places := map[int64]int64{256: 0, 260: 3, 324: 9}
	for _, l := range csrLines(t) {
		places[l.number] = int64(l.place)
	}
	for _, number := range manyNumbers(t) {
		want, is := places[number]
		if !is {
			want = -1
		}
		if got := impl.Place(number); got != want {
			t.Errorf("Place of %d: %d, want %d", number, got, want)
		}
	}
	for number, want := range map[int64]int64{768: 0, 772: 3, 836: 9, 261: 10, 384: 15, 928: 16, 944: 17, 945: 18, 946: 19, 947: 20, 948: -1, 943: -1, 2818: 21, 769: -1, 3860: -1, -1: -1, 0: -1} {
		if got := impl.Place(number); got != want {
			t.Errorf("Place of %d: %d, want %d", number, got, want)
		}
	}
}

// Promise 15: the list that is answered is new, and the argument and the room behind it stay.
func TestWritesAnswerNewMemory(t *testing.T) {
	for _, list := range rightLists(t) {
		for _, number := range csrNumbers(t) {
			if number == mhartidNumber {
				continue
			}
			told := wordTold(csrLines(t), list, number)
			for _, x := range []uint64{0, allOnes, told} { // told: a write that changes nothing
				room := append(slices.Clone(list), 11, 22, 33, 44)
				before := slices.Clone(room)
				out := mustWrite(t, room[:22], number, 3, x)
				if !slices.Equal(room, before) {
					t.Fatalf("a write of %d wrote into its argument", number)
				}
				out = out[:cap(out)]
				for k := range out {
					out[k] = 77
				}
				if !slices.Equal(room, before) {
					t.Fatalf("what a write of %d answers shares memory with its argument", number)
				}
			}
		}
	}
}
