package tests

import (
	"math"
	"slices"
	"testing"

	"loop.example/g00134/impl"
)

var privs = []int64{0, 1, 3}

var noCauses = []int64{-1, -2, -8, -15, -16, -64, -1 << 32, 16, 17, 31, 32, 63, 64, 72, 127, 128, 256, 264, 1 << 32, 1<<32 + 8, 1 << 62, math.MaxInt64, math.MaxInt64 - 7, math.MinInt64, math.MinInt64 + 1, math.MinInt64 + 8}

// handable has the causes that medeleg, and those that mideleg, can have.
var handable = map[bool][]int64{
	false: {0, 1, 2, 3, 4, 5, 6, 7, 8, 9, 12, 13, 15},
	true:  {1, 5, 9},
}

// evenPcs have bits 0 and 1 as 0, as a pc has that is legal.
var evenPcs = []uint64{0, 4, 8, 0x2004, impl.RamBase, impl.RamBase + 0xffc, 1 << 32, 1<<63 - 4, 1 << 63, allOnes - 3}

// placesOf are those of the registers that tell of a trap to a privilege: vector, epc, cause, value.
var placesOf = map[int64][4]int{1: {10, 12, 13, 14}, 3: {4, 6, 7, 8}}

// bit is one of a word; withBit the word with another one there.
func bit(x uint64, n int) uint64 {
	return x >> n % 2
}

func withBit(x uint64, n int, to uint64) uint64 {
	return x - bit(x, n)<<n + to<<n
}

// goesTo is a second reading of who is told.
func goesTo(list []uint64, priv, cause int64, interrupt bool) int64 {
	handed := map[bool]uint64{false: list[1], true: list[2]}[interrupt]
	if priv < 3 && handed>>cause%2 == 1 {
		return 1
	}
	return 3
}

// statusEntered and statusLeft are a second reading of what becomes of mstatus.
func statusEntered(was uint64, to, priv int64) uint64 {
	if to == 1 {
		return withBit(withBit(withBit(was, 5, bit(was, 1)), 1, 0), 8, uint64(priv))
	}
	out := withBit(withBit(was, 7, bit(was, 3)), 3, 0)
	return withBit(withBit(out, 11, uint64(priv)%2), 12, uint64(priv)/2)
}

func statusLeft(was uint64, machine bool) (uint64, int64) {
	if !machine {
		out := withBit(withBit(was, 1, bit(was, 5)), 5, 1)
		return withBit(withBit(out, 8, 0), 17, 0), int64(bit(was, 8))
	}
	out := withBit(withBit(was, 3, bit(was, 7)), 7, 1)
	out = withBit(withBit(out, 11, 0), 12, 0)
	to := int64(bit(was, 11) + 2*bit(was, 12))
	if to != 3 {
		out = withBit(out, 17, 0)
	}
	return out, to
}

type trapTold struct {
	list []uint64
	priv int64
	pc   uint64
}

// entered is a second reading of Enter, for arguments that are right.
func entered(list []uint64, priv int64, pc uint64, cause int64, interrupt bool, value uint64) trapTold {
	to := goesTo(list, priv, cause, interrupt)
	at := placesOf[to]
	out := slices.Clone(list)
	out[at[1]] = pc / 4 * 4
	out[at[2]] = uint64(cause)
	out[at[3]] = value
	out[0] = statusEntered(list[0], to, priv)
	vector := list[at[0]]
	next := vector - vector%2
	if interrupt {
		out[at[2]] += 1 << 63
		next += vector % 2 * 4 * uint64(cause)
	}
	return trapTold{out, to, next}
}

// taken is a second reading of Pending, for arguments that are right.
func taken(list []uint64, priv int64) int64 {
	order := []int{11, 3, 7, 9, 1, 5}
	for _, n := range order {
		if bit(list[9], n) == 1 && bit(list[3], n) == 1 && bit(list[2], n) == 0 && (priv < 3 || bit(list[0], 3) == 1) {
			return int64(n)
		}
	}
	for _, n := range order {
		if bit(list[9], n) == 1 && bit(list[3], n) == 1 && bit(list[2], n) == 1 && (priv == 0 || priv == 1 && bit(list[0], 1) == 1) {
			return int64(n)
		}
	}
	return -1
}

// statuses are all of what mstatus can be in the bits that traps turn, with all and with none of its others.
func statuses() []uint64 {
	var out []uint64
	for k := range uint64(1 << 7) {
		x := uint64(0)
		for place, n := range []int{1, 3, 5, 7, 8, 11, 12} {
			x += bit(k, place) << n
		}
		if x/2048%4 != 2 {
			out = append(out, x, x+0xe0000, x+0x20000, x+0xc0000)
		}
	}
	return out
}

// handedLists are right lists with what is handed to the supervisor as they have it, all of it, and none.
func handedLists(t *testing.T) [][]uint64 {
	t.Helper()
	var out [][]uint64
	for _, list := range rightLists(t) {
		out = append(out, list, withWord(withWord(list, 1, 0xb3ff), 2, 0x222), withWord(withWord(list, 1, 0), 2, 0))
	}
	return out
}

func wantEnter(t *testing.T, list []uint64, priv int64, pc uint64, cause int64, interrupt bool, value uint64) trapTold {
	t.Helper()
	got, to, next, ok := impl.Enter(list, priv, pc, cause, interrupt, value)
	want := entered(list, priv, pc, cause, interrupt, value)
	if !ok || to != want.priv || next != want.pc || !slices.Equal(got, want.list) {
		t.Fatalf("Enter of %#x at %d, pc %#x, cause %d, %v, value %#x: %#x, %d, %#x, %v; want %#x, %d, %#x, true",
			list, priv, pc, cause, interrupt, value, got, to, next, ok, want.list, want.priv, want.pc)
	}
	return trapTold{got, to, next}
}

func wantLeave(t *testing.T, list []uint64, priv int64, machine bool) trapTold {
	t.Helper()
	got, to, next, ok := impl.Leave(list, priv, machine)
	status, back := statusLeft(list[0], machine)
	pc := map[bool]uint64{false: list[12], true: list[6]}[machine]
	if !ok || to != back || next != pc || !slices.Equal(got, withWord(list, 0, status)) {
		t.Fatalf("Leave of %#x at %d, %v: %#x, %d, %#x, %v; want mstatus %#x, %d, %#x, true",
			list, priv, machine, got, to, next, ok, status, back, pc)
	}
	return trapTold{got, to, next}
}

func wantNoEnter(t *testing.T, list []uint64, priv, cause int64) {
	t.Helper()
	before := slices.Clone(list)
	for _, interrupt := range []bool{false, true} {
		got, to, next, ok := impl.Enter(list, priv, 0x2004, cause, interrupt, 9)
		if len(got) != 0 || to != 0 || next != 0 || ok {
			t.Errorf("Enter at %d of cause %d, %v: %#x, %d, %#x, %v; want nothing, 0, 0, false", priv, cause, interrupt, got, to, next, ok)
		}
	}
	if !slices.Equal(list, before) {
		t.Error("Enter, refused, wrote into its argument")
	}
}

func wantNoLeave(t *testing.T, list []uint64, priv int64, machine bool) {
	t.Helper()
	before := slices.Clone(list)
	got, to, next, ok := impl.Leave(list, priv, machine)
	if len(got) != 0 || to != 0 || next != 0 || ok {
		t.Errorf("Leave at %d, %v: %#x, %d, %#x, %v; want nothing, 0, 0, false", priv, machine, got, to, next, ok)
	}
	if !slices.Equal(list, before) {
		t.Error("Leave, refused, wrote into its argument")
	}
}

// Promise 5.
func TestTrapsComeBack(t *testing.T) {
	gone := map[int64]int{}
	for _, list := range handedLists(t) {
		for _, priv := range privs {
			for cause := range int64(16) {
				for _, interrupt := range []bool{false, true} {
					for _, pc := range evenPcs {
						in, to, _, ok := impl.Enter(list, priv, pc, cause, interrupt, pc+1)
						if !ok || !impl.CsrsOk(in) || !impl.Legal(in, to) || to < priv {
							t.Fatalf("entered at %d, cause %d, %v, from %#x: %#x, %d, %v", priv, cause, interrupt, list, in, to, ok)
						}
						out, back, next, ok := impl.Leave(in, to, to == 3)
						if !ok || back != priv || next != pc || !impl.CsrsOk(out) {
							t.Fatalf("entered at %d, pc %#x, cause %d, %v, from %#x and left: %#x, %d, %#x, %v", priv, pc, cause, interrupt, list, out, back, next, ok)
						}
						gone[to*4+priv]++
					}
				}
			}
		}
	}
	for _, k := range []int64{4, 5, 12, 13, 15} {
		if gone[k] == 0 {
			t.Errorf("none went from %d to %d", k%4, k/4)
		}
	}
}

// A trap within a trap: what goes to the machine from the supervisor's comes back there, and from there further back.
func TestTrapsWithinTraps(t *testing.T) {
	list := withWord(withWord(withWord(make([]uint64, 22), 1, 1<<8), 0, 0xa), 4, 0x3000)
	first, one, pc, ok := impl.Enter(list, 0, 0x1000, 8, false, 0)
	if !ok || one != 1 {
		t.Fatal(one, pc, ok)
	}
	second, three, _, ok := impl.Enter(first, one, 0x1804, 2, false, 7)
	if !ok || three != 3 {
		t.Fatal(three, ok)
	}
	back, priv, pc, ok := impl.Leave(second, 3, true)
	if !ok || priv != 1 || pc != 0x1804 {
		t.Fatal(priv, pc, ok)
	}
	last, priv, pc, ok := impl.Leave(back, 1, false)
	if !ok || priv != 0 || pc != 0x1000 || last[0] != 0xaa {
		t.Fatalf("%d, %#x, %v, %#x", priv, pc, ok, last[0])
	}
}

func TestEnterFromEveryKindOfList(t *testing.T) {
	for _, list := range handedLists(t) {
		for _, priv := range privs {
			for cause := range int64(16) {
				for _, interrupt := range []bool{false, true} {
					for _, pc := range []uint64{0, 0x2006, allOnes} {
						wantEnter(t, list, priv, pc, cause, interrupt, pc+3)
					}
				}
			}
		}
	}
}

// Each cause with its own bit alone, and with all bits but its own, in the register that counts and in the other one.
func TestWhoIsTold(t *testing.T) {
	for cause := range int64(16) {
		for interrupt, can := range handable {
			bits := map[bool]uint64{false: 0xb3ff, true: 0x222}
			place := map[bool]int{false: 1, true: 2}
			own := uint64(0)
			if slices.Contains(can, cause) {
				own = 1 << cause
			}
			for _, other := range []uint64{0, bits[!interrupt]} {
				for _, priv := range privs {
					list := withWord(fullCsrs(), place[!interrupt], other)
					only := withWord(list, place[interrupt], own)
					want := int64(3)
					if own != 0 && priv != 3 {
						want = 1
					}
					if got := wantEnter(t, only, priv, 0x100, cause, interrupt, 5); got.priv != want {
						t.Errorf("cause %d, %v, at %d with its bit: goes to %d", cause, interrupt, priv, got.priv)
					}
					rest := withWord(list, place[interrupt], bits[interrupt]-own)
					if got := wantEnter(t, rest, priv, 0x100, cause, interrupt, 5); got.priv != 3 {
						t.Errorf("cause %d, %v, at %d without its bit: goes to %d", cause, interrupt, priv, got.priv)
					}
				}
			}
		}
	}
}

// medeleg can not have 10, 11 and 14: these go to the machine whatever it has.
func TestCausesThatAreNeverHanded(t *testing.T) {
	for _, cause := range []int64{10, 11, 14} {
		for _, priv := range privs {
			if _, to, _, ok := impl.Enter(fullCsrs(), priv, 0, cause, false, 0); !ok || to != 3 {
				t.Errorf("cause %d at %d: goes to %d, %v", cause, priv, to, ok)
			}
		}
		wantNoEnter(t, withWord(fullCsrs(), 1, 1<<cause), 0, cause)
	}
}

func TestEnterTurnsMstatus(t *testing.T) {
	for _, status := range statuses() {
		for _, base := range [][]uint64{make([]uint64, 22), fullCsrs()} {
			list := withWord(base, 0, status)
			for _, priv := range privs {
				for _, interrupt := range []bool{false, true} {
					for _, cause := range []int64{5, 11} {
						wantEnter(t, list, priv, 4, cause, interrupt, 0)
					}
				}
			}
		}
	}
}

// Every row here is written out by hand from the document.
func TestMstatusEnteredByHand(t *testing.T) {
	for _, x := range []struct {
		status, supervisor0, supervisor1, machine0, machine1, machine3 uint64
	}{
		{0, 0, 0x100, 0, 0x800, 0x1800},
		{0xe19aa, 0xe18a8, 0xe19a8, 0xe01a2, 0xe09a2, 0xe19a2},
		{0x2, 0x20, 0x120, 0x2, 0x802, 0x1802},
		{0x8, 0x8, 0x108, 0x80, 0x880, 0x1880},
		{0x20, 0, 0x100, 0x20, 0x820, 0x1820},
		{0x80, 0x80, 0x180, 0, 0x800, 0x1800},
		{0x100, 0, 0x100, 0x100, 0x900, 0x1900},
		{0x800, 0x800, 0x900, 0, 0x800, 0x1800},
		{0x1800, 0x1800, 0x1900, 0, 0x800, 0x1800},
		{0xe0000, 0xe0000, 0xe0100, 0xe0000, 0xe0800, 0xe1800},
	} {
		handed := withWord(withWord(make([]uint64, 22), 0, x.status), 1, 0x8)
		for _, y := range []struct {
			priv, cause int64
			want        uint64
		}{{0, 3, x.supervisor0}, {1, 3, x.supervisor1}, {0, 4, x.machine0}, {1, 4, x.machine1}, {3, 3, x.machine3}, {3, 4, x.machine3}} {
			if got, _, _, ok := impl.Enter(handed, y.priv, 0, y.cause, false, 0); !ok || got[0] != y.want {
				t.Errorf("mstatus %#x, entered at %d by cause %d: %#x, %v; want %#x", x.status, y.priv, y.cause, got, ok, y.want)
			}
		}
	}
}

// What is told to one of the two stands in its registers, and the other one's stay.
func TestWhatATrapTells(t *testing.T) {
	pcs := []uint64{0, 1, 2, 3, 4, 5, 6, 7, 0x2005, 1<<63 + 2, allOnes - 3, allOnes - 2, allOnes - 1, allOnes}
	values := []uint64{0, 1, 2, 3, 0x12345678, 1 << 32, 1<<63 - 1, 1 << 63, allOnes - 1, allOnes}
	for _, base := range [][]uint64{make([]uint64, 22), fullCsrs()} {
		for _, handed := range []uint64{0, 1} {
			list := withWord(withWord(base, 1, handed*0xb3ff), 2, handed*0x222)
			to := 3 - 2*int64(handed)
			at := placesOf[to]
			for _, interrupt := range []bool{false, true} {
				for _, cause := range handable[interrupt] {
					sign := map[bool]uint64{false: 0, true: 1 << 63}[interrupt]
					for k, pc := range pcs {
						value := values[k%len(values)]
						got := wantEnter(t, list, 1, pc, cause, interrupt, value)
						if got.list[at[1]] != pc-pc%4 || got.list[at[2]] != sign+uint64(cause) || got.list[at[3]] != value {
							t.Errorf("cause %d, %v, pc %#x, value %#x: %#x", cause, interrupt, pc, value, got.list)
						}
						for place := range 22 {
							if place != 0 && !slices.Contains(at[1:], place) && got.list[place] != list[place] {
								t.Errorf("cause %d, %v, to %d: place %d was %#x, is %#x", cause, interrupt, to, place, list[place], got.list[place])
							}
						}
					}
					for _, value := range values {
						if got := wantEnter(t, list, 0, 8, cause, interrupt, value); got.list[at[3]] != value {
							t.Errorf("cause %d, %v, value %#x: %#x", cause, interrupt, value, got.list[at[3]])
						}
					}
				}
			}
		}
	}
}

func TestWhereATrapGoes(t *testing.T) {
	vectors := []uint64{0, 1, 4, 5, 0x1000, 0x1001, 1<<63 - 4, 1<<63 - 3, 1 << 63, allOnes - 63, allOnes - 62, allOnes - 35, allOnes - 34, allOnes - 3, allOnes - 2}
	for _, vector := range vectors {
		for _, place := range []int{10, 4} {
			other := 14 - place
			handed := uint64(place) / 10
			list := withWord(withWord(make([]uint64, 22), 1, handed*0xb3ff), 2, handed*0x222)
			list = withWord(withWord(list, place, vector), other, 0x777770)
			for _, interrupt := range []bool{false, true} {
				for cause := range int64(16) {
					if place == 10 && !slices.Contains(handable[interrupt], cause) {
						continue
					}
					want := vector &^ 1
					if interrupt && vector&1 == 1 {
						for range cause {
							want += 4
						}
					}
					if got := wantEnter(t, list, 1, 0x40, cause, interrupt, 0); got.pc != want {
						t.Errorf("cause %d, %v, vector %#x at %d: goes to %#x, want %#x", cause, interrupt, vector, place, got.pc, want)
					}
				}
			}
		}
	}
}

// Rows by hand: also such where 4 times the cause goes beyond 2^64 - 1.
func TestWhereATrapGoesByHand(t *testing.T) {
	for _, x := range []struct {
		priv, cause int64
		interrupt   bool
		mtvec       uint64
		stvec       uint64
		want        uint64
	}{
		{3, 11, true, 0x1001, 0x2001, 0x102c},
		{3, 11, true, 0x1000, 0x2001, 0x1000},
		{3, 11, false, 0x1001, 0x2001, 0x1000},
		{0, 9, true, 0x1001, 0x2001, 0x2024},
		{1, 5, true, 0x1001, 0x2001, 0x2014},
		{1, 5, true, 0x1001, 0x2000, 0x2000},
		{0, 9, false, 0x1001, 0x2001, 0x2000},
		{3, 9, true, 0x1001, 0x2001, 0x1024},
		{3, 15, true, 0xfffffffffffffffd, 1, 0x38},
		{3, 1, true, 0xfffffffffffffffd, 1, 0},
		{3, 0, true, 0xfffffffffffffffd, 1, 0xfffffffffffffffc},
		{1, 9, true, 1, 0xfffffffffffffffd, 0x20},
		{1, 1, true, 1, 0xfffffffffffffffd, 0},
		{1, 9, true, 1, 0xffffffffffffffdd, 0},
		{1, 9, true, 1, 0xffffffffffffffd9, 0xfffffffffffffffc},
	} {
		list := withWord(withWord(fullCsrs(), 4, x.mtvec), 10, x.stvec)
		if _, _, pc, ok := impl.Enter(list, x.priv, 0, x.cause, x.interrupt, 0); !ok || pc != x.want {
			t.Errorf("%+v: %#x, %v", x, pc, ok)
		}
	}
}

func TestEnterRefuses(t *testing.T) {
	for _, list := range [][]uint64{make([]uint64, 22), fullCsrs()} {
		for _, priv := range privs {
			for _, cause := range noCauses {
				wantNoEnter(t, list, priv, cause)
			}
		}
		for _, priv := range noPrivs {
			for cause := int64(-1); cause <= 16; cause++ {
				wantNoEnter(t, list, priv, cause)
			}
			wantNoEnter(t, list, priv, math.MinInt64)
			wantNoEnter(t, list, priv, math.MaxInt64)
		}
	}
	for _, list := range wrongLists(t) {
		for _, priv := range []int64{0, 1, 2, 3, -1, 4} {
			for _, cause := range []int64{-1, 0, 2, 9, 15, 16} {
				wantNoEnter(t, list, priv, cause)
			}
		}
	}
}

func TestLeaveFromEveryKindOfList(t *testing.T) {
	for _, list := range rightLists(t) {
		wantLeave(t, list, 3, true)
		wantLeave(t, list, 3, false)
		wantLeave(t, list, 1, false)
		wantNoLeave(t, list, 0, false)
		wantNoLeave(t, list, 0, true)
		wantNoLeave(t, list, 1, true)
	}
}

func TestLeaveTurnsMstatus(t *testing.T) {
	for _, status := range statuses() {
		for _, base := range [][]uint64{make([]uint64, 22), fullCsrs()} {
			list := withWord(withWord(withWord(base, 0, status), 6, 0x6664), 12, 0xccc8)
			for _, left := range []trapTold{wantLeave(t, list, 3, true), wantLeave(t, list, 3, false), wantLeave(t, list, 1, false)} {
				if !impl.CsrsOk(left.list) {
					t.Errorf("not CsrsOk behind mstatus %#x: %#x", status, left.list[0])
				}
			}
			for _, priv := range []int64{0, 1} {
				wantNoLeave(t, list, priv, true)
			}
			wantNoLeave(t, list, 0, false)
		}
	}
}

// Every row here is written out by hand from the document.
func TestLeaveByHand(t *testing.T) {
	for _, x := range []struct {
		machine bool
		priv    int64
		status  uint64
		left    uint64
		to      int64
	}{
		{true, 3, 0, 0x80, 0},
		{true, 3, 0x800, 0x80, 1},
		{true, 3, 0x1800, 0x80, 3},
		{true, 3, 0x80, 0x88, 0},
		{true, 3, 0x8, 0x80, 0},
		{true, 3, 0x88, 0x88, 0},
		{true, 3, 0x20000, 0x80, 0},
		{true, 3, 0x20800, 0x80, 1},
		{true, 3, 0x21800, 0x20080, 3},
		{true, 3, 0x21880, 0x20088, 3},
		{true, 3, 0xe19aa, 0xe01aa, 3},
		{true, 3, 0xe09aa, 0xc01aa, 1},
		{true, 3, 0xe01aa, 0xc01aa, 0},
		{true, 3, 0xe1922, 0xe01a2, 3},
		{false, 1, 0, 0x20, 0},
		{false, 3, 0, 0x20, 0},
		{false, 1, 0x100, 0x20, 1},
		{false, 3, 0x100, 0x20, 1},
		{false, 1, 0x20, 0x22, 0},
		{false, 1, 0x2, 0x20, 0},
		{false, 3, 0x22, 0x22, 0},
		{false, 1, 0x20000, 0x20, 0},
		{false, 3, 0x20000, 0x20, 0},
		{false, 1, 0x20100, 0x20, 1},
		{false, 3, 0x20100, 0x20, 1},
		{false, 3, 0x21800, 0x1820, 0},
		{false, 3, 0xe19aa, 0xc18aa, 1},
		{false, 1, 0xe1888, 0xc18a8, 0},
	} {
		list := withWord(withWord(withWord(make([]uint64, 22), 0, x.status), 6, 0x6664), 12, 0xccc8)
		want := map[bool]uint64{true: 0x6664, false: 0xccc8}[x.machine]
		got, to, pc, ok := impl.Leave(list, x.priv, x.machine)
		if !ok || to != x.to || pc != want || !slices.Equal(got, withWord(list, 0, x.left)) {
			t.Errorf("%+v: %#x, %d, %#x, %v", x, got, to, pc, ok)
		}
	}
}

func TestLeaveRefuses(t *testing.T) {
	for _, machine := range []bool{false, true} {
		for _, list := range [][]uint64{make([]uint64, 22), fullCsrs(), withWord(fullCsrs(), 0, 0xe01aa)} {
			for _, priv := range noPrivs {
				wantNoLeave(t, list, priv, machine)
			}
		}
		for _, list := range wrongLists(t) {
			for _, priv := range []int64{0, 1, 2, 3, -1, 4} {
				wantNoLeave(t, list, priv, machine)
			}
		}
	}
}

// interruptSets are all sets of the bits 1, 3, 5, 7, 9, 11.
func interruptSets() []uint64 {
	var out []uint64
	for k := range uint64(64) {
		x := uint64(0)
		for place := range 6 {
			x += bit(k, place) << (2*place + 1)
		}
		out = append(out, x)
	}
	return out
}

func TestPendingOfEverySet(t *testing.T) {
	sets := interruptSets()
	for _, list := range [][]uint64{make([]uint64, 22), fullCsrs()} {
		for _, status := range []uint64{0, 2, 8, 10, 0xe19a0, 0xe19a2, 0xe19a8, 0xe19aa} {
			list[0] = status
			for _, list[2] = range midelegs {
				for _, list[3] = range sets {
					for _, list[9] = range sets {
						for _, priv := range privs {
							if got, want := impl.Pending(list, priv), taken(list, priv); got != want {
								t.Fatalf("Pending at %d with mstatus %#x, mideleg %#x, mie %#x, mip %#x: %d, want %d", priv, status, list[2], list[3], list[9], got, want)
							}
						}
					}
				}
			}
		}
	}
}

// Rows by hand: status, mideleg, mie, mip, and what is taken at 0, 1 and 3.
func TestPendingByHand(t *testing.T) {
	for _, x := range []struct {
		status, mideleg, mie, mip uint64
		at0, at1, at3             int64
	}{
		{0, 0, 0, 0, -1, -1, -1},
		{10, 0, 0, 0xaaa, -1, -1, -1},
		{10, 0, 0xaaa, 0, -1, -1, -1},
		{10, 0, 0x88, 0x822, -1, -1, -1},
		{0, 0, 0xaaa, 0xaaa, 11, 11, -1},
		{8, 0, 0xaaa, 0xaaa, 11, 11, 11},
		{2, 0, 0xaaa, 0xaaa, 11, 11, -1},
		{8, 0, 0x2aa, 0xaaa, 3, 3, 3},
		{8, 0, 0x2a2, 0xaaa, 7, 7, 7},
		{8, 0, 0x222, 0xaaa, 9, 9, 9},
		{8, 0, 0xaaa, 0x22, 1, 1, 1},
		{8, 0, 0xaaa, 0x20, 5, 5, 5},
		{0, 0x222, 0x222, 0xaaa, 9, -1, -1},
		{2, 0x222, 0x222, 0xaaa, 9, 9, -1},
		{10, 0x222, 0x222, 0xaaa, 9, 9, -1},
		{10, 0x222, 0x22, 0xaaa, 1, 1, -1},
		{8, 0x222, 0x20, 0xaaa, 5, -1, -1},
		{2, 0x200, 0xaaa, 0x220, 5, 5, -1},
		{10, 0x200, 0xaaa, 0x220, 5, 5, 5},
		{2, 0x202, 0xaaa, 0x222, 5, 5, -1},
		{2, 0x20, 0xaaa, 0x22, 1, 1, -1},
		{2, 0x222, 0xaaa, 0x2a2, 7, 7, -1},
		{10, 0x222, 0xaaa, 0x2a2, 7, 7, 7},
		{8, 0x222, 0xaaa, 0x222, 9, -1, -1},
		{0, 0x2, 0xaaa, 0x2, 1, -1, -1},
	} {
		list := make([]uint64, 22)
		list[0], list[2], list[3], list[9] = x.status, x.mideleg, x.mie, x.mip
		before := slices.Clone(list)
		for priv, want := range map[int64]int64{0: x.at0, 1: x.at1, 3: x.at3} {
			if got := impl.Pending(list, priv); got != want {
				t.Errorf("%+v at %d: %d, want %d", x, priv, got, want)
			}
		}
		if !slices.Equal(list, before) {
			t.Error("Pending wrote into its argument")
		}
	}
}

func TestPendingRefuses(t *testing.T) {
	full := withWord(fullCsrs(), 2, 0)
	for _, priv := range noPrivs {
		for _, list := range [][]uint64{full, fullCsrs()} {
			if got := impl.Pending(list, priv); got != -1 {
				t.Errorf("Pending at %d: %d", priv, got)
			}
		}
	}
	for _, list := range wrongLists(t) {
		for _, priv := range append([]int64{0, 1, 3}, noPrivs...) {
			if got := impl.Pending(list, priv); got != -1 {
				t.Errorf("Pending of %#x at %d: %d", list, priv, got)
			}
		}
	}
}

func TestLegal(t *testing.T) {
	for _, list := range append(rightLists(t), impl.NewCsrs()) {
		before := slices.Clone(list)
		for _, priv := range privs {
			if !impl.Legal(list, priv) {
				t.Errorf("not Legal at %d: %#x", priv, list)
			}
		}
		for _, priv := range noPrivs {
			if impl.Legal(list, priv) {
				t.Errorf("Legal at %d", priv)
			}
		}
		if !slices.Equal(list, before) {
			t.Error("Legal wrote into its argument")
		}
	}
	for _, list := range wrongLists(t) {
		for _, priv := range append([]int64{0, 1, 3}, noPrivs...) {
			if impl.Legal(list, priv) {
				t.Errorf("Legal at %d: %#x", priv, list)
			}
		}
	}
	for n := range 50 {
		for priv := int64(-3); priv <= 6; priv++ {
			want := n == 22 && (priv == 0 || priv == 1 || priv == 3)
			if got := impl.Legal(make([]uint64, n), priv); got != want {
				t.Errorf("Legal of %d words at %d: %v", n, priv, got)
			}
		}
	}
}

// wantNewList fills an answer with other words, and holds the argument and the room behind it against what they were.
func wantNewList(t *testing.T, list []uint64, call func(list []uint64) []uint64) {
	t.Helper()
	room := append(slices.Clone(list), 11, 22, 33, 44)
	before := slices.Clone(room)
	out := call(room[:22])
	if len(out) != 22 || !slices.Equal(room, before) {
		t.Fatalf("%d words answered; the argument was %#x, is %#x", len(out), before, room)
	}
	out = out[:cap(out)]
	for k := range out {
		out[k] = 77
	}
	if !slices.Equal(room, before) {
		t.Fatal("an answer shares memory with its argument")
	}
}

// Promise 15: the lists that Enter and Leave answer are new, and their arguments stay.
func TestTrapsAnswerNewMemory(t *testing.T) {
	for _, list := range handedLists(t) {
		for _, priv := range privs {
			for _, cause := range []int64{0, 9, 11} {
				for _, interrupt := range []bool{false, true} {
					wantNewList(t, list, func(list []uint64) []uint64 {
						out, _, _, _ := impl.Enter(list, priv, 0x44, cause, interrupt, 3)
						return out
					})
				}
			}
			for _, machine := range []bool{false, true} {
				if priv == 0 || priv == 1 && machine {
					continue
				}
				wantNewList(t, list, func(list []uint64) []uint64 {
					out, _, _, _ := impl.Leave(list, priv, machine)
					return out
				})
			}
		}
	}
}
