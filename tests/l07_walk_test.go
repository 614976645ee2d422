package tests

import (
	"bytes"
	"math"
	"slices"
	"testing"

	"loop.example/g00134/impl"
)

const ramFrame = uint64(impl.RamBase / 4096)

// The bits 18 and 19 of mstatus, and all others that it can have.
const (
	lendUser   = uint64(1 << 18)
	lendFetch  = uint64(1 << 19)
	restStatus = uint64(0x219aa)
)

var pageFaults = map[int64]int64{impl.KdFetch: 12, impl.KdLoad: 13, impl.KdStore: 15}

var accessFaults = map[int64]int64{impl.KdFetch: 1, impl.KdLoad: 5, impl.KdStore: 7}

var someStatuses = []uint64{0, lendUser, lendFetch, lendUser + lendFetch, restStatus, restStatus + lendUser, restStatus + lendFetch, restStatus + lendUser + lendFetch}

// path is what a walk tells.
type path struct {
	to   uint64
	code int64
	ram  []byte
}

// leafBars is a second reading of where a leaf is a page fault, its frame aside.
func leafBars(e, status uint64, priv, kind int64) bool {
	switch {
	case kind == impl.KdFetch && bit(e, 3) == 0:
	case kind == impl.KdLoad && bit(e, 1) == 0 && (bit(status, 19) == 0 || bit(e, 3) == 0):
	case kind == impl.KdStore && bit(e, 2) == 0:
	case priv == 0 && bit(e, 4) == 0:
	case priv == 1 && bit(e, 4) == 1 && (kind == impl.KdFetch || bit(status, 18) == 0):
	default:
		return false
	}
	return true
}

// led is a second reading of Walk, for arguments that are right.
func led(ram []byte, list []uint64, priv int64, addr uint64, kind int64) path {
	page, access := path{0, pageFaults[kind], ram}, path{0, accessFaults[kind], ram}
	if priv == 3 || list[15]>>60 == 0 {
		return path{addr, 0, ram}
	}
	for n := 39; n < 64; n++ {
		if bit(addr, n) != bit(addr, 38) {
			return page
		}
	}
	table := list[15] % (1 << 44) * 4096
	for _, low := range []int{30, 21, 12} {
		at := table + addr>>low%512*8
		if at < impl.RamBase || at+8 > impl.RamBase+uint64(len(ram)) || !may(list, 1, at, 8, impl.KdLoad) {
			return access
		}
		e := loaded(ram, int(at-impl.RamBase), 8)
		if bit(e, 0) == 0 || bit(e, 1) < bit(e, 2) || e>>54 != 0 {
			return page
		}
		table = e / 1024 * 4096
		if bit(e, 1)+bit(e, 3) == 0 {
			if bit(e, 4)+bit(e, 6)+bit(e, 7) > 0 {
				return page
			}
			continue
		}
		size := uint64(1) << low
		if table%size != 0 || leafBars(e, list[0], priv, kind) {
			return page
		}
		if bit(e, 6) == 0 || kind == impl.KdStore && bit(e, 7) == 0 {
			if !may(list, 1, at, 8, impl.KdStore) {
				return access
			}
			e = withBit(e, 6, 1)
			if kind == impl.KdStore {
				e = withBit(e, 7, 1)
			}
			ram = stored(ram, int(at-impl.RamBase), 8, e)
		}
		return path{table + addr%size, 0, ram}
	}
	return page
}

// wantPath holds a walk against what it must tell. Promise 7: one that leads leads again, and marks nothing more; one that faults marks nothing.
func wantPath(t *testing.T, ram []byte, list []uint64, priv int64, addr uint64, kind int64, want path) {
	t.Helper()
	ramWas, listWas := bytes.Clone(ram), slices.Clone(list)
	to, code, out := impl.Walk(ram, list, priv, addr, kind)
	if to != want.to || code != want.code {
		t.Fatalf("Walk of %d bytes, mstatus %#x, satp %#x, pmps %#x at %d, %#x, kind %d: %#x, %d; want %#x, %d",
			len(ram), list[0], list[15], list[16:21], priv, addr, kind, to, code, want.to, want.code)
	}
	if !bytes.Equal(out, want.ram) {
		t.Fatalf("Walk at %d, %#x, kind %d, code %d: the memory is not as it must be", priv, addr, kind, code)
	}
	if !bytes.Equal(ram, ramWas) || !slices.Equal(list, listWas) {
		t.Fatal("Walk wrote into an argument")
	}
	if code != 0 {
		if !bytes.Equal(out, ram) {
			t.Fatalf("Walk at %d, %#x, kind %d, code %d: a fault has marked something", priv, addr, kind, code)
		}
		return
	}
	again, nextCode, next := impl.Walk(out, list, priv, addr, kind)
	if again != to || nextCode != 0 || !bytes.Equal(next, out) {
		t.Fatalf("Walk at %d, %#x, kind %d led to %#x, and again to %#x, %d", priv, addr, kind, to, again, nextCode)
	}
}

func wantWalk(t *testing.T, ram []byte, list []uint64, priv int64, addr uint64, kind int64) path {
	t.Helper()
	want := led(ram, list, priv, addr, kind)
	wantPath(t, ram, list, priv, addr, kind, want)
	return want
}

func wantFault(t *testing.T, ram []byte, list []uint64, priv int64, addr uint64, kind int64, codes map[int64]int64) {
	t.Helper()
	wantPath(t, ram, list, priv, addr, kind, path{0, codes[kind], ram})
}

// The tables of tabled: where in the memory those of level 2, 1 and 0 begin, not in that order.
var tableAt = [3]int{4096, 3 * 4096, 0}

// entriesAt are the places in the memory of the entries by which an address goes, those of level 2, 1, 0.
func entriesAt(addr uint64) [3]int {
	var out [3]int
	for k, low := range []int{30, 21, 12} {
		out[k] = tableAt[k] + int(addr>>low%512)*8
	}
	return out
}

// tabled is a memory of four pages that leads an address to a leaf at a level, and that leaf's place.
func tabled(addr uint64, level int, leaf uint64) ([]byte, int) {
	ram, at := filled(4*4096), entriesAt(addr)
	for k := range 2 - level {
		ram = stored(ram, at[k], 8, (ramFrame+uint64(tableAt[k+1]/4096))*1024+1)
	}
	return stored(ram, at[2-level], 8, leaf), at[2-level]
}

// open are registers that go by the tables of tabled, with an entry that lets all be.
func open(status uint64) []uint64 {
	list := guarded([4]uint64{0x1f}, [4]uint64{greatestAddr})
	list[0] = status
	list[15] = 8<<60 + 0x5a5a<<44 + ramFrame + 1
	return list
}

// shutAt are such registers with one entry more, ahead of that: it has the 8 bytes at a place of the memory, and that byte.
func shutAt(status uint64, at int, b uint64) []uint64 {
	list := open(status)
	list[16] = 0x18 + b + 0x1f<<8
	list[17], list[18] = (impl.RamBase+uint64(at))/4, greatestAddr
	return list
}

// highBits are 39 to 63.
const highBits = allOnes - 1<<39 + 1

// someAddr have unlike bits at each level, with bit 38 as 0 and as 1, and the first and the last of both halves.
var someAddr = []uint64{
	0x0000000000000000, 0x0000003fffffffff, 0xffffffc000000000, 0xffffffffffffffff,
	3<<30 + 5<<21 + 9<<12 + 0x678, 0xa5<<30 + 0x15a<<21 + 0xc3<<12 + 0xabc,
	highBits + 0x1a5<<30 + 0x0a5<<21 + 0x13c<<12 + 0x123, highBits + 0x100<<30 + 0x1ff<<21 + 0x001<<12 + 0xfff,
}

const midAddr = uint64(3<<30 + 5<<21 + 9<<12 + 0x678)

// evenFrame is one that a leaf at any level may have.
const evenFrame = uint64(0x5a5<<18 + 1<<43)

// Promise 7, from every leaf at every level, at every kind, privilege and mstatus.
func TestEveryLeafLeadsAgainOrFaults(t *testing.T) {
	leads, faults := map[[3]int64]int{}, map[[3]int64]int{}
	for level := range 3 {
		for low := range uint64(256) {
			ram, _ := tabled(midAddr, level, evenFrame*1024+low%3<<8+low)
			for n, status := range someStatuses[:4] {
				list := open(status + restStatus*(low/5%2))
				for _, priv := range privs {
					for _, kind := range kinds {
						got := wantWalk(t, ram, list, priv, midAddr, kind)
						row := [3]int64{int64(level), int64(n), kind}
						if got.code == 0 {
							leads[row]++
						} else {
							faults[row]++
						}
					}
				}
			}
		}
	}
	if len(leads) != 36 || len(faults) != 36 {
		t.Errorf("%d, %d rows with walks that lead, that fault", len(leads), len(faults))
	}
}

// The same by hand: which entries lead, by their low bits.
func TestLeavesByHand(t *testing.T) {
	for _, x := range []struct {
		bits               uint64
		priv               int64
		status             uint64
		fetch, load, store bool
	}{
		{0xcf, 1, 0, true, true, true},
		{0xcf, 0, 0, false, false, false},
		{0xcf, 0, lendUser + lendFetch, false, false, false},
		{0xcf, 1, lendUser + lendFetch, true, true, true},
		{0xdf, 0, 0, true, true, true},
		{0xdf, 0, lendUser, true, true, true},
		{0xdf, 1, 0, false, false, false},
		{0xdf, 1, lendFetch, false, false, false},
		{0xdf, 1, lendUser, false, true, true},
		{0xdf, 1, restStatus, false, false, false},
		{0xdf, 1, restStatus + lendUser, false, true, true},
		{0xc3, 1, 0, false, true, false},
		{0xc3, 1, lendUser + lendFetch, false, true, false},
		{0xc7, 1, 0, false, true, true},
		{0xc9, 1, 0, true, false, false},
		{0xc9, 1, lendFetch, true, true, false},
		{0xc9, 1, lendUser + restStatus, true, false, false},
		{0xcb, 1, 0, true, true, false},
		{0xd3, 0, 0, false, true, false},
		{0xd3, 1, lendUser, false, true, false},
		{0xd7, 0, lendFetch, false, true, true},
		{0xd9, 0, 0, true, false, false},
		{0xd9, 0, lendFetch, true, true, false},
		{0xd9, 1, lendFetch, false, false, false},
		{0xd9, 1, lendFetch + lendUser, false, true, false},
		{0xd9, 1, lendUser, false, false, false},
		{0xef, 1, 0, true, true, true},
		{0xff, 0, 0, true, true, true},
		{0xc5, 1, lendFetch, false, false, false},
		{0xcd, 1, lendFetch, false, false, false},
		{0xdd, 0, lendFetch, false, false, false},
		{0xce, 1, lendFetch, false, false, false},
		{0xde, 0, lendFetch, false, false, false},
		{0x00, 1, 0, false, false, false},
		{0x0e, 1, 0, false, false, false},
		{0xc1, 1, 0, false, false, false},
		{0x05, 1, 0, false, false, false},
		{0x0d, 1, 0, false, false, false},
	} {
		for level := range 3 {
			ram, _ := tabled(midAddr, level, evenFrame*1024+x.bits)
			list := open(x.status)
			to := evenFrame*4096 + midAddr%(1<<(12+9*level))
			for kind, is := range map[int64]bool{impl.KdFetch: x.fetch, impl.KdLoad: x.load, impl.KdStore: x.store} {
				if is {
					wantPath(t, ram, list, x.priv, midAddr, kind, path{to, 0, ram})
				} else {
					wantFault(t, ram, list, x.priv, midAddr, kind, pageFaults)
				}
			}
		}
	}
}

// Promise 7: a memory of one page, with one great leaf.
func TestOneGreatLeaf(t *testing.T) {
	wants := map[int64][]int{impl.KdFetch: {0, 3, 4}, impl.KdLoad: {0, 1, 4}, impl.KdStore: {0, 1, 2, 4}}
	for _, addr := range someAddr {
		at := int(addr>>30%512) * 8
		for _, frame := range []uint64{0, 1 << 18, 0x80000, 3 << 42, 1<<44 - 1<<18} {
			leaf := frame*1024 + 0xdf
			ram := stored(filled(4096), at, 8, leaf)
			list := open(0)
			list[15] = 8<<60 + ramFrame
			for _, kind := range kinds {
				wantPath(t, ram, list, 0, addr, kind, path{frame*4096 + addr%(1<<30), 0, ram})
				for _, n := range wants[kind] {
					wantFault(t, stored(ram, at, 8, withBit(leaf, n, 0)), list, 0, addr, kind, pageFaults)
				}
				for n := range 8 {
					if slices.Contains(wants[kind], n) {
						continue
					}
					less := withBit(leaf, n, 0)
					if kind == impl.KdFetch && n == 1 {
						less = withBit(less, 2, 0)
					}
					if got := wantWalk(t, stored(ram, at, 8, less), list, 0, addr, kind); got.code != 0 {
						t.Fatalf("kind %d does not lead without bit %d", kind, n)
					}
				}
			}
		}
	}
}

// Each address leads by its own entries, and has its own low bits.
func TestLowBitsAreTheAddress(t *testing.T) {
	for level := range 3 {
		size := uint64(1) << (12 + 9*level)
		for _, base := range someAddr {
			ram, _ := tabled(base, level, evenFrame*1024+0xdf)
			for _, low := range []uint64{0, 1, 0x7ff, 0x800, 0xfff, 0x1000, 0x155555, 0x1fffff, 0x200000, 0x2aaaaaaa, 0x3fffffff} {
				addr := base - base%size + low%size
				for _, kind := range kinds {
					wantPath(t, ram, open(0), 0, addr, kind, path{evenFrame*4096 + low%size, 0, ram})
				}
			}
		}
	}
}

// The frame's bits, one by one: those below the leaf's level must be 0, all others lead.
func TestFramesOfLeaves(t *testing.T) {
	for level := range 3 {
		for n := range 44 {
			for _, others := range []uint64{0, evenFrame, 1<<44 - 1<<18} {
				frame := others | 1<<n
				ram, _ := tabled(midAddr, level, frame*1024+0xdf)
				for _, kind := range kinds {
					if n < 9*level {
						wantFault(t, ram, open(0), 0, midAddr, kind, pageFaults)
					} else {
						wantPath(t, ram, open(0), 0, midAddr, kind, path{frame*4096 + midAddr%(1<<(12+9*level)), 0, ram})
					}
				}
			}
		}
	}
	ram, _ := tabled(allOnes, 0, (1<<44-1)*1024+0xdf)
	wantPath(t, ram, open(0), 0, allOnes, impl.KdLoad, path{1<<56 - 1, 0, ram})
}

// What a leaf leads to is not asked for here: neither whether memory is there nor whether it may be touched.
func TestWhereItLeadsMayBeAnywhere(t *testing.T) {
	for _, frame := range []uint64{0, ramFrame - 1, ramFrame, ramFrame + 2, ramFrame + 100, 1<<44 - 1} {
		ram, at := tabled(midAddr, 0, frame*1024+0xdf)
		list := open(0)
		// Only the four pages of the memory may be loaded from, and nothing stored into.
		list[16], list[17] = 0x19, impl.RamBase/4+0x7ff
		for _, kind := range kinds {
			wantPath(t, ram, list, 0, midAddr, kind, path{frame*4096 + 0x678, 0, ram})
			wantFault(t, stored(ram, at, 8, frame*1024+0x1f), list, 0, midAddr, kind, accessFaults)
		}
	}
}

// Each of the bits 39 to 63 alone unlike bit 38, and all of them, from both sides.
func TestAddressesThatAreNotWidened(t *testing.T) {
	for _, addr := range someAddr {
		for level := range 3 {
			ram, _ := tabled(addr, level, evenFrame*1024+0xdf)
			for _, kind := range kinds {
				if got := wantWalk(t, ram, open(0), 0, addr, kind); got.code != 0 {
					t.Fatalf("%#x: code %d", addr, got.code)
				}
				for n := 38; n < 64; n++ {
					for _, turned := range []uint64{addr ^ 1<<n, addr ^ (allOnes - 1<<n + 1)} {
						if n > 38 || turned == addr^1<<38 {
							wantFault(t, ram, open(0), 0, turned, kind, pageFaults)
						}
					}
				}
			}
		}
	}
	ram := stored(filled(4096), 0, 8, 0xcf)
	ram = stored(stored(ram, 255*8, 8, 0xcf), 256*8, 8, 0xcf)
	list := withWord(open(0), 15, 8<<60+ramFrame)
	for _, kind := range kinds {
		wantPath(t, ram, list, 1, 1<<38-1, kind, path{1<<30 - 1, 0, ram})
		wantFault(t, ram, list, 1, 1<<38, kind, pageFaults)
		wantFault(t, ram, list, 1, 1<<39-1, kind, pageFaults)
		wantFault(t, ram, list, 1, 1<<39, kind, pageFaults)
		wantFault(t, ram, list, 1, 1<<63, kind, pageFaults)
		wantFault(t, ram, list, 1, 0xffffffbfffffffff, kind, pageFaults)
		wantPath(t, ram, list, 1, 0xffffffc000000000, kind, path{0, 0, ram})
	}
}

// A memory whose first and last 8 bytes are leaves; the table lies so that its entry is there, or one beside them.
func TestEntriesAtTheEndsOfTheMemory(t *testing.T) {
	for _, pages := range []int{1, 2, 16} {
		n := pages * 4096
		ram := make([]byte, n)
		ram = stored(stored(ram, 0, 8, 1<<28+0xdf), n-8, 8, 2<<28+0xdf)
		last := ramFrame + uint64(pages) - 1
		for _, x := range []struct {
			frame, index, to uint64
			codes            map[int64]int64
		}{
			{ramFrame, 0, 1 << 30, nil},
			{last, 511, 2 << 30, nil},
			{ramFrame, 1, 0, pageFaults},
			{last, 510, 0, pageFaults},
			{ramFrame - 1, 511, 0, accessFaults},
			{ramFrame - 1, 0, 0, accessFaults},
			{last + 1, 0, 0, accessFaults},
			{last + 1, 511, 0, accessFaults},
			{0, 0, 0, accessFaults},
			{0, 511, 0, accessFaults},
			{1<<44 - 1, 0, 0, accessFaults},
			{1<<44 - 1, 511, 0, accessFaults},
			{ramFrame + 1<<20, 0, 0, accessFaults},
			{ramFrame + 1<<43, 0, 0, accessFaults},
			{ramFrame / 2, 0, 0, accessFaults},
		} {
			addr := impl.Widen(x.index<<30, 39)
			list := withWord(open(0), 15, 8<<60+x.frame)
			for _, kind := range kinds {
				if x.codes == nil {
					wantPath(t, ram, list, 0, addr, kind, path{x.to, 0, ram})
				} else {
					wantFault(t, ram, list, 0, addr, kind, x.codes)
				}
			}
		}
	}
}

// Tables that are pointed to, at both levels: inside the memory, ahead of it and behind it.
func TestTablesThatArePointedTo(t *testing.T) {
	for _, level := range []int{1, 0} {
		for _, index := range []uint64{0, 1, 255, 256, 510, 511} {
			addr := uint64(3<<30) + index<<(12+9*level)
			if level == 0 {
				addr += 5 << 21
			}
			ram, at := tabled(addr, level, evenFrame*1024+0xdf)
			pointer := entriesAt(addr)[1-level]
			want := path{evenFrame * 4096, 0, ram}
			wantPath(t, ram, open(0), 0, addr, impl.KdStore, want)
			for _, frame := range []uint64{0, 1, ramFrame - 1, ramFrame + 4, ramFrame + 1<<20, ramFrame + 1<<43, 1<<44 - 1} {
				out := stored(ram, pointer, 8, frame*1024+1)
				for _, kind := range kinds {
					wantFault(t, out, open(0), 0, addr, kind, accessFaults)
				}
			}
			// Its bits 5, 8 and 9 say nothing.
			for _, more := range []uint64{0x20, 0x100, 0x200, 0x320} {
				out := stored(ram, pointer, 8, loaded(ram, pointer, 8)+more)
				wantPath(t, out, open(0), 0, addr, impl.KdLoad, path{want.to, 0, out})
			}
			for _, kind := range kinds {
				wantFault(t, stored(ram, at, 8, 0), open(0), 0, addr, kind, pageFaults)
			}
		}
	}
}

// satp's bits 44 to 59 say nothing of where the table is.
func TestSatp(t *testing.T) {
	ram, _ := tabled(midAddr, 1, evenFrame*1024+0xcf)
	for n := range 44 {
		list := withWord(open(0), 15, open(0)[15]^1<<n)
		for _, kind := range kinds {
			if wantWalk(t, ram, list, 1, midAddr, kind).code == 0 {
				t.Fatalf("leads with bit %d of satp turned", n)
			}
		}
	}
	for n := 44; n < 60; n++ {
		list := withWord(open(0), 15, open(0)[15]^1<<n)
		for _, kind := range kinds {
			wantPath(t, ram, list, 1, midAddr, kind, path{evenFrame*4096 + midAddr%(1<<21), 0, ram})
		}
	}
}

// Bits that stop an entry, one by one, at each level at which a walk meets one: a pointer, and a leaf.
func TestEntriesThatStopAWalk(t *testing.T) {
	for level := range 3 {
		for _, leaf := range []uint64{0xcf, 0xc3, 0xc9} {
			ram, _ := tabled(midAddr, level, evenFrame*1024+leaf)
			at := entriesAt(midAddr)
			for k := range 3 - level {
				was := loaded(ram, at[k], 8)
				wrong := []uint64{was - 1, 0, 0x05, 0x0d, 0xcd, 0xc5, was&^0xff + 0x04, was&^0xff + 0x05, was&^0xff + 0x0d}
				for n := 54; n < 64; n++ {
					wrong = append(wrong, was+1<<n)
				}
				for _, e := range append(wrong, was+0x3ff<<54) {
					for _, kind := range kinds {
						wantFault(t, stored(ram, at[k], 8, e), open(lendFetch), 1, midAddr, kind, pageFaults)
					}
				}
			}
		}
	}
}

// A pointer with a bit that only a leaf may have, at each level; and one at level 0, with and without them.
func TestPointersThatStopAWalk(t *testing.T) {
	ram, at := tabled(midAddr, 0, evenFrame*1024+0xdf)
	pointers := entriesAt(midAddr)
	for _, kind := range kinds {
		wantPath(t, ram, open(0), 0, midAddr, kind, path{evenFrame*4096 + 0x678, 0, ram})
		for k := range 2 {
			for _, bits := range []uint64{0x10, 0x40, 0x80, 0x50, 0xc0, 0xd0} {
				wantFault(t, stored(ram, pointers[k], 8, loaded(ram, pointers[k], 8)+bits), open(0), 0, midAddr, kind, pageFaults)
			}
		}
		for _, frame := range []uint64{0, ramFrame, ramFrame + 1, ramFrame + 3, evenFrame} {
			for _, bits := range []uint64{0x01, 0x11, 0x41, 0x81, 0xd1, 0x21, 0x301} {
				for _, priv := range []int64{0, 1} {
					wantFault(t, stored(ram, at, 8, frame*1024+bits), open(lendUser+lendFetch), priv, midAddr, kind, pageFaults)
				}
			}
		}
	}
}

// A table that points to itself is one of every level.
func TestATableThatPointsToItself(t *testing.T) {
	ram := make([]byte, 4096)
	ram = stored(ram, 7*8, 8, ramFrame*1024+1)
	ram = stored(ram, 9*8, 8, evenFrame*1024+0x0f)
	list := withWord(open(0), 15, 8<<60+ramFrame)
	for _, kind := range kinds {
		marks := map[int64]uint64{impl.KdFetch: 0x4f, impl.KdLoad: 0x4f, impl.KdStore: 0xcf}[kind]
		marked := stored(ram, 9*8, 8, evenFrame*1024+marks)
		wantFault(t, ram, list, 1, 7<<30+7<<21+7<<12, kind, pageFaults)
		wantPath(t, ram, list, 1, 7<<30+7<<21+9<<12+5, kind, path{evenFrame*4096 + 5, 0, marked})
		wantPath(t, ram, list, 1, 7<<30+9<<21+7<<12+5, kind, path{evenFrame*4096 + 7<<12 + 5, 0, marked})
		wantPath(t, ram, list, 1, 9<<30+7<<21+7<<12+5, kind, path{evenFrame*4096 + 7<<21 + 7<<12 + 5, 0, marked})
	}
}

// An entry that may not be loaded, at each level: an access fault of the access's own kind, whatever it is.
func TestEntriesThatMayNotBeLoaded(t *testing.T) {
	for level := range 3 {
		ram, _ := tabled(midAddr, level, evenFrame*1024+0xdf)
		places := entriesAt(midAddr)
		for k := range 3 - level {
			at := places[k]
			for _, kind := range kinds {
				for _, b := range []uint64{0x00, 0x04, 0x80, 0x84} {
					wantFault(t, ram, shutAt(0, at, b), 0, midAddr, kind, accessFaults)
					wantFault(t, ram, shutAt(restStatus, at, b), 0, midAddr, kind, accessFaults)
					// Even where the entry would be a page fault.
					wantFault(t, stored(ram, at, 8, 0), shutAt(0, at, b), 0, midAddr, kind, accessFaults)
				}
				for _, b := range []uint64{0x01, 0x03, 0x05, 0x07, 0x81, 0x85} {
					wantPath(t, ram, shutAt(0, at, b), 0, midAddr, kind, led(ram, open(0), 0, midAddr, kind))
				}
				for _, beside := range []int{at - 8, at + 8} {
					if beside >= 0 {
						wantPath(t, ram, shutAt(0, beside, 0x80), 0, midAddr, kind, led(ram, open(0), 0, midAddr, kind))
					}
				}
				// Four bytes of it are not all.
				for _, half := range []int{at, at + 4} {
					list := shutAt(0, half, 0x07)
					list[16] = list[16] - 0x18 + 0x10
					wantFault(t, ram, list, 0, midAddr, kind, accessFaults)
				}
			}
		}
		none := open(0)
		none[16], none[17] = 0, 0
		for _, kind := range kinds {
			wantFault(t, ram, none, 0, midAddr, kind, accessFaults)
			wantFault(t, ram, none, 1, midAddr, kind, accessFaults)
			wantPath(t, ram, none, 3, midAddr, kind, path{midAddr, 0, ram})
		}
	}
}

// Bits 6 and 7 of a leaf: what each kind marks, where it may be stored into and where not.
func TestMarks(t *testing.T) {
	for _, x := range []struct {
		was   uint64
		kind  int64
		is    uint64
		fails bool // where the entry may not be stored into
	}{
		{0x00, impl.KdFetch, 0x40, true},
		{0x40, impl.KdFetch, 0x40, false},
		{0x80, impl.KdFetch, 0xc0, true},
		{0xc0, impl.KdFetch, 0xc0, false},
		{0x00, impl.KdLoad, 0x40, true},
		{0x40, impl.KdLoad, 0x40, false},
		{0x80, impl.KdLoad, 0xc0, true},
		{0xc0, impl.KdLoad, 0xc0, false},
		{0x00, impl.KdStore, 0xc0, true},
		{0x40, impl.KdStore, 0xc0, true},
		{0x80, impl.KdStore, 0xc0, true},
		{0xc0, impl.KdStore, 0xc0, false},
	} {
		for level := range 3 {
			for _, more := range []uint64{0x0f, 0x1f, 0x2f, 0x30f} {
				leaf := evenFrame*1024 + more
				ram, at := tabled(midAddr, level, leaf+x.was)
				priv := int64(1 - bit(more, 4))
				want := path{evenFrame*4096 + midAddr%(1<<(12+9*level)), 0, stored(ram, at, 8, leaf+x.is)}
				wantPath(t, ram, open(0), priv, midAddr, x.kind, want)
				for _, b := range []uint64{0x03, 0x07, 0x83, 0x87} {
					wantPath(t, ram, shutAt(0, at, b), priv, midAddr, x.kind, want)
				}
				for _, b := range []uint64{0x01, 0x05, 0x81, 0x85} {
					if x.fails {
						wantFault(t, ram, shutAt(0, at, b), priv, midAddr, x.kind, accessFaults)
					} else {
						wantPath(t, ram, shutAt(0, at, b), priv, midAddr, x.kind, want)
					}
				}
			}
		}
	}
}

// Pointers are not marked, and need not be stored into.
func TestPointersMayBeReadAlone(t *testing.T) {
	ram, at := tabled(midAddr, 0, evenFrame*1024+0x0f)
	places := entriesAt(midAddr)
	for _, kind := range kinds {
		marks := map[int64]uint64{impl.KdFetch: 0x4f, impl.KdLoad: 0x4f, impl.KdStore: 0xcf}[kind]
		want := path{evenFrame*4096 + 0x678, 0, stored(ram, at, 8, evenFrame*1024+marks)}
		for _, k := range []int{0, 1} {
			for _, b := range []uint64{0x01, 0x05, 0x81, 0x85} {
				wantPath(t, ram, shutAt(0, places[k], b), 1, midAddr, kind, want)
			}
		}
	}
}

// Of several faults it is the first on the way.
func TestTheFirstFaultIsTold(t *testing.T) {
	ram, at := tabled(midAddr, 0, evenFrame*1024+0x0f)
	places := entriesAt(midAddr)
	for _, kind := range kinds {
		// The address ahead of a table that is nowhere.
		wantFault(t, ram, withWord(open(0), 15, 8<<60), 1, 1<<39, kind, pageFaults)
		wantFault(t, ram, withWord(open(0), 15, 8<<60), 1, midAddr, kind, accessFaults)
		// What the leaf says ahead of a mark that may not be.
		wantFault(t, ram, shutAt(0, at, 0x01), 0, midAddr, kind, pageFaults)
		wantFault(t, ram, shutAt(0, at, 0x01), 1, midAddr, kind, accessFaults)
		wantFault(t, stored(ram, at, 8, evenFrame*1024+0x01), shutAt(0, at, 0x01), 1, midAddr, kind, pageFaults)
		// A pointer that is wrong ahead of the table that it points to, which is nowhere.
		for k := range 2 {
			wantFault(t, stored(ram, places[k], 8, 0x01), open(0), 1, midAddr, kind, accessFaults)
			for _, e := range []uint64{0x00, 0x05, 0x11, 0x41, 0x81, 0x01 + 1<<54, 0x01 + 1<<63} {
				wantFault(t, stored(ram, places[k], 8, e), open(0), 1, midAddr, kind, pageFaults)
			}
		}
	}
}

// Where no table is gone by, the address stays, whatever it is and whatever the tables say.
func TestWithoutTables(t *testing.T) {
	ram, _ := tabled(midAddr, 0, evenFrame*1024+0x0f)
	lists := append([][]uint64{open(0), open(someStatuses[7]), impl.NewCsrs(), fullCsrs()}, shutAt(0, 0, 0x80))
	addrs := append([]uint64{midAddr, 1 << 38, 1 << 39, 1 << 63, impl.RamBase, impl.RamBase + 7, impl.RamBase + 65536}, someAddr...)
	for _, list := range lists {
		bare := withWord(list, 15, list[15]%(1<<60))
		for _, addr := range append(addrs, edgeNumbers...) {
			for _, kind := range kinds {
				wantPath(t, ram, list, 3, addr, kind, path{addr, 0, ram})
				for _, priv := range privs {
					wantPath(t, ram, bare, priv, addr, kind, path{addr, 0, ram})
				}
			}
		}
	}
}

// dice are numbers without a rule to be seen, the same ones each time.
type dice uint64

func (d *dice) below(n uint64) uint64 {
	*d ^= *d << 13
	*d ^= *d >> 7
	*d ^= *d << 17
	return uint64(*d) >> 11 % n
}

// mixedEntries is a memory that is full of entries: pointers into it, leaves, and others.
func mixedEntries(d *dice, pages uint64) []byte {
	ram := make([]byte, 0, pages*4096)
	for range pages * 512 {
		e := (ramFrame+d.below(pages+pages/8+1))*1024 + 1
		switch d.below(8) {
		case 0:
			e = d.below(1<<44)*1024 + d.below(1024)
		case 1:
			e = d.below(1<<26)<<28 + 1 + 2*d.below(512)
		case 2:
			e = d.below(1<<35)<<19 + 1 + 2*d.below(512)
		case 3, 4:
			e = d.below(1<<26)<<28 + []uint64{0x0f, 0x1f, 0x4f, 0xdf, 0x03, 0xd7, 0x19, 0x5b}[d.below(8)]
		case 5:
			e += d.below(32) * d.below(2) * 32
		}
		for k := range 8 {
			ram = append(ram, byte(e>>(8*k)))
		}
	}
	return ram
}

// Promise 7, from memories and registers of all sorts.
func TestMixedWalks(t *testing.T) {
	d, seen := dice(0x9e3779b97f4a7c15), map[int64]int{}
	marked, guards := 0, guardedLists()
	guards = guards[len(guards)-3*256:] // those about the memory's beginning
	for _, pages := range []uint64{1, 2, 3, 9, 16} {
		ram := mixedEntries(&d, pages)
		for range 4000 {
			list := open(someStatuses[d.below(8)])
			if d.below(3) == 0 {
				copy(list[16:21], guards[d.below(uint64(len(guards)))][16:21])
			}
			list[15] = 8<<60 + d.below(1<<16)<<44 + ramFrame + d.below(pages)
			addr := impl.Widen(d.below(1<<39), 39)
			if d.below(3) == 0 {
				addr = impl.Widen(d.below(2)*255<<30+d.below(4)<<30+d.below(4)<<21+d.below(4)<<12, 39)
			}
			got := wantWalk(t, ram, list, int64(d.below(2)), addr, int64(1+d.below(3)))
			seen[got.code]++
			if !bytes.Equal(got.ram, ram) {
				marked++
			}
		}
	}
	for _, code := range []int64{0, 1, 5, 7, 12, 13, 15} {
		if seen[code] < 100 {
			t.Errorf("code %d was met %d times", code, seen[code])
		}
	}
	if marked < 100 {
		t.Errorf("%d walks marked something", marked)
	}
}

// The registers that the tests walk by are right: no fault of theirs comes from what is not as told.
func TestWalkRegistersAreRight(t *testing.T) {
	for _, status := range someStatuses {
		for at := 0; at < 16384; at += 8 {
			if list := shutAt(status, at, 0x85); !impl.CsrsOk(list) || !impl.CsrsOk(open(status)) {
				t.Fatalf("not CsrsOk: %#x", list)
			}
		}
	}
}

func wantNoWalk(t *testing.T, ram []byte, list []uint64, priv int64, addr uint64, kind int64) {
	t.Helper()
	code, is := accessFaults[kind]
	if !is {
		code = 1
	}
	ramWas, listWas := bytes.Clone(ram), slices.Clone(list)
	to, got, out := impl.Walk(ram, list, priv, addr, kind)
	if to != 0 || got != code || len(out) != 0 {
		t.Fatalf("Walk of %d bytes, %#x at %d, %#x, kind %d: %#x, %d, %d bytes; want 0, %d, nothing", len(ram), list, priv, addr, kind, to, got, len(out), code)
	}
	if !bytes.Equal(ram, ramWas) || !slices.Equal(list, listWas) {
		t.Fatal("Walk wrote into an argument")
	}
}

func TestWalkRefuses(t *testing.T) {
	ram, _ := tabled(midAddr, 0, evenFrame*1024+0x1f)
	right := [][]uint64{open(0), open(restStatus + lendUser), impl.NewCsrs(), fullCsrs()}
	addrs := []uint64{0, midAddr, impl.RamBase, 1 << 39, allOnes}
	allKinds := append(slices.Clone(kinds), noKinds...)
	allPrivs := append(slices.Clone(privs), noPrivs...)
	for _, addr := range addrs {
		for _, kind := range allKinds {
			for _, list := range right {
				for _, n := range noMemories {
					for _, priv := range []int64{0, 1, 3, 2} {
						wantNoWalk(t, filled(n), list, priv, addr, kind)
					}
				}
				for _, priv := range noPrivs {
					wantNoWalk(t, ram, list, priv, addr, kind)
				}
			}
		}
		for _, kind := range noKinds {
			for _, list := range right {
				for _, priv := range allPrivs {
					wantNoWalk(t, ram, list, priv, addr, kind)
				}
			}
		}
	}
	for k, list := range barred(t) {
		for _, priv := range []int64{0, 1, 3, 2} {
			for _, kind := range append(slices.Clone(kinds), noKinds[k%len(noKinds)]) {
				wantNoWalk(t, ram, list, priv, addrs[k%len(addrs)], kind)
				wantNoWalk(t, ram[:noMemories[k%4]], list, priv, midAddr, kind)
			}
		}
	}
	wantNoWalk(t, nil, nil, 0, 0, 0)
	wantNoWalk(t, nil, open(0), 3, 5, impl.KdStore)
	wantNoWalk(t, ram, nil, 3, 5, impl.KdLoad)
}

// Each of the 22 words of registers that go by tables with a bit that it can not have.
func TestWalkOfListsThatAreNotRight(t *testing.T) {
	ram, _ := tabled(midAddr, 0, evenFrame*1024+0x1f)
	list := open(0)
	wrong := [][]uint64{list[:21], append(slices.Clone(list), 0), withWord(list, 0, 0x1000)}
	for mode := range uint64(16) {
		if mode != 0 && mode != 8 {
			wrong = append(wrong, withWord(list, 15, mode<<60+ramFrame+1))
		}
	}
	for _, l := range csrLines(t) {
		for n := range 64 {
			if !slices.Contains(l.bits, n) {
				wrong = append(wrong, withWord(list, l.place, list[l.place]|1<<n))
			}
		}
	}
	for _, x := range wrong {
		for _, priv := range privs {
			for _, kind := range kinds {
				wantNoWalk(t, ram, x, priv, midAddr, kind)
				wantEffective(t, x, priv, kind, -1)
			}
		}
	}
}

func wantEffective(t *testing.T, list []uint64, priv, kind, want int64) {
	t.Helper()
	before := slices.Clone(list)
	if got := impl.Effective(list, priv, kind); got != want {
		t.Fatalf("Effective of %#x at %d, kind %d: %d, want %d", list, priv, kind, got, want)
	}
	if !slices.Equal(list, before) {
		t.Fatal("Effective wrote into its argument")
	}
}

func TestEffective(t *testing.T) {
	for _, base := range [][]uint64{impl.NewCsrs(), open(0), fullCsrs()} {
		for _, others := range []uint64{0, 0xc01aa, 0x2, 0x8, 0x100, lendUser, lendFetch} {
			for _, from := range []int64{0, 1, 3} {
				list := withWord(base, 0, others+uint64(from)*2048)
				lent := withWord(base, 0, list[0]+1<<17)
				for _, priv := range privs {
					for _, kind := range kinds {
						wantEffective(t, list, priv, kind, priv)
					}
					wantEffective(t, lent, priv, impl.KdFetch, priv)
					wantEffective(t, lent, priv, impl.KdLoad, from)
					wantEffective(t, lent, priv, impl.KdStore, from)
				}
			}
		}
	}
}

func TestEffectiveRefuses(t *testing.T) {
	for _, list := range [][]uint64{impl.NewCsrs(), fullCsrs(), open(0), open(0x20800)} {
		for _, priv := range noPrivs {
			for _, kind := range append(slices.Clone(kinds), noKinds...) {
				wantEffective(t, list, priv, kind, -1)
			}
		}
		for _, kind := range noKinds {
			for _, priv := range privs {
				wantEffective(t, list, priv, kind, -1)
			}
		}
	}
	for _, list := range barred(t) {
		for _, priv := range []int64{0, 1, 3, 2, -1} {
			for _, kind := range []int64{1, 2, 3, 0, 4} {
				wantEffective(t, list, priv, kind, -1)
			}
		}
	}
}

func TestEntry(t *testing.T) {
	frames := []uint64{0, 1, 2, 0x1ff, 0x80000, 0x80001, 1 << 43, 1<<44 - 2, 1<<44 - 1}
	noFrames := []uint64{1 << 44, 1<<44 + 1, 1 << 45, 1 << 53, 1 << 54, 1 << 63, allOnes - 1, allOnes}
	var bits []int64
	for n := range int64(256) {
		bits = append(bits, n)
	}
	noBits := []int64{-1, -2, -255, -256, -1 << 32, 256, 257, 511, 512, 1023, 1024, 1 << 32, 1<<32 + 1, math.MaxInt64, math.MaxInt64 - 255, math.MinInt64, math.MinInt64 + 1, math.MinInt64 + 255}
	for _, b := range bits {
		for _, frame := range frames {
			if got := impl.Entry(frame, b); got != frame*1024+uint64(b) {
				t.Fatalf("Entry of %#x, %d: %#x", frame, b, got)
			}
		}
		for _, frame := range noFrames {
			if got := impl.Entry(frame, b); got != 0 {
				t.Fatalf("Entry of %#x, %d: %#x", frame, b, got)
			}
		}
	}
	for _, b := range noBits {
		for _, frame := range append(slices.Clone(frames), noFrames...) {
			if got := impl.Entry(frame, b); got != 0 {
				t.Fatalf("Entry of %#x, %d: %#x", frame, b, got)
			}
		}
	}
	for want, got := range map[uint64]uint64{
		0:                  impl.Entry(0, 0),
		255:                impl.Entry(0, 255),
		0x20000001:         impl.Entry(0x80000, 1),
		0x003ffffffffffcff: impl.Entry(1<<44-1, 255),
		0x003ffffffffffc00: impl.Entry(1<<44-1, 0),
	} {
		if got != want {
			t.Errorf("Entry: %#x, want %#x", got, want)
		}
	}
}

// Promise 15: what is answered is new memory, whether a walk leads, marks, faults or goes by no table; the arguments and what is about them stay.
func TestWalkAnswersNewMemory(t *testing.T) {
	codes := map[int64]int{}
	for _, leaf := range []uint64{0x1f, 0x5f, 0xdf, 0x0f, 0xcf, 0x00} {
		for level := range 3 {
			made, at := tabled(midAddr, level, evenFrame*1024+leaf)
			whole := filled(3 * len(made))
			ram := whole[len(made) : 2*len(made)]
			copy(ram, made)
			for _, b := range []uint64{0x07, 0x01, 0x80} {
				words := append(slices.Clone(shutAt(0, at, b)), 11, 22, 33)
				for _, priv := range privs {
					for _, kind := range kinds {
						before, wordsWas := bytes.Clone(whole), slices.Clone(words)
						_, code, out := impl.Walk(ram, words[:22], priv, midAddr, kind)
						codes[code]++
						_, _, other := impl.Walk(ram, words[:22], priv, midAddr, kind)
						if len(out) != len(ram) || !bytes.Equal(whole, before) || !slices.Equal(words, wordsWas) {
							t.Fatalf("%d bytes answered, or an argument was written into; code %d", len(out), code)
						}
						checkApart(t, other, other, out)
						checkApart(t, whole, ram, out)
					}
				}
			}
		}
	}
	for _, code := range []int64{0, 1, 5, 7, 12, 13, 15} {
		if codes[code] == 0 {
			t.Errorf("code %d was not met", code)
		}
	}
}

// Promise 15: whatever they are given, they answer.
func TestWalkAnswersAtEveryArgument(t *testing.T) {
	mixed, rights := mixedNumbers(6000), rightLists(t)
	numbers := append(slices.Clone(noKinds), noPrivs...)
	numbers = append(numbers, 0, 1, 2, 3, 1, 2, 3, 0, 1)
	lengths := append([]int{4096, 4096, 8192, 65536}, noMemories...)
	d := dice(77)
	for k := range 4000 {
		ram := filled(lengths[k%len(lengths)])
		list := slices.Clone(mixed[k : k+k%30])
		if k%2 == 0 {
			list = slices.Clone(rights[k/2%len(rights)])
			list[15] = 8<<60 + ramFrame + mixed[k]%20 - 2
		}
		priv, kind := numbers[d.below(uint64(len(numbers)))], numbers[d.below(uint64(len(numbers)))]
		for _, addr := range []uint64{mixed[k+1], impl.Widen(mixed[k+2], 39)} {
			to, code, out := impl.Walk(ram, list, priv, addr, kind)
			if code != 0 && to != 0 || len(out) != 0 && len(out) != len(ram) {
				t.Fatalf("Walk answers %#x, %d, %d bytes", to, code, len(out))
			}
			if impl.RamOk(ram) && impl.CsrsOk(list) {
				for _, priv := range privs {
					wantWalk(t, ram, list, priv, addr, int64(1+k%3))
				}
			}
		}
		if got := impl.Effective(list, priv, kind); got < -1 || got > 3 {
			t.Fatalf("Effective answers %d", got)
		}
		impl.Entry(mixed[k+1], priv)
		impl.Entry(mixed[k+1], int64(mixed[k+2]))
	}
}
