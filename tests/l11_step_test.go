package tests

import (
	"bytes"
	"math"
	"runtime"
	"slices"
	"strings"
	"testing"

	"loop.example/g00134/impl"
)

// stepper holds steps against what they must be.
type stepper struct {
	t       *testing.T
	ops     []opLine
	csrs    []csrLine
	numbers []int64
	lead    way
}

func stepperOf(t *testing.T) stepper {
	t.Helper()
	return stepper{t, opLines(t), csrLines(t), csrNumbers(t), led}
}

// after is what a step comes to.
type after struct {
	m    impl.Machine
	what int64
}

// trapped is a second reading of what a trap makes of a machine.
func trapped(m impl.Machine, cause int64, interrupt bool, value uint64) impl.Machine {
	e := entered(m.Csrs, m.Priv, m.Pc, cause, interrupt, value)
	m.Csrs, m.Priv, m.Pc = e.list, e.priv, e.pc
	return m
}

func raised(m impl.Machine, cause int64, value uint64) after {
	return after{trapped(m, cause, false, value), 2}
}

// done is a machine behind an instruction that goes through: rd gets x, and what it comes to is at pc.
func done(m impl.Machine, rd int64, x, pc uint64) after {
	m.X = withWord(withWord(m.X, int(rd), x), 0, 0)
	m.Csrs = withWord(m.Csrs, 21, m.Csrs[21]+1)
	m.Pc = pc
	return after{m, 1}
}

func jumped(m impl.Machine, rd int64, to uint64) after {
	if to/2%2 == 1 {
		return raised(m, 0, to)
	}
	return done(m, rd, m.Pc+4, to)
}

// read is a second reading of Step, for a machine that is right.
func (s stepper) read(m impl.Machine) after {
	if m.Wait && m.Csrs[3]&m.Csrs[9] == 0 {
		return after{m, 4}
	}
	m.Wait = false
	if n := taken(m.Csrs, m.Priv); n >= 0 {
		return after{trapped(m, n, true, 0), 3}
	}
	got := reachedBy(s.lead, m, m.Pc, 4, impl.KdFetch, 0)
	if got.code != 0 {
		return raised(got.m, got.code-16, m.Pc)
	}
	i, ok := wanted(s.t, s.ops, got.x)
	if !ok {
		return raised(got.m, 2, got.x)
	}
	return s.byOpcode(got.m, got.x, i)
}

func (s stepper) byOpcode(m impl.Machine, word uint64, i impl.Inst) after {
	l := s.ops[i.Op-1]
	a, b, n := m.X[i.A], m.X[i.B], uint64(i.Imm)
	switch l.opcode {
	case 55:
		return done(m, i.Rd, n, m.Pc+4)
	case 23:
		return done(m, i.Rd, m.Pc+n, m.Pc+4)
	case 111:
		return jumped(m, i.Rd, m.Pc+n)
	case 103:
		return jumped(m, i.Rd, (a+n)/2*2)
	case 99:
		if is, _ := impl.Branch(i.Op, a, b); is {
			return jumped(m, 0, m.Pc+n)
		}
		return done(m, 0, 0, m.Pc+4)
	case 3:
		return s.loadDone(m, i.Rd, a+n, l.name)
	case 35:
		return s.storeDone(m, a+n, map[string]int64{"sb": 1, "sh": 2, "sw": 4, "sd": 8}[l.name], b)
	case 47:
		return s.atomicDone(m, i, l.name)
	case 15:
		return done(m, 0, 0, m.Pc+4)
	case 115:
		if l.form == "C" {
			return s.csrDone(m, word, i, l.name)
		}
		return systemDone(m, word, l.name)
	}
	if l.form != "R" {
		b = n
	}
	x, _ := impl.Alu(i.Op, a, b)
	return done(m, i.Rd, x, m.Pc+4)
}

func (s stepper) loadDone(m impl.Machine, rd int64, addr uint64, name string) after {
	plain, bare := strings.CutSuffix(name, "u")
	size := map[string]int64{"lb": 1, "lh": 2, "lw": 4, "ld": 8, "lr.w": 4, "lr.d": 8}[plain]
	got := reachedBy(s.lead, m, addr, size, impl.KdLoad, 0)
	if got.code != 0 {
		return raised(got.m, got.code-16, addr)
	}
	if !bare {
		got.x = impl.Widen(got.x, 8*size)
	}
	return done(got.m, rd, got.x, m.Pc+4)
}

func (s stepper) storeDone(m impl.Machine, addr uint64, size int64, x uint64) after {
	got := reachedBy(s.lead, m, addr, size, impl.KdStore, x)
	if got.code != 0 {
		return raised(got.m, got.code-16, addr)
	}
	return done(got.m, 0, 0, m.Pc+4)
}

func (s stepper) atomicDone(m impl.Machine, i impl.Inst, name string) after {
	a, size := m.X[i.A], int64(8)
	if strings.HasSuffix(name, ".w") {
		size = 4
	}
	if strings.HasPrefix(name, "lr") {
		out := s.loadDone(m, i.Rd, a, name)
		if out.what == 1 {
			out.m.Held, out.m.Hold = true, s.lead(out.m.Ram, m.Csrs, privFor(m, impl.KdLoad), a, impl.KdLoad).to
		}
		return out
	}
	if a%uint64(size) != 0 {
		return raised(m, 6, a)
	}
	p := s.lead(m.Ram, m.Csrs, privFor(m, impl.KdStore), a, impl.KdStore)
	m.Ram = p.ram
	if p.code != 0 {
		return raised(m, p.code, a)
	}
	if strings.HasPrefix(name, "sc") {
		return s.scDone(m, i, size, p.to)
	}
	got := reachedBy(s.lead, m, a, size, impl.KdLoad, 0)
	if got.code != 0 {
		return raised(got.m, map[int64]int64{21: 7, 29: 15}[got.code], a)
	}
	x, _ := impl.Amo(i.Op, got.x, m.X[i.B])
	out := s.storeDone(got.m, a, size, x)
	if out.what == 1 {
		out.m.X = withWord(withWord(m.X, int(i.Rd), impl.Widen(got.x, 8*size)), 0, 0)
	}
	return out
}

func (s stepper) scDone(m impl.Machine, i impl.Inst, size int64, to uint64) after {
	x := uint64(1)
	if m.Held && m.Hold == to {
		out := s.storeDone(m, m.X[i.A], size, m.X[i.B])
		if out.what != 1 {
			return out
		}
		m.Ram, m.Dev, m.Csrs, x = out.m.Ram, out.m.Dev, withWord(out.m.Csrs, 21, m.Csrs[21]), 0
	}
	m.Held, m.Hold = false, 0
	return done(m, i.Rd, x, m.Pc+4)
}

func (s stepper) csrDone(m impl.Machine, word uint64, i impl.Inst, name string) after {
	number, x := i.Imm, m.X[i.A]
	plain, short := strings.CutSuffix(name, "i")
	if short {
		x = uint64(i.A)
	}
	writes := plain == "csrrw" || i.A != 0
	if !slices.Contains(s.numbers, number) || m.Priv < lowestPriv(number) || writes && number/1024 == 3 {
		return raised(m, 2, word)
	}
	was := wordTold(s.csrs, m.Csrs, number)
	out := done(m, i.Rd, was, m.Pc+4)
	if writes {
		x = map[string]uint64{"csrrw": x, "csrrs": was | x, "csrrc": was &^ x}[plain]
		out.m.Csrs = listLeft(s.csrs, out.m.Csrs, number, x)
	}
	return out
}

func systemDone(m impl.Machine, word uint64, name string) after {
	machine := name == "mret"
	switch {
	case name == "ecall":
		return raised(m, map[int64]int64{0: 8, 1: 9, 3: 11}[m.Priv], 0)
	case name == "ebreak":
		return raised(m, 3, m.Pc)
	case m.Priv == 0 || machine && m.Priv == 1:
		return raised(m, 2, word)
	}
	out := done(m, 0, 0, m.Pc+4)
	if name == "wfi" {
		out.m.Wait = true
	}
	if name == "mret" || name == "sret" {
		status, priv := statusLeft(m.Csrs[0], machine)
		out.m.Csrs[0], out.m.Priv = status, priv
		out.m.Pc = map[bool]uint64{false: m.Csrs[12], true: m.Csrs[6]}[machine]
	}
	return out
}

// checkException asks without the second reading that an exception has changed nothing but what Enter does and what Walk marked.
func checkException(t *testing.T, was, is impl.Machine) {
	t.Helper()
	if !slices.Equal(is.X, was.X) || !sameDev(is.Dev, was.Dev) || is.Hold != was.Hold || is.Held != was.Held || is.Wait || is.Priv < was.Priv {
		t.Fatalf("an exception has changed more: %s\nwas %s", showMachine(is), showMachine(was))
	}
	at := placesOf[is.Priv]
	for k := range is.Csrs {
		if k != 0 && !slices.Contains(at[1:], k) && is.Csrs[k] != was.Csrs[k] {
			t.Fatalf("an exception has changed register %d: %#x, was %#x", k, is.Csrs[k], was.Csrs[k])
		}
	}
	if is.Pc != is.Csrs[at[0]]&^3 || is.Csrs[at[1]] != was.Pc || is.Csrs[at[2]] > 15 {
		t.Fatalf("an exception at %#x is told as %#x, cause %#x, and goes on at %#x", was.Pc, is.Csrs[at[1]], is.Csrs[at[2]], is.Pc)
	}
	entries := 0
	for k := 0; k < len(is.Ram); k += 8 {
		old, entry := loaded(was.Ram, k, 8), loaded(is.Ram, k, 8)
		if old == entry {
			continue
		}
		// That of the fetch, and that of the load or the store.
		if entries++; entries > 2 || (old^entry)&^0xc0 != 0 || old&^entry != 0 {
			t.Fatalf("an exception has changed the bytes from %#x on: %#x, were %#x", k, entry, old)
		}
	}
}

// checkStep is promise 11 without the second reading.
func checkStep(t *testing.T, was, is impl.Machine, what int64) {
	t.Helper()
	if !impl.MachineOk(is) {
		t.Fatalf("behind a step the machine is not right: %s\nwas %s", showMachine(is), showMachine(was))
	}
	for k, b := range is.Ram {
		if b != was.Ram[k] && impl.Locked(was.Csrs, impl.RamBase+uint64(k)) {
			t.Fatalf("a step has stored into what is locked, at %#x: %s", k, showMachine(was))
		}
	}
	switch what {
	case 2:
		checkException(t, was, is)
	case 3, 4:
		if !bytes.Equal(is.Ram, was.Ram) || !slices.Equal(is.X, was.X) || !sameDev(is.Dev, was.Dev) || is.Csrs[21] != was.Csrs[21] || is.Wait != (what == 4) {
			t.Fatalf("what is %d has changed more: %s\nwas %s", what, showMachine(is), showMachine(was))
		}
	}
}

// same holds a step against what it must come to, and the second reading too.
func (s stepper) same(m impl.Machine, want after) {
	s.t.Helper()
	if read := s.read(m); read.what != want.what || !sameMachine(read.m, want.m) {
		s.t.Fatalf("the second reading of %s\nis   %d %s\nwant %d %s", showMachine(m), read.what, showMachine(read.m), want.what, showMachine(want.m))
	}
	wantMachine(s.t, m, want.m, func(given impl.Machine) impl.Machine {
		s.t.Helper()
		out, what := impl.Step(given)
		if what != want.what {
			s.t.Fatalf("Step of %s\nis %d, want %d", showMachine(m), what, want.what)
		}
		checkStep(s.t, m, out, what)
		return out
	})
}

// want holds a step against the second reading alone.
func (s stepper) want(m impl.Machine) after {
	s.t.Helper()
	want := s.read(m)
	s.same(m, want)
	return want
}

// laid is the machine with an instruction at its Pc.
func (s stepper) laid(m impl.Machine, name string, rd, a, b, imm int64) impl.Machine {
	s.t.Helper()
	for _, l := range s.ops {
		if i := (impl.Inst{Op: l.op, Rd: rd, A: a, B: b, Imm: imm}); l.name == name && l.holds(i) {
			return withInst(m, l.lay(i))
		}
	}
	s.t.Fatalf("no such instruction: %s %d %d %d %d", name, rd, a, b, imm)
	return m
}

// withInst is the machine with a word at its Pc, which must be in the memory.
func withInst(m impl.Machine, word uint64) impl.Machine {
	m.Ram = stored(m.Ram, int(m.Pc-impl.RamBase), 4, word)
	return m
}

// withX is the machine with another word in a register.
func withX(m impl.Machine, k int, x uint64) impl.Machine {
	m.X = withWord(m.X, k, x)
	return m
}

// done wants an instruction to go through, and to change that alone beside Pc and minstret.
func (s stepper) done(m impl.Machine, change func(m *impl.Machine)) {
	s.t.Helper()
	want := m
	want.Pc += 4
	want.X = slices.Clone(m.X)
	want.Csrs = withWord(m.Csrs, 21, m.Csrs[21]+1)
	if change != nil {
		change(&want)
	}
	s.same(m, after{want, 1})
}

// set wants rd alone to get x.
func (s stepper) set(m impl.Machine, rd int64, x uint64) {
	s.t.Helper()
	s.done(m, func(m *impl.Machine) {
		if rd != 0 {
			m.X[rd] = x
		}
	})
}

// raised wants an exception that marks nothing.
func (s stepper) raised(m impl.Machine, cause int64, value uint64) {
	s.t.Helper()
	s.raisedWith(m, m.Ram, cause, value)
}

// raisedWith wants an exception behind which the memory is as given.
func (s stepper) raisedWith(m impl.Machine, ram []byte, cause int64, value uint64) {
	s.t.Helper()
	want := m
	want.Ram, want.Wait = ram, false
	s.same(m, raised(want, cause, value))
}

// calmPc is where calm machines are.
const calmPc = uint64(impl.RamBase + 0x100)

// calm is a machine that nothing disturbs: it goes by no table, may touch all, and hears no bell. What is told to the supervisor goes elsewhere than what is told to the machine.
func calm(priv int64) impl.Machine {
	list := plain()
	list[4], list[10] = impl.RamBase+0x401, impl.RamBase+0x800
	m := machineOf(filled(4096), list, priv, quiet)
	m.Pc, m.Wait = calmPc, false
	return m
}

func TestStepConstants(t *testing.T) {
	if impl.MaxSteps != 300 || impl.ToDone != 1 || impl.ToTrap != 2 || impl.ToBell != 3 || impl.ToWait != 4 {
		t.Error(impl.MaxSteps, impl.ToDone, impl.ToTrap, impl.ToBell, impl.ToWait)
	}
}

func TestStepRefuses(t *testing.T) {
	for _, m := range slices.Concat(broken(t), crossed(t)) {
		wantMachine(t, m, impl.Machine{}, func(m impl.Machine) impl.Machine {
			out, what := impl.Step(m)
			if what != 0 {
				t.Fatalf("Step of %s: %d", showMachine(m), what)
			}
			return out
		})
		for _, n := range []int64{-1, 0, 1, 2, 300, 301} {
			wantMachine(t, m, impl.Machine{}, func(m impl.Machine) impl.Machine {
				out, all := impl.Steps(m, n)
				if len(all) != 0 {
					t.Fatalf("Steps of %s, %d: %v", showMachine(m), n, all)
				}
				return out
			})
		}
		if cause, pc, value := impl.Told(m); cause != -1 || pc != 0 || value != 0 {
			t.Fatalf("Told of %s: %d, %#x, %#x", showMachine(m), cause, pc, value)
		}
	}
}

// devFor are devices that tell these lines.
func devFor(lines uint64) impl.Dev {
	d := impl.Dev{Time: 6, Cmp: 7, Soft: bit(lines, 3) == 1, In: []byte{9}, Ier: int64(bit(lines, 11))}
	if bit(lines, 7) == 1 {
		d.Cmp = 6
	}
	return d
}

// belled is a calm machine about to add, with these interrupts: those told, those heard and those handed down.
func belled(s stepper, priv int64, status, mip, mie, mideleg uint64) impl.Machine {
	m := s.laid(calm(priv), "addi", 5, 6, 0, 7)
	m.Dev = devFor(mip)
	m.Csrs = slices.Clone(m.Csrs)
	m.Csrs[0], m.Csrs[2], m.Csrs[3], m.Csrs[9] = status, mideleg, mie, mip
	return m
}

// Each interrupt alone, at each privilege, handed down and not, heard and not, with Wait and without.
func TestEachBell(t *testing.T) {
	s, seen := stepperOf(t), map[int64]int{}
	for n := uint64(1); n <= 11; n += 2 {
		for _, priv := range privs {
			for _, status := range []uint64{0, 2, 8, 10, 0xe1800, 0xe19aa} {
				for _, mideleg := range []uint64{0, 0x222 & (1 << n), 0x222} {
					for _, mie := range []uint64{0, 1 << n, 0xaaa &^ (1 << n), 0xaaa} {
						for _, wait := range []bool{false, true} {
							m := belled(s, priv, status, 1<<n, mie, mideleg)
							m.Wait = wait
							for _, vector := range []uint64{0, 1} {
								m.Csrs = withWord(withWord(m.Csrs, 4, impl.RamBase+0x400+vector), 10, impl.RamBase+0x800+vector)
								seen[s.want(m).what]++
							}
						}
					}
				}
			}
		}
	}
	if seen[1] < 200 || seen[3] < 200 || seen[4] < 200 || seen[2] != 0 {
		t.Error(seen)
	}
}

func TestBellsByHand(t *testing.T) {
	s := stepperOf(t)
	for _, x := range []struct {
		priv                     int64
		status, mip, mie, handed uint64
		to                       int64
		cause, pc, left          uint64
	}{
		{0, 0, 0x800, 0x800, 0, 3, 11, 0x42c, 0x0000},
		{1, 0, 0x080, 0x080, 0, 3, 7, 0x41c, 0x0800},
		{3, 8, 0x008, 0xaaa, 0, 3, 3, 0x40c, 0x1880},
		{3, 8, 0xaaa, 0xaaa, 0, 3, 11, 0x42c, 0x1880},
		{0, 2, 0x200, 0x200, 0x200, 1, 9, 0x800, 0x0020},
		{1, 2, 0x002, 0x002, 0x222, 1, 1, 0x800, 0x0120},
		{0, 0, 0x020, 0xaaa, 0x020, 1, 5, 0x800, 0x0000},
		{1, 0, 0x020, 0x020, 0x000, 3, 5, 0x414, 0x0800},
		{1, 2, 0x2a2, 0xaaa, 0x222, 3, 7, 0x41c, 0x0802},
	} {
		m := belled(s, x.priv, x.status, x.mip, x.mie, x.handed)
		for _, m.Wait = range []bool{false, true} {
			want := m
			want.Wait, want.Priv, want.Pc = false, x.to, impl.RamBase+x.pc
			at := placesOf[x.to]
			want.Csrs = withWord(withWord(m.Csrs, at[1], calmPc), at[2], 1<<63+x.cause)
			want.Csrs = withWord(withWord(want.Csrs, at[3], 0), 0, x.left)
			s.same(m, after{want, 3})
		}
	}
}

// A machine that waits goes on where an interrupt is there that it would hear, taken or not; else nothing happens.
func TestWaitsByHand(t *testing.T) {
	s := stepperOf(t)
	for _, x := range []struct {
		priv                     int64
		status, mip, mie, handed uint64
		what                     int64
	}{
		{3, 0, 0x000, 0xaaa, 0, 4}, {3, 8, 0xaaa, 0x000, 0, 4}, {3, 8, 0x80, 0x8, 0, 4}, {1, 2, 0x222, 0x888, 0, 4}, {0, 0, 0, 0, 0, 4},
		{3, 0, 0x080, 0x080, 0, 1}, {3, 0, 0x222, 0x222, 0x222, 1}, {3, 8, 0x222, 0x222, 0x222, 1}, {1, 0, 0x002, 0x002, 0x002, 1}, {3, 2, 0x800, 0xaaa, 0, 1},
		{3, 8, 0x080, 0x080, 0, 3}, {1, 0, 0x080, 0x080, 0, 3}, {1, 2, 0x002, 0x002, 0x002, 3}, {0, 0, 0x200, 0x200, 0x200, 3},
	} {
		m := belled(s, x.priv, x.status, x.mip, x.mie, x.handed)
		m.Wait = true
		want := m
		switch x.what {
		case 1:
			s.set(s.woken(m), 5, m.X[6]+7)
			want.Wait, want.Pc = false, calmPc+4
			want.X = withWord(m.X, 5, m.X[6]+7)
			want.Csrs = withWord(m.Csrs, 21, 22)
		case 3:
			want = s.read(m).m
		}
		s.same(m, after{want, x.what})
	}
}

// woken is the machine without its Wait.
func (s stepper) woken(m impl.Machine) impl.Machine {
	m.Wait = false
	return m
}

// What waits and then cannot fetch, or meets an exception, waits no more.
func TestWaitsThatEndInExceptions(t *testing.T) {
	s := stepperOf(t)
	m := belled(s, 3, 0, 0x80, 0x80, 0)
	m.Wait = true
	s.raised(withInst(m, 0), 2, 0)
	s.raised(s.laid(m, "ebreak", 0, 0, 0, 0), 3, calmPc)
	s.raised(withX(s.laid(m, "ld", 5, 6, 0, 0), 6, 4), 4, 4)
	m.Pc = 64
	s.raised(m, 1, 64)
	m.Csrs = withWord(m.Csrs, 3, 8)
	s.same(m, after{m, 4})
}

// All sets of interrupts, some of each.
func TestMixedBells(t *testing.T) {
	s, d, seen, sets := stepperOf(t), dice(0x452821e638d01377), map[int64]int{}, interruptSets()
	for range 4000 {
		m := belled(s, privs[d.below(3)], d.below(16)&^5, sets[d.below(64)], sets[d.below(64)], midelegs[d.below(8)])
		m.Wait = d.below(2) == 0
		m.Csrs[4] ^= d.below(2)
		m.Csrs[10] ^= d.below(2)
		seen[s.want(m).what]++
	}
	if seen[1] < 200 || seen[3] < 1000 || seen[4] < 100 || seen[2] != 0 {
		t.Error(seen)
	}
}

// Where nothing is, a fetch is exception 1 at every privilege, with the value Pc. A Pc that is no multiple of 4 no right machine has: it is refused ahead of a fetch.
func TestFetchesWhereNothingIs(t *testing.T) {
	s := stepperOf(t)
	for _, priv := range privs {
		for _, handed := range []uint64{0, 0xb3ff} {
			m := calm(priv)
			m.Csrs = withWord(m.Csrs, 1, handed)
			for _, m.Pc = range []uint64{0, 4, impl.RamBase - 4, impl.RamBase + 4096, impl.RamBase + 1<<32, softAddr, cmpAddr, timeAddr, byteAddr, byteAddr + 4, 1 << 63, allOnes - 3} {
				s.raised(m, 1, m.Pc)
			}
			for k := range uint64(3) {
				m.Pc = calmPc + k + 1
				if out, what := impl.Step(m); what != 0 || !sameMachine(out, impl.Machine{}) {
					t.Fatalf("Step at %#x: %d", m.Pc, what)
				}
			}
		}
	}
}

// The first and the last place from which a word is fetched, and past the end.
func TestFetchesAtTheEnds(t *testing.T) {
	s := stepperOf(t)
	m := calm(0)
	for _, m.Pc = range []uint64{impl.RamBase, impl.RamBase + 4092} {
		s.set(withX(s.laid(m, "addi", 5, 6, 0, -1), 6, 0), 5, allOnes)
	}
	out, what := impl.Step(s.laid(m, "addi", 5, 6, 0, -1))
	if what != 1 || out.Pc != impl.RamBase+4096 {
		t.Fatal(what, out.Pc)
	}
	s.raised(out, 1, impl.RamBase+4096)
}

// What an entry of the protection says of fetches.
func TestFetchesThatMayNotBe(t *testing.T) {
	s := stepperOf(t)
	for _, priv := range privs {
		for _, b := range entryBytes() {
			m := s.laid(calm(priv), "addi", 5, 6, 0, 1)
			m.Csrs = slices.Clone(m.Csrs)
			m.Csrs[16], m.Csrs[17], m.Csrs[18] = b&^0x18+0x10+0x1f<<8, calmPc/4, greatestAddr
			if bit(b, 2) == 1 || priv == 3 && bit(b, 7) == 0 {
				s.set(m, 5, m.X[6]+1)
			} else {
				s.raised(m, 1, calmPc)
			}
			m.Csrs[16] = 0
			if priv == 3 {
				s.set(m, 5, m.X[6]+1)
			} else {
				s.raised(m, 1, calmPc)
			}
		}
	}
}

// stepAddr leads by the tables of tabled to the third page, and stepTo is where.
const (
	stepAddr = midAddr - midAddr%4096
	stepTo   = impl.RamBase + 0x2000
)

// tabledMachine is a machine at stepAddr, with a leaf for that page and one for the page behind it, which leads to the third page too.
func tabledMachine(priv int64, own, next uint64) (impl.Machine, int, int) {
	user := map[int64]uint64{0: 0x10, 1: 0}[priv]
	ram, at := tabled(stepAddr, 0, (ramFrame+2)*1024+own|user)
	ram = stored(ram, at+8, 8, (ramFrame+2)*1024+next|user)
	list := open(0)
	list[4], list[10] = impl.RamBase+0x400, impl.RamBase+0x800
	m := machineOf(ram, list, priv, quiet)
	m.Pc, m.Wait = stepAddr, false
	return m, at, at + 8
}

// tabledInst is such a machine with a word where its Pc leads.
func tabledInst(m impl.Machine, word uint64) impl.Machine {
	m.Ram = stored(m.Ram, 0x2000, 4, word)
	return m
}

func (s stepper) word(name string, rd, a, b, imm int64) uint64 {
	s.t.Helper()
	m := s.laid(calm(3), name, rd, a, b, imm)
	return loaded(m.Ram, 0x100, 4)
}

// A fetch by a table: its leaf is marked, and stays so whatever comes behind it.
func TestFetchesByTables(t *testing.T) {
	s := stepperOf(t)
	for _, priv := range []int64{0, 1} {
		m, at, _ := tabledMachine(priv, 0x0f, 0)
		leaf := loaded(m.Ram, at, 8)
		marked := func(m impl.Machine) []byte { return stored(m.Ram, at, 8, leaf+0x40) }
		m = tabledInst(m, s.word("addi", 5, 6, 0, 1))
		s.done(m, func(out *impl.Machine) { out.Ram, out.X[5] = marked(m), m.X[6]+1 })
		for _, word := range []uint64{0, 0xffffffff, 0x00000007} {
			m = tabledInst(m, word)
			s.raisedWith(m, marked(m), 2, word)
		}
		m = tabledInst(m, s.word("ecall", 0, 0, 0, 0))
		s.raisedWith(m, marked(m), 8+priv, 0)
		m = tabledInst(m, s.word("jalr", 5, 6, 0, 2))
		s.raisedWith(withX(m, 6, 0), marked(m), 0, 2)
		// It leads, but may not be fetched from, or nothing is there.
		m.Csrs = withWord(withWord(shutAt(0, 0x2000, 0x03), 4, m.Csrs[4]), 10, m.Csrs[10])
		s.raisedWith(m, marked(m), 1, stepAddr)
		m.Csrs = withWord(m.Csrs, 16, 0x1f1f)
		for _, frame := range []uint64{0, ramFrame + 4, softAddr / 4096, byteAddr / 4096} {
			m.Ram = stored(m.Ram, at, 8, frame*1024+leaf%1024)
			s.raisedWith(m, stored(m.Ram, at, 8, frame*1024+leaf%1024+0x40), 1, stepAddr)
		}
	}
}

// Page faults of a fetch, and tables that are nowhere.
func TestFetchesThatFault(t *testing.T) {
	s := stepperOf(t)
	for _, priv := range []int64{0, 1} {
		for _, low := range []uint64{0x00, 0x01, 0x03, 0x07, 0x0e, 0x17, 0xc7} {
			m, _, _ := tabledMachine(priv, low, 0)
			s.raised(m, 12, stepAddr)
		}
		m, at, _ := tabledMachine(priv, 0x0f, 0)
		other := m
		other.Ram = stored(m.Ram, at, 8, loaded(m.Ram, at, 8)^0x10)
		s.raised(other, 12, stepAddr)
		// A user's page may be lent for loads and stores, never for fetches.
		other.Csrs = withWord(m.Csrs, 0, lendUser+lendFetch)
		s.raised(other, 12, stepAddr)
		m.Pc = stepAddr ^ 1<<40
		s.raised(m, 12, m.Pc)
		m.Pc = stepAddr
		m.Csrs = withWord(m.Csrs, 15, 8<<60)
		s.raised(m, 1, stepAddr)
		// The leaf may be read, but not marked.
		m.Csrs = withWord(withWord(shutAt(0, at, 0x01), 4, m.Csrs[4]), 10, m.Csrs[10])
		s.raised(m, 1, stepAddr)
	}
}

// A fetch goes by the machine's own privilege, whatever counts for loads and stores.
func TestFetchesGoByTheOwnPrivilege(t *testing.T) {
	s := stepperOf(t)
	m := s.laid(calm(3), "addi", 5, 0, 0, 3)
	m.Csrs = withWord(open(statusFor(0)), 16, 0)
	s.set(m, 5, 3)
	m = s.laid(m, "lw", 5, 0, 0, 0)
	s.raised(m, 5, 0)
	user := calm(0)
	user.Csrs = withWord(withWord(plain(), 16, 0), 0, statusFor(3))
	s.raised(user, 1, calmPc)
}

// A word that no row matches is exception 2 with that value, at each privilege and to both sides.
func TestWordsThatAreNone(t *testing.T) {
	s := stepperOf(t)
	words := []uint64{0, 1, 0xffffffff, 0x80000000, 0x13 ^ 0x02, 0x04001013, 0x40001013, 0x00007003, 0x00004023, 0x00002063, 0x0000203b, 0x10002fff,
		0x00200073, 0x00000173, 0x30200173, 0x10500173, 0x120000f3, 0x1010202f, 0x0000402f, 0x00004073, 0x7b200073}
	for _, priv := range privs {
		for _, handed := range []uint64{0, 4, 0xb3fb} {
			m := calm(priv)
			m.Csrs = withWord(m.Csrs, 1, handed)
			for _, word := range words {
				if _, ok := impl.Decode(word); ok {
					t.Fatalf("%#x is an instruction", word)
				}
				s.raised(withInst(m, word), 2, word)
			}
		}
	}
}

// byHand has what each Op that reckons comes to: of a, and of b or Imm.
var byHand = []struct {
	name string
	a, b uint64
	want uint64
}{
	{"lui", 0, 0x12345000, 0x12345000}, {"lui", 0, 0x7ffff000, 0x7ffff000}, {"lui", 0, 0xffffffff80000000, 0xffffffff80000000},
	{"auipc", 0, 0x1000, 0x80001100}, {"auipc", 0, 0xfffffffffffff000, 0x7ffff100}, {"auipc", 0, 0xffffffff80000000, 0x100},
	{"addi", 5, allOnes - 6, allOnes - 1}, {"addi", allOnes, 1, 0},
	{"slti", allOnes, 0, 1}, {"slti", 0, allOnes, 0}, {"sltiu", 1, allOnes, 1}, {"sltiu", allOnes, 1, 0},
	{"xori", 0xff, allOnes, allOnes - 0xff}, {"ori", 0xf0, 0x0f, 0xff}, {"andi", 0xff, allOnes - 15, 0xf0},
	{"slli", 1, 63, 1 << 63}, {"srli", 1 << 63, 63, 1}, {"srai", 1 << 63, 63, allOnes},
	{"addiw", 0x7fffffff, 1, 0xffffffff80000000}, {"slliw", 1, 31, 0xffffffff80000000}, {"srliw", 0x80000000, 31, 1}, {"sraiw", 0x80000000, 31, allOnes},
	{"add", allOnes, 2, 1}, {"sub", 3, 5, allOnes - 1}, {"sll", 1, 68, 16}, {"slt", allOnes, 0, 1}, {"sltu", allOnes, 0, 0},
	{"xor", 12, 10, 6}, {"srl", 1 << 63, 4, 1 << 59}, {"sra", 1 << 63, 4, 0xf800000000000000}, {"or", 12, 10, 14}, {"and", 12, 10, 8},
	{"addw", 0x17fffffff, 1, 0xffffffff80000000}, {"subw", 0, 1, allOnes}, {"sllw", 1, 63, 0xffffffff80000000},
	{"srlw", 0xffffffff80000000, 31, 1}, {"sraw", 0x80000000, 4, 0xfffffffff8000000},
	{"mul", 1 << 63, 3, 1 << 63}, {"mulh", allOnes, allOnes, 0}, {"mulhsu", allOnes, allOnes, allOnes}, {"mulhu", allOnes, allOnes, allOnes - 1},
	{"div", allOnes - 6, 2, allOnes - 2}, {"divu", 7, 0, allOnes}, {"rem", allOnes - 6, 2, allOnes}, {"remu", 7, 0, 7},
	{"mulw", 0x10000, 0x8000, 0xffffffff80000000}, {"divw", 0x80000000, 0xffffffff, 0xffffffff80000000}, {"divuw", 0x80000000, 1, 0xffffffff80000000},
	{"remw", 0xfffffff9, 2, allOnes}, {"remuw", 0xffffffff, 0, allOnes},
}

// Each Op that reckons: Rd another register, 0, the same as A and as B; minstret at its greatest, too.
func TestReckonedByHand(t *testing.T) {
	s, seen := stepperOf(t), map[string]int{}
	for k, x := range byHand {
		form := impl.Form(impl.OpOf(x.name))
		seen[x.name]++
		for _, rd := range []int64{5, 0, 6, 7, 31} {
			for _, count := range []uint64{0, 21, allOnes} {
				m := withX(withX(calm(privs[k%3]), 6, x.a), 7, x.b)
				m.Csrs = withWord(m.Csrs, 21, count)
				a, b, imm := int64(6), int64(0), int64(x.b)
				switch form {
				case "R":
					b, imm = 7, 0
				case "U":
					a = 0
				}
				s.set(s.laid(m, x.name, rd, a, b, imm), rd, x.want)
			}
		}
	}
	if len(seen) != 43 {
		t.Errorf("%d Ops", len(seen))
	}
}

// A, B and Rd may all be one register, and any of them x0, which is 0.
func TestRegistersThatAreOne(t *testing.T) {
	s := stepperOf(t)
	m := withX(calm(1), 9, 21)
	s.set(s.laid(m, "add", 9, 9, 9, 0), 9, 42)
	s.set(s.laid(m, "sub", 9, 9, 9, 0), 9, 0)
	s.set(s.laid(m, "mul", 0, 9, 9, 0), 0, 0)
	s.set(s.laid(m, "sub", 9, 0, 9, 0), 9, allOnes-20)
	s.set(s.laid(m, "sub", 9, 9, 0, 0), 9, 21)
	s.set(s.laid(m, "addi", 0, 0, 0, 5), 0, 0)
	for k := int64(1); k < 32; k++ {
		s.set(s.laid(m, "add", k, k, 32-k, 0), k, m.X[k]+m.X[32-k])
		s.set(s.laid(m, "addi", 32-k, k, 0, -k), 32-k, m.X[k]-uint64(k))
	}
}

// Every Op of 22 to 62 of words without a rule to be seen, from the register it should and with the Imm it should.
func TestReckonedOfMany(t *testing.T) {
	s, mixed := stepperOf(t), mixedNumbers(41*8)
	for op := int64(22); op <= 62; op++ {
		l := s.ops[op-1]
		_, _, hasB := l.has()
		imms := l.someImms()
		for k := range 8 {
			m := withX(withX(calm(3), 11, mixed[41*k+int(op)-22]), 12, edgeNumbers[(k*7+int(op))%len(edgeNumbers)])
			b, imm, second := int64(12), int64(0), m.X[12]
			if !hasB {
				b, imm = 0, imms[(k*5+int(op))%len(imms)]
				second = uint64(imm)
			}
			want, _ := impl.Alu(op, m.X[11], second)
			s.set(s.laid(m, l.name, 13, 11, b, imm), 13, want)
		}
	}
}

// went wants a jump to go to a place, and rd to get what is behind it.
func (s stepper) went(m impl.Machine, rd int64, to uint64) {
	s.t.Helper()
	s.done(m, func(out *impl.Machine) {
		if rd != 0 {
			out.X[rd] = m.Pc + 4
		}
		out.Pc = to
	})
}

func TestJumpsByHand(t *testing.T) {
	s := stepperOf(t)
	for _, priv := range privs {
		m := calm(priv)
		for _, rd := range []int64{0, 1, 6} {
			for _, imm := range []int64{0, 4, 8, -4, -256, 4096, 1048572, -1048576} {
				s.went(s.laid(m, "jal", rd, 0, 0, imm), rd, calmPc+uint64(imm))
				s.raised(s.laid(m, "jal", rd, 0, 0, imm+2), 0, calmPc+uint64(imm)+2)
			}
			for _, x := range []struct {
				a   uint64
				imm int64
				to  uint64
			}{
				{0x1000, 0, 0x1000}, {0x1000, 1, 0x1000}, {0x1001, 0, 0x1000}, {0x1001, 3, 0x1004}, {0x1000, -1, 0x0ffe}, {0x1000, 2, 0x1002},
				{0x1003, 0, 0x1002}, {0, -4, allOnes - 3}, {allOnes, 5, 4}, {allOnes - 3, 4, 0}, {0, -2, allOnes - 1}, {allOnes, 0, allOnes - 1},
				{allOnes - 7, 2047, 2038}, {1 << 63, -2048, 1<<63 - 2048}, {2, 2046, 2048}, {calmPc, 0, calmPc},
			} {
				m := withX(s.laid(m, "jalr", rd, 6, 0, x.imm), 6, x.a)
				if bit(x.to, 1) == 1 {
					s.raised(m, 0, x.to)
				} else {
					s.went(m, rd, x.to)
				}
			}
		}
	}
}

// A jump past 0 and past the end of all addresses, from a Pc that a table leads from.
func TestJumpsPastTheEnds(t *testing.T) {
	s := stepperOf(t)
	for _, x := range []struct {
		pc   uint64
		name string
		imm  int64
		to   uint64
	}{
		{0, "jal", -4, allOnes - 3}, {0, "beq", -4096, allOnes - 4095}, {0x10, "jal", -1048576, allOnes - 1048575 + 0x10}, {4, "jal", -6, allOnes - 1},
		{allOnes - 3, "jal", 4, 0}, {allOnes - 3, "beq", 8, 4}, {allOnes - 7, "jal", 1048572, 1048564}, {allOnes - 3, "beq", 6, 2},
		{allOnes - 3, "bne", 8, 0}, {0, "bne", -4, 4}, {allOnes - 3, "auipc", 4096, 0}, {0, "auipc", -4096, 4}, {allOnes - 3, "addi", 7, 0},
	} {
		ram, at := tabled(x.pc, 0, (ramFrame+2)*1024+0x4f)
		place := 0x2000 + int(x.pc%4096)
		word := s.word(x.name, map[bool]int64{true: 5}[x.name != "beq" && x.name != "bne"], 0, 0, x.imm)
		m := machineOf(stored(ram, place, 4, word), open(0), 1, quiet)
		m.Pc, m.Wait = x.pc, false
		if got := loaded(m.Ram, at, 8); got != (ramFrame+2)*1024+0x4f {
			t.Fatal("the leaf is laid over")
		}
		switch {
		case bit(x.to, 1) == 1:
			s.raised(m, 0, x.to)
		case x.name == "auipc":
			s.done(m, func(out *impl.Machine) { out.X[5], out.Pc = x.pc+uint64(x.imm), x.to })
		case x.name == "addi":
			s.done(m, func(out *impl.Machine) { out.X[5], out.Pc = 7, x.to })
		case x.name == "jal":
			s.went(m, 5, x.to)
		default:
			s.went(m, 0, x.to)
		}
	}
}

// Each branch, taken and not, ahead and back; a target with bit 1 is an exception where the branch is taken alone.
func TestBranchesGo(t *testing.T) {
	s := stepperOf(t)
	for op := int64(5); op <= 10; op++ {
		name := s.ops[op-1].name
		for _, x := range [][2]uint64{{4, 4}, {3, 4}, {4, 3}, {allOnes, 0}, {0, allOnes}, {leastSigned, greatestSigned}, {greatestSigned, leastSigned}, {1, 1<<32 + 1}} {
			holds, _ := impl.Branch(op, x[0], x[1])
			for _, imm := range []int64{0, 4, 8, -4, -256, 4092, -4096} {
				m := withX(withX(s.laid(calm(privs[op%3]), name, 0, 6, 7, imm), 6, x[0]), 7, x[1])
				crooked := withX(withX(s.laid(calm(privs[op%3]), name, 0, 6, 7, imm+2), 6, x[0]), 7, x[1])
				if holds {
					s.went(m, 0, calmPc+uint64(imm))
					s.raised(crooked, 0, calmPc+uint64(imm)+2)
				} else {
					s.done(m, nil)
					s.done(crooked, nil)
				}
			}
		}
	}
	m := withX(withX(calm(3), 6, 1), 7, 1)
	s.went(s.laid(m, "beq", 0, 6, 7, 16), 0, calmPc+16)
	s.done(s.laid(m, "bne", 0, 6, 7, 16), nil)
	s.went(s.laid(m, "bge", 0, 6, 7, -16), 0, calmPc-16)
	s.done(s.laid(m, "blt", 0, 6, 7, -16), nil)
	s.went(s.laid(m, "bgeu", 0, 6, 7, 8), 0, calmPc+8)
	s.done(s.laid(m, "bltu", 0, 6, 7, 8), nil)
	s.went(s.laid(m, "beq", 0, 6, 6, 16), 0, calmPc+16)
	s.done(s.laid(m, "beq", 0, 6, 0, 16), nil)
	s.went(s.laid(withX(m, 7, allOnes), "bltu", 0, 0, 7, 8), 0, calmPc+8)
	s.went(s.laid(withX(m, 7, allOnes), "blt", 0, 7, 0, 8), 0, calmPc+8)
}

// dataAt is where the loads and stores of calm machines go, and dataWord what is there.
const (
	dataAt   = 0x200
	dataAddr = uint64(impl.RamBase + dataAt)
	dataWord = uint64(0x8899aabbccddeeff)
)

// loadsByHand has what each load makes of dataWord, and storesByHand what each store of 0x1122334455667788 leaves of it.
var loadsByHand = map[string]uint64{
	"lb": allOnes, "lbu": 0xff, "lh": 0xffffffffffffeeff, "lhu": 0xeeff, "lw": 0xffffffffccddeeff, "lwu": 0xccddeeff, "ld": dataWord,
}

var storesByHand = map[string]uint64{
	"sb": 0x8899aabbccddee88, "sh": 0x8899aabbccdd7788, "sw": 0x8899aabb55667788, "sd": 0x1122334455667788,
}

var stepSizes = map[string]int64{"lb": 1, "lbu": 1, "lh": 2, "lhu": 2, "lw": 4, "lwu": 4, "ld": 8, "sb": 1, "sh": 2, "sw": 4, "sd": 8}

// withData is the machine with a word where data are.
func withData(m impl.Machine, x uint64) impl.Machine {
	m.Ram = stored(m.Ram, dataAt, 8, x)
	return m
}

func TestLoadsByHand(t *testing.T) {
	s := stepperOf(t)
	for name, want := range loadsByHand {
		for _, priv := range privs {
			for _, imm := range []int64{0, 8, -8, 1, -1, 2047, -2048} {
				for _, rd := range []int64{5, 6, 0} {
					m := withX(withData(calm(priv), dataWord), 6, dataAddr-uint64(imm))
					s.set(s.laid(m, name, rd, 6, 0, imm), rd, want)
				}
			}
		}
		// What is not below 0 is the same, widened or not.
		m := withX(withData(calm(3), 0x1122334455667788&0x7f7f7f7f7f7f7f7f), 6, dataAddr)
		s.set(s.laid(m, name, 5, 6, 0, 0), 5, 0x1122334455667708&lowest[stepSizes[name]])
	}
}

func TestStoresByHand(t *testing.T) {
	s := stepperOf(t)
	for name, want := range storesByHand {
		for _, priv := range privs {
			for _, imm := range []int64{0, 8, -8, 1, -1, 2047, -2048} {
				m := withX(withX(withData(calm(priv), dataWord), 6, dataAddr-uint64(imm)), 7, 0x1122334455667788)
				m = s.laid(m, name, 0, 6, 7, imm)
				s.done(m, func(out *impl.Machine) { out.Ram = stored(m.Ram, dataAt, 8, want) })
			}
		}
		// The register that is stored may be the one that says where, and x0.
		m := withX(withData(calm(3), dataWord), 6, dataAddr)
		m = s.laid(m, name, 0, 6, 6, 0)
		s.done(m, func(out *impl.Machine) { out.Ram = stored(m.Ram, dataAt, stepSizes[name], dataAddr) })
		m = s.laid(m, name, 0, 6, 0, 0)
		s.done(m, func(out *impl.Machine) { out.Ram = stored(m.Ram, dataAt, stepSizes[name], 0) })
	}
}

// A store upon the instruction that does it, and upon the next one, which is fetched then.
func TestStoresIntoInstructions(t *testing.T) {
	s := stepperOf(t)
	m := withX(withX(calm(3), 6, calmPc), 7, s.word("addi", 5, 0, 0, 77))
	m = s.laid(m, "sw", 0, 6, 7, 0)
	s.done(m, func(out *impl.Machine) { out.Ram = stored(m.Ram, 0x100, 4, m.X[7]) })
	m = s.laid(m, "sw", 0, 6, 7, 4)
	s.done(m, func(out *impl.Machine) { out.Ram = stored(m.Ram, 0x104, 4, m.X[7]) })
	out, all := impl.Steps(m, 2)
	if !slices.Equal(all, []int64{1, 1}) || out.X[5] != 77 {
		t.Error(all, out.X[5])
	}
}

// accessOf is the kind of a load or a store.
func accessOf(name string) int64 {
	if name[0] == 's' {
		return impl.KdStore
	}
	return impl.KdLoad
}

// touch is the machine about to load to x5 from, or to store x7 at, what x6 and imm are.
func (s stepper) touch(m impl.Machine, name string, a uint64, imm int64) impl.Machine {
	s.t.Helper()
	if accessOf(name) == impl.KdStore {
		return withX(s.laid(m, name, 0, 6, 7, imm), 6, a)
	}
	return withX(s.laid(m, name, 5, 6, 0, imm), 6, a)
}

// The codes of loads and stores without a table: no multiple, nothing there, and what wraps round.
func TestAccessCodesOfLoadsAndStores(t *testing.T) {
	s := stepperOf(t)
	for name, size := range stepSizes {
		kind := accessOf(name)
		crooked, nothing := map[int64]int64{2: 4, 3: 6}[kind], accessFaults[kind]
		for _, priv := range privs {
			for _, handed := range []uint64{0, 0xb3ff} {
				m := calm(priv)
				m.Csrs = withWord(m.Csrs, 1, handed)
				for k := uint64(1); k < 8; k++ {
					if k%uint64(size) != 0 {
						s.raised(s.touch(m, name, dataAddr, int64(k)), crooked, dataAddr+k)
						s.raised(s.touch(m, name, k-8, 0), crooked, k-8)
					}
				}
				for _, x := range []struct {
					a   uint64
					imm int64
				}{
					{0, 0}, {0, 8}, {impl.RamBase, -8}, {impl.RamBase + 4096, 0}, {impl.RamBase + 4000, 96}, {allOnes - 7, 16}, {allOnes, 1}, {0, -8}, {8, -2048}, {allOnes - 7, 0}, {allOnes - 2046, 2047},
				} {
					s.raised(s.touch(m, name, x.a, x.imm), nothing, x.a+uint64(x.imm))
				}
			}
		}
	}
}

// What an entry of the protection says of loads and stores; the fetch is by another entry.
func TestLoadsAndStoresThatMayNotBe(t *testing.T) {
	s := stepperOf(t)
	for name := range stepSizes {
		kind := accessOf(name)
		for _, priv := range privs {
			for _, b := range entryBytes() {
				m := s.touch(calm(priv), name, dataAddr, 0)
				m.Csrs = slices.Clone(m.Csrs)
				m.Csrs[16], m.Csrs[17], m.Csrs[18] = b&^0x18+0x18+0x1f<<8, dataAddr/4, greatestAddr
				if bit(b, kindBits[kind]) == 1 || priv == 3 && bit(b, 7) == 0 {
					if s.want(m).what != 1 {
						t.Fatalf("%s at %d, byte %#x", name, priv, b)
					}
				} else {
					s.raised(m, accessFaults[kind], dataAddr)
				}
			}
		}
	}
}

// Loads and stores by a table: the marks, the address that wraps round to its first page, and the codes.
func TestLoadsAndStoresByTables(t *testing.T) {
	s := stepperOf(t)
	for name, size := range stepSizes {
		kind := accessOf(name)
		for _, priv := range []int64{0, 1} {
			rd, b := int64(5), int64(0)
			if kind == impl.KdStore {
				rd, b = 0, 7
			}
			word := s.word(name, rd, 6, b, 16)
			m, own, next := tabledMachine(priv, 0x0f, 0x07)
			m = tabledInst(withX(m, 6, stepAddr+4096+0x240), word)
			ram := stored(m.Ram, own, 8, loaded(m.Ram, own, 8)+0x40)
			marked := stored(ram, next, 8, loaded(m.Ram, next, 8)+behindMark[kind])
			s.done(m, func(out *impl.Machine) {
				if out.Ram = marked; kind == impl.KdStore {
					out.Ram = stored(marked, 0x2250, size, m.X[7])
				} else {
					out.X[5] = loadedBySize(marked, 0x2250, name)
				}
			})
			// It leads, but may not be; it leads where nothing is; it does not lead.
			shutM := m
			shutM.Csrs = withWord(withWord(shutAt(0, 0x2250, 0x04), 4, m.Csrs[4]), 10, m.Csrs[10])
			s.raisedWith(shutM, marked, accessFaults[kind], stepAddr+4096+0x250)
			away := m
			away.Ram = stored(m.Ram, next, 8, loaded(m.Ram, next, 8)+2*1024)
			s.raisedWith(away, stored(marked, next, 8, loaded(marked, next, 8)+2*1024), accessFaults[kind], stepAddr+4096+0x250)
			for _, leaf := range []uint64{0, 1, loaded(m.Ram, next, 8) ^ 1, loaded(m.Ram, next, 8) ^ 0x10, loaded(m.Ram, next, 8) + 1<<54, loaded(m.Ram, next, 8) ^ 0x0e} {
				bad := m
				bad.Ram = stored(m.Ram, next, 8, leaf)
				s.raisedWith(bad, stored(ram, next, 8, leaf), pageFaults[kind], stepAddr+4096+0x250)
			}
			if size > 1 {
				s.raisedWith(withX(m, 6, stepAddr+4096+0x241), ram, map[int64]int64{2: 4, 3: 6}[kind], stepAddr+4096+0x251)
			}
		}
	}
}

// loadedBySize is what a load by a name makes of bytes.
func loadedBySize(ram []byte, at int, name string) uint64 {
	size := stepSizes[name]
	x := loaded(ram, at, size)
	if !strings.HasSuffix(name, "u") && bit(x, int(8*size-1)) == 1 {
		x |= ^lowest[size]
	}
	return x
}

// a + i past the end of all addresses leads where the first page does, and past 0 where the last does.
func TestAddressesThatWrapRound(t *testing.T) {
	s := stepperOf(t)
	for _, x := range []struct {
		a   uint64
		imm int64
		at  uint64
	}{{allOnes - 7, 0x48, 0x40}, {allOnes - 2039, 2047, 7}, {0x40, -0x80, allOnes - 0x3f}, {0, -8, allOnes - 7}} {
		ram, at := tabled(x.at, 0, (ramFrame+2)*1024+0x4f)
		for _, name := range []string{"lb", "lbu", "sb"} {
			m := machineOf(ram, withWord(open(statusFor(1)), 4, impl.RamBase+0x400), 3, quiet)
			m.Pc, m.Wait = calmPc, false
			m.Ram = stored(m.Ram, at, 8, (ramFrame+2)*1024+0x4f)
			m = s.touch(m, name, x.a, x.imm)
			place := 0x2000 + int(x.at%4096)
			s.done(m, func(out *impl.Machine) {
				if name == "sb" {
					out.Ram = stored(stored(m.Ram, at, 8, (ramFrame+2)*1024+0xcf), place, 1, m.X[7])
				} else {
					out.X[5] = loadedBySize(m.Ram, place, name)
				}
			})
		}
	}
}

// Loads and stores at devices: what is told, what is taken, and mip's lines behind it.
func TestDevicesByLoadsAndStores(t *testing.T) {
	s := stepperOf(t)
	for k, d := range rightDevs() {
		m := calm(privs[k%3])
		m.Dev, m.Csrs = d, withWord(m.Csrs, 9, 0x222|linesOf(d))
		for name, size := range stepSizes {
			for _, port := range portAddrs {
				got := s.want(s.touch(m, name, port, 0))
				if (got.what == 1) != (size == portSizes[port]) {
					t.Fatalf("%s at %d: %d", name, port, got.what)
				}
			}
		}
	}
}

func TestDevicesByHand(t *testing.T) {
	s := stepperOf(t)
	base := calm(3)
	base.Dev = impl.Dev{Time: 0x8000000000000005, Cmp: 0x9000000000000006, In: []byte{0x80, 1}, Out: []byte{7}, Ier: 1}
	base.Csrs = withWord(base.Csrs, 9, 0xa00)
	taken := func(rd int64, x, mip uint64, in []byte) func(*impl.Machine) {
		return func(out *impl.Machine) { out.X[rd], out.In, out.Csrs[9] = x, in, mip }
	}
	s.done(s.touch(base, "lb", byteAddr, 0), taken(5, allOnes-0x7f, 0xa00, []byte{1}))
	s.done(s.touch(base, "lbu", byteAddr, 0), taken(5, 0x80, 0xa00, []byte{1}))
	// A byte goes by a load into x0, too; the line goes with the last one.
	last := base
	last.In = []byte{9}
	s.done(s.touch(last, "lbu", byteAddr-5, 5), taken(5, 9, 0x200, nil))
	s.done(withX(s.laid(last, "lbu", 0, 6, 0, 0), 6, byteAddr), taken(0, 0, 0x200, nil))
	none := base
	none.In, none.Csrs = nil, withWord(base.Csrs, 9, 0x200)
	s.set(s.touch(none, "lb", byteAddr, 0), 5, 0)
	s.set(s.touch(none, "lb", stateAddr, 0), 5, 32)
	s.set(s.touch(base, "lbu", stateAddr, 0), 5, 33)
	s.set(s.touch(base, "lbu", ierAddr, 0), 5, 1)
	s.set(s.touch(base, "ld", timeAddr, 0), 5, 0x8000000000000005)
	s.set(s.touch(base, "ld", cmpAddr, 0), 5, 0x9000000000000006)
	s.set(s.touch(base, "lw", softAddr, 0), 5, 0)
	s.raised(s.touch(base, "lw", byteAddr, 0), 5, byteAddr)
	s.raised(s.touch(base, "sw", timeAddr, 0), 7, timeAddr)
	s.raised(s.touch(base, "lh", ierAddr, 0), 4, ierAddr)
	put := func(name string, addr, x uint64, change func(out *impl.Machine)) {
		s.done(withX(s.touch(base, name, addr, 0), 7, x), change)
	}
	put("sb", byteAddr, 0x141, func(out *impl.Machine) { out.Out = []byte{7, 0x41} })
	put("sb", ierAddr, 0xfe, func(out *impl.Machine) { out.Ier, out.Csrs[9] = 0, 0x200 })
	put("sw", softAddr, 0xffffffff, func(out *impl.Machine) { out.Soft, out.Csrs[9] = true, 0xa08 })
	put("sd", timeAddr, allOnes, func(out *impl.Machine) { out.Time, out.Csrs[9] = allOnes, 0xa80 })
	put("sd", cmpAddr, 0x8000000000000005, func(out *impl.Machine) { out.Cmp, out.Csrs[9] = 0x8000000000000005, 0xa80 })
	put("sb", stateAddr, 1, nil)
}

// A device that rings by a store is heard by the next step.
func TestABellThatIsStored(t *testing.T) {
	s := stepperOf(t)
	m := withX(s.touch(calm(1), "sw", softAddr, 0), 7, 1)
	m.Csrs = withWord(m.Csrs, 3, 8)
	out, all := impl.Steps(m, 2)
	if !slices.Equal(all, []int64{1, 3}) || out.Csrs[7] != 1<<63+3 || out.Csrs[6] != calmPc+4 || out.Pc != impl.RamBase+0x400+12 || out.Priv != 3 {
		t.Error(all, showMachine(out))
	}
}

// What is held is let go by a store into its 8 bytes, and by no load, and by no store that is refused.
func TestHeldByLoadsAndStores(t *testing.T) {
	s := stepperOf(t)
	for name, size := range stepSizes {
		for hold := dataAddr; hold < dataAddr+8; hold++ {
			m := calm(3)
			m.Held, m.Hold = true, hold
			for at := dataAddr - 8; at < dataAddr+16; at += uint64(size) {
				m := s.touch(m, name, at, 0)
				got := s.want(m)
				lets := accessOf(name) == impl.KdStore && at >= dataAddr && at < dataAddr+8
				if got.what != 1 || got.m.Held == lets || got.m.Held != (got.m.Hold == hold) {
					t.Fatalf("%s at %#x, held %#x: %v", name, at, hold, got.m.Held)
				}
			}
		}
		m := calm(3)
		m.Held, m.Hold = true, dataAddr
		m.Csrs = slices.Clone(m.Csrs)
		m.Csrs[16], m.Csrs[17], m.Csrs[18] = 0x98+0x1f<<8, dataAddr/4, greatestAddr
		s.raised(s.touch(m, name, dataAddr, 0), accessFaults[accessOf(name)], dataAddr)
	}
}

// atomicSizes has, by how its name ends, the size of an lr, an sc or an amo.
var atomicSizes = map[string]int64{"w": 4, "d": 8}

// onA is the machine about to do an instruction with x6 as a, x7 as b and rd.
func (s stepper) onA(m impl.Machine, name string, rd int64, a uint64) impl.Machine {
	s.t.Helper()
	b := int64(7)
	if strings.HasPrefix(name, "lr") {
		b = 0
	}
	return withX(s.laid(m, name, rd, 6, b, 0), 6, a)
}

func TestLrByHand(t *testing.T) {
	s := stepperOf(t)
	for _, priv := range privs {
		for _, rd := range []int64{5, 6, 0} {
			for _, was := range []uint64{0, dataAddr, dataAddr + 4, 8, allOnes} {
				m := withData(calm(priv), dataWord)
				m.Held, m.Hold = was != 0, was
				held := func(x, hold uint64) func(*impl.Machine) {
					return func(out *impl.Machine) {
						if out.Held, out.Hold = true, hold; rd != 0 {
							out.X[rd] = x
						}
					}
				}
				s.done(s.onA(m, "lr.w", rd, dataAddr), held(0xffffffffccddeeff, dataAddr))
				s.done(s.onA(m, "lr.w", rd, dataAddr+4), held(0xffffffff8899aabb, dataAddr+4))
				s.done(s.onA(m, "lr.d", rd, dataAddr), held(dataWord, dataAddr))
				for order := range int64(4) {
					s.done(withX(s.laid(m, "lr.w", rd, 6, 0, order), 6, dataAddr), held(0xffffffffccddeeff, dataAddr))
					s.done(withX(s.laid(m, "lr.d", rd, 6, 0, order), 6, dataAddr), held(dataWord, dataAddr))
				}
				s.done(s.onA(m, "lr.w", rd, softAddr), held(0, softAddr))
				s.done(s.onA(m, "lr.d", rd, cmpAddr), held(7, cmpAddr))
				for k := uint64(1); k < 8; k++ {
					s.raised(s.onA(m, "lr.d", rd, dataAddr+k), 4, dataAddr+k)
					if k != 4 {
						s.raised(s.onA(m, "lr.w", rd, dataAddr+k), 4, dataAddr+k)
					}
				}
				for _, addr := range []uint64{0, impl.RamBase - 8, impl.RamBase + 4096, byteAddr, allOnes - 7} {
					s.raised(s.onA(m, "lr.w", rd, addr), 5, addr)
					s.raised(s.onA(m, "lr.d", rd, addr), 5, addr)
				}
			}
		}
	}
	m := withData(calm(3), 0x1122334455667788)
	s.done(s.onA(m, "lr.w", 5, dataAddr), func(out *impl.Machine) { out.X[5], out.Held, out.Hold = 0x55667788, true, dataAddr })
}

func TestScByHand(t *testing.T) {
	s := stepperOf(t)
	for _, priv := range privs {
		for _, rd := range []int64{5, 6, 7, 0} {
			for name, size := range map[string]int64{"sc.w": 4, "sc.d": 8} {
				m := withX(withData(calm(priv), dataWord), 7, 0x1122334455667788)
				ends := func(x uint64, ram []byte) func(*impl.Machine) {
					return func(out *impl.Machine) {
						if out.Held, out.Hold, out.Ram = false, 0, ram; rd != 0 {
							out.X[rd] = x
						}
					}
				}
				at := s.onA(m, name, rd, dataAddr)
				s.done(at, ends(1, at.Ram))
				for _, hold := range []uint64{0, 4, dataAddr - 8, dataAddr + 1, dataAddr + 4, dataAddr + 8, dataAddr + 1<<32, allOnes} {
					at.Held, at.Hold = true, hold
					s.done(at, ends(1, at.Ram))
				}
				at.Held, at.Hold = true, dataAddr
				s.done(at, ends(0, stored(at.Ram, dataAt, size, 0x1122334455667788)))
				for k := uint64(1); k < 8; k++ {
					if k%uint64(size) == 0 {
						continue
					}
					for _, at := range []impl.Machine{at, m} {
						if at.Held {
							at.Hold = dataAddr + k
						}
						s.raised(s.onA(at, name, rd, dataAddr+k), 6, dataAddr+k)
						s.raised(s.onA(at, name, rd, k), 6, k)
					}
				}
				// Where nothing is, nothing is asked for unless it is held.
				for _, addr := range []uint64{0, 8, impl.RamBase + 4096, byteAddr, allOnes - 7} {
					away := s.onA(m, name, rd, addr)
					s.done(away, ends(1, away.Ram))
					away.Held, away.Hold = true, addr
					s.raised(away, 7, addr)
				}
			}
		}
	}
}

// The Imm of an sc is what its bits 25 and 26 are, and changes nothing.
func TestScOfEachOrder(t *testing.T) {
	s := stepperOf(t)
	for order := range int64(4) {
		for name, size := range map[string]int64{"sc.w": 4, "sc.d": 8} {
			m := withX(s.laid(calm(1), name, 5, 6, 7, order), 6, dataAddr)
			m.Held, m.Hold = true, dataAddr
			s.done(m, func(out *impl.Machine) {
				out.Held, out.Hold, out.X[5], out.Ram = false, 0, 0, stored(m.Ram, dataAt, size, m.X[7])
			})
		}
	}
}

// An sc at a device stores into it.
func TestScAtDevices(t *testing.T) {
	s := stepperOf(t)
	m := withX(calm(3), 7, 3)
	for _, x := range []struct {
		name   string
		addr   uint64
		change func(out *impl.Machine)
	}{
		{"sc.w", softAddr, func(out *impl.Machine) { out.Soft, out.Csrs[9] = true, 8 }},
		{"sc.d", cmpAddr, func(out *impl.Machine) { out.Cmp, out.Csrs[9] = 3, 128 }},
		{"sc.d", timeAddr, func(out *impl.Machine) { out.Time = 3 }},
	} {
		m := s.onA(m, x.name, 5, x.addr)
		s.done(m, func(out *impl.Machine) { out.X[5] = 1 })
		m.Held, m.Hold = true, x.addr
		s.done(m, func(out *impl.Machine) {
			out.X[5], out.Held, out.Hold = 0, false, 0
			x.change(out)
		})
	}
}

// program lays words from calmPc on.
func (s stepper) program(m impl.Machine, lines ...[5]int64) impl.Machine {
	s.t.Helper()
	for k, l := range lines {
		m.Ram = stored(m.Ram, int(m.Pc-impl.RamBase)+4*k, 4, s.word(s.ops[l[0]-1].name, l[1], l[2], l[3], l[4]))
	}
	return m
}

// What comes between an lr and its sc: x6 and x8 are where these go, x7 is stored, x10 says how the sc ended.
func TestBetweenLrAndSc(t *testing.T) {
	s := stepperOf(t)
	lrw, scw, lrd, scd := int64(63), int64(64), int64(74), int64(75)
	lr := func(op int64) [5]int64 { return [5]int64{op, 9, 6, 0, 0} }
	sc := func(op, rd int64) [5]int64 { return [5]int64{op, rd, 8, 7, 0} }
	store := func(op, imm int64) [5]int64 { return [5]int64{op, 0, 6, 0, imm} }
	for k, x := range []struct {
		lines [][5]int64
		more  uint64
		told  [2]uint64
	}{
		{[][5]int64{lr(lrw), sc(scw, 10), sc(scw, 11)}, 0, [2]uint64{0, 1}},
		{[][5]int64{lr(lrd), sc(scd, 10), sc(scd, 11)}, 0, [2]uint64{0, 1}},
		{[][5]int64{lr(lrd), sc(scw, 10), sc(scw, 11)}, 0, [2]uint64{0, 1}},
		{[][5]int64{lr(lrw), sc(scd, 10), sc(scd, 11)}, 0, [2]uint64{0, 1}},
		{[][5]int64{lr(lrw), sc(scw, 10), sc(scw, 11)}, 4, [2]uint64{1, 1}},
		{[][5]int64{lr(lrw), sc(scw, 10), lr(lrw), sc(scw, 11)}, 4, [2]uint64{1, 1}},
		{[][5]int64{lr(lrd), sc(scd, 10), lr(lrd), sc(scd, 11)}, 8, [2]uint64{1, 1}},
		{[][5]int64{lr(lrw), sc(scw, 10), lr(lrw), sc(scw, 11)}, 0, [2]uint64{0, 0}},
		{[][5]int64{lr(lrw), store(18, 0), sc(scw, 10), sc(scw, 11)}, 0, [2]uint64{1, 1}},
		{[][5]int64{lr(lrw), store(18, 7), sc(scw, 10), sc(scw, 11)}, 0, [2]uint64{1, 1}},
		{[][5]int64{lr(lrw), store(20, 4), sc(scw, 10), sc(scw, 11)}, 0, [2]uint64{1, 1}},
		{[][5]int64{lr(lrd), store(21, 0), sc(scd, 10), sc(scd, 11)}, 0, [2]uint64{1, 1}},
		{[][5]int64{lr(lrd), store(18, -1), sc(scd, 10), sc(scd, 11)}, 0, [2]uint64{0, 1}},
		{[][5]int64{lr(lrd), store(18, 8), sc(scd, 10), sc(scd, 11)}, 0, [2]uint64{0, 1}},
		{[][5]int64{lr(lrw), store(21, 8), store(21, -8), sc(scw, 10), sc(scw, 11)}, 0, [2]uint64{0, 1}},
		{[][5]int64{lr(lrw), {14, 9, 6, 0, 0}, {85, 0, 0, 0, 0}, sc(scw, 10), sc(scw, 11)}, 0, [2]uint64{0, 1}},
		{[][5]int64{lr(lrw), {66, 9, 6, 0, 0}, sc(scw, 10), sc(scw, 11)}, 0, [2]uint64{1, 1}},
		{[][5]int64{{22, 9, 0, 0, 1}, sc(scw, 10), sc(scd, 11)}, 0, [2]uint64{1, 1}},
	} {
		m := s.program(withX(withX(calm(1), 6, dataAddr), 8, dataAddr+x.more), x.lines...)
		m = withX(withX(m, 10, 77), 11, 77)
		out := m
		for range x.lines {
			want := s.want(out)
			if want.what != 1 {
				t.Fatalf("row %d: %d", k, want.what)
			}
			out, _ = impl.Step(out)
		}
		if out.X[10] != x.told[0] || out.X[11] != x.told[1] || out.Held || out.Hold != 0 {
			t.Errorf("row %d: %d, %d, want %d; %v", k, out.X[10], out.X[11], x.told, out.Held)
		}
	}
}

// A trap between the two lets nothing go.
func TestTrapsBetweenLrAndSc(t *testing.T) {
	s := stepperOf(t)
	m := s.program(withX(withX(calm(3), 6, dataAddr), 8, dataAddr), [5]int64{63, 9, 6, 0, 0}, [5]int64{93, 0, 0, 0, 0})
	m.Ram = stored(m.Ram, 0x400, 4, s.word("sc.w", 10, 8, 7, 0))
	out, all := impl.Steps(m, 3)
	if !slices.Equal(all, []int64{1, 2, 1}) || out.X[10] != 0 || loaded(out.Ram, dataAt, 4) != m.X[7]&0xffffffff {
		t.Error(all, out.X[10])
	}
}

// By a table it is the physical address that is held, and Walk of a store is asked for whatever is held.
func TestLrAndScByTables(t *testing.T) {
	s := stepperOf(t)
	for _, priv := range []int64{0, 1} {
		for end, size := range atomicSizes {
			m, own, next := tabledMachine(priv, 0x4f, 0x07)
			addr := stepAddr + 4096 + 0x258
			m = withX(withX(m, 6, addr), 7, 0x1122334455667788)
			leaf := loaded(m.Ram, next, 8)
			lr := tabledInst(m, s.word("lr."+end, 5, 6, 0, 0))
			ram := stored(lr.Ram, next, 8, leaf+0x40)
			s.done(lr, func(out *impl.Machine) {
				out.X[5] = loadedBySize(ram, 0x2258, map[string]string{"w": "lw", "d": "ld"}[end])
				out.Ram, out.Held, out.Hold = ram, true, impl.RamBase+0x2258
			})
			sc := tabledInst(m, s.word("sc."+end, 5, 6, 7, 0))
			ram = stored(sc.Ram, next, 8, leaf+0xc0)
			ends := func(x uint64, ram []byte) func(*impl.Machine) {
				return func(out *impl.Machine) { out.X[5], out.Ram, out.Held, out.Hold = x, ram, false, 0 }
			}
			// What is held is not where it leads: nothing is stored, but the leaf was walked by.
			s.done(sc, ends(1, ram))
			for _, hold := range []uint64{addr, impl.RamBase + 0x258, impl.RamBase + 0x2250} {
				sc.Held, sc.Hold = true, hold
				s.done(sc, ends(1, ram))
			}
			sc.Hold = impl.RamBase + 0x2258
			s.done(sc, ends(0, stored(ram, 0x2258, size, 0x1122334455667788)))
			// By the other page, which leads there too.
			other := sc
			other.Ram = stored(sc.Ram, own, 8, loaded(sc.Ram, own, 8)|0xc0)
			s.done(withX(other, 6, stepAddr+0x258), ends(0, stored(other.Ram, 0x2258, size, 0x1122334455667788)))
			for _, sc.Held = range []bool{true, false} {
				if !sc.Held {
					sc.Hold = 0
				}
				// No multiple comes ahead of the walk, which marks nothing then.
				s.raised(withX(sc, 6, addr+1), 6, addr+1)
				s.raised(withX(sc, 6, addr+1<<40+2), 6, addr+1<<40+2)
				s.raised(withX(sc, 6, addr+1<<40), 15, addr+1<<40)
				for _, bad := range []uint64{0, leaf ^ 1, leaf ^ 0x10, leaf ^ 4, leaf ^ 6, leaf + 1<<63} {
					sc := sc
					sc.Ram = stored(sc.Ram, next, 8, bad)
					s.raised(sc, 15, addr)
				}
				// The leaf may not be marked.
				bare := sc
				bare.Csrs = withWord(withWord(shutAt(0, next, 0x01), 4, m.Csrs[4]), 10, m.Csrs[10])
				s.raised(bare, 7, addr)
			}
			// It leads, but may not be stored into: that is met where it is held alone.
			bare := sc
			bare.Csrs = withWord(withWord(shutAt(0, 0x2258, 0x05), 4, m.Csrs[4]), 10, m.Csrs[10])
			s.done(bare, ends(1, ram))
			bare.Held, bare.Hold = true, impl.RamBase+0x2258
			s.raisedWith(bare, ram, 7, addr)
		}
	}
}

// Loads and stores count as at another privilege with mstatus' bit 17; so do lr, sc and amo.
func TestAtomicsAtThePrivilegeThatCounts(t *testing.T) {
	s := stepperOf(t)
	for _, name := range []string{"lr.w", "sc.w", "amoadd.w", "lr.d", "sc.d", "amoadd.d"} {
		ram, at := tabled(midAddr, 0, (ramFrame+2)*1024+0x17)
		m := machineOf(ram, withWord(open(statusFor(0)), 4, impl.RamBase+0x400), 3, quiet)
		m.Pc, m.Wait = calmPc, false
		m.Held, m.Hold = true, impl.RamBase+0x2678
		m = s.onA(m, name, 5, midAddr)
		got := s.want(m)
		low := byte(0xd7)
		if name[0] == 'l' {
			low = 0x57
		}
		if got.what != 1 || got.m.Ram[at] != low || name[0] == 'l' && got.m.Hold != impl.RamBase+0x2678 || name[0] == 's' && got.m.X[5] != 0 {
			t.Fatalf("%s: %d, leaf %#x", name, got.what, got.m.Ram[at])
		}
		m.Csrs = withWord(m.Csrs, 0, statusFor(1))
		s.raised(m, map[bool]int64{true: 13, false: 15}[name[0] == 'l'], midAddr)
		m.Csrs = withWord(m.Csrs, 0, statusFor(3))
		if name[0] == 's' {
			s.done(m, func(out *impl.Machine) { out.X[5], out.Held, out.Hold = 1, false, 0 })
		} else {
			s.raised(m, map[bool]int64{true: 5, false: 7}[name[0] == 'l'], midAddr)
		}
	}
}

// amosByHand has what each amo leaves: those of .w of 0x80000001, those of .d of 0x8000000000000001.
var amosByHand = []struct {
	name string
	b    uint64
	want uint64
}{
	{"amoswap.w", 5, 5}, {"amoadd.w", 0x80000000, 1}, {"amoxor.w", 0xffffffff, 0x7ffffffe}, {"amoand.w", 0x80000000, 0x80000000},
	{"amoor.w", 0x10, 0x80000011}, {"amomin.w", 1, 0x80000001}, {"amomax.w", 1, 1}, {"amominu.w", 1, 1}, {"amomaxu.w", 1, 0x80000001},
	{"amoswap.w", 0x1122334455667788, 0x55667788}, {"amomax.w", 0xf00000000, 0}, {"amomin.w", 0xf80000000, 0x80000000},
	{"amoswap.d", 5, 5}, {"amoadd.d", 1 << 63, 1}, {"amoxor.d", allOnes, greatestSigned - 1}, {"amoand.d", 1 << 63, 1 << 63},
	{"amoor.d", 0x10, 1<<63 + 0x11}, {"amomin.d", 1, 1<<63 + 1}, {"amomax.d", 1, 1}, {"amominu.d", 1, 1}, {"amomaxu.d", 1, 1<<63 + 1},
}

func amoSize(name string) int64 {
	return atomicSizes[name[len(name)-1:]]
}

func TestAmosByHand(t *testing.T) {
	s, seen := stepperOf(t), map[string]int{}
	for _, x := range amosByHand {
		seen[x.name]++
		size := amoSize(x.name)
		old, told := uint64(0x80000001), uint64(0xffffffff80000001)
		if size == 8 {
			old, told = 1<<63+1, 1<<63+1
		}
		for _, priv := range privs {
			for _, rd := range []int64{5, 6, 7, 0} {
				for _, at := range []int{0, 8, int(size)} {
					m := withX(calm(priv), 7, x.b)
					m.Ram = stored(m.Ram, dataAt+at, size, old)
					m = s.onA(m, x.name, rd, dataAddr+uint64(at))
					s.done(m, func(out *impl.Machine) {
						if out.Ram = stored(m.Ram, dataAt+at, size, x.want); rd != 0 {
							out.X[rd] = told
						}
					})
				}
			}
		}
	}
	if len(seen) != 18 {
		t.Errorf("%d Ops", len(seen))
	}
}

// One register may be where, and what is reckoned with; what is not below 0 is told as it is; Imm changes nothing.
func TestAmosOfOneRegister(t *testing.T) {
	s := stepperOf(t)
	for name, size := range map[string]int64{"amoadd.w": 4, "amoadd.d": 8} {
		for order := range int64(4) {
			m := withX(withData(calm(3), 0x1122334455667788), 6, dataAddr)
			m = s.laid(m, name, 6, 6, 6, order)
			s.done(m, func(out *impl.Machine) {
				old := 0x1122334455667788 & lowest[size]
				out.X[6], out.Ram = old, stored(m.Ram, dataAt, size, old+dataAddr)
			})
		}
	}
}

// Each amo without a table: no multiple, nothing there, what may be loaded alone, and stored into alone, which no entry says.
func TestAmoCodes(t *testing.T) {
	s := stepperOf(t)
	for _, x := range amosByHand {
		size := amoSize(x.name)
		for _, priv := range privs {
			m := calm(priv)
			m.Csrs = withWord(m.Csrs, 1, uint64(priv)<<6)
			m.Held, m.Hold = true, dataAddr
			for k := uint64(1); k < 8; k++ {
				if k%uint64(size) != 0 {
					s.raised(s.onA(m, x.name, 5, dataAddr+k), 6, dataAddr+k)
					s.raised(s.onA(m, x.name, 5, k-8), 6, k-8)
				}
			}
			for _, addr := range []uint64{0, impl.RamBase - 8, impl.RamBase + 4096, byteAddr, allOnes - 7} {
				s.raised(s.onA(m, x.name, 5, addr), 7, addr)
			}
			for _, b := range entryBytes() {
				m := s.onA(m, x.name, 5, dataAddr)
				m.Csrs = slices.Clone(m.Csrs)
				m.Csrs[16], m.Csrs[17], m.Csrs[18] = b&^0x18+0x18+0x1f<<8, dataAddr/4, greatestAddr
				if b%4 == 3 || priv == 3 && bit(b, 7) == 0 {
					if got := s.want(m); got.what != 1 || got.m.Held {
						t.Fatalf("%s at %d, byte %#x", x.name, priv, b)
					}
				} else {
					s.raised(m, 7, dataAddr)
				}
			}
		}
	}
}

// An amo at a device loads and stores there; by 4 and 8 bytes no byte of In is taken.
func TestAmosAtDevices(t *testing.T) {
	s := stepperOf(t)
	for _, x := range amosByHand {
		for k, d := range smallDevs() {
			m := withX(calm(privs[k%3]), 7, x.b)
			m.Dev, m.Csrs = d, withWord(m.Csrs, 9, 0x20|linesOf(d))
			for _, port := range portAddrs {
				m := s.onA(m, x.name, 5, port)
				got := s.want(m)
				if size := amoSize(x.name); (got.what == 1) != (size == portSizes[port]) {
					t.Fatalf("%s at %d: %d", x.name, port, got.what)
				}
				if !bytes.Equal(got.m.In, d.In) {
					t.Fatalf("%s at %d has taken a byte", x.name, port)
				}
			}
		}
	}
	m := withX(calm(3), 7, 5)
	m.Dev = impl.Dev{Time: 10, Cmp: 12, In: []byte{7}, Ier: 1}
	m.Csrs = withWord(m.Csrs, 9, 0x800)
	s.done(s.onA(m, "amoadd.d", 5, timeAddr), func(out *impl.Machine) { out.X[5], out.Time, out.Csrs[9] = 10, 15, 0x880 })
	s.done(s.onA(m, "amomin.d", 5, cmpAddr), func(out *impl.Machine) { out.X[5], out.Cmp, out.Csrs[9] = 12, 5, 0x880 })
	s.done(s.onA(m, "amoor.w", 5, softAddr), func(out *impl.Machine) { out.X[5], out.Soft, out.Csrs[9] = 0, true, 0x808 })
	s.raised(s.onA(m, "amoswap.w", 5, byteAddr), 7, byteAddr)
	s.raised(s.onA(m, "amoswap.d", 5, byteAddr), 7, byteAddr)
	s.raised(s.onA(m, "amoswap.w", 5, ierAddr), 6, ierAddr)
	s.raised(s.onA(m, "amoswap.w", 5, timeAddr), 7, timeAddr)
}

// An amo by a table: the leaf is marked as by a store, and stays so where the load or the store may not be.
func TestAmosByTables(t *testing.T) {
	s := stepperOf(t)
	for k, x := range amosByHand {
		priv, size := int64(k%2), amoSize(x.name)
		addr := stepAddr + 4096 + 0x258
		m, _, next := tabledMachine(priv, 0x4f, 0x07)
		m = withX(withX(tabledInst(m, s.word(x.name, 5, 6, 7, 0)), 6, addr), 7, x.b)
		m.Held, m.Hold = true, impl.RamBase+0x2258
		leaf := loaded(m.Ram, next, 8)
		marked := stored(m.Ram, next, 8, leaf+0xc0)
		old := loaded(m.Ram, 0x2258, size)
		left, _ := impl.Amo(impl.OpOf(x.name), old, x.b)
		s.done(m, func(out *impl.Machine) {
			out.X[5], out.Ram, out.Held, out.Hold = impl.Widen(old, 8*size), stored(marked, 0x2258, size, left), false, 0
		})
		s.raised(withX(m, 6, addr+2), 6, addr+2)
		s.raised(withX(m, 6, addr+1<<40), 15, addr+1<<40)
		for _, bad := range []uint64{0, leaf ^ 1, leaf ^ 0x10, leaf ^ 4, leaf ^ 6, leaf + 1<<54} {
			m := m
			m.Ram = stored(m.Ram, next, 8, bad)
			s.raised(m, 15, addr)
		}
		for _, b := range []uint64{0x00, 0x01, 0x04, 0x05, 0x80, 0x81, 0x84, 0x85} {
			m := m
			m.Csrs = withWord(withWord(shutAt(0, 0x2258, b), 4, m.Csrs[4]), 10, m.Csrs[10])
			s.raisedWith(m, marked, 7, addr)
			m.Csrs = withWord(withWord(shutAt(0, next, b), 4, m.Csrs[4]), 10, m.Csrs[10])
			s.raised(m, 7, addr)
		}
		away := m
		away.Ram = stored(m.Ram, next, 8, leaf+2*1024)
		s.raisedWith(away, stored(m.Ram, next, 8, leaf+2*1024+0xc0), 7, addr)
	}
}

var csrNames = []string{"csrrw", "csrrs", "csrrc", "csrrwi", "csrrsi", "csrrci"}

// absentNumbers are near those that there are.
var absentNumbers = []int64{0, 1, 255, 257, 259, 262, 319, 324 + 1, 383, 385, 767, 774, 831, 837, 927, 929, 943, 948, 1024, 2817, 2819, 3072, 3074, 3857, 3859, 3861, 4095}

// Each csr Op at each register and privilege, of many registers and words; those that are not there are exception 2.
func TestEachCsr(t *testing.T) {
	s, seen := stepperOf(t), map[[2]int64]int{}
	words, lists := writtenWords(), rightLists(t)
	for n, number := range slices.Concat(s.numbers, absentNumbers) {
		for _, priv := range privs {
			for k, name := range csrNames {
				for turn := range 6 {
					m := calm(priv)
					m.Csrs = slices.Clone(lists[(n*17+turn*5+k)%len(lists)])
					// Nothing is told, so that no bell comes first, and the word may be fetched.
					m.Csrs[3], m.Csrs[9] = 0, m.Csrs[9]&0x222
					if !may(m.Csrs, priv, calmPc, 4, impl.KdFetch) || m.Csrs[15]>>60 == 8 && priv != 3 {
						copy(m.Csrs[15:21], plain()[15:21])
					}
					a := []int64{0, 6, 31, 1, 5, 6}[turn]
					m = withX(m, 6, words[(n*7+turn*11+k)%len(words)])
					m = s.laid(m, name, []int64{5, 0, 6}[(n+turn)%3], a, 0, number)
					seen[[2]int64{priv, s.want(m).what}]++
				}
			}
		}
	}
	if seen[[2]int64{0, 1}] != 0 || seen[[2]int64{1, 1}] < 100 || seen[[2]int64{3, 1}] < 500 || seen[[2]int64{3, 2}] < 200 {
		t.Error(seen)
	}
}

// Every number there can be, at each privilege: it goes through where there is a register that may be reached.
func TestEveryCsrNumber(t *testing.T) {
	s := stepperOf(t)
	for number := range int64(4096) {
		there := slices.Contains(s.numbers, number)
		priv := privs[number%3]
		for _, priv := range []int64{priv, 3} {
			m := s.laid(calm(priv), "csrrs", 5, 0, 0, number)
			out, what := impl.Step(m)
			goes := there && priv >= lowestPriv(number)
			if (what == 1) != goes || !goes && (out.Csrs[7] != 2 || out.Csrs[8] != loaded(m.Ram, 0x100, 4)) {
				t.Fatalf("csrrs of %d at %d: %d", number, priv, what)
			}
		}
	}
}

func TestCsrsByHand(t *testing.T) {
	s := stepperOf(t)
	for _, x := range []struct {
		name       string
		rd, a, imm int64
		x6         uint64
		told       uint64
		place      int
		left       uint64
	}{
		{"csrrw", 5, 6, 832, 0xf0f0, 0x5555, 5, 0xf0f0}, {"csrrw", 5, 0, 832, 0xf0f0, 0x5555, 5, 0}, {"csrrw", 0, 6, 832, 0xf0f0, 0, 5, 0xf0f0},
		{"csrrw", 6, 6, 832, 0xf0f0, 0x5555, 5, 0xf0f0}, {"csrrs", 5, 6, 832, 0xf0f0, 0x5555, 5, 0xf5f5}, {"csrrs", 5, 0, 832, 0xf0f0, 0x5555, 5, 0x5555},
		{"csrrs", 0, 6, 832, 0xf0f0, 0, 5, 0xf5f5}, {"csrrs", 6, 6, 832, 0, 0x5555, 5, 0x5555}, {"csrrc", 5, 6, 832, 0xf0f0, 0x5555, 5, 0x0505},
		{"csrrc", 5, 0, 832, 0xf0f0, 0x5555, 5, 0x5555}, {"csrrc", 6, 6, 832, allOnes, 0x5555, 5, 0}, {"csrrwi", 5, 6, 832, 0xf0f0, 0x5555, 5, 6},
		{"csrrwi", 5, 31, 832, 0, 0x5555, 5, 31}, {"csrrwi", 5, 0, 832, 0, 0x5555, 5, 0}, {"csrrsi", 5, 10, 832, 0, 0x5555, 5, 0x555f},
		{"csrrsi", 5, 0, 832, 0, 0x5555, 5, 0x5555}, {"csrrci", 5, 6, 832, 0xffff, 0x5555, 5, 0x5551}, {"csrrci", 5, 0, 832, 0, 0x5555, 5, 0x5555},
		{"csrrw", 5, 6, 769, 1, 9223372036856090881, 5, 0x5555}, {"csrrs", 5, 0, 3860, 1, 0, 5, 0x5555}, {"csrrci", 5, 0, 3860, 1, 0, 5, 0x5555},
		{"csrrw", 5, 6, 384, 3 << 60, 0x0123456789abcdef, 15, 0x0123456789abcdef}, {"csrrw", 5, 6, 384, 8<<60 + 5, 0x0123456789abcdef, 15, 8<<60 + 5},
		{"csrrw", 5, 6, 768, allOnes, 0, 0, 0xe19aa}, {"csrrw", 5, 6, 256, allOnes, 0, 0, 0xc0122}, {"csrrs", 5, 6, 833, 7, 0, 6, 4},
		{"csrrw", 5, 6, 836, allOnes, 0, 9, 0x222}, {"csrrs", 5, 6, 836, 0x888, 0, 9, 0}, {"csrrwi", 5, 2, 836, 0, 0, 9, 2},
	} {
		m := withX(s.laid(calm(3), x.name, x.rd, x.a, 0, x.imm), 6, x.x6)
		s.done(m, func(out *impl.Machine) {
			if out.Csrs[x.place] = x.left; x.rd != 0 {
				out.X[x.rd] = x.told
			}
		})
	}
}

// minstret is read ahead of its count, and what is written there stays.
func TestTheCountItself(t *testing.T) {
	s := stepperOf(t)
	for _, x := range []struct {
		name  string
		a     int64
		x6    uint64
		count uint64
		left  uint64
	}{
		{"csrrw", 6, 0x1000, 21, 0x1000}, {"csrrw", 0, 0, 21, 0}, {"csrrw", 6, allOnes, 21, allOnes}, {"csrrw", 6, 5, allOnes, 5},
		{"csrrs", 0, 0, 21, 22}, {"csrrs", 0, 0, allOnes, 0}, {"csrrs", 6, 0, 21, 21}, {"csrrs", 6, 0x100, 21, 0x115}, {"csrrs", 6, 1, 20, 21},
		{"csrrc", 0, 0, 21, 22}, {"csrrc", 6, 0, 21, 21}, {"csrrc", 6, 1, 21, 20}, {"csrrc", 6, allOnes, allOnes, 0},
		{"csrrwi", 0, 0, 21, 0}, {"csrrwi", 31, 0, 21, 31}, {"csrrsi", 0, 0, 21, 22}, {"csrrsi", 2, 0, 21, 23}, {"csrrci", 0, 0, 21, 22}, {"csrrci", 5, 0, 21, 16},
	} {
		for _, rd := range []int64{5, 6, 0} {
			m := withX(s.laid(calm(3), x.name, rd, x.a, 0, 2818), 6, x.x6)
			m.Csrs = withWord(m.Csrs, 21, x.count)
			s.done(m, func(out *impl.Machine) {
				if out.Csrs[21] = x.left; rd != 0 {
					out.X[rd] = x.count
				}
			})
			m.Priv = 1
			s.raised(m, 2, loaded(m.Ram, 0x100, 4))
		}
	}
}

// What a csr Op may not: exception 2 with the word, and nothing else, not even the count.
func TestCsrsThatAreRefused(t *testing.T) {
	s := stepperOf(t)
	for _, name := range csrNames {
		for _, x := range []struct {
			priv, a, number int64
		}{
			{3, 6, 3860}, {3, 1, 3860}, {1, 0, 3860}, {0, 0, 3860}, {1, 0, 768}, {1, 6, 836}, {1, 6, 2818}, {1, 0, 769}, {0, 0, 256}, {0, 6, 324}, {0, 0, 384},
			{3, 0, 0}, {3, 6, 4095}, {3, 0, 3074}, {3, 6, 1}, {1, 0, 262}, {0, 0, 1}, {0, 6, 4095}, {0, 0, 3072},
		} {
			for _, handed := range []uint64{0, 4} {
				m := withX(s.laid(calm(x.priv), name, 5, x.a, 0, x.number), 6, 0)
				m.Csrs = withWord(m.Csrs, 1, handed)
				s.raised(m, 2, loaded(m.Ram, 0x100, 4))
			}
		}
	}
}

// mip is written with its lines as the devices tell them, by its own number and by its view's.
func TestMipIsWritten(t *testing.T) {
	s := stepperOf(t)
	for n := range uint64(8) {
		lines := bit(n, 0)<<3 | bit(n, 1)<<7 | bit(n, 2)<<11
		for _, name := range csrNames {
			for _, x := range append([]uint64{0, 0x222, 0x888, 0xaaa, allOnes, 0x555}, edgeNumbers[:8]...) {
				for _, number := range []int64{836, 324} {
					for _, was := range []uint64{0, 2, 0x222} {
						m := withX(s.laid(calm(3), name, 5, 6, 0, number), 6, x)
						m.Dev = devFor(lines)
						m.Csrs = withWord(withWord(m.Csrs, 9, was|lines), 2, 0x202)
						if got := s.want(m); got.what != 1 || got.m.Csrs[9]&0x888 != lines {
							t.Fatalf("%s of %d of %#x: mip %#x", name, number, x, got.m.Csrs[9])
						}
					}
				}
			}
		}
	}
}

// An interrupt that is written is taken by the next step, and what is locked is so at once.
func TestWhatIsWrittenCounts(t *testing.T) {
	s := stepperOf(t)
	m := s.program(calm(3), [5]int64{90, 0, 8, 0, 768}, [5]int64{90, 0, 2, 0, 772}, [5]int64{91, 0, 2, 0, 836}, [5]int64{22, 5, 0, 0, 1})
	out, all := impl.Steps(m, 4)
	if !slices.Equal(all, []int64{1, 1, 1, 3}) || out.Csrs[7] != 1<<63+1 || out.Csrs[6] != calmPc+12 || out.Csrs[21] != 24 {
		t.Error(all, showMachine(out))
	}
	m = withX(s.program(calm(3), [5]int64{87, 0, 6, 0, 928}, [5]int64{22, 5, 0, 0, 1}), 6, 0x99)
	m.Csrs = withWord(m.Csrs, 17, greatestAddr)
	out, all = impl.Steps(m, 2)
	if !slices.Equal(all, []int64{1, 2}) || out.Csrs[7] != 1 || out.Csrs[6] != calmPc+4 {
		t.Error(all, showMachine(out))
	}
}

// ecall and ebreak at each privilege, handed down and not.
func TestCallsAndBreaks(t *testing.T) {
	s := stepperOf(t)
	for _, priv := range privs {
		for _, handed := range []uint64{0, 1 << 3, 1<<8 + 1<<9, 0xb3ff} {
			for _, status := range []uint64{0, 2, 8, 0xe19aa} {
				m := calm(priv)
				m.Csrs = withWord(withWord(m.Csrs, 1, handed), 0, status)
				s.raised(s.laid(m, "ecall", 0, 0, 0, 0), map[int64]int64{0: 8, 1: 9, 3: 11}[priv], 0)
				s.raised(s.laid(m, "ebreak", 0, 0, 0, 0), 3, calmPc)
			}
		}
	}
	out, what := impl.Step(s.laid(calm(0), "ecall", 0, 0, 0, 0))
	if what != 2 || out.Pc != impl.RamBase+0x400 || out.Priv != 3 || out.Csrs[6] != calmPc || out.Csrs[7] != 8 || out.Csrs[8] != 0 || out.Csrs[21] != 21 {
		t.Error(what, showMachine(out))
	}
}

// mret and sret at each privilege, from every kind of mstatus.
func TestMretAndSret(t *testing.T) {
	s := stepperOf(t)
	for _, status := range statuses() {
		for _, priv := range privs {
			m := calm(priv)
			m.Csrs = slices.Clone(m.Csrs)
			m.Csrs[0], m.Csrs[6], m.Csrs[12] = status, 0x123456789abcdef0, 0xfedcba9876543210
			for _, name := range []string{"mret", "sret"} {
				if got := s.want(s.laid(m, name, 0, 0, 0, 0)); (got.what == 1) != (priv == 3 || priv == 1 && name == "sret") {
					t.Fatalf("%s at %d: %d", name, priv, got.what)
				}
			}
		}
	}
	m := s.laid(calm(3), "mret", 0, 0, 0, 0)
	m.Csrs = slices.Clone(m.Csrs)
	m.Csrs[0], m.Csrs[6], m.Csrs[12] = 0x20880, 0x1000, 0x2000
	s.done(m, func(out *impl.Machine) { out.Pc, out.Priv, out.Csrs[0] = 0x1000, 1, 0x88 })
	s.done(s.laid(m, "sret", 0, 0, 0, 0), func(out *impl.Machine) { out.Pc, out.Priv, out.Csrs[0] = 0x2000, 0, 0x8a0 })
	m.Priv = 1
	s.raised(m, 2, 0x30200073)
	s.done(s.laid(m, "sret", 0, 0, 0, 0), func(out *impl.Machine) { out.Pc, out.Priv, out.Csrs[0] = 0x2000, 0, 0x8a0 })
	m.Priv = 0
	s.raised(m, 2, 0x30200073)
	s.raised(s.laid(m, "sret", 0, 0, 0, 0), 2, 0x10200073)
}

// wfi and sfence.vma at each privilege; fence and fence.i, whose Rd is left as it is.
func TestWaitsAndFences(t *testing.T) {
	s := stepperOf(t)
	for _, priv := range privs {
		m := calm(priv)
		if priv == 0 {
			s.raised(s.laid(m, "wfi", 0, 0, 0, 0), 2, 0x10500073)
			s.raised(s.laid(m, "sfence.vma", 0, 0, 0, 0), 2, 0x12000073)
			s.raised(s.laid(m, "sfence.vma", 0, 6, 7, 0), 2, 0x12730073)
		} else {
			s.done(s.laid(m, "wfi", 0, 0, 0, 0), func(out *impl.Machine) { out.Wait = true })
			s.done(s.laid(m, "sfence.vma", 0, 0, 0, 0), nil)
			s.done(s.laid(m, "sfence.vma", 0, 6, 7, 0), nil)
		}
		for _, name := range []string{"fence", "fence.i"} {
			for _, rd := range []int64{0, 5, 6} {
				for _, imm := range []int64{0, 255, -1, -2048, 0x0ff} {
					s.done(s.laid(m, name, rd, 6, 0, imm), nil)
				}
			}
		}
	}
}

// What is done by a machine that waited and hears something goes on as without; a wfi waits again.
func TestWfiAgain(t *testing.T) {
	s := stepperOf(t)
	m := belled(s, 3, 0, 0x80, 0x80, 0)
	m = s.laid(m, "wfi", 0, 0, 0, 0)
	m.Wait = true
	s.done(m, nil)
	m.Wait = false
	s.done(m, func(out *impl.Machine) { out.Wait = true })
}

// Each of the 98 Ops has been by hand in one of the tests above.
func TestEachOpIsByHand(t *testing.T) {
	seen := map[string]int{}
	for _, x := range byHand {
		seen[x.name]++
	}
	for _, x := range amosByHand {
		seen[x.name]++
	}
	for name := range stepSizes {
		seen[name]++
	}
	for _, name := range csrNames {
		seen[name]++
	}
	for _, name := range []string{"jal", "jalr", "beq", "bne", "blt", "bge", "bltu", "bgeu", "lr.w", "lr.d", "sc.w", "sc.d", "fence", "fence.i", "ecall", "ebreak", "mret", "sret", "wfi", "sfence.vma"} {
		seen[name]++
	}
	for _, l := range opLines(t) {
		if seen[l.name] == 0 {
			t.Errorf("%s is not by hand", l.name)
		}
	}
	if len(seen) != 98 {
		t.Errorf("%d names", len(seen))
	}
}

// Promise 11: what is locked keeps its bytes, whatever instruction reaches for it, from whatever privilege, held or not.
func TestStepsStoreIntoNothingLocked(t *testing.T) {
	s, refused := stepperOf(t), 0
	for _, l := range s.ops {
		hasRd, hasA, hasB := l.has()
		for _, b := range []uint64{0x80, 0x81, 0x84, 0x85, 0x83, 0x87} {
			for _, reach := range []uint64{0x08, 0x10, 0x18} {
				for _, priv := range privs {
					m := calm(priv)
					m.Csrs = slices.Clone(m.Csrs)
					m.Csrs[16], m.Csrs[17] = (b+reach)<<8+0x1f<<16, dataAddr/4
					m.Csrs[18], m.Csrs[19] = dataAddr/4+1, greatestAddr
					m = withX(withX(m, 6, dataAddr), 7, ^loaded(m.Ram, dataAt, 8))
					for _, imm := range []int64{0, 4, -8} {
						if l.form != "I" && l.form != "S" && imm != 0 {
							continue
						}
						m := s.laid(m, l.name, map[bool]int64{true: 5}[hasRd], map[bool]int64{true: 6}[hasA], map[bool]int64{true: 7}[hasB], imm)
						for _, m.Held = range []bool{false, true} {
							if m.Held {
								m.Hold = dataAddr
							}
							if got := s.want(m); got.what == 2 && got.m.Csrs[7] == 7 {
								refused++
							}
						}
					}
				}
			}
		}
	}
	if refused < 1000 {
		t.Errorf("%d stores were refused", refused)
	}
}

// Promise 11: a leaf that is locked is not marked, by a fetch, a load, a store, an lr, an sc or an amo.
func TestStepsMarkNothingLocked(t *testing.T) {
	s := stepperOf(t)
	for _, priv := range []int64{0, 1} {
		for _, b := range []uint64{0x81, 0x85} {
			m, own, next := tabledMachine(priv, 0x0f, 0x07)
			bare := m
			bare.Csrs = withWord(withWord(shutAt(0, own, b), 4, m.Csrs[4]), 10, m.Csrs[10])
			s.raised(bare, 1, stepAddr)
			m.Ram = stored(m.Ram, own, 8, loaded(m.Ram, own, 8)|0xc0)
			m.Csrs = withWord(withWord(shutAt(0, next, b), 4, m.Csrs[4]), 10, m.Csrs[10])
			m = withX(m, 6, stepAddr+4096+0x80)
			for name, code := range map[string]int64{"ld": 5, "lb": 5, "sd": 7, "sb": 7, "lr.w": 5, "lr.d": 5, "sc.w": 7, "sc.d": 7, "amoadd.w": 7, "amoswap.d": 7} {
				l := s.ops[impl.OpOf(name)-1]
				hasRd, _, hasB := l.has()
				m := tabledInst(m, s.word(name, map[bool]int64{true: 5}[hasRd], 6, map[bool]int64{true: 7}[hasB], 0))
				s.raised(m, code, stepAddr+4096+0x80)
			}
		}
	}
}

// mixedInst is the word of an instruction of any row, with registers that are often the same ones.
func (s stepper) mixedInst(d *dice) (uint64, impl.Inst) {
	l := s.ops[d.below(98)]
	hasRd, hasA, hasB := l.has()
	register := func(has bool) int64 {
		if !has {
			return 0
		}
		if d.below(3) == 0 {
			return int64(d.below(32))
		}
		return int64(d.below(4)) + 5
	}
	imms := l.someImms()
	i := impl.Inst{Op: l.op, Rd: register(hasRd), A: register(hasA), B: register(hasB), Imm: imms[d.below(uint64(len(imms)))]}
	switch l.form {
	case "I", "S":
		if d.below(2) == 0 {
			i.Imm = int64(d.below(5))*8 - 16
		}
	case "J", "B":
		i.Imm = (int64(d.below(64)) - 32) * 4
		if d.below(4) == 0 {
			i.Imm += 2
		}
	case "C":
		if d.below(8) > 0 {
			i.Imm = s.numbers[d.below(uint64(len(s.numbers)))]
		}
	}
	return l.lay(i), i
}

// fetchedPc is the machine's own or another one, mostly one that leads into the memory.
func fetchedPc(d *dice, m impl.Machine) uint64 {
	pc := m.Pc
	for range d.below(16) {
		p := led(m.Ram, m.Csrs, m.Priv, pc, impl.KdFetch)
		if p.code == 0 && p.to-impl.RamBase < uint64(len(m.Ram)) && may(m.Csrs, m.Priv, p.to, 4, impl.KdFetch) {
			return pc
		}
		pc = mixedAddr(d) &^ 3
	}
	return pc
}

// poked is a machine with something else about it, and that word where its Pc leads, if it leads into the memory.
func poked(d *dice, m impl.Machine, guards [][]uint64, word uint64, i impl.Inst) impl.Machine {
	m = changed(d, m, guards)
	// What is locked in the registers stays so for good: they are new at times.
	if d.below(16) == 0 {
		copy(m.Csrs[1:5], []uint64{d.below(1<<16) & 0xb3ff, midelegs[d.below(8)], 0, impl.RamBase + d.below(64)*4*16 + d.below(2)})
		m.Csrs[10] = impl.RamBase + d.below(256)*4 + d.below(2)
	}
	if d.below(8) == 0 {
		m.Csrs[3] = d.below(4096) & 0xaaa & d.below(4096)
	} else {
		m.Csrs[3] = 0
	}
	m.Pc = fetchedPc(d, m)
	m.X = slices.Clone(m.X)
	if i.A != 0 && d.below(8) > 0 {
		m.X[i.A] = mixedAddr(d)
		if d.below(8) > 0 {
			m.X[i.A] &^= 7
		}
	}
	m.Wait = m.Wait && d.below(4) == 0
	if m.Held && i.A != 0 && d.below(2) == 0 {
		m.Hold = led(m.Ram, m.Csrs, privFor(m, impl.KdStore), m.X[i.A], impl.KdStore).to
	}
	p := led(m.Ram, m.Csrs, m.Priv, m.Pc, impl.KdFetch)
	if at := p.to - impl.RamBase; p.code == 0 && at < uint64(len(m.Ram)) && d.below(32) > 0 {
		m.Ram = stored(m.Ram, int(at), 4, word)
	}
	return m
}

// Promise 11, through all that can happen, in any order.
func TestMixedSteps(t *testing.T) {
	s, d, guards := stepperOf(t), dice(0xc0ac29b7c97c50dd), guardedLists()
	guards = guards[len(guards)-3*256:] // those about the memory's beginning
	whats, ops, causes := map[int64]int{}, map[int64]int{}, map[uint64]int{}
	for range 60 {
		m := mixedMachine(&d)
		m.Csrs[4], m.Csrs[10] = impl.RamBase+0x100, impl.RamBase+0x200
		for range 250 {
			word, i := s.mixedInst(&d)
			m = poked(&d, m, guards, word, i)
			want := s.want(m)
			whats[want.what]++
			switch want.what {
			case 1:
				ops[i.Op]++
			case 2:
				causes[want.m.Csrs[placesOf[want.m.Priv][2]]]++
			}
			m, _ = impl.Step(m)
		}
	}
	for _, cause := range []uint64{0, 1, 2, 3, 4, 5, 6, 7, 8, 9, 11, 12, 13, 15} {
		if causes[cause] < 5 {
			t.Errorf("cause %d was met %d times", cause, causes[cause])
		}
	}
	for _, l := range s.ops {
		if n := ops[l.op]; n < 5 && l.name != "ecall" && l.name != "ebreak" {
			t.Errorf("%s was done %d times", l.name, n)
		}
	}
	if whats[1] < 4000 || whats[2] < 2000 || whats[3] < 100 || whats[4] < 50 {
		t.Error(whats)
	}
}

// wandering is a machine whose memory is full of instructions, and whose traps come back into it.
func wandering(s stepper, d *dice) impl.Machine {
	m := calm(privs[d.below(3)])
	ram := bytes.Clone(m.Ram)
	for at := 0; at < len(ram); at += 4 {
		word, _ := s.mixedInst(d)
		ram = stored(ram, at, 4, word)
	}
	m.Ram = ram
	m.X = slices.Clone(m.X)
	for k := 1; k < 32; k++ {
		if d.below(2) == 0 {
			m.X[k] = impl.RamBase + d.below(512)*8
		}
	}
	m.Dev = impl.Dev{Cmp: 1 + d.below(4), In: []byte{1, 2, 3}, Ier: 1}
	m.Csrs = slices.Clone(m.Csrs)
	m.Csrs[1], m.Csrs[2], m.Csrs[9] = d.below(1<<16)&0xb3ff, midelegs[d.below(8)], linesOf(m.Dev)
	return m
}

// wantSteps holds Steps against so many of Step, up to one that waits. Promise 15: the argument stays, and what is answered is new.
func wantSteps(t *testing.T, m impl.Machine, n int64) (impl.Machine, []int64) {
	t.Helper()
	want, all := m, []int64(nil)
	for range n {
		next, what := impl.Step(want)
		if want, all = next, append(all, what); what == impl.ToWait {
			break
		}
	}
	wantMachine(t, m, want, func(m impl.Machine) impl.Machine {
		out, got := impl.Steps(m, n)
		if !slices.Equal(got, all) {
			t.Fatalf("Steps of %d: %v, want %v", n, got, all)
		}
		return out
	})
	return want, all
}

// Promise 11, its second half.
func TestStepsAddUp(t *testing.T) {
	s, d := stepperOf(t), dice(0x9216d5d98979fb1b)
	waited, long, trapped := 0, 0, 0
	for range 200 {
		m := wandering(s, &d)
		if d.below(4) == 0 {
			m = mixedMachine(&d)
			m.Wait = false
		}
		n, k := int64(d.below(60)), int64(d.below(60))
		first, toldFirst := wantSteps(t, m, n)
		second, toldSecond := wantSteps(t, first, k)
		both, toldBoth := wantSteps(t, m, n+k)
		if slices.Contains(toldBoth, impl.ToWait) {
			waited++
			continue
		}
		if !sameMachine(second, both) || !slices.Equal(slices.Concat(toldFirst, toldSecond), toldBoth) || int64(len(toldBoth)) != n+k {
			t.Fatalf("Steps of %d and then of %d: %v, %v; of both: %v", n, k, toldFirst, toldSecond, toldBoth)
		}
		if impl.MachineOk(both) && both.Csrs[21] > m.Csrs[21]+10 {
			long++
		}
		if slices.Contains(toldBoth, impl.ToTrap) {
			trapped++
		}
	}
	if waited < 5 || long < 50 || trapped < 50 {
		t.Errorf("%d waited, %d were long, %d met traps", waited, long, trapped)
	}
}

// A machine that goes round: n steps are done at every n up to the limit, none past it.
func TestHowManySteps(t *testing.T) {
	s := stepperOf(t)
	m := s.program(calm(0), [5]int64{22, 5, 5, 0, 1}, [5]int64{3, 0, 0, 0, -4})
	for _, n := range []int64{0, 1, 2, 3, 255, 256, 257, 299, 300} {
		out, all := wantSteps(t, m, n)
		if int64(len(all)) != n || slices.ContainsFunc(all, func(what int64) bool { return what != 1 }) {
			t.Fatalf("Steps of %d: %v", n, all)
		}
		if out.X[5] != m.X[5]+uint64(n+1)/2 || out.Csrs[21] != 21+uint64(n) || out.Pc != calmPc+uint64(n%2)*4 {
			t.Fatalf("Steps of %d: %s", n, showMachine(out))
		}
	}
	for _, n := range []int64{301, 302, 511, 512, 556, 65536, 1 << 32, 1<<32 + 1, math.MaxInt64, -1, -2, -255, -256, -300, -1 << 32, math.MinInt64, math.MinInt64 + 1} {
		wantMachine(t, m, impl.Machine{}, func(m impl.Machine) impl.Machine {
			out, all := impl.Steps(m, n)
			if len(all) != 0 {
				t.Fatalf("Steps of %d: %v", n, all)
			}
			return out
		})
	}
}

// A wait is told, and is the last: as the first step, in the middle, and at the end.
func TestStepsThatWait(t *testing.T) {
	s := stepperOf(t)
	m := s.program(calm(3), [5]int64{22, 5, 0, 0, 1}, [5]int64{97, 0, 0, 0, 0}, [5]int64{22, 5, 0, 0, 2})
	for n, want := range map[int64][]int64{0: nil, 1: {1}, 2: {1, 1}, 3: {1, 1, 4}, 4: {1, 1, 4}, 300: {1, 1, 4}} {
		out, all := wantSteps(t, m, n)
		if !slices.Equal(all, want) || out.Wait != (n > 1) || n > 1 && (out.Pc != calmPc+8 || out.Csrs[21] != 23 || out.X[5] != 1) {
			t.Errorf("Steps of %d: %v, %s", n, all, showMachine(out))
		}
	}
	m.Wait = true
	for _, n := range []int64{1, 2, 300} {
		out, all := wantSteps(t, m, n)
		if !slices.Equal(all, []int64{4}) || !sameMachine(out, m) {
			t.Errorf("Steps of %d: %v, %s", n, all, showMachine(out))
		}
	}
	out, all := wantSteps(t, m, 0)
	if len(all) != 0 || !sameMachine(out, m) {
		t.Error(all)
	}
	// A bell that is heard while it waits: it goes on.
	m.Csrs = withWord(withWord(withWord(m.Csrs, 3, 2), 9, 2), 0, 8)
	m.Ram = stored(m.Ram, 0x404, 4, s.word("wfi", 0, 0, 0, 0))
	m.Ram = stored(m.Ram, 0x408, 4, s.word("ebreak", 0, 0, 0, 0))
	m.Ram = stored(m.Ram, 0x400, 4, 0)
	out, all = wantSteps(t, m, 4)
	if !slices.Equal(all, []int64{3, 1, 2, 2}) || out.Wait {
		t.Error(all, showMachine(out))
	}
}

func TestToldByHand(t *testing.T) {
	for _, priv := range privs {
		for cause := range uint64(16) {
			for k, value := range edgeNumbers {
				m := calm(priv)
				m.Csrs = slices.Clone(m.Csrs)
				m.Csrs[6], m.Csrs[7], m.Csrs[8] = edgeNumbers[(k*7+3)%len(edgeNumbers)]&^3, cause, value
				m.Csrs[12], m.Csrs[13], m.Csrs[14] = 0x44, 0x8000000000000005, 0x55
				for _, high := range []uint64{0, 1 << 63} {
					m.Csrs[7] = cause | high
					given, all := spacious(m)
					was := all.copied()
					got, pc, told := impl.Told(given)
					want := int64(cause)
					if high != 0 {
						want += 100
					}
					if got != want || pc != m.Csrs[6] || told != value || !all.same(was) {
						t.Fatalf("Told with mcause %#x, mepc %#x, mtval %#x: %d, %#x, %#x", m.Csrs[7], m.Csrs[6], value, got, pc, told)
					}
				}
			}
		}
	}
}

// Told of what Step has entered: an exception, an interrupt, and one that went to the supervisor, of which it tells nothing.
func TestToldOfTraps(t *testing.T) {
	s := stepperOf(t)
	tells := func(m impl.Machine, cause int64, pc, value uint64) {
		t.Helper()
		out, _ := impl.Step(m)
		if got, at, told := impl.Told(out); got != cause || at != pc || told != value {
			t.Errorf("%d, %#x, %#x; want %d, %#x, %#x", got, at, told, cause, pc, value)
		}
	}
	tells(s.laid(calm(0), "ecall", 0, 0, 0, 0), 8, calmPc, 0)
	tells(s.laid(calm(3), "ebreak", 0, 0, 0, 0), 3, calmPc, calmPc)
	tells(s.touch(calm(1), "ld", 16, 0), 5, calmPc, 16)
	tells(withInst(calm(1), 0x12345678), 2, calmPc, 0x12345678)
	tells(belled(s, 0, 0, 0x800, 0x800, 0), 111, calmPc, 0)
	tells(belled(s, 1, 0, 0x2, 0x2, 0), 101, calmPc, 0)
	handed := s.laid(calm(0), "ecall", 0, 0, 0, 0)
	handed.Csrs = withWord(handed.Csrs, 1, 1<<8)
	tells(handed, 0, 0, 0)
	made, _ := impl.NewMachine(make([]byte, 4096))
	if cause, pc, value := impl.Told(made); cause != 0 || pc != 0 || value != 0 {
		t.Error(cause, pc, value)
	}
}

// Promise 15: the lists of an argument may be pieces of one, side by side or one upon the other.
func TestStepsOfMachinesThatShareARoom(t *testing.T) {
	s := stepperOf(t)
	for _, x := range []struct{ x, csrs, register int }{{0, 32, 5}, {32, 0, 5}, {0, 10, 15}, {10, 0, 1}, {0, 0, 5}} {
		r := int64(x.register)
		for _, line := range [][5]int64{
			{22, 7, r, 0, 1}, {21, 0, r, r, 0}, {14, 7, r, 0, 0}, {63, 7, r, 0, 0}, {75, 7, r, r, 0}, {66, 7, r, r, 0}, {87, 7, r, 0, 832}, {87, 7, 0, 0, 2818},
			{93, 0, 0, 0, 0}, {94, 0, 0, 0, 0}, {96, 0, 0, 0, 0}, {97, 0, 0, 0, 0}, {3, 7, 0, 0, 8}, {11, 7, 0, 0, 5},
		} {
			words, room := make([]uint64, 64), filled(3*4096)
			words[x.x+x.register] = impl.RamBase + 4096 + 8
			copy(room[16:], stored(make([]byte, 4), 0, 4, s.word(s.ops[line[0]-1].name, line[1], line[2], line[3], line[4])))
			m := impl.Machine{
				Pc: impl.RamBase + 16, X: words[x.x : x.x+32], Csrs: words[x.csrs : x.csrs+22], Priv: 3,
				Ram: room[:8192], Dev: impl.Dev{Cmp: 1, In: room[4096:4112], Out: room[4100:9000][:4096]},
			}
			for _, m.Wait = range []bool{false, true} {
				wordsWas, roomWas := slices.Clone(words), bytes.Clone(room)
				want := s.read(m)
				out, what := impl.Step(m)
				if what != want.what || !sameMachine(out, want.m) {
					t.Fatalf("row %v: %d, %s", line, what, showMachine(out))
				}
				checkNew(t, out, machineCopy(want.m), rooms{x: words, ram: room}, rooms{x: wordsWas, ram: roomWas})
				for _, n := range []int64{0, 1} {
					want := after{m, 0}
					if n == 1 {
						want = s.read(m)
					}
					out, _ := impl.Steps(m, n)
					if !sameMachine(out, want.m) {
						t.Fatalf("row %v: Steps of %d: %s", line, n, showMachine(out))
					}
					checkNew(t, out, machineCopy(want.m), rooms{x: words, ram: room}, rooms{x: wordsWas, ram: roomWas})
				}
			}
		}
	}
}

// Step of memories of each length, the greatest too.
func TestStepsOfEachMemory(t *testing.T) {
	s := stepperOf(t)
	for _, pages := range []int{1, 2, 15, 16} {
		m := calm(1)
		m.Ram = filled(pages * 4096)
		m.Pc = impl.RamBase + uint64(pages*4096) - 4
		m = s.laid(m, "sd", 0, 6, 7, 8)
		m = withX(m, 6, impl.RamBase+uint64(pages*4096)-24)
		s.done(m, func(out *impl.Machine) { out.Ram = stored(m.Ram, pages*4096-16, 8, m.X[7]) })
	}
}

// Promise 15: no argument makes one of them panic, and no call leaves a goroutine behind.
func TestStepsAnswerAtEveryArgument(t *testing.T) {
	all := slices.Concat(rightMachines(t), broken(t))
	numbers := []int64{0, 1, 2, 7, -1, 301, math.MaxInt64, math.MinInt64}
	d, s := dice(0x2ffd72dbd01adfb7), stepperOf(t)
	before := runtime.NumGoroutine()
	for k := range 6000 {
		m := all[k*7%len(all)]
		if impl.RamOk(m.Ram) && k%2 == 0 {
			word, _ := s.mixedInst(&d)
			if d.below(4) == 0 {
				word = d.below(1 << 32)
			}
			m.Pc = impl.RamBase
			m.Ram = stored(m.Ram, 0, 4, word)
		}
		out, what := impl.Step(m)
		if right := impl.MachineOk(m); right != (what != 0) || right != impl.MachineOk(out) {
			t.Fatalf("Step of %s: %d, %s", showMachine(m), what, showMachine(out))
		}
		impl.Steps(m, numbers[k%len(numbers)])
		impl.Told(m)
		if after := runtime.NumGoroutine(); after != before {
			t.Fatalf("%d goroutines ahead of the calls, %d behind them", before, after)
		}
	}
}
