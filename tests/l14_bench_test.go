package tests

import (
	"fmt"
	"os"
	"os/exec"
	"path/filepath"
	"regexp"
	"runtime"
	"slices"
	"strconv"
	"strings"
	"testing"

	"loop.example/g00134/impl"
)

// commandForm is what a command looks like, its number with it.
var commandForm = regexp.MustCompile(`\A\.(?:(start|pc|out)|(run|time|byte|reg|csr) (0|-?[1-9][0-9]{0,17}))\z`)

// benchRead is a second reading of a bench.
type benchRead struct {
	ops     []opLine
	words   []uint64
	machine impl.Machine
}

func newBenchRead(ops []opLine) *benchRead {
	r := &benchRead{ops: ops}
	r.machine, _ = impl.NewMachine(make([]byte, 8192))
	return r
}

func (r *benchRead) play(kind, n int64) int64 {
	m, count := impl.Play(r.machine, []impl.Event{{Kind: kind, N: n}})
	r.machine = m
	return count
}

func (r *benchRead) command(line string) string {
	m := commandForm.FindStringSubmatch(line)
	if m == nil {
		return "error 1"
	}
	n, _ := strconv.ParseInt(m[3], 10, 64)
	switch m[1] + m[2] {
	case "start":
		ram, _ := impl.Image(r.words, 8192)
		r.machine, _ = impl.NewMachine(ram)
		r.words = nil
	case "run":
		return fmt.Sprint(r.play(impl.EvRun, n))
	case "time":
		r.play(impl.EvTime, n)
	case "byte":
		r.play(impl.EvByte, n)
	case "reg":
		return fmt.Sprint(r.machine.X[(n%32+32)%32])
	case "pc":
		return fmt.Sprint(r.machine.Pc)
	case "csr":
		if x, ok := impl.ReadCsr(r.machine.Csrs, n, 3); ok {
			return fmt.Sprint(x)
		}
		return "none"
	case "out":
		return strings.Trim(fmt.Sprint(impl.Output(r.machine)), "[]")
	}
	return "ok"
}

// line is what a line is answered by, each answer with a byte 10 behind it.
func (r *benchRead) line(line string) string {
	if line == "" {
		return ""
	}
	if line[0] == '.' {
		return r.command(line) + "\n"
	}
	i, ok := parsedOf(r.ops, line)
	if !ok {
		return "error 2\n"
	}
	r.words = append(r.words, r.ops[i.Op-1].lay(i))
	return ""
}

// linesRead are the lines of a text, byte by byte.
func linesRead(text string) []string {
	lines, line := []string{}, []byte{}
	for k, b := range []byte(text) {
		if b != 10 {
			line = append(line, b)
		}
		if b == 10 || k == len(text)-1 {
			lines = append(lines, string(line))
			line = line[:0]
		}
	}
	return lines
}

// benchOf is a second reading of Bench: the answers to each line.
func benchOf(ops []opLine, text string) []string {
	lines := linesRead(text)
	if len(text) > 20000 || len(lines) > 200 {
		return nil
	}
	r, answers := newBenchRead(ops), []string{}
	for _, line := range lines {
		answers = append(answers, r.line(line))
	}
	return answers
}

func wantBench(t *testing.T, text, want string) {
	t.Helper()
	if got := impl.Bench(text); got != want {
		t.Fatalf("Bench of %.3000q:\n%.3000q, want\n%.3000q", text, got, want)
	}
}

// wantBenchRead holds Bench against the second reading, and answers what it tells.
func wantBenchRead(t *testing.T, ops []opLine, text string) []string {
	t.Helper()
	answers := benchOf(ops, text)
	wantBench(t, text, strings.Join(answers, ""))
	return answers
}

// wantDialogue has lines, and behind each one that is answered the answer, with a > ahead. It holds with the lines behind one as without them.
func wantDialogue(t *testing.T, dialogue string) {
	t.Helper()
	text, want := "", ""
	for _, line := range strings.Split(dialogue, "\n") {
		line = strings.TrimLeft(line, "\t")
		if answer, is := strings.CutPrefix(line, ">"); is {
			want += strings.TrimPrefix(answer, " ") + "\n"
			continue
		}
		wantBench(t, text, want)
		text += line + "\n"
	}
	wantBench(t, text, want)
	wantBench(t, strings.TrimRight(text, "\n"), want)
}

func TestBenchOfNoCommands(t *testing.T) {
	for _, text := range []string{"", "\n", "\n\n", "\n\n\n\n\n", "ecall", "ecall\n", "addi x1 x0 5\nebreak\n", "\necall\n\nebreak", strings.Repeat("\n", 200), strings.Repeat("wfi\n", 200)} {
		wantBench(t, text, "")
	}
}

// Ahead of the first .start there is a machine already, whose memory is all noughts: its first word is no instruction.
func TestBenchAtFirst(t *testing.T) {
	wantDialogue(t, `
		.pc
		> 2147483648
		.reg 1
		> 0
		.csr 836
		> 128
		.csr 2818
		> 0
		.out
		>
		addi x1 x0 5
		.run 1
		> 1
		.reg 1
		> 0
		.csr 834
		> 2
		.csr 833
		> 2147483648
		.csr 835
		> 0
		.pc
		> 0
		.run 300
		> 300
		.csr 834
		> 1
		.csr 2818
		> 0
		.time 3
		> ok
		.byte 3
		> ok`)
}

func TestBenchOfAProgram(t *testing.T) {
	wantDialogue(t, `
		addi x5 x0 7
		addi x6 x0 -6
		mul x7 x5 x6
		.start
		> ok
		.run 1
		> 1
		.reg 5
		> 7
		.reg 6
		> 0
		.pc
		> 2147483652
		.run 2
		> 2
		.reg 6
		> 18446744073709551610
		.reg 7
		> 18446744073709551574
		.pc
		> 2147483660
		.csr 2818
		> 3
		.run 0
		> 0
		.pc
		> 2147483660
		.run 1
		> 1
		.csr 834
		> 2
		.csr 833
		> 2147483660`)
}

// A program that waits for bytes and sends them back.
const echo = "lui x2 268435456\nlbu x1 x2 5\nandi x1 x1 1\nbeq x1 x0 -8\nlbu x3 x2 0\nsb x2 x3 0\njal x0 -20\n"

func TestBenchOfBytes(t *testing.T) {
	wantDialogue(t, echo+`
		.start
		> ok
		.run 100
		> 100
		.out
		>
		.byte 72
		> ok
		.run 9
		> 9
		.out
		> 72
		.byte 105
		> ok
		.byte 0
		> ok
		.byte 255
		> ok
		.out
		> 72
		.run 30
		> 30
		.out
		> 72 105 0 255
		.reg 3
		> 255
		.out
		> 72 105 0 255`)
}

// A program whose clock rings every ten ticks, and which counts in x7 how often it did.
const clocking = "auipc x1 0\naddi x1 x1 44\ncsrrw x0 x1 773\naddi x1 x0 128\ncsrrs x0 x1 772\nlui x2 33570816\naddi x3 x0 10\nsd x2 x3 0\ncsrrsi x0 x8 768\nwfi\njal x0 -4\n" +
	"addi x7 x7 1\nld x3 x2 0\naddi x3 x3 10\nsd x2 x3 0\nmret\n"

func TestBenchOfTime(t *testing.T) {
	wantDialogue(t, clocking+`
		.csr 836
		> 128
		.start
		> ok
		.run 300
		> 10
		.csr 836
		> 0
		.run 300
		> 0
		.time 9
		> ok
		.run 300
		> 0
		.reg 7
		> 0
		.time 1
		> ok
		.csr 836
		> 128
		.run 1
		> 1
		.csr 834
		> 9223372036854775815
		.csr 833
		> 2147483688
		.run 300
		> 7
		.reg 7
		> 1
		.reg 3
		> 20
		.csr 836
		> 0
		.time 20
		> ok
		.run 300
		> 14
		.reg 7
		> 3
		.run 300
		> 0`)
}

// A program that calls again and again, and whose handler goes on behind the call.
const calling = "auipc x1 0\naddi x1 x1 24\ncsrrw x0 x1 773\necall\naddi x5 x5 1\njal x0 -8\ncsrrs x6 x0 833\naddi x6 x6 4\ncsrrw x0 x6 833\nmret\n"

func TestBenchOfTraps(t *testing.T) {
	wantDialogue(t, calling+`
		.start
		> ok
		.run 4
		> 4
		.pc
		> 2147483672
		.csr 834
		> 11
		.csr 833
		> 2147483660
		.csr 2818
		> 3
		.run 5
		> 5
		.reg 5
		> 1
		.run 14
		> 14
		.reg 5
		> 3
		.reg 6
		> 2147483664`)
}

// Behind .start the list is empty: another program begins at its first word, and one that is started of no words has none.
func TestBenchOfSeveralPrograms(t *testing.T) {
	wantDialogue(t, `
		addi x1 x0 1
		addi x2 x0 2
		.start
		> ok
		.run 2
		> 2
		addi x3 x0 3
		.reg 1
		> 1
		.reg 2
		> 2
		.pc
		> 2147483656
		.time 5
		> ok
		.start
		> ok
		.reg 1
		> 0
		.reg 2
		> 0
		.pc
		> 2147483648
		.run 1
		> 1
		.reg 3
		> 3
		.reg 1
		> 0
		.csr 834
		> 0
		.run 1
		> 1
		.csr 834
		> 2
		.start
		> ok
		.csr 834
		> 0
		.run 1
		> 1
		.reg 3
		> 0
		.csr 834
		> 2
		.csr 2818
		> 0
		.start
		> ok
		.start
		> ok
		.run 1
		> 1
		.csr 834
		> 2
		addi x1 x0 9
		.start
		> ok
		.start
		> ok
		.run 1
		> 1
		.reg 1
		> 0`)
}

// A line that is answered by an error leaves list and machine as they were.
func TestBenchOfErrorsLeavesAll(t *testing.T) {
	wantDialogue(t, `
		addi x1 x0 1
		nop
		> error 2
		addi x2 x1 1
		.star
		> error 1
		addi x3 x2 1
		.start 1
		> error 1
		addi x4
		> error 2
		.run
		> error 1
		.start
		> ok
		.run 2 1
		> error 1
		.run 1x
		> error 1
		.pc
		> 2147483648
		.run 3
		> 3
		.reg 3
		> 3
		.pc
		> 2147483660
		# note
		> error 2
		.RUN 1
		> error 1
		.csr 834
		> 0`)
}

// Each of the eight commands, as it may be written.
var commandTexts = []string{".start", ".run 1", ".time 1", ".byte 65", ".reg 1", ".pc", ".csr 834", ".out"}

// amid is a text with a line amid others, which tell what it has changed.
func amid(line string) string {
	return "addi x1 x0 21\nadd x2 x1 x1\nlui x3 268435456\nsb x3 x2 0\nlbu x4 x3 0\n.start\n.run 2\n" + line + "\n.pc\n.reg 2\n.run 3\n.pc\n.reg 4\n.out\n.csr 2818\n.start\n.run 1\n.csr 834\n.reg 1\n"
}

// amidAnswers is what a line that changes nothing is answered by there.
func amidAnswers(answer string) string {
	return "ok\n2\n" + answer + "2147483656\n42\n3\n2147483668\n0\n42\n5\nok\n1\n2\n0\n"
}

func TestBenchOfLinesThatAreNoCommands(t *testing.T) {
	lines := []string{
		".", "..", "...", "..pc", ". pc", ". start", ". run 1", ".  ", ". ", ".\t", ".\r", ".\x00", ".\xff", ".é", ".#", ".1", ".-1", ".x1",
		".Pc", ".PC", ".pC", ".START", ".Start", ".OUT", ".RUN 1", ".Run 1", ".TIME 1", ".BYTE 1", ".REG 1", ".CSR 834",
		".p", ".pcs", ".pc.", ".pcc", ".star", ".starts", ".started", ".restart", ".s", ".ou", ".outs", ".output", ".r 1", ".ru 1", ".runs 1", ".run. 1", ".tim 1", ".times 1", ".t 1", ".byt 1", ".bytes 1", ".b 1", ".re 1", ".regs 1", ".register 1", ".cs 834", ".csrs 834",
		".step", ".step 1", ".stop", ".end", ".quit", ".load", ".mem 1", ".words", ".reset", ".x 1", ".priv", ".error 1", ".ok", ".none", ".ecall", ".addi x1 x0 1", ".word 1",
		".run1", ".run-1", ".run\t1", ".run\r1", ".run,1", ".run=1", ".run\u00a01", ".reg\u30001", ".pc\t", ".pc\r", ".pc\x00", ".pc#", ".pc # note", ".start\r", ".out\r", ".run 1\r", ".time 1\r", ".pc;", ".pc\u00a0", "..run 1", ".run 1 # note",
	}
	for _, line := range lines {
		wantBench(t, line, "error 1\n")
		wantBench(t, line+"\n", "error 1\n")
		wantBench(t, amid(line), amidAnswers("error 1\n"))
	}
}

// One word too few, one too many, and blanks where none stands.
func TestBenchOfWordsAndBlanks(t *testing.T) {
	for _, line := range commandTexts {
		word, number, more := strings.Cut(line, " ")
		wrong := []string{line + " ", line + "  ", line + " 1", line + " 0", line + " x", line + " " + line, line + " 1 2", line + "\t", word + "  ", word + " "}
		if more {
			wrong = append(wrong, word, word+"  "+number, word+" "+number+" ", word+" "+number+" "+number, word+number, word+"\t"+number, word+" \t"+number, number+" "+word)
		} else {
			wrong = append(wrong, word+" 1", word+" 0", word+" -1", word+" x", word+"0")
		}
		for _, text := range wrong {
			answer := "error 1\n"
			if text[0] != '.' {
				answer = "error 2\n"
			}
			wantBench(t, text, answer)
			wantBench(t, amid(text), amidAnswers(answer))
		}
		// A line that begins with a blank is one of an instruction.
		wantBench(t, amid(" "+line), amidAnswers("error 2\n"))
		wantBench(t, amid("\t"+line), amidAnswers("error 2\n"))
	}
}

// notNumbers are words that are no numbers.
var notNumbers = []string{
	"-0", "00", "05", "007", "-00", "-05", "+1", "+0", "-", "+", "--1", "-+1", "+-1", "- 1", "1-", "-1-", "1+1",
	"1000000000000000000", "-1000000000000000000", "9223372036854775807", "9223372036854775808", "-9223372036854775808", "-9223372036854775809", "18446744073709551616", "18446744073709551617", "99999999999999999999", "1" + strings.Repeat("0", 40), "-1" + strings.Repeat("0", 40),
	"0000000000000000001", "000000000000000001", "01000000000000000000",
	"a", "x", "x1", "1a", "a1", "1x", "1.", "1.0", ".1", "0x1", "0X1", "0b1", "0o7", "1e3", "1_0", "1,0", "1;", "1\r", "1\t", "\t1", "1\x00", "\x001", "1\xff", "\xff1", "١", "１", "−1", "–1", "½", "²", "∞", "one", "ok", "nil", "NaN", "true", "#1", "1#", "'1'", "\"1\"", "(1)", "1 ", " 1", "1 1", " ", "", "$1", "1h", "1u", "\v1", "1\f", "1\u00a0", "\u00a01", "\ufeff1",
}

func TestBenchOfWordsThatAreNoNumbers(t *testing.T) {
	for _, word := range []string{".run", ".time", ".byte", ".reg", ".csr"} {
		for _, number := range notNumbers {
			wantBench(t, word+" "+number, "error 1\n")
			wantBench(t, amid(word+" "+number), amidAnswers("error 1\n"))
		}
	}
}

// rightNumbers are numbers up to those of 18 digits, on both sides.
var rightNumbers = []string{
	"0", "1", "-1", "2", "5", "9", "10", "-10", "31", "32", "33", "-31", "-32", "-33", "99", "100", "255", "256", "257", "300", "301", "-300", "768", "1000", "2818", "4095", "4096", "65536", "2147483647", "2147483648", "4294967296", "4294967297", "4294968064", "-4294967296", "-4294967295",
	"100000000000000000", "-100000000000000000", "123456789012345678", "-123456789012345678", "999999999999999999", "-999999999999999999", "576460752303423488", "576460752303424256", "-576460752303423487",
}

func TestBenchOfNumbers(t *testing.T) {
	ops := opLines(t)
	for _, word := range []string{".run", ".time", ".byte", ".reg", ".csr"} {
		for _, number := range rightNumbers {
			line := word + " " + number
			for _, program := range []string{"", echo, clocking, calling} {
				text := program + ".start\n.run 40\n" + line + "\n" + line + "\n.run 20\n.reg 3\n.reg 7\n.out\n.pc\n.csr 836\n"
				answers := wantBenchRead(t, ops, text)
				if slices.Contains(answers, "error 1\n") {
					t.Fatal(text, answers)
				}
			}
		}
	}
}

// Every register is told by each number that leaves the same modulo 32.
func TestBenchOfRegisters(t *testing.T) {
	program := ""
	for k := 1; k < 32; k++ {
		program += fmt.Sprintf("addi x%d x0 %d\n", k, 100+k)
	}
	told := func(k int) string {
		if k == 0 {
			return "0\n"
		}
		return fmt.Sprintf("%d\n", 100+k)
	}
	for k := range 32 {
		text, want := program+".start\n.run 31\n", "ok\n31\n"
		for _, n := range []int{k, k + 32, k + 64, k - 32, k - 64, k + 320, k - 320, k + 1<<32, k - 1<<32, k + 1<<59, k - 1<<59} {
			text += fmt.Sprintf(".reg %d\n", n)
			want += told(k)
		}
		wantBench(t, text, want)
	}
	wantBench(t, program+".start\n.run 31\n.reg 0\n.reg 31\n.reg 32\n.reg -1\n.reg -32\n.reg -33\n.reg 999999999999999999\n.reg -999999999999999999\n.reg 100000000000000000\n.reg -31\n",
		"ok\n31\n0\n131\n0\n131\n0\n131\n131\n101\n0\n101\n")
}

// Registers and pc are told as words, above 2 to the 63 too.
func TestBenchOfGreatWords(t *testing.T) {
	wantDialogue(t, `
		addi x1 x0 -1
		addi x2 x0 1
		slli x3 x2 63
		srli x4 x1 1
		csrrw x0 x1 832
		lui x5 -2147483648
		jalr x6 x5 4
		.start
		> ok
		.run 7
		> 7
		.reg 1
		> 18446744073709551615
		.reg 3
		> 9223372036854775808
		.reg 4
		> 9223372036854775807
		.csr 832
		> 18446744073709551615
		.reg 5
		> 18446744071562067968
		.reg 6
		> 2147483676
		.pc
		> 18446744071562067972
		.run 1
		> 1
		.csr 833
		> 18446744071562067972
		.csr 769
		> 9223372036856090881`)
}

// filling is a program that writes words unlike each other into all registers of state, as far as they take them. mtvec comes last but one, pmpcfg0 last.
func filling(t *testing.T) string {
	text := "lui x1 305418240\naddi x1 x1 -273\nslli x2 x1 32\nxor x1 x1 x2\n"
	for k, l := range csrLines(t) {
		if l.name == "satp" || l.name == "pmpcfg0" || l.name == "minstret" {
			continue
		}
		text += fmt.Sprintf("addi x1 x1 %d\ncsrrw x0 x1 %d\n", 100+k, l.number)
	}
	return text + "addi x3 x0 1\nslli x3 x3 63\naddi x3 x3 77\ncsrrw x0 x3 384\naddi x3 x0 31\ncsrrw x0 x3 928\n"
}

// Each number of 12 bits, and some beyond: what ReadCsr tells, and none where it does not.
func TestBenchOfStateRegisters(t *testing.T) {
	numbers := []string{"-1", "-768", "-4096", "4096", "4864", "65536", "66304", "4294967296", "4294968064", "-4294966528", "999999999999999999", "-999999999999999999"}
	for n := range 4096 {
		numbers = append(numbers, fmt.Sprint(n))
	}
	ops, program := opLines(t), filling(t)
	steps := len(linesRead(program))
	start := fmt.Sprintf("%s.start\n.run %d\n", program, steps)
	known, told, differ := csrNumbers(t), 0, map[string]int{}
	for some := range slices.Chunk(numbers, 100) {
		text := start
		for _, n := range some {
			text += ".csr " + n + "\n"
		}
		answers := wantBenchRead(t, ops, text)
		if answers[steps+1] != fmt.Sprintf("%d\n", steps) {
			t.Fatal("not all was done:", answers)
		}
		for k, answer := range answers[steps+2:] {
			n, _ := strconv.ParseInt(some[k], 10, 64)
			if is := slices.Contains(known, n); is != (answer != "none\n") {
				t.Fatal("register", n, "is told as", answer)
			} else if is {
				told++
				differ[answer]++
			}
		}
	}
	if told != len(known) || len(differ) < 20 {
		t.Error(told, "registers are told, of", len(known), "and", len(differ), "differ")
	}
}

// State registers are read as the machine may, at whatever privilege it is now.
func TestBenchReadsAtThree(t *testing.T) {
	wantDialogue(t, `
		mret
		.start
		> ok
		.run 1
		> 1
		.pc
		> 0
		.csr 768
		> 128
		.csr 836
		> 128
		.csr 256
		> 0
		.csr 3860
		> 0
		.csr 3859
		> none
		.csr 0
		> none`)
}

// More steps than the machine goes, none, fewer than none, and more than Play takes.
func TestBenchOfRuns(t *testing.T) {
	wantDialogue(t, `
		addi x1 x1 1
		addi x1 x1 1
		wfi
		addi x1 x1 1
		.start
		> ok
		.run 0
		> 0
		.run -1
		> 0
		.run -300
		> 0
		.run 301
		> 0
		.run 999999999999999999
		> 0
		.run -999999999999999999
		> 0
		.run 4294967297
		> 0
		.pc
		> 2147483648
		.run 1
		> 1
		.reg 1
		> 1
		.run 300
		> 2
		.reg 1
		> 2
		.run 300
		> 0
		.run 1
		> 0
		.pc
		> 2147483660`)
	wantDialogue(t, `
		addi x1 x1 1
		jal x0 -4
		.start
		> ok
		.run 300
		> 300
		.reg 1
		> 150
		.run 299
		> 299
		.reg 1
		> 300
		.run 301
		> 0
		.run 300
		> 300
		.reg 1
		> 450
		.csr 2818
		> 899`)
}

// watching is a program that loads the time into x1 again and again.
const watching = "lui x2 33603584\nld x1 x2 -8\njal x0 -4\n"

func TestBenchOfTimes(t *testing.T) {
	wantDialogue(t, watching+`
		.start
		> ok
		.run 2
		> 2
		.reg 1
		> 0
		.time 0
		> ok
		.run 2
		> 2
		.reg 1
		> 0
		.time 255
		> ok
		.run 2
		> 2
		.reg 1
		> 255
		.time 256
		> ok
		.run 2
		> 2
		.reg 1
		> 511
		.time -1
		> ok
		.time -999999999999999999
		> ok
		.run 2
		> 2
		.reg 1
		> 511
		.time 999999999999999999
		> ok
		.time 999999999999999999
		> ok
		.run 2
		> 2
		.reg 1
		> 2000000000000000509
		.time 4294967296
		> ok
		.run 2
		> 2
		.reg 1
		> 2000000004294967805
		.csr 836
		> 128`)
}

// Time goes round at 2 to the 64.
func TestBenchOfTimeThatGoesRound(t *testing.T) {
	text := watching + ".start\n" + strings.Repeat(".time 999999999999999999\n", 18) + ".run 2\n.reg 1\n.time 999999999999999999\n.run 2\n.reg 1\n"
	wantBench(t, text, "ok\n"+strings.Repeat("ok\n", 18)+"2\n17999999999999999982\nok\n2\n553255926290448365\n")
}

// hearing is a program that loads what has come into x1 again and again.
const hearing = "lui x2 268435456\nlbu x1 x2 0\njal x0 -4\n"

func TestBenchOfBytesModulo(t *testing.T) {
	wantDialogue(t, hearing+`
		.start
		> ok
		.byte 255
		> ok
		.byte 256
		> ok
		.byte 257
		> ok
		.byte -1
		> ok
		.byte -256
		> ok
		.byte 7
		> ok
		.byte 999999999999999999
		> ok
		.byte -999999999999999999
		> ok
		.byte 4294967304
		> ok
		.run 2
		> 2
		.reg 1
		> 255
		.run 2
		> 2
		.reg 1
		> 0
		.run 2
		> 2
		.reg 1
		> 1
		.run 2
		> 2
		.reg 1
		> 7
		.run 2
		> 2
		.reg 1
		> 255
		.run 2
		> 2
		.reg 1
		> 8
		.run 2
		> 2
		.reg 1
		> 0`)
	// There is room for 16 bytes that have come; what comes behind them is lost.
	text, want := echo+".start\n", "ok\n"
	for k := range 18 {
		text += fmt.Sprintf(".byte %d\n", 100+k)
		want += "ok\n"
	}
	wantBench(t, text+".run 200\n.out\n", want+"200\n100 101 102 103 104 105 106 107 108 109 110 111 112 113 114 115\n")
}

// sending is a program that sends the bytes from 0 on.
const sending = "lui x2 268435456\nsb x2 x1 0\naddi x1 x1 1\njal x0 -8\n"

// What was sent is told whole, up to as many bytes as there is room for.
func TestBenchOfMuchOutput(t *testing.T) {
	program := sending + ".start\n"
	numbers := make([]string, 4096)
	for k := range numbers {
		numbers[k] = fmt.Sprint(k % 256)
	}
	wantBench(t, program+".run 1\n.out\n.run 1\n.out\n.run 3\n.out\n", "ok\n1\n\n1\n0\n3\n0 1\n")
	for _, runs := range []int{1, 3, 41, 42} {
		sent := min(100*runs, 4096)
		text := program + ".run 1\n" + strings.Repeat(".run 300\n", runs) + ".out\n.out\n"
		out := strings.Join(numbers[:sent], " ") + "\n"
		wantBench(t, text, "ok\n1\n"+strings.Repeat("300\n", runs)+out+out)
	}
}

// Lines that do not Parse, those that begin with a blank or # among them; none of them comes into the list.
func TestBenchOfLinesThatDoNotParse(t *testing.T) {
	lines := []string{
		" ", "  ", "\t", "\r", "\x00", "\xff", "é", "#", "# note", "#.pc", "#ecall", " # note", " .pc", " .start", "\t.pc", "  .run 1", "\x00.pc", "\xff.pc", "\ufeff.pc", "\r.pc",
		"pc", "start", "run 1", "out", "add", "addi x1 x0", "addi x1 x0 2048", "addi x1 x0 1 ", " addi x1 x0 1", "addi  x1 x0 1", "addi x1 x0 1 .pc", "addi x1, x0, 1", "ADDI x1 x0 1", "addi x32 x0 1", "addi x1 x0 01", "nop", "ecall\r", "ecall ", " ecall", "ecall.", "ECALL", "ecall # note", "ecall;ebreak",
		"0", "-1", "1", "x1", "ok", "none", "error 1", "error 2", ">", "-", ",", "x.pc", "wfi.", "11", "jal x0 1", "lui x1 1", "csrrw x0 x1 4096",
	}
	for _, line := range lines {
		wantBench(t, line, "error 2\n")
		wantBench(t, line+"\n", "error 2\n")
		wantBench(t, amid(line), amidAnswers("error 2\n"))
		wantBench(t, "addi x1 x0 1\n"+line+"\naddi x2 x0 2\n"+line+"\n.start\n.run 2\n.pc\n.reg 1\n.reg 2\n", "error 2\nerror 2\nok\n2\n2147483656\n1\n2\n")
	}
}

// Each line by hand of the assembler's tests comes into the list as its word: it is loaded back.
func TestBenchOfWords(t *testing.T) {
	ops, d := opLines(t), dice(0x1c6a2f9b83e05d47)
	for text, i := range formTexts {
		word := ops[i.Op-1].lay(i)
		wantBench(t, "auipc x1 0\nlwu x2 x1 12\nebreak\n"+text+"\n.start\n.run 2\n.reg 2\n", fmt.Sprintf("ok\n2\n%d\n", word))
	}
	for range 100 {
		words, text, count := []uint64{}, "auipc x1 0\n", 1+d.below(90)
		for k := range count {
			text += fmt.Sprintf("lwu x2 x1 %d\n", 4*(1+count+k))
		}
		for range count {
			l := ops[d.below(98)]
			i := impl.Inst{Op: l.op, Rd: int64(d.below(32)), A: int64(d.below(32)), B: int64(d.below(32))}
			if !l.holds(i) {
				i = impl.Inst{Op: l.op}
			}
			words = append(words, l.lay(i))
			text += l.shown(i) + "\n"
		}
		for _, k := range []uint64{0, count / 2, count - 1} {
			wantBench(t, fmt.Sprintf("%s.start\n.run %d\n.reg 2\n", text, k+2), fmt.Sprintf("ok\n%d\n%d\n", k+2, words[k]))
		}
	}
}

// A line without a byte is passed over wherever it stands.
func TestBenchOfLinesWithoutAByte(t *testing.T) {
	for _, over := range []string{"\n", "\n\n", "\n\n\n\n\n\n\n\n"} {
		wantBench(t, over, "")
		wantBench(t, over+".pc", "2147483648\n")
		wantBench(t, over+".pc\n", "2147483648\n")
		wantBench(t, ".pc\n"+over, "2147483648\n")
		wantBench(t, over+".pc\n"+over+".reg 1\n"+over, "2147483648\n0\n")
		wantBench(t, over+"addi x1 x0 5\n"+over+"addi x2 x1 6\n"+over+".start\n"+over+".run 2\n"+over+".reg 1\n"+over+".reg 2"+over, "ok\n2\n5\n11\n")
	}
}

// The last line may lack its byte 10, of whatever kind it is.
func TestBenchOfALastLineThatIsNotEnded(t *testing.T) {
	ahead, answers := "addi x1 x0 72\nlui x2 268435456\nsb x2 x1 0\n.start\n.run 3\n", "ok\n3\n"
	for last, answer := range map[string]string{
		".start": "ok\n", ".run 1": "1\n", ".time 1": "ok\n", ".byte 1": "ok\n", ".reg 1": "72\n", ".pc": "2147483660\n", ".csr 2818": "3\n", ".csr 1": "none\n", ".out": "72\n",
		"ecall": "", "addi x1 x0 5": "", "nop": "error 2\n", "#": "error 2\n", " ": "error 2\n", ".": "error 1\n", ".pc ": "error 1\n", ".run 1x": "error 1\n", "\r": "error 2\n", "": "",
	} {
		wantBench(t, ahead+last, answers+answer)
		wantBench(t, ahead+last+"\n", answers+answer)
		wantBench(t, ahead+last+"\n\n", answers+answer)
		wantBench(t, ahead+last+"\n.pc", impl.Bench(ahead+last+"\n.pc\n"))
	}
	wantBench(t, ".out", "\n")
	wantBench(t, ".out\n.out", "\n\n")
}

// MaxText bytes are taken, one more is not; bytes count, not runes.
func TestBenchOfLongTexts(t *testing.T) {
	if impl.MaxText != 20000 {
		t.Fatal(impl.MaxText)
	}
	for _, long := range []string{"x", " ", "\xff", "\x00", "9", "\r", "#", "é", "€", "\U0001f600"} {
		for _, ahead := range []string{".pc\n.reg 1\n", ".pc\n.reg 1\n" + strings.Repeat("\n", 20000%len(long))} {
			room := 20000 - len(ahead)
			line := strings.Repeat(long, room/len(long))
			line += strings.Repeat("x", room-len(line))
			wantBench(t, ahead+line, "2147483648\n0\nerror 2\n")
			wantBench(t, ahead+line[:len(line)-1]+"\n", "2147483648\n0\nerror 2\n")
			wantBench(t, ahead+line+"x", "")
			wantBench(t, ahead+line+"\n", "")
			wantBench(t, ahead+line+line, "")
		}
	}
	for _, ahead := range []string{".reg ", ".run 1", ".pc ", "."} {
		line := ahead + strings.Repeat("1", 20000-len(ahead))
		wantBench(t, line, "error 1\n")
		wantBench(t, line[1:]+"\n", "error 2\n")
		wantBench(t, line+"\n", "")
		wantBench(t, line+"1", "")
	}
	// Of 200 lines that have 100 bytes each.
	line := ".time " + strings.Repeat("0", 93) + "\n"
	wantBench(t, strings.Repeat(line, 200), strings.Repeat("error 1\n", 200))
	wantBench(t, strings.Repeat(line, 199)+"0"+line, "")
	wantBench(t, strings.Repeat(line, 199)+line[1:], strings.Repeat("error 1\n", 199)+"error 2\n")
	wantBench(t, strings.Repeat(".pc\n", 6000), "")
}

// MaxLines lines are taken, one more is not; those without a byte count, and the last one whether it is ended or not.
func TestBenchOfManyLines(t *testing.T) {
	if impl.MaxLines != 200 {
		t.Fatal(impl.MaxLines)
	}
	for _, c := range []struct{ line, answer string }{{".pc", "2147483648\n"}, {".out", "\n"}, {".start", "ok\n"}, {".", "error 1\n"}, {"x", "error 2\n"}, {"ecall", ""}} {
		lines, answers := strings.Repeat(c.line+"\n", 200), strings.Repeat(c.answer, 200)
		wantBench(t, lines, answers)
		wantBench(t, lines[:len(lines)-1], answers)
		wantBench(t, lines+"\n", "")
		wantBench(t, lines+c.line, "")
		wantBench(t, lines+c.line+"\n", "")
		wantBench(t, lines+" ", "")
		wantBench(t, "\n"+lines, "")
		wantBench(t, "\n"+lines[:len(lines)-1], "")
		wantBench(t, "\n"+lines[len(c.line)+1:], answers[len(c.answer):])
		wantBench(t, lines+lines, "")
		wantBench(t, c.line+strings.Repeat("\n", 200), c.answer)
		wantBench(t, c.line+strings.Repeat("\n", 201), "")
		wantBench(t, strings.Repeat("\n", 199)+c.line, c.answer)
		wantBench(t, strings.Repeat("\n", 199)+c.line+"\n", c.answer)
		wantBench(t, strings.Repeat("\n", 200)+c.line, "")
		wantBench(t, strings.Repeat("\n", 200)+c.line+"\n", "")
		wantBench(t, c.line+strings.Repeat("\n", 199)+c.line, c.answer+c.answer)
		wantBench(t, c.line+strings.Repeat("\n", 199)+c.line+"\n", c.answer+c.answer)
		wantBench(t, c.line+strings.Repeat("\n", 199)+c.line+"\n\n", "")
		wantBench(t, c.line+strings.Repeat("\n", 200)+c.line, "")
		wantBench(t, strings.Repeat(c.line+"\n\n", 100), answers[:100*len(c.answer)])
		wantBench(t, strings.Repeat(c.line+"\n\n", 100)+"\n", "")
		wantBench(t, strings.Repeat(c.line+"\r", 200)+"\n.pc", map[bool]string{true: "error 1\n", false: "error 2\n"}[c.line[0] == '.']+"2147483648\n")
	}
}

// copiedBench builds a program of a copy of impl, in which a text may have more lines; it answers what Bench does of what it reads.
func copiedBench(t *testing.T) string {
	t.Helper()
	dir := t.TempDir()
	put := func(name, text string) {
		if err := os.WriteFile(filepath.Join(dir, name), []byte(text), 0o600); err != nil {
			t.Fatal(err)
		}
	}
	if err := os.Mkdir(filepath.Join(dir, "impl"), 0o700); err != nil {
		t.Fatal(err)
	}
	changes := 0
	names, _ := filepath.Glob("../impl/*.go")
	for _, name := range names {
		text, err := os.ReadFile(name)
		if err != nil {
			t.Fatal(err)
		}
		changes += strings.Count(string(text), "const MaxLines = 200\n")
		put("impl/"+filepath.Base(name), strings.Replace(string(text), "const MaxLines = 200\n", "const MaxLines = 5000\n", 1))
	}
	if changes != 1 {
		t.Fatal("MaxLines stands there", changes, "times")
	}
	put("go.mod", "module copied\n\ngo 1.27\n")
	put("main.go", "package main\n\nimport (\n\t\"copied/impl\"\n\t\"io\"\n\t\"os\"\n)\n\nfunc main() {\n\ttext, _ := io.ReadAll(os.Stdin)\n\tos.Stdout.WriteString(impl.Bench(string(text)))\n}\n")
	build := exec.Command("go", "build", "-o", "copied", ".")
	build.Dir = dir
	if told, err := build.CombinedOutput(); err != nil {
		t.Fatalf("%v\n%s", err, told)
	}
	return filepath.Join(dir, "copied")
}

// The list has room for 1000 words. MaxLines lines never fill it: what is told then is asked of a copy of the program that takes more of them.
func TestBenchWithoutRoom(t *testing.T) {
	copied := copiedBench(t)
	want := func(text, want string) {
		t.Helper()
		run := exec.Command(copied)
		run.Stdin = strings.NewReader(text)
		if got, err := run.Output(); err != nil || string(got) != want {
			t.Fatalf("%d lines: %q, %v; want %q", len(linesRead(text)), got, err, want)
		}
	}
	many := strings.Repeat("addi x1 x1 1\n", 999)
	ran := ".start\n.run 300\n.run 300\n.run 300\n.run 300\n.reg 1\n.reg 2\n.csr 2818\n"
	want(many+ran, "ok\n300\n300\n300\n300\n999\n0\n999\n")
	want(many+"addi x2 x0 5\n"+ran, "ok\n300\n300\n300\n300\n999\n5\n1000\n")
	want(many+"addi x2 x0 5\naddi x2 x0 6\n"+ran, "error 3\nok\n300\n300\n300\n300\n999\n5\n1000\n")
	full := strings.Repeat("wfi\n", 1000)
	want(full+".pc", "2147483648\n")
	want(full+"wfi", "error 3\n")
	want(full+"wfi\n\necall\n.pc\nwfi\n", "error 3\nerror 3\n2147483648\nerror 3\n")
	want(full+"nop\n", "error 2\n")
	want(full+"wfi\nnop\n#\n.wfi\nwfi\n", "error 3\nerror 2\nerror 2\nerror 1\nerror 3\n")
	want(full+".start 1\nwfi\n.start\nwfi\nnop\n.start\n.run 9\n", "error 1\nerror 3\nok\nerror 2\nok\n1\n")
	want(full+".start\n"+full+"wfi\n", "ok\nerror 3\n")
	want(strings.Repeat("wfi\nnop\n", 999)+"wfi\nwfi\n", strings.Repeat("error 2\n", 999)+"error 3\n")
}

// The longest list that lines can make is kept whole.
func TestBenchOfManyWords(t *testing.T) {
	text := strings.Repeat("addi x1 x1 1\n", 195)
	wantBench(t, text+".start\n.run 195\n.reg 1\n.csr 834\n.pc\n", "ok\n195\n195\n0\n2147484428\n")
	wantBench(t, text+".start\n.run 196\n.csr 2818\n.csr 834\n.csr 833\n", "ok\n196\n195\n2\n2147484428\n")
}

// The memory has 8192 bytes.
func TestBenchOfItsMemory(t *testing.T) {
	wantDialogue(t, `
		auipc x1 8192
		addi x2 x0 77
		sd x1 x2 -8
		ld x3 x1 -8
		lbu x4 x1 -1
		ld x5 x1 0
		.start
		> ok
		.run 6
		> 6
		.reg 3
		> 77
		.csr 834
		> 5
		.csr 835
		> 2147491840
		.csr 2818
		> 5`)
}

// wrongLines are lines that are no commands and no instructions.
var wrongLines = []string{".", ".pc ", ".run", ".run 01", ".go", "nop", "#", " .pc", "addi x1", ".reg -0", ".csr 1000000000000000000", "x\xff", ".time +1", ".byte 1 1", ".start 1", ".OUT"}

// skipping begins a program whose handler goes on behind what could not be done.
const skipping = "auipc x31 0\naddi x31 x31 16\ncsrrw x0 x31 773\njal x0 20\ncsrrs x30 x0 833\naddi x30 x30 4\ncsrrw x0 x30 833\nmret\nlui x2 268435456\n"

// drawnProgram is one of those above, or one of instructions that no one chose; it is started, mostly.
func drawnProgram(d *dice, ops []opLine) string {
	text := []string{echo, clocking, calling, watching, hearing, sending, sending, "", "wfi\n", "ecall\n"}[d.below(10)]
	if d.below(3) == 0 {
		text = skipping
		for range d.below(14) {
			text += mixedLine(d, ops) + "\n"
		}
	}
	if d.below(8) > 0 {
		text += ".start\n"
	}
	return text
}

// drawnText is a text that no one chose: programs, commands, and lines that are none.
func drawnText(d *dice, ops []opLine) string {
	text := drawnProgram(d, ops)
	for range 1 + d.below(30) {
		k := d.below(33)
		switch d.below(16) {
		case 0:
			text += drawnProgram(d, ops)
		case 1:
			text += fmt.Sprintf(".run %d\n.out\n", k)
		case 2, 3:
			text += fmt.Sprintf(".run %d\n", k)
		case 4:
			text += fmt.Sprintf(".run %s\n", rightNumbers[d.below(uint64(len(rightNumbers)))])
		case 5:
			text += fmt.Sprintf(".time %d\n", k)
		case 6:
			text += fmt.Sprintf(".byte %d\n", 8*k+d.below(40))
		case 7, 8:
			text += fmt.Sprintf(".reg %d\n", k)
		case 9:
			text += fmt.Sprintf(".csr %d\n", []int64{768, 772, 773, 833, 834, 835, 836, 2818, 256, 260, 324, 769, 770, 771, 1, 4095}[d.below(16)])
		case 10:
			text += ".pc\n"
		case 11:
			text += ".out\n"
		case 12:
			text += wrongLines[d.below(uint64(len(wrongLines)))] + "\n"
		case 13:
			text += []string{"\n", "\n\n", formText(d) + "\n"}[d.below(3)]
		case 14:
			text += fmt.Sprintf("%s %s\n", []string{".time", ".byte", ".reg", ".csr"}[d.below(4)], rightNumbers[d.below(uint64(len(rightNumbers)))])
		case 15:
			text += mixedLine(d, ops) + "\n"
		}
	}
	if d.below(3) == 0 {
		text = strings.TrimSuffix(text, "\n")
	}
	return text
}

// kindOf is what kind an answer is of.
func kindOf(answer string) string {
	switch {
	case answer == "0\n", answer == "\n", answer == "":
		return strconv.Quote(answer)
	case strings.Count(answer, " ") > 0 && !strings.HasPrefix(answer, "error"):
		return "several"
	case answer[0] >= '0' && answer[0] <= '9':
		return "number"
	}
	return answer
}

// Promise 14 at texts that no one chose, against the second reading.
func TestManyBenches(t *testing.T) {
	ops, d, seen := opLines(t), dice(0x6d1f04b7c25e98a3), map[string]int{}
	for range 1500 {
		for _, answer := range wantBenchRead(t, ops, drawnText(&d, ops)) {
			seen[kindOf(answer)]++
		}
	}
	for _, kind := range []string{"ok\n", "error 1\n", "error 2\n", "none\n", "number", "several", `"0\n"`, `"\n"`, `""`} {
		if seen[kind] < 100 {
			t.Error("few answers of the kind", kind, seen)
		}
	}
}

// Promise 14, line by line: what stands in later lines changes no answer of an earlier one, and each line adds its own.
func TestBenchLineByLine(t *testing.T) {
	ops, d := opLines(t), dice(0x3b97e2d8460ca51f)
	for range 60 {
		text := drawnText(&d, ops)
		answers := benchOf(ops, text)
		ahead, told := "", ""
		for k, line := range linesRead(text) {
			wantBench(t, ahead, told)
			wantBench(t, ahead+line, told+answers[k])
			ahead += line + "\n"
			told += answers[k]
		}
		wantBench(t, ahead, told)
	}
}

// Promise 15: every byte alone, and put in, put in place and taken out at every place of lines that are right.
func TestBenchOfEveryByte(t *testing.T) {
	ops := opLines(t)
	for b := range 256 {
		one := string([]byte{byte(b)})
		for _, text := range []string{one, one + "\n", "." + one, one + ".pc", ".pc\n" + one, ".pc\n" + one + "\n.pc\n", one + one, one + "\n" + one, strings.Repeat(one, 100), ".reg " + one, ".csr 83" + one} {
			wantBenchRead(t, ops, text)
		}
		for _, line := range append([]string{"addi x1 x2 -3", "ecall", ".reg -33", ".csr 2818", ".time 0"}, commandTexts...) {
			for at := 0; at <= len(line); at++ {
				wantBenchRead(t, ops, "addi x1 x0 9\n.start\n"+line[:at]+one+line[at:]+"\n.reg 1\n")
				if at < len(line) {
					wantBenchRead(t, ops, "addi x1 x0 9\n.start\n"+line[:at]+one+line[at+1:]+"\n.reg 1\n")
				}
			}
		}
	}
	for _, line := range commandTexts {
		for at := range len(line) {
			wantBenchRead(t, ops, "addi x1 x0 9\n.start\n"+line[:at]+line[at+1:]+"\n.reg 1\n")
		}
	}
}

// A byte 13 ahead of a byte 10 is a byte of its line as any other.
func TestBenchOfReturns(t *testing.T) {
	wantBench(t, "\r\n", "error 2\n")
	wantBench(t, "\r", "error 2\n")
	wantBench(t, "ecall\r\n.start\r\n.pc\r\n.run 1\r\n", "error 2\nerror 1\nerror 1\nerror 1\n")
	wantBench(t, "ecall\r.start\r.pc\r", "error 2\n")
	wantBench(t, ".pc\r.pc\n\r.pc\n.pc\n", "error 1\nerror 2\n2147483648\n")
	wantBench(t, ".pc\x00\n\x00\n.pc\n.\x00\n", "error 1\nerror 2\n2147483648\nerror 1\n")
}

// Promise 15: no text makes it panic; texts of pieces that no one chose.
func TestBenchAnswersAtEveryText(t *testing.T) {
	ops, d := opLines(t), dice(0x58c0f7312b6e9d4d)
	pieces := []string{" ", "\n", ".", "-", "0", "1", "9", "x1", "x0", ".pc", ".run", ".reg", ".csr", ".out", ".start", ".time", ".byte", " 5", " 7\n", "\n.", "\r", "\x00", "\xff", "é", "#", "ecall\n", "addi x1 x1 1\n", "wfi\n", "add", "\U0010ffff", "999999999999999999", "\n\n", ".run 3\n", ".reg 1\n"}
	before := settled(runtime.NumGoroutine())
	for range 20000 {
		text := ""
		for range d.below(14) {
			text += pieces[d.below(uint64(len(pieces)))]
		}
		wantBenchRead(t, ops, text)
	}
	for range 2000 {
		text := make([]byte, d.below(80))
		for k := range text {
			text[k] = byte(d.below(256))
		}
		wantBenchRead(t, ops, string(text))
	}
	for _, text := range []string{strings.Repeat("x", 300000), strings.Repeat("\n", 300000), strings.Repeat(".pc\n", 100000), "." + strings.Repeat("\xff", 300000), strings.Repeat(".run 300\n", 3000)} {
		wantBench(t, text, "")
	}
	if after := settled(before); after > before {
		t.Error(after-before, "goroutines are left behind")
	}
}

// Promise 15: the same text is answered alike a second time, whatever was asked between, and while others are asked.
func TestBenchOfTheSameText(t *testing.T) {
	ops, d := opLines(t), dice(0x20e8b5a4d97f6c13)
	texts, answers := []string{}, []string{}
	for range 100 {
		text := drawnText(&d, ops)
		texts = append(texts, text)
		answers = append(answers, impl.Bench(text))
	}
	for k := len(texts) - 1; k >= 0; k-- {
		wantBench(t, texts[k], answers[k])
	}
	told := make([]chan string, len(texts))
	for k := range texts {
		told[k] = make(chan string, 1)
		go func() { told[k] <- impl.Bench(texts[k]) }()
	}
	for k := range texts {
		if got := <-told[k]; got != answers[k] {
			t.Fatalf("%q is answered by %q, and by %q beside others", texts[k], answers[k], got)
		}
	}
}
