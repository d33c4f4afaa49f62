package tests

import (
	"fmt"
	"slices"
	"strings"
	"testing"

	"loop.example/kiln/impl"
)

func TestNoLines(t *testing.T) {
	checkSaid(t, "", nil)
	checkSaid(t, "\n", []string{"bad"})
	checkSaid(t, "\n\n", []string{"bad", "bad"})
	checkSaid(t, "tick", []string{"2"})
	checkSaid(t, "tick\n", []string{"2"})
	checkSaid(t, "tick\n\n", []string{"2", "bad"})
	checkSaid(t, "\ntick", []string{"bad", "2"})
	checkSaid(t, "tick\n \n", []string{"2", "bad"})
	checkSaid(t, "tick\n ", []string{"2", "bad"})
	checkSaid(t, "tick\ntick", []string{"2", "4"})
	checkSaid(t, "tick\r\ntick\n", []string{"bad", "2"})
	checkSaid(t, "\x00", []string{"bad"})
}

var tooLong = []string{"too long"}

func TestMostBytesOfASession(t *testing.T) {
	for _, line := range []string{"", "x", "tick", `file a "`, "ask ", "\n", "tick\nshow\ntick\n"} {
		room := 20000 - len(line)
		text := line + strings.Repeat("x", room)
		answers := strings.Split(strings.TrimSuffix(slowSession(text), "\n"), "\n")
		if len(answers) != strings.Count(text, "\n")+1 {
			t.Errorf("%q: %q", line, answers)
		}
		checkSaid(t, text, answers)
		checkSaid(t, text+"x", tooLong)
		checkSaid(t, text+"\n", tooLong)
		checkSaid(t, text[1:]+"\n", strings.Split(strings.TrimSuffix(slowSession(text[1:]+"\n"), "\n"), "\n"))
		checkSaid(t, strings.Repeat(text, 50), tooLong)
	}
	long := xs(20000 - len(`file a ""`))
	checkSaid(t, `file a "`+long+`"`, []string{"code 2"})
	checkSaid(t, `file a "`+long+`x"`, tooLong)
	checkSaid(t, "want "+xs(20000-len("want ")), []string{`2 ""`})
	checkSaid(t, "ask "+xs(20000-len("ask ")), []string{"code 2"})
	checkSaid(t, "calm "+strings.Repeat("9", 20000-len("calm ")), []string{"bad"})
	checkSaid(t, "tick\n"+strings.Repeat(strings.Repeat(" ", 62)+"\n", 317)+xs(24), slices.Concat([]string{"2"}, slices.Repeat([]string{"bad"}, 318)))
	checkSaid(t, "tick\n"+strings.Repeat(strings.Repeat(" ", 62)+"\n", 317)+xs(25), tooLong)
}

func TestMostLinesOfASession(t *testing.T) {
	for _, c := range [][2]string{{"", "bad"}, {"x", "bad"}, {"show", "1.0 files 0 texts 0 records 0 runs 0 right"}, {"answers", "-"}, {"calm 201", "no"}, {"clear", "code 0"}} {
		for _, lines := range []int{1, 399, 400} {
			checkSaid(t, strings.Repeat(c[0]+"\n", lines), slices.Repeat([]string{c[1]}, lines))
		}
		checkSaid(t, strings.Repeat(c[0]+"\n", 401), tooLong)
		checkSaid(t, strings.Repeat(c[0]+"\n", 400)+"x", tooLong)
		checkSaid(t, strings.Repeat(c[0]+"\n", 400)+" ", tooLong)
		checkSaid(t, strings.Repeat(c[0]+"\n", 399)+"x", slices.Concat(slices.Repeat([]string{c[1]}, 399), []string{"bad"}))
	}
	checkSaid(t, strings.Repeat("\n", 20000), tooLong)
}

// someLines are lines of each form of the table.
var someLines = []string{
	`file b "x; y"`, `file a ""`, `file plan "make x cat \22a\22\0a"`, `tool b "arg;put; end"`, `drop a`, `drop b`, `clear`, `ask a`, `ask x`, `pack`,
	`tick`, `bring 0`, `bring 3`, `double 1`, `lose 2`, `bend 1 8 1`, `bend 0 0 9999`, `fall 0 0`, `fall 1 10`, `rise 0`, `rise 2`, `calm 0`, `calm 12`, `calm 200`, `calm 201`,
	`answers`, `want a`, `want x`, `show`,
}

// behindLines have a run that is offered, parcels in flight, and an answer.
func behindLines() talk {
	return catLines().with(`ask x`, `code 0`, `ask a`, `code 0`, `tick`, `2`, `bring 1`, `1`, `tick`, `4`)
}

// tailLines show what a line has done.
var tailLines = []string{"show", "want a", "want b", "pack", "tick", "answers", "show", "calm 20", "answers", "show"}

// checkByTheWords holds a session against the slow one.
func checkByTheWords(t *testing.T, text string) {
	t.Helper()
	if got, want := impl.Session(text), slowSession(text); got != want {
		t.Errorf("%q: %q, want %q", text, got, want)
	}
}

// checkLine holds a line, in the midst of others, against the words.
func checkLine(t *testing.T, line string) {
	t.Helper()
	checkByTheWords(t, textOf(slices.Concat(behindLines().lines, []string{line}, tailLines)))
}

// checkBad says that lines are bad, each of them and all in one session, and that they change nothing.
func checkBad(t *testing.T, lines ...string) {
	t.Helper()
	before := behindLines()
	rest := strings.Split(strings.TrimSuffix(slowSession(before.text(len(before.lines))+textOf(tailLines)), "\n"), "\n")[len(before.lines):]
	for group := range slices.Chunk(lines, 300) {
		text := before.text(len(before.lines)) + textOf(group) + textOf(tailLines)
		checkSaid(t, text, slices.Concat(before.answers, slices.Repeat([]string{"bad"}, len(group)), rest))
	}
	for _, line := range lines {
		checkSaid(t, line+"\ntick\n", []string{"bad", "2"})
	}
}

func TestEachLine(t *testing.T) {
	for _, line := range someLines {
		checkLine(t, line)
		if strings.Contains(impl.Session(line), "bad") {
			t.Errorf("%q is bad", line)
		}
	}
}

// TestWordsTooFewAndTooMany changes each line by a word, by a space, and by a text in quotes.
func TestWordsTooFewAndTooMany(t *testing.T) {
	var lines []string
	for _, line := range someLines {
		front, q, quoted := strings.Cut(line, ` "`)
		words := strings.Split(front, " ")
		if quoted {
			q = ` "` + q
			lines = append(lines, front, front+" ", front+"  "+q[1:], line+` ""`, line+`""`, line+"x", line+`"`, line[:len(line)-1], front+` "`, front+q+q)
		} else {
			lines = append(lines, line+` ""`, line+` "x"`, line+` "`)
		}
		lines = append(lines, " "+line, line+" ", line+" x", line+" 0", line+"  ", "  "+line, "x "+line, "\t"+line, "0 "+line, strings.ToUpper(words[0])+line[len(words[0]):], words[0]+"s"+line[len(words[0]):], `"`+line, `""`+line, `"" `+line, ` ""`+line, q)
		for i := range words {
			less := slices.Concat(words[:i], words[i+1:])
			more := slices.Concat(words[:i+1], words[i:])
			empty := slices.Concat(words[:i], []string{""}, words[i:])
			for _, others := range [][]string{less, more, empty} {
				lines = append(lines, strings.Join(others, " ")+q)
			}
		}
		for i := 1; i < len(words); i++ {
			lines = append(lines, strings.Join(words[:i], " ")+"\t"+strings.Join(words[i:], " ")+q)
		}
	}
	slices.Sort(lines)
	checkBad(t, slices.Compact(lines)...)
}

func TestWordsThatAreNone(t *testing.T) {
	checkBad(t, "x", "File a \"x\"", "edit a", "ran", "epoch 1", "tock", "quit", "help", "answer", "shows", "a", `"`, `""`, ` ""`, "show\x00", "\x00", "\xff", "tick\t", "tick\r", "\ufefftick", "tick;", "tick; tick", "# tick", "too long", "code 0", "bad", "-", "0", "no", "NAME", "file NAME", "calm N", `want Q`+` ""`, "tick\vtick", "tick tick", "drop plan plan")
}

// numberLines are lines with one number left open.
var numberLines = []string{"bring %s", "double %s", "lose %s", "bend %s 0 1", "bend 0 %s 1", "bend 0 0 %s", "fall %s 0", "fall 0 %s", "rise %s", "calm %s"}

func TestNumbersOfLines(t *testing.T) {
	wrong := []string{"00", "01", "007", "0000", "00000", "+1", "-1", "-0", "+0", "10000", "12345", "99999", "9999999999999999999999", "18446744073709551616", "4294967296", "0x1", "1e2", "1.0", "1,", "a", "1a", "a1", "_1", "1_0", "\xb2", "٣", "", " ", `"1"`, `""`, `"`, "N", "1\t", "\t1", "1\r", "1\x00", "/", ":", "1:", "1/"}
	var lines []string
	for _, form := range numberLines {
		for _, number := range wrong {
			lines = append(lines, fmt.Sprintf(form, number))
		}
		for _, number := range []string{"0", "1", "2", "3", "9", "10", "99", "100", "199", "200", "201", "256", "999", "1000", "9998", "9999"} {
			line := fmt.Sprintf(form, number)
			checkLine(t, line)
			if impl.Session(line) == "bad\n" {
				t.Errorf("%q is bad", line)
			}
		}
	}
	checkBad(t, lines...)
}

func TestMostRoundsOfALine(t *testing.T) {
	k := behindLines()
	checkTalk(t, k.with(`calm 201`, `no`, `calm 9999`, `no`, `calm 10000`, `bad`, `double 0`, `5`, `calm 0`, `5`, `answers`, `a 0 "one"`, `calm 200`, `0`, `answers`, `x 0 "one"`))
	checkSaid(t, "calm 200\ncalm 199\ncalm 1\n", []string{"0", "0", "0"})
	// With the offer lost, x is offered once more when its lease has ended: how many rounds go by counts.
	lost := k.with(`lose 1`, `3`, `answers`, `a 0 "one"`)
	checkTalk(t, lost.with(`calm 9`, `0`, `answers`, `-`, `calm 1`, `0`, `answers`, `-`, `calm 2`, `0`, `answers`, `x 0 "one"`))
}

// TestTextsInQuotes has each byte in a text, as chapter 2 writes it and in other ways.
func TestTextsInQuotes(t *testing.T) {
	var lines []string
	for _, b := range allBytes() {
		text := string([]byte{b})
		q, hex := slowQuote(text), fmt.Sprintf("%02x", b)
		checkTold(t, `file a `+q, `code 0`, `want a`, `0 `+q, `ask a`, `code 0`, `tick`, `2`, `answers`, `a 0 `+q)
		if len(q) > 3 {
			if text != "\n" { // a newline ends the line
				lines = append(lines, `file a "`+text+`"`, `tool a "`+text+`"`)
			}
		} else {
			lines = append(lines, `file a "\`+hex+`"`, `tool a "\`+hex+`"`)
		}
		if hex != strings.ToUpper(hex) {
			lines = append(lines, `file a "\`+strings.ToUpper(hex)+`"`)
		}
	}
	lines = append(lines, `file a "\"`, `file a "\\"`, `file a "\""`, `file a "\0"`, `file a "\0a`, `file a "\0 a"`, `file a "\n"`, `file a "\x0a"`, `file a "\00a\"`, `file a "\g0"`, `file a "\0g"`, `file a "a"b"`, `file a ""x"`, `file a "`, `file a "x`, `file a x"`, `file a 'x'`, "file a `x`", `file a "x" "y"`, `file a "x"y`, `file a "x" `, `file a "x"  `, `file "x"`, `file "a" "x"`, `file a"x"`, `file a "\5c5c`, `file a "\22`)
	checkBad(t, lines...)
	all := string(allBytes())
	checkTold(t, `file a `+slowQuote(all), `code 0`, `want a`, `0 `+slowQuote(all), `file a ""`, `code 0`, `want a`, `0 ""`, `file a " "`, `code 0`, `want a`, `0 " "`, `file a "  a  b  "`, `code 0`, `want a`, `0 "  a  b  "`)
	longest := strings.Repeat("\x00", impl.MaxText)
	checkTold(t, `file a `+slowQuote(longest), `code 0`, `want a`, `0 `+slowQuote(longest), `file a `+slowQuote(longest+"\x00"), `code 2`, `want a`, `0 `+slowQuote(longest))
}

// TestWordsWithQuotes has names with quotes within, which begin no text: only one behind a space does.
func TestWordsWithQuotes(t *testing.T) {
	checkTold(t,
		`file a"b "x"`, `code 0`,
		`want a"b`, `0 "x"`,
		`file a" "y"`, `code 0`,
		`want a"`, `0 "y"`,
		`tool a"" "z"`, `code 0`,
		`want a""`, `0 "z\0a"`,
		`ask a"b`, `code 0`,
		`ask c"`, `code 0`,
		`tick`, `2`,
		`answers`, `a"b 0 "x", c" 4 "c\22"`,
		`drop a"b`, `code 0`,
		`drop a"b`, `code 3`,
		`show`, `1.4 files 2 texts 0 records 0 runs 0 right`,
		`ask "a"`, `bad`,
		`want "a"`, `bad`,
		`drop "a"`, `bad`,
		`want "`, `bad`,
		`want a "`, `bad`,
		`ask a" "`, `bad`,
		`file a "b"c "x"`, `bad`,
		`file a"b`, `bad`,
		`file a"b x`, `bad`,
		`file a"b" "x`, `bad`,
		`file a "x"b`, `bad`,
		`file" a "x"`, `bad`,
		`tick"`, `bad`,
		`"tick"`, `bad`,
		`bring 0"`, `bad`,
	)
}

func TestNamesOfLines(t *testing.T) {
	for _, name := range wrongNames {
		if name == "" || strings.ContainsAny(name, " \n") {
			continue // they end the word
		}
		checkTold(t, `file `+name+` "x"`, `code 2`, `tool `+name+` "x"`, `code 2`, `drop `+name, `code 2`, `ask `+name, `code 2`, `want `+name, `2 ""`, `show`, `1.0 files 0 texts 0 records 0 runs 0 right`)
	}
	for _, name := range []string{"!", "~", "0", "-1", "N", "\\", "file", "answers", ";", "a;b", ",", xs(impl.MaxName)} {
		q := slowQuote(name)
		checkTold(t, `want `+name, `4 `+q, `ask `+name, `code 0`, `tick`, `2`, `answers`, name+` 4 `+q, `file `+name+` "x"`, `code 0`, `want `+name, `0 "x"`, `tool `+name+` "x;"`, `code 0`, `want `+name, `0 "x\0a\0a"`, `drop `+name, `code 0`, `drop `+name, `code 3`)
	}
	checkBad(t, "ask a b", "ask  a", "ask ", "ask", "want a b", "want ", "drop a b", "drop ", `file a b "x"`, `file  "x"`, `file "x"`, `tool  "x"`, `tool a b "x"`)
}

// TestNeighboursOfLines holds all that differ from a line in one byte against the words.
func TestNeighboursOfLines(t *testing.T) {
	t.Parallel()
	bytes := []byte(" \"\\;019ax\n\t\x00\x7f\x80\xff")
	for _, line := range []string{`file b "x\0a;"`, `tool b "a; b"`, `drop a`, `clear`, `ask x`, `pack`, `tick`, `bring 1`, `double 10`, `lose 2`, `bend 1 8 1`, `fall 0 1`, `rise 1`, `calm 20`, `answers`, `want x`, `show`} {
		neighbours(line, bytes, func(s string) {
			checkByTheWords(t, "file a \"one\"\nask x\ntick\n"+s+"\nshow\nwant a\nwant b\ntick\nanswers\n")
		})
	}
}
