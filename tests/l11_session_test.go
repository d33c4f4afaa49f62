package tests

import (
	"fmt"
	"slices"
	"strings"
	"testing"

	"loop.example/kiln/impl"
)

// talk is the lines of a session, and the answers to them.
type talk struct {
	lines   []string
	answers []string
}

// talkOf is a talk, told by a line and its answer in turn.
func talkOf(linesAndAnswers ...string) talk {
	var k talk
	for i := 0; i < len(linesAndAnswers); i += 2 {
		k.say(linesAndAnswers[i], linesAndAnswers[i+1])
	}
	return k
}

func (k *talk) say(line, answer string) {
	k.lines = append(k.lines, line)
	k.answers = append(k.answers, answer)
}

// text is that of its first lines, a newline behind each.
func (k talk) text(lines int) string {
	return textOf(k.lines[:lines])
}

func textOf(lines []string) string {
	if len(lines) == 0 {
		return ""
	}
	return strings.Join(lines, "\n") + "\n"
}

func checkSaid(t *testing.T, text string, want []string) {
	t.Helper()
	got := impl.Session(text)
	if got == textOf(want) {
		return
	}
	lines := strings.Split(got, "\n")
	for i := range max(len(lines)-1, len(want)) {
		if i >= len(lines) || i >= len(want) || lines[i] != want[i] {
			t.Fatalf("line %d of %q: answered %q, want %q", i, text, lines[min(i, len(lines)):], want[min(i, len(want)):])
		}
	}
	t.Fatalf("%q: answered %q, want %q", text, got, want)
}

// checkTalk holds a talk against what is answered, and so each of its beginnings, with and without a newline at the end.
func checkTalk(t *testing.T, k talk) {
	t.Helper()
	for n := len(k.lines); n >= 0; n-- {
		checkSaid(t, k.text(n), k.answers[:n])
		if n > 0 && k.lines[n-1] != "" {
			checkSaid(t, strings.TrimSuffix(k.text(n), "\n"), k.answers[:n])
		}
	}
	if slow := slowSession(k.text(len(k.lines))); slow != textOf(k.answers) {
		t.Errorf("by the words: %q, not %q", slow, k.answers)
	}
}

func checkTold(t *testing.T, linesAndAnswers ...string) {
	t.Helper()
	checkTalk(t, talkOf(linesAndAnswers...))
}

func TestTheExampleOfASession(t *testing.T) {
	checkTold(t,
		`tool cat "arg; ask; put; lit \22!\22; put; end"`, `code 0`,
		`file a "one"`, `code 0`,
		`file plan "make x cat \22a\22\0amake y cat \22x\22\0a"`, `code 0`,
		`ask y`, `code 0`,
		`calm 20`, `0`,
		`answers`, `y 0 "one!!"`,
		`show`, `1.3 files 3 texts 4 records 2 runs 2 right`,
		`file b "elsewhere"`, `code 0`,
		`ask y`, `code 0`,
		`calm 3`, `0`,
		`answers`, `y 0 "one!!"`,
		`file a "two"`, `code 0`,
		`ask y`, `code 0`,
		`calm 20`, `0`,
		`answers`, `y 0 "two!!"`,
	)
}

// catLines make x by cat of a.
func catLines() talk {
	return talkOf(
		`tool cat "arg; ask; put; end"`, `code 0`,
		`file a "one"`, `code 0`,
		`file plan "make x cat \22a\22\0a"`, `code 0`,
	)
}

func (k talk) with(linesAndAnswers ...string) talk {
	more := talkOf(linesAndAnswers...)
	return talk{slices.Concat(k.lines, more.lines), slices.Concat(k.answers, more.answers)}
}

func TestASessionParcelByParcel(t *testing.T) {
	checkTalk(t, catLines().with(
		`ask x`, `code 0`,
		`tick`, `2`, // here 1, here 2
		`bring 1`, `1`,
		`tick`, `4`, // here 1, offer 2, here 1, here 2
		`double 1`, `5`,
		`bring 1`, `4`, // here 1, here 1, here 2, offer 2
		`lose 0`, `3`,
		`tick`, `6`, // here 1, here 2, offer 2, here 1, here 2, turn 2: it asks for a
		`bring 5`, `5`,
		`show`, `1.3 files 3 texts 0 records 0 runs 1 right`,
		`tick`, `8`, // .., offer 2, here 1, here 2
		`bring 5`, `7`,
		`tick`, `10`, // .., here 1, here 2, turn 2: it is over
		`bend 9 0 256`, `10`,
		`bring 9`, `9`,
		`show`, `1.3 files 3 texts 2 records 1 runs 1 right`,
		`answers`, `-`,
		`tick`, `11`,
		`answers`, `x 0 "one"`,
		`answers`, `-`,
		`show`, `1.3 files 3 texts 2 records 1 runs 1 right`,
	))
}

// TestBentParcelsAreLost has the turn of a worker bent, of 31 bytes, or bent by nothing, or something else bent; only if it comes as it was sent, the run goes on.
func TestBentParcelsAreLost(t *testing.T) {
	before := catLines().with(`ask x`, `code 0`, `calm 2`, `0`, `tick`, `3`) // here 1, turn 1, here 2
	for _, bend := range []string{`bend 1 0 1`, `bend 1 7 255`, `bend 1 8 257`, `bend 1 30 9999`, `bend 1 9 1`} {
		checkTalk(t, before.with(bend, `3`, `bring 1`, `2`, `calm 1`, `0`, `tick`, `2`, `bring 1`, `1`, `show`, `1.3 files 3 texts 0 records 0 runs 1 right`))
	}
	for _, bend := range []string{`bend 1 0 0`, `bend 1 0 256`, `bend 1 30 9984`, `bend 1 31 1`, `bend 1 9999 1`, `bend 3 0 1`, `bend 9999 0 1`, `bend 2 0 1`, `bend 0 0 1`} {
		checkTalk(t, before.with(bend, `3`, `bring 1`, `2`, `calm 1`, `0`, `tick`, `3`, `bring 1`, `2`, `show`, `1.3 files 3 texts 2 records 1 runs 1 right`))
	}
}

func TestFallsAndRisesInASession(t *testing.T) {
	checkTold(t,
		`file a "1"`, `code 0`,
		`tick`, `2`,
		`file a "2"`, `code 0`,
		`rise 0`, `2`,
		`want a`, `0 "2"`,
		`fall 0 0`, `2`,
		`show`, `down right`,
		`want a`, `4 "a"`,
		`file a "3"`, `code 2`,
		`tool a "3"`, `code 2`,
		`drop a`, `code 2`,
		`clear`, `code 2`,
		`ask a`, `code 2`,
		`pack`, `code 2`,
		`tick`, `4`,
		`calm 1`, `0`,
		`answers`, `-`,
		`fall 0 5`, `0`,
		`rise 0`, `0`,
		`show`, `2.0 files 1 texts 0 records 0 runs 0 right`,
		`want a`, `0 "1"`,
		`file a "3"`, `code 0`,
		`file b "4"`, `code 0`,
		`show`, `2.2 files 2 texts 0 records 0 runs 0 right`,
		`fall 0 2`, `0`, // epoch 2 and the first of the two files are kept
		`rise 0`, `0`,
		`show`, `3.0 files 1 texts 0 records 0 runs 0 right`,
		`want a`, `0 "3"`,
		`want b`, `4 "b"`,
		`fall 0 0`, `0`, // epoch 3 is lost, which no message bears
		`rise 0`, `0`,
		`show`, `3.0 files 1 texts 0 records 0 runs 0 right`,
		`file b "5"`, `code 0`,
		`fall 0 9999`, `0`,
		`rise 0`, `0`,
		`show`, `4.0 files 2 texts 0 records 0 runs 0 right`,
		`pack`, `code 3`,
		`tick`, `2`,
		`pack`, `code 0`,
		`fall 0 0`, `2`,
		`rise 0`, `2`,
		`show`, `5.0 files 2 texts 0 records 0 runs 0 right`,
	)
}

func TestWorkersInASession(t *testing.T) {
	checkTalk(t, catLines().with(
		`fall 1 0`, `0`,
		`tick`, `1`,
		`fall 2 7`, `1`,
		`tick`, `1`,
		`rise 3`, `1`,
		`fall 3 0`, `1`,
		`rise 9999`, `1`,
		`fall 9999 0`, `1`,
		`tick`, `1`,
		`ask x`, `code 0`,
		`calm 200`, `0`,
		`answers`, `-`,
		`show`, `1.3 files 3 texts 0 records 0 runs 1 right`,
		`rise 2`, `0`,
		`calm 1`, `0`,
		`tick`, `2`, // an offer, and a here of worker 2 alone
		`bring 0`, `1`,
		`fall 2 0`, `1`, // with its offer
		`rise 2`, `1`,
		`rise 1`, `1`,
		`tick`, `3`,
		`calm 20`, `0`,
		`answers`, `x 0 "one"`,
	))
}

func TestPackingAndClearing(t *testing.T) {
	checkTalk(t, catLines().with(
		`pack`, `code 3`,
		`ask x`, `code 0`,
		`calm 20`, `0`,
		`show`, `1.3 files 3 texts 2 records 1 runs 1 right`,
		`pack`, `code 0`,
		`show`, `1.3 files 3 texts 2 records 1 runs 1 right`,
		`fall 0 0`, `0`,
		`rise 0`, `0`,
		`show`, `2.0 files 3 texts 2 records 1 runs 0 right`,
		`answers`, `x 0 "one"`,
		`ask x`, `code 0`,
		`tick`, `2`, // it is remembered
		`answers`, `x 0 "one"`,
		`clear`, `code 0`,
		`show`, `2.0 files 3 texts 0 records 0 runs 1 right`,
		`clear`, `code 0`,
		`pack`, `code 3`,
		`drop b`, `code 3`,
		`drop a`, `code 0`,
		`show`, `2.1 files 2 texts 0 records 0 runs 0 right`,
		`want x`, `4 "a"`,
		`ask x`, `code 0`,
		`calm 20`, `0`,
		`answers`, `x 4 "a"`,
		`show`, `2.1 files 2 texts 2 records 1 runs 1 right`,
	))
}

// TestAnswersOfEachCode asks for a thing of each code, and for what Want says of it.
func TestAnswersOfEachCode(t *testing.T) {
	k := talkOf(
		`tool cat "arg; ask; put; end"`, `code 0`,
		`tool fail "arg; fail"`, `code 0`,
		`tool none "arg"`, `code 0`,
		`tool loop "go 0"`, `code 0`,
		`file no "go"`, `code 0`,
		`file plan "make b none \22\22\0amake c cat \22c\22\0amake d fail \22\5c0a\5c5c\5cff \5c22\22\0amake e loop \22\22\0amake f no \22\22\0amake g cat \22d\22\0amake h cat \22gone\22\0a"`, `code 0`,
	)
	results := []string{`cat 0 "arg\0aask\0aput\0aend\0a"`, `b 2 "1"`, `c 6 ""`, `d 1 "\0a\5c\ff \22"`, `e 3 ""`, `f 7 "no"`, `g 5 "d"`, `h 4 "gone"`, `gone 4 "gone"`}
	for _, result := range results {
		name, told, _ := strings.Cut(result, " ")
		k = k.with(`want `+name, told, `ask `+name, `code 0`, `calm 20`, `0`, `answers`, result, `show`, "")
		k.answers[len(k.answers)-1] = showOf(k)
		if !strings.HasSuffix(showOf(k), " right") {
			t.Errorf("behind %q: %s", result, showOf(k))
		}
	}
	checkTalk(t, k)
	k = talk{k.lines[:6], k.answers[:6]}
	for _, result := range results {
		k = k.with(`ask `+strings.Fields(result)[0], `code 0`)
	}
	k = k.with(`fall 2 0`, `0`, `calm 200`, `0`)
	said := strings.Split(impl.Session(k.with(`answers`, ``).text(len(k.lines)+1)), "\n")
	told := strings.Split(said[len(k.lines)], ", ")
	slices.Sort(told)
	slices.Sort(results)
	if !slices.Equal(told, results) {
		t.Errorf("all at once: %q, want %q", told, results)
	}
}

// showOf is what the slow session shows at the end of a talk.
func showOf(k talk) string {
	lines := strings.Split(slowSession(k.text(len(k.lines))), "\n")
	return lines[len(lines)-2]
}

func TestToolsOnOneLine(t *testing.T) {
	for _, c := range [][2]string{
		{``, `\0a`},
		{`end`, `end\0a`},
		{`;`, `\0a\0a`},
		{`end;`, `end\0a\0a`},
		{`end; `, `end\0a\0a`},
		{`;end`, `\0aend\0a`},
		{` ;end `, ` \0aend \0a`},
		{`arg; ask;put;   end`, `arg\0aask\0aput\0aend\0a`},
		{`arg ; ask`, `arg \0aask\0a`},
		{`a;;b; ;  ;c`, `a\0a\0ab\0a\0a\0ac\0a`},
		{`lit \22a; b;c\22; end`, `lit \22a\0ab\0ac\22\0aend\0a`},
		{`a\0a; \0a b;\09 c; \5c3b`, `a\0a\0a\0a b\0a\09 c\0a\5c3b\0a`},
		{`end\0a`, `end\0a\0a`},
		{`\00;\ff; \7f`, `\00\0a\ff\0a\7f\0a`},
	} {
		checkTold(t, `tool t "`+c[0]+`"`, `code 0`, `want t`, `0 "`+c[1]+`"`)
		checkTold(t, `file t "`+c[0]+`"`, `code 0`, `want t`, `0 "`+c[0]+`"`)
	}
	longest := xs(impl.MaxText - 1)
	checkTold(t, `tool t "`+longest+`"`, `code 0`, `want t`, `0 "`+longest+`\0a"`, `tool t "`+longest+`x"`, `code 2`)
	spaced := longest[1:] + ";" + strings.Repeat(" ", 500)
	checkTold(t, `tool t "`+spaced+`"`, `code 0`, `want t`, `0 "`+longest[1:]+`\0a\0a"`, `tool t "x`+spaced+`"`, `code 2`)
	checkTold(t,
		`file a "1"`, `code 0`,
		`tool plan "make x lit \22\22"`, `code 0`,
		`tool lit "lit \22a;b\22; put; end"`, `code 0`,
		`want x`, `7 "lit"`, // its text has a newline within quotes, so it is no tool
		`tool lit "lit \22a,b\22; put; end"`, `code 0`,
		`want x`, `0 "a,b"`,
	)
}

// TestAskedOnce asks for more than a boss takes, and for one thing twice.
func TestAskedOnce(t *testing.T) {
	k := talkOf()
	for i := range impl.MaxRoots {
		k.say(fmt.Sprint("ask n", i), `code 0`)
	}
	checkTalk(t, k.with(
		`ask n10`, `code 3`,
		`ask n3`, `code 0`,
		`ask \`, `code 3`,
		`ask `+xs(21), `code 2`,
		`tick`, `2`,
		`ask n10`, `code 0`,
		`answers`, `n0 4 "n0", n1 4 "n1", n2 4 "n2", n3 4 "n3", n4 4 "n4", n5 4 "n5", n6 4 "n6", n7 4 "n7", n8 4 "n8", n9 4 "n9"`,
		`answers`, `-`,
		`tick`, `4`,
		`answers`, `n10 4 "n10"`,
	))
}

func TestMostAnswersOfASession(t *testing.T) {
	k := talkOf()
	var told []string
	for round := range 10 {
		for i := range 10 {
			name := fmt.Sprintf("n%d%d", round, i)
			k.say("ask "+name, "code 0")
			told = append(told, fmt.Sprintf("%s 4 %q", name, name))
		}
		k.say("tick", fmt.Sprint(2*round+2))
	}
	k = k.with(`ask more`, `code 0`, `tick`, `22`, `show`, `1.0 files 0 texts 0 records 0 runs 0 right`, `answers`, strings.Join(told, ", "), `answers`, `-`, `ask more`, `code 0`, `tick`, `24`, `answers`, `more 4 "more"`)
	checkSaid(t, k.text(len(k.lines)), k.answers)
}

func TestMostParcelsOfASession(t *testing.T) {
	k := talkOf()
	for n := 2; n <= impl.MaxFlight; n += 2 {
		k.say("tick", fmt.Sprint(n))
	}
	k = k.with(`tick`, `500`, `double 0`, `500`, `lose 500`, `500`, `lose 499`, `499`, `double 499`, `499`, `double 498`, `500`, `double 499`, `500`, `bring 500`, `500`, `bring 499`, `499`, `tick`, `500`, `calm 0`, `500`, `calm 1`, `0`, `bring 0`, `0`)
	checkSaid(t, k.text(len(k.lines)), k.answers)
}

func TestMostFilesOfASession(t *testing.T) {
	k := talkOf()
	for i := range impl.MaxFiles {
		k.say(fmt.Sprintf("file f%d \"%d\"", i, i), "code 0")
	}
	checkTalk(t, k.with(
		`file more ""`, `code 3`,
		`tool more ""`, `code 3`,
		`file f7 "again"`, `code 0`,
		`want f7`, `0 "again"`,
		`want more`, `4 "more"`,
		`show`, `1.41 files 40 texts 0 records 0 runs 0 right`,
		`drop f9`, `code 0`,
		`drop f9`, `code 3`,
		`file more ""`, `code 0`,
		`want more`, `0 ""`,
	))
}

// Two texts whose forms as results have one sum of eight bytes.
const (
	oneTwin   = `?.,@-U##OXG(`
	otherTwin = `>:.D=57#W-^;`
)

// TestNoDoubtOfSevenBytes has texts whose sums differ in the first of their eight bytes alone.
func TestNoDoubtOfSevenBytes(t *testing.T) {
	one, other := `?.I@YU@$26(7`, `>1^PCe_83-v?`
	if impl.Sum("0:"+one, 7) != impl.Sum("0:"+other, 7) || impl.Sum("0:"+one, 8) == impl.Sum("0:"+other, 8) {
		t.Fatal("they do not differ so")
	}
	checkTold(t,
		`tool cat "arg; ask; put; end"`, `code 0`,
		`file plan "make x cat \22a\22\0a"`, `code 0`,
		`file a "`+one+`"`, `code 0`,
		`ask x`, `code 0`,
		`calm 20`, `0`,
		`file a "`+other+`"`, `code 0`,
		`show`, `1.4 files 3 texts 2 records 1 runs 0 right`,
		`ask x`, `code 0`,
		`calm 20`, `0`,
		`show`, `1.4 files 3 texts 3 records 2 runs 1 right`,
		`answers`, `x 0 "`+one+`", x 0 "`+other+`"`,
	)
}

// TestDoubtInASession has a run that is remembered of one twin, and asked for with the other.
func TestDoubtInASession(t *testing.T) {
	if impl.Sum("0:"+oneTwin, 8) != impl.Sum("0:"+otherTwin, 8) {
		t.Fatal("they are no twins")
	}
	checkTold(t,
		`tool cat "arg; ask; put; end"`, `code 0`,
		`file plan "make x cat \22a\22\0a"`, `code 0`,
		`file a "`+oneTwin+`"`, `code 0`,
		`file b "`+otherTwin+`"`, `code 0`, // nobody looks at it
		`ask x`, `code 0`,
		`calm 20`, `0`,
		`show`, `1.4 files 4 texts 2 records 1 runs 1 right`,
		`file a "`+otherTwin+`"`, `code 0`,
		`show`, `1.5 files 4 texts 2 records 1 runs 0 right doubt`,
		`want x`, `0 "`+otherTwin+`"`,
		`ask x`, `code 0`,
		`calm 3`, `0`,
		`show`, `1.5 files 4 texts 2 records 1 runs 1 wrong doubt`,
		`ask gone`, `code 0`,
		`tick`, `2`,
		`show`, `1.5 files 4 texts 2 records 1 runs 1 wrong doubt`,
		`clear`, `code 0`,
		`show`, `1.5 files 4 texts 0 records 0 runs 1 wrong`,
		`fall 0 9999`, `2`,
		`show`, `down wrong`,
		`answers`, `x 0 "`+oneTwin+`", x 0 "`+oneTwin+`", gone 4 "gone"`,
		`show`, `down right`,
		`rise 0`, `2`,
		`show`, `2.0 files 4 texts 0 records 0 runs 0 right`,
		`ask x`, `code 0`,
		`calm 20`, `0`,
		`answers`, `x 0 "`+otherTwin+`"`,
		`file plan "make x cat \22a\22\0amake y cat \22c\22\0a"`, `code 0`,
		`file c "`+oneTwin+`"`, `code 0`,
		`show`, `2.2 files 5 texts 2 records 1 runs 0 right doubt`,
		`clear`, `code 0`,
		`show`, `2.2 files 5 texts 0 records 0 runs 0 right doubt`,
		`drop c`, `code 0`,
		`show`, `2.3 files 4 texts 0 records 0 runs 0 right`,
	)
}

// forge are the lines that bend a parcel of the world of a talk, place by place, into one that bears other lines with a right tag.
func forge(t *testing.T, k talk, place int, lines string) talk {
	t.Helper()
	s := newSlowTalk()
	for _, line := range k.lines {
		s.answer(line)
	}
	bytes, other := s.world.Flight[place].Bytes, tagged(lines, "k")
	if len(bytes) != len(other) {
		t.Fatalf("%q is not as long as %q", other, bytes)
	}
	for i := range len(bytes) {
		if by := bytes[i] ^ other[i]; by != 0 {
			k = k.with(fmt.Sprintf("bend %d %d %d", place, i, by), fmt.Sprint(len(s.world.Flight)))
		}
	}
	return k
}

func TestForgedInASession(t *testing.T) {
	k := catLines().with(`ask x`, `code 0`, `calm 4`, `0`, `tick`, `3`, `show`, `1.3 files 3 texts 0 records 0 runs 1 right`)
	k = forge(t, k, 1, "turn 1 1 3 x 2 4\nover 0 \"ONE\"\n")
	checkTalk(t, k.with(
		`show`, `1.3 files 3 texts 0 records 0 runs 1 right`,
		`double 1`, `4`,
		`bring 1`, `3`,
		`show`, `1.3 files 3 texts 3 records 1 runs 1 right forged`,
		`calm 1`, `0`,
		`show`, `1.3 files 3 texts 3 records 1 runs 1 wrong forged`,
		`fall 0 0`, `0`,
		`show`, `down wrong forged`,
		`answers`, `x 0 "ONE"`,
		`show`, `down right forged`,
		`rise 0`, `0`,
		`ask x`, `code 0`,
		`tick`, `2`,
		`show`, `2.0 files 3 texts 3 records 1 runs 1 wrong forged`,
		`file a "`+oneTwin+`"`, `code 0`,
		`clear`, `code 0`,
		`ask x`, `code 0`,
		`calm 9`, `0`,
		`file a "`+otherTwin+`"`, `code 0`,
		`show`, `2.2 files 3 texts 2 records 1 runs 0 wrong doubt forged`,
		`answers`, `x 0 "ONE", x 0 "`+oneTwin+`"`,
		`show`, `2.2 files 3 texts 2 records 1 runs 0 right doubt forged`,
	))
}
