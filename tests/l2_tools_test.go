package tests

import (
	"math/rand"
	"reflect"
	"slices"
	"strconv"
	"strings"
	"testing"

	"loop.example/kiln/impl"
)

func xs(n int) string {
	return strings.Repeat("x", n)
}

// written are instructions with their lines.
var written = []struct {
	in   impl.Ins
	line string
}{
	{impl.Ins{Op: impl.InLit, Text: ""}, `lit ""`},
	{impl.Ins{Op: impl.InLit, Text: "a b  c"}, `lit "a b  c"`},
	{impl.Ins{Op: impl.InLit, Text: "\x00\x1f\"\\\x7f\xff\n !~"}, `lit "\00\1f\22\5c\7f\ff\0a !~"`},
	{impl.Ins{Op: impl.InArg}, `arg`},
	{impl.Ins{Op: impl.InAsk}, `ask`},
	{impl.Ins{Op: impl.InHas}, `has`},
	{impl.Ins{Op: impl.InPut}, `put`},
	{impl.Ins{Op: impl.InCat, Text: "é"}, `cat "\c3\a9"`},
	{impl.Ins{Op: impl.InLine}, `line 0`},
	{impl.Ins{Op: impl.InLine, To: impl.MaxIns}, `line 40`},
	{impl.Ins{Op: impl.InIf, Text: " ", To: 7}, `if 7 " "`},
	{impl.Ins{Op: impl.InGo, To: 10}, `go 10`},
	{impl.Ins{Op: impl.InEnd}, `end`},
	{impl.Ins{Op: impl.InFail}, `fail`},
}

func TestToolForms(t *testing.T) {
	var all impl.Tool
	form := ""
	for _, w := range written {
		one := impl.Tool{Code: []impl.Ins{w.in}}
		checkForm(t, one, w.line+"\n")
		all.Code = append(all.Code, w.in)
		form += w.line + "\n"
	}
	checkForm(t, all, form)
}

func checkForm(t *testing.T, tool impl.Tool, form string) {
	t.Helper()
	before := slices.Clone(tool.Code)
	if got := impl.FormTool(tool); got != form {
		t.Errorf("form %q, want %q", got, form)
	}
	if got, ok := impl.ReadTool(form); !ok || !slices.Equal(got.Code, tool.Code) {
		t.Errorf("read of %q: %+v %v", form, got, ok)
	}
	if !slices.Equal(tool.Code, before) {
		t.Errorf("%q: the tool has changed", form)
	}
}

func randomIns(r *rand.Rand) impl.Ins {
	in := impl.Ins{Op: impl.InLit + r.Intn(impl.InFail)}
	switch in.Op {
	case impl.InLit, impl.InCat, impl.InIf:
		text := make([]byte, r.Intn(8))
		for i := range text {
			text[i] = byte(r.Intn(256))
		}
		in.Text = string(text)
	}
	switch in.Op {
	case impl.InLine, impl.InIf, impl.InGo:
		in.To = r.Intn(impl.MaxIns + 1)
	}
	return in
}

func TestReadOfFormGivesTheTool(t *testing.T) {
	r := rand.New(rand.NewSource(2))
	long := 0
	for range 3000 {
		var tool impl.Tool
		for range 1 + r.Intn(impl.MaxIns) {
			tool.Code = append(tool.Code, randomIns(r))
		}
		form := impl.FormTool(tool)
		if form == "" {
			long++
			continue
		}
		checkForm(t, tool, form)
	}
	if long == 0 || long == 3000 {
		t.Errorf("%d tools have no form", long)
	}
}

func TestReadToolReadsNothingElse(t *testing.T) {
	bytes := []byte("\x00\n \"\\0123456789abcdefglinpst")
	for _, w := range written {
		form := "end\n" + w.line + "\nput\n"
		for i := range len(form) {
			checkRead(t, form[:i])
			checkRead(t, form[:i]+form[i+1:])
			for _, b := range bytes {
				checkRead(t, form[:i]+string([]byte{b})+form[i:])
				checkRead(t, form[:i]+string([]byte{b})+form[i+1:])
			}
		}
	}
}

// checkRead asks that a text that is read is the form of what was read.
func checkRead(t *testing.T, s string) {
	t.Helper()
	tool, ok := impl.ReadTool(s)
	if ok && impl.FormTool(tool) != s {
		t.Errorf("read of %q, which is the form of nothing: %+v", s, tool)
	}
	if !ok && len(tool.Code) != 0 {
		t.Errorf("%q is not read, but gives %+v", s, tool)
	}
}

func TestAlmostForms(t *testing.T) {
	for _, s := range []string{
		"", "\n", " ", "end", "end\r\n", " end\n", "end \n", "end\n\n", "\nend\n", "end\nend", "END\n", "en\n", "ends\n",
		"arg 0\n", "arg \"\"\n", "lit\n", "lit \n", "lit x\n", "lit \"\n", "lit \"x\n", "lit x\"\n", "lit  \"x\"\n", "lit \"x\" \n",
		"lit \"x\"\"\n", "lit \"\"\"\n", "lit \"\\\"\"\n", "lit \"\\\"\n", "lit \"\\0\"\n", "lit \"\\0A\"\n", "lit \"\\20\"\n", "lit \"\\7e\"\n", "lit \"\\g0\"\n",
		"lit \"\\x0a\"\n", "lit \"\t\"\n", "lit \"\x7f\"\n", "lit \"\xc3\xa9\"\n", "lit 1 \"x\"\n", "lit \"a\nb\"\n",
		"line\n", "line \n", "line \"1\"\n", "line 41\n", "line 00\n", "line 01\n", "line +1\n", "line -0\n", "line 1.0\n", "line  1\n", "line 1 \n", "line 99999999999999999999\n",
		"line 18446744073709551617\n", "go 1 1\n", "go 1 \"\"\n", "go 0x1\n", "if 1\n", "if \"x\"\n", "if 1 x\n", "if 41 \"x\"\n", "if 1  \"x\"\n", "if 01 \"x\"\n", "if \"x\" 1\n", "if 1 \"x\" 1\n",
	} {
		if tool, ok := impl.ReadTool(s); ok || len(tool.Code) != 0 {
			t.Errorf("read of %q: %+v %v", s, tool, ok)
		}
	}
}

func TestToolLimits(t *testing.T) {
	end := impl.Ins{Op: impl.InEnd}
	most := slices.Repeat([]impl.Ins{end}, impl.MaxIns)
	checkForm(t, impl.Tool{Code: most}, strings.Repeat("end\n", impl.MaxIns))
	checkNoForm(t, impl.Tool{Code: append(most, end)}, strings.Repeat("end\n", impl.MaxIns+1))

	// `lit "` and `"` with the newline are 7 bytes.
	full := impl.Tool{Code: []impl.Ins{{Op: impl.InLit, Text: xs(impl.MaxText - 7)}}}
	checkForm(t, full, `lit "`+xs(impl.MaxText-7)+"\"\n")
	full.Code[0].Text += "x"
	checkNoForm(t, full, `lit "`+xs(impl.MaxText-6)+"\"\n")
	full.Code[0].Text = strings.Repeat("\n", 98)
	checkNoForm(t, full, `lit "`+strings.Repeat(`\0a`, 98)+"\"\n")
}

func checkNoForm(t *testing.T, tool impl.Tool, form string) {
	t.Helper()
	if got := impl.FormTool(tool); got != "" {
		t.Errorf("form %q", got)
	}
	if got, ok := impl.ReadTool(form); ok || len(got.Code) != 0 {
		t.Errorf("read of %q: %+v %v", form, got, ok)
	}
}

// wrongIns are instructions that no valid tool has.
func wrongIns() []impl.Ins {
	wrong := []impl.Ins{
		{}, {Op: -1}, {Op: impl.InFail + 1}, {Op: 1 << 40},
		{Op: impl.InLit, Text: xs(impl.MaxText + 1)}, {Op: impl.InCat, Text: xs(impl.MaxText + 1)}, {Op: impl.InIf, Text: xs(impl.MaxText + 1)},
	}
	for _, op := range []int{impl.InLine, impl.InIf, impl.InGo} {
		wrong = append(wrong, impl.Ins{Op: op, To: impl.MaxIns + 1}, impl.Ins{Op: op, To: -1})
	}
	for _, op := range []int{impl.InLit, impl.InArg, impl.InAsk, impl.InHas, impl.InPut, impl.InCat, impl.InEnd, impl.InFail} {
		wrong = append(wrong, impl.Ins{Op: op, To: 1})
	}
	for _, op := range []int{impl.InArg, impl.InAsk, impl.InHas, impl.InPut, impl.InLine, impl.InGo, impl.InEnd, impl.InFail} {
		wrong = append(wrong, impl.Ins{Op: op, Text: "x"})
	}
	return wrong
}

func TestWrongTools(t *testing.T) {
	end := impl.Ins{Op: impl.InEnd}
	wrong := []impl.Tool{{}, {Code: slices.Repeat([]impl.Ins{end}, impl.MaxIns+1)}}
	for _, in := range wrongIns() {
		wrong = append(wrong, impl.Tool{Code: []impl.Ins{in}}, impl.Tool{Code: []impl.Ins{end, in}})
	}
	for _, tool := range wrong {
		if form := impl.FormTool(tool); form != "" {
			t.Errorf("form of %+v: %q", tool, form)
		}
		if turn := impl.Next(tool, "", nil); turn != (impl.Turn{}) {
			t.Errorf("run of %+v: %+v", tool, turn)
		}
	}
}

func TestValidResult(t *testing.T) {
	name := xs(impl.MaxName)
	for code, texts := range map[int][]string{
		impl.Done:    {"", "x", "\x00 \xff", xs(impl.MaxText)},
		impl.Failed:  {"", "why not", xs(impl.MaxText)},
		impl.Broken:  {"0", "7", "39", "40"},
		impl.Spent:   {""},
		impl.Missing: {"?", "a", "!~", name},
		impl.Below:   {"?", "a", "!~", name},
		impl.NoTool:  {"?", "a", "!~", name},
	} {
		for _, text := range texts {
			if !impl.ValidResult(impl.Result{Code: code, Text: text}) {
				t.Errorf("%d %q is valid", code, text)
			}
		}
	}
	for code, texts := range map[int][]string{
		impl.Done:       {xs(impl.MaxText + 1)},
		impl.Failed:     {xs(impl.MaxText + 1)},
		impl.Broken:     {"", "41", "00", "01", "-1", "+1", " 1", "1 ", "x", "18446744073709551616", xs(impl.MaxText + 1)},
		impl.Spent:      {"x", " ", "0"},
		impl.Missing:    {"", " ", "a b", "a\n", "\x7f", "\x80", "\x20", name + "x"},
		impl.Below:      {"", " ", "a b", "a\n", "\x7f", "\x80", "\x20", name + "x"},
		impl.NoTool:     {"", " ", "a b", "a\n", "\x7f", "\x80", "\x20", name + "x"},
		impl.Circle:     {"", "a"},
		impl.NoTool + 1: {"", "a"},
		-1:              {"", "a"},
	} {
		for _, text := range texts {
			if impl.ValidResult(impl.Result{Code: code, Text: text}) {
				t.Errorf("%d %q is not valid", code, text)
			}
		}
	}
}

// toolOf reads a tool whose lines stand with "; " between.
func toolOf(t *testing.T, lines string) impl.Tool {
	t.Helper()
	tool, ok := impl.ReadTool(strings.ReplaceAll(lines, "; ", "\n") + "\n")
	if !ok {
		t.Fatalf("no tool: %s", lines)
	}
	return tool
}

func over(code int, text string, steps int) impl.Turn {
	return impl.Turn{Over: true, Result: impl.Result{Code: code, Text: text}, Steps: steps}
}

func stop(has bool, name string, steps int) impl.Turn {
	return impl.Turn{Has: has, Name: name, Steps: steps}
}

func done(texts ...string) []impl.Result {
	var replies []impl.Result
	for _, text := range texts {
		replies = append(replies, impl.Result{Text: text})
	}
	return replies
}

func coded(code int, text string) []impl.Result {
	return []impl.Result{{Code: code, Text: text}}
}

type runCase struct {
	tool, arg string
	replies   []impl.Result
	want      impl.Turn
}

func checkRuns(t *testing.T, cases []runCase) {
	t.Helper()
	for _, c := range cases {
		if got := impl.Next(toolOf(t, c.tool), c.arg, c.replies); got != c.want {
			t.Errorf("%s of %q with %+v: %+v, want %+v", c.tool, c.arg, c.replies, got, c.want)
		}
	}
}

func TestInstructions(t *testing.T) {
	checkRuns(t, []runCase{
		{"end", "x", nil, over(impl.Done, "", 1)},
		{"fail", "x", nil, over(impl.Failed, "", 1)},
		{"put; end", "x", nil, over(impl.Done, "", 2)},
		{"arg; fail", "x", nil, over(impl.Failed, "x", 2)},
		{"arg; put; lit \"y\"; put; put; fail", "x", nil, over(impl.Failed, "y", 6)},
		{"arg; put; lit \"y\"; put; put; end", "x", nil, over(impl.Done, "xyy", 6)},
		{"arg; cat \"y\"; cat \"\"; cat \"z\"; put; end", "x", nil, over(impl.Done, "xyz", 6)},
		{"arg; if 3 \"x\"; end; fail", "x", nil, over(impl.Failed, "x", 3)},
		{"arg; if 3 \"x\"; end; fail", "xx", nil, over(impl.Done, "", 3)},
		{"if 2 \"\"; end; fail", "", nil, over(impl.Failed, "", 2)},
		{"go 2; end; fail", "", nil, over(impl.Failed, "", 2)},
		{"arg; if 0 \"y\"; end", "x", nil, over(impl.Done, "", 3)},
	})
}

func TestLines(t *testing.T) {
	for _, c := range []struct {
		arg, line, want string
	}{
		{"a\nbc\nd", "0", "a"}, {"a\nbc\nd", "1", "bc"}, {"a\nbc\nd", "2", "d"}, {"a\nbc\nd", "3", ""}, {"a\nbc\nd", "40", ""},
		{"a\n", "0", "a"}, {"a\n", "1", ""}, {"\na", "0", ""}, {"\na", "1", "a"}, {"\n\n", "1", ""}, {"a\r\nb", "0", "a\r"},
		{"", "0", ""}, {"", "1", ""}, {"abc", "0", "abc"}, {"abc", "1", ""},
		{strings.Repeat("\n", 40) + "z", "40", "z"},
	} {
		tool := toolOf(t, "arg; line "+c.line+"; put; end")
		if got := impl.Next(tool, c.arg, nil); got != over(impl.Done, c.want, 4) {
			t.Errorf("line %s of %q: %+v", c.line, c.arg, got)
		}
	}
}

func TestReplies(t *testing.T) {
	ask, has := "arg; ask; put; end", "arg; has; put; end"
	checkRuns(t, []runCase{
		{ask, "a", nil, stop(false, "a", 2)},
		{ask, "a", done(""), over(impl.Done, "", 4)},
		{ask, "a", done(xs(impl.MaxText)), over(impl.Done, xs(impl.MaxText), 4)},
		{ask, "a", coded(impl.Missing, "b"), over(impl.Missing, "a", 2)},
		{ask, "a", coded(impl.Missing, "?"), over(impl.Missing, "a", 2)},
		{ask, "a", coded(impl.Failed, "b"), over(impl.Below, "a", 2)},
		{ask, "a", coded(impl.Broken, "3"), over(impl.Below, "a", 2)},
		{ask, "a", coded(impl.Spent, ""), over(impl.Below, "a", 2)},
		{ask, "a", coded(impl.Below, "b"), over(impl.Below, "a", 2)},
		{ask, "a", coded(impl.NoTool, "b"), over(impl.Below, "a", 2)},
		{has, "a", nil, stop(true, "a", 2)},
		{has, "a", done("x"), over(impl.Done, "1", 4)},
		{has, "a", coded(impl.Missing, "b"), over(impl.Done, "0", 4)},
		{has, "a", coded(impl.Failed, ""), over(impl.Done, "1", 4)},
		{has, "a", coded(impl.Broken, "0"), over(impl.Done, "1", 4)},
		{has, "a", coded(impl.Spent, ""), over(impl.Done, "1", 4)},
		{has, "a", coded(impl.Below, "b"), over(impl.Done, "1", 4)},
		{has, "a", coded(impl.NoTool, "b"), over(impl.Done, "1", 4)},
	})
}

func TestEachBeginningOfTheReplies(t *testing.T) {
	tool := "lit \"a\"; ask; put; has; put; lit \"b\"; ask; put; ask; put; end"
	replies := append(done("one", "x"), done("two", "three", "not asked for")...)
	wants := []impl.Turn{
		stop(false, "a", 2),
		stop(true, "one", 4),
		stop(false, "b", 7),
		stop(false, "two", 9),
		over(impl.Done, "one1twothree", 11),
		over(impl.Done, "one1twothree", 11),
	}
	for i, want := range wants {
		checkRuns(t, []runCase{{tool, "", replies[:i], want}})
	}
}

func randomReply(r *rand.Rand) impl.Result {
	switch r.Intn(12) {
	case 0:
		return impl.Result{Code: impl.Missing, Text: "m"}
	case 1:
		return impl.Result{Code: impl.Spent}
	}
	return impl.Result{Text: []string{"a", "b c", "b", "", "x\ny"}[r.Intn(5)]}
}

// lookingTool is a tool that is likely to look.
func lookingTool(r *rand.Rand) impl.Tool {
	var tool impl.Tool
	for range 3 + r.Intn(12) {
		in := impl.Ins{Op: []int{impl.InLit, impl.InAsk, impl.InHas, impl.InPut, impl.InCat, impl.InIf, impl.InGo, impl.InEnd}[r.Intn(8)]}
		if in.Op == impl.InLit || in.Op == impl.InCat || in.Op == impl.InIf {
			in.Text = []string{"a", "b", "n"}[r.Intn(3)]
		}
		if in.Op == impl.InIf || in.Op == impl.InGo {
			in.To = r.Intn(16)
		}
		tool.Code = append(tool.Code, in)
	}
	return tool
}

func TestFewerAndMoreReplies(t *testing.T) {
	r := rand.New(rand.NewSource(3))
	stops := 0
	for range 5000 {
		tool := lookingTool(r)
		var replies []impl.Result
		for range impl.MaxLooks - 1 {
			replies = append(replies, randomReply(r))
		}
		whole := impl.Next(tool, "a", replies)
		if !whole.Over {
			t.Fatalf("%+v is not over with all replies: %+v", tool, whole)
		}
		steps, ended := 0, false
		for n := range impl.MaxLooks {
			turn := impl.Next(tool, "a", replies[:n])
			ended = ended || turn.Over
			if ended && turn != whole {
				t.Fatalf("%+v with %d replies: %+v, with all %+v", tool, n, turn, whole)
			}
			if !ended && (turn.Name == "" || turn.Result != (impl.Result{}) || turn.Steps <= steps || turn.Steps > whole.Steps) {
				t.Fatalf("%+v with %d replies: %+v, with all %+v", tool, n, turn, whole)
			}
			if !ended {
				stops++
			}
			steps = turn.Steps
		}
	}
	if stops < 1000 {
		t.Errorf("only %d stops", stops)
	}
}

func TestRepliesAreLookedAt(t *testing.T) {
	tool := toolOf(t, "arg; put; end")
	most := make([]impl.Result, impl.MaxLooks-1)
	if got := impl.Next(tool, "x", most); got != over(impl.Done, "x", 3) {
		t.Errorf("MaxLooks - 1 replies: %+v", got)
	}
	if got := impl.Next(tool, "x", append(most, impl.Result{})); got != (impl.Turn{}) {
		t.Errorf("one more: %+v", got)
	}
	for _, wrong := range []impl.Result{
		{Code: impl.Circle}, {Code: 8}, {Code: -1}, {Code: impl.Spent, Text: "x"}, {Code: impl.Missing}, {Code: impl.Below, Text: "a b"},
		{Code: impl.NoTool}, {Code: impl.Broken}, {Code: impl.Broken, Text: "41"}, {Text: xs(impl.MaxText + 1)},
	} {
		if got := impl.Next(tool, "x", []impl.Result{{}, wrong}); got != (impl.Turn{}) {
			t.Errorf("reply %+v: %+v", wrong, got)
		}
	}
}

func TestArgLimit(t *testing.T) {
	checkRuns(t, []runCase{
		{"arg; put; end", xs(impl.MaxText), nil, over(impl.Done, xs(impl.MaxText), 3)},
		{"arg; put; end", xs(impl.MaxText + 1), nil, impl.Turn{}},
	})
}

func TestHandThatIsNoName(t *testing.T) {
	for _, op := range []string{"ask", "has"} {
		for _, hand := range []string{"", " ", "a b", "a\n", "\x20", "\x7f", "\x80", xs(impl.MaxName + 1), xs(impl.MaxText)} {
			for _, replies := range [][]impl.Result{nil, done("v"), coded(impl.Missing, "m")} {
				checkRuns(t, []runCase{{"arg; " + op + "; end", hand, replies, over(impl.Missing, "?", 2)}})
			}
		}
		for _, hand := range []string{"\x21", "\x7e", "?", xs(impl.MaxName)} {
			checkRuns(t, []runCase{{"arg; " + op + "; end", hand, nil, stop(op == "has", hand, 2)}})
		}
	}
}

func TestGrowing(t *testing.T) {
	checkRuns(t, []runCase{
		{"arg; put; put; end", xs(150), nil, over(impl.Done, xs(300), 4)},
		{"arg; put; put; cat \"x\"; end", xs(150), nil, over(impl.Done, xs(300), 5)},
		{"arg; put; put; lit \"x\"; put; end", xs(150), nil, over(impl.Broken, "4", 5)},
		{"arg; put; put; lit \"\"; put; end", xs(150), nil, over(impl.Done, xs(300), 6)},
		{"arg; put; put; end", xs(151), nil, over(impl.Broken, "2", 3)},
		{"arg; cat \"x\"; fail", xs(299), nil, over(impl.Failed, xs(300), 3)},
		{"arg; cat \"\"; fail", xs(300), nil, over(impl.Failed, xs(300), 3)},
		{"arg; cat \"x\"; fail", xs(300), nil, over(impl.Broken, "1", 2)},
	})
}

func TestNoInstructionThere(t *testing.T) {
	checkRuns(t, []runCase{
		{"arg", "x", nil, over(impl.Broken, "1", 1)},
		{"go 1", "x", nil, over(impl.Broken, "1", 1)},
		{"go 40", "x", nil, over(impl.Broken, "40", 1)},
		{"if 7 \"\"; end", "x", nil, over(impl.Broken, "7", 1)},
		{"lit \"a\"; ask", "x", nil, stop(false, "a", 2)},
		{"lit \"a\"; ask", "x", done("v"), over(impl.Broken, "2", 2)},
	})
	whole := impl.Tool{Code: slices.Repeat([]impl.Ins{{Op: impl.InArg}}, impl.MaxIns)}
	if got := impl.Next(whole, "x", nil); got != over(impl.Broken, "40", 40) {
		t.Errorf("behind the last of MaxIns: %+v", got)
	}
}

// afterSteps is a tool that begins just so many steps ahead of the first line of tail, which then stands at the place told; its hand is no name then.
func afterSteps(t *testing.T, steps int, tail string) (impl.Tool, int) {
	t.Helper()
	rounds := (steps + 1) / 3
	ahead := steps + 1 - 3*rounds
	place := ahead + 3
	lines := strings.Repeat("lit \"\"; ", ahead) + "cat \"x\"; if " + strconv.Itoa(place) + " \"" + xs(rounds) + "\"; go " + strconv.Itoa(ahead)
	if tail != "" {
		lines += "; " + tail
	}
	return toolOf(t, lines), place
}

func TestStepLimit(t *testing.T) {
	last := impl.MaxSteps
	for _, c := range []struct {
		steps   int
		tail    string
		replies []impl.Result
		want    impl.Turn
	}{
		{last - 1, "end", nil, over(impl.Done, "", last)},
		{last, "end", nil, over(impl.Spent, "", last)},
		{last - 1, "fail", nil, over(impl.Failed, xs(66), last)},
		{last, "fail", nil, over(impl.Spent, "", last)},
		{last - 1, "ask", nil, over(impl.Missing, "?", last)},
		{last, "ask", nil, over(impl.Spent, "", last)},
		{last, "has", nil, over(impl.Spent, "", last)},
		{last - 2, "lit \"a\"; ask; end", nil, stop(false, "a", last)},
		{last - 2, "lit \"a\"; has; end", nil, stop(true, "a", last)},
		{last - 2, "lit \"a\"; ask; end", done("v"), over(impl.Spent, "", last)},
		{last - 2, "lit \"a\"; ask; end", coded(impl.Spent, ""), over(impl.Below, "a", last)},
		{last - 1, "lit \"a\"; ask; end", nil, over(impl.Spent, "", last)},
		{last - 1, "lit \"a\"; ask; end", done("v"), over(impl.Spent, "", last)},
	} {
		tool, _ := afterSteps(t, c.steps, c.tail)
		if got := impl.Next(tool, "", c.replies); got != c.want {
			t.Errorf("%q behind %d steps: %+v, want %+v", c.tail, c.steps, got, c.want)
		}
	}
}

func TestBrokenPlaceAheadOfSpent(t *testing.T) {
	for _, steps := range []int{impl.MaxSteps - 1, impl.MaxSteps} {
		tool, place := afterSteps(t, steps, "")
		if got := impl.Next(tool, "", nil); got != over(impl.Broken, strconv.Itoa(place), steps) {
			t.Errorf("no instruction behind %d steps: %+v", steps, got)
		}
	}
	tool, place := afterSteps(t, impl.MaxSteps-1, "go 40")
	if got := impl.Next(tool, "", nil); got != over(impl.Broken, "40", impl.MaxSteps) {
		t.Errorf("a jump in the last step: %+v", got)
	}
	tool, place = afterSteps(t, impl.MaxSteps-1, "end")
	tool.Code[place] = impl.Ins{Op: impl.InCat, Text: xs(impl.MaxText)}
	if got := impl.Next(tool, "", nil); got != over(impl.Broken, strconv.Itoa(place), impl.MaxSteps) {
		t.Errorf("too long in the last step: %+v", got)
	}
	tool, place = afterSteps(t, impl.MaxSteps, "end")
	tool.Code[place] = impl.Ins{Op: impl.InCat, Text: xs(impl.MaxText)}
	if got := impl.Next(tool, "", nil); got != over(impl.Spent, "", impl.MaxSteps) {
		t.Errorf("too long in a step that is not begun: %+v", got)
	}
}

func TestLookLimit(t *testing.T) {
	most := impl.MaxLooks - 1
	replies := done(slices.Repeat([]string{"a"}, most)...)
	for _, op := range []string{"ask", "has"} {
		loop := "arg; " + op + "; go 0"
		for n := range most {
			checkRuns(t, []runCase{{loop, "a", replies[:n], stop(op == "has", "a", 3*n+2)}})
		}
		checkRuns(t, []runCase{{loop, "a", replies, over(impl.Spent, "", 3*most+2)}})
	}
	// Behind the last look that is allowed a hand that is no name is still Missing, not Spent.
	toNoName := append(done(slices.Repeat([]string{"a"}, most-1)...), done("no name")...)
	checkRuns(t, []runCase{
		{"arg; ask; go 1", "a", replies, over(impl.Spent, "", 2*most+2)},
		{"arg; ask; go 1", "a", toNoName, over(impl.Missing, "?", 2*most+2)},
		{"arg; ask; if 4 \"no name\"; go 1; end", "a", toNoName, over(impl.Done, "", 3*most+1)},
	})
}

func TestNextLeavesItsArguments(t *testing.T) {
	tool := toolOf(t, "arg; ask; put; has; put; end")
	replies := make([]impl.Result, 2, 5)
	replies[0].Text = "a"
	code, given := slices.Clone(tool.Code), slices.Clone(replies[:5])
	first := impl.Next(tool, "x", replies)
	if first != over(impl.Done, "a1", 6) || first != impl.Next(tool, "x", replies) {
		t.Errorf("%+v", first)
	}
	if !reflect.DeepEqual(code, tool.Code) || !reflect.DeepEqual(given, replies[:5]) {
		t.Error("an argument has changed")
	}
}

func TestToolWithoutFormRuns(t *testing.T) {
	tool := impl.Tool{Code: []impl.Ins{{Op: impl.InLit, Text: xs(impl.MaxText)}, {Op: impl.InPut}, {Op: impl.InEnd}}}
	if got := impl.Next(tool, "", nil); got != over(impl.Done, xs(impl.MaxText), 3) {
		t.Errorf("%+v", got)
	}
}
