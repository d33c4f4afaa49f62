package tests

import (
	"fmt"
	"math/rand"
	"reflect"
	"slices"
	"strconv"
	"strings"
	"testing"

	"loop.example/kiln/impl"
)

func epochEntry(epoch int) impl.Entry {
	return impl.Entry{Kind: impl.EntEpoch, Epoch: epoch}
}

func fileEntry(name, text string) impl.Entry {
	return impl.Entry{Kind: impl.EntFile, File: impl.File{Name: name, Text: text}}
}

func dropEntry(name string) impl.Entry {
	return impl.Entry{Kind: impl.EntDrop, File: impl.File{Name: name}}
}

func ranEntry(m impl.Make, looks []impl.Look, r impl.Result) impl.Entry {
	return impl.Entry{Kind: impl.EntRan, Make: m, Looks: looks, Result: r}
}

func clearEntry() impl.Entry {
	return impl.Entry{Kind: impl.EntClear}
}

// allLooks are looks of both sorts with all codes that a look may have, and their lines.
var allLooks = []struct {
	look impl.Look
	line string
}{
	{asked("a", res(impl.Done, "")), `ask a 0 ""`},
	{found("a"), `has a 0 ""`},
	{unfound("a"), `has a 4 "a"`},
	{asked("ask", res(impl.Done, "gave 0 \"\"\nhas a 0")), `ask ask 0 "gave 0 \22\22\0ahas a 0"`},
	{asked("\"", res(impl.Failed, "\x00\x1f \"\\~\x7f\xff")), `ask " 1 "\00\1f \22\5c~\7f\ff"`},
	{unfound("\\"), `has \ 4 "\5c"`},
	{asked("b", res(impl.Broken, "40")), `ask b 2 "40"`},
	{asked("b", res(impl.Spent, "")), `ask b 3 ""`},
	{asked("b", res(impl.Missing, "?")), `ask b 4 "?"`},
	{asked("b", res(impl.Missing, "z")), `ask b 4 "z"`},
	{asked("b", res(impl.Below, "0")), `ask b 5 "0"`},
	{asked("b", res(impl.NoTool, "\"")), `ask b 7 "\22"`},
	{asked(xs(impl.MaxName), res(impl.Done, xs(impl.MaxText))), "ask " + xs(impl.MaxName) + ` 0 "` + xs(impl.MaxText) + `"`},
	{unfound(xs(impl.MaxName)), "has " + xs(impl.MaxName) + ` 4 "` + xs(impl.MaxName) + `"`},
	{found("has"), `has has 0 ""`},
}

// looksAndLines are the first of allLooks, with their lines.
func looksAndLines(n int) ([]impl.Look, string) {
	var looks []impl.Look
	lines := ""
	for _, l := range allLooks[:n] {
		looks = append(looks, l.look)
		lines += l.line + "\n"
	}
	return looks, lines
}

type writtenEntry struct {
	e    impl.Entry
	form string
}

// entryForms are entries of all Kinds with their forms.
func entryForms() []writtenEntry {
	longMake := impl.Make{Name: xs(impl.MaxName), Tool: xs(impl.MaxName), Arg: xs(impl.MaxText)}
	forms := []writtenEntry{
		{epochEntry(1), "epoch 1\n"}, {epochEntry(9), "epoch 9\n"}, {epochEntry(10), "epoch 10\n"}, {epochEntry(impl.MaxEpoch), "epoch 200\n"},
		{fileEntry("a", ""), "file a \"\"\n"}, {fileEntry("plan", "make x cat \"a\"\n"), "file plan \"make x cat \\22a\\22\\0a\"\n"}, {fileEntry("\"", "\" \\\x00\xff"), "file \" \"\\22 \\5c\\00\\ff\"\n"},
		{fileEntry(xs(impl.MaxName), xs(impl.MaxText)), "file " + xs(impl.MaxName) + " \"" + xs(impl.MaxText) + "\"\n"},
		{dropEntry("a"), "drop a\n"}, {dropEntry("drop"), "drop drop\n"}, {dropEntry(xs(impl.MaxName)), "drop " + xs(impl.MaxName) + "\n"},
		{clearEntry(), "clear\n"},
		{ranEntry(catRun, nil, impl.Result{}), "ran x cat \"a\"\ngave 0 \"\"\n"},
		{ranEntry(impl.Make{Name: "ran", Tool: "\"", Arg: "\n \""}, []impl.Look{}, res(impl.Missing, "\"")), "ran ran \" \"\\0a \\22\"\ngave 4 \"\\22\"\n"},
		{ranEntry(longMake, nil, res(impl.Failed, xs(impl.MaxText))), "ran " + xs(impl.MaxName) + " " + xs(impl.MaxName) + " \"" + xs(impl.MaxText) + "\"\ngave 1 \"" + xs(impl.MaxText) + "\"\n"},
	}
	for _, c := range []struct {
		r    impl.Result
		gave string
	}{
		{res(impl.Done, "v\n"), `0 "v\0a"`}, {res(impl.Failed, "why"), `1 "why"`}, {res(impl.Broken, "0"), `2 "0"`}, {res(impl.Spent, ""), `3 ""`},
		{res(impl.Missing, "?"), `4 "?"`}, {res(impl.Below, "b"), `5 "b"`}, {res(impl.NoTool, "cat"), `7 "cat"`},
	} {
		for _, n := range []int{0, 1, 2, 6, impl.MaxLooks} {
			looks, lines := looksAndLines(n)
			forms = append(forms, writtenEntry{ranEntry(catRun, looks, c.r), "ran x cat \"a\"\n" + lines + "gave " + c.gave + "\n"})
		}
	}
	return forms
}

func sameEntry(a, b impl.Entry) bool {
	looks := slices.Equal(a.Looks, b.Looks)
	a.Looks, b.Looks = nil, nil
	return looks && reflect.DeepEqual(a, b)
}

func checkEntry(t *testing.T, e impl.Entry, form string) {
	t.Helper()
	before := slices.Clone(e.Looks)
	if got := impl.FormEntry(e); got != form {
		t.Errorf("form of %+v: %q, want %q", e, got, form)
	}
	if got, ok := impl.ReadEntry(form); !ok || !sameEntry(got, e) {
		t.Errorf("read of %q: %+v %v", form, got, ok)
	}
	if !slices.Equal(e.Looks, before) {
		t.Errorf("%q: the looks have changed", form)
	}
}

func TestEntryForms(t *testing.T) {
	if len(allLooks) != impl.MaxLooks {
		t.Fatal(len(allLooks))
	}
	for _, c := range entryForms() {
		checkEntry(t, c.e, c.form)
	}
}

// slowQuote writes a text in quotes, byte by byte.
func slowQuote(text string) string {
	q := ""
	for _, b := range []byte(text) {
		if b < 32 || b > 126 || strings.ContainsRune(`"\`, rune(b)) {
			q += fmt.Sprintf("\\%02x", b)
		} else {
			q += string(rune(b))
		}
	}
	return `"` + q + `"`
}

func slowLines(looks []impl.Look) string {
	lines := ""
	for _, look := range looks {
		word := map[bool]string{false: "ask", true: "has"}[look.Has]
		lines += fmt.Sprintf("%s %s %d %s\n", word, look.Name, look.Result.Code, slowQuote(look.Result.Text))
	}
	return lines
}

func slowEntry(e impl.Entry) string {
	switch e.Kind {
	case impl.EntEpoch:
		return fmt.Sprintf("epoch %d\n", e.Epoch)
	case impl.EntFile:
		return fmt.Sprintf("file %s %s\n", e.File.Name, slowQuote(e.File.Text))
	case impl.EntDrop:
		return fmt.Sprintf("drop %s\n", e.File.Name)
	case impl.EntRan:
		return fmt.Sprintf("ran %s %s %s\n%sgave %d %s\n", e.Make.Name, e.Make.Tool, slowQuote(e.Make.Arg), slowLines(e.Looks), e.Result.Code, slowQuote(e.Result.Text))
	}
	return "clear\n"
}

func randomText(r *rand.Rand, most int) string {
	text := make([]byte, r.Intn(most+1))
	for i := range text {
		text[i] = byte(r.Intn(256))
	}
	return string(text)
}

func randomName(r *rand.Rand) string {
	name := make([]byte, 1+r.Intn(impl.MaxName))
	for i := range name {
		name[i] = byte(33 + r.Intn(94))
	}
	return string(name)
}

func randomMake(r *rand.Rand) impl.Make {
	return impl.Make{Name: randomName(r), Tool: randomName(r), Arg: randomText(r, impl.MaxText)}
}

func randomResult(r *rand.Rand) impl.Result {
	switch code := []int{impl.Done, impl.Failed, impl.Broken, impl.Spent, impl.Missing, impl.Below, impl.NoTool}[r.Intn(7)]; code {
	case impl.Done, impl.Failed:
		return res(code, randomText(r, impl.MaxText))
	case impl.Broken:
		return res(code, strconv.Itoa(r.Intn(impl.MaxIns+1)))
	case impl.Spent:
		return res(code, "")
	default:
		return res(code, randomName(r))
	}
}

func randomLooks(r *rand.Rand) []impl.Look {
	var looks []impl.Look
	for range r.Intn(impl.MaxLooks + 1) {
		switch name := randomName(r); r.Intn(4) {
		case 0:
			looks = append(looks, found(name))
		case 1:
			looks = append(looks, unfound(name))
		default:
			looks = append(looks, asked(name, randomResult(r)))
		}
	}
	return looks
}

func randomEntry(r *rand.Rand) impl.Entry {
	switch 1 + r.Intn(5) {
	case impl.EntEpoch:
		return epochEntry(1 + r.Intn(impl.MaxEpoch))
	case impl.EntFile:
		return fileEntry(randomName(r), randomText(r, impl.MaxText))
	case impl.EntDrop:
		return dropEntry(randomName(r))
	case impl.EntRan:
		return ranEntry(randomMake(r), randomLooks(r), randomResult(r))
	}
	return clearEntry()
}

func TestReadOfFormGivesTheEntry(t *testing.T) {
	r := rand.New(rand.NewSource(12))
	for range 3000 {
		e := randomEntry(r)
		checkEntry(t, e, slowEntry(e))
	}
}

// TestGreatestEntry: no entry comes up to MaxBytes, so the greatest one has a form.
func TestGreatestEntry(t *testing.T) {
	most := strings.Repeat("\xff", impl.MaxText)
	name := xs(impl.MaxName)
	looks := slices.Repeat([]impl.Look{asked(name, res(impl.Done, most))}, impl.MaxLooks)
	e := ranEntry(impl.Make{Name: name, Tool: name, Arg: most}, looks, res(impl.Failed, most))
	checkEntry(t, e, slowEntry(e))
	form := impl.FormEntry(e)
	if len(form) != 15809 || len(form) > impl.MaxBytes {
		t.Errorf("%d bytes", len(form))
	}
	checkNotRead(t, strings.Replace(form, "gave", "ask "+name+" 0 \"\"\ngave", 1))
	for n := impl.MaxBytes - 1; n <= impl.MaxBytes+1; n++ {
		checkNotRead(t, form+strings.Repeat("\n", n-len(form)))
		checkNotRead(t, "file a \""+xs(n-10)+"\"\n")
		checkNotRead(t, strings.Repeat("x", n))
		checkNotRead(t, strings.Repeat("\n", n))
	}
}

func checkNotRead(t *testing.T, s string) {
	t.Helper()
	if e, ok := impl.ReadEntry(s); ok || !reflect.DeepEqual(e, impl.Entry{}) {
		t.Errorf("read of %q: %+v %v", s, e, ok)
	}
}

// checkReadEntry asks that a text that is read is the form of what was read.
func checkReadEntry(t *testing.T, s string) bool {
	t.Helper()
	e, ok := impl.ReadEntry(s)
	if ok && (impl.FormEntry(e) != s || slowEntry(e) != s) || !ok && !reflect.DeepEqual(e, impl.Entry{}) {
		t.Errorf("read of %q: %+v %v", s, e, ok)
	}
	return ok
}

// neighbours are the texts that differ from one in a byte that is changed, taken out or put in.
func neighbours(text string, bytes []byte, check func(s string)) {
	for i := range len(text) + 1 {
		check(text[:i])
		for _, b := range bytes {
			check(text[:i] + string([]byte{b}) + text[i:])
		}
		if i == len(text) {
			return
		}
		check(text[:i] + text[i+1:])
		for _, b := range bytes {
			if b != text[i] {
				check(text[:i] + string([]byte{b}) + text[i+1:])
			}
		}
	}
}

func allBytes() []byte {
	var bytes []byte
	for b := range 256 {
		bytes = append(bytes, byte(b))
	}
	return bytes
}

func TestReadEntryReadsNothingElse(t *testing.T) {
	some := []byte("\x00\t\n\r !\"\\+-0123456789:Aacdefghknopsv~\x7f\x80\xff")
	read, refused := 0, 0
	for _, c := range entryForms() {
		if len(c.form) > 250 {
			continue
		}
		bytes := some
		if len(c.form) < 60 {
			bytes = allBytes()
		}
		neighbours(c.form, bytes, func(s string) {
			if checkReadEntry(t, s) {
				read++
			} else {
				refused++
			}
		})
	}
	if read < 1000 || refused < 10000 {
		t.Errorf("%d read, %d refused", read, refused)
	}
}

// TestEntryLinesInAnotherOrder takes lines out, doubles them and changes their order.
func TestEntryLinesInAnotherOrder(t *testing.T) {
	for _, c := range entryForms() {
		if !strings.HasPrefix(c.form, "ran ") {
			continue
		}
		lines := strings.SplitAfter(strings.TrimSuffix(c.form, "\n"), "\n")
		lines[len(lines)-1] += "\n"
		for _, i := range []int{0, len(lines) - 1} {
			checkNotRead(t, strings.Join(slices.Delete(slices.Clone(lines), i, i+1), ""))
			checkNotRead(t, strings.Join(slices.Insert(slices.Clone(lines), i, lines[i]), ""))
			checkNotRead(t, strings.Join(slices.Insert(slices.Clone(lines), i, "\n"), ""))
			checkNotRead(t, strings.Join(slices.Insert(slices.Clone(lines), i, "clear\n"), ""))
		}
		checkNotRead(t, c.form+lines[len(lines)-1])
		checkNotRead(t, c.form+"\n")
		checkNotRead(t, c.form+c.form)
		checkNotRead(t, c.form+allLooks[0].line+"\n")
		for i := range len(lines) - 1 {
			turned := slices.Clone(lines)
			turned[i], turned[i+1] = turned[i+1], turned[i]
			checkReadEntry(t, strings.Join(turned, ""))
		}
	}
}

func TestAlmostEntries(t *testing.T) {
	almost := []string{
		"", "\n", " ", " \n", "x", "x\n", "\x00", "entry\n", "1\n", "gave 0 \"\"\n", "ask a 0 \"\"\n", "has a 0 \"\"\n",
		"clear", "clear \n", " clear\n", "clear\n\n", "\nclear\n", "clear\r\n", "Clear\n", "clear 1\n", "clear \"\"\n", "clear\nclear\n", "clear\nclear", "clears\n", "clea\n",
		"epoch\n", "epoch \n", "epoch 1", "epoch 1 \n", "epoch  1\n", " epoch 1\n", "epoch 1\n\n", "epoch 1\nepoch 2\n", "epoch 0\n", "epoch 00\n", "epoch 01\n", "epoch +1\n", "epoch -1\n", "epoch 201\n", "epoch 1.0\n", "epoch 0x1\n", "epoch \"1\"\n", "epoch 1 1\n",
		"epoch 18446744073709551617\n", "epoch 4294967297\n", "epoch 99999999999999999999999\n", "epoch one\n", "epoch\t1\n", "epoch1\n", "epoch 1\x00\n", "epoch 1\r\n",
		"file\n", "file \n", "file a\n", "file a \n", "file a \"\"", "file a \"\"\n\n", "file a \"\" \n", "file  a \"\"\n", "file a  \"\"\n", "file  \"\"\n", "file \"\"\n", "file a x\n", "file a \"\n", "file a \"x\n", "file a x\"\n", "file a \"\"\"\n",
		"file a b \"\"\n", "file a \"\\41\"\n", "file a \"\\0A\"\n", "file a \"\\a\"\n", "file a \"\\\"\n", "file a \"\\\"\"\n", "file a \"\\n\"\n", "file a \"\t\"\n", "file a \"\n\"\n", "file a \"\x7f\"\n", "file a \"\\7e\"\n", "file a \"\\20\"\n", "file é \"\"\n", "file a 'x'\n",
		"file " + xs(impl.MaxName+1) + " \"\"\n", "file a \"" + xs(impl.MaxText+1) + "\"\n", "file a \"" + strings.Repeat("\\0a", impl.MaxText+1) + "\"\n", "file a \"\"\nclear\n",
		"drop\n", "drop \n", "drop a", "drop a \n", "drop  a\n", "drop a\n\n", "drop a b\n", "drop a \"\"\n", "drop é\n", "drop \x7f\n", "drop " + xs(impl.MaxName+1) + "\n", "drop a\ndrop b\n", "drop\na\n",
	}
	ran := func(first, looks, gave string) string { return first + "\n" + looks + gave + "\n" }
	for _, first := range []string{"ran", "ran ", "ran x", "ran x cat", "ran x cat ", "ran x cat a", "ran x cat \"", "ran x cat \"a\" ", "ran x  cat \"a\"", "ran  x cat \"a\"", "ran x cat  \"a\"", "ran  cat \"a\"", "ran x  \"a\"", "ran x cat dog \"a\"", "ran x \"a\"", "Ran x cat \"a\"", "run x cat \"a\"",
		"ran x cat \"\\61\"", "ran x cat \"" + xs(impl.MaxText+1) + "\"", "ran " + xs(impl.MaxName+1) + " cat \"a\"", "ran x " + xs(impl.MaxName+1) + " \"a\"", "ran é cat \"a\"", "make x cat \"a\"", "", "ran x cat \"a\"\n", "ran x cat \"a\"\nran x cat \"a\"", "\nran x cat \"a\"", "clear"} {
		almost = append(almost, ran(first, "", "gave 0 \"\""), ran(first, "ask a 0 \"\"\n", "gave 0 \"\""))
	}
	for _, gave := range []string{"", "gave", "gave ", "gave 0", "gave 0 ", "gave 0 x", "gave \"\"", "gave 0 \"\" ", "gave  0 \"\"", "gave 0  \"\"", "gave  \"\"", " gave 0 \"\"", "give 0 \"\"", "Gave 0 \"\"", "gave 00 \"\"", "gave +0 \"\"", "gave -0 \"\"", "gave 6 \"\"", "gave 8 \"\"", "gave 10 \"\"", "gave a 0 \"\"",
		"gave 0 \"" + xs(impl.MaxText+1) + "\"", "gave 2 \"\"", "gave 2 \"01\"", "gave 2 \"41\"", "gave 3 \"x\"", "gave 4 \"\"", "gave 5 \"\"", "gave 5 \"a b\"", "gave 7 \"" + xs(impl.MaxName+1) + "\"", "gave 0 \"\\41\"", "gave 0 \"\"\n", "gave 0 \"\"\ngave 0 \"\"", "gave 0 \"\"\nask a 0 \"\"", "ask a 0 \"\"", "over 0 \"\"", "gave 18446744073709551616 \"\""} {
		almost = append(almost, ran("ran x cat \"a\"", "", gave), ran("ran x cat \"a\"", "has a 0 \"\"\n", gave))
	}
	for _, look := range wrongLookLines() {
		for _, looks := range []string{look + "\n", look + "\nask a 0 \"\"\n", "has a 0 \"\"\n" + look + "\n"} {
			almost = append(almost, ran("ran x cat \"a\"", looks, "gave 0 \"\""))
		}
	}
	most, lines := looksAndLines(impl.MaxLooks)
	almost = append(almost, ran("ran x cat \"a\"", lines+"ask a 0 \"\"\n", "gave 0 \"\""), "ran x cat \"a\"\ngave 0 \"\"", "ran x cat \"a\"\n", "ran x cat \"a\"\n"+lines)
	for _, s := range almost {
		checkNotRead(t, s)
	}
	checkEntry(t, ranEntry(catRun, most, impl.Result{}), ran("ran x cat \"a\"", lines, "gave 0 \"\""))
}

// wrongLookLines are lines that are almost those of looks.
func wrongLookLines() []string {
	return []string{
		"", " ", "ask", "ask ", "ask a", "ask a ", "ask a 0", "ask a 0 ", "ask a 0 x", "ask a \"\"", "ask a  \"\"", "ask 0 \"\"", "ask  0 \"\"", "ask a 0 \"\" ", "ask  a 0 \"\"", "ask a  0 \"\"", "ask a 0  \"\"", " ask a 0 \"\"", "ask a b 0 \"\"",
		"Ask a 0 \"\"", "asks a 0 \"\"", "look a 0 \"\"", "a 0 \"\"", "ask\ta 0 \"\"", "ask a 00 \"\"", "ask a +0 \"\"", "ask a -1 \"\"", "ask a 6 \"\"", "ask a 8 \"\"", "ask a 10 \"\"", "ask a 04 \"a\"", "ask é 0 \"\"", "ask " + xs(impl.MaxName+1) + " 0 \"\"",
		"ask a 0 \"\\41\"", "ask a 0 \"\\0A\"", "ask a 0 \"\"\"", "ask a 0 \"" + xs(impl.MaxText+1) + "\"", "ask a 2 \"\"", "ask a 2 \"041\"", "ask a 2 \"41\"", "ask a 3 \"x\"", "ask a 4 \"\"", "ask a 4 \"a b\"", "ask a 5 \"\"", "ask a 5 \"" + xs(impl.MaxName+1) + "\"", "ask a 7 \"\"", "ask a 7 \"\\0a\"",
		"has", "has ", "has a", "has a 0", "has a 1 \"\"", "has a 0 \"1\"", "has a 0 \"a\"", "has a 4 \"\"", "has a 4 \"b\"", "has a 4 \"?\"", "has a 4 \"aa\"", "has a 3 \"\"", "has a 5 \"a\"", "has a 6 \"\"", "has a 7 \"a\"", "has a 1", "has é 0 \"\"", "has é 4 \"\\c3\\a9\"", "has " + xs(impl.MaxName+1) + " 0 \"\"",
		"has a 4 \"\\61\"", "has  0 \"\"", "Has a 0 \"\"", "had a 0 \"\"", "over 0 \"\"", "gave 0 \"\"", "clear", "ran x cat \"a\"", "epoch 1",
	}
}

// wrongLooks are lists of looks such as Keep does not take.
func wrongLooks() [][]impl.Look {
	most, _ := looksAndLines(impl.MaxLooks)
	wrong := [][]impl.Look{
		append(most, found("a")), append(most, asked("a", impl.Result{})), {{}}, {{Has: true}}, {found("a"), {}},
		{{Has: true, Name: "a", Result: res(impl.Done, "x")}}, {{Has: true, Name: "a", Result: res(impl.Missing, "b")}}, {{Has: true, Name: "a", Result: res(impl.Missing, "?")}},
		{{Has: true, Name: "a", Result: res(impl.Failed, "")}}, {{Has: true, Name: "a", Result: res(impl.Spent, "")}}, {{Has: true, Name: "a", Result: res(impl.Below, "a")}},
	}
	for _, r := range wrongResults() {
		wrong = append(wrong, []impl.Look{asked("a", r)}, []impl.Look{found("a"), asked("a", r)}, []impl.Look{{Has: true, Name: "a", Result: r}, found("a")})
	}
	for _, name := range wrongNames {
		wrong = append(wrong, []impl.Look{asked(name, impl.Result{})}, []impl.Look{found(name)}, []impl.Look{found("a"), unfound(name)})
	}
	return wrong
}

// entryFields set one field of an entry each.
var entryFields = []struct {
	name string
	set  func(e *impl.Entry)
}{
	{"epoch", func(e *impl.Entry) { e.Epoch = 1 }},
	{"epoch", func(e *impl.Entry) { e.Epoch = -1 }},
	{"file", func(e *impl.Entry) { e.File.Name = "f" }},
	{"text", func(e *impl.Entry) { e.File.Text = "f" }},
	{"make", func(e *impl.Entry) { e.Make.Name = "m" }},
	{"make", func(e *impl.Entry) { e.Make.Tool = "m" }},
	{"make", func(e *impl.Entry) { e.Make.Arg = "m" }},
	{"make", func(e *impl.Entry) { e.Make = catRun }},
	{"looks", func(e *impl.Entry) { e.Looks = []impl.Look{found("a")} }},
	{"looks", func(e *impl.Entry) { e.Looks = []impl.Look{{}} }},
	{"result", func(e *impl.Entry) { e.Result.Code = impl.Spent }},
	{"result", func(e *impl.Entry) { e.Result.Code = -1 }},
	{"result", func(e *impl.Entry) { e.Result.Text = "r" }},
}

func checkNoEntryForm(t *testing.T, e impl.Entry) {
	t.Helper()
	if form := impl.FormEntry(e); form != "" {
		t.Errorf("form of %+v: %q", e, form)
	}
}

func TestFieldsThatAnEntryDoesNotUse(t *testing.T) {
	for _, c := range []struct {
		e    impl.Entry
		uses string
	}{
		{epochEntry(2), "epoch"}, {fileEntry("a", "x"), "file text"}, {dropEntry("a"), "file"}, {ranEntry(catRun, []impl.Look{catLook()}, res(impl.Failed, "x")), "make looks result"}, {ranEntry(catRun, nil, impl.Result{}), "make looks result"}, {clearEntry(), ""},
	} {
		checkEntry(t, c.e, slowEntry(c.e))
		bare := c.e
		bare.Looks = append([]impl.Look{}, c.e.Looks...)
		checkEntry(t, bare, slowEntry(c.e)) // the empty list is no other one than nil
		for i, field := range entryFields {
			if strings.Contains(c.uses, field.name) {
				continue
			}
			e := c.e
			field.set(&e)
			if form := impl.FormEntry(e); form != "" {
				t.Errorf("kind %d with field %d: %q", e.Kind, i, form)
			}
		}
	}
}

func TestWrongEntriesHaveNoForm(t *testing.T) {
	for _, kind := range []int{0, -1, impl.EntClear + 1, 7, 1 << 32, 1<<32 + impl.EntClear, -1 << 63} {
		checkNoEntryForm(t, impl.Entry{Kind: kind})
		for _, c := range entryForms() {
			e := c.e
			e.Kind = kind
			checkNoEntryForm(t, e)
		}
	}
	for _, epoch := range []int{0, -1, -200, impl.MaxEpoch + 1, 1 << 40, 1<<32 + 1, -1 << 63} {
		checkNoEntryForm(t, epochEntry(epoch))
	}
	for _, name := range wrongNames {
		checkNoEntryForm(t, fileEntry(name, ""))
		checkNoEntryForm(t, dropEntry(name))
	}
	checkNoEntryForm(t, fileEntry("a", xs(impl.MaxText+1)))
	checkNoEntryForm(t, fileEntry("a", strings.Repeat("\n", impl.MaxText+1)))
	for _, m := range wrongRuns() {
		checkNoEntryForm(t, ranEntry(m, nil, impl.Result{}))
	}
	for _, r := range wrongResults() {
		checkNoEntryForm(t, ranEntry(catRun, nil, r))
	}
	for _, looks := range wrongLooks() {
		checkNoEntryForm(t, ranEntry(catRun, looks, impl.Result{}))
	}
}

func TestEntriesAreNewMemory(t *testing.T) {
	looks, lines := looksAndLines(6)
	form := "ran x cat \"a\"\n" + lines + "gave 0 \"\"\n"
	one, _ := impl.ReadEntry(form)
	two, _ := impl.ReadEntry(form)
	for i := range one.Looks[:cap(one.Looks)] {
		one.Looks[:cap(one.Looks)][i] = impl.Look{Name: "spoilt"}
	}
	if !slices.Equal(two.Looks, looks) {
		t.Error("two entries share their looks")
	}
}

func formsOf(t *testing.T, entries ...impl.Entry) []string {
	t.Helper()
	var forms []string
	for _, e := range entries {
		form := impl.FormEntry(e)
		if form == "" {
			t.Fatalf("%+v has no form", e)
		}
		forms = append(forms, form)
	}
	return forms
}

// sameMemory holds two memories against each other; the empty list is no other one than nil.
func sameMemory(a, b impl.Memory) bool {
	return a.Code == b.Code && a.Epoch == b.Epoch && slices.Equal(a.Tree.Files, b.Tree.Files) && a.Store.Width == b.Store.Width &&
		slices.Equal(a.Store.Texts, b.Store.Texts) && slices.EqualFunc(a.Store.Records, b.Store.Records, sameRecord)
}

func checkReplay(t *testing.T, entries []string, width int, want impl.Memory) {
	t.Helper()
	before := slices.Clone(entries)
	got := impl.Replay(entries, width)
	if !sameMemory(got, want) {
		t.Errorf("replay of %d entries with width %d: %+v, want %+v", len(entries), width, got, want)
	}
	if got.Code == 0 && (!impl.ValidTree(got.Tree) || !impl.ValidStore(got.Store)) {
		t.Errorf("replay of %d entries is not valid: %+v", len(entries), got)
	}
	if !slices.Equal(entries, before) {
		t.Error("the entries have changed")
	}
}

func TestReplayOfAllKinds(t *testing.T) {
	for width := 1; width <= impl.MaxWidth; width++ {
		looks := []impl.Look{catLook(), unfound("z"), asked("a", res(impl.Done, "2"))}
		store := keep(t, impl.Store{Width: width}, catRun, looks, res(impl.Done, "2"))
		want := impl.Memory{Store: impl.Store{Width: width}}
		var entries []impl.Entry
		for _, step := range []struct {
			e      impl.Entry
			change func(m *impl.Memory)
		}{
			{fileEntry("b", "1"), func(m *impl.Memory) { m.Tree.Files = []impl.File{{Name: "b", Text: "1"}} }},
			{epochEntry(1), func(m *impl.Memory) { m.Epoch = 1 }},
			{clearEntry(), func(m *impl.Memory) {}},
			{fileEntry("a", "1"), func(m *impl.Memory) { m.Tree.Files = []impl.File{{Name: "a", Text: "1"}, {Name: "b", Text: "1"}} }},
			{ranEntry(catRun, looks, res(impl.Done, "2")), func(m *impl.Memory) { m.Store = store }},
			{fileEntry("a", "2"), func(m *impl.Memory) { m.Tree.Files = []impl.File{{Name: "a", Text: "2"}, {Name: "b", Text: "1"}} }},
			{epochEntry(2), func(m *impl.Memory) { m.Epoch = 2 }},
			{epochEntry(3), func(m *impl.Memory) { m.Epoch = 3 }},
			{ranEntry(catRun, looks, res(impl.Done, "2")), func(m *impl.Memory) {}},
			{dropEntry("a"), func(m *impl.Memory) { m.Tree.Files = []impl.File{{Name: "b", Text: "1"}} }},
			{clearEntry(), func(m *impl.Memory) { m.Store = impl.Store{Width: width} }},
			{clearEntry(), func(m *impl.Memory) {}},
			{ranEntry(catRun, looks, res(impl.Done, "2")), func(m *impl.Memory) { m.Store = store }},
			{fileEntry("a", ""), func(m *impl.Memory) { m.Tree.Files = []impl.File{{Name: "a"}, {Name: "b", Text: "1"}} }},
			{dropEntry("a"), func(m *impl.Memory) { m.Tree.Files = []impl.File{{Name: "b", Text: "1"}} }},
			{dropEntry("b"), func(m *impl.Memory) { m.Tree.Files = nil }},
		} {
			checkReplay(t, formsOf(t, entries...), width, want)
			entries = append(entries, step.e)
			step.change(&want)
			checkReplay(t, formsOf(t, entries...), width, want)
		}
	}
}

// slowReplay is Replay by what each entry does alone.
func slowReplay(entries []string, width int) impl.Memory {
	m := impl.Memory{Store: impl.Store{Width: width}}
	for _, s := range entries {
		e, ok := impl.ReadEntry(s)
		code := 0
		switch e.Kind {
		case impl.EntEpoch:
			ok = e.Epoch == m.Epoch+1
			m.Epoch++
		case impl.EntFile:
			m.Tree, code = impl.SetFile(m.Tree, e.File)
		case impl.EntDrop:
			m.Tree, code = impl.DropFile(m.Tree, e.File.Name)
		case impl.EntRan:
			m.Store, code = impl.Keep(m.Store, e.Make, e.Looks, e.Result)
		case impl.EntClear:
			m.Store = impl.Store{Width: width}
		}
		if !ok || code != 0 {
			return impl.Memory{Code: 2}
		}
	}
	return m
}

// likelyEntry is an entry that most often can be done behind others.
func likelyEntry(t *testing.T, r *rand.Rand, m impl.Memory, ran []impl.Entry) impl.Entry {
	t.Helper()
	switch r.Intn(12) {
	case 0:
		return clearEntry()
	case 1:
		return epochEntry(min(m.Epoch+1, impl.MaxEpoch))
	case 2, 3:
		return fileEntry(randomThing(r), randomText(r, 5))
	case 4:
		if len(m.Tree.Files) > 0 {
			return dropEntry(m.Tree.Files[r.Intn(len(m.Tree.Files))].Name)
		}
		return dropEntry(randomThing(r))
	case 5:
		if r.Intn(3) == 0 {
			return randomEntry(r)
		}
	}
	return ran[r.Intn(len(ran))]
}

// TestReplayAgainstOneByOne goes through logs, and holds each beginning against what its entries do one by one.
func TestReplayAgainstOneByOne(t *testing.T) {
	r := rand.New(rand.NewSource(7))
	done, refused := 0, 0
	for range 150 {
		var ran []impl.Entry
		for _, d := range knownOf(randomTree(t, r)) {
			ran = append(ran, ranEntry(d.Make, d.Looks, d.Result))
		}
		if len(ran) == 0 {
			continue
		}
		width := []int{1, 2, impl.MaxWidth}[r.Intn(3)]
		m := impl.Memory{Store: impl.Store{Width: width}}
		var entries []string
		for range 40 {
			more := append(entries, impl.FormEntry(likelyEntry(t, r, m, ran)))
			m = slowReplay(more, width)
			checkReplay(t, more, width, m)
			if m.Code != 0 {
				refused++
				m = slowReplay(entries, width)
				continue
			}
			done++
			entries = more
		}
	}
	if done < 1000 || refused < 100 {
		t.Errorf("%d done, %d refused", done, refused)
	}
}

func TestReplayCodes(t *testing.T) {
	for _, width := range []int{1, 2, impl.MaxWidth} {
		checkReplay(t, nil, width, impl.Memory{Store: impl.Store{Width: width}})
		checkReplay(t, []string{}, width, impl.Memory{Store: impl.Store{Width: width}})
	}
	many := slices.Repeat([]string{"clear\n"}, impl.MaxLog+1)
	wrong := slices.Repeat([]string{"nothing"}, impl.MaxLog+1)
	for _, width := range []int{0, -1, impl.MaxWidth + 1, 1 << 40, -1 << 63} {
		for _, entries := range [][]string{nil, {"clear\n"}, {"nothing"}, {"epoch 2\n"}, many, wrong} {
			checkReplay(t, entries, width, impl.Memory{Code: 1}) // ahead of what is wrong with an entry
		}
	}
	checkReplay(t, many, 8, impl.Memory{Code: 1})
	checkReplay(t, wrong, 8, impl.Memory{Code: 1})
	checkReplay(t, wrong[:impl.MaxLog], 8, impl.Memory{Code: 2})
	checkReplay(t, many[:impl.MaxLog], 8, impl.Memory{Store: impl.Store{Width: 8}})
	checkReplay(t, append(many[:impl.MaxLog-1:impl.MaxLog-1], "drop a\n"), 8, impl.Memory{Code: 2})
	for _, entries := range [][]string{
		{""}, {"\n"}, {"clear"}, {"clear\nclear\n"}, {"epoch 0\n"}, {"epoch 2\n"}, {"epoch 1\n", "epoch 1\n"}, {"epoch 1\n", "epoch 3\n"}, {"epoch 1\n", "epoch 2\n", "epoch 1\n"}, {"epoch 1\n", "epoch 01\n"},
		{"drop a\n"}, {"file a \"\"\n", "drop b\n"}, {"file a \"\"\n", "drop a\n", "drop a\n"}, {"file a b \"\"\n"}, {"file a \"" + xs(impl.MaxText+1) + "\"\n"}, {"ran x cat \"a\"\n"}, {"ran x cat \"a\"\ngave 6 \"\"\n"},
		{"epoch 1\n", "file a \"1\"\n", "ran x cat \"a\"\ngave 0 \"v\"\n", "x"}, {"x", "epoch 1\n", "file a \"1\"\n"}, {"epoch 1\n", "x", "file a \"1\"\n"},
	} {
		checkReplay(t, entries, 4, impl.Memory{Code: 2})
	}
}

func TestReplayOfAllEpochs(t *testing.T) {
	var entries []string
	for epoch := 1; epoch <= impl.MaxEpoch; epoch++ {
		entries = append(entries, formsOf(t, epochEntry(epoch))...)
		checkReplay(t, entries, 3, impl.Memory{Epoch: epoch, Store: impl.Store{Width: 3}})
	}
	for _, more := range []string{"epoch 201\n", "epoch 200\n", "epoch 1\n", "epoch 0\n"} {
		checkReplay(t, append(slices.Clone(entries), more), 3, impl.Memory{Code: 2})
	}
}

func TestReplayOfFullTrees(t *testing.T) {
	var entries []string
	want := impl.Memory{Tree: impl.Tree{Files: numbered(impl.MaxFiles)}, Store: impl.Store{Width: 8}}
	for _, f := range want.Tree.Files {
		entries = append(entries, formsOf(t, fileEntry(f.Name, f.Text))...)
	}
	checkReplay(t, entries, 8, want)
	checkReplay(t, append(slices.Clone(entries), "file a \"\"\n"), 8, impl.Memory{Code: 2})
	want.Tree.Files[3].Text = "new"
	entries = append(entries, "file f103 \"new\"\n")
	checkReplay(t, entries, 8, want)
	want.Tree.Files[3] = impl.File{Name: "f1030"}
	checkReplay(t, append(slices.Clone(entries), "drop f103\n", "file f1030 \"\"\n"), 8, want)
	checkReplay(t, append(slices.Clone(entries), "file f1030 \"\"\n", "drop f103\n"), 8, impl.Memory{Code: 2})
}

// TestReplayOfRunsThatKeepRefuses brings two texts with one sum, and more texts and records than a store holds.
func TestReplayOfRunsThatKeepRefuses(t *testing.T) {
	for _, width := range []int{1, 2} {
		formA, formB := textTwins(t, width)
		a, _ := impl.ReadResult(formA)
		b, _ := impl.ReadResult(formB)
		first, second := formsOf(t, ranEntry(catRun, nil, a))[0], formsOf(t, ranEntry(catRun, nil, b))[0]
		withA, withB := keep(t, impl.Store{Width: width}, catRun, nil, a), keep(t, impl.Store{Width: width}, catRun, nil, b)
		checkReplay(t, []string{first, first}, width, impl.Memory{Store: withA})
		checkReplay(t, []string{second}, width, impl.Memory{Store: withB})
		checkReplay(t, []string{first, second}, width, impl.Memory{Code: 2})
		checkReplay(t, []string{second, first}, width, impl.Memory{Code: 2})
		checkReplay(t, []string{first, "clear\n", second}, width, impl.Memory{Store: withB})
		checkReplay(t, formsOf(t, ranEntry(catRun, []impl.Look{asked("a", a)}, b)), width, impl.Memory{Code: 2})
		both := keep(t, keep(t, impl.Store{Width: 8}, catRun, nil, a), catRun, nil, b)
		checkReplay(t, []string{first, second}, 8, impl.Memory{Store: both})
	}
	var entries []string
	full := impl.Memory{Store: impl.Store{Width: 8}}
	for i := range impl.MaxRecords {
		n := strconv.Itoa(i)
		m, looks, r := impl.Make{Name: "x", Tool: "cat", Arg: n}, []impl.Look{asked("a", res(impl.Done, n))}, res(impl.Failed, n)
		entries = append(entries, formsOf(t, ranEntry(m, looks, r))...)
		full.Store = keep(t, full.Store, m, looks, r)
	}
	if len(full.Store.Texts) != impl.MaxTexts || len(full.Store.Records) != impl.MaxRecords {
		t.Fatalf("%d texts, %d records", len(full.Store.Texts), len(full.Store.Records))
	}
	checkReplay(t, entries, 8, full)
	checkReplay(t, append(slices.Clone(entries), entries[7]), 8, full)
	for _, more := range []string{"ran x dog \"\"\ngave 0 \"1\"\n", "ran x cat \"0\"\ngave 0 \"fresh\"\n"} {
		checkReplay(t, append(slices.Clone(entries), more), 8, impl.Memory{Code: 2})
		checkReplay(t, append(slices.Clone(entries[:impl.MaxRecords-1]), more), 8, slowReplay(append(slices.Clone(entries[:impl.MaxRecords-1]), more), 8))
	}
	checkReplay(t, append(append(slices.Clone(entries), "clear\n"), entries...), 8, full)
}

func TestMemoriesAreNewMemory(t *testing.T) {
	entries := formsOf(t, fileEntry("a", "1"), fileEntry("b", "2"), ranEntry(catRun, []impl.Look{catLook(), found("b")}, res(impl.Done, "1")), ranEntry(catRun, []impl.Look{catLook(), found("b")}, res(impl.Done, "2")))
	one, two := impl.Replay(entries, 8), impl.Replay(entries, 8)
	for i := range one.Tree.Files[:cap(one.Tree.Files)] {
		one.Tree.Files[:cap(one.Tree.Files)][i] = impl.File{Name: "spoilt"}
	}
	first := slices.Clone(one.Store.Records[1].Looks)
	for i := range one.Store.Records[0].Looks[:cap(one.Store.Records[0].Looks)] {
		one.Store.Records[0].Looks[:cap(one.Store.Records[0].Looks)][i] = impl.Glance{Name: "spoilt"}
	}
	if !slices.Equal(one.Store.Records[1].Looks, first) {
		t.Error("two records share their looks")
	}
	spoil(one.Store)
	checkReplay(t, entries, 8, two)
}
