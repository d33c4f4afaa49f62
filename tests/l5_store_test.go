package tests

import (
	"math/rand"
	"reflect"
	"slices"
	"strconv"
	"strings"
	"testing"

	"loop.example/kiln/impl"
)

// resultForms are valid results with their forms.
var resultForms = []struct {
	r    impl.Result
	form string
}{
	{res(impl.Done, ""), "0:"}, {res(impl.Done, "x"), "0:x"}, {res(impl.Done, "0:x"), "0:0:x"}, {res(impl.Done, ":"), "0::"}, {res(impl.Done, "\x00\n \xff"), "0:\x00\n \xff"},
	{res(impl.Done, xs(impl.MaxText)), "0:" + xs(impl.MaxText)}, {res(impl.Failed, ""), "1:"}, {res(impl.Failed, "why not"), "1:why not"}, {res(impl.Failed, xs(impl.MaxText)), "1:" + xs(impl.MaxText)},
	{res(impl.Broken, "0"), "2:0"}, {res(impl.Broken, "7"), "2:7"}, {res(impl.Broken, strconv.Itoa(impl.MaxIns)), "2:40"}, {res(impl.Spent, ""), "3:"},
	{res(impl.Missing, "?"), "4:?"}, {res(impl.Missing, "a"), "4:a"}, {res(impl.Missing, ":"), "4::"}, {res(impl.Missing, xs(impl.MaxName)), "4:" + xs(impl.MaxName)},
	{res(impl.Below, "a"), "5:a"}, {res(impl.Below, xs(impl.MaxName)), "5:" + xs(impl.MaxName)}, {res(impl.NoTool, "~"), "7:~"}, {res(impl.NoTool, xs(impl.MaxName)), "7:" + xs(impl.MaxName)},
}

// wrongResults are results that are not valid.
func wrongResults() []impl.Result {
	wrong := []impl.Result{
		res(impl.Circle, ""), res(impl.Circle, "a"), res(-1, ""), res(8, ""), res(10, "x"), res(48, ""), res(impl.Done, xs(impl.MaxText+1)), res(impl.Failed, xs(impl.MaxText+1)),
		res(impl.Broken, ""), res(impl.Broken, "01"), res(impl.Broken, strconv.Itoa(impl.MaxIns+1)), res(impl.Broken, "-1"), res(impl.Broken, "x"), res(impl.Spent, "x"),
	}
	for _, name := range wrongNames {
		wrong = append(wrong, res(impl.Missing, name), res(impl.Below, name), res(impl.NoTool, name))
	}
	return wrong
}

func TestResultForms(t *testing.T) {
	for _, c := range resultForms {
		if got := impl.FormResult(c.r); got != c.form {
			t.Errorf("form of %+v: %q, want %q", c.r, got, c.form)
		}
		if got, ok := impl.ReadResult(c.form); !ok || got != c.r {
			t.Errorf("read of %q: %+v %v", c.form, got, ok)
		}
	}
	for _, r := range wrongResults() {
		if got := impl.FormResult(r); got != "" {
			t.Errorf("form of %+v: %q", r, got)
		}
	}
}

func TestReadResultReadsNothingElse(t *testing.T) {
	for _, s := range []string{
		"", ":", "0", "x", "6:", "6:a", "8:", "9:", "00:x", "+0:x", "-0:x", " 0:x", "0 :x", "10:x", "0;x", "\x000:x", "\x00:x", "x:y", ":x", "::", "Done:x",
		"2:", "2:01", "2:41", "2:-1", "2: 1", "2:1 ", "2:x", "3", "3:x", "3: ", "3::", "4:", "4:a b", "4: a", "4:a\n", "4:\x7f", "5:", "5:a b", "7:", "7:\x00",
		"0:" + xs(impl.MaxText+1), "1:" + xs(impl.MaxText+1), "4:" + xs(impl.MaxName+1), "5:" + xs(impl.MaxName+1), "7:" + xs(impl.MaxName+1), "18446744073709551616:x",
	} {
		if r, ok := impl.ReadResult(s); ok || r != (impl.Result{}) {
			t.Errorf("read of %q: %+v %v", s, r, ok)
		}
	}
	bytes := []byte("\x00\n :0123456789a?\x7f\xff")
	for _, c := range resultForms {
		for i := range min(len(c.form), 5) {
			checkReadResult(t, c.form[:i])
			checkReadResult(t, c.form[:i]+c.form[i+1:])
			for _, b := range bytes {
				checkReadResult(t, c.form[:i]+string([]byte{b})+c.form[i:])
				checkReadResult(t, c.form[:i]+string([]byte{b})+c.form[i+1:])
			}
		}
	}
}

// checkReadResult asks that a text that is read is the form of what was read.
func checkReadResult(t *testing.T, s string) {
	t.Helper()
	r, ok := impl.ReadResult(s)
	if ok && (!impl.ValidResult(r) || impl.FormResult(r) != s) || !ok && r != (impl.Result{}) {
		t.Errorf("read of %q: %+v %v", s, r, ok)
	}
}

// wrongRuns are Makes whose names are none or whose Arg is too long.
func wrongRuns() []impl.Make {
	wrong := []impl.Make{{}, {Name: "x", Tool: "cat", Arg: xs(impl.MaxText + 1)}}
	for _, name := range wrongNames {
		wrong = append(wrong, impl.Make{Name: name, Tool: "cat", Arg: "a"}, impl.Make{Name: "x", Tool: name, Arg: "a"})
	}
	return wrong
}

var catRun = impl.Make{Name: "x", Tool: "cat", Arg: "a"}

func catLook() impl.Look {
	return asked("cat", res(impl.Done, catTool))
}

func TestGoOfLooks(t *testing.T) {
	cat, one := catLook(), asked("a", res(impl.Done, "one"))
	hasRun := impl.Make{Name: "x", Tool: "has", Arg: "a"}
	has := asked("has", res(impl.Done, hasTool))
	longArg := impl.Make{Name: xs(impl.MaxName), Tool: xs(impl.MaxName), Arg: xs(impl.MaxText)}
	for i, c := range []struct {
		m     impl.Make
		looks []impl.Look
		want  impl.Turn
	}{
		{catRun, nil, impl.Turn{Name: "cat"}},
		{catRun, []impl.Look{}, impl.Turn{Name: "cat"}},
		{longArg, nil, impl.Turn{Name: xs(impl.MaxName)}},
		{longArg, []impl.Look{asked(longArg.Tool, res(impl.Done, failTool))}, over(impl.Failed, xs(impl.MaxText), 2)},
		{catRun, []impl.Look{cat}, stop(false, "a", 2)},
		{catRun, []impl.Look{cat, one}, over(impl.Done, "one", 4)},
		{catRun, []impl.Look{cat, asked("a", res(impl.Missing, "b"))}, over(impl.Missing, "a", 2)},
		{catRun, []impl.Look{cat, asked("a", res(impl.NoTool, "b"))}, over(impl.Below, "a", 2)},
		{catRun, []impl.Look{asked("cat", res(impl.Done, ""))}, over(impl.NoTool, "cat", 0)},
		{catRun, []impl.Look{asked("cat", res(impl.Done, "end"))}, over(impl.NoTool, "cat", 0)},
		{catRun, []impl.Look{asked("cat", res(impl.Missing, "b"))}, over(impl.Missing, "cat", 0)},
		{catRun, []impl.Look{asked("cat", res(impl.Missing, "?"))}, over(impl.Missing, "cat", 0)},
		{catRun, []impl.Look{asked("cat", res(impl.Failed, catTool))}, over(impl.Below, "cat", 0)},
		{catRun, []impl.Look{asked("cat", res(impl.Broken, "3"))}, over(impl.Below, "cat", 0)},
		{catRun, []impl.Look{asked("cat", res(impl.Spent, ""))}, over(impl.Below, "cat", 0)},
		{catRun, []impl.Look{asked("cat", res(impl.Below, "b"))}, over(impl.Below, "cat", 0)},
		{catRun, []impl.Look{asked("cat", res(impl.NoTool, "b"))}, over(impl.Below, "cat", 0)},
		{hasRun, []impl.Look{has}, stop(true, "a", 2)},
		{hasRun, []impl.Look{has, found("a")}, over(impl.Done, "1", 4)},
		{hasRun, []impl.Look{has, unfound("a")}, over(impl.Done, "0", 4)},
	} {
		before := slices.Clone(c.looks)
		if got := impl.Go(c.m, c.looks); got != c.want {
			t.Errorf("case %d: %+v, want %+v", i, got, c.want)
		}
		if !slices.Equal(before, c.looks) {
			t.Errorf("case %d: the looks have changed", i)
		}
	}
}

func TestGoOfWrongLooks(t *testing.T) {
	cat, one := catLook(), asked("a", res(impl.Done, "one"))
	hasRun := impl.Make{Name: "x", Tool: "has", Arg: "a"}
	has := asked("has", res(impl.Done, hasTool))
	cases := []struct {
		m     impl.Make
		looks []impl.Look
	}{
		{catRun, []impl.Look{one}}, {catRun, []impl.Look{one, cat}}, {catRun, []impl.Look{found("cat")}}, {catRun, []impl.Look{unfound("cat")}}, {catRun, []impl.Look{{}}},
		{catRun, []impl.Look{cat, asked("b", res(impl.Done, "one"))}}, {catRun, []impl.Look{cat, found("a")}}, {catRun, []impl.Look{cat, unfound("a")}},
		{catRun, []impl.Look{cat, cat}}, {catRun, []impl.Look{cat, one, one}}, {catRun, []impl.Look{cat, one, found("a")}}, {catRun, []impl.Look{cat, one, {}}},
		{catRun, []impl.Look{asked("cat", res(impl.Missing, "cat")), one}}, {catRun, []impl.Look{asked("cat", res(impl.Spent, "")), one}}, {catRun, []impl.Look{asked("cat", res(impl.Done, "")), one}},
		{hasRun, []impl.Look{has, one}}, {hasRun, []impl.Look{has, asked("a", res(impl.Missing, "a"))}}, {hasRun, []impl.Look{has, asked("a", res(impl.Done, ""))}}, {hasRun, []impl.Look{has, found("b")}},
		{hasRun, []impl.Look{has, unfound("a"), unfound("a")}},
		{hasRun, []impl.Look{has, {Has: true, Name: "a", Result: res(impl.Done, "one")}}},
		{hasRun, []impl.Look{has, {Has: true, Name: "a", Result: res(impl.Missing, "b")}}},
		{hasRun, []impl.Look{has, {Has: true, Name: "a", Result: res(impl.Missing, "")}}},
		{hasRun, []impl.Look{has, {Has: true, Name: "a", Result: res(impl.Failed, "")}}},
		{hasRun, []impl.Look{has, {Has: true, Name: "a", Result: res(impl.Spent, "")}}},
		{hasRun, []impl.Look{has, {Has: true, Name: "a", Result: res(impl.Circle, "")}}},
	}
	for _, r := range wrongResults() {
		cases = append(cases, struct {
			m     impl.Make
			looks []impl.Look
		}{catRun, []impl.Look{asked("cat", r)}}, struct {
			m     impl.Make
			looks []impl.Look
		}{catRun, []impl.Look{cat, asked("a", r)}})
	}
	for _, c := range cases {
		if got := impl.Go(c.m, c.looks); got != (impl.Turn{}) {
			t.Errorf("%+v with %+v: %+v", c.m, c.looks, got)
		}
	}
	for _, m := range wrongRuns() {
		for _, looks := range [][]impl.Look{nil, {asked(m.Tool, res(impl.Done, catTool))}} {
			if got := impl.Go(m, looks); got != (impl.Turn{}) {
				t.Errorf("%+v: %+v", m, got)
			}
		}
	}
}

// askingRun asks or looks so often as it can, and is over behind so many looks.
func askingRun(looks int) (impl.Make, []impl.Look) {
	tool := toolText("lit \"one\"" + strings.Repeat("; ask; lit \"one\"; has; lit \"one\"", looks/2) + strings.Repeat("; ask", looks%2) + "; end")
	made := []impl.Look{asked("t", res(impl.Done, tool))}
	for i := range looks {
		if i%2 == 0 {
			made = append(made, asked("one", res(impl.Done, "1")))
		} else {
			made = append(made, found("one"))
		}
	}
	return impl.Make{Name: "x", Tool: "t"}, made
}

func TestGoOfMostLooks(t *testing.T) {
	m, looks := askingRun(impl.MaxLooks - 1)
	if len(looks) != impl.MaxLooks {
		t.Fatal(len(looks))
	}
	if got := impl.Go(m, looks); got != over(impl.Done, "", 30) {
		t.Errorf("%+v", got)
	}
	if got := impl.Go(m, append(slices.Clone(looks), looks[1])); got != (impl.Turn{}) {
		t.Errorf("a look behind the last one: %+v", got)
	}
	m, looks = askingRun(impl.MaxLooks)
	if got := impl.Go(m, looks[:impl.MaxLooks]); got != over(impl.Spent, "", 30) {
		t.Errorf("%+v", got)
	}
	if got := impl.Go(m, looks); got != (impl.Turn{}) {
		t.Errorf("more than MaxLooks looks: %+v", got)
	}
}

// TestRunsComeToWhatGoSays asks each run among deeds, with each beginning of its looks.
func TestRunsComeToWhatGoSays(t *testing.T) {
	r := rand.New(rand.NewSource(51))
	over, circles := 0, 0
	for range 300 {
		tree := randomTree(t, r)
		for _, name := range thingNames {
			for _, d := range impl.Deeds(tree, name) {
				if !d.Made {
					continue
				}
				for i, look := range d.Looks {
					if turn := impl.Go(d.Make, d.Looks[:i]); turn.Over || turn.Has != look.Has || turn.Name != look.Name || turn.Result != (impl.Result{}) || turn != goBy(d.Make, d.Looks[:i]) {
						t.Fatalf("%+v with its first %d looks: %+v", d, i, turn)
					}
				}
				turn := impl.Go(d.Make, d.Looks)
				if d.Result.Code == impl.Circle {
					circles++
					if turn.Over || turn.Has || turn.Name == "" || impl.Want(tree, turn.Name).Code != impl.Circle {
						t.Fatalf("%+v is no circle, but %+v", d, turn)
					}
					continue
				}
				over++
				if !turn.Over || turn.Result != d.Result || turn != goBy(d.Make, d.Looks) {
					t.Fatalf("%+v comes to %+v", d, turn)
				}
				if more := impl.Go(d.Make, append(slices.Clone(d.Looks), asked("a", res(impl.Done, "")))); more != (impl.Turn{}) {
					t.Fatalf("%+v with one look more: %+v", d, more)
				}
			}
		}
	}
	if over < 1000 || circles < 100 {
		t.Errorf("%d runs over, %d circles", over, circles)
	}
}

// manyTexts are so many texts of a store.
func manyTexts(t *testing.T, n int, width int) []string {
	t.Helper()
	var texts []string
	met := map[string]bool{}
	for i := 0; len(texts) < n; i++ {
		text := impl.FormResult(res(impl.Done, "text "+strconv.Itoa(i)))
		if sum := impl.Sum(text, width); !met[sum] {
			met[sum] = true
			texts = append(texts, text)
		}
		if i == 10000 {
			t.Fatalf("no %d texts of width %d", n, width)
		}
	}
	sortBySum(texts, width)
	return texts
}

func sortBySum(texts []string, width int) {
	slices.SortFunc(texts, func(a, b string) int {
		return strings.Compare(impl.Sum(a, width), impl.Sum(b, width))
	})
}

// manyRecords are so many different records.
func manyRecords(n int, width int) []impl.Record {
	var records []impl.Record
	for i := range n {
		records = append(records, impl.Record{Key: "cat " + strconv.Itoa(i), Out: xs(width)})
	}
	return records
}

func manyGlances(n int, width int) []impl.Glance {
	return slices.Repeat([]impl.Glance{{Name: "a", Sum: xs(width)}}, n)
}

const mostKey = impl.MaxName + 1 + impl.MaxText

func TestValidStores(t *testing.T) {
	for _, width := range []int{1, 2, 7, 8} {
		texts := manyTexts(t, min(impl.MaxTexts, 200*width-100), width)
		for i, s := range []impl.Store{
			{}, {Texts: []string{}, Records: []impl.Record{}}, {Texts: texts[:1]}, {Texts: texts}, {Records: manyRecords(impl.MaxRecords, width)},
			{Records: []impl.Record{{Key: xs(mostKey), Looks: manyGlances(impl.MaxLooks, width), Out: xs(width)}, {Out: strings.Repeat("\xff", width)}, {Out: xs(width)}, {Out: xs(width)}}},
			{Records: []impl.Record{{Key: "\x00 \n", Looks: []impl.Glance{{Name: xs(impl.MaxName), Sum: xs(width)}, {Has: true, Name: "!", Sum: xs(width)}}, Out: xs(width)}}},
		} {
			s.Width = width
			if !impl.ValidStore(s) {
				t.Errorf("store %d of width %d is valid", i, width)
			}
		}
		for i, s := range wrongStores(t, width) {
			if impl.ValidStore(s) {
				t.Errorf("store %d of width %d is not valid", i, width)
			}
		}
	}
	if !impl.ValidStore(impl.Store{Width: impl.MaxWidth, Texts: manyTexts(t, impl.MaxTexts, impl.MaxWidth), Records: manyRecords(impl.MaxRecords, impl.MaxWidth)}) {
		t.Error("a full store is valid")
	}
}

// wrongStores are stores that are not valid, most of them in one thing that hangs on the width.
func wrongStores(t *testing.T, width int) []impl.Store {
	t.Helper()
	texts := manyTexts(t, 20, width)
	wrong := []impl.Store{
		{Texts: []string{texts[1], texts[0]}}, {Texts: []string{texts[0], texts[2], texts[1]}}, {Texts: []string{texts[0], texts[0]}}, {Texts: []string{texts[0], texts[1], texts[1]}},
		{Texts: []string{""}}, {Texts: []string{"1"}}, {Texts: []string{"0"}}, {Texts: []string{"6:"}}, {Texts: []string{"3:x"}}, {Texts: []string{"0:" + xs(impl.MaxText+1)}},
		{Records: manyRecords(impl.MaxRecords+1, width)},
		{Records: []impl.Record{{}}}, {Records: []impl.Record{{Out: xs(width - 1)}}}, {Records: []impl.Record{{Out: xs(width + 1)}}}, {Records: []impl.Record{{Out: xs(width)}, {Out: xs(width + 1)}}},
		{Records: []impl.Record{{Key: xs(mostKey + 1), Out: xs(width)}}},
		{Records: []impl.Record{{Looks: manyGlances(impl.MaxLooks+1, width), Out: xs(width)}}},
		{Records: []impl.Record{{Looks: manyGlances(1, width-1), Out: xs(width)}}}, {Records: []impl.Record{{Looks: manyGlances(1, width+1), Out: xs(width)}}},
		{Records: []impl.Record{{Looks: append(manyGlances(2, width), impl.Glance{Has: true, Name: "a"}), Out: xs(width)}}},
	}
	if width > 1 {
		wrong = append(wrong, impl.Store{Texts: manyTexts(t, impl.MaxTexts+1, width)})
	}
	for _, name := range wrongNames {
		wrong = append(wrong, impl.Store{Records: []impl.Record{{Looks: []impl.Glance{{Name: name, Sum: xs(width)}}, Out: xs(width)}}},
			impl.Store{Records: []impl.Record{{Looks: append(manyGlances(1, width), impl.Glance{Has: true, Name: name, Sum: xs(width)}), Out: xs(width)}}})
	}
	for i := range wrong {
		wrong[i].Width = width
	}
	for _, none := range []int{-1, 0, impl.MaxWidth + 1} {
		wrong = append(wrong, impl.Store{Width: none}, impl.Store{Width: none, Records: []impl.Record{{Out: xs(max(none, 0))}}})
	}
	a, b := textTwins(t, width)
	if width <= 2 {
		wrong = append(wrong, impl.Store{Width: width, Texts: []string{a, b}}, impl.Store{Width: width, Texts: []string{b, a}})
	}
	return wrong
}

// textTwins gives two different forms of Done with one sum, for widths of at most 2 bytes.
func textTwins(t *testing.T, width int) (string, string) {
	t.Helper()
	if width > 2 {
		return "", ""
	}
	first := map[string]string{}
	for i := range 100000 {
		text := "0:twin " + strconv.Itoa(i)
		sum := impl.Sum(text, width)
		if other, met := first[sum]; met {
			return other, text
		}
		first[sum] = text
	}
	t.Fatalf("no two texts of width %d with one sum", width)
	return "", ""
}

func sums(width int, texts ...string) []string {
	var list []string
	for _, text := range texts {
		list = append(list, impl.Sum(text, width))
	}
	return list
}

func keep(t *testing.T, s impl.Store, m impl.Make, looks []impl.Look, r impl.Result) impl.Store {
	t.Helper()
	kept, code := impl.Keep(s, m, looks, r)
	if code != 0 || !impl.ValidStore(kept) {
		t.Fatalf("keep of %+v: code %d, %+v", m, code, kept)
	}
	return kept
}

func TestKeep(t *testing.T) {
	for width := 1; width <= impl.MaxWidth; width++ {
		m := impl.Make{Name: "x", Tool: "some", Arg: "b c\n"}
		looks := []impl.Look{asked("some", res(impl.Done, "tool")), found("a"), asked("a", res(impl.Missing, "z")), unfound("b"), asked("c", res(impl.Done, "tool")), asked("d", res(impl.Spent, ""))}
		s := keep(t, impl.Store{Width: width}, m, looks, res(impl.Broken, "3"))
		sum := sums(width, "0:tool", "1", "4:z", "0", "3:", "2:3")
		record := impl.Record{Key: "some b c\n", Out: sum[5], Looks: []impl.Glance{{Name: "some", Sum: sum[0]}, {Has: true, Name: "a", Sum: sum[1]}, {Name: "a", Sum: sum[2]},
			{Has: true, Name: "b", Sum: sum[3]}, {Name: "c", Sum: sum[0]}, {Name: "d", Sum: sum[4]}}}
		texts := []string{"0:tool", "4:z", "3:", "2:3"}
		sortBySum(texts, width)
		want := impl.Store{Width: width, Texts: texts, Records: []impl.Record{record}}
		if !reflect.DeepEqual(s, want) {
			t.Errorf("width %d: %+v, want %+v", width, s, want)
		}
		if again := keep(t, s, m, looks, res(impl.Broken, "3")); !reflect.DeepEqual(again, want) {
			t.Errorf("kept twice: %+v, want %+v", again, want)
		}
		other := impl.Make{Name: "another", Tool: "some", Arg: "b c\n"}
		if again := keep(t, s, other, looks, res(impl.Broken, "3")); !reflect.DeepEqual(again, want) {
			t.Errorf("kept under another name: %+v, want %+v", again, want)
		}
		bare := keep(t, s, impl.Make{Name: "x", Tool: "some"}, nil, res(impl.Missing, "z"))
		want.Records = append(want.Records, impl.Record{Key: "some ", Out: sum[2]})
		if !reflect.DeepEqual(bare, want) {
			t.Errorf("a second record: %+v, want %+v", bare, want)
		}
	}
}

// TestKeepTellsRecordsApart keeps runs that differ in one thing: each is a record, behind the others.
func TestKeepTellsRecordsApart(t *testing.T) {
	s := impl.Store{Width: 8}
	cat, a := catLook(), asked("a", res(impl.Done, "1"))
	runs := []struct {
		m     impl.Make
		looks []impl.Look
		r     impl.Result
	}{
		{catRun, []impl.Look{cat, a}, res(impl.Done, "1")}, {catRun, []impl.Look{cat, a}, res(impl.Done, "2")}, {catRun, []impl.Look{cat}, res(impl.Done, "1")}, {catRun, []impl.Look{a, cat}, res(impl.Done, "1")},
		{catRun, []impl.Look{cat, asked("a", res(impl.Done, "2"))}, res(impl.Done, "1")}, {catRun, []impl.Look{cat, asked("b", res(impl.Done, "1"))}, res(impl.Done, "1")},
		{catRun, []impl.Look{cat, found("a")}, res(impl.Done, "1")}, {catRun, []impl.Look{cat, unfound("a")}, res(impl.Done, "1")}, {catRun, []impl.Look{cat, a, a}, res(impl.Done, "1")},
		{impl.Make{Name: "x", Tool: "dog", Arg: "a"}, []impl.Look{cat, a}, res(impl.Done, "1")}, {impl.Make{Name: "x", Tool: "cat", Arg: "b"}, []impl.Look{cat, a}, res(impl.Done, "1")},
		{catRun, nil, res(impl.Done, "1")},
	}
	for i, run := range runs {
		before := s.Records
		s = keep(t, s, run.m, run.looks, run.r)
		if len(s.Records) != i+1 || !slices.EqualFunc(s.Records[:i], before, sameRecord) || s.Records[i].Key != run.m.Tool+" "+run.m.Arg {
			t.Fatalf("run %d: %+v", i, s)
		}
	}
	for i, run := range runs {
		if again := keep(t, s, run.m, run.looks, run.r); !reflect.DeepEqual(again, s) {
			t.Errorf("run %d again: %+v", i, again)
		}
	}
}

func sameRecord(a, b impl.Record) bool {
	return a.Key == b.Key && a.Out == b.Out && slices.Equal(a.Looks, b.Looks)
}

func TestKeepCodes(t *testing.T) {
	store := impl.Store{Width: 8}
	_, most := askingRun(impl.MaxLooks - 1)
	long := impl.Make{Name: xs(impl.MaxName), Tool: xs(impl.MaxName), Arg: xs(impl.MaxText)}
	if s := keep(t, store, long, most, res(impl.Done, xs(impl.MaxText))); len(s.Records[0].Key) != mostKey || len(s.Records[0].Looks) != impl.MaxLooks {
		t.Errorf("%+v", s)
	}
	check := func(s impl.Store, m impl.Make, looks []impl.Look, r impl.Result, want int) {
		t.Helper()
		if got, code := impl.Keep(s, m, looks, r); code != want || !reflect.DeepEqual(got, impl.Store{}) {
			t.Errorf("code %d, want %d: %+v", code, want, got)
		}
	}
	check(store, catRun, append(most, most[1]), impl.Result{}, 2)
	check(store, catRun, make([]impl.Look, impl.MaxLooks+1), impl.Result{}, 2)
	for _, m := range wrongRuns() {
		check(store, m, nil, impl.Result{}, 2)
	}
	for _, r := range wrongResults() {
		check(store, catRun, nil, r, 2)
		check(store, catRun, []impl.Look{catLook(), asked("a", r)}, impl.Result{}, 2)
		check(store, catRun, []impl.Look{{Has: true, Name: "a", Result: r}}, impl.Result{}, 2)
	}
	for _, name := range wrongNames {
		check(store, catRun, []impl.Look{asked(name, impl.Result{})}, impl.Result{}, 2)
		check(store, catRun, []impl.Look{found(name)}, impl.Result{}, 2)
		check(store, catRun, []impl.Look{unfound(name)}, impl.Result{}, 2)
	}
	for _, r := range []impl.Result{res(impl.Done, "x"), res(impl.Missing, "b"), res(impl.Missing, "?"), res(impl.Failed, ""), res(impl.Spent, ""), res(impl.Below, "a"), res(impl.NoTool, "a")} {
		check(store, catRun, []impl.Look{{Has: true, Name: "a", Result: r}}, impl.Result{}, 2)
	}
	for _, wrong := range wrongStores(t, 8) {
		check(wrong, catRun, nil, impl.Result{}, 1)
		check(wrong, impl.Make{}, nil, impl.Result{}, 1)
	}
}

// TestKeepOfOneSum brings two texts with one sum together in every way.
func TestKeepOfOneSum(t *testing.T) {
	for _, width := range []int{1, 2} {
		formA, formB := textTwins(t, width)
		a, _ := impl.ReadResult(formA)
		b, _ := impl.ReadResult(formB)
		with := keep(t, impl.Store{Width: width}, catRun, []impl.Look{asked("a", a), asked("b", a)}, a)
		if !slices.Equal(with.Texts, []string{formA}) {
			t.Errorf("one text three times: %q", with.Texts)
		}
		for i, c := range []struct {
			s     impl.Store
			looks []impl.Look
			r     impl.Result
		}{
			{with, nil, b}, {with, []impl.Look{asked("a", b)}, a}, {impl.Store{Width: width}, []impl.Look{asked("a", a)}, b}, {impl.Store{Width: width}, []impl.Look{asked("a", b)}, a},
			{impl.Store{Width: width}, []impl.Look{asked("a", a), asked("a", b)}, a}, {impl.Store{Width: width}, []impl.Look{asked("a", a), found("b"), asked("c", b)}, b},
		} {
			if got, code := impl.Keep(c.s, catRun, c.looks, c.r); code != 3 || !reflect.DeepEqual(got, impl.Store{}) {
				t.Errorf("case %d of width %d: code %d, %+v", i, width, code, got)
			}
		}
		if got, code := impl.Keep(with, impl.Make{}, nil, b); code != 2 {
			t.Errorf("code %d, %+v", code, got)
		}
		wider := keep(t, impl.Store{Width: 8}, catRun, []impl.Look{asked("a", a), asked("b", b)}, a)
		if len(wider.Texts) != 2 {
			t.Errorf("%+v", wider)
		}
	}
	// A look of Has puts no text in: what has the sum of its 1 or 0 is no other text.
	for i := range 1000 {
		r := res(impl.Done, strconv.Itoa(i))
		if sum := impl.Sum(impl.FormResult(r), 1); sum == impl.Sum("1", 1) || sum == impl.Sum("0", 1) {
			s := keep(t, impl.Store{Width: 1}, catRun, []impl.Look{found("a"), unfound("b")}, r)
			if len(s.Texts) != 1 {
				t.Errorf("%+v", s)
			}
		}
	}
}

func TestKeepOfFullStores(t *testing.T) {
	const width = 2
	formA, formB := textTwins(t, width)
	a, _ := impl.ReadResult(formA)
	b, _ := impl.ReadResult(formB)
	texts := []string{formA}
	for _, text := range manyTexts(t, impl.MaxTexts, width) {
		if impl.Sum(text, width) != impl.Sum(formA, width) && len(texts) < impl.MaxTexts {
			texts = append(texts, text)
		}
	}
	there, _ := impl.ReadResult(texts[7])
	sortBySum(texts, width)
	full := impl.Store{Width: width, Texts: texts, Records: manyRecords(impl.MaxRecords, width)}
	full.Records[9] = impl.Record{Key: "cat a", Out: impl.Sum(formA, width)}
	lastText, lastRecord := full, full
	lastText.Texts = slices.DeleteFunc(slices.Clone(texts), func(text string) bool { return text == impl.FormResult(there) })
	lastRecord.Records = full.Records[:impl.MaxRecords-1]
	fresh, other := res(impl.Failed, "fresh"), res(impl.Failed, "another")
	for i, c := range []struct {
		s     impl.Store
		looks []impl.Look
		r     impl.Result
		code  int
	}{
		{full, nil, a, 0},     // all of it is there
		{full, nil, there, 4}, // the record is one more
		{full, nil, fresh, 4},
		{full, nil, b, 3}, // ahead of the limits
		{full, []impl.Look{asked("a", fresh)}, b, 3},
		{full, []impl.Look{asked("a", b)}, a, 3},
		{lastRecord, nil, there, 0},
		{lastRecord, []impl.Look{asked("a", there), found("x")}, a, 0},
		{lastRecord, nil, fresh, 4}, // the text is one more
		{lastRecord, []impl.Look{asked("a", fresh)}, a, 4},
		{lastText, nil, a, 0},
		{lastText, nil, there, 4}, // there is room for the text, but none for the record
		{impl.Store{Width: width, Texts: lastText.Texts}, nil, there, 0},
		{impl.Store{Width: width, Texts: lastText.Texts}, []impl.Look{asked("a", fresh), asked("b", fresh)}, fresh, 0},
		{impl.Store{Width: width, Texts: lastText.Texts}, []impl.Look{asked("a", fresh)}, other, 4},
		{impl.Store{Width: width, Texts: lastText.Texts}, []impl.Look{asked("a", fresh), asked("b", other)}, a, 4},
	} {
		got, code := impl.Keep(c.s, catRun, c.looks, c.r)
		if code != c.code || code == 0 && !impl.ValidStore(got) || code != 0 && !reflect.DeepEqual(got, impl.Store{}) {
			t.Errorf("case %d: code %d, want %d", i, code, c.code)
		}
		if want, slowCode := slowKeep(c.s, catRun, c.looks, c.r); code != slowCode || !reflect.DeepEqual(got, want) {
			t.Errorf("case %d: code %d, going through it: %d", i, code, slowCode)
		}
	}
}

// slowKeep is Keep of what is valid, by going through lists.
func slowKeep(s impl.Store, m impl.Make, looks []impl.Look, r impl.Result) (impl.Store, int) {
	texts := slices.Clone(s.Texts)
	record := impl.Record{Key: m.Tool + " " + m.Arg, Out: impl.Sum(impl.FormResult(r), s.Width)}
	var forms []string
	for _, look := range looks {
		form := impl.FormResult(look.Result)
		if !look.Has {
			forms = append(forms, form)
		} else if form = "0"; look.Result == (impl.Result{}) {
			form = "1"
		}
		record.Looks = append(record.Looks, impl.Glance{Has: look.Has, Name: look.Name, Sum: impl.Sum(form, s.Width)})
	}
	for _, form := range append(forms, impl.FormResult(r)) {
		if slices.Contains(texts, form) {
			continue
		}
		if slices.Contains(sums(s.Width, texts...), impl.Sum(form, s.Width)) {
			return impl.Store{}, 3
		}
		texts = append(texts, form)
	}
	records := slices.Clone(s.Records)
	if !slices.ContainsFunc(records, func(other impl.Record) bool { return sameRecord(other, record) }) {
		records = append(records, record)
	}
	if len(texts) > impl.MaxTexts || len(records) > impl.MaxRecords {
		return impl.Store{}, 4
	}
	sortBySum(texts, s.Width)
	return impl.Store{Width: s.Width, Texts: texts, Records: records}, 0
}

func TestStoresAreNewMemory(t *testing.T) {
	looks := []impl.Look{catLook(), found("b"), asked("a", res(impl.Done, "one"))}
	s := keep(t, impl.Store{Width: 8}, catRun, looks, res(impl.Done, "one"))
	s = keep(t, s, impl.Make{Name: "y", Tool: "cat", Arg: "b"}, looks, res(impl.Done, "two"))
	s.Texts = append(make([]string, 0, 50), s.Texts...)
	s.Records = append(make([]impl.Record, 0, 50), s.Records...)
	before := copyOfStore(s)
	for _, r := range []impl.Result{res(impl.Done, "one"), res(impl.Done, "three")} {
		kept := keep(t, s, catRun, looks, r)
		if len(s.Texts[:cap(s.Texts)][3]) != 0 || s.Records[:cap(s.Records)][2].Key != "" {
			t.Error("something is written behind the end of a store")
		}
		spoil(kept)
		if !reflect.DeepEqual(s, before) || looks[1] != found("b") {
			t.Error("a kept store shares memory with what was given")
		}
		again := keep(t, s, catRun, looks, r)
		for i := range again.Records {
			for j := range again.Records[i].Looks[:cap(again.Records[i].Looks)] {
				again.Records[i].Looks[:cap(again.Records[i].Looks)][j].Name = "?" + strconv.Itoa(i)
			}
		}
		for i, record := range again.Records {
			for _, glance := range record.Looks {
				if glance.Name != "?"+strconv.Itoa(i) {
					t.Error("two records share their looks")
				}
			}
		}
	}
}

func copyOfStore(s impl.Store) impl.Store {
	s.Texts = slices.Clone(s.Texts)
	s.Records = slices.Clone(s.Records)
	for i := range s.Records {
		s.Records[i].Looks = slices.Clone(s.Records[i].Looks)
	}
	return s
}

// spoil writes into all memory of a store.
func spoil(s impl.Store) {
	for i := range s.Texts[:cap(s.Texts)] {
		s.Texts[:cap(s.Texts)][i] = "spoilt"
	}
	for _, record := range s.Records {
		for j := range record.Looks[:cap(record.Looks)] {
			record.Looks[:cap(record.Looks)][j] = impl.Glance{Name: "spoilt"}
		}
	}
	for i := range s.Records[:cap(s.Records)] {
		s.Records[:cap(s.Records)][i] = impl.Record{Key: "spoilt"}
	}
}

// deedOf is a deed of which a Name and a Result are told.
func deedOf(name string, r impl.Result) impl.Deed {
	return impl.Deed{Name: name, Result: r}
}

func checkRecall(t *testing.T, s impl.Store, tree impl.Tree, m impl.Make, known []impl.Deed, want impl.Turn, looks []impl.Look) {
	t.Helper()
	if got, seen := impl.Recall(s, tree, m, known); got != want || !slices.Equal(seen, looks) {
		t.Errorf("recall of %+v: %+v with %+v, want %+v with %+v", m, got, seen, want, looks)
	}
}

func TestRecallByWhatIsKnown(t *testing.T) {
	tree := basicTree(t, "x cat y", "y cat one")
	m := impl.Make{Name: "x", Tool: "cat", Arg: "y"}
	cat, y := catLook(), asked("y", res(impl.Done, "1"))
	over := impl.Turn{Over: true, Result: res(impl.Done, "1")}
	for _, width := range []int{1, 8} {
		s := keep(t, impl.Store{Width: width}, m, []impl.Look{cat, y}, over.Result)
		known := []impl.Deed{deedOf("x", res(impl.Failed, "")), deedOf("y", res(impl.Done, "1"))}
		checkRecall(t, s, tree, m, nil, impl.Turn{Name: "y"}, []impl.Look{cat})
		checkRecall(t, s, tree, m, known[:1], impl.Turn{Name: "y"}, []impl.Look{cat})
		checkRecall(t, s, tree, m, known, over, []impl.Look{cat, y})
		checkRecall(t, s, tree, m, append(known[:2:2], deedOf("y", res(impl.Done, "2"))), over, []impl.Look{cat, y}) // of two deeds the first tells
		checkRecall(t, s, tree, impl.Make{Name: "z", Tool: "cat", Arg: "y"}, known, over, []impl.Look{cat, y})
		checkRecall(t, s, tree, impl.Make{Name: "x", Tool: "cat", Arg: "one"}, known, impl.Turn{}, nil)
		checkRecall(t, s, tree, impl.Make{Name: "x", Tool: "two", Arg: "y"}, known, impl.Turn{}, nil)
		checkRecall(t, impl.Store{Width: width}, tree, m, known, impl.Turn{}, nil)
		checkRecall(t, s, tree, m, []impl.Deed{deedOf("y", res(impl.Done, "2"))}, impl.Turn{}, nil)
		checkRecall(t, s, tree, m, []impl.Deed{deedOf("y", res(impl.Failed, "1"))}, impl.Turn{}, nil)
		checkRecall(t, s, setFile(t, tree, "cat", twoTool), m, known, impl.Turn{}, nil)
		checkRecall(t, s, setFile(t, tree, "cat", twoTool), m, nil, impl.Turn{}, nil)
		checkRecall(t, s, dropFile(t, tree, "cat"), m, nil, impl.Turn{}, nil)
		// y is a file, or no thing at all: then it is known, and no deed is asked
		noPlan := dropFile(t, tree, "plan")
		checkRecall(t, s, noPlan, m, known, impl.Turn{}, nil)
		checkRecall(t, s, setFile(t, noPlan, "y", "1"), m, nil, over, []impl.Look{cat, y})
		checkRecall(t, s, setFile(t, noPlan, "y", "1"), m, []impl.Deed{deedOf("y", res(impl.Done, "2"))}, over, []impl.Look{cat, y})
		checkRecall(t, s, setFile(t, noPlan, "y", "2"), m, known, impl.Turn{}, nil)
		missing := asked("y", res(impl.Missing, "y"))
		gone := keep(t, s, m, []impl.Look{cat, missing}, res(impl.Missing, "y"))
		checkRecall(t, gone, noPlan, m, known, impl.Turn{Over: true, Result: res(impl.Missing, "y")}, []impl.Look{cat, missing})
		checkRecall(t, gone, tree, m, known, over, []impl.Look{cat, y})
		checkRecall(t, gone, tree, m, nil, impl.Turn{Name: "y"}, []impl.Look{cat})
	}
}

func TestRecallOfToolsThatAreMade(t *testing.T) {
	tree := basicTree(t, "x t one", "t two cat,empty")
	m := impl.Make{Name: "x", Tool: "t", Arg: "one"}
	tool, one := asked("t", res(impl.Done, catTool)), asked("one", res(impl.Done, "1"))
	s := keep(t, impl.Store{Width: 8}, m, []impl.Look{tool, one}, res(impl.Done, "1"))
	checkRecall(t, s, tree, m, nil, impl.Turn{Name: "t"}, nil)
	checkRecall(t, s, tree, m, []impl.Deed{deedOf("t", res(impl.Done, catTool))}, impl.Turn{Over: true, Result: res(impl.Done, "1")}, []impl.Look{tool, one})
	checkRecall(t, s, tree, m, []impl.Deed{deedOf("t", res(impl.Done, twoTool))}, impl.Turn{}, nil)
}

func TestRecallOfLooksOfHas(t *testing.T) {
	tree := basicTree(t, "x has y", "y cat one", "z has gone", "f has one")
	has := asked("has", res(impl.Done, hasTool))
	for _, width := range []int{1, 8} {
		for name, thing := range map[string]bool{"y": true, "one": true, "gone": false, "x": true} {
			m := impl.Make{Name: "x", Tool: "has", Arg: name}
			yes := keep(t, impl.Store{Width: width}, m, []impl.Look{has, found(name)}, res(impl.Done, "1"))
			no := keep(t, impl.Store{Width: width}, m, []impl.Look{has, unfound(name)}, res(impl.Done, "0"))
			both := keep(t, yes, m, []impl.Look{has, unfound(name)}, res(impl.Done, "0"))
			if thing {
				checkRecall(t, yes, tree, m, nil, impl.Turn{Over: true, Result: res(impl.Done, "1")}, []impl.Look{has, found(name)})
				checkRecall(t, no, tree, m, nil, impl.Turn{}, nil)
				checkRecall(t, both, tree, m, nil, impl.Turn{Over: true, Result: res(impl.Done, "1")}, []impl.Look{has, found(name)})
				continue
			}
			checkRecall(t, no, tree, m, nil, impl.Turn{Over: true, Result: res(impl.Done, "0")}, []impl.Look{has, unfound(name)})
			checkRecall(t, yes, tree, m, nil, impl.Turn{}, nil)
			checkRecall(t, both, tree, m, []impl.Deed{deedOf("gone", res(impl.Done, ""))}, impl.Turn{Over: true, Result: res(impl.Done, "0")}, []impl.Look{has, unfound(name)})
		}
	}
	// what a look of Has saw is no ask, and an ask is none of Has
	m := impl.Make{Name: "x", Tool: "has", Arg: "one"}
	strange := impl.Store{Width: 8, Texts: []string{"0:1"}, Records: []impl.Record{
		{Key: "has one", Looks: []impl.Glance{{Has: true, Name: "one", Sum: impl.Sum("0:1", 8)}}, Out: impl.Sum("0:1", 8)},
		{Key: "has one", Looks: []impl.Glance{{Name: "one", Sum: impl.Sum("1", 8)}}, Out: impl.Sum("0:1", 8)},
	}}
	checkRecall(t, strange, tree, m, nil, impl.Turn{}, nil)
}

// TestRunsThatBeginAsAnother keeps runs with one key, told apart by later looks.
func TestRunsThatBeginAsAnother(t *testing.T) {
	tree := basicTree(t, "x if y,z,w", "y cat one", "z cat one", "w cat one")
	m := impl.Make{Name: "x", Tool: "if", Arg: "y\nz\nw"}
	tool := asked("if", res(impl.Done, ifTool))
	yes, no := asked("y", res(impl.Done, "1")), asked("y", res(impl.Done, "2"))
	z, w := asked("z", res(impl.Done, "zz")), asked("w", res(impl.Done, "ww"))
	s := keep(t, impl.Store{Width: 8}, m, []impl.Look{tool, yes, z}, res(impl.Done, "zz"))
	s = keep(t, s, m, []impl.Look{tool, no, w}, res(impl.Done, "ww"))
	s = keep(t, s, m, []impl.Look{tool, yes, asked("z", res(impl.Failed, "zz"))}, res(impl.Below, "z"))
	failed := asked("z", res(impl.Failed, "zz"))
	for i, c := range []struct {
		known []impl.Deed
		want  impl.Turn
		looks []impl.Look
	}{
		{nil, impl.Turn{Name: "y"}, []impl.Look{tool}},
		{[]impl.Deed{deedOf("z", z.Result), deedOf("w", w.Result)}, impl.Turn{Name: "y"}, []impl.Look{tool}},
		{[]impl.Deed{deedOf("y", yes.Result)}, impl.Turn{Name: "z"}, []impl.Look{tool, yes}},
		{[]impl.Deed{deedOf("y", no.Result)}, impl.Turn{Name: "w"}, []impl.Look{tool, no}},
		{[]impl.Deed{deedOf("y", no.Result), deedOf("z", z.Result)}, impl.Turn{Name: "w"}, []impl.Look{tool, no}},
		{[]impl.Deed{deedOf("y", yes.Result), deedOf("z", z.Result)}, impl.Turn{Over: true, Result: z.Result}, []impl.Look{tool, yes, z}},
		{[]impl.Deed{deedOf("w", w.Result), deedOf("y", no.Result)}, impl.Turn{Over: true, Result: w.Result}, []impl.Look{tool, no, w}},
		{[]impl.Deed{deedOf("y", yes.Result), deedOf("z", failed.Result)}, impl.Turn{Over: true, Result: res(impl.Below, "z")}, []impl.Look{tool, yes, failed}},
		{[]impl.Deed{deedOf("y", yes.Result), deedOf("z", res(impl.Done, "other"))}, impl.Turn{}, nil},
		{[]impl.Deed{deedOf("y", res(impl.Done, "3"))}, impl.Turn{}, nil},
	} {
		if got, looks := impl.Recall(s, tree, m, c.known); got != c.want || !slices.Equal(looks, c.looks) {
			t.Errorf("case %d: %+v with %+v", i, got, looks)
		}
	}
}

// TestRecordsThatAreGoneThroughInOrder asks for the first record that fits, and for its text.
func TestRecordsThatAreGoneThroughInOrder(t *testing.T) {
	tree := basicTree(t, "x cat y", "y cat one")
	m := impl.Make{Name: "x", Tool: "cat", Arg: "one"}
	looks := []impl.Look{catLook(), asked("one", res(impl.Done, "1"))}
	first := keep(t, impl.Store{Width: 8}, m, looks, res(impl.Done, "first"))
	s := keep(t, first, m, looks, res(impl.Done, "second"))
	checkRecall(t, s, tree, m, nil, impl.Turn{Over: true, Result: res(impl.Done, "first")}, looks)
	s.Texts = slices.DeleteFunc(s.Texts, func(text string) bool { return text == "0:first" })
	checkRecall(t, s, tree, m, nil, impl.Turn{Over: true, Result: res(impl.Done, "second")}, looks)
	s.Texts = slices.DeleteFunc(s.Texts, func(text string) bool { return text == "0:second" })
	checkRecall(t, s, tree, m, nil, impl.Turn{}, nil)
	s.Texts = nil // the texts of what the looks saw are not asked for
	checkRecall(t, s, tree, m, nil, impl.Turn{}, nil)
	s.Texts = []string{"0:second"}
	checkRecall(t, s, tree, m, nil, impl.Turn{Over: true, Result: res(impl.Done, "second")}, looks)
	// a record without looks fits everywhere; one that waits ahead of it stops the search
	wait := impl.Record{Key: "cat one", Looks: []impl.Glance{{Has: true, Name: "gone", Sum: impl.Sum("0", 8)}, {Name: "y", Sum: xs(8)}, {Name: "one", Sum: xs(8)}}, Out: impl.Sum("0:second", 8)}
	bare := impl.Record{Key: "cat one", Out: impl.Sum("0:second", 8)}
	s.Records = []impl.Record{bare, wait}
	checkRecall(t, s, tree, m, nil, impl.Turn{Over: true, Result: res(impl.Done, "second")}, nil)
	s.Records = []impl.Record{wait, bare}
	checkRecall(t, s, tree, m, nil, impl.Turn{Name: "y"}, []impl.Look{unfound("gone")})
	checkRecall(t, s, tree, m, []impl.Deed{deedOf("y", res(impl.Done, "1"))}, impl.Turn{Over: true, Result: res(impl.Done, "second")}, nil)
}

func TestWrongRecalls(t *testing.T) {
	tree := basicTree(t, "x cat y", "y cat one")
	m := impl.Make{Name: "x", Tool: "cat", Arg: "y"}
	s := keep(t, impl.Store{Width: 8}, m, []impl.Look{catLook(), asked("y", res(impl.Done, "1"))}, res(impl.Done, "1"))
	known := deedOf("y", res(impl.Done, "1"))
	for _, r := range wrongResults() {
		checkRecall(t, s, tree, m, []impl.Deed{deedOf("elsewhere", r)}, impl.Turn{}, nil)
		checkRecall(t, s, tree, m, []impl.Deed{known, deedOf("y", r)}, impl.Turn{}, nil)
		checkRecall(t, s, tree, m, []impl.Deed{deedOf("one", r), known}, impl.Turn{}, nil)
	}
	for _, name := range wrongNames {
		checkRecall(t, s, tree, m, []impl.Deed{known, deedOf(name, res(impl.Done, "1"))}, impl.Turn{}, nil)
	}
	bare := impl.Store{Width: 8, Texts: []string{"0:"}}
	for _, wrong := range wrongRuns() {
		checkRecall(t, s, tree, wrong, nil, impl.Turn{}, nil)
		if key := wrong.Tool + " " + wrong.Arg; len(key) <= mostKey {
			bare.Records = []impl.Record{{Key: key, Out: impl.Sum("0:", 8)}}
			checkRecall(t, bare, tree, wrong, nil, impl.Turn{}, nil)
		}
	}
	for _, wrong := range wrongTrees() {
		bare.Records = []impl.Record{{Key: "cat y", Out: impl.Sum("0:", 8)}}
		checkRecall(t, bare, wrong, m, nil, impl.Turn{}, nil)
	}
	for _, wrong := range wrongStores(t, 8) {
		if len(wrong.Records) < impl.MaxRecords {
			wrong.Records = append(slices.Clone(wrong.Records), s.Records...)
		}
		checkRecall(t, wrong, tree, m, nil, impl.Turn{}, nil)
	}
}

func TestRecallLeavesItsArguments(t *testing.T) {
	tree := basicTree(t, "x cat y", "y cat one")
	m := impl.Make{Name: "x", Tool: "cat", Arg: "y"}
	looks := []impl.Look{catLook(), asked("y", res(impl.Done, "1"))}
	s := keep(t, impl.Store{Width: 8}, m, looks, res(impl.Done, "1"))
	known := []impl.Deed{{Name: "y", Made: true, Make: m, Looks: looks, Result: res(impl.Done, "1")}}
	before, files := copyOfStore(s), slices.Clone(tree.Files)
	_, seen := impl.Recall(s, tree, m, known)
	for i := range seen {
		seen[i] = impl.Look{Name: "spoilt"}
	}
	if !reflect.DeepEqual(s, before) || !slices.Equal(tree.Files, files) || known[0].Looks[0] != catLook() || looks[0] != catLook() {
		t.Error("an argument has changed")
	}
}

// knownOf are the deeds of all things of a plan that have come to something.
func knownOf(tree impl.Tree) []impl.Deed {
	var known []impl.Deed
	for _, m := range impl.Plan(tree) {
		if r := impl.Want(tree, m.Name); r.Code != impl.Circle {
			known = append(known, impl.Deed{Name: m.Name, Made: true, Make: m, Looks: impl.Looks(tree, m.Name), Result: r})
		}
	}
	return known
}

// TestKeptRunsAreRecalled keeps each run of a tree in an empty store, and asks for it where it was made.
func TestKeptRunsAreRecalled(t *testing.T) {
	r := rand.New(rand.NewSource(6))
	kept, clashed := 0, 0
	for range 300 {
		tree := randomTree(t, r)
		known := knownOf(tree)
		for _, d := range known {
			for _, width := range []int{1, 2, impl.MaxWidth} {
				s, code := impl.Keep(impl.Store{Width: width}, d.Make, d.Looks, d.Result)
				if code == 3 && width < 3 {
					clashed++
					continue
				}
				if code != 0 || !impl.ValidStore(s) {
					t.Fatalf("keep of %+v: code %d, %+v", d, code, s)
				}
				kept++
				if got, looks := impl.Recall(s, tree, d.Make, known); got != (impl.Turn{Over: true, Result: d.Result}) || !slices.Equal(looks, d.Looks) {
					t.Fatalf("recall of %+v from %+v: %+v with %+v", d, s, got, looks)
				}
			}
		}
	}
	if kept < 1000 || clashed == 0 {
		t.Errorf("%d kept, %d clashed", kept, clashed)
	}
}

// slowRecall is Recall of what is valid, by going through lists.
func slowRecall(s impl.Store, tree impl.Tree, m impl.Make, known []impl.Deed) (impl.Turn, []impl.Look) {
nextRecord:
	for _, record := range s.Records {
		if record.Key != m.Tool+" "+m.Arg {
			continue
		}
		var looks []impl.Look
		for _, glance := range record.Looks {
			answer, isKnown, thing := slowKnown(tree, known, glance.Name)
			form := impl.FormResult(answer)
			switch {
			case glance.Has && thing:
				answer, form = impl.Result{}, "1"
			case glance.Has:
				answer, form = res(impl.Missing, glance.Name), "0"
			case !isKnown:
				return impl.Turn{Name: glance.Name}, looks
			}
			if impl.Sum(form, s.Width) != glance.Sum {
				continue nextRecord
			}
			looks = append(looks, impl.Look{Has: glance.Has, Name: glance.Name, Result: answer})
		}
		for _, text := range s.Texts {
			if impl.Sum(text, s.Width) == record.Out {
				r, _ := impl.ReadResult(text)
				return impl.Turn{Over: true, Result: r}, looks
			}
		}
	}
	return impl.Turn{}, nil
}

// slowKnown gives what a name comes to, whether that is known, and whether there is a thing with this name.
func slowKnown(tree impl.Tree, known []impl.Deed, name string) (impl.Result, bool, bool) {
	for _, f := range tree.Files {
		if f.Name == name {
			return res(impl.Done, f.Text), true, true
		}
	}
	for _, m := range impl.Plan(tree) {
		if m.Name != name {
			continue
		}
		for _, d := range known {
			if d.Name == name {
				return d.Result, true, true
			}
		}
		return impl.Result{}, false, true
	}
	return res(impl.Missing, name), true, false
}

// TestStoresOfManyTrees keeps the runs of some trees in one store, and recalls them in these and in others, with some of it known.
func TestStoresOfManyTrees(t *testing.T) {
	r := rand.New(rand.NewSource(61))
	codes := map[int]int{}
	over, waits, none := 0, 0, 0
	for range 400 {
		s := impl.Store{Width: []int{1, 2, impl.MaxWidth}[r.Intn(3)]}
		trees := []impl.Tree{randomTree(t, r)}
		for range 6 {
			trees = append(trees, changedTree(t, r, trees[len(trees)-1]))
		}
		for _, tree := range trees {
			known := knownOf(tree)
			for _, d := range known {
				if r.Intn(5) == 0 {
					continue
				}
				kept, code := impl.Keep(s, d.Make, d.Looks, d.Result)
				want, slowCode := slowKeep(s, d.Make, d.Looks, d.Result)
				if code != slowCode || !reflect.DeepEqual(kept, want) || code == 0 && !impl.ValidStore(kept) {
					t.Fatalf("keep of %+v in %+v: code %d and %+v, going through it: code %d and %+v", d, s, code, kept, slowCode, want)
				}
				codes[code]++
				if code == 0 {
					s = kept
				}
			}
			some := slices.DeleteFunc(known, func(impl.Deed) bool { return r.Intn(2) == 0 })
			for _, m := range impl.Plan(trees[r.Intn(len(trees))]) {
				got, looks := impl.Recall(s, tree, m, some)
				want, slowLooks := slowRecall(s, tree, m, some)
				if got != want || !slices.Equal(looks, slowLooks) {
					t.Fatalf("recall of %+v: %+v with %+v, going through it: %+v with %+v", m, got, looks, want, slowLooks)
				}
				switch {
				case got.Over:
					over++
				case got.Name != "":
					waits++
				default:
					none++
				}
			}
		}
	}
	if codes[0] < 1000 || codes[3] < 10 || over < 1000 || waits < 50 || none < 1000 {
		t.Errorf("codes %v; %d over, %d wait, %d are not remembered", codes, over, waits, none)
	}
}
