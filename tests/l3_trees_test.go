package tests

import (
	"math/rand"
	"slices"
	"strconv"
	"strings"
	"testing"

	"loop.example/kiln/impl"
)

// treeOf makes a tree of names and texts, set one by one.
func treeOf(t *testing.T, namesAndTexts ...string) impl.Tree {
	t.Helper()
	var tree impl.Tree
	for i := 0; i < len(namesAndTexts); i += 2 {
		tree = setFile(t, tree, namesAndTexts[i], namesAndTexts[i+1])
	}
	return tree
}

func setFile(t *testing.T, tree impl.Tree, name, text string) impl.Tree {
	t.Helper()
	changed, code := impl.SetFile(tree, impl.File{Name: name, Text: text})
	if code != 0 {
		t.Fatalf("file %q %q: code %d", name, text, code)
	}
	return changed
}

func dropFile(t *testing.T, tree impl.Tree, name string) impl.Tree {
	t.Helper()
	changed, code := impl.DropFile(tree, name)
	if code != 0 {
		t.Fatalf("drop %q: code %d", name, code)
	}
	return changed
}

// numbered are so many files with ascending names.
func numbered(n int) []impl.File {
	var files []impl.File
	for i := range n {
		files = append(files, impl.File{Name: "f" + strconv.Itoa(100+i), Text: strconv.Itoa(i)})
	}
	return files
}

// wrongTrees are trees that are not valid.
func wrongTrees() []impl.Tree {
	wrong := []impl.Tree{
		{Files: []impl.File{{Name: "b"}, {Name: "a"}}},
		{Files: []impl.File{{Name: "a"}, {Name: "a"}}},
		{Files: []impl.File{{Name: "aa"}, {Name: "a"}}},
		{Files: []impl.File{{Name: "a"}, {Name: "c"}, {Name: "b"}}},
		{Files: []impl.File{{Name: "a"}, {Name: "b", Text: xs(impl.MaxText + 1)}}},
		{Files: numbered(impl.MaxFiles + 1)},
	}
	for _, name := range wrongNames {
		wrong = append(wrong, impl.Tree{Files: []impl.File{{Name: name}}})
	}
	return wrong
}

// wrongNames are texts that are no names.
var wrongNames = []string{"", " ", "a b", "a\n", "\t", "\x00", "\x7f", "\x80", "é", xs(impl.MaxName + 1)}

func TestValidTree(t *testing.T) {
	for _, tree := range []impl.Tree{
		{}, {Files: []impl.File{}}, {Files: []impl.File{{Name: "a"}}}, {Files: []impl.File{{Name: "!"}, {Name: "A"}, {Name: "a"}, {Name: "aa"}, {Name: "~"}}},
		{Files: []impl.File{{Name: xs(impl.MaxName), Text: xs(impl.MaxText)}}},
		{Files: []impl.File{{Name: "a", Text: "\x00\n\xff"}}},
		{Files: numbered(impl.MaxFiles)},
	} {
		if !impl.ValidTree(tree) {
			t.Errorf("%+v is valid", tree)
		}
	}
	for _, tree := range wrongTrees() {
		if impl.ValidTree(tree) {
			t.Errorf("%+v is not valid", tree)
		}
	}
}

func TestFilesSetAndDroppedInEveryPlace(t *testing.T) {
	files := numbered(6)
	for place, file := range files {
		rest := slices.Delete(slices.Clone(files), place, place+1)
		without := impl.Tree{Files: rest}
		with, code := impl.SetFile(without, file)
		if code != 0 || !slices.Equal(with.Files, files) || len(without.Files) != 5 {
			t.Errorf("set at %d: %+v, code %d", place, with, code)
		}
		dropped, code := impl.DropFile(with, file.Name)
		if code != 0 || !slices.Equal(dropped.Files, rest) || !slices.Equal(with.Files, files) {
			t.Errorf("dropped at %d: %+v, code %d", place, dropped, code)
		}
		changed, code := impl.SetFile(with, impl.File{Name: file.Name, Text: "new"})
		want := slices.Clone(files)
		want[place].Text = "new"
		if code != 0 || !slices.Equal(changed.Files, want) || !slices.Equal(with.Files, files) {
			t.Errorf("changed at %d: %+v, code %d", place, changed, code)
		}
	}
}

func TestTreeCodes(t *testing.T) {
	full := impl.Tree{Files: numbered(impl.MaxFiles)}
	for _, c := range []struct {
		tree impl.Tree
		file impl.File
		code int
	}{
		{full, impl.File{Name: "a"}, 3}, {full, impl.File{Name: "z"}, 3}, {full, impl.File{Name: "f100"}, 0}, {full, impl.File{Name: "f139"}, 0},
		{full, impl.File{Name: "a b"}, 2}, {full, impl.File{Name: "f100", Text: xs(impl.MaxText + 1)}, 2},
		{impl.Tree{Files: numbered(impl.MaxFiles - 1)}, impl.File{Name: "z"}, 0},
		{impl.Tree{}, impl.File{Name: xs(impl.MaxName), Text: xs(impl.MaxText)}, 0},
	} {
		changed, code := impl.SetFile(c.tree, c.file)
		if code != c.code || !impl.ValidTree(changed) || code != 0 && len(changed.Files) != 0 {
			t.Errorf("set of %+v among %d: %+v, code %d, want %d", c.file, len(c.tree.Files), changed, code, c.code)
		}
	}
	for _, name := range wrongNames {
		if changed, code := impl.SetFile(impl.Tree{}, impl.File{Name: name}); code != 2 || len(changed.Files) != 0 {
			t.Errorf("set of %q: code %d", name, code)
		}
		if changed, code := impl.DropFile(full, name); code != 4 || len(changed.Files) != 0 {
			t.Errorf("drop of %q: code %d", name, code)
		}
	}
	for _, name := range []string{"a", "f1", "f1000", "z", "f100 "} {
		if changed, code := impl.DropFile(full, name); code != 4 || len(changed.Files) != 0 {
			t.Errorf("drop of %q: code %d", name, code)
		}
	}
	if _, code := impl.DropFile(impl.Tree{}, "a"); code != 4 {
		t.Errorf("drop of nothing: code %d", code)
	}
	for _, tree := range wrongTrees() {
		if changed, code := impl.SetFile(tree, impl.File{Name: "a b"}); code != 1 || len(changed.Files) != 0 {
			t.Errorf("set in %+v: code %d", tree, code)
		}
		if changed, code := impl.DropFile(tree, tree.Files[0].Name); code != 1 || len(changed.Files) != 0 {
			t.Errorf("drop in %+v: code %d", tree, code)
		}
	}
}

func TestTreesAreNewMemory(t *testing.T) {
	room := append(numbered(3), impl.File{Name: "z"}, impl.File{Name: "zz"})
	before := slices.Clone(room)
	tree := impl.Tree{Files: room[:3]}
	set, _ := impl.SetFile(tree, impl.File{Name: "f1"})
	last, _ := impl.SetFile(tree, impl.File{Name: "y"})
	changed, _ := impl.SetFile(tree, impl.File{Name: "f101", Text: "new"})
	dropped, _ := impl.DropFile(tree, "f100")
	for _, made := range []impl.Tree{set, last, changed, dropped} {
		whole := made.Files[:cap(made.Files)]
		for i := range whole {
			whole[i] = impl.File{Name: "?"}
		}
	}
	if !slices.Equal(room, before) {
		t.Errorf("the tree has become %+v", room)
	}
}

// planForms are plans with their forms.
var planForms = []struct {
	makes []impl.Make
	form  string
}{
	{nil, ""},
	{[]impl.Make{{Name: "x", Tool: "t"}}, "make x t \"\"\n"},
	{[]impl.Make{{Name: "x", Tool: "x", Arg: "x"}}, "make x x \"x\"\n"},
	{[]impl.Make{{Name: "\"", Tool: "\\", Arg: "\" \\ \n"}}, "make \" \\ \"\\22 \\5c \\0a\"\n"},
	{[]impl.Make{{Name: "a", Tool: "t", Arg: "a b"}, {Name: "aa", Tool: "make", Arg: "\x00\xff"}, {Name: "b", Tool: "t", Arg: "~"}}, "make a t \"a b\"\nmake aa make \"\\00\\ff\"\nmake b t \"~\"\n"},
	{[]impl.Make{{Name: xs(impl.MaxName), Tool: xs(impl.MaxName)}}, "make " + xs(impl.MaxName) + " " + xs(impl.MaxName) + " \"\"\n"},
	{[]impl.Make{{Name: "x", Tool: "t", Arg: xs(288)}}, "make x t \"" + xs(288) + "\"\n"},
	{letters(25), lettersForm(25)},
}

// letters are so many makes of one letter each; the form of each has 12 bytes.
func letters(n int) []impl.Make {
	var makes []impl.Make
	for i := range n {
		makes = append(makes, impl.Make{Name: string([]byte{byte('A' + i)}), Tool: "t"})
	}
	return makes
}

func lettersForm(n int) string {
	form := ""
	for _, m := range letters(n) {
		form += "make " + m.Name + " t \"\"\n"
	}
	return form
}

func checkPlan(t *testing.T, makes []impl.Make, form string) {
	t.Helper()
	before := slices.Clone(makes)
	if got := impl.FormPlan(makes); got != form {
		t.Errorf("form %q, want %q", got, form)
	}
	if got, ok := impl.ReadPlan(form); !ok || !slices.Equal(got, makes) {
		t.Errorf("read of %q: %+v %v", form, got, ok)
	}
	if !slices.Equal(makes, before) {
		t.Errorf("%q: the makes have changed", form)
	}
}

func TestPlanForms(t *testing.T) {
	for _, p := range planForms {
		checkPlan(t, p.makes, p.form)
	}
}

func TestReadOfFormGivesThePlan(t *testing.T) {
	r := rand.New(rand.NewSource(3))
	long := 0
	for range 3000 {
		var makes []impl.Make
		for name := byte('!'); name <= '~'; name++ {
			if r.Intn(12) == 0 {
				arg := make([]byte, r.Intn(20))
				for i := range arg {
					arg[i] = byte(r.Intn(256))
				}
				makes = append(makes, impl.Make{Name: string([]byte{name}) + xs(r.Intn(5)), Tool: xs(1 + r.Intn(4)), Arg: string(arg)})
			}
		}
		form := impl.FormPlan(makes)
		if form == "" && len(makes) > 0 {
			long++
			continue
		}
		checkPlan(t, makes, form)
	}
	if long == 0 || long == 3000 {
		t.Errorf("%d plans have no form", long)
	}
}

func TestReadPlanReadsNothingElse(t *testing.T) {
	for _, p := range planForms {
		if len(p.form) > 100 {
			continue
		}
		for i := range len(p.form) {
			checkReadPlan(t, p.form[:i])
			checkReadPlan(t, p.form[:i]+p.form[i+1:])
			for b := range 256 {
				checkReadPlan(t, p.form[:i]+string([]byte{byte(b)})+p.form[i:])
				checkReadPlan(t, p.form[:i]+string([]byte{byte(b)})+p.form[i+1:])
			}
		}
	}
}

// checkReadPlan asks that a text that is read is the form of what was read.
func checkReadPlan(t *testing.T, s string) {
	t.Helper()
	makes, ok := impl.ReadPlan(s)
	if ok && impl.FormPlan(makes) != s {
		t.Errorf("read of %q, which is the form of nothing: %+v", s, makes)
	}
	if !ok && len(makes) != 0 {
		t.Errorf("%q is not read, but gives %+v", s, makes)
	}
}

func TestAlmostPlans(t *testing.T) {
	for _, s := range []string{
		"\n", " ", "x", "make", "make\n", "make \n", "make x\n", "make x t\n", "make x t \n", "make x t \"\"", "make x t \"\"\n\n", "\nmake x t \"\"\n",
		"make x t x\n", "make x t \"\n", "make x t \"x\n", "make x t \"\\41\"\n", "make x t \"\\0A\"\n", "make x t \"\\0\"\n", "make x t \"\"\"\n", "make x t \"\" \n", "make x t  \"\"\n",
		"make  x t \"\"\n", "make x  t \"\"\n", " make x t \"\"\n", "make  t \"\"\n", "make x  \"\"\n", "Make x t \"\"\n", "made x t \"\"\n", "makex t \"\"\n", "make\tx t \"\"\n", "make x t u \"\"\n", "make x\tu t \"\"\n",
		"make x t \"\"\r\n", "make x t \"\x7f\"\n", "make é t \"\"\n", "make x é \"\"\n",
		"make " + xs(impl.MaxName+1) + " t \"\"\n", "make x " + xs(impl.MaxName+1) + " \"\"\n",
		"make x t \"\"\nmake x t \"\"\n", "make y t \"\"\nmake x t \"\"\n", "make aa t \"\"\nmake a t \"\"\n", "make a t \"\"\nmake c t \"\"\nmake b t \"\"\n",
		"make x t \"" + xs(289) + "\"\n", lettersForm(26), lettersForm(impl.MaxMakes), lettersForm(impl.MaxMakes + 1),
	} {
		if makes, ok := impl.ReadPlan(s); ok || len(makes) != 0 {
			t.Errorf("read of %q: %+v %v", s, makes, ok)
		}
	}
}

// wrongMakes are makes that are no plan, or whose form is too long.
func wrongMakes() [][]impl.Make {
	wrong := [][]impl.Make{
		{{Name: "b", Tool: "t"}, {Name: "a", Tool: "t"}},
		{{Name: "a", Tool: "t"}, {Name: "a", Tool: "u"}},
		{{Name: "a", Tool: "t"}, {Name: "c", Tool: "t"}, {Name: "b", Tool: "t"}},
		{{Name: "a", Tool: "t", Arg: xs(impl.MaxText + 1)}},
		{{Name: "a", Tool: "t", Arg: xs(impl.MaxText)}},
		{{Name: "a", Tool: "t", Arg: xs(289)}},
		{{Name: "a", Tool: "t", Arg: strings.Repeat("\n", 97)}},
		letters(26), letters(impl.MaxMakes), letters(impl.MaxMakes + 1),
	}
	for _, name := range wrongNames {
		wrong = append(wrong, []impl.Make{{Name: name, Tool: "t"}}, []impl.Make{{Name: "a", Tool: name}}, []impl.Make{{Name: "\x21", Tool: "t"}, {Name: "~", Tool: name}})
	}
	return wrong
}

func TestWrongPlansHaveNoForm(t *testing.T) {
	for _, makes := range wrongMakes() {
		if form := impl.FormPlan(makes); form != "" {
			t.Errorf("form of %+v: %q", makes, form)
		}
	}
}

func TestPlanOfTree(t *testing.T) {
	plan := "make a t \"1\"\nmake c t \"2\"\n"
	both := []impl.Make{{Name: "a", Tool: "t", Arg: "1"}, {Name: "c", Tool: "t", Arg: "2"}}
	for _, c := range []struct {
		tree impl.Tree
		want []impl.Make
	}{
		{impl.Tree{}, nil},
		{treeOf(t, "plam", plan, "plans", plan, "Plan", plan), nil},
		{treeOf(t, "plan", ""), nil},
		{treeOf(t, "plan", plan), both},
		{treeOf(t, "plan", plan, "b", "", "t", "", "aa", "", "C", ""), both},
		{treeOf(t, "plan", plan, "a", ""), nil},
		{treeOf(t, "plan", plan, "c", ""), nil},
		{treeOf(t, "plan", plan+"\n"), nil},
		{treeOf(t, "plan", "make plan t \"\"\n"), nil},
		{treeOf(t, "plan", "make x plan \"plan\"\n"), []impl.Make{{Name: "x", Tool: "plan", Arg: "plan"}}},
		{treeOf(t, "plan", lettersForm(25)), letters(25)},
		{treeOf(t, "plan", lettersForm(25), "Y", ""), nil},
	} {
		if got := impl.Plan(c.tree); !slices.Equal(got, c.want) {
			t.Errorf("plan of %+v: %+v", c.tree, got)
		}
	}
	for _, tree := range wrongTrees() {
		tree.Files = append(tree.Files, impl.File{Name: "plan", Text: plan})
		if got := impl.Plan(tree); len(got) != 0 {
			t.Errorf("plan of %+v: %+v", tree, got)
		}
	}
	if got := impl.Plan(impl.Tree{Files: []impl.File{{Name: "plan", Text: plan}, {Name: "b"}}}); len(got) != 0 {
		t.Errorf("plan of a tree out of order: %+v", got)
	}
}
