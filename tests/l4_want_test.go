package tests

import (
	"math/rand"
	"reflect"
	"slices"
	"strings"
	"testing"

	"loop.example/kiln/impl"
)

// toolText is the text of a tool whose lines stand with "; " between.
func toolText(lines string) string {
	return strings.ReplaceAll(lines, "; ", "\n") + "\n"
}

// planText is the text of a plan whose makes are told by three words each, with "," for a newline in the Arg.
func planText(t *testing.T, makes ...string) string {
	t.Helper()
	var plan []impl.Make
	slices.Sort(makes)
	for _, m := range makes {
		words := strings.SplitN(m, " ", 3)
		plan = append(plan, impl.Make{Name: words[0], Tool: words[1], Arg: strings.ReplaceAll(words[2], ",", "\n")})
	}
	text := impl.FormPlan(plan)
	if text == "" && len(makes) > 0 {
		t.Fatalf("no plan: %q", makes)
	}
	return text
}

var (
	catTool    = toolText("arg; ask; put; end")
	twoTool    = toolText("arg; line 0; ask; put; arg; line 1; ask; put; end")
	hasTool    = toolText("arg; has; put; end")
	failTool   = toolText("arg; fail")
	loopTool   = toolText("go 0")
	followTool = toolText("arg; ask; ask; put; end")
	// ifHasTool asks for the second line, if there is a thing with the name of the first.
	ifHasTool = toolText("arg; line 0; has; if 5 \"1\"; end; arg; line 1; ask; put; end")
	// ifTool asks for the second line, if the thing of the first is 1, else for the third.
	ifTool = toolText("arg; line 0; ask; if 6 \"1\"; arg; go 9; arg; line 1; go 10; line 2; ask; put; end")
)

func res(code int, text string) impl.Result {
	return impl.Result{Code: code, Text: text}
}

func asked(name string, r impl.Result) impl.Look {
	return impl.Look{Name: name, Result: r}
}

func found(name string) impl.Look {
	return impl.Look{Has: true, Name: name}
}

func unfound(name string) impl.Look {
	return impl.Look{Has: true, Name: name, Result: res(impl.Missing, name)}
}

func basicTree(t *testing.T, makes ...string) impl.Tree {
	t.Helper()
	return treeOf(t, "cat", catTool, "two", twoTool, "has", hasTool, "fail", failTool, "loop", loopTool, "follow", followTool,
		"ifHas", ifHasTool, "if", ifTool, "one", "1", "empty", "", "word", "one", "plan", planText(t, makes...))
}

func TestWantOfNames(t *testing.T) {
	makes := []string{"a cat one", "b two one,a", "c fail why", "d cat c", "e has c", "f cat gone", "g cat f", "h loop ", "i follow word"}
	tree := basicTree(t, makes...)
	for name, want := range map[string]impl.Result{
		"one": res(impl.Done, "1"), "empty": res(impl.Done, ""), "plan": res(impl.Done, planText(t, makes...)),
		"gone": res(impl.Missing, "gone"), "?": res(impl.Missing, "?"), xs(impl.MaxName): res(impl.Missing, xs(impl.MaxName)),
		"a": res(impl.Done, "1"), "b": res(impl.Done, "11"), "c": res(impl.Failed, "why"), "d": res(impl.Below, "c"), "e": res(impl.Done, "1"),
		"f": res(impl.Missing, "gone"), "g": res(impl.Missing, "f"), "h": res(impl.Spent, ""), "i": res(impl.Done, "1"),
	} {
		if got := impl.Want(tree, name); got != want {
			t.Errorf("%s: %+v, want %+v", name, got, want)
		}
	}
}

func TestWantWithoutAPlan(t *testing.T) {
	tree := basicTree(t, "a cat one")
	for _, text := range []string{"", "make a cat \"one\"", "make a cat one\n", "make a cat \"one\"\nmake one cat \"a\"\n"} {
		if got := impl.Want(setFile(t, tree, "plan", text), "a"); got != res(impl.Missing, "a") {
			t.Errorf("%q: %+v", text, got)
		}
	}
	if got := impl.Want(setFile(t, tree, "a", "is a file"), "a"); got != res(impl.Done, "is a file") {
		t.Errorf("file and make: %+v", got)
	}
	if got := impl.Want(dropFile(t, tree, "plan"), "a"); got != res(impl.Missing, "a") {
		t.Errorf("no plan: %+v", got)
	}
}

func TestTools(t *testing.T) {
	tree := basicTree(t, "a cat one", "b a x", "c gone x", "d m x", "e failed x", "f empty x", "failed fail no", "g copy one", "h h x", "i loops x",
		"copy cat cat", "loops loop x", "m cat gone", "n f x", "o two cat,empty")
	for name, want := range map[string]impl.Result{
		"a":      res(impl.Done, "1"),
		"b":      res(impl.NoTool, "a"),     // made, but no tool
		"c":      res(impl.Missing, "gone"), // there is none
		"d":      res(impl.Missing, "m"),    // made, but Missing: with the Tool's name
		"e":      res(impl.Below, "failed"), // made, but Failed
		"f":      res(impl.NoTool, "empty"), // the empty text is no tool
		"g":      res(impl.Done, "1"),       // a tool that is made
		"h":      res(impl.Circle, ""),      // its own tool
		"i":      res(impl.Below, "loops"),  // made, but Spent
		"n":      res(impl.Below, "f"),      // made, but NoTool
		"o":      res(impl.Done, catTool),   // made by a tool that is a file
		"copy":   res(impl.Done, catTool),
		"failed": res(impl.Failed, "no"),
		"m":      res(impl.Missing, "gone"),
		"loops":  res(impl.Spent, ""),
		"cat":    res(impl.Done, catTool),
		"gone":   res(impl.Missing, "gone"),
		"never":  res(impl.Missing, "never"),
		"follow": res(impl.Done, followTool),
	} {
		if got := impl.Want(tree, name); got != want {
			t.Errorf("%s: %+v, want %+v", name, got, want)
		}
	}
	for name, want := range map[string][]impl.Look{
		"c": {asked("gone", res(impl.Missing, "gone"))},
		"d": {asked("m", res(impl.Missing, "gone"))},
		"e": {asked("failed", res(impl.Failed, "no"))},
		"f": {asked("empty", res(impl.Done, ""))},
		"g": {asked("copy", res(impl.Done, catTool)), asked("one", res(impl.Done, "1"))},
		"h": nil,
		"i": {asked("loops", res(impl.Spent, ""))},
	} {
		if got := impl.Looks(tree, name); !slices.Equal(got, want) {
			t.Errorf("%s: %+v, want %+v", name, got, want)
		}
	}
}

func TestCircles(t *testing.T) {
	tree := basicTree(t, "a cat a", "b cat a", "c cat d", "d two one,c", "e cat c", "f has c", "g ifHas c,one", "h ifHas gone,h", "i if one,one,i", "j if empty,one,j", "k c x", "l two c,gone")
	circle := res(impl.Circle, "")
	for name, want := range map[string]impl.Result{
		"a": circle, "b": circle, "c": circle, "d": circle, "e": circle, "f": res(impl.Done, "1"), "g": res(impl.Done, "1"),
		"h": res(impl.Done, ""), "i": res(impl.Done, "1"), "j": circle, "k": circle, "l": circle,
	} {
		if got := impl.Want(tree, name); got != want {
			t.Errorf("%s: %+v, want %+v", name, got, want)
		}
	}
	cat, one := asked("cat", res(impl.Done, catTool)), asked("one", res(impl.Done, "1"))
	for name, want := range map[string][]impl.Look{
		"a": {cat}, "b": {cat}, "c": {cat}, "d": {asked("two", res(impl.Done, twoTool)), one}, "e": {cat},
		"f": {asked("has", res(impl.Done, hasTool)), found("c")},
		"g": {asked("ifHas", res(impl.Done, ifHasTool)), found("c"), one},
		"h": {asked("ifHas", res(impl.Done, ifHasTool)), unfound("gone")},
		"j": {asked("if", res(impl.Done, ifTool)), asked("empty", res(impl.Done, ""))},
		"k": nil, "l": {asked("two", res(impl.Done, twoTool))},
	} {
		if got := impl.Looks(tree, name); !slices.Equal(got, want) {
			t.Errorf("%s: %+v, want %+v", name, got, want)
		}
	}
	for name, want := range map[string]string{
		"a": "a cat", "b": "a b cat", "c": "c cat d one two", "e": "c cat d e one two", "f": "f has", "g": "g ifHas one",
		"h": "h ifHas", "j": "empty if j", "k": "c cat d k one two", "l": "c cat d l one two",
	} {
		if got := namesOf(impl.Deeds(tree, name)); got != want {
			t.Errorf("deeds of %s: %s, want %s", name, got, want)
		}
	}
}

func namesOf(deeds []impl.Deed) string {
	var names []string
	for _, d := range deeds {
		names = append(names, d.Name)
	}
	return strings.Join(names, " ")
}

func TestLooksOfHas(t *testing.T) {
	tree := basicTree(t, "a has one", "b has a", "c has gone", "d has d", "e has plan", "f has g", "g cat gone", "h two one,a")
	has := asked("has", res(impl.Done, hasTool))
	for name, want := range map[string][]impl.Look{
		"a": {has, found("one")}, "b": {has, found("a")}, "c": {has, unfound("gone")}, "d": {has, found("d")}, "e": {has, found("plan")},
		"f":   {has, found("g")}, // a name of the plan is a thing, whatever it comes to
		"h":   {asked("two", res(impl.Done, twoTool)), asked("one", res(impl.Done, "1")), asked("a", res(impl.Done, "1"))},
		"one": nil, "gone": nil, "x y": nil, "": nil,
	} {
		if got := impl.Looks(tree, name); !slices.Equal(got, want) {
			t.Errorf("%s: %+v, want %+v", name, got, want)
		}
	}
}

func TestMostLooks(t *testing.T) {
	ask := toolText("lit \"one\"; ask; put; arg; if 7 \"end\"; lit \"\"; go 0; end")
	fourteen := toolText("lit \"one\"" + strings.Repeat("; has; lit \"one\"", impl.MaxLooks-1) + "; end")
	tree := treeOf(t, "one", "1", "ask", ask, "fourteen", fourteen, "plan", planText(t, "a ask on", "b ask end", "c fourteen "))
	for name, want := range map[string]struct {
		r     impl.Result
		looks int
	}{
		"a": {res(impl.Spent, ""), impl.MaxLooks}, "b": {res(impl.Done, "1"), 2}, "c": {res(impl.Done, ""), impl.MaxLooks},
	} {
		if got, looks := impl.Want(tree, name), impl.Looks(tree, name); got != want.r || len(looks) != want.looks {
			t.Errorf("%s: %+v with %d looks", name, got, len(looks))
		}
	}
}

func TestWrongWants(t *testing.T) {
	tree := basicTree(t, "a cat one")
	for _, name := range wrongNames {
		checkNothingWanted(t, tree, name)
	}
	for _, wrong := range wrongTrees() {
		checkNothingWanted(t, wrong, "a")
		if impl.Stands(wrong, nil) {
			t.Errorf("nothing stands in %+v", wrong)
		}
	}
}

func checkNothingWanted(t *testing.T, tree impl.Tree, name string) {
	t.Helper()
	if got := impl.Want(tree, name); got != res(impl.Broken, "") {
		t.Errorf("want of %q: %+v", name, got)
	}
	if got := impl.Looks(tree, name); len(got) != 0 {
		t.Errorf("looks of %q: %+v", name, got)
	}
	if got := impl.Deeds(tree, name); len(got) != 0 {
		t.Errorf("deeds of %q: %+v", name, got)
	}
}

func TestDeeds(t *testing.T) {
	tree := basicTree(t, "a ifHas gone,one", "b cat c", "c cat lost", "d ifHas b,one", "e cat b")
	cat := impl.Deed{Name: "cat", Result: res(impl.Done, catTool)}
	ifHas := impl.Deed{Name: "ifHas", Result: res(impl.Done, ifHasTool)}
	one := impl.Deed{Name: "one", Result: res(impl.Done, "1")}
	lost := impl.Deed{Name: "lost", Result: res(impl.Missing, "lost")}
	b := impl.Deed{Name: "b", Made: true, Make: impl.Make{Name: "b", Tool: "cat", Arg: "c"}, Result: res(impl.Missing, "c"),
		Looks: []impl.Look{asked("cat", cat.Result), asked("c", res(impl.Missing, "lost"))}}
	c := impl.Deed{Name: "c", Made: true, Make: impl.Make{Name: "c", Tool: "cat", Arg: "lost"}, Result: res(impl.Missing, "lost"),
		Looks: []impl.Look{asked("cat", cat.Result), asked("lost", lost.Result)}}
	for name, want := range map[string][]impl.Deed{
		"one": {one}, "lost": {lost}, "cat": {cat},
		"a": {{Name: "a", Made: true, Make: impl.Make{Name: "a", Tool: "ifHas", Arg: "gone\none"}, Looks: []impl.Look{asked("ifHas", ifHas.Result), unfound("gone")}}, ifHas},
		"b": {b, c, cat, lost},
		"d": {{Name: "d", Made: true, Make: impl.Make{Name: "d", Tool: "ifHas", Arg: "b\none"}, Looks: []impl.Look{asked("ifHas", ifHas.Result), found("b"), asked("one", one.Result)}, Result: res(impl.Done, "1")}, ifHas, one},
	} {
		if got := impl.Deeds(tree, name); !reflect.DeepEqual(got, want) {
			t.Errorf("%s: %+v, want %+v", name, got, want)
		}
	}
}

func TestStands(t *testing.T) {
	tree := basicTree(t, "a ifHas gone,one", "b ifHas a,one", "c cat lost", "d cat d")
	for _, c := range []struct {
		name, file, text string
		stands           bool
	}{
		{"a", "elsewhere", "", true}, {"a", "two", "changed", true}, {"a", "one", "2", true}, {"a", "gone", "", false}, {"a", "ifHas", catTool, false}, {"a", "a", "1", false},
		{"a", "plan", planText(t, "a ifHas gone,one"), true}, {"a", "plan", planText(t, "a ifHas gone,two"), false}, {"a", "plan", planText(t, "a cat one"), false},
		{"a", "plan", planText(t, "a ifHas gone,one", "gone cat one"), false}, {"a", "plan", "", false},
		{"b", "one", "1", true}, {"b", "one", "2", false}, {"b", "gone", "", true}, {"b", "a", "", false}, {"b", "c", "", false},
		{"b", "plan", planText(t, "a fail x", "b ifHas a,one"), true}, {"b", "plan", planText(t, "b ifHas a,one"), false},
		{"c", "lost", "", false}, {"c", "plan", planText(t, "c cat lost", "lost cat one"), false}, {"c", "plan", planText(t, "c cat lost"), true},
		{"d", "one", "2", true}, {"d", "cat", hasTool, false}, {"d", "d", "", false}, {"d", "plan", planText(t, "d cat d"), true},
		{"one", "one", "1", true}, {"one", "one", "2", false}, {"one", "plan", "", true},
		{"lost", "lost", "", false}, {"lost", "other", "", true}, {"lost", "plan", planText(t, "lost cat one"), false},
	} {
		deeds := impl.Deeds(tree, c.name)
		if !impl.Stands(tree, deeds) {
			t.Errorf("deeds of %s do not stand in their own tree", c.name)
		}
		changed := setFile(t, tree, c.file, c.text)
		if got := impl.Stands(changed, deeds); got != c.stands {
			t.Errorf("deeds of %s with %s %q: %v", c.name, c.file, c.text, got)
		}
	}
	if deeds := impl.Deeds(tree, "one"); impl.Stands(dropFile(t, tree, "one"), deeds) || !impl.Stands(dropFile(t, tree, "two"), deeds) {
		t.Error("a file is dropped")
	}
}

func TestStandsOfStrangeDeeds(t *testing.T) {
	tree := basicTree(t, "a cat one")
	made := impl.Deed{Name: "a", Made: true, Make: impl.Make{Name: "a", Tool: "cat", Arg: "one"}}
	withLooks := func(looks ...impl.Look) impl.Deed {
		d := made
		d.Looks = looks
		return d
	}
	for i, c := range []struct {
		deed   impl.Deed
		stands bool
	}{
		{made, true}, // of what is made, the Result and the asks are not asked for
		{impl.Deed{Name: "a", Made: true, Make: made.Make, Result: res(impl.Failed, "x")}, true},
		{withLooks(asked("one", res(impl.Done, "2"))), true},
		{withLooks(found("one"), unfound("gone"), found("a")), true},
		{withLooks(impl.Look{Has: true, Name: "one", Result: res(impl.Done, "text")}), true},
		{withLooks(impl.Look{Has: true, Name: "gone", Result: res(impl.Failed, "")}), true},
		{withLooks(impl.Look{Has: true, Name: "gone", Result: res(impl.Missing, "other")}), true},
		{withLooks(impl.Look{Has: true, Name: "one", Result: res(impl.Failed, "")}), false},
		{withLooks(found("gone")), false}, {withLooks(unfound("one")), false}, {withLooks(found("one"), found("gone")), false}, {withLooks(unfound("a")), false},
		{withLooks(impl.Look{Has: true, Name: "x y", Result: res(impl.Missing, "x y")}), true},
		{withLooks(found("x y")), false},
		{impl.Deed{Name: "a", Made: true, Make: impl.Make{Name: "b", Tool: "cat", Arg: "one"}}, false},
		{impl.Deed{Name: "a", Result: res(impl.Done, "1")}, false},
		{impl.Deed{Name: "a", Make: made.Make}, false},
		{impl.Deed{Name: "one", Made: true, Result: res(impl.Done, "1")}, false},
		{impl.Deed{Name: "one", Made: true}, false},
		{impl.Deed{Name: "one", Result: res(impl.Done, "1"), Make: made.Make}, true},
		{impl.Deed{Name: "one", Result: res(impl.Failed, "1")}, false},
		{impl.Deed{Name: "gone", Result: res(impl.Missing, "gone")}, true},
		{impl.Deed{Name: "gone", Result: res(impl.Missing, "other")}, false},
		{impl.Deed{Name: "gone"}, false},
	} {
		if got := impl.Stands(tree, []impl.Deed{c.deed}); got != c.stands {
			t.Errorf("case %d: %v", i, got)
		}
		if got := impl.Stands(tree, []impl.Deed{{Name: "one", Result: res(impl.Done, "1")}, c.deed}); got != c.stands {
			t.Errorf("case %d behind another: %v", i, got)
		}
	}
	for _, name := range wrongNames {
		if impl.Stands(tree, []impl.Deed{{Name: name, Result: res(impl.Missing, name)}}) {
			t.Errorf("a deed of %q stands", name)
		}
	}
	if !impl.Stands(tree, nil) {
		t.Error("no deeds")
	}
}

func TestDeedsAreNewMemory(t *testing.T) {
	tree := basicTree(t, "a two one,b", "b cat one")
	before := slices.Clone(tree.Files)
	first, second := impl.Deeds(tree, "a"), impl.Deeds(tree, "a")
	for i, d := range first {
		whole := d.Looks[:cap(d.Looks)]
		for j := range whole {
			whole[j] = impl.Look{Name: "?"}
		}
		for _, other := range first[i+1:] {
			if slices.ContainsFunc(other.Looks, func(look impl.Look) bool { return look.Name == "?" }) {
				t.Errorf("the looks of %s share memory with those of %s", other.Name, d.Name)
			}
		}
	}
	if !slices.Equal(tree.Files, before) || !reflect.DeepEqual(second, impl.Deeds(tree, "a")) {
		t.Error("something is shared")
	}
}

// randomTree is a tree of a few names, so that runs meet: tools t0.., files and things a.. to h.
func randomTree(t *testing.T, r *rand.Rand) impl.Tree {
	t.Helper()
	tools := []string{catTool, twoTool, hasTool, ifHasTool, ifTool, followTool, failTool, loopTool, "none"}
	texts := append(slices.Clone(tools), "1", "", "a", "b", "c", "d", "e", "f")
	var tree impl.Tree
	for range 6 {
		tree = setFile(t, tree, "t"+string([]byte{byte('0' + r.Intn(7))}), tools[r.Intn(len(tools))])
	}
	for range 3 {
		tree = setFile(t, tree, randomThing(r), texts[r.Intn(len(texts))])
	}
	var makes []impl.Make
	for name := byte('a'); name <= 'h'; name++ {
		if _, code := impl.DropFile(tree, string([]byte{name})); code == 0 || r.Intn(4) == 0 {
			continue
		}
		tool := "t" + string([]byte{byte('0' + r.Intn(7))})
		if r.Intn(5) == 0 {
			tool = randomThing(r)
		}
		makes = append(makes, impl.Make{Name: string([]byte{name}), Tool: tool, Arg: randomThing(r) + "\n" + randomThing(r) + "\n" + randomThing(r)})
	}
	for i := range makes {
		if r.Intn(2) == 0 {
			makes[i].Arg = makes[i].Arg[:1]
		}
	}
	return setFile(t, tree, "plan", impl.FormPlan(makes))
}

func randomThing(r *rand.Rand) string {
	return string([]byte{byte('a' + r.Intn(8))})
}

var thingNames = []string{"a", "b", "c", "d", "e", "f", "g", "h", "t0", "t3", "plan", "gone"}

// goBy is what a run of a Make comes to with its first looks, as chapter 4 tells it.
func goBy(m impl.Make, looks []impl.Look) impl.Turn {
	if len(looks) == 0 {
		return impl.Turn{Name: m.Tool}
	}
	if looks[0].Has || looks[0].Name != m.Tool {
		return impl.Turn{}
	}
	switch looks[0].Result.Code {
	case impl.Done:
	case impl.Missing:
		return impl.Turn{Over: true, Result: res(impl.Missing, m.Tool)}
	default:
		return impl.Turn{Over: true, Result: res(impl.Below, m.Tool)}
	}
	tool, ok := impl.ReadTool(looks[0].Result.Text)
	if !ok {
		return impl.Turn{Over: true, Result: res(impl.NoTool, m.Tool)}
	}
	var replies []impl.Result
	for _, look := range looks[1:] {
		turn := impl.Next(tool, m.Arg, replies)
		if turn.Over || turn.Has != look.Has || turn.Name != look.Name {
			return impl.Turn{}
		}
		replies = append(replies, look.Result)
	}
	return impl.Next(tool, m.Arg, replies)
}

// slowDeeds goes through a plan again and again, in any order, until no run comes further.
func slowDeeds(tree impl.Tree, r *rand.Rand) map[string]impl.Deed {
	deeds := map[string]impl.Deed{}
	plan := impl.Plan(tree)
	for _, m := range plan {
		deeds[m.Name] = impl.Deed{Name: m.Name, Made: true, Make: m, Result: res(impl.Circle, "")}
	}
	for changed := true; changed; {
		changed = false
		for _, i := range r.Perm(len(plan)) {
			d := deeds[plan[i].Name]
			turn := goBy(d.Make, d.Looks)
			switch reply, known := slowReply(tree, deeds, turn); {
			case d.Result.Code != impl.Circle:
				continue
			case turn.Over:
				d.Result = turn.Result
			case known:
				d.Looks = append(slices.Clone(d.Looks), impl.Look{Has: turn.Has, Name: turn.Name, Result: reply})
			default:
				continue
			}
			deeds[d.Name] = d
			changed = true
		}
	}
	return deeds
}

func slowReply(tree impl.Tree, deeds map[string]impl.Deed, turn impl.Turn) (impl.Result, bool) {
	for _, f := range tree.Files {
		if f.Name == turn.Name && turn.Has {
			return res(impl.Done, ""), true
		} else if f.Name == turn.Name {
			return res(impl.Done, f.Text), true
		}
	}
	d, made := deeds[turn.Name]
	switch {
	case !made:
		return res(impl.Missing, turn.Name), true
	case turn.Has:
		return res(impl.Done, ""), true
	}
	return d.Result, d.Result.Code != impl.Circle
}

func TestWantHangsOnNoOrder(t *testing.T) {
	r := rand.New(rand.NewSource(4))
	codes := map[int]int{}
	for range 600 {
		tree := randomTree(t, r)
		slow := slowDeeds(tree, r)
		for name, d := range slow {
			codes[d.Result.Code]++
			if got := impl.Want(tree, name); got != d.Result {
				t.Fatalf("want of %s in %+v: %+v, by going on: %+v", name, tree, got, d.Result)
			}
			if got := impl.Looks(tree, name); !slices.Equal(got, d.Looks) {
				t.Fatalf("looks of %s in %+v: %+v, by going on: %+v", name, tree, got, d.Looks)
			}
		}
		for _, name := range thingNames {
			checkDeeds(t, tree, name, slow)
		}
	}
	for _, code := range []int{impl.Done, impl.Failed, impl.Spent, impl.Missing, impl.Below, impl.Circle, impl.NoTool} {
		if codes[code] < 20 {
			t.Errorf("code %d only %d times", code, codes[code])
		}
	}
}

// checkDeeds asks that the deeds of a name are closed, in order, and come to what their looks say.
func checkDeeds(t *testing.T, tree impl.Tree, name string, slow map[string]impl.Deed) {
	t.Helper()
	deeds := impl.Deeds(tree, name)
	byName := map[string]impl.Deed{}
	for i, d := range deeds {
		byName[d.Name] = d
		if i > 0 && deeds[i-1].Name >= d.Name {
			t.Fatalf("deeds of %s out of order: %s", name, namesOf(deeds))
		}
	}
	wanted := []string{name}
	for i := 0; i < len(wanted); i++ {
		d, there := byName[wanted[i]]
		if !there {
			t.Fatalf("%s is not among the deeds of %s in %+v", wanted[i], name, tree)
		}
		if d.Result != impl.Want(tree, d.Name) {
			t.Fatalf("deed of %s: %+v", d.Name, d)
		}
		if _, made := slow[d.Name]; made != d.Made || !made && !reflect.DeepEqual(d, impl.Deed{Name: d.Name, Result: d.Result}) {
			t.Fatalf("deed of %s: %+v", d.Name, d)
		}
		for _, next := range checkRun(t, d, byName) {
			if !slices.Contains(wanted, next) {
				wanted = append(wanted, next)
			}
		}
	}
	if len(wanted) != len(deeds) {
		t.Fatalf("deeds of %s: %s, but wanted are %s", name, namesOf(deeds), wanted)
	}
}

// checkRun gives the names that the run of a deed asks for or waits for.
func checkRun(t *testing.T, d impl.Deed, byName map[string]impl.Deed) []string {
	t.Helper()
	if !d.Made {
		return nil
	}
	var names []string
	for _, look := range d.Looks {
		if !look.Has {
			names = append(names, look.Name)
		}
	}
	turn := goBy(d.Make, d.Looks)
	switch {
	case d.Result.Code != impl.Circle && (!turn.Over || turn.Result != d.Result):
		t.Fatalf("deed %+v, but its run comes to %+v", d, turn)
	case d.Result.Code == impl.Circle && (turn.Over || turn.Has || byName[turn.Name].Result.Code != impl.Circle):
		t.Fatalf("deed %+v, but its run comes to %+v", d, turn)
	case d.Result.Code == impl.Circle:
		names = append(names, turn.Name)
	}
	return names
}

func TestElsewhere(t *testing.T) {
	r := rand.New(rand.NewSource(5))
	stood, fell, changes := 0, 0, 0
	for range 600 {
		tree := randomTree(t, r)
		other := changedTree(t, r, tree)
		for _, name := range thingNames {
			deeds := impl.Deeds(tree, name)
			if !impl.Stands(tree, deeds) {
				t.Fatalf("deeds of %s do not stand in their tree %+v", name, tree)
			}
			if !impl.Stands(other, deeds) {
				fell++
				continue
			}
			stood++
			if impl.Want(tree, name) != impl.Want(other, name) || !reflect.DeepEqual(deeds, impl.Deeds(other, name)) {
				t.Fatalf("deeds of %s stand in %+v and in %+v, but it is another", name, tree, other)
			}
		}
		changes += checkChanges(t, r, tree)
	}
	if stood < 1000 || fell < 1000 || changes < 1000 {
		t.Errorf("%d stood, %d fell, %d changes", stood, fell, changes)
	}
}

// changedTree is a tree with some of its files changed, the plan as it was or that of another tree.
func changedTree(t *testing.T, r *rand.Rand, tree impl.Tree) impl.Tree {
	t.Helper()
	other := randomTree(t, r)
	changed := tree
	for range 1 + r.Intn(3) {
		f := other.Files[r.Intn(len(other.Files))]
		changed = setFile(t, changed, f.Name, f.Text)
		if g := changed.Files[r.Intn(len(changed.Files))]; r.Intn(4) == 0 {
			changed = dropFile(t, changed, g.Name)
		}
	}
	return changed
}

// checkChanges changes each file that does not count for a name, and asks for the name again.
func checkChanges(t *testing.T, r *rand.Rand, tree impl.Tree) int {
	t.Helper()
	names := append([]string{"never", "t1", "t2", "t4"}, thingNames...)
	count := 0
	for _, name := range thingNames {
		deeds := impl.Deeds(tree, name)
		for _, file := range names {
			if file == "plan" || planMakes(tree, file) || deedsName(deeds, file) {
				continue
			}
			count++
			changed, code := impl.DropFile(tree, file)
			if code != 0 || r.Intn(2) == 0 {
				changed = setFile(t, tree, file, "changed")
			}
			if impl.Want(changed, name) != impl.Want(tree, name) || !reflect.DeepEqual(impl.Deeds(changed, name), deeds) {
				t.Fatalf("%s counts for %s in %+v", file, name, tree)
			}
		}
	}
	return count
}

func planMakes(tree impl.Tree, name string) bool {
	for _, f := range tree.Files {
		if f.Name == "plan" {
			return strings.Contains("\n"+f.Text, "\nmake "+name+" ")
		}
	}
	return false
}

func deedsName(deeds []impl.Deed, name string) bool {
	for _, d := range deeds {
		if d.Name == name || d.Make.Tool == name || slices.ContainsFunc(d.Looks, func(look impl.Look) bool { return look.Name == name }) {
			return true
		}
	}
	return false
}

// TestNoPlanBecauseOfAFile asks for the promise where a file keeps the plan from being one.
func TestNoPlanBecauseOfAFile(t *testing.T) {
	tree := setFile(t, basicTree(t, "a cat one", "b cat a"), "b", "is a file")
	for _, name := range []string{"a", "b", "one", "gone"} {
		deeds := impl.Deeds(tree, name)
		changed := setFile(t, tree, "elsewhere", "x")
		if impl.Want(changed, name) != impl.Want(tree, name) || !impl.Stands(changed, deeds) {
			t.Errorf("%s has become another", name)
		}
	}
	if got := impl.Want(tree, "a"); got != res(impl.Missing, "a") {
		t.Errorf("a: %+v", got)
	}
	without := dropFile(t, tree, "b")
	if impl.Stands(without, impl.Deeds(tree, "a")) || impl.Want(without, "a") != res(impl.Done, "1") {
		t.Error("a is made again")
	}
}
