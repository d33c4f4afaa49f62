package tests

import (
	"fmt"
	"math/rand"
	"reflect"
	"slices"
	"strings"
	"testing"

	"loop.example/kiln/impl"
)

func offerOf(to, epoch, edit int, m impl.Make, looks []impl.Look) impl.Message {
	return impl.Message{Kind: impl.MsgOffer, To: to, Epoch: epoch, Edit: edit, Make: m, Looks: looks}
}

func turnOf(from, epoch, edit int, name string, count int, turn impl.Turn) impl.Message {
	return impl.Message{Kind: impl.MsgTurn, From: from, Epoch: epoch, Edit: edit, Make: impl.Make{Name: name}, Count: count, Turn: turn}
}

func hereOf(from int) impl.Message {
	return impl.Message{Kind: impl.MsgHere, From: from}
}

type writtenMail struct {
	m     impl.Message
	lines string
}

// mailLines are messages of all Kinds with their lines.
func mailLines() []writtenMail {
	name, text := xs(impl.MaxName), xs(impl.MaxText)
	forms := []writtenMail{
		{hereOf(1), "here 1\n"}, {hereOf(2), "here 2\n"}, {hereOf(impl.MaxWorkers), "here 4\n"},
		{turnOf(1, 1, 0, "x", 0, stop(false, "cat", 0)), "turn 1 1 0 x 0 0\nask cat\n"},
		{turnOf(1, 1, 0, "x", 0, stop(true, "cat", 0)), "turn 1 1 0 x 0 0\nhas cat\n"},
		{turnOf(4, impl.MaxEpoch, impl.MaxEdits, name, impl.MaxLooks, stop(false, name, impl.MaxSteps)), "turn 4 200 1000 " + name + " 15 200\nask " + name + "\n"},
		{turnOf(4, impl.MaxEpoch, impl.MaxEdits, name, impl.MaxLooks, over(impl.Failed, text, impl.MaxSteps)), "turn 4 200 1000 " + name + " 15 200\nover 1 \"" + text + "\"\n"},
		{turnOf(2, 10, 99, "\"", 9, stop(true, "\"", 10)), "turn 2 10 99 \" 9 10\nhas \"\n"},
		{turnOf(3, 2, 1, "1", 2, stop(false, "0", 3)), "turn 3 2 1 1 2 3\nask 0\n"},
		{offerOf(4, impl.MaxEpoch, impl.MaxEdits, impl.Make{Name: name, Tool: name, Arg: text}, nil), "offer 4 200 1000 " + name + " " + name + " \"" + text + "\"\n"},
		{offerOf(1, 1, 0, impl.Make{Name: "\"", Tool: "1", Arg: "\n \""}, []impl.Look{}), "offer 1 1 0 \" 1 \"\\0a \\22\"\n"},
	}
	for _, c := range []struct {
		r    impl.Result
		over string
	}{
		{res(impl.Done, ""), `0 ""`}, {res(impl.Done, "v\n\"\\\x00\xff ~"), `0 "v\0a\22\5c\00\ff ~"`}, {res(impl.Failed, "why"), `1 "why"`}, {res(impl.Broken, "40"), `2 "40"`}, {res(impl.Spent, ""), `3 ""`},
		{res(impl.Missing, "?"), `4 "?"`}, {res(impl.Below, "b"), `5 "b"`}, {res(impl.NoTool, "cat"), `7 "cat"`},
	} {
		forms = append(forms, writtenMail{turnOf(2, 3, 4, "x", 5, over(c.r.Code, c.r.Text, 6)), "turn 2 3 4 x 5 6\nover " + c.over + "\n"})
	}
	for _, n := range []int{1, 2, 6, impl.MaxLooks} {
		looks, lines := looksAndLines(n)
		forms = append(forms, writtenMail{offerOf(2, 3, 4, catRun, looks), "offer 2 3 4 x cat \"a\"\n" + lines})
	}
	return forms
}

// mailKeys are keys of several sizes.
var mailKeys = []string{"", "k", "\x00", "key of a world", xs(impl.MaxKey - 1), xs(impl.MaxKey), strings.Repeat("\xff", impl.MaxKey)}

func sameMessage(a, b impl.Message) bool {
	looks := slices.Equal(a.Looks, b.Looks)
	a.Looks, b.Looks = nil, nil
	return looks && reflect.DeepEqual(a, b)
}

// tagged is lines with the tag by the library's sum before them.
func tagged(lines string, key string) string {
	return librarySum(key+"\x00"+lines) + lines
}

func checkMessage(t *testing.T, m impl.Message, key string, form string) {
	t.Helper()
	before := slices.Clone(m.Looks)
	if got := impl.FormMessage(m, key); got != form {
		t.Errorf("form of %+v with %q: %q, want %q", m, key, got, form)
	}
	if got, ok := impl.ReadMessage(form, key); !ok || !sameMessage(got, m) {
		t.Errorf("read of %q with %q: %+v %v", form, key, got, ok)
	}
	if !slices.Equal(m.Looks, before) {
		t.Errorf("%q: the looks have changed", form)
	}
}

func checkNoMessage(t *testing.T, s string, key string) {
	t.Helper()
	if m, ok := impl.ReadMessage(s, key); ok || !reflect.DeepEqual(m, impl.Message{}) {
		t.Errorf("read of %q with %q: %+v %v", s, key, m, ok)
	}
}

func TestMessageForms(t *testing.T) {
	for _, c := range mailLines() {
		for _, key := range mailKeys {
			form := tagged(c.lines, key)
			checkMessage(t, c.m, key, form)
			for _, other := range mailKeys {
				if other != key {
					checkNoMessage(t, form, other)
				}
			}
		}
	}
}

func TestKeysThatAreNone(t *testing.T) {
	for _, key := range []string{xs(impl.MaxKey + 1), strings.Repeat("\x00", impl.MaxKey+1), xs(1000)} {
		for _, c := range mailLines() {
			if form := impl.FormMessage(c.m, key); form != "" {
				t.Errorf("form of %+v with a long key: %q", c.m, form)
			}
			checkNoMessage(t, tagged(c.lines, key), key)
			checkNoMessage(t, c.lines, key)
			checkNoMessage(t, tagged(c.lines, key[:impl.MaxKey]), key)
		}
	}
}

func slowMail(m impl.Message) string {
	switch m.Kind {
	case impl.MsgOffer:
		return fmt.Sprintf("offer %d %d %d %s %s %s\n%s", m.To, m.Epoch, m.Edit, m.Make.Name, m.Make.Tool, slowQuote(m.Make.Arg), slowLines(m.Looks))
	case impl.MsgHere:
		return fmt.Sprintf("here %d\n", m.From)
	}
	first := fmt.Sprintf("turn %d %d %d %s %d %d\n", m.From, m.Epoch, m.Edit, m.Make.Name, m.Count, m.Turn.Steps)
	if m.Turn.Over {
		return first + fmt.Sprintf("over %d %s\n", m.Turn.Result.Code, slowQuote(m.Turn.Result.Text))
	}
	return first + map[bool]string{false: "ask ", true: "has "}[m.Turn.Has] + m.Turn.Name + "\n"
}

func randomMessage(r *rand.Rand) impl.Message {
	worker, epoch, edit := 1+r.Intn(impl.MaxWorkers), 1+r.Intn(impl.MaxEpoch), r.Intn(impl.MaxEdits+1)
	count, steps := r.Intn(impl.MaxLooks+1), r.Intn(impl.MaxSteps+1)
	switch r.Intn(6) {
	case 0:
		return hereOf(worker)
	case 1, 2:
		return offerOf(worker, epoch, edit, randomMake(r), randomLooks(r))
	case 3:
		return turnOf(worker, epoch, edit, randomName(r), count, stop(r.Intn(2) == 0, randomName(r), steps))
	}
	result := randomResult(r)
	return turnOf(worker, epoch, edit, randomName(r), count, over(result.Code, result.Text, steps))
}

func TestReadOfFormGivesTheMessage(t *testing.T) {
	r := rand.New(rand.NewSource(8))
	for range 3000 {
		m, key := randomMessage(r), randomText(r, impl.MaxKey)
		form := tagged(slowMail(m), key)
		checkMessage(t, m, key, form)
		other := randomText(r, impl.MaxKey)
		if other != key {
			checkNoMessage(t, form, other)
		}
	}
}

// TestGreatestMessage: no message comes up to MaxBytes, so the greatest one has a form.
func TestGreatestMessage(t *testing.T) {
	most := strings.Repeat("\xff", impl.MaxText)
	name := xs(impl.MaxName)
	looks := slices.Repeat([]impl.Look{asked(name, res(impl.Done, most))}, impl.MaxLooks)
	m := offerOf(impl.MaxWorkers, impl.MaxEpoch, impl.MaxEdits, impl.Make{Name: name, Tool: name, Arg: most}, looks)
	lines := slowMail(m)
	checkMessage(t, m, "k", tagged(lines, "k"))
	if n := len(tagged(lines, "k")); n != 14920 || n > impl.MaxBytes {
		t.Errorf("%d bytes", n)
	}
	checkNoMessage(t, tagged(lines+"ask a 0 \"\"\n", "k"), "k")
	for n := impl.MaxBytes - 1; n <= impl.MaxBytes+1; n++ {
		checkNoMessage(t, tagged(lines+strings.Repeat("\n", n-len(lines)-8), "k"), "k")
		checkNoMessage(t, tagged(lines+"ask a 0 \""+xs(n-len(lines)-19)+"\"\n", "k"), "k")
		checkNoMessage(t, xs(n), "k")
	}
}

// checkReadMail asks that lines that are read with their tag are those of what was read.
func checkReadMail(t *testing.T, lines string) bool {
	t.Helper()
	m, ok := impl.ReadMessage(tagged(lines, "k"), "k")
	if ok && (impl.FormMessage(m, "k") != tagged(lines, "k") || slowMail(m) != lines) || !ok && !reflect.DeepEqual(m, impl.Message{}) {
		t.Errorf("read of %q: %+v %v", lines, m, ok)
	}
	return ok
}

func TestReadMessageReadsNothingElse(t *testing.T) {
	some := []byte("\x00\t\n\r !\"\\+-0123456789:Aacehkorsv~\x7f\x80\xff")
	read, refused := 0, 0
	for _, c := range mailLines() {
		if len(c.lines) > 250 {
			continue
		}
		bytes := some
		if len(c.lines) < 60 {
			bytes = allBytes()
		}
		neighbours(c.lines, bytes, func(lines string) {
			if checkReadMail(t, lines) {
				read++
			} else {
				refused++
			}
		})
	}
	if read < 1000 || refused < 10000 {
		t.Errorf("%d read, %d refused", read, refused)
	}
}

// TestBentMessages changes a byte of a form, takes one out or puts one in: the Tag is that of other lines then.
func TestBentMessages(t *testing.T) {
	for _, c := range mailLines() {
		if len(c.lines) > 250 {
			continue
		}
		form := impl.FormMessage(c.m, "k")
		neighbours(form, []byte("\x00\x01\n\x200129akx\"\\\x80\xff"), func(s string) {
			if s != form {
				checkNoMessage(t, s, "k")
			}
		})
		for i := range len(form) {
			for bit := range 8 {
				bent := []byte(form)
				bent[i] ^= 1 << bit
				checkNoMessage(t, string(bent), "k")
			}
		}
	}
}

func TestTagsOfOtherLines(t *testing.T) {
	all := mailLines()
	for i, c := range all {
		form := impl.FormMessage(c.m, "k")
		other := impl.FormMessage(all[(i+1)%len(all)].m, "k")
		checkNoMessage(t, other[:8]+form[8:], "k")
		checkNoMessage(t, impl.Tag("", "k")+form[8:], "k")
		checkNoMessage(t, impl.Tag(form, "k")+form[8:], "k")
		checkNoMessage(t, impl.Sum(form[8:], 8)+form[8:], "k")
		checkNoMessage(t, strings.Repeat("\x00", 8)+form[8:], "k")
		checkNoMessage(t, form[8:], "k")
		checkNoMessage(t, form[1:], "k")
		checkNoMessage(t, form[8:]+form[:8], "k")
		checkNoMessage(t, form[:8], "k")
		checkNoMessage(t, form[:7], "k")
		checkNoMessage(t, form+form, "k")
		checkNoMessage(t, tagged(form, "k"), "k")
	}
	checkNoMessage(t, "", "k")
	checkNoMessage(t, "", "")
	checkNoMessage(t, "", xs(impl.MaxKey+1))
	checkNoMessage(t, "\n", "k")
	for _, key := range mailKeys {
		checkNoMessage(t, tagged("", key), key)
		checkNoMessage(t, tagged("\n", key), key)
	}
}

func TestAlmostMessages(t *testing.T) {
	almost := []string{
		"", "\n", " ", "x\n", "mail\n", " \n", "clear\n", "epoch 1\n", "ran x cat \"a\"\ngave 0 \"\"\n", "ask a\n", "over 0 \"\"\n", "1\n",
		"here", "here\n", "here \n", "here 1", "here 1 \n", "here  1\n", " here 1\n", "here 1\n\n", "\nhere 1\n", "here 1\r\n", "Here 1\n", "here 0\n", "here 5\n", "here 01\n", "here +1\n", "here -1\n", "here 1 1\n", "here 1\nhere 1\n", "here a\n", "here \"1\"\n", "here 18446744073709551617\n", "here 1\nask a\n", "here1\n",
	}
	for _, first := range []string{"turn", "turn ", "turn 2", "turn 2 3", "turn 2 3 4", "turn 2 3 4 x", "turn 2 3 4 x 5", "turn 2 3 4 x 5 ", "turn 2 3 4 x 5 6 ", "turn 2 3 4 x 5 6 7", " turn 2 3 4 x 5 6", "turn  2 3 4 x 5 6", "turn 2  3 4 x 5 6", "turn 2 3  4 x 5 6", "turn 2 3 4  x 5 6", "turn 2 3 4 x  5 6", "turn 2 3 4 x 5  6", "turn 2 3 4  5 6",
		"turn 0 3 4 x 5 6", "turn 5 3 4 x 5 6", "turn 2 0 4 x 5 6", "turn 2 201 4 x 5 6", "turn 2 3 1001 x 5 6", "turn 2 3 4 x 16 6", "turn 2 3 4 x 5 201", "turn -2 3 4 x 5 6", "turn 2 3 -4 x 5 6", "turn 2 3 4 x -5 6", "turn 2 3 4 x 5 -6", "turn 02 3 4 x 5 6", "turn 2 03 4 x 5 6", "turn 2 3 04 x 5 6", "turn 2 3 00 x 5 6", "turn 2 3 4 x 05 6", "turn 2 3 4 x 5 06",
		"turn +2 3 4 x 5 6", "turn 2 +3 4 x 5 6", "turn 2 3 +4 x 5 6", "turn 2 3 4 x +5 6", "turn 2 3 4 x 5 +6", "turn 2 3 4 é 5 6", "turn 2 3 4 " + xs(impl.MaxName+1) + " 5 6", "turn 2 3 4 x cat 5 6", "turn 2 3 4 x cat \"\" 5 6", "turn 2 3 4 x y 6", "Turn 2 3 4 x 5 6", "turns 2 3 4 x 5 6", "offer 2 3 4 x 5 6", "here 2 3 4 x 5 6", "turn\t2 3 4 x 5 6", "", "turn 2 3 4 x 5 6\n"} {
		almost = append(almost, first+"\nover 0 \"\"\n", first+"\nask a\n", first+"\nhas a\n")
	}
	for _, last := range []string{"", "\n", "over\n", "over \n", "over 0\n", "over 0 \n", "over 0 x\n", "over 0 \"\"", "over 0 \"\" \n", "over  0 \"\"\n", "over 0  \"\"\n", " over 0 \"\"\n", "over 00 \"\"\n", "over +0 \"\"\n", "over 6 \"\"\n", "over 8 \"\"\n", "over 2 \"\"\n", "over 2 \"41\"\n", "over 2 \"01\"\n", "over 3 \"x\"\n", "over 4 \"\"\n", "over 5 \"a b\"\n", "over 7 \"" + xs(impl.MaxName+1) + "\"\n", "over 0 \"\\41\"\n", "over 0 \"\\0A\"\n",
		"over 0 \"" + xs(impl.MaxText+1) + "\"\n", "over 0 \"\"\nover 0 \"\"\n", "over 0 \"\"\n\n", "over 0 \"\"\nask a\n", "over a 0 \"\"\n", "Over 0 \"\"\n", "gave 0 \"\"\n", "ask\n", "ask \n", "ask a", "ask a \n", "ask  a\n", " ask a\n", "ask a b\n", "ask a 0 \"\"\n", "ask é\n", "ask " + xs(impl.MaxName+1) + "\n", "ask a\nask a\n", "ask a\n\n", "ask a\nover 0 \"\"\n", "Ask a\n",
		"has\n", "has \n", "has a", "has  a\n", "has a \n", "has a 0 \"\"\n", "has a\nhas a\n", "has \x7f\n", "has " + xs(impl.MaxName+1) + "\n", "had a\n", "a\n", " a\n"} {
		almost = append(almost, "turn 2 3 4 x 5 6\n"+last)
	}
	for _, first := range []string{"offer", "offer ", "offer 2", "offer 2 3", "offer 2 3 4", "offer 2 3 4 ", "offer 2 3 4 x", "offer 2 3 4 x cat", "offer 2 3 4 x cat ", "offer 2 3 4 x cat a", "offer 2 3 4 x cat \"", "offer 2 3 4 x cat \"a\" ", " offer 2 3 4 x cat \"a\"", "offer  2 3 4 x cat \"a\"", "offer 2  3 4 x cat \"a\"", "offer 2 3  4 x cat \"a\"", "offer 2 3 4  x cat \"a\"", "offer 2 3 4 x  cat \"a\"", "offer 2 3 4 x cat  \"a\"",
		"offer 0 3 4 x cat \"a\"", "offer 5 3 4 x cat \"a\"", "offer 2 0 4 x cat \"a\"", "offer 2 201 4 x cat \"a\"", "offer 2 3 1001 x cat \"a\"", "offer 2 3 -1 x cat \"a\"", "offer 02 3 4 x cat \"a\"", "offer 2 03 4 x cat \"a\"", "offer 2 3 04 x cat \"a\"", "offer +2 3 4 x cat \"a\"", "offer 2 +3 4 x cat \"a\"", "offer 2 3 +4 x cat \"a\"", "offer 2 3 4 x cat \"\\61\"", "offer 2 3 4 é cat \"a\"", "offer 2 3 4 x é \"a\"",
		"offer 2 3 4 " + xs(impl.MaxName+1) + " cat \"a\"", "offer 2 3 4 x " + xs(impl.MaxName+1) + " \"a\"", "offer 2 3 4 x cat \"" + xs(impl.MaxText+1) + "\"", "offer 2 3 4 x cat dog \"a\"", "offer 2 3 4 \"a\"", "Offer 2 3 4 x cat \"a\"", "offers 2 3 4 x cat \"a\"", "ran x cat \"a\"", "offer x cat \"a\"", "", "offer 2 3 4 x cat \"a\"\n", "offer 2 3 4 x cat \"a\"\noffer 2 3 4 x cat \"a\""} {
		almost = append(almost, first+"\n", first+"\nask a 0 \"\"\n")
	}
	for _, look := range wrongLookLines() {
		almost = append(almost, "offer 2 3 4 x cat \"a\"\n"+look+"\n", "offer 2 3 4 x cat \"a\"\n"+look+"\nhas a 0 \"\"\n", "offer 2 3 4 x cat \"a\"\nhas a 0 \"\"\n"+look+"\n")
	}
	_, lines := looksAndLines(impl.MaxLooks)
	almost = append(almost, "offer 2 3 4 x cat \"a\"", "offer 2 3 4 x cat \"a\"\nask a 0 \"\"", "offer 2 3 4 x cat \"a\"\n"+lines+"ask a 0 \"\"\n")
	for _, s := range almost {
		checkNoMessage(t, tagged(s, "k"), "k")
	}
}

// messageFields set one field of a message each.
var messageFields = []struct {
	name string
	set  func(m *impl.Message)
}{
	{"to", func(m *impl.Message) { m.To = 1 }},
	{"to", func(m *impl.Message) { m.To = -1 }},
	{"from", func(m *impl.Message) { m.From = 1 }},
	{"from", func(m *impl.Message) { m.From = -1 }},
	{"epoch", func(m *impl.Message) { m.Epoch = 1 }},
	{"epoch", func(m *impl.Message) { m.Epoch = -1 }},
	{"edit", func(m *impl.Message) { m.Edit = 1 }},
	{"edit", func(m *impl.Message) { m.Edit = -1 }},
	{"name", func(m *impl.Message) { m.Make.Name = "m" }},
	{"make", func(m *impl.Message) { m.Make.Tool = "m" }},
	{"make", func(m *impl.Message) { m.Make.Arg = "m" }},
	{"looks", func(m *impl.Message) { m.Looks = []impl.Look{found("a")} }},
	{"looks", func(m *impl.Message) { m.Looks = []impl.Look{{}} }},
	{"count", func(m *impl.Message) { m.Count = 1 }},
	{"count", func(m *impl.Message) { m.Count = -1 }},
	{"turn", func(m *impl.Message) { m.Turn.Over = true }},
	{"turn", func(m *impl.Message) { m.Turn.Result.Code = impl.Spent }},
	{"turn", func(m *impl.Message) { m.Turn.Result.Text = "r" }},
	{"turn", func(m *impl.Message) { m.Turn.Has = true }},
	{"turn", func(m *impl.Message) { m.Turn.Name = "n" }},
	{"turn", func(m *impl.Message) { m.Turn.Steps = 1 }},
	{"turn", func(m *impl.Message) { m.Turn = over(impl.Done, "x", 2) }},
}

func checkNoMailForm(t *testing.T, m impl.Message) {
	t.Helper()
	if form := impl.FormMessage(m, "k"); form != "" {
		t.Errorf("form of %+v: %q", m, form)
	}
}

func TestFieldsThatAMessageDoesNotUse(t *testing.T) {
	for _, c := range []struct {
		m    impl.Message
		uses string
	}{
		{hereOf(2), "from"}, {turnOf(2, 3, 4, "x", 5, over(impl.Done, "x", 6)), "from epoch edit name count turn"}, {turnOf(2, 3, 4, "x", 5, stop(true, "a", 6)), "from epoch edit name count turn"},
		{offerOf(2, 3, 4, catRun, []impl.Look{catLook()}), "to epoch edit name make looks"}, {offerOf(2, 3, 0, catRun, nil), "to epoch edit name make looks"},
	} {
		checkMessage(t, c.m, "k", tagged(slowMail(c.m), "k"))
		bare := c.m
		bare.Looks = append([]impl.Look{}, c.m.Looks...)
		checkMessage(t, bare, "k", tagged(slowMail(c.m), "k")) // the empty list is no other one than nil
		for i, field := range messageFields {
			if strings.Contains(c.uses, field.name) {
				continue
			}
			m := c.m
			field.set(&m)
			if form := impl.FormMessage(m, "k"); form != "" {
				t.Errorf("kind %d with field %d: %q", m.Kind, i, form)
			}
		}
	}
}

func TestMessageBounds(t *testing.T) {
	turns := []impl.Message{turnOf(2, 3, 4, "x", 5, over(impl.Done, "x", 6)), turnOf(2, 3, 4, "x", 5, stop(false, "a", 6))}
	offer := offerOf(2, 3, 4, catRun, []impl.Look{catLook()})
	for _, c := range []struct {
		least, most int
		set         func(m *impl.Message, number int)
		of          []impl.Message
	}{
		{1, impl.MaxWorkers, func(m *impl.Message, number int) { m.From = number }, append([]impl.Message{hereOf(2)}, turns...)},
		{1, impl.MaxWorkers, func(m *impl.Message, number int) { m.To = number }, []impl.Message{offer}},
		{1, impl.MaxEpoch, func(m *impl.Message, number int) { m.Epoch = number }, append([]impl.Message{offer}, turns...)},
		{0, impl.MaxEdits, func(m *impl.Message, number int) { m.Edit = number }, append([]impl.Message{offer}, turns...)},
		{0, impl.MaxLooks, func(m *impl.Message, number int) { m.Count = number }, turns},
		{0, impl.MaxSteps, func(m *impl.Message, number int) { m.Turn.Steps = number }, turns},
	} {
		for _, m := range c.of {
			for _, number := range []int{c.least, c.least + 1, c.most - 1, c.most} {
				c.set(&m, number)
				checkMessage(t, m, "k", tagged(slowMail(m), "k"))
			}
			for _, number := range []int{c.least - 1, -1, -c.most, c.most + 1, 10 * c.most, 1<<32 + c.least, -1 << 63, 1<<63 - 1} {
				c.set(&m, number)
				checkNoMailForm(t, m)
				checkNoMessage(t, tagged(slowMail(m), "k"), "k")
			}
		}
	}
}

func TestWrongMessagesHaveNoForm(t *testing.T) {
	checkNoMailForm(t, impl.Message{})
	for _, kind := range []int{0, -1, impl.MsgHere + 1, 5, 1 << 32, 1<<32 + 1, -1 << 63} {
		for _, c := range mailLines() {
			m := c.m
			m.Kind = kind
			checkNoMailForm(t, m)
		}
	}
	for _, c := range mailLines() {
		for kind := impl.MsgOffer; kind <= impl.MsgHere; kind++ {
			if m := c.m; kind != m.Kind {
				m.Kind = kind
				checkNoMailForm(t, m)
			}
		}
	}
	for _, m := range wrongRuns() {
		checkNoMailForm(t, offerOf(1, 1, 0, m, nil))
	}
	for _, looks := range wrongLooks() {
		checkNoMailForm(t, offerOf(1, 1, 0, catRun, looks))
	}
	for _, name := range wrongNames {
		checkNoMailForm(t, turnOf(1, 1, 0, name, 0, stop(false, "a", 0)))
		checkNoMailForm(t, turnOf(1, 1, 0, "x", 0, stop(false, name, 0)))
		checkNoMailForm(t, turnOf(1, 1, 0, "x", 0, stop(true, name, 0)))
	}
	for _, turn := range wrongTurns() {
		checkNoMailForm(t, turnOf(1, 1, 0, "x", 0, turn))
	}
}

// wrongTurns are turns that are neither over nor stop at a look, or tell more than that.
func wrongTurns() []impl.Turn {
	wrong := []impl.Turn{
		{}, {Has: true}, {Steps: 3}, {Over: true, Name: "a"}, {Over: true, Has: true}, {Over: true, Has: true, Name: "a"}, {Over: true, Result: res(impl.Done, "x"), Name: "a"},
		{Name: "a", Result: res(impl.Done, "x")}, {Name: "a", Result: res(impl.Spent, "")}, {Name: "a", Result: res(impl.Missing, "a")}, {Has: true, Name: "a", Result: res(impl.Failed, "")}, {Result: res(impl.Done, "x")},
	}
	for _, r := range wrongResults() {
		wrong = append(wrong, impl.Turn{Over: true, Result: r}, impl.Turn{Name: "a", Result: r})
	}
	return wrong
}

func TestMessagesAreNewMemory(t *testing.T) {
	looks, lines := looksAndLines(6)
	form := tagged("offer 2 3 4 x cat \"a\"\n"+lines, "k")
	one, _ := impl.ReadMessage(form, "k")
	two, _ := impl.ReadMessage(form, "k")
	for i := range one.Looks[:cap(one.Looks)] {
		one.Looks[:cap(one.Looks)][i] = impl.Look{Name: "spoilt"}
	}
	if !slices.Equal(two.Looks, looks) {
		t.Error("two messages share their looks")
	}
}
