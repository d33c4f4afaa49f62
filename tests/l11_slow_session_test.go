package tests

import (
	"fmt"
	"regexp"
	"slices"
	"strconv"
	"strings"

	"loop.example/kiln/impl"
)

// The slow session does what the document says, line by line, by the functions of the other chapters; sessions are held against it.

func slowSession(text string) string {
	lines := slices.Collect(strings.Lines(text))
	if len(text) > 20000 || len(lines) > 400 {
		return "too long\n"
	}
	s, answers := newSlowTalk(), ""
	for _, line := range lines {
		answers += s.answer(strings.TrimSuffix(line, "\n")) + "\n"
	}
	return answers
}

type slowTalk struct {
	world impl.World
}

func newSlowTalk() *slowTalk {
	return &slowTalk{impl.NewWorld(8, 2, "k")}
}

// slowForm is the form of a line, written as in the document's table.
func slowForm(form string) *regexp.Regexp {
	parts := strings.NewReplacer(
		"NAME", `([^ "][^ ]*)`,
		"N", `(0|[1-9][0-9]{0,3})`,
		"Q", `("(?:[ !#-\[\]-~]|\\[0-9a-f][0-9a-f])*")`,
	)
	return regexp.MustCompile(`\A` + parts.Replace(form) + `\z`)
}

var slowTable = []struct {
	form   *regexp.Regexp
	answer func(s *slowTalk, parts []string) string
}{
	{slowForm("(file|tool) NAME Q"), (*slowTalk).file},
	{slowForm("drop NAME"), func(s *slowTalk, parts []string) string { return s.edit(dropEntry(parts[0])) }},
	{slowForm("clear"), func(s *slowTalk, _ []string) string { return s.edit(clearEntry()) }},
	{slowForm("ask NAME"), func(s *slowTalk, parts []string) string {
		return s.code(impl.BossAsk(s.world.Boss, parts[0]), askEvent(parts[0]))
	}},
	{slowForm("pack"), func(s *slowTalk, _ []string) string { return s.code(impl.BossPack(s.world.Boss), event(impl.EvPack)) }},
	{slowForm("tick"), slowHappens(impl.EvTick)},
	{slowForm("bring N"), slowHappens(impl.EvBring)},
	{slowForm("double N"), slowHappens(impl.EvDouble)},
	{slowForm("lose N"), slowHappens(impl.EvLose)},
	{slowForm("bend N N N"), slowHappens(impl.EvBend)},
	{slowForm("fall N N"), slowHappens(impl.EvFall)},
	{slowForm("rise N"), slowHappens(impl.EvRise)},
	{slowForm("calm N"), (*slowTalk).calm},
	{slowForm("answers"), (*slowTalk).answers},
	{slowForm("want NAME"), func(s *slowTalk, parts []string) string {
		r := impl.Want(s.world.Boss.Tree, parts[0])
		return fmt.Sprintf("%d %s", r.Code, slowQuote(r.Text))
	}},
	{slowForm("show"), (*slowTalk).show},
}

func (s *slowTalk) answer(line string) string {
	for _, row := range slowTable {
		if parts := row.form.FindStringSubmatch(line); parts != nil {
			return row.answer(s, parts[1:])
		}
	}
	return "bad"
}

// code is the code of what the boss has done by an event, which happens.
func (s *slowTalk) code(did impl.Did, e impl.Event) string {
	s.world = impl.Do(s.world, e)
	return fmt.Sprintf("code %d", did.Code)
}

func (s *slowTalk) edit(e impl.Entry) string {
	return s.code(impl.BossEdit(s.world.Boss, e), editEvent(e))
}

var slowSemicolon = regexp.MustCompile(`; *`)

func (s *slowTalk) file(parts []string) string {
	bytes := regexp.MustCompile(`\\..`).ReplaceAllStringFunc(parts[2], func(escaped string) string {
		b, _ := strconv.ParseUint(escaped[1:], 16, 8)
		return string([]byte{byte(b)})
	})
	text := bytes[1 : len(bytes)-1]
	if slowQuote(text) != parts[2] {
		return "bad"
	}
	if parts[0] == "tool" {
		text = slowSemicolon.ReplaceAllString(text, "\n") + "\n"
	}
	return s.edit(fileEntry(parts[1], text))
}

func slowNumbers(parts []string) []int {
	var numbers []int
	for _, part := range parts {
		n, _ := strconv.Atoi(part)
		numbers = append(numbers, n)
	}
	return numbers
}

func slowHappens(kind int) func(s *slowTalk, parts []string) string {
	return func(s *slowTalk, parts []string) string {
		s.world = impl.Do(s.world, event(kind, slowNumbers(parts)...))
		return fmt.Sprint(len(s.world.Flight))
	}
}

func (s *slowTalk) calm(parts []string) string {
	rounds := slowNumbers(parts)[0]
	if rounds > 200 {
		return "no"
	}
	s.world = impl.Calm(s.world, rounds)
	return fmt.Sprint(len(s.world.Flight))
}

func (s *slowTalk) answers([]string) string {
	told := ""
	for _, a := range s.world.Answers {
		told += fmt.Sprintf(", %s %d %s", a.Name, a.Result.Code, slowQuote(a.Result.Text))
	}
	s.world.Answers = nil
	if told == "" {
		return "-"
	}
	return told[2:]
}

func (s *slowTalk) show([]string) string {
	b := s.world.Boss
	told := "down"
	if b.Up {
		told = fmt.Sprintf("%d.%d files %d texts %d records %d runs %d", b.Epoch, b.Edit, len(b.Tree.Files), len(b.Store.Texts), len(b.Store.Records), len(b.Runs))
	}
	told += map[bool]string{true: " right", false: " wrong"}[impl.Right(s.world)]
	if _, _, doubt := impl.Doubt(s.world); doubt {
		told += " doubt"
	}
	if s.world.Forged != "" {
		told += " forged"
	}
	return told
}
