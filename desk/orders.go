package desk

import (
	"maps"
	"slices"
	"strconv"
	"strings"

	"rotor/api"
	"rotor/disk"
	"rotor/mac"
	"rotor/scope"
	"rotor/token"
)

// Kinds of words behind a line's first one.
const (
	asItIs  = iota
	orEmpty // as it is, but emptyWord tells the empty text
	number
)

// The words that tell a token's kind.
const (
	refreshWord = "r"
	accessWord  = "a"
)

// order is a line that may be told: what it does, and of which kinds the words behind the first one are.
type order struct {
	does  func(args) string
	kinds []int
}

// args is the words behind a line's first one: the texts among them, and the numbers.
type args struct {
	texts   []string
	numbers []int
}

// allOrders is what each line does, by its first word.
func (d *desk) allOrders() map[string]order {
	return map[string]order{
		"new":      {d.begin, []int{number, number, number, number}},
		"open":     {d.open, nil},
		"grant":    {d.grant, []int{asItIs, asItIs, orEmpty}},
		"rotate":   {d.rotate, []int{asItIs, orEmpty, orEmpty}},
		"mint":     {d.mint, []int{asItIs}},
		"show":     {d.show, []int{asItIs}},
		"kill":     {d.kill, []int{number}},
		"save":     {d.save, nil},
		"cut":      {d.cut, []int{number}},
		"tick":     {d.tick, []int{number}},
		"sweep":    {d.sweep, nil},
		"writes":   {d.writes, nil},
		"log":      {d.log, nil},
		"families": {d.families, nil},
		"least":    {d.least, []int{orEmpty}},
		"tag":      {d.tag, []int{number, asItIs}},
		"token":    {d.token, []int{asItIs, number, number, number}},
		"help":     {d.help, nil},
	}
}

// read takes words as an order asks for them. It throws ErrForm: there are more or less of them, or one that should be a number is none.
func (o order) read(words []string) args {
	if len(words) != len(o.kinds) {
		panic(api.ErrForm)
	}
	var a args
	for i, w := range words {
		switch o.kinds[i] {
		case asItIs:
			a.texts = append(a.texts, w)
		case orEmpty:
			a.texts = append(a.texts, textOf(w))
		case number:
			a.numbers = append(a.numbers, numberOf(w))
		}
	}
	return a
}

func (d *desk) begin(a args) string {
	n := a.numbers
	d.lay(&disk.Disk{}, api.Rules{Key: n[0], Idle: n[1], Life: n[2], Access: n[3]})
	return "new"
}

func (d *desk) open(args) string {
	d.disk.Cut(-1)
	d.lay(d.disk, d.rules)
	return "open"
}

func (d *desk) grant(a args) string {
	return must(d.service.Grant(a.texts[0], a.texts[1], a.texts[2]))
}

func (d *desk) rotate(a args) string {
	return must(d.service.Rotate(a.texts[0], a.texts[1], a.texts[2]))
}

func (d *desk) mint(a args) string { return must(d.service.Mint(a.texts[0])) }

func (d *desk) show(a args) string { return family(must(d.service.Show(a.texts[0]))) }

func (d *desk) kill(a args) string {
	check(d.service.Kill(a.numbers[0]))
	return "kill"
}

func (d *desk) save(args) string {
	check(d.store.Save())
	return "save"
}

func (d *desk) cut(a args) string {
	d.disk.Cut(a.numbers[0])
	return "cut"
}

func (d *desk) tick(a args) string {
	check(d.service.Tick(a.numbers[0]))
	return strconv.Itoa(d.service.State().Clock)
}

func (d *desk) sweep(args) string { return strconv.Itoa(must(d.service.Sweep())) }

func (d *desk) writes(args) string { return strconv.Itoa(d.disk.Writes()) }

func (d *desk) log(args) string {
	return strconv.Itoa(d.store.Log()) + blank + strconv.FormatBool(d.store.Down())
}

func (d *desk) families(args) string {
	state := d.service.State()
	parts := []string{strconv.Itoa(state.Clock) + blank + strconv.Itoa(state.Next)}
	for _, f := range state.Families {
		parts = append(parts, family(f))
	}
	return strings.Join(parts, comma)
}

func (d *desk) least(a args) string { return wordOf(must(scope.Least(a.texts[0]))) }

func (d *desk) tag(a args) string { return mac.Tag(a.numbers[0], a.texts[0]) }

func (d *desk) token(a args) string {
	return must(token.Write(d.rules.Key, token.Token{
		Kind: kindOf(a.texts[0]), Family: a.numbers[0], Generation: a.numbers[1], Ends: a.numbers[2],
	}))
}

func (d *desk) help(args) string {
	return strings.Join(slices.Sorted(maps.Keys(d.orders)), blank)
}

// family is a family as it is told.
func family(f api.Family) string {
	words := []string{
		strconv.Itoa(f.Id), f.Client, f.Subject, wordOf(f.Scope),
		strconv.Itoa(f.Generation), strconv.Itoa(f.Made), strconv.Itoa(f.Used), wordOf(f.Request),
	}
	if f.Dead {
		words = append(words, deadWord)
	}
	return strings.Join(words, blank)
}

// wordOf is a text as a word of a line.
func wordOf(text string) string {
	if text == "" {
		return emptyWord
	}
	return text
}

// textOf is the text that a word of a line tells.
func textOf(word string) string {
	if word == emptyWord {
		return ""
	}
	return word
}

// numberOf is the number that a word tells. It throws ErrForm: it tells none.
func numberOf(word string) int {
	n, err := strconv.Atoi(word)
	// Atoi takes a plus, noughts ahead and -0, too: only a number as it is written is one.
	if err != nil || strconv.Itoa(n) != word {
		panic(api.ErrForm)
	}
	return n
}

// kindOf is the kind of token that a word tells. It throws ErrForm: it tells none.
func kindOf(word string) int {
	switch word {
	case refreshWord:
		return token.Refresh
	case accessWord:
		return token.Access
	}
	panic(api.ErrForm)
}
