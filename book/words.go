package book

// word is how many numbers follow a word in a line, and what the line does with them to a draft, unless it refuses to.
type word struct {
	numbers int
	does    func(d *draft, n []int)
}

// words returns all words.
func words() map[string]word {
	return map[string]word{
		"row":      {1, (*draft).row},
		"column":   {1, (*draft).column},
		"value":    {3, (*draft).value},
		"price":    {1, (*draft).price},
		"cask":     {5, (*draft).cask},
		"read":     {5, (*draft).read},
		"gone":     {1, (*draft).gone},
		"vessel":   {5, (*draft).vessel},
		"move":     {4, (*draft).move},
		"water":    {3, (*draft).water},
		"boil":     {3, (*draft).boil},
		"undo":     {0, (*draft).undo},
		"rates":    {2, (*draft).rates},
		"interest": {1, (*draft).interest},
		"bond":     {1, (*draft).bond},
		"purse":    {1, (*draft).purse},
		"charge":   {3, (*draft).charge},
		"levy":     {2, (*draft).levy},
		"brew":     {2, (*draft).brew},
		"pay":      {2, (*draft).pay},
		"draw":     {2, (*draft).draw},
		"owe":      {2, (*draft).owe},
		"strike":   {1, (*draft).strike},
	}
}
