package anvil

import "anvil/scan"

// word is what a word of a line means; run.do tells the kinds apart.
type word interface {
	isWord()
}

// number is a word that is laid on the stack.
type number int

// bold is a word that always means itself, so that no name can hide it.
type bold string

func (number) isWord()    {}
func (bold) isWord()      {}
func (primitive) isWord() {}

// meaning gives what a text means when it is read; nil, if it means nothing.
func meaning(text string) word {
	if isBold(text) {
		return bold(text)
	}
	if p, ok := language[text]; ok {
		return p
	}
	if n, ok := scan.Number(text); ok {
		return number(n)
	}
	return nil
}

func isBold(text string) bool {
	switch text {
	case ":", ";", "variable", "constant", "marker", "forget", "'",
		"recurse", "if", "else", "then", "begin", "until", "again", "while", "repeat",
		"do", "loop", "i", "leave", "exit":
		return true
	}
	return false
}
