package pool

import (
	"strconv"
	"strings"

	"baulk/api"
)

// Print returns the notation of a shot.
func Print(x Shot) (string, api.Errno) {
	if e := CheckShot(x); e != api.OK {
		return "", e
	}
	words := []string{playerName(x.Player), x.Kind}
	if x.Ball != 0 {
		words = append(words, "c"+pairText(x.Ball, x.Pocket))
	}
	if x.First != 0 {
		words = append(words, "f"+strconv.Itoa(x.First))
	}
	if x.Cushion {
		words = append(words, "+")
	}
	for _, p := range x.Pots {
		words = append(words, "p"+pairText(p.Ball, p.Pocket))
	}
	return strings.Join(words, " "), api.OK
}

// playerName returns the word for a player.
func playerName(player int) string {
	if player == 0 {
		return "a"
	}
	return "b"
}

// pairText returns the notation of a ball and a pocket.
func pairText(ball, pocket int) string {
	return strconv.Itoa(ball) + "/" + strconv.Itoa(pocket)
}

// Parse returns the shot with a notation, or the word with an error.
func Parse(s string) (Shot, int, api.Errno) {
	if len(s) > api.MaxText {
		return Shot{}, 0, api.ErrLong
	}
	x, number := readWords(strings.Split(s, " "))
	if number != 0 {
		return Shot{}, number, api.ErrSyntax
	}
	if e := CheckShot(x); e != api.OK {
		return Shot{}, 0, e
	}
	return x, 0, api.OK
}

// slot is a place for words of a notation: how one is read into a shot if it belongs there.
type slot struct {
	read     func(word string, x *Shot) bool
	required bool
	repeated bool
}

// slots returns the places of a notation in their order.
func slots() []slot {
	return []slot{
		{read: readPlayer, required: true},
		{read: readKind, required: true},
		{read: readCall},
		{read: readFirst},
		{read: readCushion},
		{read: readPot, repeated: true},
	}
}

// readWords returns the shot with the words of a notation, or the number of the first wrong or missing one.
func readWords(words []string) (Shot, int) {
	var x Shot
	rest := slots()
eachWord:
	for i, word := range words {
		for len(rest) > 0 {
			at := rest[0]
			fits := at.read(word, &x)
			if !fits && at.required {
				break
			}
			if !fits || !at.repeated {
				rest = rest[1:]
			}
			if fits {
				continue eachWord
			}
		}
		return Shot{}, i + 1
	}
	if x.Kind == "" {
		return Shot{}, len(words) + 1
	}
	return x, 0
}

func readPlayer(word string, x *Shot) bool {
	if word == playerName(1) {
		x.Player = 1
	}
	return word == playerName(x.Player)
}

func readKind(word string, x *Shot) bool {
	x.Kind = word
	_, ok := kinds()[word]
	return ok
}

func readCall(word string, x *Shot) bool {
	ball, pocket, ok := readPair(word, "c")
	if !ok || ball == 0 || pocket == 0 {
		return false
	}
	x.Ball, x.Pocket = ball, pocket
	return true
}

func readFirst(word string, x *Shot) bool {
	digits, isFirst := strings.CutPrefix(word, "f")
	ball, ok := readNumber(digits)
	if !isFirst || !ok || ball == 0 {
		return false
	}
	x.First = ball
	return true
}

func readCushion(word string, x *Shot) bool {
	x.Cushion = word == "+"
	return x.Cushion
}

func readPot(word string, x *Shot) bool {
	ball, pocket, ok := readPair(word, "p")
	if ok {
		x.Pots = append(x.Pots, Pot{Ball: ball, Pocket: pocket})
	}
	return ok
}

// readPair returns the ball and the pocket of a word with a prefix.
func readPair(word, prefix string) (ball, pocket int, ok bool) {
	pair, isPrefixed := strings.CutPrefix(word, prefix)
	left, right, isPair := strings.Cut(pair, "/")
	ball, isBall := readNumber(left)
	pocket, isPocket := readNumber(right)
	return ball, pocket, isPrefixed && isPair && isBall && isPocket
}

// readNumber returns a number of one or two digits.
func readNumber(text string) (int, bool) {
	n, e := strconv.Atoi(text)
	// A number has one text alone, without zeros at the beginning.
	return n, e == nil && n >= 0 && n <= 99 && strconv.Itoa(n) == text
}
