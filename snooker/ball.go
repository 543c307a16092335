package snooker

// The balls that have a part of their own in some game.
const (
	white  = "white"
	red    = "red"
	yellow = "yellow"
)

// The least and the greatest value of a colour.
const (
	leastColour    = 2
	greatestColour = 7
)

// names has the balls of snooker, each at the place of its value; white has none.
var names = [...]string{white, red, yellow, "green", "brown", "blue", "pink", "black"}

// value returns the value of a ball of snooker, 0 for white, -1 for anything else.
func value(ball string) int {
	for v, name := range names {
		if name == ball {
			return v
		}
	}
	return -1
}

// isColour reports whether a ball is a colour of snooker.
func isColour(ball string) bool { return value(ball) >= leastColour }

// count returns how often something is in a list.
func count[T comparable](l []T, x T) int {
	n := 0
	for _, y := range l {
		if y == x {
			n++
		}
	}
	return n
}
