package snooker

import (
	"cmp"
	"slices"
	"strconv"

	"baulk/rule"
)

// The phases of snooker.
const (
	reds   = "red"
	colour = "colour"
	final  = "final"
)

// snookerKind returns the game of snooker.
func snookerKind() kind {
	return kind{
		most:     Game{Reds: MaxReds},
		phases:   []string{reds, colour, final},
		isBall:   func(ball string) bool { return value(ball) >= 0 },
		isTarget: func(ball string) bool { return value(ball) > 0 },
		isReport: func(e Entry) bool { return e.Cushions == 0 },
		own:      withoutStreak,
		fits:     fitsSnooker,
		on:       frame.targets,
		mayCall:  frame.mayCall,
		mayHit:   func(f frame, ball string) bool { return f.supply(ball) > 0 },
		supply:   frame.supply,
		judged:   judgedSnooker,
		played:   playedSnooker,
		text:     frame.phaseText,
	}
}

// fitsSnooker reports whether the phase of a state, and what is to be chosen after a foul, are possible.
func fitsSnooker(f frame) bool {
	isOffered := f.Free || f.Fouled
	if f.Winner == drawn || f.Free && f.Fouled || isOffered && (f.Phase == colour || f.isOver()) {
		return false
	}
	switch f.Phase {
	case reds:
		return f.Colour == 0 && f.Reds > 0
	case colour:
		return f.Colour == 0
	}
	return f.Colour >= leastColour && f.Reds == 0
}

// on returns the ball that is on for a shot that calls a ball, or nothing; what is called as a free ball is another one.
func (f frame) on(called string) string {
	switch f.Phase {
	case reds:
		return red
	case colour:
		return called
	}
	return names[f.Colour]
}

// mayCall reports whether a ball, or nothing, may be called.
func (f frame) mayCall(ball string) bool {
	return ball == "" && f.Phase != colour || f.isOptional(ball)
}

// isOptional reports whether a colour may be called: any in its phase, and after a foul one that is not on.
func (f frame) isOptional(ball string) bool {
	return (f.Free || f.Phase == colour) && isColour(ball) && value(ball) > f.Colour
}

// targets returns the balls that may be hit first.
func (f frame) targets() []string {
	var list []string
	for _, ball := range names {
		if ball == f.on("") || f.isOptional(ball) {
			list = append(list, ball)
		}
	}
	return list
}

// supply returns how many of a ball are on the table.
func (f frame) supply(ball string) int {
	switch {
	case ball == red:
		return f.Reds
	case isColour(ball) && value(ball) < f.Colour:
		return 0
	}
	return 1
}

// judgedSnooker returns what a shot of snooker is worth.
func judgedSnooker(f frame, e Entry) Verdict {
	on := f.on(e.Called)
	isWrong := func(ball string) bool { return ball != on && ball != e.Called }
	foul := rule.First(
		func() bool { return len(e.Hits) == 0 },
		func() bool { return e.Hits[0] != cmp.Or(e.Called, on) },
		func() bool { return slices.Contains(e.Pots, white) },
		func() bool { return slices.ContainsFunc(e.Pots, isWrong) },
	)
	if foul == 0 {
		points := f.points(e)
		return Verdict{Points: points, Stays: points > 0}
	}
	penalty := max(Foul, value(on))
	if foul == wrongHit {
		penalty = max(penalty, value(e.Hits[0]))
	}
	for _, ball := range e.Pots {
		if isWrong(ball) {
			penalty = max(penalty, value(ball))
		}
	}
	return Verdict{Foul: foul, Penalty: penalty}
}

// points returns the points of a shot without a foul.
func (f frame) points(e Entry) int {
	on := f.on(e.Called)
	if f.Phase == reds {
		return count(e.Pots, on) + count(e.Pots, e.Called)
	}
	if slices.Contains(e.Pots, on) || slices.Contains(e.Pots, e.Called) {
		return value(on)
	}
	return 0
}

// playedSnooker returns the frame of snooker after a shot.
func playedSnooker(s stroke, n frame) frame {
	n.Fouled = s.Foul != 0
	n.Reds -= count(s.Pots, red)
	switch {
	case n.Phase == final:
		return s.cleared(n)
	case n.Phase == reds && s.Stays:
		n.Phase = colour
	case n.Reds > 0:
		n.Phase = reds
	default:
		n.Phase, n.Colour = final, leastColour
	}
	return n
}

// cleared returns the frame after a shot at the last colours.
func (s stroke) cleared(n frame) frame {
	isPotted := s.Foul == 0 && slices.Contains(s.Pots, names[n.Colour])
	isLast := n.Colour == greatestColour && (isPotted || s.Foul != 0)
	if isPotted {
		n.Colour = min(n.Colour+1, greatestColour)
	}
	switch leader := n.leader(); {
	case isLast && leader != drawn:
		return n.won(leader)
	case isLast && isPotted: // who has levelled the scores does not go on
		return n.passed()
	}
	return n
}

// left returns the greatest score that is left.
func (f frame) left() int {
	if f.isOver() {
		return 0
	}
	sum := (1 + greatestColour) * f.Reds
	for v := max(f.Colour, leastColour); v <= greatestColour; v++ {
		sum += v
	}
	switch {
	case f.Phase == colour:
		sum += greatestColour
	case f.Free && f.Phase == reds:
		sum += 1 + greatestColour
	case f.Free && f.Colour < greatestColour:
		sum += f.Colour
	}
	return sum
}

// needed returns how many fouls of the other player a player needs at least to draw level.
func (f frame) needed(player int) int {
	behind := f.Scores[1-player] - f.Scores[player] - f.left()
	return (max(behind, 0) + Foul - 1) / Foul
}

// phaseText returns the phase, and which balls are left.
func (f frame) phaseText() string {
	if f.Phase == final {
		return final + " " + strconv.Itoa(f.Colour)
	}
	return f.Phase + " " + strconv.Itoa(f.Reds)
}
