package reconstruct

import (
	"lenslet/api"
	"lenslet/check"
	"lenslet/exact"
	"lenslet/linear"
	"lenslet/total"
)

// Poke is a record of a calibration.
type Poke struct {
	Actuator int
	Amount   api.Rat
	Slopes   []api.Rat
}

// response returns the response of a poke for a matrix of a certain size, or the first error of the poke.
func (p Poke) response(s size) ([]exact.Number, api.Errno) {
	amount, wrongAmount := exact.Parse(p.Amount)
	slopes, wrongSlopes := readList(p.Slopes, s[0])
	e := check.First(
		check.If(p.Actuator < 0 || p.Actuator >= s[1], api.ErrUnknown),
		wrongAmount,
		check.If(amount.Sign() == 0, api.ErrZero),
		wrongSlopes,
	)
	if e != api.OK {
		return nil, e
	}
	return scaled(slopes, exact.Of(1, 1).Quo(amount)), api.OK
}

// readPokes returns for each actuator the responses of its pokes, or the first error.
func readPokes(pokes []Poke, s size) ([][][]exact.Number, api.Errno) {
	e := check.First(
		check.If(s[0] < 1 || s[1] < 1, api.ErrRange),
		check.If(s.beyond(size{api.MaxSlopes, api.MaxActuators}), api.ErrRange),
		check.If(len(pokes) > MaxPokes, api.ErrMany),
	)
	if e != api.OK {
		return nil, e
	}
	byActuator := map[int][][]exact.Number{}
	for _, p := range pokes {
		response, e := p.response(s)
		if e != api.OK {
			return nil, e
		}
		byActuator[p.Actuator] = append(byActuator[p.Actuator], response)
	}
	all := make([][][]exact.Number, s[1])
	for k := range all {
		responses, poked := byActuator[k]
		if !poked {
			return nil, api.ErrNone
		}
		all[k] = responses
	}
	return all, api.OK
}

// mean returns the mean of numbers, of which there is at least one.
func mean(list []exact.Number) exact.Number {
	return total.Of(list, exact.Number.Add).Quo(exact.Of(len(list), 1))
}

// scatter returns the sum of the squares of the differences of numbers and their mean.
func scatter(list []exact.Number) exact.Number {
	// It is found without the differences, which have the denominators of all numbers together.
	sum := total.Of(list, exact.Number.Add)
	return linear.Product(list, list).Sub(sum.Mul(mean(list)))
}

// Interaction returns the interaction matrix of pokes.
func Interaction(pokes []Poke, slopes, actuators int) ([][]api.Rat, api.Errno) {
	all, e := readPokes(pokes, size{slopes, actuators})
	if e != api.OK {
		return nil, e
	}
	columns, e := check.Each(all, func(responses [][]exact.Number) ([]api.Rat, api.Errno) {
		var column []exact.Number
		for _, list := range linear.Columns(responses) {
			column = append(column, mean(list))
		}
		return writeList(column)
	})
	return linear.Transposed(columns), e
}

// Scatter returns the scatter of each actuator.
func Scatter(pokes []Poke, slopes, actuators int) ([]api.Rat, api.Errno) {
	all, e := readPokes(pokes, size{slopes, actuators})
	if e != api.OK {
		return nil, e
	}
	return check.Each(all, func(responses [][]exact.Number) (api.Rat, api.Errno) {
		var parts []exact.Number
		for _, list := range linear.Columns(responses) {
			parts = append(parts, scatter(list))
		}
		return total.Of(parts, exact.Number.Add).Rat()
	})
}
