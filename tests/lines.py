"""Lines, and words that are not possible in them, that the tests share."""

from tests.samples import SIXTY

NINES = '9' * 60
NO_NUMBERS = ('', '-', '-1', '+1', '1.0', '00', '01', '007', '1,2', 'a', '1a', '1_0', NINES + '0', '1' + '0' * 60, '1\n')
NO_NAMES = ('', 'A', 'Meal', 'meal1', '1', 'a,b', 'abcdefghi', 'a_b', '-', 'a\n', '\n')
NO_SETS = ('', '-', ',', 'a,', ',a', 'a,,b', 'b,a', 'a,a', 'a,B', 'a,1', 'abcdefghi', 'a,b,a', 'a\n,b')
NO_SHARES = ('', ',', '1,', ',1', '1,,2', '-,1', '1,-', '--', '-1', '01', '1,02', 'a', '1,' + NINES + '0', '1\n')
PURSE = ('purse', 'meal', 'firm', '2', '4', 'food,toy')
LIMIT = ('limit', 'meal,trip', '2', '4', '15')
BUY = ('buy', '2', 'food', '8')
PAID = ('paid', '2', 'food', '3,5,0')

# Events with their lines.
LINES = (
    (('buy', 0, 'food', 8), 'buy 0 food 8'),
    (('buy', SIXTY, 'buy', 0), f'buy {NINES} buy 0'),
    (('back', 0, 1), 'back 0 1'),
    (('back', 12, SIXTY), f'back 12 {NINES}'),
    (('pay', 0, (3, 5, 0)), 'pay 0 3,5,0'),
    (('pay', 1, ()), 'pay 1 -'),
    (('pay', 1, (7,)), 'pay 1 7'),
    (('purse', ('home', 'firm', ('food', 'rent'), 0, 3)), 'purse home firm 0 3 food,rent'),
    (('limit', (('meal', 'trip'), 0, 9, 15)), 'limit meal,trip 0 9 15'),
    (('cap', 2, 0), 'cap 2 0'),
    (('cap', SIXTY, SIXTY), f'cap {NINES} {NINES}'),
    (('close', ()), 'close'),
    (('close', ((),)), 'close -'),
    (('close', ((3, 5, 0),)), 'close 3,5,0'),
    (('close', ((3, 5), (), (0,))), 'close 3,5 - 0'),
)

# The lines of the first element of a log with the purses and limits of the examples.
CARD = ['card 6', 'purse gift aunt 0 9 food,toy', 'purse meal firm 0 4 food', 'purse trip firm 0 9 train',
        'limit gift 0 9 10', 'limit meal,trip 0 9 15', 'limit meal 0 0 5']
