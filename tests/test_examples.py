"""All examples of the document's last section, as they stand there."""

import unittest

EXAMPLES = r"""
>>> from newesttells.rows import over
>>> over('1..', '02.')
'12.'

>>> from newesttells.bands import Band
>>> band = Band([('a', 2), ('b', 2)], ['0.', '.1', '11'])
>>> [band.rows(), band.lots(), band.come('00')]
[['..', '.1', '0.', '01', '11'], ['..', '+.', '.+', '++'], [('row', '00'), ('take', '0.'), ('bar', '.1', 'b'), ('bar', '11', 'b'), ('barred',)]]

>>> from newesttells.bands import Band
>>> Band([('a', 2), ('b', 2)], ['0.'])
raises Untold(cell='b')

>>> from newesttells.bands import Band
>>> from newesttells.lots import plain_counts, signed_counts
>>> band = Band([('a', 2), ('b', 2)], ['0.', '.1', '11'])
>>> [plain_counts(band), signed_counts(band)]
[{'..': 0, '+.': 0, '.+': 1, '++': 1}, {'..': 1, '+.': -1, '.+': -1, '++': 1}]

>>> from newesttells.bands import Band
>>> from newesttells.families import fewest_seeds
>>> cells = [('a', 2), ('b', 2)]
>>> one = Band(cells, ['0.', '10'])
>>> two = Band(cells, ['0.', '1.', '10', '00'])
>>> [fewest_seeds(one), fewest_seeds(two)]
[['0.', '10'], ['0.', '1.', '00']]

>>> from newesttells.bands import Band
>>> from newesttells.streams import Stream
>>> from newesttells.pasts import latest_idle, seen
>>> band = Band([('a', 2), ('b', 2), ('c', 2)], ['01.', '.10', '1..', '..1'])
>>> stream = Stream(band, ['01.', '.10', '1..', '..1'])
>>> [stream.standing, stream.tellers(), stream.ends(), stream.tellers(start=1, end=2)]
['111', [4, 3, 2], [3, None, None, None], [2, 1]]

>>> from newesttells.bands import Band
>>> from newesttells.streams import Stream
>>> from newesttells.pasts import latest_idle, seen
>>> band = Band([('a', 2), ('b', 2), ('c', 2)], ['01.', '.10', '1..', '..1'])
>>> stream = Stream(band, ['01.', '.10', '1..', '..1'])
>>> [seen(stream, '1..', behind=0), latest_idle(stream, '01.'), latest_idle(stream, '1..')]
[[('a', 1, 1, True)], 2, 4]

>>> from newesttells.bands import Band
>>> from newesttells.fogs import Fog
>>> fog = Fog(Band([('a', 2), ('b', 2)], ['0.', '.1', '11']), [['0.', '.1'], ['11', '0.']])
>>> [fog.table(['a']), fog.how_many({'b': '.'}), fog.left({'a': '0', 'b': '1'}), fog.sure()]
[[['.'], ['0', '1'], ['0', '1']], 1, [['.1'], ['0.']], '??']

>>> from newesttells.bands import Band
>>> from newesttells.books import Book
>>> from newesttells.drawing import favour, forward_shares, steady_shares
>>> book = Book(Band([('a', 2), ('b', 2)], ['0.', '.1', '11']), {'0.': 1, '.1': 1, '11': 2})
>>> [steady_shares(book), forward_shares(book), favour(book)]
[{'01': (1, 3), '11': (2, 3)}, {'01': (1, 6), '11': (5, 6)}, ('11', '01')]

>>> from newesttells.fronts import fronts_band
>>> from newesttells.books import Book
>>> from newesttells.drawing import steady_shares
>>> book = Book(fronts_band('abc'), {'00.': 3, '1.0': 2, '.11': 1})
>>> [book.mean_told(), steady_shares(book)['000'], book.all_told().parts()]
[(27, 10), (1, 3), [((2, 1), (0, 1)), ((-1, 1), (1, 6)), ((-1, 1), (1, 3)), ((-1, 1), (1, 2)), ((1, 1), (1, 1))]]

>>> from newesttells.lines import parts_of_plane
>>> parts_of_plane([(1, 0, 0), (0, 1, 0), (1, 1, 1)])
(3, 9, 7, 1)

>>> from newesttells.bench import Bench
>>> bench = Bench()
>>> done = bench.do(('band', 'k', [('a', 2), ('b', 2)], ['0.', '.1', '11']), ('stream', 's', 'k'), ('tell', 's', '0.'), ('put', 's', '11', 0))
>>> [bench.say('standing s'), bench.say('end s 1'), bench.say('made k 00'), bench.history()]
['01', 'open', 'no', (1, 0)]
"""


def outcome(code, names):
    """The repr of what the last line of an example returns, or what it raises."""
    try:
        return repr(eval(code, names))
    except (ValueError, LookupError) as error:
        values = ", ".join(f"{name}={value!r}" for name, value in vars(error).items() if name != "code")
        return f"raises {error.code}({values})"


class ExampleTest(unittest.TestCase):
    def test_examples(self):
        examples = EXAMPLES.strip().split("\n\n")
        self.assertEqual(len(examples), 12)
        for example in examples:
            *steps, expected = example.split("\n")
            names = {}
            for step in steps[:-1]:
                exec(step.removeprefix(">>> "), names)
            self.assertEqual(outcome(steps[-1].removeprefix(">>> "), names), expected, example)


if __name__ == "__main__":
    unittest.main()
