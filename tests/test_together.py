"""Point [8]: what the frames and the ground promise together."""

import unittest

from skyframes.craft import Craft
from skyframes.frames import frames_of, rows_of
from skyframes.ground import Ground
from tests.helping import CLOSE, chance_of, layout, rows_by_hand, some_script, some_telling


class TogetherTest(unittest.TestCase):
    def test_frames_in_any_order_some_lost(self):
        for seed in range(150):
            chance = chance_of(seed)
            size = chance.choice([8, 9, 16, 23, 24])
            stream = chance.randint(0, 3)
            script = some_script(chance, chance.randint(1, 25))
            frames = layout(stream, script, size)
            share = chance.choice([0, 0.3, 0.6, 0.9, 1])
            came = [frame for frame in frames if chance.random() < share]
            came += chance.sample(came, len(came) // 2)
            chance.shuffle(came)
            rows = rows_by_hand(script, size, {frame[1] for frame in came})
            ground = Ground(size)
            for frame in came:
                ground.hear(frame)
            self.assertEqual(ground.rows(stream), rows)
            self.assertEqual(rows_of(came, size), rows)

    def test_all_frames_tell_all(self):
        for seed in range(40):
            chance = chance_of(seed)
            tellings = [some_telling(chance) for _ in range(chance.randint(0, 60))]
            size = chance.randint(8, 24)
            frames = frames_of(3, tellings, size)
            self.assertEqual(frames, layout(3, tellings + [CLOSE], size))
            chance.shuffle(frames)
            told = [("told", number, telling) for number, telling in enumerate(tellings)]
            self.assertEqual(rows_of(frames, size), told)

    def test_every_choice_of_a_few_frames(self):
        script = [(0,), (1, 0), CLOSE, (0,) * 20, (2,), CLOSE, (3,) * 10, (4,), CLOSE]
        frames = layout(0, script, 8)
        for choice in range(1 << len(frames)):
            came = [frame for frame in frames if choice >> frame[1] & 1]
            rows = rows_by_hand(script, 8, {frame[1] for frame in came})
            self.assertEqual(rows_of(came, 8), rows)

    def test_a_craft_of_four_streams(self):
        for seed in range(20):
            chance = chance_of(seed)
            size = chance.choice([8, 13, 24])
            scripts = [some_script(chance, 6) for _ in range(4)]
            craft = Craft(size, 60)
            craft.begin()
            frames = []
            lines = [list(script) for script in scripts]
            while any(lines):
                stream = chance.choice([at for at in range(4) if lines[at]])
                part = lines[stream].pop(0)
                if part == CLOSE:
                    craft.close(stream)
                else:
                    craft.tell(stream, part)
                frames.append(craft.beat())
            frames += [craft.beat() for _ in range(60)]
            came = [frame for frame in frames if frame is not None]
            chance.shuffle(came)
            ground = Ground(size)
            for frame in came:
                ground.hear(frame)
            for stream in range(4):
                counts = {frame[1] for frame in came if frame[0] == stream}
                self.assertEqual(counts, set(range(len(layout(stream, scripts[stream], size)))))
                self.assertEqual(ground.rows(stream), rows_by_hand(scripts[stream], size, counts))

    def test_asks_bring_all_over_a_bad_road(self):
        for seed in range(20):
            chance = chance_of(seed)
            craft = Craft(8, 60)
            ground = Ground(8)
            craft.begin()
            tellings = [some_telling(chance) for _ in range(15)]
            for telling in tellings:
                craft.tell(1, telling)
            craft.close(1)
            while craft.kept():
                frame = craft.beat()
                if frame is None:
                    craft.again([row[:2] for row in craft.kept()])
                elif chance.random() < 0.4:
                    ground.hear(frame)
                if chance.random() < 0.3:
                    craft.known(ground.has())
                    self.assertEqual(craft.again(ground.wants()), [])
            told = [("told", number, telling) for number, telling in enumerate(tellings)]
            self.assertEqual(ground.rows(1), told)


if __name__ == "__main__":
    unittest.main()
