"""Points 50 and 51: what a desk answers to papers and to questions."""

import random
import unittest

from chancedeeds import Pool, words_of
from papers import book_of, deed_of, plain_answers, plain_works, small_papers
from samples import many_names
from stillmain import desk as module
from stillmain.desk import Desk
from stillmain.errors import MainsError
from stillmain.reach import live_rooms, way_to
from workses import SMALL

LAST = 10 ** 9


def desk_of(*papers):
    """A desk to which papers (time, number, row) were brought."""
    desk = Desk()
    for time, number, row in papers:
        desk.say(f"paper {time} {number} {row}")
    return desk


def desk_of_rows(*rows):
    """A desk to which rows of deeds were brought, at times 0, 10, 20 and on."""
    return desk_of(*[(10 * at, at, row) for at, row in enumerate(rows)])


def in_words(answer):
    """An answer in words, as point 50 tells it."""
    if answer[0] == "refused":
        return " ".join(["refused", answer[1]] + [str(one) for one in answer[2]])
    return "done" if answer[1] is None else f"done {answer[1][0]} {answer[1][1] or 'free'}"


class DeskTest(unittest.TestCase):
    def assert_says(self, desk, row, due):
        """The desk says so, twice alike."""
        for _ in range(2):
            told = desk.say(row)
            self.assertEqual(told, due, row)
            self.assertIs(type(told), str)


class InterfaceTest(unittest.TestCase):
    def test_the_class_defines_its_methods_itself(self):
        self.assertEqual(Desk.__module__, "stillmain.desk")
        self.assertIs(module.Desk, Desk)
        self.assertIn("say", vars(Desk))

    def test_two_desks_know_nothing_of_one_another(self):
        one, other = Desk(), Desk()
        one.say("paper 1 1 add_room p")
        self.assertEqual(other.say("answers"), "none")
        self.assertEqual(other.say("paper 1 1 add_room q"), "done")
        self.assertEqual(one.say("answers"), "1 done")


class PapersTest(DeskTest):
    def test_done(self):
        desk = Desk()
        for at, (row, due) in enumerate((
                ("add_room p", "done"), ("add_room q", "done"), ("add_source p", "done"), ("add_line a p q 12", "done"),
                ("add_drain u q", "done"), ("ask jo ann q", "done"), ("begin jo", "done"), ("step jo", "done a shut"),
                ("step jo", "done u open"), ("give jo", "done"), ("try_out jo", "done"), ("step jo", "done u shut"),
                ("step jo", "done a open"), ("put_by jo", "done"), ("step jo", "done u free"),
                ("step jo", "done a free"), ("end jo", "done"))):
            self.assertEqual(desk.say(f"paper {at} {at} {row}"), due)

    def test_refused_with_its_things(self):
        rows = SMALL + ("ask jo ann r", "begin jo", "step jo", "step jo", "step jo", "give jo", "sign_on jo dee",
                        "sign_on jo bo", "ask al eve p q", "stick f", "ask di cy t", "begin di", "step di", "stick v",
                        "stick w")
        desk = desk_of_rows(*rows)
        for row, due in (
                ("add_room p", "refused There p"), ("take_room z", "refused Lacks z"),
                ("take_room q", "refused InUse q"),
                ("turn c open", "refused Held ann bo dee"), ("end jo", "refused Held bo dee"),
                ("begin al", "refused NoPart p"), ("step al", "refused NotNow al"), ("step jo", "refused NotNow jo"),
                ("turn f shut", "refused Stuck f"), ("relieve x y", "refused Lacks x")):
            self.assertEqual(desk.say(f"paper {LAST} {900 + len(row)} {row}"), due, row)
            desk = desk_of_rows(*rows)

    def test_a_way_and_damp_rooms(self):
        rows = SMALL + ("stick c", "ask jo ann r", "add_line z p q 0", "stick v", "stick w", "ask al eve t")
        desk = desk_of_rows(*rows)
        self.assertEqual(desk.say("paper 900 900 begin jo"), "refused NoPart p z q c r")
        for at, row in enumerate(("begin al", "step al", "step al", "give al")):
            due = ("done", "done d shut", "done f shut", "refused NotDry s t")[at]
            self.assertEqual(desk.say(f"paper 1000 {1000 + at} {row}"), due)

    def test_too_many_with_its_number(self):
        desk = desk_of_rows(*["add_room " + name for name in many_names(24)])
        self.assertEqual(desk.say("paper 1000 1000 add_room z"), "refused TooMany 24")
        self.assertEqual(desk.say("answers").split(", ")[-1], "1000 refused TooMany 24")

    def test_whose_answers_are_other_ones_now(self):
        desk = Desk()
        for row, due in (
                ("paper 10 1 add_room p", "done"), ("paper 20 2 take_room p", "done"),
                ("paper 30 30 add_room p", "done"), ("paper 15 5 add_drain u p", "done ; 2 30"),
                ("paper 16 6 take_drain u", "done ; 2 30"), ("paper 5 7 add_room p", "done ; 1"),
                ("paper 0 0 take_room p", "refused Lacks p"), ("paper 2 100 add_room p", "done ; 7"),
                ("paper 1 8 take_source p", "refused Lacks p"), ("paper 3 9 add_source p", "done ; 2 30"),
                ("paper 50 10 step jo", "refused Lacks jo")):
            self.assertEqual(desk.say(row), due, row)

    def test_its_own_answer_comes_first(self):
        desk = desk_of((5, 5, "add_room p"), (6, 6, "take_room p"))
        self.assertEqual(desk.say("paper 1 1 add_room p"), "done ; 5")
        desk = desk_of(*small_papers())
        self.assertEqual(desk.say("paper 171 99 step jo"), "done c shut ; 18 19 20")
        desk = desk_of((5, 5, "add_room p"), (1, 1, "add_room q"), (6, 6, "take_room p"))
        self.assertEqual(desk.say("paper 5 4 add_room p"), "done ; 5")

    def test_one_brought_again_alike(self):
        desk = desk_of((5, 5, "add_room p"), (1, 1, "add_room p"))
        ahead = desk.say("answers")
        self.assert_says(desk, "paper 5 5 add_room p", "refused There p")
        self.assert_says(desk, "paper 1 1 add_room p", "done")
        self.assertEqual(desk.say("answers"), ahead)

    def test_times_and_numbers_at_their_ends(self):
        desk = Desk()
        self.assertEqual(desk.say("paper 0 0 add_room p"), "done")
        self.assertEqual(desk.say(f"paper {LAST} {LAST} add_room p"), "refused There p")
        self.assertEqual(desk.say(f"paper 0 {LAST - 1} add_room q"), "done")
        self.assertEqual(desk.say(f"at {LAST} jobs"), "none")
        self.assertEqual(desk.say("answers"), f"0 done, {LAST - 1} done, {LAST} refused There p")


class AnswersTest(DeskTest):
    def test_none(self):
        self.assert_says(Desk(), "answers", "none")

    def test_in_order(self):
        desk = desk_of((9, 1, "add_room p"), (5, 8, "add_room p"), (5, 10, "take_room p"), (0, 30, "take_room q"))
        self.assert_says(desk, "answers", "30 refused Lacks q, 8 done, 10 done, 1 done")

    def test_with_steps(self):
        desk = desk_of(*small_papers()[-6:])
        self.assertEqual(desk.say("answers").count("refused"), 6)
        desk = desk_of(*small_papers())
        self.assertEqual(desk.say("answers").split(", ")[-6:],
                         ["16 done", "17 done", "18 done c shut", "19 done d shut", "20 done u open", "21 done"])
        desk.say("paper 1000 30 end jo")
        desk.say("paper 1000 31 step jo")
        self.assertEqual(desk.say("answers").split(", ")[-2:], ["30 done", "31 done u free"])


class QuestionsTest(DeskTest):
    def desk(self):
        """The works of SMALL, jo given in r with bo signed on, al begun in t, di asked for in q."""
        return desk_of_rows(*SMALL + (
            "ask jo zed r", "begin jo", "step jo", "step jo", "step jo", "give jo", "sign_on jo ann", "ask al eve t",
            "begin al", "step al", "ask di flo q", "stick u", "stick b"))

    def test_of_nothing(self):
        for question in ("live", "wet", "shut", "opened", "jobs"):
            self.assert_says(Desk(), question, "none")
            self.assert_says(Desk(), "at 0 " + question, "none")

    def test_names(self):
        desk = self.desk()
        self.assert_says(desk, "live", "p q s t")
        self.assert_says(desk, "wet", "p q s t")
        self.assert_says(desk, "shut", "c d")
        self.assert_says(desk, "opened", "u")
        self.assert_says(desk, "jobs", "al di jo")

    def test_live_and_wet_are_two(self):
        desk = desk_of_rows("add_room p", "add_room q", "add_line a p q 3", "add_source p", "turn a shut")
        self.assert_says(desk, "live", "p")
        self.assert_says(desk, "wet", "p q")
        self.assert_says(desk, "at 30 live", "p q")

    def test_of_a_job(self):
        desk = self.desk()
        self.assert_says(desk, "phase jo", "given")
        self.assert_says(desk, "phase al", "still")
        self.assert_says(desk, "phase di", "by")
        self.assert_says(desk, "crew jo", "zed ann")
        self.assert_says(desk, "crew al", "eve")
        self.assert_says(desk, "lot jo", "c d ; r ; u")
        self.assert_says(desk, "lot al", "d f ; s t ; v w")
        self.assert_says(desk, "lot di", "- ; - ; -")
        self.assert_says(desk, "steps jo", "none")
        self.assert_says(desk, "steps al", "f shut, v open, w open")
        self.assert_says(desk, "steps di", "none")

    def test_each_phase(self):
        desk, said = Desk(), []
        rows = SMALL + ("ask jo ann r", "begin jo", "step jo", "step jo", "step jo", "give jo", "try_out jo",
                        "go_on jo", "put_by jo", "step jo", "step jo", "step jo")
        for at, row in enumerate(rows):
            desk.say(f"paper {at} {at} {row}")
            if desk.say("jobs") != "none":
                said.append(desk.say("phase jo"))
        self.assertEqual(said, ["by"] + ["still"] * 4 + ["given", "trial", "still"] + ["away"] * 3 + ["by"])

    def test_lots_of_none_in_part(self):
        desk = desk_of_rows("add_room p", "ask jo ann p", "begin jo")
        self.assert_says(desk, "lot jo", "- ; p ; -")
        desk = desk_of_rows("add_room p", "add_drain u p", "ask jo ann p", "begin jo")
        self.assert_says(desk, "lot jo", "- ; p ; u")
        self.assert_says(desk, "steps jo", "u open")

    def test_free_in_steps(self):
        desk = self.desk()
        desk.say("paper 1000 100 sign_off jo ann")
        desk.say("paper 1000 101 end jo")
        self.assert_says(desk, "steps jo", "u free, d free, c free")
        self.assert_says(desk, "phase jo", "away")

    def test_of_a_device(self):
        desk = self.desk()
        self.assert_says(desk, "tags c", "jo/ann jo/zed")
        self.assert_says(desk, "tags d", "al/eve jo/ann jo/zed")
        self.assert_says(desk, "tags u", "jo/ann jo/zed")
        self.assert_says(desk, "tags a", "none")
        self.assert_says(desk, "tags v", "none")
        self.assert_says(desk, "stands c", "shut")
        self.assert_says(desk, "stands a", "open")
        self.assert_says(desk, "stands b", "open stuck")
        self.assert_says(desk, "stands u", "open stuck")
        self.assert_says(desk, "stands v", "shut")
        desk.say("paper 1000 200 stick v")
        self.assert_says(desk, "stands v", "shut stuck")
        self.assert_says(desk, "at 999 stands v", "shut")

    def test_ways(self):
        desk = self.desk()
        self.assert_says(desk, "way p", "p")
        self.assert_says(desk, "way q", "p a q")
        self.assert_says(desk, "way t", "p a q f s e t")
        self.assert_says(desk, "way r", "none")
        # As long as the switches stood open.
        self.assert_says(desk, "at 150 way r", "p a q c r")
        self.assert_says(desk, "at 180 way r", "p a q f s d r")
        self.assert_says(desk, "at 190 way r", "none")

    def test_at_each_time(self):
        papers = small_papers()
        desk, book = desk_of(*papers), book_of(*papers)
        for time in list(range(0, 225, 5)) + [LAST]:
            works = book.works_at(time)
            for question, due in (
                    ("wet", works.wet()), ("shut", works.shut()), ("opened", works.opened()), ("jobs", works.jobs()),
                    ("live", live_rooms(works.layout(), works.shut()))):
                self.assert_says(desk, f"at {time} {question}", " ".join(due) or "none")
            for room in works.layout().rooms():
                due = way_to(works.layout(), works.shut(), [room])
                self.assert_says(desk, f"at {time} way {room}", " ".join(due or ["none"]))
            board = works.board()
            for device in board.devices():
                self.assert_says(desk, f"at {time} stands {device}", board.stands(device))
                tags = [f"{job}/{hand}" for job, hand in board.tags(device)]
                self.assert_says(desk, f"at {time} tags {device}", " ".join(tags) or "none")
            for job in works.jobs():
                self.assert_says(desk, f"at {time} phase {job}", works.phase(job))
                self.assert_says(desk, f"at {time} crew {job}", " ".join(works.crew_at(job)))
                lot = [" ".join(names) or "-" for names in works.lot(job)]
                self.assert_says(desk, f"at {time} lot {job}", " ; ".join(lot))
                steps = [f"{device} {position or 'free'}" for device, position in works.steps_left(job)]
                self.assert_says(desk, f"at {time} steps {job}", ", ".join(steps) or "none")

    def test_names_like_words_of_the_desk(self):
        desk = desk_of_rows("add_room at", "add_room none", "add_line paper at none 3", "add_source none",
                            "ask live free at", "add_drain answers at")
        self.assert_says(desk, "live", "at none")
        self.assert_says(desk, "way at", "none paper at")
        self.assert_says(desk, "stands paper", "open")
        self.assert_says(desk, "stands answers", "shut")
        self.assert_says(desk, "jobs", "live")
        self.assert_says(desk, "crew live", "free")
        self.assert_says(desk, "at 20 way at", "none")

    def test_questions_change_nothing(self):
        desk = self.desk()
        ahead = desk.say("answers")
        for question in ("live", "lot jo", "at 5 wet", "tags c", "way q", "answers"):
            desk.say(question)
        self.assertEqual(desk.say("answers"), ahead)


class ChanceTest(DeskTest):
    def test_papers_by_chance(self):
        for seed in range(6):
            chance = random.Random(seed)
            pool, desk, papers = Pool(4, 5, 2, 2, 3), Desk(), []
            deeds = pool.layout_deeds(chance, 4, 2)[:-1]
            for number in chance.sample(range(1000), 50):
                works = plain_works(papers)
                deed = deeds.pop(0) if deeds and chance.random() < 0.5 else pool.deed(chance, works)
                time, ahead = chance.randint(len(papers) // 2, 40), plain_answers(papers)
                papers.append((time, number, deed))
                answers = {other: answer for _, other, answer in plain_answers(papers)}
                changed = [str(other) for _, other, answer in ahead if answers[other] != answer]
                due = in_words(answers[number]) + (" ; " + " ".join(changed) if changed else "")
                self.assertEqual(desk.say(f"paper {time} {number} {words_of(deed)}"), due)
                self.assertEqual(desk.say("answers"), ", ".join(
                    f"{other} {in_words(answer)}" for _, other, answer in plain_answers(papers)))
                self.assert_questions(desk, plain_works(papers))

    def assert_questions(self, desk, works):
        self.assertEqual(desk.say("jobs"), " ".join(works.jobs()) or "none")
        for job in works.jobs():
            lot = [" ".join(names) or "-" for names in works.lot(job)]
            steps = [f"{device} {position or 'free'}" for device, position in works.steps_left(job)]
            self.assertEqual(desk.say("lot " + job), " ; ".join(lot))
            self.assertEqual(desk.say("steps " + job), ", ".join(steps) or "none")
        board = works.board()
        for device in board.devices():
            tags = [f"{job}/{hand}" for job, hand in board.tags(device)]
            self.assertEqual(desk.say("tags " + device), " ".join(tags) or "none")
            stuck = " stuck" if board.is_stuck(device) else ""
            self.assertEqual(desk.say("stands " + device), board.stands(device) + stuck)

    def test_deeds_are_read_as_they_are_written(self):
        desk = desk_of_rows("add_room p", "add_room q", "ask jo ann q p")
        self.assertEqual(deed_of("ask jo ann q p"), ("ask", "jo", "ann", ["q", "p"]))
        with self.assertRaises(MainsError):
            desk.say("paper 1 99 ask jo ann q  p")


if __name__ == "__main__":
    unittest.main()
