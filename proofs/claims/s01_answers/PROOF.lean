import PyProof.Rows.All
import Wide.All
import OpenK.AllK
import Wide.FinOn
import KE.KStateDown
import Lean
import Open.SpecLaws
import KE.OsGo
import HandS.ForSpec
import HandS.ForMost
import HandS.Evl
import HandS.Conv
import HandS.Zip
import HandS.Strs
import HandS.CallLocal
import HandS.CallSlots
import HandS.Codes
import HandS.Defaults
import HandS.More
import HandS.Small
import HandS.ExcInit
import HandS.ExcField
import HandS.ClsMeth
import KE.KExcInit
import HandS.HeadHook1
import HandS.Head0
import HandS.Head1
import HandS.Head2
import HandS.Head4
import HandS.HeadEnd
import HandS.HeadHook2
import HandS.HeadHook4
import HandS.Walk
import HandS.ExcOwn
import HandS.Dict
import PySem.Challenge.RW_endsolver_s01_answers
section
set_option Elab.async false
set_option linter.all false
set_option maxRecDepth 100000
set_option maxHeartbeats 4000000
namespace Es
open PySem PySem.Spec PyProof.Rows L2
abbrev Fr := PySem.W.Frag
def top (i : Nat) : Stmt := PySem.Challenge.pw_endsolver_s01_answers.main.body.getD i (.Pass ⟨0, 0, 0, 0⟩)
abbrev exT : List Value := [.type "Exception", .type "BaseException", .type "object"]
def intKeys (es : List DictEntry) : Bool := es.all fun d => match d.key with
  | .int j _ => d.hash == hashInt j
  | _ => false
/-- what a dict of the module holds at a number -/
def kdAt (K : Fr) (a : Addr) (i : Int) : Option Value := match K.lookup a with
  | none => none
  | some o => match o.data with
    | .dict es _ => if (decide (o.cls = .type "dict") && (o.dict.isNone && (o.slots.isEmpty && intKeys es.toList))) = true then findBy keyIs es (Sum.inl i : Key) else none
    | _ => none
/-! ### facts that are looked up in what the top leaves -/
def ecB (K : Fr) (C : Addr) : Bool := PySem.W.excInitIn K C exT "Exception.__new__" && (PySem.W.excOver K C exT && (PySem.W.hasDictIn K C && (He.eqO (PySem.W.findIn K (.ref C) "__setattr__") (some (some (.builtin "object.__setattr__"))) && (He.eqO (PySem.W.findIn K (.ref C) "answer") (some none) && (decide (PySem.W.subIn K (.ref C) (.type "BaseException") = some true) && (decide (PySem.W.typeIn K (.ref C) = some (.type "type")) && PySem.W.keepIn K (.ref C)))))))
def rcB (K : Fr) (C : Addr) : Bool := decide (PySem.W.exmOne K (.ref C) (.ref (He.ga K "Refusal")) = some true) && (xfB K C && He.eqO (PySem.W.findIn K (.ref C) "answer") (some none))
def erB (K : Fr) (C : Addr) : Bool := He.eqO (PySem.W.findIn K (.ref C) "__init__") (some (some (.ref (He.ma K C "__init__")))) && decide (PySem.W.typeIn K (.ref (He.ma K C "__init__")) = some (.type "function"))
def offB (K : Fr) (C : Addr) (m : Str) : Bool := PySem.W.readsIn K C (.type "type") && (He.eqO (PySem.W.specialIn K (.ref C) "__getattribute__") (some (some (.builtin "type.__getattribute__"))) && (match PySem.W.findCls K (.ref C) (.type "type") m with
  | some (.val u) => decide (u = .ref (He.ma K C m))
  | _ => false))
/-- a tuple of whole numbers -/
def tupAt (K : Fr) (t : Addr) (vs : List Int) : Bool := match K.lookup t with
  | none => false
  | some o => match o.data with
    | .seq its _ => decide (o.cls = .type "tuple") && (decide (its.size ≤ sizeLine) && He.relAll (vs.map V.int) its.toList)
    | _ => false
def formsB (K : Fr) (x : Str) (l : List (Int × List Int)) : Bool := l.all fun p => match kdAt K (He.ga K x) p.1 with
  | some (.ref t) => tupAt K t p.2
  | _ => false
def tellB (K : Fr) (x : Str) (l : List (Int × Str)) : Bool := l.all fun p => (match kdAt K (He.ga K x) p.1 with
  | some (.ref t) => decide (t = He.ga K p.2)
  | _ => false) && (He.Fa.glo p.2).ok K
def d_CALL_FORMS : List (Int × List Int) := [(1, [0, 1]), (2, [1, 0]), (3, [0, 1]), (4, [1, 0]), (5, [0, 1]), (6, [0, 1]), (7, [1, 1]), (8, [0, 1]), (9, [0, 1]), (10, [2, 0]), (11, [3, 0]), (12, [1, 0]), (13, [0, 0]), (14, [0, 1]), (15, [0, 0]), (16, [0, 1]), (17, [2, 2])]
def d_TELLERS : List (Int × Str) := [(1, "tell_game"), (2, "tell_solve"), (3, "tell_index"), (4, "tell_pos"), (5, "tell_value"), (6, "tell_moves"), (7, "tell_play"), (8, "tell_best"), (9, "tell_line"), (10, "tell_many"), (11, "tell_next"), (12, "tell_longest"), (13, "tell_turns"), (14, "tell_least"), (15, "tell_table"), (16, "tell_judge"), (17, "tell_match")]
def fa : List He.Fa := [.free "len",
  .free "set",
  .free "abs",
  .free "list",
  .free "range",
  .free "enumerate",
  .free "max",
  .free "min",
  .free "sum",
  .int "OFF" 64,
  .int "PASS" 65535,
  .int "DRAW" 0,
  .int "WIN" 1,
  .int "LOSS" 2,
  .glo "STUCK_OUTCOMES",
  .int "NO_REPLY" 3,
  .int "MOST_NUMBERS" 2048,
  .int "NO_POSITION" 3,
  .int "PER_BYTE" 4,
  .int "TURN_COUNT" 8,
  .int "LAST" 7,
  .int "GAME" 1,
  .glo "CALL_FORMS",
  .glo "TELLERS",
  .glo "Pattern",
  .cls "Pattern",
  .mkr "Pattern",
  .noat "Pattern" "df",
  .noat "Pattern" "dr",
  .noat "Pattern" "reach",
  .noat "Pattern" "how",
  .glo "Kind",
  .cls "Kind",
  .mkr "Kind",
  .noat "Kind" "royal",
  .noat "Kind" "goals",
  .noat "Kind" "patterns",
  .glo "Piece",
  .cls "Piece",
  .mkr "Piece",
  .noat "Piece" "kind",
  .noat "Piece" "side",
  .glo "Way",
  .cls "Way",
  .mkr "Way",
  .noat "Way" "how",
  .noat "Way" "squares",
  .glo "Game",
  .cls "Game",
  .mkr "Game",
  .noat "Game" "stuck",
  .noat "Game" "passing",
  .noat "Game" "board",
  .noat "Game" "kinds",
  .noat "Game" "pieces",
  .noat "Game" "squares",
  .noat "Game" "places",
  .noat "Game" "total",
  .noat "Game" "ways",
  .glo "Refusal",
  .glo "NoGame",
  .glo "Fault",
  .glo "TooLarge",
  .glo "NotRight",
  .glo "NoOutcome",
  .glo "NoSide",
  .glo "NotKnown",
  .glo "NotSolved",
  .glo "NotFound",
  .glo "OtherLength",
  .glo "NoMove",
  .glo "AtEnd",
  .glo "Drawn",
  .glo "Solving",
  .cls "Solving",
  .mkr "Solving",
  .noat "Solving" "game",
  .noat "Solving" "known",
  .noat "Solving" "leads",
  .noat "Solving" "rounds",
  .noat "Solving" "solved",
  .glo "Match",
  .cls "Match",
  .mkr "Match",
  .noat "Match" "side",
  .noat "Match" "row",
  .noat "Match" "replies",
  .noat "Match" "made",
  .noat "Match" "replied",
  .noat "Match" "result",
  .glo "ByteReader",
  .cls "ByteReader",
  .mkr "ByteReader",
  .meth "ByteReader" "need",
  .meth "ByteReader" "byte",
  .meth "ByteReader" "step",
  .meth "ByteReader" "square_set",
  .meth "ByteReader" "finish",
  .noat "ByteReader" "numbers",
  .noat "ByteReader" "place",
  .glo "Call",
  .cls "Call",
  .mkr "Call",
  .noat "Call" "number",
  .noat "Call" "numbers",
  .noat "Call" "rows",
  .glo "CallReader",
  .cls "CallReader",
  .mkr "CallReader",
  .meth "CallReader" "at_end",
  .meth "CallReader" "take",
  .meth "CallReader" "take_call",
  .noat "CallReader" "calls",
  .noat "CallReader" "place",
  .glo "Desk",
  .cls "Desk",
  .mkr "Desk",
  .noat "Desk" "solving",
  .glo "has_square",
  .glo "squares_of",
  .glo "places_of",
  .glo "count_numbers",
  .glo "ways_of_kind",
  .glo "squares_along",
  .glo "is_on_board",
  .glo "has_lost",
  .glo "holders_of",
  .glo "targets_of",
  .glo "moves_of",
  .glo "row_after",
  .glo "end_outcome",
  .glo "is_right",
  .glo "check_right",
  .glo "number_of",
  .glo "row_of",
  .glo "right_row_of",
  .glo "right_numbers",
  .glo "do_rounds",
  .glo "do_round",
  .glo "find_ends",
  .glo "find_by_leads",
  .glo "outcome_by_leads",
  .glo "value_of",
  .glo "value_at",
  .glo "check_solved",
  .glo "numbers_with",
  .glo "first_with",
  .glo "longest_of",
  .glo "best_move",
  .glo "value_to_reach",
  .glo "best_line",
  .glo "play_match",
  .glo "take_reply",
  .glo "result_at_end",
  .glo "read_game",
  .glo "read_board",
  .glo "read_kind",
  .glo "read_goals",
  .glo "read_pattern",
  .glo "read_piece",
  .glo "table_of",
  .glo "codes_of",
  .glo "shift_of",
  .glo "code_in",
  .glo "first_wrong",
  .glo "turned_pair",
  .glo "mirrored_pair",
  .glo "turned_square",
  .glo "turned_set",
  .glo "turned_patterns",
  .glo "turned_row",
  .glo "keeps_kind",
  .glo "keeps_game",
  .glo "keeping_turns",
  .glo "turns_sum",
  .glo "least_turn",
  .glo "tell_game",
  .glo "tell_solve",
  .glo "tell_index",
  .glo "tell_pos",
  .glo "tell_value",
  .glo "tell_moves",
  .glo "tell_play",
  .glo "tell_best",
  .glo "tell_line",
  .glo "tell_many",
  .glo "tell_next",
  .glo "tell_longest",
  .glo "tell_turns",
  .glo "tell_least",
  .glo "tell_table",
  .glo "tell_judge",
  .glo "tell_match",
  .glo "right_row",
  .glo "check_outcome",
  .glo "counted",
  .glo "answer_of",
  .glo "answers"]
def fn : List He.DefD := [⟨("Pattern", some "__init__"), "__init__", "Pattern.__init__", defArgs (inClass (top 2) 0), defBody (inClass (top 2) 0), defScope (inClass (top 2) 0), [], []⟩,
  ⟨("Kind", some "__init__"), "__init__", "Kind.__init__", defArgs (inClass (top 3) 0), defBody (inClass (top 3) 0), defScope (inClass (top 3) 0), [], []⟩,
  ⟨("Piece", some "__init__"), "__init__", "Piece.__init__", defArgs (inClass (top 4) 0), defBody (inClass (top 4) 0), defScope (inClass (top 4) 0), [], []⟩,
  ⟨("Way", some "__init__"), "__init__", "Way.__init__", defArgs (inClass (top 5) 0), defBody (inClass (top 5) 0), defScope (inClass (top 5) 0), [], []⟩,
  ⟨("Game", some "__init__"), "__init__", "Game.__init__", defArgs (inClass (top 6) 0), defBody (inClass (top 6) 0), defScope (inClass (top 6) 0), [], []⟩,
  ⟨("Refusal", some "__init__"), "__init__", "Refusal.__init__", defArgs (inClass (top 27) 0), defBody (inClass (top 27) 0), defScope (inClass (top 27) 0), [], []⟩,
  ⟨("NoGame", some "__init__"), "__init__", "NoGame.__init__", defArgs (inClass (top 28) 0), defBody (inClass (top 28) 0), defScope (inClass (top 28) 0), [], []⟩,
  ⟨("Fault", some "__init__"), "__init__", "Fault.__init__", defArgs (inClass (top 29) 0), defBody (inClass (top 29) 0), defScope (inClass (top 29) 0), [], []⟩,
  ⟨("TooLarge", some "__init__"), "__init__", "TooLarge.__init__", defArgs (inClass (top 30) 0), defBody (inClass (top 30) 0), defScope (inClass (top 30) 0), [], []⟩,
  ⟨("NotRight", some "__init__"), "__init__", "NotRight.__init__", defArgs (inClass (top 31) 0), defBody (inClass (top 31) 0), defScope (inClass (top 31) 0), [], []⟩,
  ⟨("NoOutcome", some "__init__"), "__init__", "NoOutcome.__init__", defArgs (inClass (top 32) 0), defBody (inClass (top 32) 0), defScope (inClass (top 32) 0), [], []⟩,
  ⟨("NoSide", some "__init__"), "__init__", "NoSide.__init__", defArgs (inClass (top 33) 0), defBody (inClass (top 33) 0), defScope (inClass (top 33) 0), [], []⟩,
  ⟨("NotKnown", some "__init__"), "__init__", "NotKnown.__init__", defArgs (inClass (top 34) 0), defBody (inClass (top 34) 0), defScope (inClass (top 34) 0), [], []⟩,
  ⟨("NotSolved", some "__init__"), "__init__", "NotSolved.__init__", defArgs (inClass (top 35) 0), defBody (inClass (top 35) 0), defScope (inClass (top 35) 0), [], []⟩,
  ⟨("NotFound", some "__init__"), "__init__", "NotFound.__init__", defArgs (inClass (top 36) 0), defBody (inClass (top 36) 0), defScope (inClass (top 36) 0), [], []⟩,
  ⟨("OtherLength", some "__init__"), "__init__", "OtherLength.__init__", defArgs (inClass (top 37) 0), defBody (inClass (top 37) 0), defScope (inClass (top 37) 0), [], []⟩,
  ⟨("NoMove", some "__init__"), "__init__", "NoMove.__init__", defArgs (inClass (top 38) 0), defBody (inClass (top 38) 0), defScope (inClass (top 38) 0), [], []⟩,
  ⟨("AtEnd", some "__init__"), "__init__", "AtEnd.__init__", defArgs (inClass (top 39) 0), defBody (inClass (top 39) 0), defScope (inClass (top 39) 0), [], []⟩,
  ⟨("Drawn", some "__init__"), "__init__", "Drawn.__init__", defArgs (inClass (top 40) 0), defBody (inClass (top 40) 0), defScope (inClass (top 40) 0), [], []⟩,
  ⟨("Solving", some "__init__"), "__init__", "Solving.__init__", defArgs (inClass (top 49) 0), defBody (inClass (top 49) 0), defScope (inClass (top 49) 0), [], []⟩,
  ⟨("Match", some "__init__"), "__init__", "Match.__init__", defArgs (inClass (top 68) 0), defBody (inClass (top 68) 0), defScope (inClass (top 68) 0), [], []⟩,
  ⟨("ByteReader", some "__init__"), "__init__", "ByteReader.__init__", defArgs (inClass (top 74) 0), defBody (inClass (top 74) 0), defScope (inClass (top 74) 0), [], []⟩,
  ⟨("ByteReader", some "need"), "need", "ByteReader.need", defArgs (inClass (top 74) 1), defBody (inClass (top 74) 1), defScope (inClass (top 74) 1), [], []⟩,
  ⟨("ByteReader", some "byte"), "byte", "ByteReader.byte", defArgs (inClass (top 74) 2), defBody (inClass (top 74) 2), defScope (inClass (top 74) 2), [], []⟩,
  ⟨("ByteReader", some "step"), "step", "ByteReader.step", defArgs (inClass (top 74) 3), defBody (inClass (top 74) 3), defScope (inClass (top 74) 3), [], []⟩,
  ⟨("ByteReader", some "square_set"), "square_set", "ByteReader.square_set", defArgs (inClass (top 74) 4), defBody (inClass (top 74) 4), defScope (inClass (top 74) 4), [], []⟩,
  ⟨("ByteReader", some "finish"), "finish", "ByteReader.finish", defArgs (inClass (top 74) 5), defBody (inClass (top 74) 5), defScope (inClass (top 74) 5), [], []⟩,
  ⟨("Call", some "__init__"), "__init__", "Call.__init__", defArgs (inClass (top 106) 0), defBody (inClass (top 106) 0), defScope (inClass (top 106) 0), [], []⟩,
  ⟨("CallReader", some "__init__"), "__init__", "CallReader.__init__", defArgs (inClass (top 107) 0), defBody (inClass (top 107) 0), defScope (inClass (top 107) 0), [], []⟩,
  ⟨("CallReader", some "at_end"), "at_end", "CallReader.at_end", defArgs (inClass (top 107) 1), defBody (inClass (top 107) 1), defScope (inClass (top 107) 1), [], []⟩,
  ⟨("CallReader", some "take"), "take", "CallReader.take", defArgs (inClass (top 107) 2), defBody (inClass (top 107) 2), defScope (inClass (top 107) 2), [], []⟩,
  ⟨("CallReader", some "take_call"), "take_call", "CallReader.take_call", defArgs (inClass (top 107) 3), defBody (inClass (top 107) 3), defScope (inClass (top 107) 3), [], []⟩,
  ⟨("Desk", some "__init__"), "__init__", "Desk.__init__", defArgs (inClass (top 108) 0), defBody (inClass (top 108) 0), defScope (inClass (top 108) 0), [], []⟩,
  ⟨("has_square", none), "has_square", "has_square", defArgs (top 7), defBody (top 7), defScope (top 7), [], []⟩,
  ⟨("squares_of", none), "squares_of", "squares_of", defArgs (top 8), defBody (top 8), defScope (top 8), [], []⟩,
  ⟨("places_of", none), "places_of", "places_of", defArgs (top 9), defBody (top 9), defScope (top 9), [], []⟩,
  ⟨("count_numbers", none), "count_numbers", "count_numbers", defArgs (top 10), defBody (top 10), defScope (top 10), [], []⟩,
  ⟨("ways_of_kind", none), "ways_of_kind", "ways_of_kind", defArgs (top 11), defBody (top 11), defScope (top 11), [], []⟩,
  ⟨("squares_along", none), "squares_along", "squares_along", defArgs (top 12), defBody (top 12), defScope (top 12), [], []⟩,
  ⟨("is_on_board", none), "is_on_board", "is_on_board", defArgs (top 13), defBody (top 13), defScope (top 13), [], []⟩,
  ⟨("has_lost", none), "has_lost", "has_lost", defArgs (top 20), defBody (top 20), defScope (top 20), [], []⟩,
  ⟨("holders_of", none), "holders_of", "holders_of", defArgs (top 21), defBody (top 21), defScope (top 21), [], []⟩,
  ⟨("targets_of", none), "targets_of", "targets_of", defArgs (top 22), defBody (top 22), defScope (top 22), [], []⟩,
  ⟨("moves_of", none), "moves_of", "moves_of", defArgs (top 23), defBody (top 23), defScope (top 23), [], []⟩,
  ⟨("row_after", none), "row_after", "row_after", defArgs (top 24), defBody (top 24), defScope (top 24), [], []⟩,
  ⟨("end_outcome", none), "end_outcome", "end_outcome", defArgs (top 25), defBody (top 25), defScope (top 25), [], []⟩,
  ⟨("is_right", none), "is_right", "is_right", defArgs (top 42), defBody (top 42), defScope (top 42), [], []⟩,
  ⟨("check_right", none), "check_right", "check_right", defArgs (top 43), defBody (top 43), defScope (top 43), [], []⟩,
  ⟨("number_of", none), "number_of", "number_of", defArgs (top 44), defBody (top 44), defScope (top 44), [], []⟩,
  ⟨("row_of", none), "row_of", "row_of", defArgs (top 45), defBody (top 45), defScope (top 45), [], []⟩,
  ⟨("right_row_of", none), "right_row_of", "right_row_of", defArgs (top 46), defBody (top 46), defScope (top 46), [], []⟩,
  ⟨("right_numbers", none), "right_numbers", "right_numbers", defArgs (top 47), defBody (top 47), defScope (top 47), [], []⟩,
  ⟨("do_rounds", none), "do_rounds", "do_rounds", defArgs (top 50), defBody (top 50), defScope (top 50), [], []⟩,
  ⟨("do_round", none), "do_round", "do_round", defArgs (top 51), defBody (top 51), defScope (top 51), [], []⟩,
  ⟨("find_ends", none), "find_ends", "find_ends", defArgs (top 52), defBody (top 52), defScope (top 52), [], []⟩,
  ⟨("find_by_leads", none), "find_by_leads", "find_by_leads", defArgs (top 53), defBody (top 53), defScope (top 53), [], []⟩,
  ⟨("outcome_by_leads", none), "outcome_by_leads", "outcome_by_leads", defArgs (top 54), defBody (top 54), defScope (top 54), [], []⟩,
  ⟨("value_of", none), "value_of", "value_of", defArgs (top 55), defBody (top 55), defScope (top 55), [], []⟩,
  ⟨("value_at", none), "value_at", "value_at", defArgs (top 56), defBody (top 56), defScope (top 56), [], []⟩,
  ⟨("check_solved", none), "check_solved", "check_solved", defArgs (top 57), defBody (top 57), defScope (top 57), [], []⟩,
  ⟨("numbers_with", none), "numbers_with", "numbers_with", defArgs (top 59), defBody (top 59), defScope (top 59), [], []⟩,
  ⟨("first_with", none), "first_with", "first_with", defArgs (top 60), defBody (top 60), defScope (top 60), [], []⟩,
  ⟨("longest_of", none), "longest_of", "longest_of", defArgs (top 61), defBody (top 61), defScope (top 61), [], []⟩,
  ⟨("best_move", none), "best_move", "best_move", defArgs (top 63), defBody (top 63), defScope (top 63), [], []⟩,
  ⟨("value_to_reach", none), "value_to_reach", "value_to_reach", defArgs (top 64), defBody (top 64), defScope (top 64), [], []⟩,
  ⟨("best_line", none), "best_line", "best_line", defArgs (top 65), defBody (top 65), defScope (top 65), [], []⟩,
  ⟨("play_match", none), "play_match", "play_match", defArgs (top 69), defBody (top 69), defScope (top 69), [], []⟩,
  ⟨("take_reply", none), "take_reply", "take_reply", defArgs (top 70), defBody (top 70), defScope (top 70), [], []⟩,
  ⟨("result_at_end", none), "result_at_end", "result_at_end", defArgs (top 71), defBody (top 71), defScope (top 71), [], []⟩,
  ⟨("read_game", none), "read_game", "read_game", defArgs (top 75), defBody (top 75), defScope (top 75), [], []⟩,
  ⟨("read_board", none), "read_board", "read_board", defArgs (top 76), defBody (top 76), defScope (top 76), [], []⟩,
  ⟨("read_kind", none), "read_kind", "read_kind", defArgs (top 77), defBody (top 77), defScope (top 77), [], []⟩,
  ⟨("read_goals", none), "read_goals", "read_goals", defArgs (top 78), defBody (top 78), defScope (top 78), [], []⟩,
  ⟨("read_pattern", none), "read_pattern", "read_pattern", defArgs (top 79), defBody (top 79), defScope (top 79), [], []⟩,
  ⟨("read_piece", none), "read_piece", "read_piece", defArgs (top 80), defBody (top 80), defScope (top 80), [], []⟩,
  ⟨("table_of", none), "table_of", "table_of", defArgs (top 84), defBody (top 84), defScope (top 84), [], []⟩,
  ⟨("codes_of", none), "codes_of", "codes_of", defArgs (top 85), defBody (top 85), defScope (top 85), [], []⟩,
  ⟨("shift_of", none), "shift_of", "shift_of", defArgs (top 86), defBody (top 86), defScope (top 86), [], []⟩,
  ⟨("code_in", none), "code_in", "code_in", defArgs (top 87), defBody (top 87), defScope (top 87), [], []⟩,
  ⟨("first_wrong", none), "first_wrong", "first_wrong", defArgs (top 88), defBody (top 88), defScope (top 88), [], []⟩,
  ⟨("turned_pair", none), "turned_pair", "turned_pair", defArgs (top 92), defBody (top 92), defScope (top 92), [], []⟩,
  ⟨("mirrored_pair", none), "mirrored_pair", "mirrored_pair", defArgs (top 93), defBody (top 93), defScope (top 93), [], []⟩,
  ⟨("turned_square", none), "turned_square", "turned_square", defArgs (top 94), defBody (top 94), defScope (top 94), [], []⟩,
  ⟨("turned_set", none), "turned_set", "turned_set", defArgs (top 95), defBody (top 95), defScope (top 95), [], []⟩,
  ⟨("turned_patterns", none), "turned_patterns", "turned_patterns", defArgs (top 96), defBody (top 96), defScope (top 96), [], []⟩,
  ⟨("turned_row", none), "turned_row", "turned_row", defArgs (top 97), defBody (top 97), defScope (top 97), [], []⟩,
  ⟨("keeps_kind", none), "keeps_kind", "keeps_kind", defArgs (top 98), defBody (top 98), defScope (top 98), [], []⟩,
  ⟨("keeps_game", none), "keeps_game", "keeps_game", defArgs (top 99), defBody (top 99), defScope (top 99), [], []⟩,
  ⟨("keeping_turns", none), "keeping_turns", "keeping_turns", defArgs (top 100), defBody (top 100), defScope (top 100), [], []⟩,
  ⟨("turns_sum", none), "turns_sum", "turns_sum", defArgs (top 101), defBody (top 101), defScope (top 101), [], []⟩,
  ⟨("least_turn", none), "least_turn", "least_turn", defArgs (top 102), defBody (top 102), defScope (top 102), [], []⟩,
  ⟨("tell_game", none), "tell_game", "tell_game", defArgs (top 109), defBody (top 109), defScope (top 109), [], []⟩,
  ⟨("tell_solve", none), "tell_solve", "tell_solve", defArgs (top 110), defBody (top 110), defScope (top 110), [], []⟩,
  ⟨("tell_index", none), "tell_index", "tell_index", defArgs (top 111), defBody (top 111), defScope (top 111), [], []⟩,
  ⟨("tell_pos", none), "tell_pos", "tell_pos", defArgs (top 112), defBody (top 112), defScope (top 112), [], []⟩,
  ⟨("tell_value", none), "tell_value", "tell_value", defArgs (top 113), defBody (top 113), defScope (top 113), [], []⟩,
  ⟨("tell_moves", none), "tell_moves", "tell_moves", defArgs (top 114), defBody (top 114), defScope (top 114), [], []⟩,
  ⟨("tell_play", none), "tell_play", "tell_play", defArgs (top 115), defBody (top 115), defScope (top 115), [], []⟩,
  ⟨("tell_best", none), "tell_best", "tell_best", defArgs (top 116), defBody (top 116), defScope (top 116), [], []⟩,
  ⟨("tell_line", none), "tell_line", "tell_line", defArgs (top 117), defBody (top 117), defScope (top 117), [], []⟩,
  ⟨("tell_many", none), "tell_many", "tell_many", defArgs (top 118), defBody (top 118), defScope (top 118), [], []⟩,
  ⟨("tell_next", none), "tell_next", "tell_next", defArgs (top 119), defBody (top 119), defScope (top 119), [], []⟩,
  ⟨("tell_longest", none), "tell_longest", "tell_longest", defArgs (top 120), defBody (top 120), defScope (top 120), [], []⟩,
  ⟨("tell_turns", none), "tell_turns", "tell_turns", defArgs (top 121), defBody (top 121), defScope (top 121), [], []⟩,
  ⟨("tell_least", none), "tell_least", "tell_least", defArgs (top 122), defBody (top 122), defScope (top 122), [], []⟩,
  ⟨("tell_table", none), "tell_table", "tell_table", defArgs (top 123), defBody (top 123), defScope (top 123), [], []⟩,
  ⟨("tell_judge", none), "tell_judge", "tell_judge", defArgs (top 124), defBody (top 124), defScope (top 124), [], []⟩,
  ⟨("tell_match", none), "tell_match", "tell_match", defArgs (top 125), defBody (top 125), defScope (top 125), [], []⟩,
  ⟨("right_row", none), "right_row", "right_row", defArgs (top 127), defBody (top 127), defScope (top 127), [], []⟩,
  ⟨("check_outcome", none), "check_outcome", "check_outcome", defArgs (top 128), defBody (top 128), defScope (top 128), [], []⟩,
  ⟨("counted", none), "counted", "counted", defArgs (top 129), defBody (top 129), defScope (top 129), [], []⟩,
  ⟨("answer_of", none), "answer_of", "answer_of", defArgs (top 130), defBody (top 130), defScope (top 130), [], []⟩,
  ⟨("answers", none), "answers", "answers", defArgs (top 131), defBody (top 131), defScope (top 131), [], []⟩]
def exL : List (Fr → Bool) := [fun K => He.tupB K "STUCK_OUTCOMES" [.int 2, .int 0, .int 1],
  fun K => formsB K "CALL_FORMS" d_CALL_FORMS,
  fun K => tellB K "TELLERS" d_TELLERS,
  fun K => ecB K (He.ga K "Refusal"),
  fun K => rcB K (He.ga K "Refusal"),
  fun K => erB K (He.ga K "Refusal"),
  fun K => offB K (He.ga K "Refusal") "__init__",
  fun K => ecB K (He.ga K "NoGame"),
  fun K => rcB K (He.ga K "NoGame"),
  fun K => erB K (He.ga K "NoGame"),
  fun K => ecB K (He.ga K "Fault"),
  fun K => rcB K (He.ga K "Fault"),
  fun K => erB K (He.ga K "Fault"),
  fun K => ecB K (He.ga K "TooLarge"),
  fun K => rcB K (He.ga K "TooLarge"),
  fun K => erB K (He.ga K "TooLarge"),
  fun K => ecB K (He.ga K "NotRight"),
  fun K => rcB K (He.ga K "NotRight"),
  fun K => erB K (He.ga K "NotRight"),
  fun K => ecB K (He.ga K "NoOutcome"),
  fun K => rcB K (He.ga K "NoOutcome"),
  fun K => erB K (He.ga K "NoOutcome"),
  fun K => ecB K (He.ga K "NoSide"),
  fun K => rcB K (He.ga K "NoSide"),
  fun K => erB K (He.ga K "NoSide"),
  fun K => ecB K (He.ga K "NotKnown"),
  fun K => rcB K (He.ga K "NotKnown"),
  fun K => erB K (He.ga K "NotKnown"),
  fun K => ecB K (He.ga K "NotSolved"),
  fun K => rcB K (He.ga K "NotSolved"),
  fun K => erB K (He.ga K "NotSolved"),
  fun K => ecB K (He.ga K "NotFound"),
  fun K => rcB K (He.ga K "NotFound"),
  fun K => erB K (He.ga K "NotFound"),
  fun K => ecB K (He.ga K "OtherLength"),
  fun K => rcB K (He.ga K "OtherLength"),
  fun K => erB K (He.ga K "OtherLength"),
  fun K => ecB K (He.ga K "NoMove"),
  fun K => rcB K (He.ga K "NoMove"),
  fun K => erB K (He.ga K "NoMove"),
  fun K => ecB K (He.ga K "AtEnd"),
  fun K => rcB K (He.ga K "AtEnd"),
  fun K => erB K (He.ga K "AtEnd"),
  fun K => ecB K (He.ga K "Drawn"),
  fun K => rcB K (He.ga K "Drawn"),
  fun K => erB K (He.ga K "Drawn")]
def exB (K : Fr) : Bool := exL.all fun f => f K
def nm0 : List Str := ["__name__", "OFF", "Pattern", "Kind", "Piece", "Way", "Game", "has_square", "squares_of", "places_of", "count_numbers", "ways_of_kind", "squares_along", "is_on_board", "PASS", "DRAW", "WIN", "LOSS", "STUCK_OUTCOMES", "has_lost", "holders_of", "targets_of", "moves_of", "row_after", "end_outcome", "Refusal", "NoGame", "Fault", "TooLarge", "NotRight"]
def nm1 : List Str := ["NoOutcome", "NoSide", "NotKnown", "NotSolved", "NotFound", "OtherLength", "NoMove", "AtEnd", "Drawn", "is_right", "check_right", "number_of", "row_of", "right_row_of", "right_numbers", "Solving", "do_rounds", "do_round", "find_ends", "find_by_leads", "outcome_by_leads", "value_of", "value_at", "check_solved", "numbers_with", "first_with", "longest_of", "best_move", "value_to_reach", "best_line"]
def nm2 : List Str := ["NO_REPLY", "Match", "play_match", "take_reply", "result_at_end", "MOST_NUMBERS", "ByteReader", "read_game", "read_board", "read_kind", "read_goals", "read_pattern", "read_piece", "NO_POSITION", "PER_BYTE", "table_of", "codes_of", "shift_of", "code_in", "first_wrong", "TURN_COUNT", "LAST", "turned_pair", "mirrored_pair", "turned_square", "turned_set", "turned_patterns", "turned_row", "keeps_kind", "keeps_game"]
def nm3 : List Str := ["keeping_turns", "turns_sum", "least_turn", "GAME", "CALL_FORMS", "Call", "CallReader", "Desk", "tell_game", "tell_solve", "tell_index", "tell_pos", "tell_value", "tell_moves", "tell_play", "tell_best", "tell_line", "tell_many", "tell_next", "tell_longest", "tell_turns", "tell_least", "tell_table", "tell_judge", "tell_match", "TELLERS", "right_row", "check_outcome", "counted", "answer_of"]
def names : List Str := nm0 ++ nm1 ++ nm2 ++ nm3
/-- the addresses that are looked at -/
def asL : List Addr := [3, 2, 31, 52, 73, 94, 113, 124, 129, 136, 143, 148, 155, 162, 163, 170, 177, 184, 191, 196, 203, 220, 240, 259, 278, 297, 316, 335, 354, 373, 392, 411, 430, 449, 468, 475, 482, 489, 496, 503, 508, 525, 536, 543, 548, 555, 562, 569, 576, 583, 588, 595, 600, 605, 612, 619, 636, 647, 654, 661, 713, 724, 731, 738, 745, 752, 759, 766, 773, 780, 787, 794, 801, 808, 815, 822, 829, 834, 841, 848, 853, 858, 865, 866, 900, 942, 963, 974, 981, 988, 995, 1002, 1009, 1016, 1023, 1030, 1037, 1044, 1051, 1058, 1065, 1072, 1079, 1086, 1087, 1094, 1101, 1108, 1115, 1122, 30, 51, 72, 93, 112, 123, 128, 135, 142, 147, 154, 161, 169, 176, 183, 190, 195, 202, 219, 239, 258, 277, 296, 315, 334, 353, 372, 391, 410, 429, 448, 467, 474, 481, 488, 495, 502, 507, 524, 535, 542, 547, 554, 561, 568, 575, 582, 587, 594, 599, 604, 611, 618, 635, 646, 653, 660, 712, 723, 730, 737, 744, 751, 758, 765, 772, 779, 786, 793, 800, 807, 814, 821, 828, 833, 840, 847, 852, 857, 864, 867, 868, 869, 870, 871, 872, 873, 874, 875, 876, 877, 878, 879, 880, 881, 882, 883, 899, 941, 962, 973, 980, 987, 994, 1001, 1008, 1015, 1022, 1029, 1036, 1043, 1050, 1057, 1064, 1071, 1078, 1085, 1093, 1100, 1107, 1114, 1121, 28, 49, 70, 91, 110, 217, 237, 256, 275, 294, 313, 332, 351, 370, 389, 408, 427, 446, 465, 522, 633, 675, 682, 689, 696, 703, 710, 897, 918, 925, 932, 939, 960, 27, 48, 69, 90, 109, 216, 236, 255, 274, 293, 312, 331, 350, 369, 388, 407, 426, 445, 464, 521, 632, 674, 681, 688, 695, 702, 709, 896, 917, 924, 931, 938, 959]
def frE (g : Addr → Option Obj) : Fr := He.frT g asL
abbrev RW : PySem.W.OpenSpec := PySem.Challenge.rw_endsolver_s01_answers
abbrev QV : Program := PySem.W.view RW.prog [131]
abbrev TOP : DefRec := HandSHeadRun.topDef RW.prog 131
end Es
end

section
set_option Elab.async false
set_option linter.all false
set_option maxRecDepth 100000
set_option maxHeartbeats 0
namespace Es
open PySem PySem.Spec PyProof.Rows L2
/-- what the top leaves, from the boot -/
noncomputable def EndW (w : World) (os : OsState) : Option PySem.W.SharedT := HandSHeadRun.endF (HandSHeadRun.stepQ (HandSHeadRun.denQ HandSHeadRun.tabQ) RW.prog w) 12000 RW.prog w os
noncomputable def lookL (w : World) (s : PySem.W.SharedT) := (HandSHeadRun.looksF RW.prog (PySem.W.boot_heap w.params) s.abs, HandSHeadRun.seenQ QV names (importedModules RW.prog.main.body) (fun s => PySem.W.xlAt QV [] s && PySem.W.recOk [] s) s.abs)
def lookA (s : PySem.W.SharedT) : Bool × Bool := (fa.all fun f => f.ok (frE (HandSHeadRun.getT s)), exB (frE (HandSHeadRun.getT s)))
def lookN (s : PySem.W.SharedT) : He.AlD := (fn.all fun d => d.ok (frE (HandSHeadRun.getT s)), fn.map fun d => He.fnW (frE (HandSHeadRun.getT s)) d.at_)
abbrev wF (w : World) : World := w.withFollow "special-get-raises" false
abbrev wT (w : World) : World := w.withFollow "special-get-raises" true
theorem runL_f (w : World) (os : OsState) : (EndW (wF w) os).map (lookL (wF w)) = some (true, PySem.W.openGood QV names) := by kernel_rfl
theorem runL_t (w : World) (os : OsState) : (EndW (wT w) os).map (lookL (wT w)) = some (true, PySem.W.openGood QV names) := by kernel_rfl
theorem runA_f (w : World) (os : OsState) : (EndW (wF w) os).map lookA = some (true, true) := by kernel_rfl
theorem runA_t (w : World) (os : OsState) : (EndW (wT w) os).map lookA = some (true, true) := by kernel_rfl
theorem runN_f (w : World) (os : OsState) : (EndW (wF w) os).map lookN = some (He.valD fn) := by kernel_rfl
theorem runN_t (w : World) (os : OsState) : (EndW (wT w) os).map lookN = some (He.valD fn) := by kernel_rfl
end Es
end

section
set_option maxRecDepth 100000
namespace Es
open Lm

/-! ### lists -/
theorem range_filter_lt {p : Nat → Bool} {n s : Nat} (h : s < n) (hp : p s = true) : ((List.range n).filter p)[((List.range s).filter p).length]? = some s := by
  induction n with
  | zero => omega
  | succ n ih =>
    rw [List.range_succ, List.filter_append]
    by_cases e : s = n
    · subst e
      rw [List.getElem?_append_right (Nat.le_refl _), Nat.sub_self, List.filter_cons, if_pos hp]
      rfl
    · have hl := ih (by omega)
      obtain ⟨hlt, _⟩ := List.getElem?_eq_some_iff.mp hl
      rw [List.getElem?_append_left hlt]
      exact hl
theorem filter_len_le {p : Nat → Bool} {s n : Nat} (h : s ≤ n) : ((List.range s).filter p).length ≤ ((List.range n).filter p).length := by
  induction n with
  | zero => have : s = 0 := by omega
            subst this; exact Nat.le_refl _
  | succ n ih =>
    by_cases e : s = n + 1
    · subst e; exact Nat.le_refl _
    · rw [List.range_succ, List.filter_append, List.length_append]
      exact Nat.le_trans (ih (by omega)) (Nat.le_add_right _ _)
theorem getElem_range_filter {p : Nat → Bool} {n j s : Nat} (h : ((List.range n).filter p)[j]? = some s) : s < n ∧ p s = true ∧ ((List.range s).filter p).length = j := by
  induction n with
  | zero => simp at h
  | succ n ih =>
    rw [List.range_succ, List.filter_append] at h
    by_cases hj : j < ((List.range n).filter p).length
    · rw [List.getElem?_append_left hj] at h
      obtain ⟨a, b, c⟩ := ih h
      exact ⟨by omega, b, c⟩
    · rw [List.getElem?_append_right (by omega)] at h
      by_cases hp : p n = true
      · rw [List.filter_cons, if_pos hp] at h
        have hz : j - ((List.range n).filter p).length = 0 := by
          cases e : j - ((List.range n).filter p).length with
          | zero => rfl
          | succ k => rw [e] at h; simp at h
        rw [hz] at h
        have hs : n = s := by simpa using h
        subst hs
        exact ⟨by omega, hp, by omega⟩
      · rw [List.filter_cons, if_neg hp] at h
        simp at h
theorem squares_at {x j s : Nat} : (squaresOf x)[j]? = some s ↔ s < 64 ∧ inSet x s = true ∧ below x s = j := by
  constructor
  · intro h
    exact getElem_range_filter h
  · rintro ⟨a, b, c⟩
    subst c
    exact range_filter_lt a b
theorem below_lt {x s : Nat} (h : s < 64) (hp : inSet x s = true) : below x s < size x := by
  have := squares_at.mpr ⟨h, hp, rfl⟩
  obtain ⟨hl, _⟩ := List.getElem?_eq_some_iff.mp this
  exact hl
theorem mem_squares {x s : Nat} : s ∈ squaresOf x ↔ s < 64 ∧ inSet x s = true := by
  unfold squaresOf
  rw [List.mem_filter, List.mem_range]
theorem squares_nodup (x : Nat) : (squaresOf x).Nodup := List.Pairwise.filter _ List.nodup_range

/-! ### places -/
theorem placeIn_le (g : Game) {s : Nat} (h : s = OFF ∨ (s < 64 ∧ inSet g.board s = true)) : placeIn g s ≤ g.squares := by
  unfold placeIn
  rcases h with h | ⟨h, hp⟩
  · rw [if_pos h]; exact Nat.le_refl _
  · rw [if_neg (by unfold OFF; omega)]
    exact Nat.le_of_lt (below_lt h hp)
/-- a row's square is a place of the game's -/
def On (g : Game) (s : Nat) : Prop := s = OFF ∨ (s < 64 ∧ inSet g.board s = true)
theorem right_iff {g : Game} {p : Pos} : rightPos g p = true ↔ p.at_.length = g.pieces.length ∧ p.side ≤ 1 ∧ (∀ s ∈ p.at_, On g s) ∧ (p.at_.filter fun s => s != OFF).Nodup := by
  unfold rightPos On
  simp only [Bool.and_eq_true, beq_iff_eq, decide_eq_true_eq, List.all_eq_true, Bool.or_eq_true, and_assoc]

/-! ### numbers -/
theorem indexFrom_lt (g : Game) : ∀ l : List Nat, (∀ s ∈ l, On g s) → indexFrom g l < (g.squares + 1) ^ l.length
  | [], _ => by show 0 < 1; omega
  | s :: r, h => by
    have h1 := placeIn_le g (h s (List.mem_cons_self ..))
    have h2 := indexFrom_lt g r fun q hq => h q (List.mem_cons_of_mem _ hq)
    show placeIn g s + (g.squares + 1) * indexFrom g r < (g.squares + 1) ^ (r.length + 1)
    rw [Nat.pow_succ]
    generalize hG : (g.squares + 1) ^ r.length = G at h2
    generalize indexFrom g r = I at h2 ⊢
    have : (g.squares + 1) * (I + 1) ≤ (g.squares + 1) * G := Nat.mul_le_mul_left _ h2
    rw [Nat.mul_add, Nat.mul_one] at this
    rw [Nat.mul_comm G]
    omega
theorem index_lt {g : Game} {p : Pos} (h : rightPos g p = true) : index g p < g.count := by
  obtain ⟨a, b, c, _⟩ := right_iff.mp h
  have := indexFrom_lt g p.at_ c
  rw [a] at this
  unfold index Game.count
  omega
/-- indexFrom of the list behind a prefix -/
theorem indexFrom_append (g : Game) : ∀ a b : List Nat, indexFrom g (a ++ b) = indexFrom g a + (g.squares + 1) ^ a.length * indexFrom g b
  | [], b => by show indexFrom g b = 0 + 1 * indexFrom g b; omega
  | s :: r, b => by
    show placeIn g s + (g.squares + 1) * indexFrom g (r ++ b) = placeIn g s + (g.squares + 1) * indexFrom g r + (g.squares + 1) ^ (r.length + 1) * indexFrom g b
    rw [indexFrom_append g r b, Nat.mul_add, Nat.pow_succ, Nat.add_assoc, ← Nat.mul_assoc, Nat.mul_comm ((g.squares + 1) ^ r.length)]
theorem indexFrom_snoc (g : Game) (a : List Nat) (s : Nat) : indexFrom g (a ++ [s]) = indexFrom g a + (g.squares + 1) ^ a.length * placeIn g s := by
  rw [indexFrom_append]
  show _ + _ * (placeIn g s + (g.squares + 1) * 0) = _
  simp only [Nat.mul_zero, Nat.add_zero]

/-- the square at a place -/
def sqAt (g : Game) (k : Nat) : Nat := (squaresOf g.board).getD k OFF
theorem sqAt_on (g : Game) (k : Nat) : On g (sqAt g k) := by
  unfold sqAt
  rw [List.getD_eq_getElem?_getD]
  cases h : (squaresOf g.board)[k]? with
  | none => exact Or.inl rfl
  | some s =>
    obtain ⟨a, b, _⟩ := squares_at.mp h
    exact Or.inr ⟨a, b⟩
theorem place_sqAt {g : Game} {k : Nat} (h : k ≤ g.squares) : placeIn g (sqAt g k) = k := by
  unfold sqAt
  rw [List.getD_eq_getElem?_getD]
  cases e : (squaresOf g.board)[k]? with
  | none =>
    have hl : (squaresOf g.board).length ≤ k := List.getElem?_eq_none_iff.mp e
    have : g.squares = (squaresOf g.board).length := rfl
    show placeIn g OFF = k
    unfold placeIn
    rw [if_pos rfl]
    omega
  | some s =>
    obtain ⟨a, b, c⟩ := squares_at.mp e
    show placeIn g s = k
    unfold placeIn
    rw [if_neg (by unfold OFF; omega)]
    exact c
theorem sqAt_place {g : Game} {s : Nat} (h : On g s) : sqAt g (placeIn g s) = s := by
  unfold sqAt
  rw [List.getD_eq_getElem?_getD]
  rcases h with h | ⟨h, hp⟩
  · subst h
    unfold placeIn
    rw [if_pos rfl]
    have : (squaresOf g.board)[g.squares]? = none := List.getElem?_eq_none_iff.mpr (Nat.le_refl _)
    rw [this]
    rfl
  · unfold placeIn
    rw [if_neg (by unfold OFF; omega), squares_at.mpr ⟨h, hp, rfl⟩]
    rfl
theorem posAt_at (g : Game) (n : Nat) : (posAt g n).at_ = (List.range g.pieces.length).map fun i => sqAt g (n / 2 / (g.squares + 1) ^ i % (g.squares + 1)) := rfl
theorem indexFrom_pos (g : Game) (m : Nat) : ∀ k : Nat, indexFrom g ((List.range k).map fun i => sqAt g (m / (g.squares + 1) ^ i % (g.squares + 1))) = m % (g.squares + 1) ^ k
  | 0 => by show 0 = m % 1; omega
  | k + 1 => by
    rw [List.range_succ, List.map_append]
    show indexFrom g (_ ++ [sqAt g (m / (g.squares + 1) ^ k % (g.squares + 1))]) = _
    rw [indexFrom_snoc, indexFrom_pos g m k, List.length_map, List.length_range, place_sqAt (by have := Nat.mod_lt (m / (g.squares + 1) ^ k) (show 0 < g.squares + 1 by omega); omega), Nat.pow_succ, Nat.mod_mul]
theorem index_posAt {g : Game} {n : Nat} (h : n < g.count) : index g (posAt g n) = n := by
  have : indexFrom g (posAt g n).at_ = n / 2 % (g.squares + 1) ^ g.pieces.length := indexFrom_pos g (n / 2) _
  unfold index
  rw [this]
  have h1 : n / 2 < (g.squares + 1) ^ g.pieces.length := by unfold Game.count at h; omega
  rw [Nat.mod_eq_of_lt h1]
  show n % 2 + 2 * (n / 2) = n
  omega
theorem posAt_list (g : Game) : ∀ l : List Nat, (∀ s ∈ l, On g s) → ((List.range l.length).map fun i => sqAt g (indexFrom g l / (g.squares + 1) ^ i % (g.squares + 1))) = l
  | [], _ => rfl
  | s :: r, h => by
    have hs := h s (List.mem_cons_self ..)
    have hr := posAt_list g r fun q hq => h q (List.mem_cons_of_mem _ hq)
    have hp := placeIn_le g hs
    show (List.range (r.length + 1)).map _ = _
    rw [List.range_succ_eq_map, List.map_cons, List.map_map]
    have e0 : indexFrom g (s :: r) = placeIn g s + (g.squares + 1) * indexFrom g r := rfl
    have d1 : indexFrom g (s :: r) % (g.squares + 1) = placeIn g s := by
      rw [e0, Nat.add_mul_mod_self_left, Nat.mod_eq_of_lt (by omega)]
    have d2 : indexFrom g (s :: r) / (g.squares + 1) = indexFrom g r := by
      rw [e0, Nat.add_mul_div_left _ _ (by omega), Nat.div_eq_of_lt (by omega), Nat.zero_add]
    congr 1
    · show sqAt g (indexFrom g (s :: r) / (g.squares + 1) ^ 0 % (g.squares + 1)) = s
      rw [Nat.pow_zero, Nat.div_one, d1, sqAt_place hs]
    · refine Eq.trans (List.map_congr_left fun i _ => ?_) hr
      show sqAt g (indexFrom g (s :: r) / (g.squares + 1) ^ (i + 1) % (g.squares + 1)) = _
      rw [Nat.pow_succ, Nat.mul_comm, ← Nat.div_div_eq_div_mul, d2]
theorem posAt_index {g : Game} {p : Pos} (h : rightPos g p = true) : posAt g (index g p) = p := by
  obtain ⟨a, b, c, _⟩ := right_iff.mp h
  have h1 : index g p / 2 = indexFrom g p.at_ := by unfold index; omega
  have h2 : index g p % 2 = p.side := by unfold index; omega
  have : (posAt g (index g p)).at_ = p.at_ := by
    rw [posAt_at, h1, ← a]
    exact posAt_list g p.at_ c
  cases p with
  | mk at_ side =>
    unfold posAt at this ⊢
    rw [h2]
    congr 1
end Es
end

section
set_option maxRecDepth 100000
namespace Es
open Lm

/-! ### along a pattern -/
def fitsB (board : Nat) (f r : Int) : Bool := decide (0 ≤ f) && decide (f ≤ 7) && (decide (0 ≤ r) && decide (r ≤ 7)) && inSet board (8 * r + f).toNat
/-- the program's walk along a pattern: file and rank of the next square -/
def walkTo (board : Nat) (df dr : Int) : Nat → Int → Int → List Nat
  | 0, _, _ => []
  | n + 1, f, r => if fitsB board f r = true then (8 * r + f).toNat :: walkTo board df dr n (f + df) (r + dr) else []
def wayOf (board s : Nat) (q : Pattern) : List Nat := walkTo board q.df q.dr q.reach (((s % 8 : Nat) : Int) + q.df) (((s / 8 : Nat) : Int) + q.dr)
/-- what may be gone to along the squares of a way -/
def takeWay (hold : Nat → Option Nat) (side how : Nat) : List Nat → List Nat
  | [] => []
  | t :: r => match hold t with
    | none => (if how % 2 = 1 then [t] else []) ++ takeWay hold side how r
    | some h => if h = side then [] else if 2 ≤ how then [t] else []
def holdOf (g : Game) (p : Pos) (t : Nat) : Option Nat := (pieceAt p t).map g.sideOf
theorem step_some {s : Nat} {df dr : Int} {t : Nat} (h : step s df dr = some t) : ∃ f r : Int, f = ((s % 8 : Nat) : Int) + df ∧ r = ((s / 8 : Nat) : Int) + dr ∧ 0 ≤ f ∧ f < 8 ∧ 0 ≤ r ∧ r < 8 ∧ t = (8 * r + f).toNat ∧ t % 8 = f.toNat ∧ t / 8 = r.toNat := by
  unfold step at h
  refine ⟨_, _, rfl, rfl, ?_⟩
  generalize ((s % 8 : Nat) : Int) + df = f at h ⊢
  generalize ((s / 8 : Nat) : Int) + dr = r at h ⊢
  by_cases c : 0 ≤ f ∧ f < 8 ∧ 0 ≤ r ∧ r < 8
  · have h : some (8 * r.toNat + f.toNat) = some t := by rw [← h]; exact (if_pos c).symm
    have e := Option.some.inj h
    obtain ⟨a, b, c, d⟩ := c
    exact ⟨a, b, c, d, by omega, by omega, by omega⟩
  · have h : (none : Option Nat) = some t := by rw [← h]; exact (if_neg c).symm
    cases h
theorem step_none {s : Nat} {df dr : Int} (h : step s df dr = none) : ¬ (0 ≤ ((s % 8 : Nat) : Int) + df ∧ ((s % 8 : Nat) : Int) + df < 8 ∧ 0 ≤ ((s / 8 : Nat) : Int) + dr ∧ ((s / 8 : Nat) : Int) + dr < 8) := by
  intro c
  unfold step at h
  have h : some (8 * (((s / 8 : Nat) : Int) + dr).toNat + (((s % 8 : Nat) : Int) + df).toNat) = none := by rw [← h]; exact (if_pos c).symm
  cases h
theorem along_walk (g : Game) (p : Pos) (q : Pattern) : ∀ (n s : Nat), along g p q n s = takeWay (holdOf g p) p.side q.how (walkTo g.board q.df q.dr n (((s % 8 : Nat) : Int) + q.df) (((s / 8 : Nat) : Int) + q.dr))
  | 0, s => rfl
  | n + 1, s => by
    unfold along walkTo
    cases h : step s q.df q.dr with
    | none =>
      have c := step_none h
      rw [if_neg (by
        unfold fitsB
        simp only [Bool.and_eq_true, decide_eq_true_eq]
        omega)]
      rfl
    | some t =>
      obtain ⟨f, r, ef, er, f0, f8, r0, r8, et, em, ed⟩ := step_some h
      rw [← ef, ← er]
      show (if inSet g.board t = false then [] else _) = _
      by_cases hb : inSet g.board t = true
      · have hf : fitsB g.board f r = true := by
          unfold fitsB
          simp only [Bool.and_eq_true, decide_eq_true_eq]
          exact ⟨⟨⟨f0, by omega⟩, r0, by omega⟩, by rw [← et]; exact hb⟩
        rw [if_neg (by rw [hb]; decide), if_pos hf, ← et]
        have ih := along_walk g p q n t
        have e1 : ((t % 8 : Nat) : Int) = f := by rw [em]; omega
        have e2 : ((t / 8 : Nat) : Int) = r := by rw [ed]; omega
        rw [e1, e2] at ih
        show _ = (match holdOf g p t with
          | none => (if q.how % 2 = 1 then [t] else []) ++ takeWay (holdOf g p) p.side q.how (walkTo g.board q.df q.dr n (f + q.df) (r + q.dr))
          | some h => if h = p.side then [] else if 2 ≤ q.how then [t] else [])
        rw [← ih]
        unfold holdOf
        cases hp : pieceAt p t with
        | none => rfl
        | some j => rfl
      · have hb' : inSet g.board t = false := by simpa using hb
        rw [if_pos hb', if_neg (by
          unfold fitsB
          simp only [Bool.and_eq_true, decide_eq_true_eq]
          rintro ⟨_, z⟩
          rw [← et] at z
          exact hb z)]
        rfl
theorem walk_mem {board : Nat} {df dr : Int} : ∀ {n : Nat} {f r : Int} {t : Nat}, t ∈ walkTo board df dr n f r → t < 64 ∧ inSet board t = true
  | 0, _, _, _, h => by cases h
  | n + 1, f, r, t, h => by
    unfold walkTo at h
    by_cases c : fitsB board f r = true
    · rw [if_pos c] at h
      rcases List.mem_cons.mp h with e | e
      · unfold fitsB at c
        simp only [Bool.and_eq_true, decide_eq_true_eq] at c
        obtain ⟨⟨⟨a1, a2⟩, a3, a4⟩, b⟩ := c
        rw [e]
        exact ⟨by omega, b⟩
      · exact walk_mem e
    · rw [if_neg c] at h
      cases h
theorem walk_len {board : Nat} {df dr : Int} : ∀ {n : Nat} {f r : Int}, (walkTo board df dr n f r).length ≤ n
  | 0, _, _ => Nat.le_refl _
  | n + 1, f, r => by
    unfold walkTo
    by_cases c : fitsB board f r = true
    · rw [if_pos c]
      exact Nat.succ_le_succ walk_len
    · rw [if_neg c]
      exact Nat.zero_le _
theorem takeWay_mem {hold : Nat → Option Nat} {side how : Nat} : ∀ {l : List Nat} {t : Nat}, t ∈ takeWay hold side how l → t ∈ l ∧ hold t ≠ some side
  | [], t, h => by cases h
  | a :: l, t, h => by
    unfold takeWay at h
    cases e : hold a with
    | none =>
      rw [e] at h
      rcases List.mem_append.mp h with h | h
      · by_cases c : how % 2 = 1
        · rw [if_pos c] at h
          have := List.mem_singleton.mp h
          subst this
          exact ⟨List.mem_cons_self .., by rw [e]; intro z; cases z⟩
        · rw [if_neg c] at h
          cases h
      · obtain ⟨x, y⟩ := takeWay_mem h
        exact ⟨List.mem_cons_of_mem _ x, y⟩
    | some v =>
      rw [e] at h
      simp only at h
      by_cases c : v = side
      · rw [if_pos c] at h
        cases h
      · rw [if_neg c] at h
        by_cases c2 : 2 ≤ how
        · rw [if_pos c2] at h
          have := List.mem_singleton.mp h
          subst this
          exact ⟨List.mem_cons_self .., by rw [e]; intro z; exact c (Option.some.inj z)⟩
        · rw [if_neg c2] at h
          cases h

/-! ### each once -/
def put1 (a : List Nat) (x : Nat) : List Nat := if a.contains x = true then a else a ++ [x]
theorem firsts_eq (l : List Nat) : firsts l = l.foldl put1 [] := rfl
theorem mem_put1 {a : List Nat} {x y : Nat} : y ∈ put1 a x ↔ y ∈ a ∨ y = x := by
  unfold put1
  by_cases c : a.contains x = true
  · rw [if_pos c]
    constructor
    · exact Or.inl
    · rintro (h | h)
      · exact h
      · subst h
        exact List.contains_iff_mem.mp c
  · rw [if_neg c, List.mem_append, List.mem_singleton]
theorem mem_foldl_put1 : ∀ {l a : List Nat} {y : Nat}, y ∈ l.foldl put1 a ↔ y ∈ a ∨ y ∈ l
  | [], a, y => by simp
  | x :: l, a, y => by
    rw [List.foldl_cons, mem_foldl_put1, mem_put1, List.mem_cons]
    constructor
    · rintro ((h | h) | h)
      · exact Or.inl h
      · exact Or.inr (Or.inl h)
      · exact Or.inr (Or.inr h)
    · rintro (h | h | h)
      · exact Or.inl (Or.inl h)
      · exact Or.inl (Or.inr h)
      · exact Or.inr h
theorem mem_firsts {l : List Nat} {y : Nat} : y ∈ firsts l ↔ y ∈ l := by
  rw [firsts_eq, mem_foldl_put1]
  simp

/-! ### the moves by pieces -/
def targets (g : Game) (p : Pos) (i : Nat) : List Nat := firsts ((g.kindOf i).pats.flatMap fun q => takeWay (holdOf g p) p.side q.how (wayOf g.board (p.at_.getD i OFF) q))
def pieceMoves (g : Game) (p : Pos) (i : Nat) : List Nat := if g.sideOf i = p.side ∧ p.at_.getD i OFF ≠ OFF then (targets g p i).map fun t => 256 * i + t else []
theorem moves_eq (g : Game) (p : Pos) : moves g p = if lost g p 0 = true ∨ lost g p 1 = true then [] else (List.range p.at_.length).flatMap (pieceMoves g p) ++ (if g.pass = true then [PASS] else []) := by
  have key : ∀ i, (firsts ((g.kindOf i).pats.flatMap fun q => along g p q q.reach (p.at_.getD i OFF))) = targets g p i := fun i => by
    unfold targets
    congr 1
    congr 1
    funext q
    exact along_walk g p q q.reach _
  unfold moves
  by_cases c : lost g p 0 = true ∨ lost g p 1 = true
  · rw [if_pos c, if_pos c]
  · rw [if_neg c, if_neg c]
    congr 1
    congr 1
    funext i
    show (if g.sideOf i = p.side ∧ p.at_.getD i OFF ≠ OFF then _ else _) = pieceMoves g p i
    unfold pieceMoves
    rw [key i]
theorem mem_targets {g : Game} {p : Pos} {i t : Nat} (h : t ∈ targets g p i) : t < 64 ∧ inSet g.board t = true ∧ holdOf g p t ≠ some p.side := by
  obtain ⟨q, _, hq⟩ := List.mem_flatMap.mp (mem_firsts.mp h)
  obtain ⟨a, b⟩ := takeWay_mem hq
  obtain ⟨c, d⟩ := walk_mem a
  exact ⟨c, d, b⟩
/-- a move is the pass, or a piece of the side's to a square of the board -/
theorem mem_moves {g : Game} {p : Pos} {m : Nat} (h : m ∈ moves g p) : (m = PASS ∧ g.pass = true) ∨ ∃ i t, m = 256 * i + t ∧ i < p.at_.length ∧ t < 64 ∧ inSet g.board t = true ∧ g.sideOf i = p.side ∧ holdOf g p t ≠ some p.side := by
  rw [moves_eq] at h
  by_cases c : lost g p 0 = true ∨ lost g p 1 = true
  · rw [if_pos c] at h
    cases h
  · rw [if_neg c] at h
    rcases List.mem_append.mp h with h | h
    · obtain ⟨i, hi, hm⟩ := List.mem_flatMap.mp h
      unfold pieceMoves at hm
      by_cases d : g.sideOf i = p.side ∧ p.at_.getD i OFF ≠ OFF
      · rw [if_pos d] at hm
        obtain ⟨t, ht, e⟩ := List.mem_map.mp hm
        obtain ⟨a, b, b2⟩ := mem_targets ht
        exact Or.inr ⟨i, t, e.symm, List.mem_range.mp hi, a, b, d.1, b2⟩
      · rw [if_neg d] at hm
        cases hm
    · by_cases d : g.pass = true
      · rw [if_pos d] at h
        exact Or.inl ⟨List.mem_singleton.mp h, d⟩
      · rw [if_neg d] at h
        cases h

/-! ### the position after a move -/
/-- the program's row after a move: the piece taken off, the mover put -/
def putAfter (l : List Nat) (i t : Nat) : List Nat := (l.map fun s => if s = t then OFF else s).set i t
theorem after_eq {g : Game} {p : Pos} {m : Nat} (hl : p.at_.length = g.pieces.length) (hm : m ≠ PASS) : after g p m = ⟨putAfter p.at_ (m / 256) (m % 256), 1 - p.side⟩ := by
  unfold after
  rw [if_neg hm]
  congr 1
  apply List.ext_getElem?
  intro i
  unfold putAfter
  rw [List.getElem?_map, List.getElem?_set, List.getElem?_map, List.length_map, ← hl]
  by_cases hi : i < p.at_.length
  · rw [List.getElem?_range hi]
    by_cases c : m / 256 = i
    · subst c
      rw [if_pos rfl, if_pos hi]
      show some (if m / 256 = m / 256 then m % 256 else _) = _
      rw [if_pos rfl]
    · rw [if_neg c]
      show some (if i = m / 256 then m % 256 else if p.at_.getD i OFF = m % 256 then OFF else p.at_.getD i OFF) = _
      rw [if_neg (fun z => c z.symm), List.getD_eq_getElem?_getD, List.getElem?_eq_getElem hi]
      rfl
  · have h1 : (List.range p.at_.length)[i]? = none := List.getElem?_eq_none_iff.mpr (by rw [List.length_range]; omega)
    have h2 : p.at_[i]? = none := List.getElem?_eq_none_iff.mpr (by omega)
    rw [h1, h2]
    by_cases c : m / 256 = i
    · rw [if_pos c, if_neg (by omega)]
      rfl
    · rw [if_neg c]
      rfl
theorem filter_set_nodup (t : Nat) (ht : t ≠ OFF) : ∀ (l : List Nat) (i : Nat), (l.filter fun s => s != OFF).Nodup → (((l.map fun s => if s = t then OFF else s).set i t).filter fun s => s != OFF).Nodup ∧ (∀ s ∈ ((l.map fun s => if s = t then OFF else s).set i t), s = t ∨ s = OFF ∨ s ∈ l)
  | [], i, _ => by simp
  | a :: l, i, h => by
    have hl : (l.filter fun s => s != OFF).Nodup := by
      rw [List.filter_cons] at h
      by_cases c : (a != OFF) = true
      · rw [if_pos c] at h
        exact (List.nodup_cons.mp h).2
      · rw [if_neg c] at h
        exact h
    have hq : ∀ x ∈ (l.map fun s => if s = t then OFF else s), x ≠ t ∧ (x = OFF ∨ x ∈ l) := by
      intro x hx
      obtain ⟨s, hs, e⟩ := List.mem_map.mp hx
      by_cases c : s = t
      · rw [if_pos c] at e
        exact ⟨by rw [← e]; exact fun z => ht z.symm, Or.inl e.symm⟩
      · rw [if_neg c] at e
        subst e
        exact ⟨c, Or.inr hs⟩
    have hsub : ((l.map fun s => if s = t then OFF else s).filter fun s => s != OFF).Nodup := by
      have e : ((l.map fun s => if s = t then OFF else s).filter fun s => s != OFF) = (l.filter fun s => s != OFF).filter fun s => s != t := by
        clear h hl hq
        induction l with
        | nil => rfl
        | cons b l ih =>
          rw [List.map_cons, List.filter_cons, List.filter_cons]
          by_cases c : b = t
          · subst c
            have z : (b != OFF) = true := by simpa using ht
            rw [if_pos rfl, if_neg (by simp), if_pos z, List.filter_cons, if_neg (by simp)]
            exact ih
          · rw [if_neg c]
            by_cases d : (b != OFF) = true
            · rw [if_pos d, if_pos d, List.filter_cons, if_pos (by simpa using c), ih]
            · rw [if_neg d, if_neg d]
              exact ih
      rw [e]
      exact List.Pairwise.filter _ hl
    cases i with
    | zero =>
      show ((t :: l.map fun s => if s = t then OFF else s).filter _).Nodup ∧ ∀ s ∈ t :: l.map _, _
      constructor
      · rw [List.filter_cons, if_pos (by simpa using ht)]
        refine List.nodup_cons.mpr ⟨fun z => ?_, hsub⟩
        exact (hq _ (List.mem_filter.mp z).1).1 rfl
      · intro s hs
        rcases List.mem_cons.mp hs with e | e
        · exact Or.inl e
        · rcases (hq _ e).2 with z | z
          · exact Or.inr (Or.inl z)
          · exact Or.inr (Or.inr (List.mem_cons_of_mem _ z))
    | succ i =>
      obtain ⟨h1, h2⟩ := filter_set_nodup t ht l i hl
      show (((if a = t then OFF else a) :: (l.map fun s => if s = t then OFF else s).set i t).filter _).Nodup ∧ ∀ s ∈ (if a = t then OFF else a) :: (l.map fun s => if s = t then OFF else s).set i t, _
      constructor
      · rw [List.filter_cons]
        by_cases c : a = t
        · rw [if_pos c, if_neg (by simp)]
          exact h1
        · rw [if_neg c]
          by_cases d : (a != OFF) = true
          · rw [if_pos d]
            refine List.nodup_cons.mpr ⟨fun z => ?_, h1⟩
            rcases h2 a (List.mem_filter.mp z).1 with e | e | e
            · exact c e
            · rw [e] at d
              simp at d
            · rw [List.filter_cons, if_pos d] at h
              exact (List.nodup_cons.mp h).1 (List.mem_filter.mpr ⟨e, d⟩)
          · rw [if_neg d]
            exact h1
      · intro s hs
        rcases List.mem_cons.mp hs with e | e
        · by_cases c : a = t
          · rw [if_pos c] at e
            exact Or.inr (Or.inl e)
          · rw [if_neg c] at e
            exact Or.inr (Or.inr (by rw [e]; exact List.mem_cons_self ..))
        · rcases h2 s e with z | z | z
          · exact Or.inl z
          · exact Or.inr (Or.inl z)
          · exact Or.inr (Or.inr (List.mem_cons_of_mem _ z))
theorem right_after {g : Game} {p : Pos} {m : Nat} (h : rightPos g p = true) (hm : m ∈ moves g p) : rightPos g (after g p m) = true := by
  obtain ⟨a, b, c, d⟩ := right_iff.mp h
  rcases mem_moves hm with ⟨e, _⟩ | ⟨i, t, e, hi, ht, hb, _, _⟩
  · unfold after
    rw [if_pos e]
    exact right_iff.mpr ⟨a, by show 1 - p.side ≤ 1; omega, c, d⟩
  · by_cases hp : m = PASS
    · unfold after
      rw [if_pos hp]
      exact right_iff.mpr ⟨a, by show 1 - p.side ≤ 1; omega, c, d⟩
    · rw [after_eq a hp]
      have e1 : m / 256 = i := by omega
      have e2 : m % 256 = t := by omega
      rw [e1, e2]
      obtain ⟨n1, n2⟩ := filter_set_nodup t (by unfold OFF; omega) p.at_ i d
      refine right_iff.mpr ⟨?_, by show 1 - p.side ≤ 1; omega, fun s hs => ?_, n1⟩
      · show (putAfter p.at_ i t).length = _
        unfold putAfter
        rw [List.length_set, List.length_map, a]
      · rcases n2 s hs with z | z | z
        · exact Or.inr (by rw [z]; exact ⟨ht, hb⟩)
        · exact Or.inl z
        · exact c s z
end Es
end

section
set_option maxRecDepth 100000
namespace Es
open Lm

/-! ### ends -/
theorem ended_none {g : Game} {p : Pos} (h : ended g p = none) : moves g p ≠ [] ∧ lost g p 0 ≠ true ∧ lost g p 1 ≠ true := by
  unfold ended at h
  by_cases a : lost g p 0 = true ∧ lost g p 1 = true
  · rw [if_pos a] at h; cases h
  rw [if_neg a] at h
  by_cases b : lost g p p.side = true
  · rw [if_pos b] at h; cases h
  rw [if_neg b] at h
  by_cases c : lost g p (1 - p.side) = true
  · rw [if_pos c] at h; cases h
  rw [if_neg c] at h
  by_cases d : moves g p = []
  · rw [if_pos d] at h; cases h
  refine ⟨d, fun z => ?_, fun z => ?_⟩
  · rw [moves_eq, if_pos (Or.inl z)] at d; exact d rfl
  · rw [moves_eq, if_pos (Or.inr z)] at d; exact d rfl
theorem ended_none_iff {g : Game} {p : Pos} (hs : p.side ≤ 1) : ended g p = none ↔ moves g p ≠ [] := by
  constructor
  · intro h; exact (ended_none h).1
  · intro h
    have hl : ¬ (lost g p 0 = true ∨ lost g p 1 = true) := fun z => by rw [moves_eq, if_pos z] at h; exact h rfl
    have h0 : ¬ lost g p p.side = true := fun z => by
      rcases (show p.side = 0 ∨ p.side = 1 by omega) with e | e
      · rw [e] at z; exact hl (Or.inl z)
      · rw [e] at z; exact hl (Or.inr z)
    have h1 : ¬ lost g p (1 - p.side) = true := fun z => by
      rcases (show p.side = 0 ∨ p.side = 1 by omega) with e | e
      · rw [e] at z; exact hl (Or.inr z)
      · rw [e] at z; exact hl (Or.inl z)
    unfold ended
    rw [if_neg (fun z => hl (Or.inl z.1)), if_neg h0, if_neg h1, if_neg h]
/-- the program's outcome of a position without moves -/
def endOut (g : Game) (p : Pos) : Nat := if lost g p p.side = true ∧ lost g p (1 - p.side) = true then DRAW else if lost g p p.side = true then LOSS else if lost g p (1 - p.side) = true then WIN else if g.stuck = 0 then LOSS else if g.stuck = 1 then DRAW else WIN
theorem ended_some {g : Game} {p : Pos} (hs : p.side ≤ 1) (h : moves g p = []) : ended g p = some (endOut g p) := by
  have e : (lost g p 0 = true ∧ lost g p 1 = true) ↔ (lost g p p.side = true ∧ lost g p (1 - p.side) = true) := by
    rcases (show p.side = 0 ∨ p.side = 1 by omega) with e | e
    · rw [e]
    · rw [e]; exact ⟨fun z => ⟨z.2, z.1⟩, fun z => ⟨z.2, z.1⟩⟩
  unfold ended endOut
  by_cases a : lost g p 0 = true ∧ lost g p 1 = true
  · rw [if_pos a, if_pos (e.mp a)]
  rw [if_neg a, if_neg (fun z => a (e.mpr z))]
  by_cases b : lost g p p.side = true
  · rw [if_pos b, if_pos b]
  rw [if_neg b, if_neg b]
  by_cases c : lost g p (1 - p.side) = true
  · rw [if_pos c, if_pos c]
  rw [if_neg c, if_neg c, if_pos h]
theorem endOut_le (g : Game) (p : Pos) : endOut g p ≤ 2 := by
  unfold endOut DRAW LOSS WIN
  repeat' split
  all_goals omega

/-! ### tables -/
theorem at_map {n : Nat} {f : Nat → Option (Nat × Nat)} {i : Nat} : Tab.at_ ((List.range n).map f).toArray i = if i < n then f i else none := by
  unfold Tab.at_
  rw [List.getElem?_toArray, List.getElem?_map]
  by_cases h : i < n
  · rw [if_pos h, List.getElem?_range h]; rfl
  · rw [if_neg h, List.getElem?_eq_none_iff.mpr (by rw [List.length_range]; omega)]; rfl
theorem empty_at (g : Game) (i : Nat) : (emptyTab g).at_ i = none := by
  unfold emptyTab
  rw [at_map]
  split <;> rfl
def nextAt (g : Game) (t : Tab) (k i : Nat) : Option (Nat × Nat) := match t.at_ i with
  | some x => some x
  | none => newly g t k i
theorem round_at (g : Game) (t : Tab) (k i : Nat) : (round g t k).1.at_ i = if i < g.count then nextAt g t k i else none := by
  have : (round g t k).1 = ((List.range g.count).map (nextAt g t k)).toArray := by
    unfold round
    show ((List.map _ _).map _).toArray = _
    rw [List.map_map]
    congr 1
    apply List.map_congr_left
    intro j _
    unfold nextAt
    show Prod.fst (match t.at_ j with | some x => _ | none => _) = _
    cases t.at_ j with
    | some x => rfl
    | none =>
      cases newly g t k j with
      | none => rfl
      | some x => rfl
  rw [this, at_map]
theorem round_new (g : Game) (t : Tab) (k : Nat) : (round g t k).2 = (List.range g.count).any fun i => (t.at_ i).isNone && (newly g t k i).isSome := by
  unfold round
  show (List.map _ _).any _ = _
  rw [List.any_map]
  congr 1
  funext j
  show Prod.snd (match t.at_ j with | some x => _ | none => _) = _
  cases t.at_ j with
  | some x => rfl
  | none =>
    cases newly g t k j with
    | none => rfl
    | some x => rfl

/-- what a number's moves lead to -/
def leadsOf (g : Game) (i : Nat) : List Nat := (moves g (posAt g i)).map fun m => index g (after g (posAt g i) m)
def isRight (g : Game) (i : Nat) : Prop := i < g.count ∧ rightPos g (posAt g i) = true
def isOpen (g : Game) (i : Nat) : Prop := isRight g i ∧ ended g (posAt g i) = none
theorem leads_right {g : Game} {i j : Nat} (h : isRight g i) (hj : j ∈ leadsOf g i) : isRight g j := by
  obtain ⟨m, hm, e⟩ := List.mem_map.mp hj
  have r := right_after h.2 hm
  subst e
  refine ⟨index_lt r, ?_⟩
  rw [posAt_index r]
  exact r
theorem leads_ne {g : Game} {i : Nat} (h : isOpen g i) : leadsOf g i ≠ [] := fun z => (ended_none h.2).1 (List.map_eq_nil_iff.mp z)
/-- the program's outcome by what the moves lead to -/
def byLeads (kn : Nat → Option (Nat × Nat)) (l : List Nat) : Nat := if (l.any fun j => (kn j).map (·.1) == some LOSS) = true then WIN else if (l.all fun j => (kn j).isSome) = true then LOSS else DRAW

/-! ### what holds of a work that rounds have made -/
structure Good (w : Work) : Prop where
  none0 : w.rounds = 0 → w.solved = false ∧ ∀ i, w.tab.at_ i = none
  known : ∀ i v n, w.tab.at_ i = some (v, n) → isRight w.game i ∧ n < w.rounds ∧ (v = WIN ∨ v = LOSS) ∧ (n = 0 → ended w.game (posAt w.game i) = some v) ∧
    (0 < n → ended w.game (posAt w.game i) = none ∧ (v = WIN → ∃ j ∈ leadsOf w.game i, w.tab.at_ j = some (LOSS, n - 1)) ∧ (v = LOSS → (∀ j ∈ leadsOf w.game i, ∃ k, w.tab.at_ j = some (WIN, k)) ∧ ∃ j ∈ leadsOf w.game i, w.tab.at_ j = some (WIN, n - 1)))
  ends : 0 < w.rounds → ∀ i v, isRight w.game i → ended w.game (posAt w.game i) = some v → v ≠ DRAW → w.tab.at_ i = some (v, 0)
  rest : 0 < w.rounds → ∀ i, isOpen w.game i → w.tab.at_ i = none → (∀ j ∈ leadsOf w.game i, ∀ k, w.tab.at_ j = some (LOSS, k) → k + 1 = w.rounds) ∧ ∃ j ∈ leadsOf w.game i, ∀ v k, w.tab.at_ j = some (v, k) → k + 1 = w.rounds
  done : w.solved = true → 0 < w.rounds ∧ ∀ i v k, w.tab.at_ i = some (v, k) → k + 1 < w.rounds

theorem fresh_good (g : Game) : Good (fresh g) where
  none0 := fun _ => ⟨rfl, fun i => empty_at g i⟩
  known := fun i v n h => by
    have : (emptyTab g).at_ i = some (v, n) := h
    rw [empty_at] at this
    cases this
  ends := fun h => absurd h (by show ¬ 0 < 0; omega)
  rest := fun h => absurd h (by show ¬ 0 < 0; omega)
  done := fun h => by cases h

theorem newly_right {g : Game} {t : Tab} {k i : Nat} {x : Nat × Nat} (h : newly g t k i = some x) : rightPos g (posAt g i) = true := by
  unfold newly at h
  by_cases c : rightPos g (posAt g i) = true
  · exact c
  · have c' : rightPos g (posAt g i) = false := by simpa using c
    have h : (none : Option (Nat × Nat)) = some x := by rw [← h]; exact (if_pos c').symm
    cases h
theorem newly_end {g : Game} {t : Tab} {k i v : Nat} (hr : rightPos g (posAt g i) = true) (he : ended g (posAt g i) = some v) : newly g t k i = if v = DRAW then none else some (v, 0) := by
  unfold newly
  show (if rightPos g (posAt g i) = false then none else match ended g (posAt g i) with
    | some v => _
    | none => _) = _
  rw [if_neg (by rw [hr]; decide), he]
theorem newly_open {g : Game} {t : Tab} {k i : Nat} (hr : rightPos g (posAt g i) = true) (he : ended g (posAt g i) = none) : newly g t k i = if ((leadsOf g i).any fun j => (t.at_ j).map (·.1) == some LOSS) = true then some (WIN, k) else if ((leadsOf g i).all fun j => (t.at_ j).map (·.1) == some WIN) = true then some (LOSS, k) else none := by
  unfold newly leadsOf
  show (if rightPos g (posAt g i) = false then none else match ended g (posAt g i) with
    | some v => _
    | none => _) = _
  rw [if_neg (by rw [hr]; decide), he]
  simp only [List.any_map, List.all_map]
  rfl
/-- in a good work what's newly known of an open position is what its leads say -/
theorem newly_by {w : Work} (G : Good w) {k i : Nat} (h : isOpen w.game i) : newly w.game w.tab k i = (let o := byLeads w.tab.at_ (leadsOf w.game i); if o = DRAW then none else some (o, k)) := by
  rw [newly_open h.1.2 h.2]
  unfold byLeads
  by_cases c : ((leadsOf w.game i).any fun j => (w.tab.at_ j).map (·.1) == some LOSS) = true
  · rw [if_pos c, if_pos c]
    rfl
  · rw [if_neg c, if_neg c]
    have e : ((leadsOf w.game i).all fun j => (w.tab.at_ j).map (·.1) == some WIN) = ((leadsOf w.game i).all fun j => (w.tab.at_ j).isSome) := by
      have c' : ∀ j ∈ leadsOf w.game i, ¬ ((w.tab.at_ j).map (·.1) == some LOSS) = true := fun j hj z => c (List.any_eq_true.mpr ⟨j, hj, z⟩)
      have key : ∀ l : List Nat, (∀ j ∈ l, ¬ ((w.tab.at_ j).map (·.1) == some LOSS) = true) → (l.all fun j => (w.tab.at_ j).map (·.1) == some WIN) = (l.all fun j => (w.tab.at_ j).isSome) := by
        intro l
        induction l with
        | nil => intro _; rfl
        | cons a l ih =>
          intro hl
          rw [List.all_cons, List.all_cons, ih fun j hj => hl j (List.mem_cons_of_mem _ hj)]
          congr 1
          have ha := hl a (List.mem_cons_self ..)
          cases q : w.tab.at_ a with
          | none => rfl
          | some x =>
            obtain ⟨v, n⟩ := x
            rw [q] at ha
            rcases (G.known a v n q).2.2.1 with e | e
            · subst e; rfl
            · subst e; exact absurd rfl ha
      exact key _ c'
    rw [e]
    by_cases d : ((leadsOf w.game i).all fun j => (w.tab.at_ j).isSome) = true
    · rw [if_pos d, if_pos d]
      rfl
    · rw [if_neg d, if_neg d]
      rfl

/-- one round more -/
def oneRound (w : Work) : Work := let x := round w.game w.tab w.rounds
  { w with tab := x.1, rounds := w.rounds + 1, solved := !x.2 }
theorem go_succ (n : Nat) (w : Work) : w.go (n + 1) = if w.solved = true then w else (oneRound w).go n := rfl
theorem go_zero (w : Work) : w.go 0 = w := rfl
theorem go_solved {n : Nat} {w : Work} (h : w.solved = true) : w.go n = w := by
  cases n with
  | zero => rfl
  | succ n => rw [go_succ, if_pos h]
theorem one_game (w : Work) : (oneRound w).game = w.game := rfl
theorem one_rounds (w : Work) : (oneRound w).rounds = w.rounds + 1 := rfl
theorem one_at (w : Work) (i : Nat) : (oneRound w).tab.at_ i = if i < w.game.count then nextAt w.game w.tab w.rounds i else none := round_at _ _ _ _
theorem one_keeps {w : Work} (G : Good w) {i : Nat} {x : Nat × Nat} (h : w.tab.at_ i = some x) : (oneRound w).tab.at_ i = some x := by
  rw [one_at, if_pos (G.known i x.1 x.2 h).1.1]
  unfold nextAt
  rw [h]
/-- what's in the next table: as before, or newly -/
theorem one_cases {w : Work} {i : Nat} {x : Nat × Nat} (h : (oneRound w).tab.at_ i = some x) : w.tab.at_ i = some x ∨ (w.tab.at_ i = none ∧ i < w.game.count ∧ newly w.game w.tab w.rounds i = some x) := by
  rw [one_at] at h
  by_cases c : i < w.game.count
  · rw [if_pos c] at h
    unfold nextAt at h
    cases q : w.tab.at_ i with
    | some y =>
      rw [q] at h
      exact Or.inl h
    | none =>
      rw [q] at h
      exact Or.inr ⟨rfl, c, h⟩
  · rw [if_neg c] at h
    cases h
theorem newly_count {w : Work} (G : Good w) {i v n : Nat} (hi : i < w.game.count) (hn : w.tab.at_ i = none) (h : newly w.game w.tab w.rounds i = some (v, n)) :
    n = w.rounds ∧ (v = WIN ∨ v = LOSS) ∧ ((w.rounds = 0 ∧ ended w.game (posAt w.game i) = some v) ∨ (0 < w.rounds ∧ ended w.game (posAt w.game i) = none ∧ (v = WIN → ∃ j ∈ leadsOf w.game i, w.tab.at_ j = some (LOSS, n - 1)) ∧ (v = LOSS → (∀ j ∈ leadsOf w.game i, ∃ k, w.tab.at_ j = some (WIN, k)) ∧ ∃ j ∈ leadsOf w.game i, w.tab.at_ j = some (WIN, n - 1)))) := by
  have hr := newly_right h
  have R : isRight w.game i := ⟨hi, hr⟩
  cases e : ended w.game (posAt w.game i) with
  | some u =>
    rw [newly_end hr e] at h
    by_cases c : u = DRAW
    · rw [if_pos c] at h; cases h
    · rw [if_neg c] at h
      have h' := Option.some.inj h
      have h1 : u = v := congrArg Prod.fst h'
      have h2 : 0 = n := congrArg Prod.snd h'
      have hz : w.rounds = 0 := by
        rcases Nat.eq_zero_or_pos w.rounds with z | z
        · exact z
        · rw [G.ends z i u R e c] at hn
          cases hn
      have hv : v = WIN ∨ v = LOSS := by
        subst h1
        have hm : u = endOut w.game (posAt w.game i) ∨ True := Or.inr trivial
        by_cases hmv : moves w.game (posAt w.game i) = []
        · have q := ended_some (right_iff.mp hr).2.1 hmv
          rw [e] at q
          have q' := Option.some.inj q
          have := endOut_le w.game (posAt w.game i)
          rw [← q'] at this
          unfold DRAW at c
          unfold WIN LOSS
          omega
        · have q := (ended_none_iff (right_iff.mp hr).2.1).mpr hmv
          rw [e] at q
          cases q
      exact ⟨by omega, hv, Or.inl ⟨hz, by rw [h1]⟩⟩
  | none =>
    have O : isOpen w.game i := ⟨R, e⟩
    rw [newly_by G O] at h
    by_cases c : byLeads w.tab.at_ (leadsOf w.game i) = DRAW
    · rw [if_pos c] at h; cases h
    · have h : some (byLeads w.tab.at_ (leadsOf w.game i), w.rounds) = some (v, n) := by rw [← h]; exact (if_neg c).symm
      have h' := Option.some.inj h
      have h1 : byLeads w.tab.at_ (leadsOf w.game i) = v := congrArg Prod.fst h'
      have h2 : w.rounds = n := congrArg Prod.snd h'
      have pos : 0 < w.rounds := by
        rcases Nat.eq_zero_or_pos w.rounds with z | z
        · exfalso
          have all := (G.none0 z).2
          apply c
          unfold byLeads
          rw [if_neg (by
            intro y
            obtain ⟨j, _, hj⟩ := List.any_eq_true.mp y
            rw [all j] at hj
            cases hj), if_neg (by
            intro y
            obtain ⟨j, hj⟩ := List.exists_mem_of_ne_nil _ (leads_ne O)
            have := List.all_eq_true.mp y j hj
            rw [all j] at this
            cases this)]
        · exact z
      obtain ⟨r1, r2⟩ := G.rest pos i O hn
      unfold byLeads at h1
      by_cases d : ((leadsOf w.game i).any fun j => (w.tab.at_ j).map (·.1) == some LOSS) = true
      · rw [if_pos d] at h1
        obtain ⟨j, hj, hl⟩ := List.any_eq_true.mp d
        refine ⟨h2.symm, Or.inl h1.symm, Or.inr ⟨pos, rfl, fun _ => ⟨j, hj, ?_⟩, fun z => ?_⟩⟩
        · cases q : w.tab.at_ j with
          | none => rw [q] at hl; cases hl
          | some x =>
            obtain ⟨a, b⟩ := x
            rw [q] at hl
            have ha : a = LOSS := by simpa using hl
            subst ha
            have := r1 j hj b q
            rw [show b = n - 1 by omega]
        · rw [← h1] at z
          cases z
      · rw [if_neg d] at h1
        by_cases a : ((leadsOf w.game i).all fun j => (w.tab.at_ j).isSome) = true
        · rw [if_pos a] at h1
          have allw : ∀ j ∈ leadsOf w.game i, ∃ k, w.tab.at_ j = some (WIN, k) := by
            intro j hj
            have hs := List.all_eq_true.mp a j hj
            cases q : w.tab.at_ j with
            | none => rw [q] at hs; cases hs
            | some x =>
              obtain ⟨u, b⟩ := x
              rcases (G.known j u b q).2.2.1 with z | z
              · exact ⟨b, by rw [z]⟩
              · exfalso
                apply d
                exact List.any_eq_true.mpr ⟨j, hj, by rw [q, z]; rfl⟩
          refine ⟨h2.symm, Or.inr h1.symm, Or.inr ⟨pos, rfl, fun z => ?_, fun _ => ⟨allw, ?_⟩⟩⟩
          · rw [← h1] at z
            cases z
          · obtain ⟨j, hj, hk⟩ := r2
            obtain ⟨k, q⟩ := allw j hj
            have := hk WIN k q
            exact ⟨j, hj, by rw [q, show k = n - 1 by omega]⟩
        · rw [if_neg a] at h1
          exact absurd (by unfold byLeads; rw [if_neg d, if_neg a]) c
theorem one_good {w : Work} (G : Good w) (hs : w.solved = false) : Good (oneRound w) where
  none0 := fun h => absurd h (by rw [one_rounds]; omega)
  known := fun i v n h => by
    rw [one_game, one_rounds]
    rcases one_cases h with h | ⟨hn, hi, h⟩
    · obtain ⟨a, b, c, d, e⟩ := G.known i v n h
      refine ⟨a, by omega, c, d, fun hp => ?_⟩
      obtain ⟨e1, e2, e3⟩ := e hp
      refine ⟨e1, fun z => ?_, fun z => ?_⟩
      · obtain ⟨j, hj, q⟩ := e2 z
        exact ⟨j, hj, one_keeps G q⟩
      · obtain ⟨f1, j, hj, q⟩ := e3 z
        exact ⟨fun j hj => (f1 j hj).imp fun k q => one_keeps G q, j, hj, one_keeps G q⟩
    · obtain ⟨a, b, c⟩ := newly_count G hi hn h
      refine ⟨⟨hi, newly_right h⟩, by omega, b, fun hz => ?_, fun hp => ?_⟩
      · rcases c with c | c
        · exact c.2
        · omega
      · rcases c with c | ⟨_, c1, c2, c3⟩
        · omega
        · refine ⟨c1, fun z => ?_, fun z => ?_⟩
          · obtain ⟨j, hj, q⟩ := c2 z
            exact ⟨j, hj, one_keeps G q⟩
          · obtain ⟨f1, j, hj, q⟩ := c3 z
            exact ⟨fun j hj => (f1 j hj).imp fun k q => one_keeps G q, j, hj, one_keeps G q⟩
  ends := fun _ i v R e hv => by
    rw [one_game] at R e
    rw [one_at, if_pos R.1]
    unfold nextAt
    cases q : w.tab.at_ i with
    | some x =>
      obtain ⟨a, n⟩ := x
      obtain ⟨_, _, _, d, f⟩ := G.known i a n q
      rcases Nat.eq_zero_or_pos n with z | z
      · subst z
        rw [show a = v from Option.some.inj ((d rfl).symm.trans e)]
      · have := (f z).1
        rw [e] at this
        cases this
    | none =>
      show newly w.game w.tab w.rounds i = some (v, 0)
      rw [newly_end R.2 e, if_neg hv]
  rest := fun _ i O hn => by
    rw [one_game] at O
    rw [one_game, one_rounds]
    have hn0 : w.tab.at_ i = none := by
      cases q : w.tab.at_ i with
      | none => rfl
      | some x => rw [one_keeps G q] at hn; cases hn
    have hnew : newly w.game w.tab w.rounds i = none := by
      rw [one_at, if_pos O.1.1] at hn
      unfold nextAt at hn
      rw [hn0] at hn
      exact hn
    rw [newly_by G O] at hnew
    have hd : byLeads w.tab.at_ (leadsOf w.game i) = DRAW := by
      by_cases c : byLeads w.tab.at_ (leadsOf w.game i) = DRAW
      · exact c
      · have hnew : some (byLeads w.tab.at_ (leadsOf w.game i), w.rounds) = none := by rw [← hnew]; exact (if_neg c).symm
        cases hnew
    unfold byLeads at hd
    by_cases d : ((leadsOf w.game i).any fun j => (w.tab.at_ j).map (·.1) == some LOSS) = true
    · rw [if_pos d] at hd; cases hd
    rw [if_neg d] at hd
    by_cases a : ((leadsOf w.game i).all fun j => (w.tab.at_ j).isSome) = true
    · rw [if_pos a] at hd; cases hd
    have newc : ∀ j u k, (oneRound w).tab.at_ j = some (u, k) → w.tab.at_ j = none → k + 1 = w.rounds + 1 := by
      intro j u k h hj
      rcases one_cases h with h | ⟨hn, hi, h⟩
      · rw [hj] at h; cases h
      · rw [(newly_count G hi hn h).1]
    refine ⟨fun j hj k h => ?_, ?_⟩
    · cases q : w.tab.at_ j with
      | none => exact newc j _ k h q
      | some x =>
        rw [one_keeps G q] at h
        have := Option.some.inj h
        subst this
        exact absurd (List.any_eq_true.mpr ⟨j, hj, by rw [q]; rfl⟩) d
    · have : ∃ j ∈ leadsOf w.game i, (w.tab.at_ j).isSome = false := by
        apply Classical.byContradiction
        intro z
        apply a
        refine List.all_eq_true.mpr fun j hj => ?_
        cases q : (w.tab.at_ j).isSome with
        | true => rfl
        | false => exact absurd ⟨j, hj, q⟩ z
      obtain ⟨j, hj, q⟩ := this
      refine ⟨j, hj, fun u k h => newc j u k h ?_⟩
      cases q2 : w.tab.at_ j with
      | none => rfl
      | some x => rw [q2] at q; cases q
  done := fun h => by
    refine ⟨by rw [one_rounds]; omega, fun i v k hk => ?_⟩
    rw [one_rounds]
    have hx : (round w.game w.tab w.rounds).2 = false := by
      have : (!(round w.game w.tab w.rounds).2) = true := h
      simpa using this
    rw [round_new] at hx
    rcases one_cases hk with h | ⟨hn, hi, h⟩
    · have := (G.known i v k h).2.1
      omega
    · have := List.any_eq_false.mp hx i (List.mem_range.mpr hi)
      rw [hn, h] at this
      exact absurd rfl this
theorem go_good : ∀ (n : Nat) {w : Work}, Good w → Good (w.go n)
  | 0, w, G => G
  | n + 1, w, G => by
    rw [go_succ]
    by_cases h : w.solved = true
    · rw [if_pos h]; exact G
    · rw [if_neg h]
      exact go_good n (one_good G (by simpa using h))
theorem go_game : ∀ (n : Nat) (w : Work), (w.go n).game = w.game
  | 0, w => rfl
  | n + 1, w => by
    rw [go_succ]
    by_cases h : w.solved = true
    · rw [if_pos h]
    · rw [if_neg h, go_game n, one_game]

/-! ### best moves of a solved game -/
theorem value_known {w : Work} {p : Pos} {x : Nat × Nat} (h : w.tab.at_ (index w.game p) = some x) : w.value p = some x := by
  unfold Work.value
  rw [h]
theorem value_draw {w : Work} {p : Pos} (hs : w.solved = true) (h : w.tab.at_ (index w.game p) = none) : w.value p = some (DRAW, 0) := by
  unfold Work.value
  rw [h]
  exact if_pos hs
theorem value_not {w : Work} {p : Pos} (hs : w.solved = false) (h : w.tab.at_ (index w.game p) = none) : w.value p = none := by
  unfold Work.value
  rw [h]
  exact if_neg (by rw [hs]; decide)
/-- the value, as the program keeps it -/
def valAt (w : Work) (p : Pos) : Nat × Nat := (w.tab.at_ (index w.game p)).getD (DRAW, 0)
theorem value_solved {w : Work} (hs : w.solved = true) (p : Pos) : w.value p = some (valAt w p) := by
  unfold valAt
  cases h : w.tab.at_ (index w.game p) with
  | some x => exact value_known h
  | none => exact value_draw hs h
/-- the value, for the other side, of what a best move leads to -/
def wanted (v : Nat × Nat) : Nat × Nat := if v.1 = WIN then (LOSS, v.2 - 1) else if v.1 = LOSS then (WIN, v.2 - 1) else (DRAW, 0)
theorem valAt_cases {w : Work} (G : Good w) (p : Pos) : valAt w p = (DRAW, 0) ∨ ((valAt w p).1 = WIN ∨ (valAt w p).1 = LOSS) ∧ w.tab.at_ (index w.game p) = some (valAt w p) := by
  unfold valAt
  cases h : w.tab.at_ (index w.game p) with
  | none => exact Or.inl rfl
  | some x => exact Or.inr ⟨(G.known _ x.1 x.2 h).2.2.1, rfl⟩
/-- a value that is no draw of a position that isn't at its end takes a move at least -/
theorem valAt_pos {w : Work} (G : Good w) {p : Pos} (hr : rightPos w.game p = true) (he : ended w.game p = none) (h : (valAt w p).1 = WIN ∨ (valAt w p).1 = LOSS) : 0 < (valAt w p).2 := by
  rcases valAt_cases G p with z | ⟨_, z⟩
  · rw [z] at h
    rcases h with h | h <;> cases h
  · rcases Nat.eq_zero_or_pos (valAt w p).2 with y | y
    · have := (G.known _ _ _ z).2.2.2.1 y
      rw [posAt_index hr, he] at this
      cases this
    · exact y
theorem best_pred {w : Work} (G : Good w) (hs : w.solved = true) {p : Pos} (hr : rightPos w.game p = true) (he : ended w.game p = none) (m : Nat) :
    (match w.value (after w.game p m) with
    | none => false
    | some x => if (valAt w p).1 = WIN then x.1 == LOSS && x.2 + 1 == (valAt w p).2 else if (valAt w p).1 = LOSS then x.1 == WIN && x.2 + 1 == (valAt w p).2 else x.1 == DRAW) = decide (valAt w (after w.game p m) = wanted (valAt w p)) := by
  rw [value_solved hs]
  show (if (valAt w p).1 = WIN then (valAt w (after w.game p m)).1 == LOSS && (valAt w (after w.game p m)).2 + 1 == (valAt w p).2 else if (valAt w p).1 = LOSS then (valAt w (after w.game p m)).1 == WIN && (valAt w (after w.game p m)).2 + 1 == (valAt w p).2 else (valAt w (after w.game p m)).1 == DRAW) = _
  have hp := valAt_pos G hr he
  have hc := valAt_cases G (after w.game p m)
  unfold wanted
  generalize valAt w p = v at *
  generalize valAt w (after w.game p m) = x at *
  obtain ⟨v1, v2⟩ := v
  obtain ⟨x1, x2⟩ := x
  by_cases a : v1 = WIN
  · rw [if_pos a, if_pos a]
    have := hp (Or.inl a)
    simp only [Prod.mk.injEq, Bool.decide_and, Bool.beq_eq_decide_eq]
    congr 1
    simp only at this
    apply decide_eq_decide.mpr
    omega
  · rw [if_neg a, if_neg a]
    by_cases b : v1 = LOSS
    · rw [if_pos b, if_pos b]
      have := hp (Or.inr b)
      simp only [Prod.mk.injEq, Bool.decide_and, Bool.beq_eq_decide_eq]
      congr 1
      simp only at this
      apply decide_eq_decide.mpr
      omega
    · rw [if_neg b, if_neg b]
      simp only [Prod.mk.injEq, Bool.decide_and, Bool.beq_eq_decide_eq]
      rcases hc with z | ⟨z, _⟩
      · have z1 := congrArg Prod.fst z
        have z2 := congrArg Prod.snd z
        simp only at z1 z2
        rw [z1, z2]
        rfl
      · simp only at z
        have : ¬ x1 = DRAW := by
          rcases z with z | z <;> (rw [z]; decide)
        rw [decide_eq_false this]
        rfl
theorem best_eq {w : Work} (G : Good w) (hs : w.solved = true) {p : Pos} (hr : rightPos w.game p = true) (he : ended w.game p = none) : w.best p = (moves w.game p).find? fun m => decide (valAt w (after w.game p m) = wanted (valAt w p)) := by
  unfold Work.best
  rw [value_solved hs p]
  show (moves w.game p).find? _ = _
  congr 1
  funext m
  exact best_pred G hs hr he m
/-- there's a best move -/
theorem best_some {w : Work} (G : Good w) (hs : w.solved = true) {p : Pos} (hr : rightPos w.game p = true) (he : ended w.game p = none) : ∃ m ∈ moves w.game p, valAt w (after w.game p m) = wanted (valAt w p) := by
  have O : isOpen w.game (index w.game p) := ⟨⟨index_lt hr, by rw [posAt_index hr]; exact hr⟩, by rw [posAt_index hr]; exact he⟩
  have back : ∀ j ∈ leadsOf w.game (index w.game p), ∃ m ∈ moves w.game p, index w.game (after w.game p m) = j := by
    intro j hj
    unfold leadsOf at hj
    rw [posAt_index hr] at hj
    obtain ⟨m, hm, e⟩ := List.mem_map.mp hj
    exact ⟨m, hm, e⟩
  rcases valAt_cases G p with z | ⟨h, q⟩
  · have hn : w.tab.at_ (index w.game p) = none := by
      cases q : w.tab.at_ (index w.game p) with
      | none => rfl
      | some x =>
        have := (G.known _ x.1 x.2 q).2.2.1
        unfold valAt at z
        rw [q] at z
        have z : x = (DRAW, 0) := z
        rw [z] at this
        rcases this with h | h <;> cases h
    obtain ⟨d1, d2⟩ := G.done hs
    obtain ⟨_, j, hj, hk⟩ := G.rest d1 _ O hn
    obtain ⟨m, hm, e⟩ := back j hj
    refine ⟨m, hm, ?_⟩
    rw [z]
    unfold valAt
    rw [e]
    cases q : w.tab.at_ j with
    | none => rfl
    | some x =>
      have h1 := hk x.1 x.2 q
      have h2 := d2 j x.1 x.2 q
      omega
  · have hp := valAt_pos G hr he h
    obtain ⟨_, _, _, _, f⟩ := G.known _ _ _ q
    obtain ⟨_, f2, f3⟩ := f hp
    rcases h with h | h
    · obtain ⟨j, hj, qj⟩ := f2 h
      obtain ⟨m, hm, e⟩ := back j hj
      refine ⟨m, hm, ?_⟩
      unfold wanted
      rw [if_pos h]
      show (w.tab.at_ (index w.game (after w.game p m))).getD (DRAW, 0) = _
      rw [e, qj]
      rfl
    · obtain ⟨_, j, hj, qj⟩ := f3 h
      obtain ⟨m, hm, e⟩ := back j hj
      refine ⟨m, hm, ?_⟩
      unfold wanted
      rw [if_neg (by rw [h]; decide), if_pos h]
      show (w.tab.at_ (index w.game (after w.game p m))).getD (DRAW, 0) = _
      rw [e, qj]
      rfl
theorem find_of_mem {α : Type} {p : α → Bool} : ∀ {l : List α} {x : α}, x ∈ l → p x = true → ∃ y, l.find? p = some y
  | [], x, h, _ => by cases h
  | a :: l, x, h, hp => by
    rw [List.find?_cons]
    by_cases c : p a = true
    · rw [c]
      exact ⟨a, rfl⟩
    · have c' : p a = false := by simpa using c
      rw [c']
      rcases List.mem_cons.mp h with e | e
      · rw [← e, hp] at c'
        cases c'
      · exact find_of_mem e hp
/-- the best move: in the moves, and it keeps what the value promises -/
theorem best_is {w : Work} (G : Good w) (hs : w.solved = true) {p : Pos} (hr : rightPos w.game p = true) (he : ended w.game p = none) : ∃ m, w.best p = some m ∧ m ∈ moves w.game p ∧ valAt w (after w.game p m) = wanted (valAt w p) := by
  obtain ⟨m, hm, e⟩ := best_some G hs hr he
  obtain ⟨y, hy⟩ := find_of_mem (p := fun m => decide (valAt w (after w.game p m) = wanted (valAt w p))) hm (decide_eq_true e)
  refine ⟨y, (best_eq G hs hr he).trans hy, List.mem_of_find?_eq_some hy, ?_⟩
  have := List.find?_some hy
  exact of_decide_eq_true this
end Es
end

section
set_option maxRecDepth 100000
set_option linter.all false
namespace Es
open Lm
/-! ### the bytes of a game, part by part -/
def patOne (s : Bytes) (o : Nat) : Except Nat Pattern := match field s o 1 isSpan with
  | .error e => .error e
  | .ok f => match field s (o + 1) 1 (fun x => isSpan x && !(f == 0 && x == 0)) with
    | .error e => .error e
    | .ok r => match field s (o + 2) 1 (within 1 7) with
      | .error e => .error e
      | .ok n => match field s (o + 3) 1 (within 1 3) with
        | .error e => .error e
        | .ok h => .ok ⟨signed8 f, signed8 r, n, h⟩
def kindOne (s : Bytes) (board o : Nat) : Except Nat (Kind × Nat) := match field s o 1 (within 0 1) with
  | .error e => .error e
  | .ok y => match field s (o + 1) 1 (within 0 16) with
    | .error e => .error e
    | .ok n => match field s (o + 2) 8 (fun x => decide (x &&& board = x)) with
      | .error e => .error e
      | .ok g => match patternsAt s n (o + 10) with
        | .error e => .error e
        | .ok p => .ok (⟨y == 1, g, p.1⟩, p.2)
def pieceOne (s : Bytes) (kinds o : Nat) : Except Nat (Nat × Nat) := match field s o 1 (fun x => decide (x < kinds)) with
  | .error e => .error e
  | .ok x => match field s (o + 1) 1 (within 0 1) with
    | .error e => .error e
    | .ok y => .ok (x, y)
def more {α : Type} (l : List α) : Except Nat (List α × Nat) → Except Nat (List α × Nat)
  | .ok r => .ok (l ++ r.1, r.2)
  | .error e => .error e
theorem patternsAt_succ (s : Bytes) (k o : Nat) : patternsAt s (k + 1) o = match patOne s o with
    | .error e => .error e
    | .ok q => more [q] (patternsAt s k (o + 4)) := by
  conv => lhs; unfold patternsAt
  unfold patOne
  simp only [bind, Except.bind, pure, Except.pure]
  cases field s o 1 isSpan with
  | error e => rfl
  | ok f =>
    dsimp only
    cases field s (o + 1) 1 (fun x => isSpan x && !(f == 0 && x == 0)) with
    | error e => rfl
    | ok r =>
      dsimp only
      cases field s (o + 2) 1 (within 1 7) with
      | error e => rfl
      | ok n =>
        dsimp only
        cases field s (o + 3) 1 (within 1 3) with
        | error e => rfl
        | ok h =>
          dsimp only
          cases patternsAt s k (o + 4) with
          | error e => rfl
          | ok l => rfl
theorem kindsAt_succ (s : Bytes) (board k o : Nat) : kindsAt s board (k + 1) o = match kindOne s board o with
    | .error e => .error e
    | .ok q => more [q.1] (kindsAt s board k q.2) := by
  conv => lhs; unfold kindsAt
  unfold kindOne
  simp only [bind, Except.bind, pure, Except.pure]
  cases field s o 1 (within 0 1) with
  | error e => rfl
  | ok y =>
    dsimp only
    cases field s (o + 1) 1 (within 0 16) with
    | error e => rfl
    | ok n =>
      dsimp only
      cases field s (o + 2) 8 (fun x => decide (x &&& board = x)) with
      | error e => rfl
      | ok g =>
        dsimp only
        cases patternsAt s n (o + 10) with
        | error e => rfl
        | ok p =>
          dsimp only
          cases kindsAt s board k p.2 with
          | error e => rfl
          | ok l => rfl
theorem piecesAt_succ (s : Bytes) (kinds k o : Nat) : piecesAt s kinds (k + 1) o = match pieceOne s kinds o with
    | .error e => .error e
    | .ok q => more [q] (piecesAt s kinds k (o + 2)) := by
  conv => lhs; unfold piecesAt
  unfold pieceOne
  simp only [bind, Except.bind, pure, Except.pure]
  cases field s o 1 (fun x => decide (x < kinds)) with
  | error e => rfl
  | ok x =>
    dsimp only
    cases field s (o + 1) 1 (within 0 1) with
    | error e => rfl
    | ok y =>
      dsimp only
      cases piecesAt s kinds k (o + 2) with
      | error e => rfl
      | ok l => rfl
theorem more_more {α : Type} (a b : List α) (x : Except Nat (List α × Nat)) : more a (more b x) = more (a ++ b) x := by
  cases x with
  | error e => rfl
  | ok r => show Except.ok (a ++ (b ++ r.1), r.2) = Except.ok (a ++ b ++ r.1, r.2); rw [List.append_assoc]
theorem more_nil {α : Type} (x : Except Nat (List α × Nat)) : more [] x = x := by
  cases x with
  | error e => rfl
  | ok r => rfl
theorem pats_ok {s : Bytes} {l : List Pattern} {m o : Nat} {q : Pattern} (h : patOne s o = .ok q) : more l (patternsAt s (m + 1) o) = more (l ++ [q]) (patternsAt s m (o + 4)) := by
  rw [patternsAt_succ, h, more_more]
theorem pats_err {s : Bytes} {l : List Pattern} {m o e : Nat} (h : patOne s o = .error e) : more l (patternsAt s (m + 1) o) = .error e := by
  rw [patternsAt_succ, h]
  rfl
theorem kinds_ok {s : Bytes} {board : Nat} {l : List Kind} {m o o' : Nat} {q : Kind} (h : kindOne s board o = .ok (q, o')) : more l (kindsAt s board (m + 1) o) = more (l ++ [q]) (kindsAt s board m o') := by
  rw [kindsAt_succ, h, more_more]
theorem kinds_err {s : Bytes} {board : Nat} {l : List Kind} {m o e : Nat} (h : kindOne s board o = .error e) : more l (kindsAt s board (m + 1) o) = .error e := by
  rw [kindsAt_succ, h]
  rfl
theorem pieces_ok {s : Bytes} {kinds : Nat} {l : List (Nat × Nat)} {m o : Nat} {q : Nat × Nat} (h : pieceOne s kinds o = .ok q) : more l (piecesAt s kinds (m + 1) o) = more (l ++ [q]) (piecesAt s kinds m (o + 2)) := by
  rw [piecesAt_succ, h, more_more]
theorem pieces_err {s : Bytes} {kinds : Nat} {l : List (Nat × Nat)} {m o e : Nat} (h : pieceOne s kinds o = .error e) : more l (piecesAt s kinds (m + 1) o) = .error e := by
  rw [piecesAt_succ, h]
  rfl
theorem more_end {α : Type} (l : List α) (o : Nat) : more l (.ok ([], o)) = .ok (l, o) := by
  show Except.ok (l ++ [], o) = _
  rw [List.append_nil]
/-! ### what a game that is told by bytes is like -/
theorem field_val {s : Bytes} {o w : Nat} {ok : Nat → Bool} {v : Nat} (h : field s o w ok = .ok v) : o + w ≤ s.length ∧ ok v = true ∧ v = num s o w := by
  unfold field at h
  by_cases a : s.length < o + w
  · rw [if_pos a] at h; cases h
  · rw [if_neg a] at h
    by_cases b : ok (num s o w) = true
    · rw [if_pos b] at h
      have : num s o w = v := by injection h
      exact ⟨by omega, by rw [← this]; exact b, this.symm⟩
    · rw [if_neg b] at h; cases h
theorem within_iff {l h x : Nat} : within l h x = true ↔ l ≤ x ∧ x ≤ h := by
  unfold within
  rw [Bool.and_eq_true, decide_eq_true_eq, decide_eq_true_eq]
def PatFit (q : Pattern) : Prop := q.reach ≤ 7 ∧ 1 ≤ q.how ∧ q.how ≤ 3 ∧ -7 ≤ q.df ∧ q.df ≤ 7 ∧ -7 ≤ q.dr ∧ q.dr ≤ 7
theorem span_iff {x : Nat} : isSpan x = true ↔ -7 ≤ signed8 x ∧ signed8 x ≤ 7 := by
  unfold isSpan
  rw [Bool.and_eq_true, decide_eq_true_eq, decide_eq_true_eq]
theorem patOne_fit {s : Bytes} {o : Nat} {q : Pattern} (h : patOne s o = .ok q) : PatFit q ∧ o + 4 ≤ s.length := by
  unfold patOne at h
  split at h
  · cases h
  · rename_i f hf
    split at h
    · cases h
    · rename_i r hr
      split at h
      · cases h
      · rename_i n hn
        split at h
        · cases h
        · rename_i hw hh
          obtain ⟨_, f2, _⟩ := field_val hf
          obtain ⟨_, r2, _⟩ := field_val hr
          obtain ⟨_, n2, _⟩ := field_val hn
          obtain ⟨h1, h2, _⟩ := field_val hh
          have hq : (⟨signed8 f, signed8 r, n, hw⟩ : Pattern) = q := by injection h
          subst hq
          have a := span_iff.mp f2
          have b := span_iff.mp (Bool.and_eq_true_iff.mp r2).1
          have c := within_iff.mp n2
          have d := within_iff.mp h2
          exact ⟨⟨c.2, d.1, d.2, a.1, a.2, b.1, b.2⟩, h1⟩
theorem patternsAt_fit {s : Bytes} : ∀ {k o : Nat} {l : List Pattern} {o' : Nat}, o ≤ s.length → patternsAt s k o = .ok (l, o') → l.length = k ∧ (∀ q ∈ l, PatFit q) ∧ o' ≤ s.length
  | 0, o, l, o', ho, h => by
    have h : (.ok ([], o) : Except Nat (List Pattern × Nat)) = .ok (l, o') := h
    injection h with h
    injection h with h1 h2
    subst h1 h2
    exact ⟨rfl, fun q hq => (by cases hq), ho⟩
  | k + 1, o, l, o', ho, h => by
    rw [patternsAt_succ] at h
    cases hp : patOne s o with
    | error e => rw [hp] at h; cases h
    | ok q =>
      rw [hp] at h
      obtain ⟨f1, f2⟩ := patOne_fit hp
      cases hr : patternsAt s k (o + 4) with
      | error e => rw [hr] at h; cases h
      | ok r =>
        obtain ⟨l2, o2⟩ := r
        rw [hr] at h
        have h : (.ok ([q] ++ l2, o2) : Except Nat (List Pattern × Nat)) = .ok (l, o') := h
        injection h with h
        injection h with h1 h2
        subst h1 h2
        obtain ⟨a, b, c⟩ := patternsAt_fit f2 hr
        refine ⟨by simp [a], fun x hx => ?_, c⟩
        rcases List.mem_cons.mp hx with z | z
        · rw [z]; exact f1
        · exact b x z
def KindFit (s : Bytes) (board : Nat) (k : Kind) : Prop := k.pats.length ≤ 16 ∧ (∃ o, k.goals = num s o 8) ∧ k.goals &&& board = k.goals ∧ ∀ q ∈ k.pats, PatFit q
theorem kindOne_fit {s : Bytes} {board o : Nat} {q : Kind} {o' : Nat} (h : kindOne s board o = .ok (q, o')) : KindFit s board q ∧ o' ≤ s.length := by
  unfold kindOne at h
  split at h
  · cases h
  · rename_i y hy
    split at h
    · cases h
    · rename_i n hn
      split at h
      · cases h
      · rename_i g hg
        split at h
        · cases h
        · rename_i p hp
          obtain ⟨_, n2, _⟩ := field_val hn
          obtain ⟨g1, g2, g3⟩ := field_val hg
          obtain ⟨l2, o2⟩ := p
          injection h with h
          injection h with h1 h2
          subst h1 h2
          obtain ⟨a, b, c⟩ := patternsAt_fit (by omega) hp
          exact ⟨⟨by show l2.length ≤ 16; rw [a]; exact (within_iff.mp n2).2, ⟨o + 2, g3⟩, of_decide_eq_true g2, b⟩, c⟩
theorem kindsAt_fit {s : Bytes} {board : Nat} : ∀ {k o : Nat} {l : List Kind} {o' : Nat}, o ≤ s.length → kindsAt s board k o = .ok (l, o') → l.length = k ∧ (∀ q ∈ l, KindFit s board q) ∧ o' ≤ s.length
  | 0, o, l, o', ho, h => by
    have h : (.ok ([], o) : Except Nat (List Kind × Nat)) = .ok (l, o') := h
    injection h with h
    injection h with h1 h2
    subst h1 h2
    exact ⟨rfl, fun q hq => (by cases hq), ho⟩
  | k + 1, o, l, o', ho, h => by
    rw [kindsAt_succ] at h
    cases hp : kindOne s board o with
    | error e => rw [hp] at h; cases h
    | ok q =>
      obtain ⟨q, o1⟩ := q
      rw [hp] at h
      have h : more [q] (kindsAt s board k o1) = .ok (l, o') := h
      obtain ⟨f1, f2⟩ := kindOne_fit hp
      cases hr : kindsAt s board k o1 with
      | error e => rw [hr] at h; cases h
      | ok r =>
        obtain ⟨l2, o2⟩ := r
        rw [hr] at h
        have h : (.ok ([q] ++ l2, o2) : Except Nat (List Kind × Nat)) = .ok (l, o') := h
        injection h with h
        injection h with h1 h2
        subst h1 h2
        obtain ⟨a, b, c⟩ := kindsAt_fit f2 hr
        refine ⟨by simp [a], fun x hx => ?_, c⟩
        rcases List.mem_cons.mp hx with z | z
        · rw [z]; exact f1
        · exact b x z
theorem pieceOne_fit {s : Bytes} {kinds o : Nat} {q : Nat × Nat} (h : pieceOne s kinds o = .ok q) : (q.1 < kinds ∧ q.2 ≤ 1) ∧ o + 2 ≤ s.length := by
  unfold pieceOne at h
  split at h
  · cases h
  · rename_i x hx
    split at h
    · cases h
    · rename_i y hy
      obtain ⟨_, x2, _⟩ := field_val hx
      obtain ⟨y1, y2, _⟩ := field_val hy
      have hq : (x, y) = q := by injection h
      subst hq
      exact ⟨⟨of_decide_eq_true x2, (within_iff.mp y2).2⟩, y1⟩
theorem piecesAt_fit {s : Bytes} {kinds : Nat} : ∀ {k o : Nat} {l : List (Nat × Nat)} {o' : Nat}, o ≤ s.length → piecesAt s kinds k o = .ok (l, o') → l.length = k ∧ (∀ q ∈ l, q.1 < kinds ∧ q.2 ≤ 1) ∧ o' ≤ s.length
  | 0, o, l, o', ho, h => by
    have h : (.ok ([], o) : Except Nat (List (Nat × Nat) × Nat)) = .ok (l, o') := h
    injection h with h
    injection h with h1 h2
    subst h1 h2
    exact ⟨rfl, fun q hq => (by cases hq), ho⟩
  | k + 1, o, l, o', ho, h => by
    rw [piecesAt_succ] at h
    cases hp : pieceOne s kinds o with
    | error e => rw [hp] at h; cases h
    | ok q =>
      rw [hp] at h
      obtain ⟨f1, f2⟩ := pieceOne_fit hp
      cases hr : piecesAt s kinds k (o + 2) with
      | error e => rw [hr] at h; cases h
      | ok r =>
        obtain ⟨l2, o2⟩ := r
        rw [hr] at h
        have h : (.ok ([q] ++ l2, o2) : Except Nat (List (Nat × Nat) × Nat)) = .ok (l, o') := h
        injection h with h
        injection h with h1 h2
        subst h1 h2
        obtain ⟨a, b, c⟩ := piecesAt_fit f2 hr
        refine ⟨by simp [a], fun x hx => ?_, c⟩
        rcases List.mem_cons.mp hx with z | z
        · rw [z]; exact f1
        · exact b x z
/-- the whole, step by step -/
theorem gameIn_eq (s : Bytes) : gameIn s = match field s 0 1 (within 1 6) with
    | .error e => .error e
    | .ok k => match field s 1 1 (within 1 8) with
      | .error e => .error e
      | .ok m => match field s 2 1 (within 0 2) with
        | .error e => .error e
        | .ok stuck => match field s 3 1 (within 0 1) with
          | .error e => .error e
          | .ok pass => match field s 4 8 (fun x => x != 0) with
            | .error e => .error e
            | .ok board => match kindsAt s board m 12 with
              | .error e => .error e
              | .ok x => match piecesAt s m k x.2 with
                | .error e => .error e
                | .ok y => if s.length ≠ y.2 then .error y.2 else .ok ⟨stuck, pass == 1, board, x.1, y.1⟩ := by
  unfold gameIn
  simp only [bind, Except.bind, pure, Except.pure, throw, throwThe, MonadExceptOf.throw]
  cases field s 0 1 (within 1 6) with
  | error e => rfl
  | ok k =>
    dsimp only
    cases field s 1 1 (within 1 8) with
    | error e => rfl
    | ok m =>
      dsimp only
      cases field s 2 1 (within 0 2) with
      | error e => rfl
      | ok stuck =>
        dsimp only
        cases field s 3 1 (within 0 1) with
        | error e => rfl
        | ok pass =>
          dsimp only
          cases field s 4 8 (fun x => x != 0) with
          | error e => rfl
          | ok board =>
            dsimp only
            cases kindsAt s board m 12 with
            | error e => rfl
            | ok x =>
              dsimp only
              cases piecesAt s m k x.2 with
              | error e => rfl
              | ok y =>
                rfl
theorem and_sub {a b : Nat} (h : a &&& b = a) {s : Nat} (hs : inSet a s = true) : inSet b s = true := by
  have key : ∀ x : Nat, inSet x s = x.testBit s := fun x => by
    unfold inSet
    rw [Nat.testBit_eq_decide_div_mod_eq, Bool.eq_iff_iff, beq_iff_eq, decide_eq_true_eq]
  rw [key] at hs ⊢
  rw [← h, Nat.testBit_and, Bool.and_eq_true] at hs
  exact hs.2
end Es
end

section
set_option maxRecDepth 100000
set_option linter.all false
namespace Es
open Lm
/-! ### numbers of right positions, values by number -/
theorem mem_numbers {g : Game} {n : Nat} : n ∈ numbers g ↔ isRight g n := by
  unfold numbers isRight
  rw [List.mem_filter, List.mem_range]
theorem numbers_len (g : Game) : (numbers g).length ≤ g.count := by
  have := List.length_filter_le (fun n => rightPos g (posAt g n)) (List.range g.count)
  rw [List.length_range] at this
  exact this
theorem numbers_lt (g : Game) : (numbers g).Pairwise (· < ·) := List.Pairwise.filter _ List.pairwise_lt_range
/-- up to where the first k numbers reach -/
def reachN (g : Game) (k : Nat) : Nat := (numbers g).getD k g.count
theorem reachN_at {g : Game} {k n : Nat} (h : (numbers g)[k]? = some n) : reachN g k = n := by
  unfold reachN
  rw [List.getD_eq_getElem?_getD, h]
  rfl
theorem reachN_end (g : Game) : reachN g (numbers g).length = g.count := by
  unfold reachN
  rw [List.getD_eq_getElem?_getD, List.getElem?_eq_none_iff.mpr (Nat.le_refl _)]
  rfl
theorem reachN_le (g : Game) (k : Nat) : reachN g k ≤ g.count := by
  unfold reachN
  rw [List.getD_eq_getElem?_getD]
  cases h : (numbers g)[k]? with
  | none => exact Nat.le_refl _
  | some n => exact Nat.le_of_lt (mem_numbers.mp (List.mem_of_getElem? h)).1
/-- below the first one there is none -/
theorem reachN_zero {g : Game} {i : Nat} (h : i < reachN g 0) : ¬ isRight g i := fun hr => by
  obtain ⟨j, hj, e⟩ := List.mem_iff_getElem.mp (mem_numbers.mpr hr)
  have h0 : 0 < (numbers g).length := by omega
  rw [reachN_at (List.getElem?_eq_getElem h0)] at h
  by_cases c : j = 0
  · subst c; omega
  · have := List.pairwise_iff_getElem.mp (numbers_lt g) 0 j h0 hj (by omega)
    omega
theorem reachN_next {g : Game} {k n i : Nat} (h : (numbers g)[k]? = some n) (h1 : n < i) (h2 : i < reachN g (k + 1)) : ¬ isRight g i := fun hr => by
  obtain ⟨j, hj, e⟩ := List.mem_iff_getElem.mp (mem_numbers.mpr hr)
  obtain ⟨hk, en⟩ := List.getElem?_eq_some_iff.mp h
  have P := List.pairwise_iff_getElem.mp (numbers_lt g)
  by_cases c : j ≤ k
  · by_cases d : j = k
    · subst d; omega
    · have := P j k hj hk (by omega)
      omega
  · have hk1 : k + 1 < (numbers g).length := by omega
    rw [reachN_at (List.getElem?_eq_getElem hk1)] at h2
    by_cases d : j = k + 1
    · subst d; omega
    · have := P (k + 1) j hk1 hj (by omega)
      omega
theorem reachN_gt {g : Game} {k n : Nat} (h : (numbers g)[k]? = some n) : n + 1 ≤ reachN g (k + 1) := by
  obtain ⟨hk, en⟩ := List.getElem?_eq_some_iff.mp h
  unfold reachN
  rw [List.getD_eq_getElem?_getD]
  cases h1 : (numbers g)[k + 1]? with
  | none => exact (mem_numbers.mp (List.mem_of_getElem? h)).1
  | some m =>
    obtain ⟨hk1, em⟩ := List.getElem?_eq_some_iff.mp h1
    have := List.pairwise_iff_getElem.mp (numbers_lt g) k (k + 1) hk hk1 (by omega)
    show n + 1 ≤ m
    omega
theorem valAt_num {w : Work} {i : Nat} (h : i < w.game.count) : valAt w (posAt w.game i) = (w.tab.at_ i).getD (DRAW, 0) := by
  unfold valAt
  rw [index_posAt h]
theorem has_eq {w : Work} (G : Good w) (hs : w.solved = true) (what count i : Nat) : LmCalls.Work.has w what count i = decide (valAt w (posAt w.game i) = (what, if what = 0 then 0 else count)) := by
  unfold LmCalls.Work.has
  rw [value_solved hs]
  show ((valAt w (posAt w.game i)).1 == what && (what == DRAW || (valAt w (posAt w.game i)).2 == count)) = _
  rw [Bool.eq_iff_iff, decide_eq_true_eq, Bool.and_eq_true, Bool.or_eq_true, beq_iff_eq, beq_iff_eq, beq_iff_eq]
  rcases valAt_cases G (posAt w.game i) with z | ⟨z, _⟩
  · rw [z]
    constructor
    · rintro ⟨a, b⟩
      have a : 0 = what := a
      subst a
      rfl
    · intro h
      have a : 0 = what := congrArg Prod.fst h
      subst a
      exact ⟨rfl, Or.inl rfl⟩
  · generalize valAt w (posAt w.game i) = v at *
    obtain ⟨a, b⟩ := v
    have z : a = 1 ∨ a = 2 := z
    constructor
    · rintro ⟨e, h⟩
      have e : a = what := e
      subst e
      have n0 : ¬ a = 0 := by omega
      rw [if_neg n0]
      rcases h with h | h
      · exact absurd h n0
      · have h : b = count := h
        rw [h]
    · intro h
      have e : a = what := congrArg Prod.fst h
      have f : b = if what = 0 then 0 else count := congrArg Prod.snd h
      subst e
      rw [if_neg (by omega)] at f
      exact ⟨rfl, Or.inr f⟩
theorem withValue_eq {w : Work} (G : Good w) (hs : w.solved = true) (what count : Nat) : LmCalls.Work.withValue w what count = (numbers w.game).filter fun i => decide (valAt w (posAt w.game i) = (what, if what = 0 then 0 else count)) :=
  List.filter_congr fun i _ => has_eq G hs what count i
/-! ### the greatest count -/
def gstep (f : Nat → Nat × Nat) (what : Nat) (a : Option Nat) (i : Nat) : Option Nat := if (f i).1 = what then (match a with
  | some x => some (max x (f i).2)
  | none => some (f i).2) else a
theorem greatest_fold {w : Work} (hs : w.solved = true) (what : Nat) : LmCalls.Work.greatest w what = (numbers w.game).foldl (gstep (fun i => valAt w (posAt w.game i)) what) none := by
  unfold LmCalls.Work.greatest
  congr 1
  funext a i
  rw [value_solved hs]
  rfl
theorem gfold_some {f : Nat → Nat × Nat} {what : Nat} : ∀ (l : List Nat) (a : Option Nat) (m : Nat), l.foldl (gstep f what) a = some m → a = some m ∨ ∃ i ∈ l, (f i).1 = what ∧ (f i).2 = m
  | [], a, m, h => Or.inl h
  | i :: l, a, m, h => by
    rw [List.foldl_cons] at h
    rcases gfold_some l _ m h with z | ⟨j, hj, e⟩
    · unfold gstep at z
      by_cases c : (f i).1 = what
      · rw [if_pos c] at z
        cases a with
        | none => exact Or.inr ⟨i, List.mem_cons_self .., c, Option.some.inj z⟩
        | some x =>
          have z : max x (f i).2 = m := Option.some.inj z
          by_cases d : x ≤ (f i).2
          · rw [Nat.max_eq_right d] at z
            exact Or.inr ⟨i, List.mem_cons_self .., c, z⟩
          · rw [Nat.max_eq_left (by omega)] at z
            rw [z]
            exact Or.inl rfl
      · rw [if_neg c] at z
        exact Or.inl z
    · exact Or.inr ⟨j, List.mem_cons_of_mem _ hj, e⟩
theorem gfold_le {f : Nat → Nat × Nat} {what : Nat} : ∀ (l : List Nat) (a : Option Nat) (x : Nat), (a = some x ∨ ∃ i ∈ l, (f i).1 = what ∧ (f i).2 = x) → ∃ m, l.foldl (gstep f what) a = some m ∧ x ≤ m
  | [], a, x, h => by
    rcases h with h | ⟨i, hi, _⟩
    · exact ⟨x, h, Nat.le_refl _⟩
    · cases hi
  | i :: l, a, x, h => by
    rw [List.foldl_cons]
    have key : (∃ y, gstep f what a i = some y ∧ x ≤ y) ∨ ∃ j ∈ l, (f j).1 = what ∧ (f j).2 = x := by
      rcases h with h | ⟨j, hj, e⟩
      · subst h
        left
        unfold gstep
        by_cases c : (f i).1 = what
        · rw [if_pos c]
          exact ⟨_, rfl, Nat.le_max_left ..⟩
        · rw [if_neg c]
          exact ⟨x, rfl, Nat.le_refl _⟩
      · rcases List.mem_cons.mp hj with z | z
        · subst z
          left
          unfold gstep
          rw [if_pos e.1]
          cases a with
          | none => exact ⟨_, rfl, by rw [e.2]; exact Nat.le_refl _⟩
          | some y => exact ⟨_, rfl, by rw [e.2]; exact Nat.le_max_right ..⟩
        · exact Or.inr ⟨j, z, e⟩
    rcases key with ⟨y, hy, hxy⟩ | h
    · obtain ⟨m, hm, hle⟩ := gfold_le l _ y (Or.inl hy)
      exact ⟨m, hm, by omega⟩
    · exact gfold_le l _ x (Or.inr h)
/-- the counts of a value by what is known -/
theorem greatest_is {w : Work} (G : Good w) (hs : w.solved = true) {what : Nat} (hw : what = 1 ∨ what = 2) :
    (∀ m, LmCalls.Work.greatest w what = some m → (∃ i, w.tab.at_ i = some (what, m)) ∧ ∀ i n, w.tab.at_ i = some (what, n) → n ≤ m) ∧ (LmCalls.Work.greatest w what = none → ∀ i n, w.tab.at_ i ≠ some (what, n)) := by
  rw [greatest_fold hs]
  have up : ∀ i n, w.tab.at_ i = some (what, n) → ∃ m, (numbers w.game).foldl (gstep (fun i => valAt w (posAt w.game i)) what) none = some m ∧ n ≤ m := fun i n h => by
    have hr := (G.known i what n h).1
    refine gfold_le _ none n (Or.inr ⟨i, mem_numbers.mpr hr, ?_⟩)
    rw [valAt_num hr.1, h]
    exact ⟨rfl, rfl⟩
  refine ⟨fun m h => ⟨?_, fun i n hn => ?_⟩, fun h i n hn => ?_⟩
  · rcases gfold_some _ none m h with z | ⟨i, hi, e1, e2⟩
    · cases z
    · have hr := mem_numbers.mp hi
      refine ⟨i, ?_⟩
      rw [valAt_num hr.1] at e1 e2
      cases ht : w.tab.at_ i with
      | none =>
        rw [ht] at e1
        have e1 : 0 = what := e1
        omega
      | some x =>
        rw [ht] at e1 e2
        have e1 : x.1 = what := e1
        have e2 : x.2 = m := e2
        rw [← e1, ← e2]
  · obtain ⟨m', e, hle⟩ := up i n hn
    rw [h] at e
    have := Option.some.inj e
    omega
  · obtain ⟨m', e, hle⟩ := up i n hn
    rw [h] at e
    cases e
end Es
end

section
set_option maxRecDepth 100000
set_option linter.all false
namespace Es
open Lm
/-! ### sets by their bits -/
theorem inSet_bit (x s : Nat) : inSet x s = x.testBit s := by
  unfold inSet
  rw [Nat.testBit_eq_decide_div_mod_eq, Bool.beq_eq_decide_eq]
def accOf (p : Nat → Bool) (n : Nat) : Nat := (List.range n).foldr (fun s x => if p s = true then x + 2 ^ s else x) 0
theorem acc_add (p : Nat → Bool) : ∀ (l : List Nat) (a : Nat), l.foldr (fun s x => if p s = true then x + 2 ^ s else x) a = l.foldr (fun s x => if p s = true then x + 2 ^ s else x) 0 + a
  | [], a => by simp
  | s :: l, a => by
    rw [List.foldr_cons, List.foldr_cons, acc_add p l a]
    split <;> omega
theorem acc_succ (p : Nat → Bool) (n : Nat) : accOf p (n + 1) = accOf p n + (if p n = true then 2 ^ n else 0) := by
  unfold accOf
  rw [List.range_succ, List.foldr_append, List.foldr_cons, List.foldr_nil, acc_add]
  congr 1
  split <;> omega
theorem acc_lt (p : Nat → Bool) : ∀ n, accOf p n < 2 ^ n
  | 0 => Nat.one_pos
  | n + 1 => by
    rw [acc_succ]
    have := acc_lt p n
    have h2 : 2 ^ (n + 1) = 2 * 2 ^ n := by rw [Nat.pow_succ]; omega
    split <;> omega
theorem acc_bit (p : Nat → Bool) (s : Nat) : ∀ n, (accOf p n).testBit s = (decide (s < n) && p s)
  | 0 => by
    rw [decide_eq_false (Nat.not_lt_zero s), Bool.false_and]
    exact Nat.zero_testBit s
  | n + 1 => by
    rw [acc_succ]
    have hlt := acc_lt p n
    have ih := acc_bit p s n
    by_cases c : p n = true
    · rw [if_pos c]
      have e : accOf p n + 2 ^ n = 2 ^ n * 1 ||| accOf p n := by
        rw [← Nat.two_pow_add_eq_or_of_lt hlt 1]
        omega
      rw [e, Nat.testBit_or, ih, Nat.mul_one, Nat.testBit_two_pow]
      by_cases d : s = n
      · subst d
        rw [c, decide_eq_true rfl, decide_eq_true (Nat.lt_succ_self s)]
        rfl
      · rw [decide_eq_false (fun z => d z.symm), Bool.false_or]
        congr 1
        rw [decide_eq_decide]
        omega
    · rw [if_neg c, Nat.add_zero, ih]
      by_cases d : s = n
      · subst d
        rw [Bool.eq_false_iff.mpr c, Bool.and_false, Bool.and_false]
      · congr 1
        rw [decide_eq_decide]
        omega
theorem setOf_bit (p : Nat → Bool) (s : Nat) : (setOf p).testBit s = (decide (s < 64) && p s) := acc_bit p s 64
/-! ### turns of squares -/
/-- what mirrors files and ranks -/
def mirT (t : Nat) (f r e : Int) : Int × Int := (if inSet t 0 = true then e - f else f, if inSet t 1 = true then e - r else r)
def pairT (t : Nat) (f r e : Int) : Int × Int := if inSet t 2 = true then mirT t r f e else mirT t f r e
theorem turnSq_pair {t s : Nat} (hs : s < 64) : ((turnSq t s : Nat) : Int) = 8 * (pairT t ((s % 8 : Nat) : Int) ((s / 8 : Nat) : Int) 7).2 + (pairT t ((s % 8 : Nat) : Int) ((s / 8 : Nat) : Int) 7).1 := by
  unfold turnSq pairT mirT
  cases inSet t 0 <;> cases inSet t 1 <;> cases inSet t 2 <;> simp <;> omega
theorem turnDir_pair (t : Nat) (a b : Int) : turnDir t (a, b) = pairT t a b 0 := by
  unfold turnDir pairT mirT
  cases inSet t 0 <;> cases inSet t 1 <;> cases inSet t 2 <;> simp
theorem turnSq_lt {t s : Nat} (hs : s < 64) : turnSq t s < 64 := by
  unfold turnSq
  cases inSet t 0 <;> cases inSet t 1 <;> cases inSet t 2 <;> simp <;> omega
theorem turnSq_zero {s : Nat} (hs : s < 64) : turnSq 0 s = s := by
  show 8 * (s / 8) + s % 8 = s
  omega
/-- the squares of a list, turned, as a set -/
def orSet (t : Nat) (l : List Nat) : Nat := l.foldl (fun y s => y ||| 2 ^ turnSq t s) 0
theorem orSet_snoc (t : Nat) (l : List Nat) (s : Nat) : orSet t (l ++ [s]) = orSet t l ||| 2 ^ turnSq t s := by
  unfold orSet
  rw [List.foldl_append]
  rfl
theorem orSet_bit (t s : Nat) (l : List Nat) : (orSet t l).testBit s = l.any fun q => turnSq t q == s := by
  unfold orSet
  have key : ∀ (l : List Nat) (a : Nat), (l.foldl (fun y s => y ||| 2 ^ turnSq t s) a).testBit s = (a.testBit s || l.any fun q => turnSq t q == s) := by
    intro l
    induction l with
    | nil => intro a; simp
    | cons q l ih =>
      intro a
      rw [List.foldl_cons, ih, Nat.testBit_or, Nat.testBit_two_pow, List.any_cons, Bool.or_assoc, Bool.beq_eq_decide_eq]
  rw [key, Nat.zero_testBit, Bool.false_or]
theorem orSet_lt {t : Nat} {l : List Nat} (h : ∀ s ∈ l, s < 64) : orSet t l < 2 ^ 64 := by
  have key : ∀ (l : List Nat) (a : Nat), a < 2 ^ 64 → (∀ s ∈ l, s < 64) → l.foldl (fun y s => y ||| 2 ^ turnSq t s) a < 2 ^ 64 := by
    intro l
    induction l with
    | nil => intro a ha _; exact ha
    | cons q l ih =>
      intro a ha hq
      rw [List.foldl_cons]
      refine ih _ (Nat.or_lt_two_pow ha ?_) fun s hs => hq s (List.mem_cons_of_mem _ hs)
      exact Nat.pow_lt_pow_right (by decide) (turnSq_lt (hq q (List.mem_cons_self ..)))
  exact key l 0 (by decide) h
theorem orSet_is (x t : Nat) : orSet t (squaresOf x) = turnSet x t := by
  apply Nat.eq_of_testBit_eq
  intro s
  unfold turnSet
  rw [orSet_bit, setOf_bit, Bool.eq_iff_iff, Bool.and_eq_true, decide_eq_true_eq, List.any_eq_true, List.any_eq_true]
  constructor
  · rintro ⟨q, hq, e⟩
    obtain ⟨h1, h2⟩ := mem_squares.mp hq
    have e' : turnSq t q = s := beq_iff_eq.mp e
    exact ⟨by rw [← e']; exact turnSq_lt h1, q, List.mem_range.mpr h1, by rw [h2, e]; rfl⟩
  · rintro ⟨_, q, hq, e⟩
    rw [Bool.and_eq_true] at e
    exact ⟨q, mem_squares.mpr ⟨List.mem_range.mp hq, e.1⟩, e.2⟩
theorem turnSet_zero {x : Nat} (h : x < 2 ^ 64) : turnSet x 0 = x := by
  apply Nat.eq_of_testBit_eq
  intro s
  unfold turnSet
  rw [setOf_bit, Bool.eq_iff_iff, Bool.and_eq_true, decide_eq_true_eq, List.any_eq_true]
  constructor
  · rintro ⟨_, q, hq, e⟩
    rw [Bool.and_eq_true, beq_iff_eq, turnSq_zero (List.mem_range.mp hq)] at e
    rw [← e.2, ← inSet_bit]
    exact e.1
  · intro hb
    have hs : s < 64 := by
      apply Classical.byContradiction
      intro c
      rw [Nat.testBit_lt_two_pow (Nat.lt_of_lt_of_le h (Nat.pow_le_pow_right (by decide) (by omega)))] at hb
      cases hb
    exact ⟨hs, s, List.mem_range.mpr hs, by rw [turnSq_zero hs, inSet_bit, hb]; simp⟩
/-- a turn that keeps the board carries its squares to its squares -/
theorem turn_on {x t s : Nat} (h : turnSet x t = x) (hs : s < 64) (hx : inSet x s = true) : inSet x (turnSq t s) = true := by
  rw [inSet_bit, ← h]
  unfold turnSet
  rw [setOf_bit, decide_eq_true (turnSq_lt hs), Bool.true_and, List.any_eq_true]
  exact ⟨s, List.mem_range.mpr hs, by rw [hx]; simp⟩
/-! ### patterns as keys -/
def keyP (t : Nat) (q : Pattern) : Int × Int × Nat × Nat := ((pairT t q.df q.dr 0).1, (pairT t q.df q.dr 0).2, q.reach, q.how)
theorem pairT_zero (a b e : Int) : pairT 0 a b e = (a, b) := rfl
theorem keyP_eq {t : Nat} {q q' : Pattern} : keyP t q = keyP 0 q' ↔ turnedPattern t q = q' := by
  unfold keyP turnedPattern
  rw [turnDir_pair, pairT_zero]
  obtain ⟨a, b, c, d⟩ := q'
  simp only [Prod.mk.injEq, Pattern.mk.injEq]
theorem same_iff {t : Nat} {l : List Pattern} : samePatterns (l.map (turnedPattern t)) l = true ↔ (∀ k, (∃ q ∈ l, keyP t q = k) ↔ ∃ q ∈ l, keyP 0 q = k) := by
  unfold samePatterns
  rw [Bool.and_eq_true, List.all_eq_true, List.all_eq_true]
  simp only [List.contains_iff_mem]
  constructor
  · rintro ⟨h1, h2⟩ k
    constructor
    · rintro ⟨q, hq, rfl⟩
      have := h1 _ (List.mem_map.mpr ⟨q, hq, rfl⟩)
      exact ⟨_, this, (keyP_eq.mpr rfl).symm⟩
    · rintro ⟨q, hq, rfl⟩
      obtain ⟨q', hq', e⟩ := List.mem_map.mp (h2 q hq)
      exact ⟨q', hq', keyP_eq.mpr e⟩
  · intro h
    constructor
    · intro x hx
      obtain ⟨q, hq, rfl⟩ := List.mem_map.mp hx
      obtain ⟨q', hq', e⟩ := (h (keyP t q)).mp ⟨q, hq, rfl⟩
      rw [keyP_eq.mp e.symm]
      exact hq'
    · intro q hq
      obtain ⟨q', hq', e⟩ := (h (keyP 0 q)).mpr ⟨q, hq, rfl⟩
      exact List.mem_map.mpr ⟨q', hq', keyP_eq.mp e⟩
theorem sub_len {α : Type} [DecidableEq α] : ∀ (a b : List α), a.Nodup → (∀ x ∈ a, x ∈ b) → a.length ≤ b.length
  | [], b, _, _ => Nat.zero_le _
  | x :: a, b, nd, h => by
    rw [List.nodup_cons] at nd
    have hb := h x (List.mem_cons_self ..)
    have := sub_len a (b.erase x) nd.2 fun y hy => by
      have ne : y ≠ x := fun z => nd.1 (by rw [← z]; exact hy)
      exact (List.mem_erase_of_ne ne).mpr (h y (List.mem_cons_of_mem _ hy))
    rw [List.length_erase_of_mem hb] at this
    have : 0 < b.length := List.length_pos_of_mem hb
    rw [List.length_cons]
    omega
/-- as many, and all of the one in the other: the same ones -/
theorem same_mem {α : Type} [DecidableEq α] {a b : List α} (ha : a.Nodup) (hb : b.Nodup) : (a.length = b.length ∧ ∀ x ∈ a, x ∈ b) ↔ ∀ x, x ∈ a ↔ x ∈ b := by
  constructor
  · rintro ⟨hl, h⟩ x
    refine ⟨h x, fun hx => Classical.byContradiction fun c => ?_⟩
    have := sub_len (x :: a) b (List.nodup_cons.mpr ⟨c, ha⟩) fun y hy => by
      rcases List.mem_cons.mp hy with z | z
      · rw [z]; exact hx
      · exact h y z
    rw [List.length_cons] at this
    omega
  · intro h
    exact ⟨Nat.le_antisymm (sub_len a b ha fun x hx => (h x).mp hx) (sub_len b a hb fun x hx => (h x).mpr hx), fun x hx => (h x).mp hx⟩
/-! ### turns that keep the game -/
theorem keeps_zero {g : Game} (hb : g.board < 2 ^ 64) (hk : ∀ k ∈ g.kinds, k.goals < 2 ^ 64) : keeps g 0 = true := by
  unfold keeps
  rw [turnSet_zero hb, beq_self_eq_true, Bool.true_and, List.all_eq_true]
  intro k hkk
  rw [turnSet_zero (hk k hkk), beq_self_eq_true, Bool.true_and, same_iff]
  exact fun _ => Iff.rfl
theorem turnsOf_zero {g : Game} (h : keeps g 0 = true) : ∃ l, turnsOf g = 0 :: l := by
  unfold turnsOf
  rw [show List.range 8 = 0 :: [1, 2, 3, 4, 5, 6, 7] from rfl, List.filter_cons_of_pos h]
  exact ⟨_, rfl⟩
theorem mem_turns {g : Game} {t : Nat} (h : t ∈ turnsOf g) : t < 8 ∧ keeps g t = true := by
  unfold turnsOf at h
  rw [List.mem_filter, List.mem_range] at h
  exact h
theorem keeps_board {g : Game} {t : Nat} (h : keeps g t = true) : turnSet g.board t = g.board := by
  unfold keeps at h
  rw [Bool.and_eq_true, beq_iff_eq] at h
  exact h.1
theorem turned_on {g : Game} {t : Nat} {p : Pos} (h : keeps g t = true) (hp : ∀ s ∈ p.at_, On g s) : ∀ s ∈ (turned t p).at_, On g s := by
  intro s hs
  unfold turned at hs
  obtain ⟨q, hq, rfl⟩ := List.mem_map.mp hs
  by_cases c : q = OFF
  · rw [if_pos c]
    exact Or.inl rfl
  · rw [if_neg c]
    rcases hp q hq with z | ⟨z1, z2⟩
    · exact absurd z c
    · exact Or.inr ⟨turnSq_lt z1, turn_on (keeps_board h) z1 z2⟩
theorem turned_zero {g : Game} {p : Pos} (hp : ∀ s ∈ p.at_, On g s) : turned 0 p = p := by
  unfold turned
  have : (p.at_.map fun s => if s = OFF then OFF else turnSq 0 s) = p.at_ := by
    conv => rhs; rw [← List.map_id p.at_]
    refine List.map_congr_left fun s hs => ?_
    show (if s = OFF then OFF else turnSq 0 s) = s
    by_cases c : s = OFF
    · rw [if_pos c, c]
    · rw [if_neg c]
      rcases hp s hs with z | ⟨z, _⟩
      · exact absurd z c
      · exact turnSq_zero z
  rw [this]
theorem turns_sum (l : List Nat) : l.foldr (fun (t x : Nat) => x + 2 ^ t) 0 = (l.map fun t => 2 ^ t).sum := by
  induction l with
  | nil => rfl
  | cons t l ih => rw [List.foldr_cons, List.map_cons, List.sum_cons, ih, Nat.add_comm]
/-- the least so far -/
def lstep (f : Nat → Nat) (b : Nat × Nat) (t : Nat) : Nat × Nat := if f t < b.2 then (t, f t) else b
theorem least_fold {f : Nat → Nat} : ∀ (r l : List Nat) (b : Nat), (∃ a c, l = a ++ b :: c ∧ ∀ y ∈ a, f b < f y) → (∀ y ∈ l, f b ≤ f y) →
    ∃ b', r.foldl (lstep f) (b, f b) = (b', f b') ∧ (∃ a c, l ++ r = a ++ b' :: c ∧ ∀ y ∈ a, f b' < f y) ∧ ∀ y ∈ l ++ r, f b' ≤ f y
  | [], l, b, h1, h2 => ⟨b, rfl, by rw [List.append_nil]; exact h1, by rw [List.append_nil]; exact h2⟩
  | t :: r, l, b, h1, h2 => by
    rw [List.foldl_cons]
    unfold lstep
    by_cases c : f t < f b
    · rw [if_pos c]
      have := least_fold (f := f) r (l ++ [t]) t ⟨l, [], rfl, fun y hy => by have := h2 y hy; omega⟩ (fun y hy => by
        rcases List.mem_append.mp hy with z | z
        · have := h2 y z; omega
        · rw [List.mem_singleton.mp z]; exact Nat.le_refl _)
      rw [List.append_assoc] at this
      exact this
    · rw [if_neg c]
      obtain ⟨a, d, e, h⟩ := h1
      have := least_fold (f := f) r (l ++ [t]) b ⟨a, d ++ [t], by rw [e, List.append_assoc]; rfl, h⟩ (fun y hy => by
        rcases List.mem_append.mp hy with z | z
        · exact h2 y z
        · rw [List.mem_singleton.mp z]; omega)
      rw [List.append_assoc] at this
      exact this
theorem leastTurn_is {g : Game} {p : Pos} (h0 : keeps g 0 = true) : ((turnsOf g).foldl (lstep fun t => index g (turned t p)) (0, index g (turned 0 p))) = (leastTurn g p, index g (turned (leastTurn g p) p)) ∧ leastTurn g p ∈ turnsOf g := by
  obtain ⟨l, hl⟩ := turnsOf_zero h0
  have hs : (turnsOf g).foldl (lstep fun t => index g (turned t p)) (0, index g (turned 0 p)) = l.foldl (lstep fun t => index g (turned t p)) (0, index g (turned 0 p)) := by
    rw [hl, List.foldl_cons]
    congr 1
    exact if_neg (Nat.lt_irrefl _)
  obtain ⟨b, e, ⟨a, c, hac, hlt⟩, hle⟩ := least_fold (f := fun t => index g (turned t p)) l [0] 0 ⟨[], [], rfl, fun y hy => by cases hy⟩ (fun y hy => by rw [List.mem_singleton.mp hy]; exact Nat.le_refl _)
  have hl' : turnsOf g = a ++ b :: c := hl.trans hac
  have hle' : ∀ y ∈ turnsOf g, index g (turned b p) ≤ index g (turned y p) := fun y hy => hle y (by rw [hl] at hy; exact hy)
  have hb : leastTurn g p = b := by
    unfold leastTurn
    have : (turnsOf g).find? (fun t => (turnsOf g).all fun u => decide (index g (turned t p) ≤ index g (turned u p))) = some b := by
      rw [List.find?_eq_some_iff_append]
      refine ⟨List.all_eq_true.mpr fun u hu => decide_eq_true (hle' u hu), a, c, hl', fun y hy => ?_⟩
      rw [Bool.not_eq_true', List.all_eq_false]
      refine ⟨b, by rw [hl']; simp, ?_⟩
      have := hlt y hy
      rw [decide_eq_true_eq]
      omega
    rw [this]
    rfl
  rw [hs, e, hb]
  exact ⟨rfl, by rw [hl']; simp⟩
end Es
end

section
set_option maxRecDepth 100000
set_option linter.all false
namespace Es
open Lm
/-! ### tables -/
def cc (c : Nat → Nat) (n i : Nat) : Nat := if i < n then c i else 0
theorem cc_pos {c : Nat → Nat} {n i : Nat} (h : i < n) : cc c n i = c i := if_pos h
theorem cc_neg {c : Nat → Nat} {n i : Nat} (h : n ≤ i) : cc c n i = 0 := if_neg (by omega)
def part (c : Nat → Nat) (n b : Nat) : Nat := cc c n (4 * b) + (4 * cc c n (4 * b + 1) + (16 * cc c n (4 * b + 2) + 64 * cc c n (4 * b + 3)))
section
variable {c : Nat → Nat} (hc : ∀ i, c i ≤ 3)
include hc
theorem cc_le (n i : Nat) : cc c n i ≤ 3 := by
  unfold cc
  split
  · exact hc i
  · exact Nat.zero_le _
theorem part_lt (n b : Nat) : part c n b < 256 := by
  have h0 := cc_le hc n (4 * b)
  have h1 := cc_le hc n (4 * b + 1)
  have h2 := cc_le hc n (4 * b + 2)
  have h3 := cc_le hc n (4 * b + 3)
  unfold part
  omega
theorem part_code (n i : Nat) : part c n (i / 4) / 4 ^ (i % 4) % 4 = cc c n i := by
  obtain ⟨b, j, hj, rfl⟩ : ∃ b j, j < 4 ∧ i = 4 * b + j := ⟨i / 4, i % 4, by omega, by omega⟩
  rw [show (4 * b + j) / 4 = b by omega, show (4 * b + j) % 4 = j by omega]
  have h0 := cc_le hc n (4 * b)
  have h1 := cc_le hc n (4 * b + 1)
  have h2 := cc_le hc n (4 * b + 2)
  have h3 := cc_le hc n (4 * b + 3)
  unfold part
  match j, hj with
  | 0, _ =>
    show _ / 1 % 4 = cc c n (4 * b)
    omega
  | 1, _ =>
    show _ / 4 % 4 = _
    omega
  | 2, _ =>
    show _ / 16 % 4 = _
    omega
  | 3, _ =>
    show _ / 64 % 4 = _
    omega
theorem or_add {x k y : Nat} (h : x < 2 ^ k) : x ||| (y * 2 ^ k) = x + y * 2 ^ k := by
  rw [Nat.or_comm, Nat.mul_comm, ← Nat.two_pow_add_eq_or_of_lt h, Nat.add_comm]
theorem part_step (n : Nat) : part c n (n / 4) ||| (c n * 2 ^ (2 * (n % 4))) = part c (n + 1) (n / 4) := by
  obtain ⟨b, j, hj, rfl⟩ : ∃ b j, j < 4 ∧ n = 4 * b + j := ⟨n / 4, n % 4, by omega, by omega⟩
  rw [show (4 * b + j) / 4 = b by omega, show (4 * b + j) % 4 = j by omega]
  have h0 := hc (4 * b)
  have h1 := hc (4 * b + 1)
  have h2 := hc (4 * b + 2)
  have h3 := hc (4 * b + 3)
  unfold part
  match j, hj with
  | 0, _ =>
    rw [cc_neg (c := c) (n := 4 * b + 0) (i := 4 * b) (by omega), cc_neg (c := c) (n := 4 * b + 0) (i := 4 * b + 1) (by omega), cc_neg (c := c) (n := 4 * b + 0) (i := 4 * b + 2) (by omega), cc_neg (c := c) (n := 4 * b + 0) (i := 4 * b + 3) (by omega),
      cc_pos (c := c) (n := 4 * b + 0 + 1) (i := 4 * b) (by omega), cc_neg (c := c) (n := 4 * b + 0 + 1) (i := 4 * b + 1) (by omega), cc_neg (c := c) (n := 4 * b + 0 + 1) (i := 4 * b + 2) (by omega), cc_neg (c := c) (n := 4 * b + 0 + 1) (i := 4 * b + 3) (by omega)]
    rw [or_add hc (show _ < 2 ^ (2 * 0) by show _ < 1; omega)]
    show _ + c (4 * b) * 1 = _
    omega
  | 1, _ =>
    rw [cc_pos (c := c) (n := 4 * b + 1) (i := 4 * b) (by omega), cc_neg (c := c) (n := 4 * b + 1) (i := 4 * b + 1) (by omega), cc_neg (c := c) (n := 4 * b + 1) (i := 4 * b + 2) (by omega), cc_neg (c := c) (n := 4 * b + 1) (i := 4 * b + 3) (by omega),
      cc_pos (c := c) (n := 4 * b + 1 + 1) (i := 4 * b) (by omega), cc_pos (c := c) (n := 4 * b + 1 + 1) (i := 4 * b + 1) (by omega), cc_neg (c := c) (n := 4 * b + 1 + 1) (i := 4 * b + 2) (by omega), cc_neg (c := c) (n := 4 * b + 1 + 1) (i := 4 * b + 3) (by omega)]
    rw [or_add hc (show _ < 2 ^ (2 * 1) by show _ < 4; omega)]
    show _ + c (4 * b + 1) * 4 = _
    omega
  | 2, _ =>
    rw [cc_pos (c := c) (n := 4 * b + 2) (i := 4 * b) (by omega), cc_pos (c := c) (n := 4 * b + 2) (i := 4 * b + 1) (by omega), cc_neg (c := c) (n := 4 * b + 2) (i := 4 * b + 2) (by omega), cc_neg (c := c) (n := 4 * b + 2) (i := 4 * b + 3) (by omega),
      cc_pos (c := c) (n := 4 * b + 2 + 1) (i := 4 * b) (by omega), cc_pos (c := c) (n := 4 * b + 2 + 1) (i := 4 * b + 1) (by omega), cc_pos (c := c) (n := 4 * b + 2 + 1) (i := 4 * b + 2) (by omega), cc_neg (c := c) (n := 4 * b + 2 + 1) (i := 4 * b + 3) (by omega)]
    rw [or_add hc (show _ < 2 ^ (2 * 2) by show _ < 16; omega)]
    show _ + c (4 * b + 2) * 16 = _
    omega
  | 3, _ =>
    rw [cc_pos (c := c) (n := 4 * b + 3) (i := 4 * b) (by omega), cc_pos (c := c) (n := 4 * b + 3) (i := 4 * b + 1) (by omega), cc_pos (c := c) (n := 4 * b + 3) (i := 4 * b + 2) (by omega), cc_neg (c := c) (n := 4 * b + 3) (i := 4 * b + 3) (by omega),
      cc_pos (c := c) (n := 4 * b + 3 + 1) (i := 4 * b) (by omega), cc_pos (c := c) (n := 4 * b + 3 + 1) (i := 4 * b + 1) (by omega), cc_pos (c := c) (n := 4 * b + 3 + 1) (i := 4 * b + 2) (by omega), cc_pos (c := c) (n := 4 * b + 3 + 1) (i := 4 * b + 3) (by omega)]
    rw [or_add hc (show _ < 2 ^ (2 * 3) by show _ < 64; omega)]
    show _ + c (4 * b + 3) * 64 = _
    omega
end
theorem part_other {c : Nat → Nat} {n b : Nat} (h : b ≠ n / 4) : part c (n + 1) b = part c n b := by
  have key : ∀ j, j < 4 → cc c (n + 1) (4 * b + j) = cc c n (4 * b + j) := fun j hj => by
    unfold cc
    by_cases d : 4 * b + j < n
    · rw [if_pos d, if_pos (by omega)]
    · rw [if_neg d, if_neg (by omega)]
  unfold part
  rw [key 1 (by omega), key 2 (by omega), key 3 (by omega), show cc c (n + 1) (4 * b) = cc c n (4 * b) from key 0 (by omega)]
theorem part_zero (c : Nat → Nat) (b : Nat) : part c 0 b = 0 := by
  unfold part cc
  simp
/-- the bytes behind n numbers -/
def tabN (c : Nat → Nat) (m n : Nat) : List Nat := (List.range m).map (part c n)
theorem tabN_zero (c : Nat → Nat) (m : Nat) : tabN c m 0 = List.replicate m 0 := by
  unfold tabN
  apply List.ext_getElem?
  intro i
  rw [List.getElem?_map, List.getElem?_replicate]
  by_cases h : i < m
  · rw [List.getElem?_range h, if_pos h]
    show some (part c 0 i) = _
    rw [part_zero]
  · rw [List.getElem?_eq_none_iff.mpr (by rw [List.length_range]; omega), if_neg h]
    rfl
theorem tabN_at {c : Nat → Nat} {m n b : Nat} (h : b < m) : (tabN c m n)[b]? = some (part c n b) := by
  unfold tabN
  rw [List.getElem?_map, List.getElem?_range h]
  rfl
theorem tabN_step {c : Nat → Nat} (hc : ∀ i, c i ≤ 3) {m n : Nat} : (tabN c m n).set (n / 4) (part c n (n / 4) ||| (c n * 2 ^ (2 * (n % 4)))) = tabN c m (n + 1) := by
  rw [part_step hc]
  apply List.ext_getElem?
  intro i
  rw [List.getElem?_set]
  have hl : (tabN c m n).length = m := by unfold tabN; rw [List.length_map, List.length_range]
  by_cases h : i < m
  · by_cases d : n / 4 = i
    · rw [if_pos d, if_pos (by omega), tabN_at h, d]
    · rw [if_neg d, tabN_at h, tabN_at h, part_other (fun z => d z.symm)]
  · have n1 : (tabN c m n)[i]? = none := List.getElem?_eq_none_iff.mpr (by rw [hl]; omega)
    have n2 : (tabN c m (n + 1))[i]? = none := List.getElem?_eq_none_iff.mpr (by unfold tabN; rw [List.length_map, List.length_range]; omega)
    rw [n2, n1]
    split
    · rw [if_neg (by omega)]
    · rfl
theorem code_le {w : Work} (G : Good w) (hs : w.solved = true) (i : Nat) : LmCalls.Work.code w i ≤ 3 := by
  unfold LmCalls.Work.code
  split
  · exact Nat.zero_le _
  · split
    · exact Nat.le_refl _
    · rw [value_solved hs]
      show (valAt w (posAt w.game i)).1 ≤ 3
      rcases valAt_cases G (posAt w.game i) with z | ⟨z, _⟩
      · rw [z]; exact Nat.zero_le _
      · rcases z with z | z <;> rw [z] <;> decide
theorem code_right {w : Work} (hs : w.solved = true) {i : Nat} (h : isRight w.game i) : LmCalls.Work.code w i = ((w.tab.at_ i).getD (DRAW, 0)).1 := by
  unfold LmCalls.Work.code
  rw [if_neg (by have := h.1; omega), if_neg (by rw [h.2]; exact fun z => by cases z), value_solved hs]
  show (valAt w (posAt w.game i)).1 = _
  rw [valAt_num h.1]
theorem code_not {w : Work} {i : Nat} (hi : i < w.game.count) (h : ¬ isRight w.game i) : LmCalls.Work.code w i = 3 := by
  unfold LmCalls.Work.code
  rw [if_neg (by omega), if_pos]
  exact Bool.eq_false_iff.mpr fun z => h ⟨hi, z⟩
theorem code_past {w : Work} {i : Nat} (h : w.game.count ≤ i) : LmCalls.Work.code w i = 0 := if_pos h
theorem table_eq (w : Work) : LmCalls.Work.table w = tabN (LmCalls.Work.code w) ((w.game.count + 3) / 4) w.game.count := by
  unfold LmCalls.Work.table tabN
  refine List.map_congr_left fun b _ => ?_
  have key : ∀ i, cc (LmCalls.Work.code w) w.game.count i = LmCalls.Work.code w i := fun i => by
    unfold cc
    by_cases h : i < w.game.count
    · rw [if_pos h]
    · rw [if_neg h, code_past (by omega)]
  unfold part
  rw [key, key, key, key]
theorem cc_code (w : Work) (i : Nat) : cc (LmCalls.Work.code w) w.game.count i = LmCalls.Work.code w i := by
  unfold cc
  by_cases h : i < w.game.count
  · rw [if_pos h]
  · rw [if_neg h, code_past (by omega)]
/-- the codes behind the first k right numbers -/
def codesK (w : Work) (k : Nat) : List Nat := (List.range w.game.count).map fun i => if i < reachN w.game k then LmCalls.Work.code w i else 3
theorem codesK_zero (w : Work) : codesK w 0 = List.replicate w.game.count 3 := by
  unfold codesK
  apply List.ext_getElem?
  intro i
  rw [List.getElem?_map, List.getElem?_replicate]
  by_cases h : i < w.game.count
  · rw [List.getElem?_range h, if_pos h]
    show some (if i < reachN w.game 0 then LmCalls.Work.code w i else 3) = some 3
    by_cases d : i < reachN w.game 0
    · rw [if_pos d, code_not h (reachN_zero d)]
    · rw [if_neg d]
  · rw [List.getElem?_eq_none_iff.mpr (by rw [List.length_range]; omega), if_neg h]
    rfl
theorem codesK_len (w : Work) (k : Nat) : (codesK w k).length = w.game.count := by
  unfold codesK
  rw [List.length_map, List.length_range]
theorem codesK_at {w : Work} {k i : Nat} (h : i < w.game.count) : (codesK w k)[i]? = some (if i < reachN w.game k then LmCalls.Work.code w i else 3) := by
  unfold codesK
  rw [List.getElem?_map, List.getElem?_range h]
  rfl
theorem codesK_step {w : Work} {k n : Nat} (h : (numbers w.game)[k]? = some n) : (codesK w k).set n (LmCalls.Work.code w n) = codesK w (k + 1) := by
  have hr := mem_numbers.mp (List.mem_of_getElem? h)
  have e := reachN_at h
  have hg := reachN_gt h
  apply List.ext_getElem?
  intro i
  rw [List.getElem?_set, codesK_len]
  by_cases hi : i < w.game.count
  · rw [codesK_at hi, codesK_at hi, e]
    by_cases d : n = i
    · rw [if_pos d, if_pos (by omega), ← d, if_pos (by omega)]
    · rw [if_neg d]
      by_cases f : i < n
      · rw [if_pos f, if_pos (by omega)]
      · rw [if_neg f]
        by_cases f2 : i < reachN w.game (k + 1)
        · rw [if_pos f2, code_not hi (reachN_next h (by omega) f2)]
        · rw [if_neg f2]
  · have hn := hr.1
    rw [if_neg (by omega), List.getElem?_eq_none_iff.mpr (by rw [codesK_len]; omega), List.getElem?_eq_none_iff.mpr (by rw [codesK_len]; omega)]
theorem codesK_end (w : Work) : codesK w (numbers w.game).length = (List.range w.game.count).map (LmCalls.Work.code w) := by
  unfold codesK
  rw [reachN_end]
  refine List.map_congr_left fun i hi => ?_
  rw [if_pos (List.mem_range.mp hi)]
/-! ### tables judged -/
def bitsOf (s : List Nat) (i : Nat) : Nat := s.getD (i / 4) 0 / 4 ^ (i % 4) % 4
theorem table_bits {w : Work} (G : Good w) (hs : w.solved = true) {i : Nat} (h : i < 4 * ((w.game.count + 3) / 4)) : bitsOf (LmCalls.Work.table w) i = LmCalls.Work.code w i := by
  unfold bitsOf
  rw [table_eq, List.getD_eq_getElem?_getD, tabN_at (by omega)]
  show part _ _ (i / 4) / 4 ^ (i % 4) % 4 = _
  rw [part_code (code_le G hs), cc_code]
theorem judge_same {w : Work} (G : Good w) (hs : w.solved = true) {s : List Nat} (hl : s.length = (w.game.count + 3) / 4) (hb : ∀ x ∈ s, x < 256) (h : ∀ i, i < 4 * s.length → bitsOf s i = LmCalls.Work.code w i) : s = LmCalls.Work.table w := by
  rw [table_eq]
  apply List.ext_getElem?
  intro b
  by_cases c : b < s.length
  · rw [tabN_at (by omega), List.getElem?_eq_getElem c]
    have hx := hb _ (List.getElem_mem c)
    have key : ∀ j, j < 4 → s[b] / 4 ^ j % 4 = LmCalls.Work.code w (4 * b + j) := fun j hj => by
      have := h (4 * b + j) (by omega)
      unfold bitsOf at this
      rw [show (4 * b + j) / 4 = b by omega, show (4 * b + j) % 4 = j by omega, List.getD_eq_getElem?_getD, List.getElem?_eq_getElem c] at this
      exact this
    have k0 : s[b] / 1 % 4 = LmCalls.Work.code w (4 * b) := key 0 (by omega)
    have k1 : s[b] / 4 % 4 = LmCalls.Work.code w (4 * b + 1) := key 1 (by omega)
    have k2 : s[b] / 16 % 4 = LmCalls.Work.code w (4 * b + 2) := key 2 (by omega)
    have k3 : s[b] / 64 % 4 = LmCalls.Work.code w (4 * b + 3) := key 3 (by omega)
    unfold part
    rw [cc_code, cc_code, cc_code, cc_code, ← k0, ← k1, ← k2, ← k3]
    congr 1
    omega
  · rw [List.getElem?_eq_none_iff.mpr (by omega), List.getElem?_eq_none_iff.mpr (by unfold tabN; rw [List.length_map, List.length_range]; omega)]
theorem judge_first {w : Work} (G : Good w) (hs : w.solved = true) {s : List Nat} {n : Nat} (hl : s.length = (w.game.count + 3) / 4) (hn : n < 4 * s.length) (hd : bitsOf s n ≠ LmCalls.Work.code w n) (h : ∀ i, i < n → bitsOf s i = LmCalls.Work.code w i) : s ≠ LmCalls.Work.table w ∧ LmCalls.Work.firstWrong w s = min n w.game.count := by
  refine ⟨fun z => hd ?_, ?_⟩
  · rw [z]
    exact table_bits G hs (by omega)
  · unfold LmCalls.Work.firstWrong
    by_cases c : n < w.game.count
    · have : (List.range w.game.count).find? (fun (i : Nat) => s.getD (i / 4) 0 / 4 ^ (i % 4) % 4 != LmCalls.Work.code w i) = some n := by
        rw [List.find?_range_eq_some]
        refine ⟨bne_iff_ne.mpr hd, List.mem_range.mpr c, fun j hj => ?_⟩
        have := h j hj
        unfold bitsOf at this
        rw [this]
        simp
      rw [this, Nat.min_eq_left (by omega)]
      rfl
    · have : (List.range w.game.count).find? (fun (i : Nat) => s.getD (i / 4) 0 / 4 ^ (i % 4) % 4 != LmCalls.Work.code w i) = none := by
        rw [List.find?_eq_none]
        intro i hi
        have := h i (by have := List.mem_range.mp hi; omega)
        unfold bitsOf at this
        rw [this]
        simp
      rw [this, Nat.min_eq_right (by omega)]
      rfl
/-! ### matches -/
def resEnd (side : Nat) (p : Pos) (v : Nat) : Nat := if v = 0 ∨ p.side = side then v else if v = 1 then 2 else 1
theorem endFor_is {side : Nat} {p : Pos} {v : Nat} (hv : v ≤ 2) : LmCalls.endFor side p v = resEnd side p v := by
  unfold LmCalls.endFor resEnd
  match v, hv with
  | 0, _ => simp [DRAW]
  | 1, _ =>
    by_cases c : p.side = side
    · simp [c, DRAW, WIN]
    · simp [c, DRAW, WIN]
  | 2, _ =>
    by_cases c : p.side = side
    · simp [c, DRAW, WIN]
    · simp [c, DRAW, WIN]
theorem play_end {w : Work} {side n : Nat} {p : Pos} {r : List Nat} {k v : Nat} (h : ended w.game p = some v) : LmCalls.Work.play w side n p r k = (LmCalls.endFor side p v, k, p) := by
  cases n with
  | zero => unfold LmCalls.Work.play; rw [h]
  | succ n => unfold LmCalls.Work.play; rw [h]
theorem play_zero {w : Work} {side : Nat} {p : Pos} {r : List Nat} {k : Nat} (h : ended w.game p = none) : LmCalls.Work.play w side 0 p r k = (0, k, p) := by
  unfold LmCalls.Work.play
  rw [h]
theorem play_best {w : Work} {side n : Nat} {p : Pos} {r : List Nat} {k m : Nat} (h : ended w.game p = none) (hp : p.side = side) (hb : w.best p = some m) : LmCalls.Work.play w side (n + 1) p r k = LmCalls.Work.play w side n (after w.game p m) r (k + 1) := by
  conv => lhs; unfold LmCalls.Work.play
  rw [h]
  dsimp only
  rw [if_pos hp, hb]
theorem play_nil {w : Work} {side n : Nat} {p : Pos} {k : Nat} (h : ended w.game p = none) (hp : ¬ p.side = side) : LmCalls.Work.play w side (n + 1) p [] k = (3, k, p) := by
  unfold LmCalls.Work.play
  rw [h]
  dsimp only
  rw [if_neg hp]
theorem play_reply {w : Work} {side n : Nat} {p : Pos} {r : List Nat} {k m : Nat} (h : ended w.game p = none) (hp : ¬ p.side = side) (hm : (moves w.game p).contains m = true) : LmCalls.Work.play w side (n + 1) p (m :: r) k = LmCalls.Work.play w side n (after w.game p m) r (k + 1) := by
  conv => lhs; unfold LmCalls.Work.play
  rw [h]
  dsimp only
  rw [if_neg hp, if_pos hm]
theorem play_bad {w : Work} {side n : Nat} {p : Pos} {r : List Nat} {k m : Nat} (h : ended w.game p = none) (hp : ¬ p.side = side) (hm : (moves w.game p).contains m = false) : LmCalls.Work.play w side (n + 1) p (m :: r) k = (3, k, p) := by
  unfold LmCalls.Work.play
  rw [h]
  dsimp only
  rw [if_neg hp, if_neg (by rw [hm]; exact Bool.false_ne_true)]
end Es
end

section
set_option maxRecDepth 100000
set_option linter.all false
namespace Es
open Lm
/-! ### calls as numbers -/
/-- rows from o on, each with its length ahead, up to o' -/
inductive RowsFrom (l : List Nat) : Nat → List (List Nat) → Nat → Prop
  | nil (o : Nat) : RowsFrom l o [] o
  | cons {o m o' : Nat} {rs : List (List Nat)} : l[o]? = some m → o + 1 + m ≤ l.length → RowsFrom l (o + 1 + m) rs o' → RowsFrom l o ((l.drop (o + 1)).take m :: rs) o'
/-- one call at o -/
structure Took (F : List (Int × List Int)) (l : List Nat) (o p : Nat) (xs : List Nat) (rws : List (List Nat)) (o' : Nat) : Prop where
  at_ : l[o]? = some p
  form : ((p : Int), [(xs.length : Int), (rws.length : Int)]) ∈ F
  nums : xs = (l.drop (o + 1)).take xs.length
  few : o + 1 + xs.length ≤ l.length
  rows : RowsFrom l (o + 1 + xs.length) rws o'
/-- which call it is, by its number -/
inductive CallIs : Nat → List Nat → List (List Nat) → LmCalls.Call → Prop
  | game {r : List Nat} : (∀ b ∈ r, b < 256) → CallIs 1 [] [r] (.game r)
  | solve {n : Nat} : CallIs 2 [n] [] (.solve n)
  | index {r : List Nat} : r.length ≤ 1000 → CallIs 3 [] [r] (.index r)
  | pos {n : Nat} : CallIs 4 [n] [] (.pos n)
  | value {r : List Nat} : r.length ≤ 1000 → CallIs 5 [] [r] (.value r)
  | moves {r : List Nat} : r.length ≤ 1000 → CallIs 6 [] [r] (.moves r)
  | play {m : Nat} {r : List Nat} : r.length ≤ 1000 → CallIs 7 [m] [r] (.play m r)
  | best {r : List Nat} : r.length ≤ 1000 → CallIs 8 [] [r] (.best r)
  | line {r : List Nat} : r.length ≤ 1000 → CallIs 9 [] [r] (.line r)
  | many {w c : Nat} : CallIs 10 [w, c] [] (.many w c)
  | next {f w c : Nat} : CallIs 11 [f, w, c] [] (.next f w c)
  | longest {w : Nat} : CallIs 12 [w] [] (.longest w)
  | turns : CallIs 13 [] [] .turns
  | least {r : List Nat} : r.length ≤ 1000 → CallIs 14 [] [r] (.least r)
  | table : CallIs 15 [] [] .table
  | judge {r : List Nat} : (∀ b ∈ r, b < 256) → r.length ≤ 2000 → CallIs 16 [] [r] (.judge r)
  | match_ {s m : Nat} {r q : List Nat} : m ≤ 40 → r.length ≤ 1000 → q.length ≤ 2000 → CallIs 17 [s, m] [r, q] (.match_ s m r q)
/-- an answer with how many numbers it has ahead -/
def toldN (a : List Int) : List Int := (a.length : Int) :: a
/-- n calls from o on, and what is answered to them -/
inductive Plays (F : List (Int × List Int)) (l : List Nat) : Nat → Nat → LmCalls.State → List Int → Prop
  | done {st : LmCalls.State} : Plays F l 0 l.length st []
  | call {n o p o' : Nat} {st : LmCalls.State} {xs : List Nat} {rws : List (List Nat)} {cl : LmCalls.Call} {rest : List Int} : Took F l o p xs rws o' → CallIs p xs rws cl → rws.length ≤ 1000 → (∀ wk, st = some wk → wk.rounds ≤ 1000) → Plays F l n o' (LmCalls.step st cl).1 rest → Plays F l (n + 1) o st (toldN (MovesNeutral.told (LmCalls.step st cl).2) ++ rest)
theorem ints_take (r : List Nat) (n : Nat) : (MovesNeutral.ints r).take n = MovesNeutral.ints (r.take n) := by unfold MovesNeutral.ints; rw [List.map_take]
theorem ints_drop (r : List Nat) (n : Nat) : (MovesNeutral.ints r).drop n = MovesNeutral.ints (r.drop n) := by unfold MovesNeutral.ints; rw [List.map_drop]
theorem ints_length (r : List Nat) : (MovesNeutral.ints r).length = r.length := List.length_map ..
theorem drop_cons {l : List Nat} {o m : Nat} {r : List Nat} (h : l.drop o = m :: r) : l[o]? = some m ∧ r = l.drop (o + 1) ∧ o < l.length := by
  have h1 : o < l.length := by
    apply Classical.byContradiction
    intro c
    rw [List.drop_eq_nil_of_le (by omega)] at h
    cases h
  rw [List.drop_eq_getElem_cons h1] at h
  injection h with a b
  exact ⟨by rw [List.getElem?_eq_getElem h1, a], b.symm, h1⟩
theorem rows_of {l : List Nat} : ∀ (k o : Nat) {xs : List (List Int)} {t : List Int}, o ≤ l.length → PyFlat.rows k (MovesNeutral.ints (l.drop o)) = some (xs, t) → ∃ rws o', xs = rws.map MovesNeutral.ints ∧ rws.length = k ∧ t = MovesNeutral.ints (l.drop o') ∧ RowsFrom l o rws o' ∧ o' ≤ l.length
  | 0, o, xs, t, ho, h => by
    have h : some (([] : List (List Int)), MovesNeutral.ints (l.drop o)) = some (xs, t) := h
    injection h with h
    injection h with h1 h2
    exact ⟨[], o, by rw [← h1]; rfl, rfl, h2.symm, .nil o, ho⟩
  | k + 1, o, xs, t, ho, h => by
    cases hd : l.drop o with
    | nil =>
      rw [hd] at h
      cases h
    | cons m r =>
      obtain ⟨h1, h2, h3⟩ := drop_cons hd
      rw [hd] at h
      have h : (match (if 0 ≤ (m : Int) ∧ (m : Int).toNat ≤ (MovesNeutral.ints r).length then some ((MovesNeutral.ints r).take (m : Int).toNat, (MovesNeutral.ints r).drop (m : Int).toNat) else none) with
        | none => none
        | some (x, s) => match PyFlat.rows k s with
          | none => none
          | some (xs, t) => some (x :: xs, t)) = some (xs, t) := h
      rw [Int.toNat_natCast, ints_length, ints_take, ints_drop] at h
      by_cases c : m ≤ r.length
      · rw [if_pos ⟨by omega, c⟩] at h
        have hr : r.length = l.length - (o + 1) := by rw [h2, List.length_drop]
        have h : (match PyFlat.rows k (MovesNeutral.ints (r.drop m)) with
          | none => none
          | some (xs, t) => some (MovesNeutral.ints (r.take m) :: xs, t)) = some (xs, t) := h
        rw [h2, List.drop_drop] at h
        cases hk : PyFlat.rows k (MovesNeutral.ints (l.drop (o + 1 + m))) with
        | none => rw [hk] at h; cases h
        | some q =>
          obtain ⟨ys, t'⟩ := q
          rw [hk] at h
          have h : some (MovesNeutral.ints ((l.drop (o + 1)).take m) :: ys, t') = some (xs, t) := h
          injection h with h
          injection h with a b
          obtain ⟨rws, o', e1, e2, e3, e4, e5⟩ := rows_of k (o + 1 + m) (by omega) hk
          exact ⟨(l.drop (o + 1)).take m :: rws, o', by rw [← a, e1]; rfl, by rw [List.length_cons, e2], by rw [← b, e3], .cons h1 (by omega) e4, e5⟩
      · rw [if_neg fun z => c z.2] at h
        cases h
theorem call_of {l : List Nat} {o : Nat} {c : List (List Int)} {t : List Int} (h : PyFlat.call PyYqlmva.shape (MovesNeutral.ints (l.drop o)) = some (c, t)) : ∃ (p : Nat) (xs : List Nat) (rws : List (List Nat)) (o' : Nat), c = ((p : Int) :: MovesNeutral.ints xs) :: rws.map MovesNeutral.ints ∧ t = MovesNeutral.ints (l.drop o') ∧ PyYqlmva.shape p = some (xs.length, rws.length) ∧
    l[o]? = some p ∧ xs = (l.drop (o + 1)).take xs.length ∧ o + 1 + xs.length ≤ l.length ∧ RowsFrom l (o + 1 + xs.length) rws o' ∧ o' ≤ l.length := by
  cases hd : l.drop o with
  | nil => rw [hd] at h; cases h
  | cons p r =>
    obtain ⟨h1, h2, h3⟩ := drop_cons hd
    rw [hd] at h
    have h : (match PyYqlmva.shape (p : Int) with
      | none => none
      | some (n, k) => if (MovesNeutral.ints r).length < n then none else match PyFlat.rows k ((MovesNeutral.ints r).drop n) with
        | none => none
        | some (xs, t) => some (((p : Int) :: (MovesNeutral.ints r).take n) :: xs, t)) = some (c, t) := h
    cases hs : PyYqlmva.shape (p : Int) with
    | none => rw [hs] at h; cases h
    | some q =>
      obtain ⟨n, k⟩ := q
      rw [hs] at h
      have h : (if (MovesNeutral.ints r).length < n then none else match PyFlat.rows k ((MovesNeutral.ints r).drop n) with
        | none => none
        | some (xs, t) => some (((p : Int) :: (MovesNeutral.ints r).take n) :: xs, t)) = some (c, t) := h
      have hr : r.length = l.length - (o + 1) := by rw [h2, List.length_drop]
      rw [ints_length, ints_drop, ints_take] at h
      by_cases c1 : r.length < n
      · rw [if_pos c1] at h; cases h
      · rw [if_neg c1, h2, List.drop_drop] at h
        cases hk : PyFlat.rows k (MovesNeutral.ints (l.drop (o + 1 + n))) with
        | none => rw [hk] at h; cases h
        | some q =>
          obtain ⟨ys, t'⟩ := q
          rw [hk] at h
          have h : some (((p : Int) :: MovesNeutral.ints ((l.drop (o + 1)).take n)) :: ys, t') = some (c, t) := h
          injection h with h
          injection h with a b
          obtain ⟨rws, o', e1, e2, e3, e4, e5⟩ := rows_of k (o + 1 + n) (by omega) hk
          have hlen : ((l.drop (o + 1)).take n).length = n := by rw [List.length_take, List.length_drop]; omega
          refine ⟨p, (l.drop (o + 1)).take n, rws, o', by rw [← a, e1], by rw [← b, e3], by rw [hlen, e2]; exact hs, h1, by rw [hlen], by rw [hlen]; omega, by rw [hlen]; exact e4, e5⟩
theorem whole_id (c : List (List Int)) : PyYqlmva.whole c = c := by
  unfold PyYqlmva.whole
  split <;> rfl
/-! ### rounds -/
def rds : LmCalls.State → Nat
  | none => 0
  | some wk => wk.rounds
def rnd (c : List (List Int)) : Nat := match c with
  | [[2, n]] => n.toNat
  | _ => 0
theorem go_rounds : ∀ (n : Nat) (w : Work), (w.go n).rounds ≤ w.rounds + n
  | 0, w => Nat.le_refl _
  | n + 1, w => by
    rw [go_succ]
    by_cases c : w.solved = true
    · rw [if_pos c]; omega
    · rw [if_neg c]
      have := go_rounds n (oneRound w)
      have e : (oneRound w).rounds = w.rounds + 1 := rfl
      omega
theorem foldl_add (l : List Nat) : ∀ a : Nat, l.foldl (fun (a b : Nat) => a + b) a = a + l.foldl (fun (a b : Nat) => a + b) 0 := by
  induction l with
  | nil => intro a; rfl
  | cons x r ih => intro a; rw [List.foldl_cons, List.foldl_cons, ih (a + x), ih (0 + x)]; omega
theorem roundsIn_cons (c : List (List Int)) (r : List (List (List Int))) : MovesNeutral.roundsIn (c :: r) = rnd c + MovesNeutral.roundsIn r := by
  show ((rnd c) :: (r.map rnd)).foldl (fun (a b : Nat) => a + b) 0 = rnd c + (r.map rnd).foldl (fun (a b : Nat) => a + b) 0
  rw [List.foldl_cons, foldl_add]
  omega
/-! ### which call it is -/
theorem nat_int (n : Nat) : MovesNeutral.nat (n : Int) = some n := by
  unfold MovesNeutral.nat
  rw [if_neg (by omega), Int.toNat_natCast]
theorem mapM_nat : ∀ r : List Nat, (MovesNeutral.ints r).mapM MovesNeutral.nat = some r
  | [] => rfl
  | n :: r => by
    show ((n : Int) :: MovesNeutral.ints r).mapM MovesNeutral.nat = _
    rw [List.mapM_cons, nat_int, mapM_nat r]
    rfl
theorem small_ints {r : List Nat} (h : (MovesNeutral.small (MovesNeutral.ints r)).isSome = true) : MovesNeutral.small (MovesNeutral.ints r) = some r ∧ ∀ b ∈ r, b < 256 := by
  unfold MovesNeutral.small at h ⊢
  by_cases c : ((MovesNeutral.ints r).all fun (z : Int) => decide (0 ≤ z) && decide (z < 256)) = true
  · rw [if_pos c]
    refine ⟨?_, fun b hb => ?_⟩
    · congr 1
      unfold MovesNeutral.ints
      rw [List.map_map]
      have : (Int.toNat ∘ fun (n : Nat) => (n : Int)) = id := by funext n; exact Int.toNat_natCast n
      rw [this, List.map_id]
    · have := List.all_eq_true.mp c (b : Int) (List.mem_map.mpr ⟨b, hb, rfl⟩)
      rw [Bool.and_eq_true, decide_eq_true_eq, decide_eq_true_eq] at this
      omega
  · rw [if_neg c] at h
    cases h
theorem lists1 {lo hi : Int} {a b : Nat} {r : List Int} (h : PyInside.lists [(lo, hi, a, b)] [r] = true) : r.length ≤ b := by
  have h : (decide (a ≤ r.length) && decide (r.length ≤ b) && r.all (PyInside.within lo hi) && PyInside.lists [] []) = true := h
  rw [Bool.and_eq_true, Bool.and_eq_true, Bool.and_eq_true, decide_eq_true_eq, decide_eq_true_eq] at h
  exact h.1.1.2
theorem lists2 {x y : Int × Int × Nat × Nat} {r q : List Int} (h : PyInside.lists [x, y] [r, q] = true) : r.length ≤ x.2.2.2 ∧ q.length ≤ y.2.2.2 := by
  have h : (decide (x.2.2.1 ≤ r.length) && decide (r.length ≤ x.2.2.2) && r.all (PyInside.within x.1 x.2.1) && PyInside.lists [y] [q]) = true := h
  rw [Bool.and_eq_true, Bool.and_eq_true, Bool.and_eq_true, decide_eq_true_eq, decide_eq_true_eq] at h
  exact ⟨h.1.1.2, lists1 (lo := y.1) (hi := y.2.1) (a := y.2.2.1) (b := y.2.2.2) h.2⟩
theorem ins_row {e : List (Int × Int)} {ys : List Int} {lo hi : Int} {a b : Nat} {r : List Int} (h : (PyInside.each e ys && PyInside.lists [(lo, hi, a, b)] [r]) = true) : r.length ≤ b := lists1 (Bool.and_eq_true_iff.mp h).2
structure GoodCall (c : List (List Int)) : Prop where
  ask : MovesNeutral.asked1 c = true
  ins : PyInside.call PyYqlmva.bound c = true
theorem len0 {α : Type} {l : List α} (h : l.length = 0) : l = [] := List.length_eq_zero_iff.mp h
theorem len1 {α : Type} {l : List α} (h : l.length = 1) : ∃ a, l = [a] := List.length_eq_one_iff.mp h
theorem len2 {α : Type} {l : List α} (h : l.length = 2) : ∃ a b, l = [a, b] := by
  match l, h with
  | [a, b], _ => exact ⟨a, b, rfl⟩
theorem len3 {α : Type} {l : List α} (h : l.length = 3) : ∃ a b c, l = [a, b, c] := by
  match l, h with
  | [a, b, c], _ => exact ⟨a, b, c, rfl⟩
def solves : LmCalls.Call → Nat
  | .solve n => n
  | _ => 0
theorem call_is {p : Nat} {xs : List Nat} {rws : List (List Nat)} (hs : PyYqlmva.shape p = some (xs.length, rws.length)) (g : GoodCall (((p : Int) :: MovesNeutral.ints xs) :: rws.map MovesNeutral.ints)) : ∃ cl, MovesNeutral.callOf (((p : Int) :: MovesNeutral.ints xs) :: rws.map MovesNeutral.ints) = some cl ∧ CallIs p xs rws cl ∧ rnd (((p : Int) :: MovesNeutral.ints xs) :: rws.map MovesNeutral.ints) = solves cl := by
  obtain ⟨g1, g2⟩ := g
  have hp : p < 18 := by
    apply Classical.byContradiction
    intro c
    have : PyYqlmva.shape p = none := by
      unfold PyYqlmva.shape
      repeat rw [if_neg (by omega)]
    rw [this] at hs
    cases hs
  match p, hp with
  | 0, _ => cases hs
  | 1, _ =>
    have e : some (0, 1) = some (xs.length, rws.length) := hs
    injection e with e
    injection e with e1 e2
    obtain rfl := len0 e1.symm
    obtain ⟨r, rfl⟩ := len1 e2.symm
    obtain ⟨z1, z2⟩ := small_ints (r := r) g1
    refine ⟨.game r, ?_, .game z2, rfl⟩
    show (do some (LmCalls.Call.game (← MovesNeutral.small (MovesNeutral.ints r)))) = _
    rw [z1]
    rfl
  | 2, _ =>
    have e : some (1, 0) = some (xs.length, rws.length) := hs
    injection e with e
    injection e with e1 e2
    obtain ⟨n, rfl⟩ := len1 e1.symm
    obtain rfl := len0 e2.symm
    refine ⟨.solve n, ?_, .solve, Int.toNat_natCast n⟩
    show (do some (LmCalls.Call.solve (← MovesNeutral.nat (n : Int)))) = _
    rw [nat_int]
    rfl
  | 3, _ =>
    have e : some (0, 1) = some (xs.length, rws.length) := hs
    injection e with e
    injection e with e1 e2
    obtain rfl := len0 e1.symm
    obtain ⟨r, rfl⟩ := len1 e2.symm
    have hl : (MovesNeutral.ints r).length ≤ 100 := ins_row (e := []) (ys := []) (lo := 0) (hi := 4294967295) (a := 0) g2
    rw [ints_length] at hl
    refine ⟨.index r, ?_, .index (by omega), rfl⟩
    show (do some (LmCalls.Call.index (← (MovesNeutral.ints r).mapM MovesNeutral.nat))) = _
    rw [mapM_nat]
    rfl
  | 4, _ =>
    have e : some (1, 0) = some (xs.length, rws.length) := hs
    injection e with e
    injection e with e1 e2
    obtain ⟨n, rfl⟩ := len1 e1.symm
    obtain rfl := len0 e2.symm
    refine ⟨.pos n, ?_, .pos, rfl⟩
    show (do some (LmCalls.Call.pos (← MovesNeutral.nat (n : Int)))) = _
    rw [nat_int]
    rfl
  | 5, _ =>
    have e : some (0, 1) = some (xs.length, rws.length) := hs
    injection e with e
    injection e with e1 e2
    obtain rfl := len0 e1.symm
    obtain ⟨r, rfl⟩ := len1 e2.symm
    have hl : (MovesNeutral.ints r).length ≤ 100 := ins_row (e := []) (ys := []) (lo := 0) (hi := 4294967295) (a := 0) g2
    rw [ints_length] at hl
    refine ⟨.value r, ?_, .value (by omega), rfl⟩
    show (do some (LmCalls.Call.value (← (MovesNeutral.ints r).mapM MovesNeutral.nat))) = _
    rw [mapM_nat]
    rfl
  | 6, _ =>
    have e : some (0, 1) = some (xs.length, rws.length) := hs
    injection e with e
    injection e with e1 e2
    obtain rfl := len0 e1.symm
    obtain ⟨r, rfl⟩ := len1 e2.symm
    have hl : (MovesNeutral.ints r).length ≤ 100 := ins_row (e := []) (ys := []) (lo := 0) (hi := 4294967295) (a := 0) g2
    rw [ints_length] at hl
    refine ⟨.moves r, ?_, .moves (by omega), rfl⟩
    show (do some (LmCalls.Call.moves (← (MovesNeutral.ints r).mapM MovesNeutral.nat))) = _
    rw [mapM_nat]
    rfl
  | 7, _ =>
    have e : some (1, 1) = some (xs.length, rws.length) := hs
    injection e with e
    injection e with e1 e2
    obtain ⟨m, rfl⟩ := len1 e1.symm
    obtain ⟨r, rfl⟩ := len1 e2.symm
    have hl : (MovesNeutral.ints r).length ≤ 100 := ins_row (e := [(0, 4294967295)]) (ys := [(m : Int)]) (lo := 0) (hi := 4294967295) (a := 0) g2
    rw [ints_length] at hl
    refine ⟨.play m r, ?_, .play (by omega), rfl⟩
    show (do some (LmCalls.Call.play (← MovesNeutral.nat (m : Int)) (← (MovesNeutral.ints r).mapM MovesNeutral.nat))) = _
    rw [mapM_nat, nat_int]
    rfl
  | 8, _ =>
    have e : some (0, 1) = some (xs.length, rws.length) := hs
    injection e with e
    injection e with e1 e2
    obtain rfl := len0 e1.symm
    obtain ⟨r, rfl⟩ := len1 e2.symm
    have hl : (MovesNeutral.ints r).length ≤ 100 := ins_row (e := []) (ys := []) (lo := 0) (hi := 4294967295) (a := 0) g2
    rw [ints_length] at hl
    refine ⟨.best r, ?_, .best (by omega), rfl⟩
    show (do some (LmCalls.Call.best (← (MovesNeutral.ints r).mapM MovesNeutral.nat))) = _
    rw [mapM_nat]
    rfl
  | 9, _ =>
    have e : some (0, 1) = some (xs.length, rws.length) := hs
    injection e with e
    injection e with e1 e2
    obtain rfl := len0 e1.symm
    obtain ⟨r, rfl⟩ := len1 e2.symm
    have hl : (MovesNeutral.ints r).length ≤ 100 := ins_row (e := []) (ys := []) (lo := 0) (hi := 4294967295) (a := 0) g2
    rw [ints_length] at hl
    refine ⟨.line r, ?_, .line (by omega), rfl⟩
    show (do some (LmCalls.Call.line (← (MovesNeutral.ints r).mapM MovesNeutral.nat))) = _
    rw [mapM_nat]
    rfl
  | 10, _ =>
    have e : some (2, 0) = some (xs.length, rws.length) := hs
    injection e with e
    injection e with e1 e2
    obtain ⟨a, b, rfl⟩ := len2 e1.symm
    obtain rfl := len0 e2.symm
    refine ⟨.many a b, ?_, .many, rfl⟩
    show (do some (LmCalls.Call.many (← MovesNeutral.nat (a : Int)) (← MovesNeutral.nat (b : Int)))) = _
    rw [nat_int, nat_int]
    rfl
  | 11, _ =>
    have e : some (3, 0) = some (xs.length, rws.length) := hs
    injection e with e
    injection e with e1 e2
    obtain ⟨a, b, c, rfl⟩ := len3 e1.symm
    obtain rfl := len0 e2.symm
    refine ⟨.next a b c, ?_, .next, rfl⟩
    show (do some (LmCalls.Call.next (← MovesNeutral.nat (a : Int)) (← MovesNeutral.nat (b : Int)) (← MovesNeutral.nat (c : Int)))) = _
    rw [nat_int, nat_int, nat_int]
    rfl
  | 12, _ =>
    have e : some (1, 0) = some (xs.length, rws.length) := hs
    injection e with e
    injection e with e1 e2
    obtain ⟨a, rfl⟩ := len1 e1.symm
    obtain rfl := len0 e2.symm
    refine ⟨.longest a, ?_, .longest, rfl⟩
    show (do some (LmCalls.Call.longest (← MovesNeutral.nat (a : Int)))) = _
    rw [nat_int]
    rfl
  | 13, _ =>
    have e : some (0, 0) = some (xs.length, rws.length) := hs
    injection e with e
    injection e with e1 e2
    obtain rfl := len0 e1.symm
    obtain rfl := len0 e2.symm
    exact ⟨.turns, rfl, .turns, rfl⟩
  | 14, _ =>
    have e : some (0, 1) = some (xs.length, rws.length) := hs
    injection e with e
    injection e with e1 e2
    obtain rfl := len0 e1.symm
    obtain ⟨r, rfl⟩ := len1 e2.symm
    have hl : (MovesNeutral.ints r).length ≤ 100 := ins_row (e := []) (ys := []) (lo := 0) (hi := 4294967295) (a := 0) g2
    rw [ints_length] at hl
    refine ⟨.least r, ?_, .least (by omega), rfl⟩
    show (do some (LmCalls.Call.least (← (MovesNeutral.ints r).mapM MovesNeutral.nat))) = _
    rw [mapM_nat]
    rfl
  | 15, _ =>
    have e : some (0, 0) = some (xs.length, rws.length) := hs
    injection e with e
    injection e with e1 e2
    obtain rfl := len0 e1.symm
    obtain rfl := len0 e2.symm
    exact ⟨.table, rfl, .table, rfl⟩
  | 16, _ =>
    have e : some (0, 1) = some (xs.length, rws.length) := hs
    injection e with e
    injection e with e1 e2
    obtain rfl := len0 e1.symm
    obtain ⟨r, rfl⟩ := len1 e2.symm
    have hl : (MovesNeutral.ints r).length ≤ 2000 := ins_row (e := []) (ys := []) (lo := 0) (hi := 255) (a := 0) g2
    rw [ints_length] at hl
    obtain ⟨z1, z2⟩ := small_ints (r := r) g1
    refine ⟨.judge r, ?_, .judge z2 (by omega), rfl⟩
    show (do some (LmCalls.Call.judge (← MovesNeutral.small (MovesNeutral.ints r)))) = _
    rw [z1]
    rfl
  | 17, _ =>
    have e : some (2, 2) = some (xs.length, rws.length) := hs
    injection e with e
    injection e with e1 e2
    obtain ⟨a, b, rfl⟩ := len2 e1.symm
    obtain ⟨r, q, rfl⟩ := len2 e2.symm
    have hl := lists2 (Bool.and_eq_true_iff.mp g2).2
    rw [ints_length, ints_length] at hl
    have hn : (PyInside.within 0 4294967295 (a : Int) && (PyInside.within 0 40 (b : Int) && true)) = true := (Bool.and_eq_true_iff.mp g2).1
    have hb : b ≤ 40 := by
      have := (Bool.and_eq_true_iff.mp (Bool.and_eq_true_iff.mp hn).2).1
      have := (Bool.and_eq_true_iff.mp this).2
      have := of_decide_eq_true this
      omega
    refine ⟨.match_ a b r q, ?_, .match_ hb (by have : r.length ≤ 100 := hl.1; omega) hl.2, rfl⟩
    show (do some (LmCalls.Call.match_ (← MovesNeutral.nat (a : Int)) (← MovesNeutral.nat (b : Int)) (← (MovesNeutral.ints r).mapM MovesNeutral.nat) (← (MovesNeutral.ints q).mapM MovesNeutral.nat))) = _
    rw [mapM_nat, mapM_nat, nat_int, nat_int]
    rfl
  | n + 18, h => omega
theorem step_rds (st : LmCalls.State) (cl : LmCalls.Call) : rds (LmCalls.step st cl).1 ≤ rds st + solves cl := by
  cases cl with
  | game b =>
    show rds (match Lm.gameIn b with | .error p => (st, LmCalls.Answer.refused [-1, (p : Int)]) | .ok g => if LmCalls.NUMBERS < g.count then (st, LmCalls.no (-2)) else (some (Lm.fresh g), .done)).1 ≤ _
    cases Lm.gameIn b with
    | error p => exact Nat.le_add_right _ _
    | ok g =>
      show rds (if LmCalls.NUMBERS < g.count then (st, LmCalls.no (-2)) else (some (Lm.fresh g), LmCalls.Answer.done)).1 ≤ _
      by_cases c : LmCalls.NUMBERS < g.count
      · rw [if_pos c]; exact Nat.le_add_right _ _
      · rw [if_neg c]; exact Nat.zero_le _
  | solve n =>
    cases st with
    | none => exact Nat.zero_le _
    | some wk => exact go_rounds n wk
  | _ => exact Nat.le_add_right _ _
theorem plays_ind {F : List (Int × List Int)} (hF : ∀ (p : Int) (n k : Nat), PyYqlmva.shape p = some (n, k) → (p, [(n : Int), (k : Int)]) ∈ F) {l : List Nat} : ∀ (f o : Nat) {cs : List (List (List Int))} (st : LmCalls.State), o ≤ l.length → PyFlat.calls PyYqlmva.shape f (MovesNeutral.ints (l.drop o)) = some cs → (∀ c ∈ cs, GoodCall c) → rds st + MovesNeutral.roundsIn cs ≤ 40 →
    Plays F l cs.length o st (PyFlat.told (PyFlat.played MovesNeutral.step st cs)) := by
  intro f
  induction f with
  | zero =>
    intro o cs st ho h hg hr
    cases hd : l.drop o with
    | nil =>
      rw [hd] at h
      have h : some [] = some cs := h
      injection h with h
      subst h
      have : o = l.length := by
        have := congrArg List.length hd
        rw [List.length_drop, List.length_nil] at this
        omega
      subst this
      exact .done
    | cons p r => rw [hd] at h; cases h
  | succ f ih =>
    intro o cs st ho h hg hr
    cases hd : l.drop o with
    | nil =>
      rw [hd] at h
      have h : some [] = some cs := h
      injection h with h
      subst h
      have : o = l.length := by
        have := congrArg List.length hd
        rw [List.length_drop, List.length_nil] at this
        omega
      subst this
      exact .done
    | cons p r =>
      have h : (match PyFlat.call PyYqlmva.shape (MovesNeutral.ints (l.drop o)) with
        | none => none
        | some (c, t) => match PyFlat.calls PyYqlmva.shape f t with
          | none => none
          | some cs => some (c :: cs)) = some cs := by
        rw [hd] at h ⊢
        exact h
      cases hc : PyFlat.call PyYqlmva.shape (MovesNeutral.ints (l.drop o)) with
      | none => rw [hc] at h; cases h
      | some q =>
        obtain ⟨c, t⟩ := q
        rw [hc] at h
        obtain ⟨p, xs, rws, o', rfl, rfl, hs, h1, h2, h3, h4, h5⟩ := call_of hc
        have h : (match PyFlat.calls PyYqlmva.shape f (MovesNeutral.ints (l.drop o')) with
          | none => none
          | some cs => some ((((p : Int) :: MovesNeutral.ints xs) :: rws.map MovesNeutral.ints) :: cs)) = some cs := h
        cases hk : PyFlat.calls PyYqlmva.shape f (MovesNeutral.ints (l.drop o')) with
        | none => rw [hk] at h; cases h
        | some ds =>
          rw [hk] at h
          have h : some ((((p : Int) :: MovesNeutral.ints xs) :: rws.map MovesNeutral.ints) :: ds) = some cs := h
          injection h with h
          subst h
          obtain ⟨cl, e1, e2, e3⟩ := call_is hs (hg _ (List.mem_cons_self ..))
          rw [roundsIn_cons, e3] at hr
          have hst := step_rds st cl
          have hstep : MovesNeutral.step st (((p : Int) :: MovesNeutral.ints xs) :: rws.map MovesNeutral.ints) = ((LmCalls.step st cl).1, MovesNeutral.told (LmCalls.step st cl).2) := by
            unfold MovesNeutral.step
            rw [e1]
          have rest := ih o' (LmCalls.step st cl).1 h5 hk (fun c hc => hg c (List.mem_cons_of_mem _ hc)) (by omega)
          have hrw : rws.length ≤ 1000 := by
            cases e2 <;> simp
          have := Plays.call (F := F) (st := st) ⟨h1, hF _ _ _ hs, h2, h3, h4⟩ e2 hrw (fun wk hw => by rw [hw] at hr; have : wk.rounds + _ ≤ 40 := hr; omega) rest
          show Plays F l (ds.length + 1) o st ((PyFlat.played MovesNeutral.step st ((((p : Int) :: MovesNeutral.ints xs) :: rws.map MovesNeutral.ints) :: ds)).flatMap fun a => (a.length : Int) :: a)
          rw [PyFlat.played, List.flatMap_cons, hstep]
          exact this
/-- what is asked is played, and what is due is what is answered -/
theorem plays_of {F : List (Int × List Int)} (hF : ∀ (p : Int) (n k : Nat), PyYqlmva.shape p = some (n, k) → (p, [(n : Int), (k : Int)]) ∈ F) (ns : List Int) (h0 : ∀ x ∈ ns, 0 ≤ x ∧ x ≤ 4294967295) (ha : PyYqlmva.answers_asked ns = true) : ∃ (l : List Nat) (n : Nat), ns = MovesNeutral.ints l ∧ Plays F l n 0 none (PyYqlmva.answers ns) ∧ (PyYqlmva.answers ns).length ≤ 10000000 := by
  have hl : ns = MovesNeutral.ints (ns.map Int.toNat) := by
    unfold MovesNeutral.ints
    rw [List.map_map]
    conv => lhs; rw [← List.map_id ns]
    refine List.map_congr_left fun x hx => ?_
    have := (h0 x hx).1
    show x = ((x.toNat : Nat) : Int)
    omega
  refine ⟨ns.map Int.toNat, ?_⟩
  unfold PyYqlmva.answers_asked at ha
  cases hc : PyFlat.calls PyYqlmva.shape ns.length ns with
  | none => rw [hc] at ha; cases ha
  | some raw =>
    rw [hc] at ha
    have ha : (!raw.isEmpty && PyFlat.atMost 16 raw && PyInside.calls PyYqlmva.bound raw && MovesNeutral.asked (raw.map PyYqlmva.whole) && PyFlat.short 10000000 (PyYqlmva.answers ns)) = true := ha
    have hm : raw.map PyYqlmva.whole = raw := by
      conv => rhs; rw [← List.map_id raw]
      exact List.map_congr_left fun x _ => whole_id x
    rw [hm, Bool.and_eq_true, Bool.and_eq_true, Bool.and_eq_true] at ha
    obtain ⟨⟨⟨_, hin⟩, hask⟩, hsh⟩ := ha
    have hans : PyYqlmva.answers ns = PyFlat.told (PyFlat.played MovesNeutral.step MovesNeutral.start raw) := by
      unfold PyYqlmva.answers PyYqlmva.calls
      rw [hc]
      show PyFlat.told (PyFlat.played MovesNeutral.step MovesNeutral.start (raw.map PyYqlmva.whole)) = _
      rw [hm]
    have hask : (!raw.isEmpty && (raw.all MovesNeutral.asked1 && (raw.all MovesNeutral.fits && (decide (raw.length ≤ 16) && decide (MovesNeutral.roundsIn raw ≤ 40))))) = true := hask
    simp only [Bool.and_eq_true, decide_eq_true_eq] at hask
    refine ⟨raw.length, hl, ?_, of_decide_eq_true hsh⟩
    rw [hans]
    refine plays_ind hF ns.length 0 none (Nat.zero_le _) ?_ (fun c hc' => ⟨List.all_eq_true.mp hask.2.1 c hc', List.all_eq_true.mp hin c hc'⟩) (by show 0 + _ ≤ 40; omega)
    rw [List.drop_zero, ← hl]
    exact hc
end Es
end

section
set_option Elab.async false
set_option linter.all false
set_option maxRecDepth 100000
set_option maxHeartbeats 4000000
namespace Es
open PySem PySem.Spec PyProof.Rows L2 Evl

/-! ### defs of the top, methods, classes: where they stand -/
structure DefAt (K : Fr) (mg : Str → Option Value) (x : Str) (st : Stmt) : Prop where
  ex : ∃ f fd, mg x = some (.ref f) ∧ FunD K x x (defArgs st) (defBody st) (defScope st) [] [] f fd
structure MethAt (K : Fr) (C : Addr) (m qual : Str) (st : Stmt) : Prop where
  ex : ∃ f fd, Meth K C m f ∧ FunD K m qual (defArgs st) (defBody st) (defScope st) [] [] f fd
structure MkAt (K : Fr) (C : Addr) (qual : Str) (st : Stmt) : Prop where
  ex : ∃ f fd, Mk K C f ∧ FunD K "__init__" qual (defArgs st) (defBody st) (defScope st) [] [] f fd

/-- a def that may be called by its name -/
structure Cal (P : Program) (w : World) (K : Fr) (mg : Str → Option Value) (base : Heap) (CX : CXT) (k : Nat) (x : Str) (sp : Sp) : Prop where
  ex : ∃ f fd ps, mg x = some (.ref f) ∧ PySem.W.keepIn K (.ref f) = true ∧ Binds K fd ps [] ∧ FnOk P w K mg base CX k f fd ps sp
structure Met (P : Program) (w : World) (K : Fr) (mg : Str → Option Value) (base : Heap) (CX : CXT) (k : Nat) (C : Addr) (m : Str) (sp : Sp) : Prop where
  ex : ∃ f fd ps, Meth K C m f ∧ Binds K fd ps [] ∧ FnOk P w K mg base CX k f fd ps sp
structure Mak (P : Program) (w : World) (K : Fr) (mg : Str → Option Value) (base : Heap) (CX : CXT) (k : Nat) (C : Addr) (sp : Sp) : Prop where
  ex : ∃ f fd ps, Mk K C f ∧ Binds K fd ps [] ∧ FnOk P w K mg base CX k f fd ps sp
section
variable {P : Program} {w : World} {K : Fr} {mg : Str → Option Value} {base : Heap} {CX : CXT} {k : Nat} {x m qual : Str} {C : Addr} {st : Stmt} {N ps : List Str} {sp : Sp}
abbrev BindsBy (x : Str) (qual : Str) (st : Stmt) (ps : List Str) : Prop := ∀ (kV doc pm : Value) (an : Option Addr) (cdv ct : Value) (us : List Value), us.length = ps.length → bindArgs (PySem.W.fnOf x qual (defArgs st) (defBody st) (defScope st) .none kV doc pm an cdv ct) ⟨us, []⟩ = pure (ps.zip us)
abbrev BodyBy (CX : CXT) (P : Program) (w : World) (K : Fr) (mg : Str → Option Value) (base : Heap) (N : List Str) (qual : Str) (st : Stmt) (k : Nat) (sp : Sp) : Prop :=
  ∀ (f : Addr) (cdv : Value) (A : Around) (outer : List Env) (s : Shared) (H : Hp) (vs : List V) (Q : VK) (E : XK), Room k (A.deeper (envOfC qual (defScope st) s.heap.objs.size f cdv)) → sp vs H Q E →
      ∃ t, PSs (cxOf CX P w K mg base N qual (defScope st) f cdv A outer s H E) (defBody st) t ∧ t { nx := fun _ H' => Q .non H', rt := Q } (start N vs) H
abbrev Body0 (P : Program) (w : World) (K : Fr) (mg : Str → Option Value) (base : Heap) (N : List Str) (qual : Str) (st : Stmt) (k : Nat) (sp : Sp) : Prop :=
  ∀ (f : Addr) (cdv : Value) (A : Around) (outer : List Env) (s : Shared) (H : Hp) (vs : List V) (Q : VK) (E : XK), Room k (A.deeper (envOfC qual (defScope st) s.heap.objs.size f cdv)) → sp vs H Q E →
      ∃ t, PSs (cxOf CX0 P w K mg base N qual (defScope st) f cdv A outer s H E).nox (defBody st) t ∧ t { nx := fun _ H' => Q .non H', rt := Q } (start N vs) H
theorem Body0.by (h : Body0 P w K mg base N qual st k sp) : BodyBy CX0 P w K mg base N qual st k sp := fun f cdv A outer s H vs Q E hr hs => by
  obtain ⟨t, a, b⟩ := h f cdv A outer s H vs Q E hr hs
  exact ⟨t, a.nox, b⟩
theorem DefAt.cal (F : DefAt K mg x st) (S : FnScope N ps (defScope st)) (hb : BindsBy x x st ps) (len : ∀ vs H Q E, sp vs H Q E → vs.length = ps.length) (h : BodyBy CX P w K mg base N x st k sp) : Cal P w K mg base CX (k + 1) x sp := by
  obtain ⟨f, fd, e, F⟩ := F.ex
  exact ⟨f, fd, ps, e, F.kp, F.bindsN hb, F.ok S len fun cdv A outer s H vs Q E hr hs => h f cdv A outer s H vs Q E hr hs⟩
theorem MethAt.met (F : MethAt K C m qual st) (S : FnScope N ps (defScope st)) (hb : BindsBy m qual st ps) (len : ∀ vs H Q E, sp vs H Q E → vs.length = ps.length) (h : BodyBy CX P w K mg base N qual st k sp) : Met P w K mg base CX (k + 1) C m sp := by
  obtain ⟨f, fd, e, F⟩ := F.ex
  exact ⟨f, fd, ps, e, F.bindsN hb, F.ok S len fun cdv A outer s H vs Q E hr hs => h f cdv A outer s H vs Q E hr hs⟩
theorem MkAt.mak (F : MkAt K C qual st) (S : FnScope N ps (defScope st)) (hb : BindsBy "__init__" qual st ps) (len : ∀ vs H Q E, sp vs H Q E → vs.length = ps.length) (h : BodyBy CX P w K mg base N qual st k sp) : Mak P w K mg base CX (k + 1) C sp := by
  obtain ⟨f, fd, e, F⟩ := F.ex
  exact ⟨f, fd, ps, e, F.bindsN hb, F.ok S len fun cdv A outer s H vs Q E hr hs => h f cdv A outer s H vs Q E hr hs⟩
end
section
variable {X : Cx} {CX : CXT} {j k : Nat} {C : Addr} {sp : Sp} {E : XK} {x m : Str} {p pos apos : Pos} {e o : Expr} {es : List Expr} {ta : TE} {t : TA}
theorem pe_c (c : Cal X.prog X.w X.K X.mg X.base CX k x sp) (hr : Room j X.A) (hk : k ≤ j) (hg : Gl X x) (hx : Passes CX X E) (ha : PA X (e :: es) t)
    (hdb : (x == ("__debug__" : Str)) = false := by decide) (he : starEach (e :: es) X.env = (false, eval e X.env) :: starEach es X.env := by rfl) (hpl : (backTo pos (starEach es X.env)).any (·.1) = false := by rfl) :
    PE X (.Call (.Name x p) (e :: es) [] pos) (tCall sp [] E t) := by
  obtain ⟨f, fd, ps, e1, e2, e3, F⟩ := c.ex
  exact pe_call F (hr.mono hk) hg e1 e2 e3 .nil hx ha hdb he hpl
theorem pe_mt {pl : Sem Bool} (c : Met X.prog X.w X.K X.mg X.base CX k C m sp) (cl : Cls X.K C) (hr : Room j X.A) (hk : k ≤ j) (ho : PE X o ta) (hx : Passes CX X E) (ha : PA X (e :: es) t)
    (hst : starEach (e :: es) X.env = (false, eval e X.env) :: starEach es X.env := by rfl) (hpl : (backTo pos (starEach es X.env)).any (·.1) = false := by rfl)
    (ht : eval (.Call (.Attribute o m apos) (e :: es) [] pos) X.env = (do
      let ov ← eval o X.env
      standAt apos.atName
      let (f, first) ← holding [ov] (getMethod ov m pl)
      callWith pos f first (backTo pos (starEach (e :: es) X.env)) (backToKw pos (keywordEach [] X.env))) := by rfl) :
    PE X (.Call (.Attribute o m apos) (e :: es) [] pos) (tMeth C m sp [] E ta t) := by
  obtain ⟨f, fd, ps, e1, e3, F⟩ := c.ex
  exact pe_meth ho cl e1 F (hr.mono hk) e3 .nil hx ha hst hpl ht
theorem pe_mt0 {pl : Sem Bool} (c : Met X.prog X.w X.K X.mg X.base CX k C m sp) (cl : Cls X.K C) (hr : Room j X.A) (hk : k ≤ j) (ho : PE X o ta) (hx : Passes CX X E)
    (ht : eval (.Call (.Attribute o m apos) [] [] pos) X.env = (do
      let ov ← eval o X.env
      standAt apos.atName
      let (f, first) ← holding [ov] (getMethod ov m pl)
      callWith pos f first (backTo pos (starEach [] X.env)) (backToKw pos (keywordEach [] X.env))) := by rfl) :
    PE X (.Call (.Attribute o m apos) [] [] pos) (tMeth C m sp [] E ta tNil) := by
  obtain ⟨f, fd, ps, e1, e3, F⟩ := c.ex
  exact pe_meth0 ho cl e1 F (hr.mono hk) e3 .nil hx ht
theorem pe_mk (c : Mak X.prog X.w X.K X.mg X.base CX k C sp) (hr : Room j X.A) (hk : k + 1 ≤ j) (hg : Gl X x) (hm : X.mg x = some (.ref C)) (hx : Passes CX X E) (ha : PA X (e :: es) t)
    (hdb : (x == ("__debug__" : Str)) = false := by decide) (he : starEach (e :: es) X.env = (false, eval e X.env) :: starEach es X.env := by rfl) (hpl : (backTo pos (starEach es X.env)).any (·.1) = false := by rfl) :
    PE X (.Call (.Name x p) (e :: es) [] pos) (tMake C sp [] E t) := by
  obtain ⟨f, fd, ps, e1, e3, F⟩ := c.ex
  exact pe_make e1 F (hr.mono hk) hg hm e3 .nil hx ha hdb he hpl
theorem pe_mk0 (c : Mak X.prog X.w X.K X.mg X.base CX k C sp) (hr : Room j X.A) (hk : k + 1 ≤ j) (hg : Gl X x) (hm : X.mg x = some (.ref C)) (hx : Passes CX X E)
    (hdb : (x == ("__debug__" : Str)) = false := by decide) : PE X (.Call (.Name x p) [] [] pos) (tMake C sp [] E tNil) := by
  obtain ⟨f, fd, ps, e1, e3, F⟩ := c.ex
  exact pe_make0 e1 F (hr.mono hk) hg hm e3 .nil hx hdb
end

theorem pe_gv {X : Cx} {x : Str} {v : V} {pos : Pos} (hg : Gl X x) (h : ∃ u, X.mg x = some u ∧ RelV v u) (hd : (x == ("__debug__" : Str)) = false := by decide) : PE X (.Name x pos) (tC v) := by
  obtain ⟨u, a, b⟩ := h
  exact pe_glob hg a b hd

/-- o.f within a comprehension: K by its own name -/
theorem pe_fldK {X : Cx} (K : Fr) (hK : X.K = K) {e : Expr} {ta : TE} {f : Str} {pos : Pos} (he : PE X e ta) (hb : attributeBase e f X.env (eval e X.env) = eval e X.env) : PE X (.Attribute e f pos) (tFld K ta f) := by
  subst hK
  exact pe_fld he hb

/-! ### evaluations that Evl lacks -/
section
variable {K : Fr} {σ : L2.St} {H : Hp} {ta tb te : TE} {tt : TT} {C : Addr} {v x y z : V}
theorem ev_fld {p dx : Addr} {fs : List (Str × V)} {f : Str} (ha : Ev ta σ H (.ref p)) (hp : H p = some (.ins C dx fs)) (cl : Cls K C) (na : NoAttr K C f) (hl : fs.lookup f = some v) : Ev (tFld K ta f) σ H v := fun H1 e Q q =>
  ha H1 e _ fun H2 e2 => ⟨p, C, dx, fs, v, rfl, e2 _ _ (e _ _ hp), cl, na, hl, q H2 e2⟩
theorem ev_dget {d : Addr} {kvs : List (Key × V)} {k : Key} (ha : Ev ta σ H (.ref d)) (hb : Ev tb σ H (kV k)) (hd : H d = some (.dK kvs)) (hk : valV kvs k = some v) : Ev (tDGet ta tb) σ H v := fun H1 e Q q =>
  ha H1 e _ fun H2 e2 => hb H2 (e.trans e2) _ fun H3 e3 => ⟨d, v, rfl, by
    have g := DGet.k (k := k) (((e.trans e2).trans e3) _ _ hd)
    rw [hk] at g
    exact g, q H3 (e2.trans e3)⟩
theorem ev_din {d : Addr} {kvs : List (Key × V)} {k : Key} (hb : Ev tb σ H (kV k)) (ha : Ev ta σ H (.ref d)) (hd : H d = some (.dK kvs)) : Ev (tDIn tb ta) σ H (.bl (valV kvs k).isSome) := fun H1 e Q q =>
  hb H1 e _ fun H2 e2 => ha H2 (e.trans e2) _ fun H3 e3 => ⟨d, _, rfl, DGet.k (k := k) (((e.trans e2).trans e3) _ _ hd), q H3 (e2.trans e3)⟩
theorem ev_dnotin {d : Addr} {kvs : List (Key × V)} {k : Key} (hb : Ev tb σ H (kV k)) (ha : Ev ta σ H (.ref d)) (hd : H d = some (.dK kvs)) : Ev (tDNotIn tb ta) σ H (.bl (!(valV kvs k).isSome)) := fun H1 e Q q =>
  hb H1 e _ fun H2 e2 => ha H2 (e.trans e2) _ fun H3 e3 => ⟨d, _, rfl, DGet.k (k := k) (((e.trans e2).trans e3) _ _ hd), q H3 (e2.trans e3)⟩
end
end Es
end

section
set_option Elab.async false
set_option linter.all false
set_option maxRecDepth 100000
set_option maxHeartbeats 4000000
namespace Es
open PySem PySem.Spec PyProof.Rows L2 Evl
/-! ### own errors over Exception whose __init__ are defs of the text -/
structure EC (K : Fr) (C : Addr) : Prop where
  ini : PySem.W.excInitIn K C exT "Exception.__new__" = true
  ovr : PySem.W.excOver K C exT = true
  hd : PySem.W.hasDictIn K C = true
  sa : PySem.W.findIn K (.ref C) "__setattr__" = some (some (.builtin "object.__setattr__"))
  na : PySem.W.findIn K (.ref C) "answer" = some none
  exC : PySem.W.subIn K (.ref C) (.type "BaseException") = some true
  tyC : PySem.W.typeIn K (.ref C) = some (.type "type")
  kC : PySem.W.keepIn K (.ref C) = true
section
variable {prog : Program} {w : World} {A : Around} {R : Result → Shared → Prop} {hp : Heap} {g : Array GenState} {d : Drawn} {t : Nat} {os : OsState}
theorem osaE {K : Fr} {name : Str} {tk : Tok} {v : Value} {x C t1 : Addr} (KX : K.In hp) (hx : hp.get? x = some (PySem.W.excObj C t1 none .none)) (ov : PySem.W.excOver K C exT = true) (hh : PySem.W.hasDictIn K C = true) (ha : PySem.W.findIn K (.ref C) name = some none)
    (hq : ∀ h' tk' dx, (∀ b o, b ≠ x → hp.get? b = some o → h'.get? b = some o) → hp.objs.size ≤ dx → dx ≠ x → h'.get? x = some (PySem.W.excObj C t1 (some dx) .none) → h'.Ns1 dx (fun y => if y = name then some v else none) → R (.ok (.ret .none)) ⟨h', g, d, tk', os⟩) :
    codeAny (model prog w) A (.call (.builtin "object.__setattr__") ⟨[.ref x, .str name tk, v], []⟩) R ⟨hp, g, d, t, os⟩ := by
  refine PySem.W.osa_openX (od := none) (r := none) PySem.F.store_Exception KX ⟨hx, rfl, rfl, trivial⟩ ov (by unfold PySem.W.takerIn; rw [ha]; rfl) fun b => ?_
  obtain ⟨cd, hc, hdc⟩ := PySem.W.any_some hh
  have hxs : x ≠ hp.objs.size := Nat.ne_of_lt (Heap.lt_size hx)
  refine wpAny_bind (wpAny_pure (wpAny_bind (PySem.W.instanceDict_exc hx (PySem.W.looks_clsIn KX hc) hdc ?_)))
  show wpAny _ _ (Builtin.ObjectAttr.storeInDict hp.objs.size (.str name tk) name v) _ _ _
  refine PySem.HandSPX.store_in_new ?_ fun h' tk' hn' hs => ?_
  · exact ⟨_, #[], _, (Heap.get?_update_ne _ _ _ _ hxs.symm).trans (Heap.get?_push_at rfl rfl), rfl, fun e he => absurd he (by simp), fun _ => rfl⟩
  · have hx1 := Heap.get?_push_of_some (PySem.W.dictOf [] 0) hx
    refine hq h' tk' hp.objs.size (fun b o hb ho => ?_) (Nat.le_refl _) hxs.symm ?_ hn'
    · have h1 := Heap.get?_push_of_some (PySem.W.dictOf [] 0) ho
      exact (hs.2 b (Nat.ne_of_lt (Heap.lt_size ho))).trans ((Heap.get?_update_ne _ _ _ _ hb).trans h1)
    · exact (hs.2 x hxs).trans (Heap.get?_update_self _ hx1 rfl)
end
section
variable {X : Cx} {pins : List (Addr × Obj)} {σ : L2.St} {H : Hp} {s : Shared} {a C dx : Addr} {y : V} {u : Value} {Q : Unit → Shared → Prop} {E : Value → Shared → Prop} {A : Around}
/-- self.answer = y of an error that is being made -/
theorem storeE (T : EC X.K C) (I : Inv X pins σ H s) (e : H a = some (exo a C none)) (ry : RelV y u)
    (h : ∀ dx s', H dx = none → dx ≠ a → Inv X pins σ (upd (upd H dx (exd dx [("answer", y)])) a (exo a C (some dx))) s' → Q () s') : wpAny (model X.prog X.w) A (setAttr (.ref a) "answer" u) Q E s := by
  obtain ⟨t1, ho⟩ := exo_at I.hok e
  obtain ⟨hp, g, d, t, os⟩ := s
  refine PySem.W.set_plain I.kIn (ox := PySem.W.excObj C t1 none .none) (od := none) ⟨ho, rfl, rfl, trivial⟩ T.sa ?_
  refine osaE I.kIn ho T.ovr T.hd T.na fun h' tk' dx k dn dne hx hn => ?_
  have hnd : H dx = none := I.hok.fresh dn
  have ndx : ∀ {b : Addr} {o : Obj}, hp.get? b = some o → b ≠ dx := fun {b o} q => Nat.ne_of_lt (Nat.lt_of_lt_of_le (Heap.lt_size q) dn)
  have nea : ∀ {b : Addr}, H b = none → b ≠ a := fun {b} n z => by rw [z, e] at n; cases n
  have U : Un X.fs [] H (upd (upd H dx (exd dx [("answer", y)])) a (exo a C (some dx))) hp h' := {
    keep := fun b o q n _ _ => k b o (nea n) q
    slot := fun b o q n _ _ => ⟨o.slots, k b o (nea n) q⟩
    free := fun b o q n _ => (upd_ne (nea n)).trans ((upd_ne (ndx q)).trans n)
    there := fun b o q _ => if hb : b = a then ⟨PySem.W.excObj C t1 (some dx) .none, by rw [hb]; exact hx⟩ else ⟨o, k b o hb q⟩
    tups := fun b xs q => (upd_ne (at_ne e q exo_tup)).trans ((upd_ne (ne_of_none q hnd)).trans q)
    frzs := fun b o v q => (upd_ne (at_ne e q exo_frz)).trans ((upd_ne (ne_of_none q hnd)).trans q)
    tbls := fun b ps q => ⟨#[], by rw [upd_ne (at_ne e q exo_tbl), upd_ne (ne_of_none q hnd), q]; simp⟩ }
  refine h dx _ hnd dne (I.un (t' := tk') U fun b o q => ?_)
  by_cases hb : b = a
  · subst hb
    rw [upd_same] at q
    cases q
    exact exo_ok hx
  · rw [upd_ne hb] at q
    by_cases hd : b = dx
    · subst hd
      rw [upd_same] at q
      cases q
      exact exd_ok hn (relO_put (fs := []) ry fun g => True.intro)
    · rw [upd_ne hd] at q
      refine (I.hok b o q).stay (fun c v hc z => k c v ?_ z) (fun c hc => (upd_ne (at_ne e hc exo_own)).trans ((upd_ne (ne_of_none hc hnd)).trans hc)) (fun c xs hc => (upd_ne (at_ne e hc exo_tup)).trans ((upd_ne (ne_of_none hc hnd)).trans hc))
      rcases hc with hc | hc
      · rw [hc]; exact hb
      · exact at_ne e hc exo_own
end
/-! ### readings -/
/-- self.answer = e -/
def tAnsSet (K : Fr) (to te : TE) : TS := fun D σ H => te σ H fun y H1 => to σ H1 fun x H2 => ∃ a C : Addr, x = .ref a ∧ EC K C ∧ H2 a = some (exo a C none) ∧ ∀ dx, H2 dx = none → dx ≠ a → D.nx σ (upd (upd H2 dx (exd dx [("answer", y)])) a (exo a C (some dx)))
/-- C(e, ..) of an error C whose __init__ keeps sp -/
def tMkE (C : Addr) (sp : Sp) (ta : TA) : L2.St → Hp → XK → Prop := fun σ H Q => ta σ H fun vs H1 => vs.length ≤ 1000 ∧ ∀ a, H1 a = none → sp (.ref a :: (vs ++ [])) (upd H1 a (exo a C none))
  (fun v H2 => v = .non ∧ ∃ (d : Addr) (fs : List (Str × V)), H2 a = some (exo a C (some d)) ∧ H2 d = some (exd d fs) ∧ H1 d = none ∧ Q (.ref C) (some d) (upd (del H2 a) d (.xd fs))) (fun _ _ _ => False)
/-- C.m(e, ..), a def that is read off its class -/
def tOff (sp : Sp) (E : XK) (ta : TA) : TE := fun σ H Q => ta σ H fun vs H1 => sp (vs ++ []) H1 Q E
section
variable {X : Cx} {o e : Expr} {es : List Expr} {to te : TE} {ta : TA} {f : Str} {p p' p1 p2 pos : Pos}
theorem ps_ansSet (ho : PE X o to) (he : PE X e te) (hs : swapsWith e (some (.Attribute o "answer" p')) pos.line X.env = pure false := by rfl) : PS X (.Assign [.Attribute o "answer" p'] e pos) (tAnsSet X.K to te) := by
  refine ⟨fun pins s σ H D I h => plainObj_wpAny_Assign_Attribute (thn (he.run pins s σ H _ I h) fun v s1 ⟨y, H1, I1, r1, q1⟩ => thn (ho.run pins s1 σ H1 _ I1 q1) fun u s2 ⟨x, H2, I2, r2, a, C, ex, T, ea, q⟩ => ?_) hs⟩
  subst ex
  obtain rfl : u = Value.ref a := r2
  exact storeE T I2 ea r1 fun dx s' n ne J => ⟨σ, _, J, q dx n ne⟩
/-- what a class of errors has that is called -/
structure MkE (P : Program) (w : World) (K : Fr) (mg : Str → Option Value) (base : Heap) (k : Nat) (C : Addr) (sp : Sp) : Prop where
  ex : ∃ fI fd ps, PySem.W.findIn K (.ref C) "__init__" = some (some (.ref fI)) ∧ PySem.W.typeIn K (.ref fI) = some (.type "function") ∧ Binds K fd ps [] ∧ FnOk P w K mg base CX0 k fI fd ps sp
theorem runE {CX : CXT} {C : Addr} {k : Nat} {sp : Sp} {pins : List (Addr × Obj)} {σ : L2.St} {H1 : Hp} {s1 : Shared} {Q : XK} {us : List Value} {vs : List V} (T : EC X.K C) (M : MkE X.prog X.w X.K X.mg X.base k C sp) (hr : Room (k + 1) X.A) (I1 : Inv X pins σ H1 s1) (r1 : Vals vs us) (hz : vs.length ≤ 1000)
    (q1 : ∀ a, H1 a = none → sp (.ref a :: (vs ++ [])) (upd H1 a (exo a C none)) (fun v H2 => v = .non ∧ ∃ (d : Addr) (fs : List (Str × V)), H2 a = some (exo a C (some d)) ∧ H2 d = some (exd d fs) ∧ H1 d = none ∧ Q (.ref C) (some d) (upd (del H2 a) d (.xd fs))) (fun _ _ _ => False)) :
    wpAny (model X.prog X.w) X.A (call (.ref C) us) (MkP X pins σ Q) X.xe s1 := by
  obtain ⟨fI, fd, ps, iC, tI, hb, F1⟩ := M.ex
  obtain ⟨hp, g, dr, tk, os⟩ := s1
  obtain ⟨nm, N, q, bs, bm, hdct, sn, sub, ab, col, dd, k0, k1, k2, k3, k5, hC, hbm⟩ := PySem.W.excInit_of I1.kIn T.ini
  have hsz : hp.objs.size ≤ hp.objs.size + 1 := Nat.le_succ _
  have hq := q1 (hp.objs.size + 1) (I1.hok.fresh hsz)
  generalize eG : (hp.push (PySem.W.kdv_tup us)).push (PySem.HandSPX.excO C hp.objs.size) = hG
  have kk : ∀ b o, hp.get? b = some o → hG.get? b = some o := fun b o z => by rw [← eG]; exact Heap.get?_push_of_some _ (Heap.get?_push_of_some _ z)
  have hget : hG.get? (hp.objs.size + 1) = some (PySem.HandSPX.excO C hp.objs.size) := by rw [← eG]; heap_get
  have I2 : Inv X pins σ (upd H1 (hp.objs.size + 1) (exo (hp.objs.size + 1) C none)) ⟨hG, g, dr, tk, os⟩ := I1.laid (t' := tk) (a := hp.objs.size + 1) (o := exo (hp.objs.size + 1) C none) (h' := hG) kk hsz (exo_ok hget)
  have r2 : Vals (V.ref (hp.objs.size + 1) :: (vs ++ [])) (Value.ref (hp.objs.size + 1) :: (us ++ [])) := .cons rfl (r1.append .nil)
  have hl : (Value.ref (hp.objs.size + 1) :: us ++ []).length = ps.length := (r2.length.symm.trans (F1.len _ _ _ _ hq))
  have hus : us.length ≤ sizeLine := by rw [← Paired.length r1, sizeLine_eq]; omega
  refine wpAny_call (PySem.HandSPX.call_own PySem.F.excBase_Exception hbm hC (PySem.W.looks_findIn I1.kIn iC) (fun self => PySem.W.bind_fn I1.kIn self tI) hus ?_)
  rw [eG]
  have hbn := hb ⟨hG, g, dr, tk, os⟩ (Value.ref (hp.objs.size + 1) :: us) I2.kIn hl
  rw [List.cons_append] at hbn
  refine codeAny_mono (F1.run _ X.stack _ _ ⟨Value.ref (hp.objs.size + 1) :: us, []⟩ (Value.ref (hp.objs.size + 1) :: (us ++ [])) _ _ (fun _ _ _ => False) (hr.make C us []) (I2.env0.make C us []) hbn r2 hq) fun r s' hq' => ?_
  cases r with
  | error er => exact hq'.elim
  | ok fl =>
    cases fl with
    | ret u =>
      obtain ⟨v, H2, os2, bare2, un2, hok2, rv, ev, d, fs, ea, ed, hd1, q2⟩ := hq'
      subst ev
      obtain ⟨h2, g2, d2, t2, os'⟩ := s'
      exact ⟨rv, mk_end (raises_own T.exC T.tyC) I1 hsz kk un2 hok2 os2 bare2 ea ed hd1 q2⟩
    | next => exact hq'.elim
    | brk => exact hq'.elim
    | cont => exact hq'.elim
theorem pmkE {j k : Nat} {x : Str} {C : Addr} {sp : Sp} (T : EC X.K C) (M : MkE X.prog X.w X.K X.mg X.base k C sp) (hr : Room j X.A) (hk : k + 1 ≤ j) (hg : Gl X x) (hm : X.mg x = some (.ref C)) (ha : PA X (e :: es) ta)
    (hdb : (x == ("__debug__" : Str)) = false := by decide) (he : starEach (e :: es) X.env = (false, eval e X.env) :: starEach es X.env := by rfl) (hpl : (backTo pos (starEach es X.env)).any (·.1) = false := by rfl) :
    PMk X (.Call (.Name x p) (e :: es) [] pos) (tMkE C sp ta) := by
  intro pins s σ H Q I h
  refine wpAny_Call_Name_kw (ld_glob I hg hm (PySem.W.callWith_K (h₀ := X.base) I.ok.mod.kin T.kC (thn (ha.run pos pins s σ H _ I h) fun us s1 ⟨vs, H1, I1, r1, hz, q1⟩ => ⟨I1.kIn, ?_⟩) he hpl) hdb)
  exact runE (CX := CX0) T M (hr.mono hk) I1 r1 hz q1
theorem pmkE0 {j k : Nat} {x : Str} {C : Addr} {sp : Sp} (T : EC X.K C) (M : MkE X.prog X.w X.K X.mg X.base k C sp) (hr : Room j X.A) (hk : k + 1 ≤ j) (hg : Gl X x) (hm : X.mg x = some (.ref C)) (hdb : (x == ("__debug__" : Str)) = false := by decide) :
    PMk X (.Call (.Name x p) [] [] pos) (tMkE C sp tNil) := by
  intro pins s σ H Q I h
  obtain ⟨hz, q1⟩ := h
  exact wpAny_Call_Name_kw (ld_glob I hg hm (PySem.W.callWith_K0 I.kIn T.kC (runE (CX := CX0) (us := []) T M (hr.mono hk) I .nil hz q1)) hdb)
/-- C.m(e, ..): m read off its class C -/
theorem pe_off {CX : CXT} {j k : Nat} {x m : Str} {C f : Addr} {fd : FuncData} {ps : List Str} {mc : Value} {sp : Sp} {E : XK} {pl : Sem Bool} (hg : Gl X x) (hm : X.mg x = some (.ref C)) (r : ClX.CRead X.K C mc) (c : ClX.CVal X.K C mc m (.ref f) (.ref f)) (kf : PySem.W.keepIn X.K (.ref f) = true)
    (F : FnOk X.prog X.w X.K X.mg X.base CX k f fd ps sp) (hr : Room j X.A) (hk : k ≤ j) (hb : Binds X.K fd ps []) (hx : Passes CX X E) (ha : PA X (e :: es) ta) (hdb : (x == ("__debug__" : Str)) = false := by decide)
    (ht : eval (.Call (.Attribute (.Name x p1) m p2) (e :: es) [] pos) X.env = (do
      let ov ← eval (.Name x p1) X.env
      standAt p2.atName
      let (f, first) ← holding [ov] (getMethod ov m pl)
      callWith pos f first (backTo pos (starEach (e :: es) X.env)) (backToKw pos (keywordEach [] X.env))) := by rfl)
    (he : starEach (e :: es) X.env = (false, eval e X.env) :: starEach es X.env := by rfl) (hpl : (backTo pos (starEach es X.env)).any (·.1) = false := by rfl) :
    PE X (.Call (.Attribute (.Name x p1) m p2) (e :: es) [] pos) (tOff sp E ta) := by
  refine ⟨fun pins s σ H Q I h => PySem.W.methodCall_KW (pl := pl) (ld_glob I hg hm ?_ hdb) ht⟩
  refine PySem.W.method_cls I.kIn r.ga (ClX.getcval_ok I r c fun s1 I1 => ?_)
  refine PySem.W.callWith_K (first := []) (h₀ := X.base) I.ok.mod.kin kf (thn (ha.run pos pins s1 σ H _ I1 h) fun us s2 ⟨vs, H2, I2, rr, q2⟩ => ⟨I2.kIn, ?_⟩) he hpl
  exact run_fn F (hr.mono hk) hb .nil hx I2 rr q2
end
end Es
end

section
set_option Elab.async false
set_option linter.all false
set_option maxRecDepth 100000
set_option maxHeartbeats 4000000
namespace Es
open PySem PySem.Spec PyProof.Rows L2 Evl
/-- an error of the class at C is a Refusal, its answer may be read -/
structure RC (K : Fr) (C : Addr) : Prop where
  exm : PySem.W.exmOne K (.ref C) (.ref (He.ga K "Refusal")) = some true
  xf : XfC K C
  na : PySem.W.findIn K (.ref C) "answer" = some none
structure ErrAt (K : Fr) (C : Addr) (qual : Str) (st : Stmt) : Prop where
  ex : ∃ f fd, PySem.W.findIn K (.ref C) "__init__" = some (some (.ref f)) ∧ PySem.W.typeIn K (.ref f) = some (.type "function") ∧ FunD K "__init__" qual (defArgs st) (defBody st) (defScope st) [] [] f fd
structure OffAt (K : Fr) (C : Addr) (m qual : Str) (st : Stmt) : Prop where
  ex : ∃ f fd, ClX.CRead K C (.type "type") ∧ ClX.CVal K C (.type "type") m (.ref f) (.ref f) ∧ FunD K m qual (defArgs st) (defBody st) (defScope st) [] [] f fd
structure Off (P : Program) (w : World) (K : Fr) (mg : Str → Option Value) (base : Heap) (CX : CXT) (k : Nat) (x m : Str) (sp : Sp) : Prop where
  ex : ∃ C f fd ps, mg x = some (.ref C) ∧ ClX.CRead K C (.type "type") ∧ ClX.CVal K C (.type "type") m (.ref f) (.ref f) ∧ PySem.W.keepIn K (.ref f) = true ∧ Binds K fd ps [] ∧ FnOk P w K mg base CX k f fd ps sp
section
variable {P : Program} {w : World} {K : Fr} {mg : Str → Option Value} {base : Heap} {CX : CXT} {k : Nat} {x m qual : Str} {C : Addr} {st : Stmt} {N ps : List Str} {sp : Sp}
theorem ErrAt.mk_ (F : ErrAt K C qual st) (S : FnScope N ps (defScope st)) (hb : BindsBy "__init__" qual st ps) (len : ∀ vs H Q E, sp vs H Q E → vs.length = ps.length) (h : BodyBy CX0 P w K mg base N qual st k sp) : MkE P w K mg base (k + 1) C sp := by
  obtain ⟨f, fd, e1, e2, F⟩ := F.ex
  exact ⟨f, fd, ps, e1, e2, F.bindsN hb, F.ok S len fun cdv A outer s H vs Q E hr hs => h f cdv A outer s H vs Q E hr hs⟩
theorem OffAt.off (g : mg x = some (.ref C)) (F : OffAt K C m qual st) (S : FnScope N ps (defScope st)) (hb : BindsBy m qual st ps) (len : ∀ vs H Q E, sp vs H Q E → vs.length = ps.length) (h : BodyBy CX P w K mg base N qual st k sp) : Off P w K mg base CX (k + 1) x m sp := by
  obtain ⟨f, fd, e1, e2, F⟩ := F.ex
  exact ⟨C, f, fd, ps, g, e1, e2, F.kp, F.bindsN hb, F.ok S len fun cdv A outer s H vs Q E hr hs => h f cdv A outer s H vs Q E hr hs⟩
end
theorem pe_offB {X : Cx} {e : Expr} {es : List Expr} {ta : TA} {p1 p2 pos : Pos} {CX : CXT} {j k : Nat} {x m : Str} {sp : Sp} {E : XK} {pl : Sem Bool} (c : Off X.prog X.w X.K X.mg X.base CX k x m sp) (hr : Room j X.A) (hk : k ≤ j) (hg : Gl X x) (hx : Passes CX X E) (ha : PA X (e :: es) ta) (hdb : (x == ("__debug__" : Str)) = false := by decide)
    (ht : eval (.Call (.Attribute (.Name x p1) m p2) (e :: es) [] pos) X.env = (do
      let ov ← eval (.Name x p1) X.env
      standAt p2.atName
      let (f, first) ← holding [ov] (getMethod ov m pl)
      callWith pos f first (backTo pos (starEach (e :: es) X.env)) (backToKw pos (keywordEach [] X.env))) := by rfl)
    (he : starEach (e :: es) X.env = (false, eval e X.env) :: starEach es X.env := by rfl) (hpl : (backTo pos (starEach es X.env)).any (·.1) = false := by rfl) :
    PE X (.Call (.Attribute (.Name x p1) m p2) (e :: es) [] pos) (tOff sp E ta) := by
  obtain ⟨C, f, fd, ps, g, r, v, kf, hb, F⟩ := c.ex
  exact pe_off hg g r v kf F hr hk hb hx ha hdb ht he hpl
/-- what is wanted of a refusal: any error of these, l its answer -/
def Refuses (K : Fr) (E : XK) (H : Hp) (l : List Int) : Prop := ∀ C d la H', RC K C → Ex H H' → H' d = some (.xd [("answer", .ref la)]) → H' la = some (.lst (l.map V.int)) → E (.ref C) (some d) H'
theorem Refuses.mono {K : Fr} {E : XK} {H H1 : Hp} {l : List Int} (e : Ex H H1) (h : Refuses K E H l) : Refuses K E H1 l := fun C d la H' rc ex a b => h C d la H' rc (e.trans ex) a b
/-- __init__ of Refusal: keeps what it is handed -/
def sp_Ref (K : Fr) : Sp := fun vs H Q _ => ∃ (a C : Addr) (y : V), vs = [.ref a, y] ∧ EC K C ∧ H a = some (exo a C none) ∧ ∀ dx, H dx = none → dx ≠ a → Q .non (upd (upd H dx (exd dx [("answer", y)])) a (exo a C (some dx)))
/-- __init__ of a refusal whose answer f tells of its arguments -/
def sp_err (K : Fr) (ok : List V → Prop) (f : List V → List V) : Sp := fun vs H Q _ => ∃ (a C : Addr) (ws : List V), vs = .ref a :: ws ∧ ok ws ∧ EC K C ∧ H a = some (exo a C none) ∧ ∀ la dx, H la = none → upd H la (.lst (f ws)) dx = none → dx ≠ a → Q .non (upd (upd (upd H la (.lst (f ws))) dx (exd dx [("answer", .ref la)])) a (exo a C (some dx)))
/-- raise C(..) -/
theorem raise_err {K : Fr} {C : Addr} {σ : L2.St} {H : Hp} {E : XK} {ok : List V → Prop} {f : List V → List V} {ta : TA} {ws : List V} {l : List Int} (T : EC K C) (rc : RC K C) (h : EvA ta σ H ws) (ho : ok ws) (hf : f ws = l.map V.int) (hz : ws.length ≤ 1000) (R : Refuses K E H l) :
    tMkE C (sp_err K ok f) ta σ H fun cls d H' => E cls d H' := h H (Ex.refl H) _ fun H1 e1 => ⟨hz, fun a ha => ⟨a, C, ws ++ [], rfl, by rw [List.append_nil]; exact ho, T, upd_same, fun la dx hla hdx ne => by
  rw [List.append_nil] at hdx ⊢
  have nla : la ≠ a := fun z => by rw [z, upd_same] at hla; cases hla
  rw [upd_ne nla] at hla
  have ndl : dx ≠ la := fun z => by rw [z, upd_same] at hdx; cases hdx
  rw [upd_ne ndl, upd_ne ne] at hdx
  refine ⟨rfl, dx, [("answer", .ref la)], upd_same, (upd_ne ne).trans upd_same, hdx, ?_⟩
  refine R C dx la _ rc (fun b o hb => ?_) upd_same ?_
  · have hb1 := e1 _ _ hb
    rw [upd_ne (ne_of_none hb1 hdx), del_ne (ne_of_none hb1 ha), upd_ne (ne_of_none hb1 ha), upd_ne (ne_of_none hb1 hdx), upd_ne (ne_of_none hb1 hla), upd_ne (ne_of_none hb1 ha)]
    exact hb1
  · rw [upd_ne ndl.symm, del_ne nla, upd_ne nla, upd_ne ndl.symm, upd_same, hf]⟩⟩
end Es
end

section
set_option Elab.async false
set_option linter.all false
set_option maxRecDepth 100000
set_option maxHeartbeats 4000000
namespace Es
open PySem PySem.Spec PyProof.Rows L2 Evl
/-! ### a written dict, whole numbers its keys -/
theorem intKeys_get {es : List DictEntry} (h : intKeys es = true) {d : DictEntry} (hd : d ∈ es) : ∃ j t, d.key = .int j t ∧ d.hash = hashInt j := by
  have := List.all_eq_true.mp h d hd
  revert this
  cases hk : d.key with
  | int j t => exact fun z => ⟨j, t, rfl, beq_iff_eq.mp z⟩
  | _ => exact fun z => absurd z Bool.false_ne_true
def KDi (K : Fr) (a : Addr) (i : Int) (v : V) : Prop := ∃ o es n u, K.lookup a = some o ∧ o.ExactDict ∧ o.data = .dict es n ∧ intKeys es.toList = true ∧ findBy keyIs es (Sum.inl i : Key) = some u ∧ RelV v u
theorem kdAt_ok {K : Fr} {a : Addr} {i : Int} {u : Value} {v : V} (h : kdAt K a i = some u) (r : RelV v u) : KDi K a i v := by
  unfold kdAt at h
  cases hl : K.lookup a with
  | none => rw [hl] at h; cases h
  | some o =>
    rw [hl] at h
    dsimp only at h
    split at h
    · rename_i es n hd
      split at h
      · rename_i hk
        simp only [Bool.and_eq_true, decide_eq_true_eq, Option.isNone_iff_eq_none, Array.isEmpty_iff] at hk
        exact ⟨o, es, n, u, hl, ⟨hk.1, hk.2.1, hk.2.2.1⟩, hd, hk.2.2.2, h, r⟩
      · cases h
    · cases h
def rIxI (K : Fr) : R2 := fun x y H Q => ∃ p i v, x = .ref p ∧ y = .int i ∧ KDi K p i v ∧ Q v H
theorem ix_idict {X : Cx} : IxR X (rIxI X.K) := by
  intro value slice pins s σ H x y v u Q I rx ry h hs
  obtain ⟨p, i, r, rfl, rfl, ⟨o, es, n, u0, hl, xd, hd, hk, hf, ru⟩, q⟩ := h
  obtain rfl : v = Value.ref p := rx
  obtain ⟨t, rfl⟩ := ry
  have hm : s.heap.MapOf (mixKind X.prog X.w) p (fun k => findBy keyIs es k) := by
    refine ⟨o, es, n, I.kIn _ _ hl, xd, hd, fun d hd => ?_, fun k => rfl⟩
    obtain ⟨j, t, e1, e2⟩ := intKeys_get hk (Array.mem_toList_iff.mpr hd)
    exact ⟨.inl j, by rw [e1]; exact mixKind_int X.prog X.w j t, e2⟩
  refine tail_any hm.typeIs PySem.slot_dict_getitem.lookup ?_ hs
  exact wpAny_getItem_of (mixKind_int X.prog X.w i t) hm hf ⟨r, H, I.tok _, ru, q⟩
theorem rv_kd {K : Fr} {H : Hp} {p : Addr} {i : Int} {v : V} (h : KDi K p i v) : RV (rIxI K) (.ref p) (.int i) H v := fun H1 e Q q => ⟨p, i, v, rfl, rfl, h, q H1 (Ex.refl H1)⟩
end Es
end

section
set_option Elab.async false
set_option linter.all false
set_option maxRecDepth 100000
set_option maxHeartbeats 4000000
namespace Es
open PySem PySem.Spec PyProof.Rows L2 Evl
abbrev CA (K : Fr) (x : Str) : Addr := He.ga K x
structure Env (K : Fr) (mg : Str → Option Value) : Prop where
  f_len : mg "len" = none
  f_set : mg "set" = none
  f_abs : mg "abs" = none
  f_list : mg "list" = none
  f_range : mg "range" = none
  f_enumerate : mg "enumerate" = none
  f_max : mg "max" = none
  f_min : mg "min" = none
  f_sum : mg "sum" = none
  v_OFF : ∃ u, mg "OFF" = some u ∧ RelV (.int 64) u
  v_PASS : ∃ u, mg "PASS" = some u ∧ RelV (.int 65535) u
  v_DRAW : ∃ u, mg "DRAW" = some u ∧ RelV (.int 0) u
  v_WIN : ∃ u, mg "WIN" = some u ∧ RelV (.int 1) u
  v_LOSS : ∃ u, mg "LOSS" = some u ∧ RelV (.int 2) u
  v_STUCK_OUTCOMES : ∃ u, mg "STUCK_OUTCOMES" = some u ∧ RelV (.ref (CA K "STUCK_OUTCOMES")) u
  t_STUCK_OUTCOMES : ∀ H, SqT K H (CA K "STUCK_OUTCOMES") [.int 2, .int 0, .int 1]
  v_NO_REPLY : ∃ u, mg "NO_REPLY" = some u ∧ RelV (.int 3) u
  v_MOST_NUMBERS : ∃ u, mg "MOST_NUMBERS" = some u ∧ RelV (.int 2048) u
  v_NO_POSITION : ∃ u, mg "NO_POSITION" = some u ∧ RelV (.int 3) u
  v_PER_BYTE : ∃ u, mg "PER_BYTE" = some u ∧ RelV (.int 4) u
  v_TURN_COUNT : ∃ u, mg "TURN_COUNT" = some u ∧ RelV (.int 8) u
  v_LAST : ∃ u, mg "LAST" = some u ∧ RelV (.int 7) u
  v_GAME : ∃ u, mg "GAME" = some u ∧ RelV (.int 1) u
  v_CALL_FORMS : ∃ u, mg "CALL_FORMS" = some u ∧ RelV (.ref (CA K "CALL_FORMS")) u
  k_CALL_FORMS : ∀ x ∈ d_CALL_FORMS, ∃ t, KDi K (CA K "CALL_FORMS") x.1 (.ref t) ∧ ∀ H, SqT K H t (x.2.map V.int)
  v_TELLERS : ∃ u, mg "TELLERS" = some u ∧ RelV (.ref (CA K "TELLERS")) u
  k_TELLERS : ∀ x ∈ d_TELLERS, ∃ f, mg x.2 = some (.ref f) ∧ KDi K (CA K "TELLERS") x.1 (.ref f)
  g_Pattern : mg "Pattern" = some (.ref (CA K "Pattern"))
  c_Pattern : Cls K (CA K "Pattern")
  k_Pattern : MkAt K (CA K "Pattern") "Pattern.__init__" (inClass (top 2) 0)
  n_Pattern_df : NoAttr K (CA K "Pattern") "df"
  n_Pattern_dr : NoAttr K (CA K "Pattern") "dr"
  n_Pattern_reach : NoAttr K (CA K "Pattern") "reach"
  n_Pattern_how : NoAttr K (CA K "Pattern") "how"
  g_Kind : mg "Kind" = some (.ref (CA K "Kind"))
  c_Kind : Cls K (CA K "Kind")
  k_Kind : MkAt K (CA K "Kind") "Kind.__init__" (inClass (top 3) 0)
  n_Kind_royal : NoAttr K (CA K "Kind") "royal"
  n_Kind_goals : NoAttr K (CA K "Kind") "goals"
  n_Kind_patterns : NoAttr K (CA K "Kind") "patterns"
  g_Piece : mg "Piece" = some (.ref (CA K "Piece"))
  c_Piece : Cls K (CA K "Piece")
  k_Piece : MkAt K (CA K "Piece") "Piece.__init__" (inClass (top 4) 0)
  n_Piece_kind : NoAttr K (CA K "Piece") "kind"
  n_Piece_side : NoAttr K (CA K "Piece") "side"
  g_Way : mg "Way" = some (.ref (CA K "Way"))
  c_Way : Cls K (CA K "Way")
  k_Way : MkAt K (CA K "Way") "Way.__init__" (inClass (top 5) 0)
  n_Way_how : NoAttr K (CA K "Way") "how"
  n_Way_squares : NoAttr K (CA K "Way") "squares"
  g_Game : mg "Game" = some (.ref (CA K "Game"))
  c_Game : Cls K (CA K "Game")
  k_Game : MkAt K (CA K "Game") "Game.__init__" (inClass (top 6) 0)
  n_Game_stuck : NoAttr K (CA K "Game") "stuck"
  n_Game_passing : NoAttr K (CA K "Game") "passing"
  n_Game_board : NoAttr K (CA K "Game") "board"
  n_Game_kinds : NoAttr K (CA K "Game") "kinds"
  n_Game_pieces : NoAttr K (CA K "Game") "pieces"
  n_Game_squares : NoAttr K (CA K "Game") "squares"
  n_Game_places : NoAttr K (CA K "Game") "places"
  n_Game_total : NoAttr K (CA K "Game") "total"
  n_Game_ways : NoAttr K (CA K "Game") "ways"
  g_Refusal : mg "Refusal" = some (.ref (CA K "Refusal"))
  e_Refusal : EC K (CA K "Refusal")
  r_Refusal : RC K (CA K "Refusal")
  i_Refusal : ErrAt K (CA K "Refusal") "Refusal.__init__" (inClass (top 27) 0)
  o_Refusal : OffAt K (CA K "Refusal") "__init__" "Refusal.__init__" (inClass (top 27) 0)
  g_NoGame : mg "NoGame" = some (.ref (CA K "NoGame"))
  e_NoGame : EC K (CA K "NoGame")
  r_NoGame : RC K (CA K "NoGame")
  i_NoGame : ErrAt K (CA K "NoGame") "NoGame.__init__" (inClass (top 28) 0)
  g_Fault : mg "Fault" = some (.ref (CA K "Fault"))
  e_Fault : EC K (CA K "Fault")
  r_Fault : RC K (CA K "Fault")
  i_Fault : ErrAt K (CA K "Fault") "Fault.__init__" (inClass (top 29) 0)
  g_TooLarge : mg "TooLarge" = some (.ref (CA K "TooLarge"))
  e_TooLarge : EC K (CA K "TooLarge")
  r_TooLarge : RC K (CA K "TooLarge")
  i_TooLarge : ErrAt K (CA K "TooLarge") "TooLarge.__init__" (inClass (top 30) 0)
  g_NotRight : mg "NotRight" = some (.ref (CA K "NotRight"))
  e_NotRight : EC K (CA K "NotRight")
  r_NotRight : RC K (CA K "NotRight")
  i_NotRight : ErrAt K (CA K "NotRight") "NotRight.__init__" (inClass (top 31) 0)
  g_NoOutcome : mg "NoOutcome" = some (.ref (CA K "NoOutcome"))
  e_NoOutcome : EC K (CA K "NoOutcome")
  r_NoOutcome : RC K (CA K "NoOutcome")
  i_NoOutcome : ErrAt K (CA K "NoOutcome") "NoOutcome.__init__" (inClass (top 32) 0)
  g_NoSide : mg "NoSide" = some (.ref (CA K "NoSide"))
  e_NoSide : EC K (CA K "NoSide")
  r_NoSide : RC K (CA K "NoSide")
  i_NoSide : ErrAt K (CA K "NoSide") "NoSide.__init__" (inClass (top 33) 0)
  g_NotKnown : mg "NotKnown" = some (.ref (CA K "NotKnown"))
  e_NotKnown : EC K (CA K "NotKnown")
  r_NotKnown : RC K (CA K "NotKnown")
  i_NotKnown : ErrAt K (CA K "NotKnown") "NotKnown.__init__" (inClass (top 34) 0)
  g_NotSolved : mg "NotSolved" = some (.ref (CA K "NotSolved"))
  e_NotSolved : EC K (CA K "NotSolved")
  r_NotSolved : RC K (CA K "NotSolved")
  i_NotSolved : ErrAt K (CA K "NotSolved") "NotSolved.__init__" (inClass (top 35) 0)
  g_NotFound : mg "NotFound" = some (.ref (CA K "NotFound"))
  e_NotFound : EC K (CA K "NotFound")
  r_NotFound : RC K (CA K "NotFound")
  i_NotFound : ErrAt K (CA K "NotFound") "NotFound.__init__" (inClass (top 36) 0)
  g_OtherLength : mg "OtherLength" = some (.ref (CA K "OtherLength"))
  e_OtherLength : EC K (CA K "OtherLength")
  r_OtherLength : RC K (CA K "OtherLength")
  i_OtherLength : ErrAt K (CA K "OtherLength") "OtherLength.__init__" (inClass (top 37) 0)
  g_NoMove : mg "NoMove" = some (.ref (CA K "NoMove"))
  e_NoMove : EC K (CA K "NoMove")
  r_NoMove : RC K (CA K "NoMove")
  i_NoMove : ErrAt K (CA K "NoMove") "NoMove.__init__" (inClass (top 38) 0)
  g_AtEnd : mg "AtEnd" = some (.ref (CA K "AtEnd"))
  e_AtEnd : EC K (CA K "AtEnd")
  r_AtEnd : RC K (CA K "AtEnd")
  i_AtEnd : ErrAt K (CA K "AtEnd") "AtEnd.__init__" (inClass (top 39) 0)
  g_Drawn : mg "Drawn" = some (.ref (CA K "Drawn"))
  e_Drawn : EC K (CA K "Drawn")
  r_Drawn : RC K (CA K "Drawn")
  i_Drawn : ErrAt K (CA K "Drawn") "Drawn.__init__" (inClass (top 40) 0)
  g_Solving : mg "Solving" = some (.ref (CA K "Solving"))
  c_Solving : Cls K (CA K "Solving")
  k_Solving : MkAt K (CA K "Solving") "Solving.__init__" (inClass (top 49) 0)
  n_Solving_game : NoAttr K (CA K "Solving") "game"
  n_Solving_known : NoAttr K (CA K "Solving") "known"
  n_Solving_leads : NoAttr K (CA K "Solving") "leads"
  n_Solving_rounds : NoAttr K (CA K "Solving") "rounds"
  n_Solving_solved : NoAttr K (CA K "Solving") "solved"
  g_Match : mg "Match" = some (.ref (CA K "Match"))
  c_Match : Cls K (CA K "Match")
  k_Match : MkAt K (CA K "Match") "Match.__init__" (inClass (top 68) 0)
  n_Match_side : NoAttr K (CA K "Match") "side"
  n_Match_row : NoAttr K (CA K "Match") "row"
  n_Match_replies : NoAttr K (CA K "Match") "replies"
  n_Match_made : NoAttr K (CA K "Match") "made"
  n_Match_replied : NoAttr K (CA K "Match") "replied"
  n_Match_result : NoAttr K (CA K "Match") "result"
  g_ByteReader : mg "ByteReader" = some (.ref (CA K "ByteReader"))
  c_ByteReader : Cls K (CA K "ByteReader")
  k_ByteReader : MkAt K (CA K "ByteReader") "ByteReader.__init__" (inClass (top 74) 0)
  m_ByteReader_need : MethAt K (CA K "ByteReader") "need" "ByteReader.need" (inClass (top 74) 1)
  m_ByteReader_byte : MethAt K (CA K "ByteReader") "byte" "ByteReader.byte" (inClass (top 74) 2)
  m_ByteReader_step : MethAt K (CA K "ByteReader") "step" "ByteReader.step" (inClass (top 74) 3)
  m_ByteReader_square_set : MethAt K (CA K "ByteReader") "square_set" "ByteReader.square_set" (inClass (top 74) 4)
  m_ByteReader_finish : MethAt K (CA K "ByteReader") "finish" "ByteReader.finish" (inClass (top 74) 5)
  n_ByteReader_numbers : NoAttr K (CA K "ByteReader") "numbers"
  n_ByteReader_place : NoAttr K (CA K "ByteReader") "place"
  g_Call : mg "Call" = some (.ref (CA K "Call"))
  c_Call : Cls K (CA K "Call")
  k_Call : MkAt K (CA K "Call") "Call.__init__" (inClass (top 106) 0)
  n_Call_number : NoAttr K (CA K "Call") "number"
  n_Call_numbers : NoAttr K (CA K "Call") "numbers"
  n_Call_rows : NoAttr K (CA K "Call") "rows"
  g_CallReader : mg "CallReader" = some (.ref (CA K "CallReader"))
  c_CallReader : Cls K (CA K "CallReader")
  k_CallReader : MkAt K (CA K "CallReader") "CallReader.__init__" (inClass (top 107) 0)
  m_CallReader_at_end : MethAt K (CA K "CallReader") "at_end" "CallReader.at_end" (inClass (top 107) 1)
  m_CallReader_take : MethAt K (CA K "CallReader") "take" "CallReader.take" (inClass (top 107) 2)
  m_CallReader_take_call : MethAt K (CA K "CallReader") "take_call" "CallReader.take_call" (inClass (top 107) 3)
  n_CallReader_calls : NoAttr K (CA K "CallReader") "calls"
  n_CallReader_place : NoAttr K (CA K "CallReader") "place"
  g_Desk : mg "Desk" = some (.ref (CA K "Desk"))
  c_Desk : Cls K (CA K "Desk")
  k_Desk : MkAt K (CA K "Desk") "Desk.__init__" (inClass (top 108) 0)
  n_Desk_solving : NoAttr K (CA K "Desk") "solving"
  d_has_square : DefAt K mg "has_square" (top 7)
  d_squares_of : DefAt K mg "squares_of" (top 8)
  d_places_of : DefAt K mg "places_of" (top 9)
  d_count_numbers : DefAt K mg "count_numbers" (top 10)
  d_ways_of_kind : DefAt K mg "ways_of_kind" (top 11)
  d_squares_along : DefAt K mg "squares_along" (top 12)
  d_is_on_board : DefAt K mg "is_on_board" (top 13)
  d_has_lost : DefAt K mg "has_lost" (top 20)
  d_holders_of : DefAt K mg "holders_of" (top 21)
  d_targets_of : DefAt K mg "targets_of" (top 22)
  d_moves_of : DefAt K mg "moves_of" (top 23)
  d_row_after : DefAt K mg "row_after" (top 24)
  d_end_outcome : DefAt K mg "end_outcome" (top 25)
  d_is_right : DefAt K mg "is_right" (top 42)
  d_check_right : DefAt K mg "check_right" (top 43)
  d_number_of : DefAt K mg "number_of" (top 44)
  d_row_of : DefAt K mg "row_of" (top 45)
  d_right_row_of : DefAt K mg "right_row_of" (top 46)
  d_right_numbers : DefAt K mg "right_numbers" (top 47)
  d_do_rounds : DefAt K mg "do_rounds" (top 50)
  d_do_round : DefAt K mg "do_round" (top 51)
  d_find_ends : DefAt K mg "find_ends" (top 52)
  d_find_by_leads : DefAt K mg "find_by_leads" (top 53)
  d_outcome_by_leads : DefAt K mg "outcome_by_leads" (top 54)
  d_value_of : DefAt K mg "value_of" (top 55)
  d_value_at : DefAt K mg "value_at" (top 56)
  d_check_solved : DefAt K mg "check_solved" (top 57)
  d_numbers_with : DefAt K mg "numbers_with" (top 59)
  d_first_with : DefAt K mg "first_with" (top 60)
  d_longest_of : DefAt K mg "longest_of" (top 61)
  d_best_move : DefAt K mg "best_move" (top 63)
  d_value_to_reach : DefAt K mg "value_to_reach" (top 64)
  d_best_line : DefAt K mg "best_line" (top 65)
  d_play_match : DefAt K mg "play_match" (top 69)
  d_take_reply : DefAt K mg "take_reply" (top 70)
  d_result_at_end : DefAt K mg "result_at_end" (top 71)
  d_read_game : DefAt K mg "read_game" (top 75)
  d_read_board : DefAt K mg "read_board" (top 76)
  d_read_kind : DefAt K mg "read_kind" (top 77)
  d_read_goals : DefAt K mg "read_goals" (top 78)
  d_read_pattern : DefAt K mg "read_pattern" (top 79)
  d_read_piece : DefAt K mg "read_piece" (top 80)
  d_table_of : DefAt K mg "table_of" (top 84)
  d_codes_of : DefAt K mg "codes_of" (top 85)
  d_shift_of : DefAt K mg "shift_of" (top 86)
  d_code_in : DefAt K mg "code_in" (top 87)
  d_first_wrong : DefAt K mg "first_wrong" (top 88)
  d_turned_pair : DefAt K mg "turned_pair" (top 92)
  d_mirrored_pair : DefAt K mg "mirrored_pair" (top 93)
  d_turned_square : DefAt K mg "turned_square" (top 94)
  d_turned_set : DefAt K mg "turned_set" (top 95)
  d_turned_patterns : DefAt K mg "turned_patterns" (top 96)
  d_turned_row : DefAt K mg "turned_row" (top 97)
  d_keeps_kind : DefAt K mg "keeps_kind" (top 98)
  d_keeps_game : DefAt K mg "keeps_game" (top 99)
  d_keeping_turns : DefAt K mg "keeping_turns" (top 100)
  d_turns_sum : DefAt K mg "turns_sum" (top 101)
  d_least_turn : DefAt K mg "least_turn" (top 102)
  d_tell_game : DefAt K mg "tell_game" (top 109)
  d_tell_solve : DefAt K mg "tell_solve" (top 110)
  d_tell_index : DefAt K mg "tell_index" (top 111)
  d_tell_pos : DefAt K mg "tell_pos" (top 112)
  d_tell_value : DefAt K mg "tell_value" (top 113)
  d_tell_moves : DefAt K mg "tell_moves" (top 114)
  d_tell_play : DefAt K mg "tell_play" (top 115)
  d_tell_best : DefAt K mg "tell_best" (top 116)
  d_tell_line : DefAt K mg "tell_line" (top 117)
  d_tell_many : DefAt K mg "tell_many" (top 118)
  d_tell_next : DefAt K mg "tell_next" (top 119)
  d_tell_longest : DefAt K mg "tell_longest" (top 120)
  d_tell_turns : DefAt K mg "tell_turns" (top 121)
  d_tell_least : DefAt K mg "tell_least" (top 122)
  d_tell_table : DefAt K mg "tell_table" (top 123)
  d_tell_judge : DefAt K mg "tell_judge" (top 124)
  d_tell_match : DefAt K mg "tell_match" (top 125)
  d_right_row : DefAt K mg "right_row" (top 127)
  d_check_outcome : DefAt K mg "check_outcome" (top 128)
  d_counted : DefAt K mg "counted" (top 129)
  d_answer_of : DefAt K mg "answer_of" (top 130)
  d_answers : DefAt K mg "answers" (top 131)
end Es
end

section
set_option Elab.async false
set_option linter.all false
set_option maxRecDepth 100000
set_option maxHeartbeats 4000000
namespace Es
open PySem PySem.Spec PyProof.Rows L2 Evl
section
variable {P : Program} {w : World} {K : Fr} {mg : Str → Option Value} {base : Heap}

/-! ### has_square -/
theorem bit_in (x s : Nat) : (decide (V.int (Builtin.bitAnd ((x : Int) / 2 ^ ((s : Int)).toNat) 1) = V.int 1)) = Lm.inSet x s := by
  have e : Builtin.bitAnd ((x : Int) / 2 ^ ((s : Int)).toNat) 1 = ((x / 2 ^ s % 2 : Nat) : Int) := by
    have h := Bits.bitAnd_mask (x := (x : Int) / 2 ^ ((s : Int)).toNat) 1 (Int.ediv_nonneg (Int.natCast_nonneg x) (Int.le_of_lt (Int.pow_pos (by decide))))
    have e2 : ((2 : Int) ^ 1 - 1) = 1 := by decide
    rw [e2] at h
    rw [h, Int.toNat_natCast]
    norm_cast
  rw [e]
  unfold Lm.inSet
  rw [Bool.eq_iff_iff, decide_eq_true_iff, beq_iff_eq]
  constructor
  · intro h
    have := V.int.inj h
    omega
  · intro h
    rw [h]
    rfl
def sp_has_square : Sp := fun vs H Q _ => ∃ x s : Nat, vs = [.int x, .int s] ∧ Q (.bl (Lm.inSet x s)) H
abbrev s_has_square : Stmt := top 7
abbrev n_has_square : List Str := ["squares", "square"]
theorem sc_has_square : FnScope n_has_square ["squares", "square"] (defScope s_has_square) := ⟨rfl, rfl, rfl, by decide +kernel, rfl, by decide +kernel, by decide +kernel⟩
theorem ok_has_square (T : Env K mg) : Cal P w K mg base CX0 1 "has_square" sp_has_square := by
  refine T.d_has_square.cal sc_has_square (fun _ _ _ _ _ _ us hl => match us, hl with | [_, _], _ => rfl) (fun vs H Q E h => ?_) (Body0.by fun f cdv A outer s H vs Q E hr h => ⟨_, (pss_one (ps_ret (pe_cmpR op_eq (pe_op op_and (pe_op op_shr (pv 0) (pv 1)) pe_int) pe_int (nomark _)))), ?_⟩)
  · obtain ⟨x, s, rfl, _⟩ := h
    rfl
  · obtain ⟨x, s, rfl, q⟩ := h
    refine ⟨_, rfl, _, rfl, _, _, rfl, rfl, Int.natCast_nonneg s, _, _, rfl, rfl, rfl, ?_⟩
    show Q (.bl (decide (V.int (Builtin.bitAnd ((x : Int) / 2 ^ ((s : Int)).toNat) 1) = V.int 1))) H
    rw [bit_in]
    exact q
end
end Es
end

section
set_option Elab.async false
set_option linter.all false
set_option maxRecDepth 100000
set_option maxHeartbeats 4000000
namespace Es
open PySem PySem.Spec PyProof.Rows L2 Evl

/-! ### more statements by what they evaluate to -/
section
variable {K : Fr} {σ : L2.St} {H H' : Hp} {ta tb te tv td ty : TE} {t : TT} {x y z v : V} {D : Ends} {tu tw tz : TS}
theorem s_dput {d : Addr} {kvs : List (Key × V)} {k : Key} (hd : H d = some (.dK kvs)) (hv : Ev tv σ H v) (ha : Ev td σ H (.ref d)) (hk : Ev ty σ H (kV k)) (hz : kvs.length < 100000) (q : ∀ H1, Ex H H1 → D.nx σ (upd H1 d (.dK (putK kvs k v)))) : sDPut td ty tv D σ H :=
  hv H (Ex.refl H) _ fun H1 e1 => ha H1 e1 _ fun H2 e2 => hk H2 (e1.trans e2) _ fun H3 e3 => ⟨d, _, rfl, DPut.k (((e1.trans e2).trans e3) _ _ hd) (sz_lt hz), q H3 ((e1.trans e2).trans e3)⟩
theorem s_dputL {d : Addr} {kvs : List (Key × V)} {k : Key} {xs : List V} (hd : H d = some (.dK kvs)) (hv : EvL tv σ H xs) (ha : Ev td σ H (.ref d)) (hk : Ev ty σ H (kV k)) (hz : kvs.length < 100000) (q : ∀ p H1, H p = none → Ex H H1 → H1 p = some (.lst xs) → D.nx σ (upd H1 d (.dK (putK kvs k (.ref p))))) : sDPut td ty tv D σ H :=
  hv H (Ex.refl H) _ fun p H1 hp e1 h1 => ha H1 e1 _ fun H2 e2 => hk H2 (e1.trans e2) _ fun H3 e3 => ⟨d, _, rfl, DPut.k (((e1.trans e2).trans e3) _ _ hd) (sz_lt hz), q p H3 hp ((e1.trans e2).trans e3) ((e2.trans e3) _ _ h1)⟩
theorem q_dput {d : Addr} {kvs : List (Key × V)} {k : Key} (hd : H d = some (.dK kvs)) (hv : Ev tv σ H v) (ha : Ev td σ H (.ref d)) (hk : Ev ty σ H (kV k)) (hz : kvs.length < 100000) (q : ∀ H1, Ex H H1 → tz D σ (upd H1 d (.dK (putK kvs k v)))) : tSeq (sDPut td ty tv) tz D σ H := s_dput (D := { D with nx := tz D }) hd hv ha hk hz q
theorem q_dnew {i : Nat} (q : ∀ d, H d = none → tz D (σ.set i (some (.ref d))) (upd H d (.dK []))) : tSeq (tAsg tDNewK (gName i)) tz D σ H := fun d hd => q d hd
theorem q_lnew {i : Nat} (q : ∀ d, H d = none → tz D (σ.set i (some (.ref d))) (upd H d (.lst []))) : tSeq (tAsg (tLst tNil) (gName i)) tz D σ H := ⟨by show 0 ≤ sizeLine; decide, fun d hd => q d hd⟩
theorem s_enum {a : Addr} {xs : List V} {ta : TA} {i j : Nat} (h : EvA ta σ H [.ref a]) (hx : SqL K H a xs) (Pv : Nat → L2.St → Hp → Prop) (h0 : ∀ H1, Ex H H1 → Pv 0 σ H1) (hl : ∀ i σ' H', i ≤ xs.length → Pv i σ' H' → SqL K H' a xs)
    (hs : ∀ (n : Nat) x σ' H' H2, xs[n]? = some x → Pv n σ' H' → Ex H' H2 → tu { D with nx := Pv (n + 1), ct := Pv (n + 1), bk := D.nx } ((σ'.set i (some (.int (n : Nat)))).set j (some x)) H2) (hd : ∀ σ' H', Pv xs.length σ' H' → D.nx σ' H') :
    tFor (iEnum K ta) (gTup K 2 (gCons (gName i) (gCons (gName j) gNil))) tu D σ H :=
  h H (Ex.refl H) _ fun H1 e1 => ⟨a, xs, rfl, ex_l e1 hx, for_it walk_enum Pv (h0 H1 e1) hl (fun n v σ' H' H2 hn p y => by
    obtain ⟨T, x, y, rfl, hT, rfl, ex, ey⟩ := y
    cases ex
    exact ⟨T, [.int (n : Nat), y], rfl, st_of upd_same, rfl, _, _, rfl, _, _, rfl, rfl, hs n y σ' H' _ ey p (Ex.new hT)⟩) hd⟩
theorem q_enum {a : Addr} {xs : List V} {ta : TA} {i j : Nat} (h : EvA ta σ H [.ref a]) (hx : SqL K H a xs) (Pv : Nat → L2.St → Hp → Prop) (h0 : ∀ H1, Ex H H1 → Pv 0 σ H1) (hl : ∀ i σ' H', i ≤ xs.length → Pv i σ' H' → SqL K H' a xs)
    (hs : ∀ (n : Nat) x σ' H' H2, xs[n]? = some x → Pv n σ' H' → Ex H' H2 → tu { D with nx := Pv (n + 1), ct := Pv (n + 1), bk := tz D } ((σ'.set i (some (.int (n : Nat)))).set j (some x)) H2) (hd : ∀ σ' H', Pv xs.length σ' H' → tz D σ' H') :
    tSeq (tFor (iEnum K ta) (gTup K 2 (gCons (gName i) (gCons (gName j) gNil))) tu) tz D σ H := s_enum (D := { D with nx := tz D }) h hx Pv h0 hl hs hd
theorem q_fld {p C dx : Addr} {fs : List (Str × V)} {f : Str} (hv : Ev tv σ H v) (ha : Ev ta σ H (.ref p)) (hp : H p = some (.ins C dx fs)) (cl : Cls K C) (na : NoAttr K C f) (hz : fs.length < 1000) (q : ∀ H1, Ex H H1 → tz D σ (upd H1 p (.ins C dx (putF f v fs)))) : tSeq (sFld K ta tv f) tz D σ H :=
  hv H (Ex.refl H) _ fun H1 e1 => ha H1 e1 _ fun H2 e2 => ⟨p, C, dx, fs, rfl, (e1.trans e2) _ _ hp, cl, na, hz, q H2 (e1.trans e2)⟩
theorem s_fld {p C dx : Addr} {fs : List (Str × V)} {f : Str} (hv : Ev tv σ H v) (ha : Ev ta σ H (.ref p)) (hp : H p = some (.ins C dx fs)) (cl : Cls K C) (na : NoAttr K C f) (hz : fs.length < 1000) (q : ∀ H1, Ex H H1 → D.nx σ (upd H1 p (.ins C dx (putF f v fs)))) : sFld K ta tv f D σ H :=
  hv H (Ex.refl H) _ fun H1 e1 => ha H1 e1 _ fun H2 e2 => ⟨p, C, dx, fs, rfl, (e1.trans e2) _ _ hp, cl, na, hz, q H2 (e1.trans e2)⟩
theorem ev_lenS {p : Addr} {xs : List V} (ha : Ev ta σ H (.ref p)) (h : SqL K H p xs) : Ev (tCB (fun xs H Q => ∃ p ys, xs = [.ref p] ∧ (SqL K H p ys ∨ SqT K H p ys) ∧ Q (.int ys.length) H) (tCons ta tNil)) σ H (.int (xs.length : Int)) := ev_len ha h
theorem ev_lenD {d : Addr} {kvs : List (Key × V)} (ha : Ev ta σ H (.ref d)) (hd : H d = some (.dK kvs)) : Ev (tCB (fun xs H Q => ∃ a kvs, xs = [V.ref a] ∧ H a = some (.dK kvs) ∧ Q (.int kvs.length) H) (tCons ta tNil)) σ H (.int (kvs.length : Int)) := fun H1 e Q q =>
  ha H1 e _ fun H2 e2 => ⟨d, kvs, rfl, e2 _ _ (e _ _ hd), q H2 e2⟩
end

/-! ### data: numbers, lists of them -/
def IL (l : List Nat) : List V := l.map fun (n : Nat) => V.int (n : Int)
theorem IL_len (l : List Nat) : (IL l).length = l.length := List.length_map ..
theorem IL_at {l : List Nat} {i : Nat} : (IL l)[i]? = (l[i]?).map fun (n : Nat) => V.int (n : Int) := List.getElem?_map ..
theorem IL_snoc (l : List Nat) (n : Nat) : IL (l ++ [n]) = IL l ++ [V.int (n : Int)] := by unfold IL; rw [List.map_append]; rfl
theorem IL_get {l : List Nat} {i : Nat} {x : V} (h : (IL l)[i]? = some x) : ∃ n : Nat, l[i]? = some n ∧ x = .int (n : Int) := by
  rw [IL_at] at h
  obtain ⟨n, e, q⟩ := Option.map_eq_some_iff.mp h
  exact ⟨n, e, q.symm⟩
theorem take_next {α : Type} {l : List α} {i : Nat} {x : α} (h : l[i]? = some x) : l.take (i + 1) = l.take i ++ [x] := by
  rw [List.take_add_one, h]
  rfl

section
variable {P : Program} {w : World} {K : Fr} {mg : Str → Option Value} {base : Heap}
theorem spv_has_square {H : Hp} (x s : Nat) : SpV sp_has_square ([.int x, .int s] ++ []) H (.bl (Lm.inSet x s)) := fun H1 _ _ q _ => ⟨x, s, rfl, q H1 (Ex.refl H1)⟩

/-! ### squares_of -/
def sp_squares_of : Sp := fun vs H Q _ => ∃ b : Nat, vs = [.int b] ∧ RetL (IL (Lm.squaresOf b)) H Q
abbrev s_squares_of : Stmt := top 8
abbrev n_squares_of : List Str := ["board", "square"]
theorem sc_squares_of : FnScope n_squares_of ["board"] (defScope s_squares_of) := ⟨rfl, rfl, rfl, by decide +kernel, rfl, by decide +kernel, by decide +kernel⟩
theorem ok_squares_of (T : Env K mg) : Cal P w K mg base CX0 2 "squares_of" sp_squares_of := by
  refine T.d_squares_of.cal sc_squares_of (fun _ _ _ _ _ _ us hl => match us, hl with | [_], _ => rfl) (fun vs H Q E h => ?_) (Body0.by fun f cdv A outer s H vs Q E hr h => ⟨_, (pss_one (ps_ret (pe_lc (own := [("square", 1)]) rfl sc_squares_of.nd (pi_range1 (by rfl) T.f_range (pa_cons pe_int pa_nil)) (blkOk_by (own := [("square", 1)]) (N := n_squares_of) (sc := defScope s_squares_of) (by decide +kernel)) (fun _ _ _ _ _ => pg_name (i := 1) sc_squares_of.nd rfl (Or.inl rfl)) (fun _ _ _ _ _ => (pts_one (pt_val (pe_c (ok_has_square T) hr (by decide) (by rfl) pass0 (pa_cons (pv 0) (pa_cons (pv 1) pa_nil)))))) (fun _ _ _ _ _ => (pv 1))))), ?_⟩)
  · obtain ⟨b, rfl, _⟩ := h
    rfl
  · obtain ⟨b, rfl, q⟩ := h
    exact s_retL (el_lcR1 (n := 64) (Lm.inSet b) (fun i => .int (i : Int)) (ea_cons ev_c ea_nil) ⟨by decide, by decide⟩ (fun x => rfl)
      (fun i H1 e hi => et_B (ev_call (ea_cons (ev_var rfl) (ea_cons (ev_var rfl) ea_nil)) (spv_has_square b i))) (fun i H1 e hi _ => ev_var rfl)) fun p H1 hp e h1 => q p H1 hp e h1

/-! ### places_of -/
def placesKV (b n : Nat) : List (Key × V) := ((Lm.squaresOf b).take n).zipIdx.map fun p => (Sum.inl (p.1 : Int), V.int (p.2 : Nat))
def placesD (b : Nat) : List (Key × V) := placesKV b (Lm.squaresOf b).length ++ [(Sum.inl 64, V.int ((Lm.squaresOf b).length : Nat))]
def sp_places_of : Sp := fun vs H Q _ => ∃ (b : Nat) (a : Addr), vs = [.ref a] ∧ H a = some (.lst (IL (Lm.squaresOf b))) ∧ ∀ p H', H p = none → Ex H H' → H' p = some (.dK (placesD b)) → Q (.ref p) H'
theorem valV_none_of {kvs : List (Key × V)} {k : Key} (h : ∀ p ∈ kvs, p.1 ≠ k) : valV kvs k = none := by
  cases e : valV kvs k with
  | none => rfl
  | some v =>
    have := valV_in e
    obtain ⟨p, hp, q⟩ := List.mem_map.mp this
    exact absurd q (h p hp)
theorem placesKV_len (b n : Nat) : (placesKV b n).length ≤ 64 := by
  unfold placesKV
  rw [List.length_map, List.length_zipIdx, List.length_take]
  have : (Lm.squaresOf b).length ≤ 64 := by
    have := List.length_filter_le (Lm.inSet b) (List.range 64)
    rw [List.length_range] at this
    exact this
  omega
theorem placesKV_mem {b n : Nat} {p : Key × V} (h : p ∈ placesKV b n) : ∃ (s j : Nat), (Lm.squaresOf b)[j]? = some s ∧ j < n ∧ p = (Sum.inl (s : Int), V.int (j : Nat)) := by
  unfold placesKV at h
  obtain ⟨⟨s, j⟩, hp, e⟩ := List.mem_map.mp h
  have hq := List.mem_zipIdx_iff_getElem?.mp hp
  rw [List.getElem?_take] at hq
  by_cases c : j < n
  · rw [if_pos c] at hq
    exact ⟨s, j, hq, c, e.symm⟩
  · rw [if_neg c] at hq
    cases hq
theorem placesKV_put {b n s : Nat} (h : (Lm.squaresOf b)[n]? = some s) : putK (placesKV b n) (Sum.inl (s : Int)) (V.int (n : Nat)) = placesKV b (n + 1) := by
  rw [putK_new]
  · unfold placesKV
    rw [take_next h, List.zipIdx_append, List.map_append]
    have : ((Lm.squaresOf b).take n).length = n := by
      rw [List.length_take]
      have := (List.getElem?_eq_some_iff.mp h).1
      omega
    rw [this, Nat.zero_add]
    rfl
  · refine valV_none_of fun p hp e => ?_
    obtain ⟨s', j, hj, hn, rfl⟩ := placesKV_mem hp
    have e : (s' : Int) = (s : Int) := Sum.inl.inj e
    have e : s' = s := by omega
    subst e
    have := (squares_at.mp hj).2.2
    have := (squares_at.mp h).2.2
    omega
abbrev s_places_of : Stmt := top 9
abbrev n_places_of : List Str := ["squares", "places", "place", "square"]
theorem sc_places_of : FnScope n_places_of ["squares"] (defScope s_places_of) := ⟨rfl, rfl, rfl, by decide +kernel, rfl, by decide +kernel, by decide +kernel⟩
theorem ok_places_of (T : Env K mg) : Cal P w K mg base CX0 1 "places_of" sp_places_of := by
  refine T.d_places_of.cal sc_places_of (fun _ _ _ _ _ _ us hl => match us, hl with | [_], _ => rfl) (fun vs H Q E h => ?_) (Body0.by fun f cdv A outer s H vs Q E hr h => ⟨_, (pss_cons (ps_set (i := 1) sc_places_of.nd rfl (Or.inl rfl) pe_dnewK) (pss_cons (ps_for PassesOwn.never rfl (pi_enum (by rfl) T.f_enumerate (pa_cons (pv 0) pa_nil)) (pg_tup rfl (pgs_cons (pg_name (i := 2) sc_places_of.nd rfl (Or.inl rfl)) (pgs_cons (pg_name (i := 3) sc_places_of.nd rfl (Or.inl rfl)) pgs_nil))) (pss_one (ps_dput (hu_of hr) (pv 1) (pv 3) (pv 2) rfl))) (pss_cons (ps_dput (hu_of hr) (pv 1) (pe_gv (by rfl) T.v_OFF) (pe_callB call_len_seq (by rfl) T.f_len PySem.boot_len (pa_cons (pv 0) pa_nil)) rfl) (pss_one (ps_ret (pv 1)))))), ?_⟩)
  · obtain ⟨b, a, rfl, _⟩ := h
    rfl
  · obtain ⟨b, a, rfl, ha, q⟩ := h
    refine q_dnew fun d hd => ?_
    have e0 : Ex H (upd H d (.dK [])) := Ex.new hd
    refine q_enum (K := K) (a := a) (xs := IL (Lm.squaresOf b)) (ea_cons (ev_var rfl) ea_nil) (sq_of (e0 _ _ ha)) (fun i σ H' => (∃ u v, σ = [some (.ref a), some (.ref d), u, v]) ∧ Ex H H' ∧ H' d = some (.dK (placesKV b i)))
      (fun H1 e1 => ⟨⟨none, none, rfl⟩, e0.trans e1, e1 _ _ upd_same⟩) (fun i σ' H' _ p => sq_of (p.2.1 _ _ ha)) ?_ ?_
    · rintro n x σ' H' H2 hx ⟨⟨u, v, rfl⟩, e1, hd1⟩ e2
      obtain ⟨s, hs, rfl⟩ := IL_get hx
      refine s_dput (d := d) (k := Sum.inl (s : Int)) (e2 _ _ hd1) (ev_var rfl) (ev_var rfl) (ev_var rfl) (by have := placesKV_len b n; omega) fun H3 e3 => ⟨⟨_, _, rfl⟩, Ex.mut ((e1.trans e2).trans e3) hd, ?_⟩
      rw [upd_same, placesKV_put hs]
    · rintro σ' H' ⟨⟨u, v, rfl⟩, e1, hd1⟩
      rw [IL_len] at hd1
      refine q_dput (d := d) (k := Sum.inl 64) hd1 (ev_lenS (K := K) (ev_var rfl) (sq_of (e1 _ _ ha))) (ev_var rfl) ev_c (by have := placesKV_len b (Lm.squaresOf b).length; omega) fun H2 e2 => ?_
      refine s_ret (ev_var rfl) fun H3 e3 => q d H3 hd ((Ex.mut (e1.trans e2) hd).trans e3) (e3 _ _ ?_)
      rw [upd_same, putK_new, IL_len]
      · rfl
      · refine valV_none_of fun p hp e => ?_
        obtain ⟨s', j, hj, hn, rfl⟩ := placesKV_mem hp
        have e : (s' : Int) = 64 := Sum.inl.inj e
        have := (squares_at.mp hj).1
        omega
end
end Es
end

section
set_option Elab.async false
set_option linter.all false
set_option maxRecDepth 100000
set_option maxHeartbeats 4000000
namespace Es
open PySem PySem.Spec PyProof.Rows L2 Evl

/-! ### what is new -/
/-- of H2 what H did not know -/
def New (H H2 : Hp) : Hp := fun a => if (H a).isNone = true then H2 a else none
def rem (H : Hp) (d : Addr) : Hp := fun a => if a = d then none else H a
theorem rem_ne {H : Hp} {d a : Addr} (h : a ≠ d) : rem H d a = H a := if_neg h
theorem rem_same {H : Hp} {d : Addr} : rem H d d = none := if_pos rfl
theorem rem_ex (H : Hp) (d : Addr) : Ex (rem H d) H := fun a o h => by
  by_cases c : a = d
  · rw [c, rem_same] at h; cases h
  · rw [rem_ne c] at h; exact h
theorem New.at {H H2 : Hp} {a : Addr} (h : H a = none) : New H H2 a = H2 a := if_pos (by rw [h]; rfl)
theorem New.not {H H2 : Hp} {a : Addr} {o : HO} (h : H a = some o) : New H H2 a = none := if_neg (by rw [h]; exact Bool.false_ne_true)
theorem New.get {H H2 : Hp} {a : Addr} {o : HO} (h : New H H2 a = some o) : H a = none ∧ H2 a = some o := by
  cases e : H a with
  | none => exact ⟨rfl, (New.at e).symm.trans h⟩
  | some u => rw [New.not e] at h; cases h
theorem New.ex (H H2 : Hp) : Ex (New H H2) H2 := fun a o h => (New.get h).2
theorem New.step {H H1 H2 : Hp} (e : Ex H1 H2) : Ex (New H H1) (New H H2) := fun a o h => by
  obtain ⟨x, y⟩ := New.get h
  rw [New.at x]
  exact e a o y
theorem New.sub {H H1 H2 : Hp} (e : Ex H H1) : Ex (New H1 H2) (New H H2) := fun a o h => by
  obtain ⟨x, y⟩ := New.get h
  rw [New.at (fresh_back e x)]
  exact y
theorem New.upd {H H2 : Hp} {p : Addr} {o u : HO} (h : H p = some u) : New H (upd H2 p o) = New H H2 := by
  funext a
  cases e : H a with
  | none => rw [New.at e, New.at e, upd_ne (ne_of_none h e).symm]
  | some v => rw [New.not e, New.not e]
/-- a new object of whose part that holds -/
def EvF (te : TE) (σ : L2.St) (H : Hp) (F : Addr → Hp → Prop) : Prop := ∀ H1, Ex H H1 → ∀ Q : VK, (∀ p H2, H1 p = none → Ex H1 H2 → F p (New H1 H2) → Q (.ref p) H2) → te σ H1 Q
def RetF (F : Addr → Hp → Prop) (H : Hp) (Q : VK) : Prop := ∀ p H2, H p = none → Ex H H2 → F p (New H H2) → Q (.ref p) H2
abbrev Mono (F : Hp → Prop) : Prop := ∀ H H', Ex H H' → F H → F H'
section
variable {K : Fr} {σ : L2.St} {H H' : Hp} {ta tb te tv td ty : TE} {t : TT} {x y z v : V} {D : Ends} {tu tw tz : TS} {F : Addr → Hp → Prop}
theorem EvF.of {xs : List V} (h : EvL te σ H xs) : EvF te σ H (fun p Hn => Hn p = some (.lst xs)) := fun H1 e Q q => h H1 e Q fun p H2 hp e2 h2 => q p H2 hp e2 ((New.at hp).trans h2)
theorem EvF.mono (e : Ex H H') (h : EvF te σ H F) : EvF te σ H' F := fun H1 a Q q => h H1 (e.trans a) Q q
theorem EvF.imp {G : Addr → Hp → Prop} (h : EvF te σ H F) (k : ∀ p Hn, F p Hn → G p Hn) : EvF te σ H G := fun H1 e Q q => h H1 e Q fun p H2 hp e2 f => q p H2 hp e2 (k p _ f)
/-- a call whose promise is a new object -/
theorem ef_call {sp : Sp} {vs : List V} {E : XK} {ta : TA} (mono : ∀ p, Mono (F p)) (h : EvA ta σ H vs) (hs : ∀ H1, Ex H H1 → ∀ Q : VK, RetF F H1 Q → sp (vs ++ []) H1 Q E) : EvF (tCall sp [] E ta) σ H F := fun H1 e Q q =>
  h H1 e _ fun H2 e2 => hs H2 (e.trans e2) Q fun p H3 hp e3 f => q p H3 (fresh_back e2 hp) (e2.trans e3) (mono p _ _ (New.sub e2) f)
theorem el_callR {sp : Sp} {vs xs : List V} {E : XK} {ta : TA} (h : EvA ta σ H vs) (hs : ∀ H1, Ex H H1 → ∀ Q : VK, RetL xs H1 Q → sp (vs ++ []) H1 Q E) : EvL (tCall sp [] E ta) σ H xs := fun H1 e Q q =>
  h H1 e _ fun H2 e2 => hs H2 (e.trans e2) Q fun p H3 hp e3 f => q p H3 (fresh_back e2 hp) (e2.trans e3) f
theorem ev_callR {sp : Sp} {vs : List V} {E : XK} {ta : TA} (h : EvA ta σ H vs) (hs : ∀ H1, Ex H H1 → ∀ Q : VK, RetV v H1 Q → sp (vs ++ []) H1 Q E) : Ev (tCall sp [] E ta) σ H v := fun H1 e Q q =>
  h H1 e _ fun H2 e2 => hs H2 (e.trans e2) Q fun H3 e3 => q H3 (e2.trans e3)
/-- C(e, ..), its arguments known -/
theorem ef_make {C : Addr} {sp : Sp} {vs : List V} {E : XK} {ta : TA} {fs : List (Str × V)} (h : EvA ta σ H vs) (hs : ∀ x dx H1 (Q : VK), H1 x = some (.ins C dx []) → Q .non (upd H1 x (.ins C dx fs)) → sp (.ref x :: (vs ++ [])) H1 Q E) :
    EvF (tMake C sp [] E ta) σ H (fun p Hn => ∃ dx, Hn p = some (.ins C dx fs)) := fun H1 e Q q => h H1 e _ fun H2 e2 x dx hx hdx ne => by
  have e3 : Ex H2 (upd (upd H2 dx (.own x)) x (.ins C dx [])) := (Ex.new hdx).trans (Ex.new (by rw [upd_ne ne.symm]; exact hx))
  exact hs x dx _ _ upd_same ⟨rfl, q x _ (fresh_back e2 hx) (e2.trans (Ex.mut e3 hx)) ⟨dx, (New.at (fresh_back e2 hx)).trans upd_same⟩⟩
/-- [e for x in xs], each e a new object -/
theorem ef_lc {a : Addr} {xs : List V} {tl : TE} {j : Nat} {vs : List Nat} {G : Nat → V → Addr → Hp → Prop} (mono : ∀ i x p, Mono (G i x p)) (h : Ev tl σ H (.ref a)) (hx : SqL K H a xs) (hz : xs.length ≤ 40000) (hw : ∀ x, wipe ((wipe σ vs).set j (some x)) vs = wipe σ vs)
    (he : ∀ (i : Nat) (x : V) H1, Ex H H1 → xs[i]? = some x → EvF te ((wipe σ vs).set j (some x)) H1 (G i x)) :
    EvF (tLc (iList K tl) (gName j) tYes te vs) σ H (fun p Hn => ∃ rs : List Addr, Hn p = some (.lst (rs.map V.ref)) ∧ rs.length = xs.length ∧ ∀ i x r, xs[i]? = some x → rs[i]? = some r → G i x r Hn) := fun H0 e Q q => h H0 e _ fun H1 e1 => ⟨a, rfl, ⟨xs, ex_l (e.trans e1) hx⟩, fun Dl hD => by
  refine lc_list (xs := xs) (fun n H' => Ex H1 H' ∧ ∃ rs : List Addr, H' Dl = some (.lst (rs.map V.ref)) ∧ rs.length = n ∧ ∀ i x r, xs[i]? = some x → rs[i]? = some r → G i x r (rem (New H1 H') Dl)) ⟨Ex.new hD, [], upd_same, rfl, fun i x r _ hr => by simp at hr⟩ (fun i H' _ p => ex_l ((e.trans e1).trans p.1) hx) ?_ ?_
  · rintro i x H' hi ⟨p1, rs, p2, p3, p4⟩
    refine ⟨hw x, ?_⟩
    show te ((wipe σ vs).set j (some x)) H' _
    refine he i x H' ((e.trans e1).trans p1) hi H' (Ex.refl H') _ fun r H3 hr e3 f3 => ⟨_, e3 _ _ p2, ?_, Ex.mut (p1.trans e3) hD, rs ++ [r], ?_, by simp [p3], ?_⟩
    · rw [List.length_map, p3]
      exact sz_lt (by have := (List.getElem?_eq_some_iff.mp hi).1; omega)
    · rw [upd_same, List.map_append]
      rfl
    · intro i' x' r' hx' hr'
      by_cases c : i' < rs.length
      · rw [List.getElem?_append_left c] at hr'
        refine mono _ _ _ _ _ (fun b o hb => ?_) (p4 i' x' r' hx' hr')
        have ne : b ≠ Dl := fun z => by rw [z, rem_same] at hb; cases hb
        rw [rem_ne ne] at hb ⊢
        obtain ⟨u, v⟩ := New.get hb
        rw [New.at u, upd_ne ne]
        exact e3 _ _ v
      · have ei : i' = rs.length := by
          have := (List.getElem?_eq_some_iff.mp hr').1
          rw [List.length_append, List.length_singleton] at this
          omega
        subst ei
        rw [List.getElem?_append_right (Nat.le_refl _), Nat.sub_self] at hr'
        have er : r = r' := by simpa using hr'
        subst er
        rw [p3] at hx' ⊢
        have ex : x = x' := Option.some.inj (hi.symm.trans hx')
        subst ex
        refine mono _ _ _ _ _ (fun b o hb => ?_) f3
        obtain ⟨u, v⟩ := New.get hb
        have ne : b ≠ Dl := fun z => by rw [z, p2] at u; cases u
        rw [rem_ne ne, New.at (fresh_back p1 u), upd_ne ne]
        exact v
  · rintro H' ⟨p1, rs, p2, p3, p4⟩
    refine q Dl H' (fresh_back e1 hD) (e1.trans p1) ⟨rs, ?_, p3, fun i x r h1 h2 => mono _ _ _ _ _ ((rem_ex _ _).trans (New.sub e1)) (p4 i x r h1 h2)⟩
    rw [New.at (fresh_back e1 hD)]
    exact p2⟩
theorem q_asgF {i : Nat} (h : EvF te σ H F) (k : ∀ p H1, H p = none → Ex H H1 → F p (New H H1) → tz D (σ.set i (some (.ref p))) H1) : tSeq (tAsg te (gName i)) tz D σ H := h H (Ex.refl H) _ fun p H1 hp e f => k p H1 hp e f
theorem s_retF (h : EvF te σ H F) (k : ∀ p H1, H p = none → Ex H H1 → F p (New H H1) → D.rt (.ref p) H1) : tRet te D σ H := h H (Ex.refl H) _ k
theorem q_fldF {p C dx : Addr} {fs : List (Str × V)} {f : Str} (hv : EvF tv σ H F) (ha : Ev ta σ H (.ref p)) (hp : H p = some (.ins C dx fs)) (cl : Cls K C) (na : NoAttr K C f) (hz : fs.length < 1000) (q : ∀ r H1, H r = none → Ex H H1 → F r (New H H1) → ∀ H2, Ex H1 H2 → tz D σ (upd H2 p (.ins C dx (putF f (.ref r) fs)))) : tSeq (sFld K ta tv f) tz D σ H :=
  hv H (Ex.refl H) _ fun r H1 hr e1 f1 => ha H1 e1 _ fun H2 e2 => ⟨p, C, dx, fs, rfl, (e1.trans e2) _ _ hp, cl, na, hz, q r H1 hr e1 f1 H2 e2⟩
theorem s_fldF {p C dx : Addr} {fs : List (Str × V)} {f : Str} (hv : EvF tv σ H F) (ha : Ev ta σ H (.ref p)) (hp : H p = some (.ins C dx fs)) (cl : Cls K C) (na : NoAttr K C f) (hz : fs.length < 1000) (q : ∀ r H1, H r = none → Ex H H1 → F r (New H H1) → ∀ H2, Ex H1 H2 → D.nx σ (upd H2 p (.ins C dx (putF f (.ref r) fs)))) : sFld K ta tv f D σ H :=
  hv H (Ex.refl H) _ fun r H1 hr e1 f1 => ha H1 e1 _ fun H2 e2 => ⟨p, C, dx, fs, rfl, (e1.trans e2) _ _ hp, cl, na, hz, q r H1 hr e1 f1 H2 e2⟩
theorem s_dputF {d : Addr} {kvs : List (Key × V)} {k : Key} (hd : H d = some (.dK kvs)) (hv : EvF tv σ H F) (ha : Ev td σ H (.ref d)) (hk : Ev ty σ H (kV k)) (hz : kvs.length < 100000) (q : ∀ p H1, H p = none → Ex H H1 → F p (New H H1) → ∀ H2, Ex H1 H2 → D.nx σ (upd H2 d (.dK (putK kvs k (.ref p))))) : sDPut td ty tv D σ H :=
  hv H (Ex.refl H) _ fun p H1 hp e1 h1 => ha H1 e1 _ fun H2 e2 => hk H2 (e1.trans e2) _ fun H3 e3 => ⟨d, _, rfl, DPut.k (((e1.trans e2).trans e3) _ _ hd) (sz_lt hz), q p H1 hp e1 h1 H3 (e2.trans e3)⟩
theorem ev_chain {i j k : Int} {f g : Int → Int → Bool} {tc : TE} (ha : Ev ta σ H (.int i)) (hb : Ev tb σ H (.int j)) (hc : Ev tc σ H (.int k)) : Ev (tChain (rI0 fun a b => .bl (f a b)) (rI0 fun a b => .bl (g a b)) ta tb tc) σ H (.bl (f i j && g j k)) := fun H1 e Q q =>
  ha H1 e _ fun H2 e2 => hb H2 (e.trans e2) _ fun H3 e3 => ⟨i, j, rfl, rfl, f i j, rfl, by
    cases hf : f i j with
    | true =>
      refine iteT (hc H3 ((e.trans e2).trans e3) _ fun H4 e4 => ⟨j, k, rfl, rfl, ?_⟩)
      have := q H4 ((e2.trans e3).trans e4)
      rw [hf] at this
      exact this
    | false =>
      refine iteF ?_
      have := q H3 (e2.trans e3)
      rw [hf] at this
      exact this⟩
end
theorem fmod_nat (a b : Nat) : (a : Int).fmod (b : Int) = ((a % b : Nat) : Int) := by
  rw [Int.fmod_eq_emod_of_nonneg _ (Int.natCast_nonneg b)]
  rfl
theorem fdiv_nat (a b : Nat) : (a : Int).fdiv (b : Int) = ((a / b : Nat) : Int) := by
  rw [Int.fdiv_eq_ediv_of_nonneg _ (Int.natCast_nonneg b)]
  rfl
end Es
end

section
set_option Elab.async false
set_option linter.all false
set_option maxRecDepth 100000
set_option maxHeartbeats 4000000
namespace Es
open PySem PySem.Spec PyProof.Rows L2 Evl
/-! ### how a game lies in the heap -/
def b2 (b : Bool) : Int := if b = true then 1 else 0
def PatAt (K : Fr) (H : Hp) (a : Addr) (q : Lm.Pattern) : Prop := ∃ dx, H a = some (.ins (CA K "Pattern") dx [("df", .int q.df), ("dr", .int q.dr), ("reach", .int (q.reach : Nat)), ("how", .int (q.how : Nat))])
def PieceAt (K : Fr) (H : Hp) (a : Addr) (p : Nat × Nat) : Prop := ∃ dx, H a = some (.ins (CA K "Piece") dx [("kind", .int (p.1 : Nat)), ("side", .int (p.2 : Nat))])
/-- rs: a place each of l, of which R -/
def AllAt {α : Type} (R : Addr → α → Prop) (rs : List Addr) (l : List α) : Prop := rs.length = l.length ∧ ∀ (i : Nat) r x, rs[i]? = some r → l[i]? = some x → R r x
def KindAt (K : Fr) (H : Hp) (a : Addr) (k : Lm.Kind) : Prop := ∃ dx l rs, H a = some (.ins (CA K "Kind") dx [("royal", .int (b2 k.royal)), ("goals", .int (k.goals : Nat)), ("patterns", .ref l)]) ∧ H l = some (.lst (rs.map V.ref)) ∧ AllAt (PatAt K H) rs k.pats
def WayAt (K : Fr) (H : Hp) (a : Addr) (how : Nat) (sq : List Nat) : Prop := ∃ dx l, H a = some (.ins (CA K "Way") dx [("how", .int (how : Nat)), ("squares", .ref l)]) ∧ H l = some (.lst (IL sq))
def WaysAt (K : Fr) (H : Hp) (a : Addr) (b s : Nat) (k : Lm.Kind) : Prop := ∃ rs : List Addr, H a = some (.lst (rs.map V.ref)) ∧ AllAt (fun r (q : Lm.Pattern) => WayAt K H r q.how (wayOf b s q)) rs k.pats
def wayKV (l : List Nat) (rs : List Addr) : List (Key × V) := List.zipWith (fun (s : Nat) r => (Sum.inl (s : Int), V.ref r)) l rs
def KWaysAt (K : Fr) (H : Hp) (a : Addr) (b : Nat) (k : Lm.Kind) : Prop := ∃ rs : List Addr, H a = some (.dK (wayKV (Lm.squaresOf b) rs)) ∧ AllAt (fun r (s : Nat) => WaysAt K H r b s k) rs (Lm.squaresOf b)
theorem AllAt.imp {α : Type} {R S : Addr → α → Prop} {rs : List Addr} {l : List α} (h : AllAt R rs l) (k : ∀ r x, R r x → S r x) : AllAt S rs l := ⟨h.1, fun i r x a b => k r x (h.2 i r x a b)⟩
theorem AllAt.get {α : Type} {R : Addr → α → Prop} {rs : List Addr} {l : List α} (h : AllAt R rs l) {i : Nat} {x : α} (hx : l[i]? = some x) : ∃ r, rs[i]? = some r ∧ R r x := by
  have hi := (List.getElem?_eq_some_iff.mp hx).1
  have hr : i < rs.length := by rw [h.1]; exact hi
  exact ⟨rs[i], List.getElem?_eq_getElem hr, h.2 i _ x (List.getElem?_eq_getElem hr) hx⟩
theorem AllAt.get' {α : Type} {R : Addr → α → Prop} {rs : List Addr} {l : List α} (h : AllAt R rs l) {i : Nat} {r : Addr} (hr : rs[i]? = some r) : ∃ x, l[i]? = some x ∧ R r x := by
  have hi := (List.getElem?_eq_some_iff.mp hr).1
  have hx : i < l.length := by rw [← h.1]; exact hi
  exact ⟨l[i], List.getElem?_eq_getElem hx, h.2 i r _ hr (List.getElem?_eq_getElem hx)⟩
section
variable {K : Fr}
theorem PatAt.mono {a : Addr} {q : Lm.Pattern} : Mono fun H => PatAt K H a q := fun H H' e ⟨dx, h⟩ => ⟨dx, e _ _ h⟩
theorem PieceAt.mono {a : Addr} {q : Nat × Nat} : Mono fun H => PieceAt K H a q := fun H H' e ⟨dx, h⟩ => ⟨dx, e _ _ h⟩
theorem KindAt.mono {a : Addr} {k : Lm.Kind} : Mono fun H => KindAt K H a k := fun H H' e ⟨dx, l, rs, h1, h2, h3⟩ => ⟨dx, l, rs, e _ _ h1, e _ _ h2, h3.imp fun r x => PatAt.mono H H' e⟩
theorem WayAt.mono {a : Addr} {how : Nat} {sq : List Nat} : Mono fun H => WayAt K H a how sq := fun H H' e ⟨dx, l, h1, h2⟩ => ⟨dx, l, e _ _ h1, e _ _ h2⟩
theorem WaysAt.mono {a : Addr} {b s : Nat} {k : Lm.Kind} : Mono fun H => WaysAt K H a b s k := fun H H' e ⟨rs, h1, h2⟩ => ⟨rs, e _ _ h1, h2.imp fun r x => WayAt.mono H H' e⟩
theorem KWaysAt.mono {a : Addr} {b : Nat} {k : Lm.Kind} : Mono fun H => KWaysAt K H a b k := fun H H' e ⟨rs, h1, h2⟩ => ⟨rs, e _ _ h1, h2.imp fun r x => WaysAt.mono H H' e⟩
end
/-- what bytes that tell a game say of it -/
structure Fit (g : Lm.Game) : Prop where
  np : 1 ≤ g.pieces.length ∧ g.pieces.length ≤ 6
  nk : g.kinds.length ≤ 8
  st : g.stuck ≤ 2
  bd : g.board < 2 ^ 64
  pk : ∀ p ∈ g.pieces, p.1 < g.kinds.length ∧ p.2 ≤ 1
  kd : ∀ k ∈ g.kinds, k.pats.length ≤ 16 ∧ k.goals < 2 ^ 64 ∧ (∀ s, Lm.inSet k.goals s = true → Lm.inSet g.board s = true) ∧ ∀ q ∈ k.pats, q.reach ≤ 7 ∧ 1 ≤ q.how ∧ q.how ≤ 3 ∧ -7 ≤ q.df ∧ q.df ≤ 7 ∧ -7 ≤ q.dr ∧ q.dr ≤ 7
structure GameAt (K : Fr) (H : Hp) (a : Addr) (g : Lm.Game) (dx lk lp ls dp lw : Addr) (ks ps ws : List Addr) : Prop where
  obj : H a = some (.ins (CA K "Game") dx [("stuck", .int (g.stuck : Nat)), ("passing", .int (b2 g.pass)), ("board", .int (g.board : Nat)), ("kinds", .ref lk), ("pieces", .ref lp), ("squares", .ref ls), ("places", .ref dp), ("total", .int (g.count : Nat)), ("ways", .ref lw)])
  kinds : H lk = some (.lst (ks.map V.ref))
  kindsA : AllAt (KindAt K H) ks g.kinds
  pieces : H lp = some (.lst (ps.map V.ref))
  piecesA : AllAt (PieceAt K H) ps g.pieces
  squares : H ls = some (.lst (IL (Lm.squaresOf g.board)))
  places : H dp = some (.dK (placesD g.board))
  ways : H lw = some (.lst (ws.map V.ref))
  waysA : AllAt (fun r k => KWaysAt K H r g.board k) ws g.kinds
def GAt (K : Fr) (H : Hp) (a : Addr) (g : Lm.Game) : Prop := ∃ dx lk lp ls dp lw ks ps ws, GameAt K H a g dx lk lp ls dp lw ks ps ws
theorem GAt.mono {K : Fr} {a : Addr} {g : Lm.Game} : Mono fun H => GAt K H a g := fun H H' e ⟨dx, lk, lp, ls, dp, lw, ks, ps, ws, G⟩ => ⟨dx, lk, lp, ls, dp, lw, ks, ps, ws, ⟨e _ _ G.obj, e _ _ G.kinds, G.kindsA.imp fun r x => KindAt.mono H H' e, e _ _ G.pieces, G.piecesA.imp fun r x => PieceAt.mono H H' e, e _ _ G.squares, e _ _ G.places, e _ _ G.ways, G.waysA.imp fun r x => KWaysAt.mono H H' e⟩⟩

section
variable {P : Program} {w : World} {K : Fr} {mg : Str → Option Value} {base : Heap}
/-! ### the small classes -/
def sp_init4 (C : Addr) (f1 f2 f3 f4 : Str) : Sp := fun vs H Q _ => ∃ p dx a b c d, vs = [.ref p, a, b, c, d] ∧ H p = some (.ins C dx []) ∧ Q .non (upd H p (.ins C dx [(f1, a), (f2, b), (f3, c), (f4, d)]))
def sp_init3 (C : Addr) (f1 f2 f3 : Str) : Sp := fun vs H Q _ => ∃ p dx a b c, vs = [.ref p, a, b, c] ∧ H p = some (.ins C dx []) ∧ Q .non (upd H p (.ins C dx [(f1, a), (f2, b), (f3, c)]))
def sp_init2 (C : Addr) (f1 f2 : Str) : Sp := fun vs H Q _ => ∃ p dx a b, vs = [.ref p, a, b] ∧ H p = some (.ins C dx []) ∧ Q .non (upd H p (.ins C dx [(f1, a), (f2, b)]))
theorem putF_nil {f : Str} {v : V} : putF f v [] = [(f, v)] := rfl
theorem putF_ne {f g : Str} {v x : V} {r : List (Str × V)} (h : ¬ g = f) : putF f v ((g, x) :: r) = (g, x) :: putF f v r := if_neg h
abbrev s_Pattern___init__ : Stmt := inClass (top 2) 0
abbrev n_Pattern___init__ : List Str := ["self", "df", "dr", "reach", "how"]
theorem sc_Pattern___init__ : FnScope n_Pattern___init__ ["self", "df", "dr", "reach", "how"] (defScope s_Pattern___init__) := ⟨rfl, rfl, rfl, by decide +kernel, rfl, by decide +kernel, by decide +kernel⟩
theorem mk_Pattern (T : Env K mg) : Mak P w K mg base CX0 1 (CA K "Pattern") (sp_init4 (CA K "Pattern") "df" "dr" "reach" "how") := by
  refine T.k_Pattern.mak sc_Pattern___init__ (fun _ _ _ _ _ _ us hl => match us, hl with | [_, _, _, _, _], _ => rfl) (fun vs H Q E h => ?_) (Body0.by fun f cdv A outer s H vs Q E hr h => ⟨_, (pss_cons (ps_fld (pv 0) (pv 1) rfl) (pss_cons (ps_fld (pv 0) (pv 2) rfl) (pss_cons (ps_fld (pv 0) (pv 3) rfl) (pss_one (ps_fld (pv 0) (pv 4) rfl))))), ?_⟩)
  · obtain ⟨p, dx, a, b, c, d, rfl, _⟩ := h
    rfl
  · obtain ⟨p, dx, a, b, c, d, rfl, hp, q⟩ := h
    refine ⟨_, rfl, _, rfl, p, _, dx, _, rfl, hp, T.c_Pattern, T.n_Pattern_df, (by show 0 < 1000; decide), ?_⟩
    refine ⟨_, rfl, _, rfl, p, _, dx, _, rfl, upd_same, T.c_Pattern, T.n_Pattern_dr, (by show 1 < 1000; decide), ?_⟩
    refine ⟨_, rfl, _, rfl, p, _, dx, _, rfl, upd_same, T.c_Pattern, T.n_Pattern_reach, (by show 2 < 1000; decide), ?_⟩
    refine ⟨_, rfl, _, rfl, p, _, dx, _, rfl, upd_same, T.c_Pattern, T.n_Pattern_how, (by show 3 < 1000; decide), ?_⟩
    rw [upd_upd, upd_upd, upd_upd]
    exact q
abbrev s_Kind___init__ : Stmt := inClass (top 3) 0
abbrev n_Kind___init__ : List Str := ["self", "royal", "goals", "patterns"]
theorem sc_Kind___init__ : FnScope n_Kind___init__ ["self", "royal", "goals", "patterns"] (defScope s_Kind___init__) := ⟨rfl, rfl, rfl, by decide +kernel, rfl, by decide +kernel, by decide +kernel⟩
theorem mk_Kind (T : Env K mg) : Mak P w K mg base CX0 1 (CA K "Kind") (sp_init3 (CA K "Kind") "royal" "goals" "patterns") := by
  refine T.k_Kind.mak sc_Kind___init__ (fun _ _ _ _ _ _ us hl => match us, hl with | [_, _, _, _], _ => rfl) (fun vs H Q E h => ?_) (Body0.by fun f cdv A outer s H vs Q E hr h => ⟨_, (pss_cons (ps_fld (pv 0) (pv 1) rfl) (pss_cons (ps_fld (pv 0) (pv 2) rfl) (pss_one (ps_fld (pv 0) (pv 3) rfl)))), ?_⟩)
  · obtain ⟨p, dx, a, b, c, rfl, _⟩ := h
    rfl
  · obtain ⟨p, dx, a, b, c, rfl, hp, q⟩ := h
    refine ⟨_, rfl, _, rfl, p, _, dx, _, rfl, hp, T.c_Kind, T.n_Kind_royal, (by show 0 < 1000; decide), ?_⟩
    refine ⟨_, rfl, _, rfl, p, _, dx, _, rfl, upd_same, T.c_Kind, T.n_Kind_goals, (by show 1 < 1000; decide), ?_⟩
    refine ⟨_, rfl, _, rfl, p, _, dx, _, rfl, upd_same, T.c_Kind, T.n_Kind_patterns, (by show 2 < 1000; decide), ?_⟩
    rw [upd_upd, upd_upd]
    exact q
abbrev s_Piece___init__ : Stmt := inClass (top 4) 0
abbrev n_Piece___init__ : List Str := ["self", "kind", "side"]
theorem sc_Piece___init__ : FnScope n_Piece___init__ ["self", "kind", "side"] (defScope s_Piece___init__) := ⟨rfl, rfl, rfl, by decide +kernel, rfl, by decide +kernel, by decide +kernel⟩
theorem mk_Piece (T : Env K mg) : Mak P w K mg base CX0 1 (CA K "Piece") (sp_init2 (CA K "Piece") "kind" "side") := by
  refine T.k_Piece.mak sc_Piece___init__ (fun _ _ _ _ _ _ us hl => match us, hl with | [_, _, _], _ => rfl) (fun vs H Q E h => ?_) (Body0.by fun f cdv A outer s H vs Q E hr h => ⟨_, (pss_cons (ps_fld (pv 0) (pv 1) rfl) (pss_one (ps_fld (pv 0) (pv 2) rfl))), ?_⟩)
  · obtain ⟨p, dx, a, b, rfl, _⟩ := h
    rfl
  · obtain ⟨p, dx, a, b, rfl, hp, q⟩ := h
    refine ⟨_, rfl, _, rfl, p, _, dx, _, rfl, hp, T.c_Piece, T.n_Piece_kind, (by show 0 < 1000; decide), ?_⟩
    refine ⟨_, rfl, _, rfl, p, _, dx, _, rfl, upd_same, T.c_Piece, T.n_Piece_side, (by show 1 < 1000; decide), ?_⟩
    rw [upd_upd]
    exact q
abbrev s_Way___init__ : Stmt := inClass (top 5) 0
abbrev n_Way___init__ : List Str := ["self", "how", "squares"]
theorem sc_Way___init__ : FnScope n_Way___init__ ["self", "how", "squares"] (defScope s_Way___init__) := ⟨rfl, rfl, rfl, by decide +kernel, rfl, by decide +kernel, by decide +kernel⟩
theorem mk_Way (T : Env K mg) : Mak P w K mg base CX0 1 (CA K "Way") (sp_init2 (CA K "Way") "how" "squares") := by
  refine T.k_Way.mak sc_Way___init__ (fun _ _ _ _ _ _ us hl => match us, hl with | [_, _, _], _ => rfl) (fun vs H Q E h => ?_) (Body0.by fun f cdv A outer s H vs Q E hr h => ⟨_, (pss_cons (ps_fld (pv 0) (pv 1) rfl) (pss_one (ps_fld (pv 0) (pv 2) rfl))), ?_⟩)
  · obtain ⟨p, dx, a, b, rfl, _⟩ := h
    rfl
  · obtain ⟨p, dx, a, b, rfl, hp, q⟩ := h
    refine ⟨_, rfl, _, rfl, p, _, dx, _, rfl, hp, T.c_Way, T.n_Way_how, (by show 0 < 1000; decide), ?_⟩
    refine ⟨_, rfl, _, rfl, p, _, dx, _, rfl, upd_same, T.c_Way, T.n_Way_squares, (by show 1 < 1000; decide), ?_⟩
    rw [upd_upd]
    exact q

/-! ### is_on_board -/
def sp_is_on_board : Sp := fun vs H Q _ => ∃ (b : Nat) (f r : Int), vs = [.int b, .int f, .int r] ∧ RetV (.bl (fitsB b f r)) H Q
abbrev s_is_on_board : Stmt := top 13
abbrev n_is_on_board : List Str := ["board", "file", "rank"]
theorem sc_is_on_board : FnScope n_is_on_board ["board", "file", "rank"] (defScope s_is_on_board) := ⟨rfl, rfl, rfl, by decide +kernel, rfl, by decide +kernel, by decide +kernel⟩
theorem ok_is_on_board (T : Env K mg) : Cal P w K mg base CX0 2 "is_on_board" sp_is_on_board := by
  refine T.d_is_on_board.cal sc_is_on_board (fun _ _ _ _ _ _ us hl => match us, hl with | [_, _, _], _ => rfl) (fun vs H Q E h => ?_) (Body0.by fun f cdv A outer s H vs Q E hr h => ⟨_, (pss_one (ps_ret (pe_and (pe_chain op_le op_le pe_int (pv 1) pe_int) (pe_and (pe_chain op_le op_le pe_int (pv 2) pe_int) (pe_one (pe_c (ok_has_square T) hr (by decide) (by rfl) pass0 (pa_cons (pv 0) (pa_cons (pe_op op_add (pe_op op_mul pe_int (pv 2)) (pv 1)) pa_nil)))))))), ?_⟩)
  · obtain ⟨b, f, r, rfl, _⟩ := h
    rfl
  · obtain ⟨b, f, r, rfl, q⟩ := h
    have key : Ev (tAndV (tChain (rI0 fun i j => .bl (decide (i ≤ j))) (rI0 fun i j => .bl (decide (i ≤ j))) (tC (.int 0)) (tVar 1) (tC (.int 7))) (tAndV (tChain (rI0 fun i j => .bl (decide (i ≤ j))) (rI0 fun i j => .bl (decide (i ≤ j))) (tC (.int 0)) (tVar 2) (tC (.int 7))) (tCall sp_has_square [] E0 (tCons (tVar 0) (tCons (tOp (rI0 fun i j => .int (i + j)) (tOp (rI CMul fun i j => .int (i * j)) (tC (.int 8)) (tVar 2)) (tVar 1)) tNil))))) (start n_is_on_board [.int b, .int f, .int r]) H
        (.bl ((decide (0 ≤ f) && decide (f ≤ 7)) && ((decide (0 ≤ r) && decide (r ≤ 7)) && Lm.inSet b (8 * r + f).toNat))) := by
      refine ev_andV (ev_chain ev_c (ev_var rfl) ev_c) fun h1 => ev_andV (ev_chain ev_c (ev_var rfl) ev_c) fun h2 => ?_
      have e : (8 * r + f) = (((8 * r + f).toNat : Nat) : Int) := by
        simp only [Bool.and_eq_true, decide_eq_true_eq] at h1 h2
        omega
      have ea : EvA (tCons (tVar 0) (tCons (tOp (rI0 fun i j => .int (i + j)) (tOp (rI CMul fun i j => .int (i * j)) (tC (.int 8)) (tVar 2)) (tVar 1)) tNil)) (start n_is_on_board [.int b, .int f, .int r]) H [.int b, .int (8 * r + f)] :=
        ea_cons (ev_var rfl) (ea_cons (ev_op (ev_op ev_c (ev_var rfl) (rv_I (Or.inl ⟨by decide, by decide⟩))) (ev_var rfl) rv_I0) ea_nil)
      rw [e] at ea
      exact ev_call ea (spv_has_square b _)
    refine s_ret key fun H1 e1 => ?_
    have e : fitsB b f r = ((decide (0 ≤ f) && decide (f ≤ 7)) && ((decide (0 ≤ r) && decide (r ≤ 7)) && Lm.inSet b (8 * r + f).toNat)) := by
      unfold fitsB
      rw [Bool.and_assoc]
    rw [← e]
    exact q H1 e1
end
end Es
end

section
set_option Elab.async false
set_option linter.all false
set_option maxRecDepth 100000
set_option maxHeartbeats 4000000
namespace Es
open PySem PySem.Spec PyProof.Rows L2 Evl
section
variable {P : Program} {w : World} {K : Fr} {mg : Str → Option Value} {base : Heap}
theorem squares_le (b : Nat) : (Lm.squaresOf b).length ≤ 64 := by
  have := List.length_filter_le (Lm.inSet b) (List.range 64)
  rw [List.length_range] at this
  exact this
/-! ### count_numbers -/
theorem count_le (b n : Nat) (hn : n ≤ 6) : 2 * ((Lm.squaresOf b).length + 1) ^ n < 2 ^ 63 := by
  have h1 : ((Lm.squaresOf b).length + 1) ^ n ≤ 65 ^ n := Nat.pow_le_pow_left (by have := squares_le b; omega) n
  have h2 : 65 ^ n ≤ 65 ^ 6 := Nat.pow_le_pow_right (by decide) hn
  have h3 : 2 * 65 ^ 6 < 2 ^ 63 := by decide
  omega
def sp_count_numbers : Sp := fun vs H Q _ => ∃ (b : Nat) (a : Addr) (xs : List V), vs = [.int b, .ref a] ∧ H a = some (.lst xs) ∧ xs.length ≤ 6 ∧ RetV (.int ((2 * ((Lm.squaresOf b).length + 1) ^ xs.length : Nat) : Int)) H Q
abbrev s_count_numbers : Stmt := top 10
abbrev n_count_numbers : List Str := ["board", "pieces", "places", "total", "piece"]
theorem sc_count_numbers : FnScope n_count_numbers ["board", "pieces"] (defScope s_count_numbers) := ⟨rfl, rfl, rfl, by decide +kernel, rfl, by decide +kernel, by decide +kernel⟩
theorem ok_count_numbers (T : Env K mg) : Cal P w K mg base CX0 3 "count_numbers" sp_count_numbers := by
  refine T.d_count_numbers.cal sc_count_numbers (fun _ _ _ _ _ _ us hl => match us, hl with | [_, _], _ => rfl) (fun vs H Q E h => ?_) (Body0.by fun f cdv A outer s H vs Q E hr h => ⟨_, (pss_cons (ps_set (i := 2) sc_count_numbers.nd rfl (Or.inl rfl) (pe_op op_add (pe_callB call_len_seq (by rfl) T.f_len PySem.boot_len (pa_cons (pe_c (ok_squares_of T) hr (by decide) (by rfl) pass0 (pa_cons (pv 0) pa_nil)) pa_nil)) pe_int)) (pss_cons (ps_set (i := 3) sc_count_numbers.nd rfl (Or.inl rfl) pe_int) (pss_cons (ps_for PassesOwn.never rfl (pi_list (pv 1)) (pg_name (i := 4) sc_count_numbers.nd rfl (Or.inl rfl)) (pss_one (ps_set (i := 3) sc_count_numbers.nd rfl (Or.inl rfl) (pe_op op_mul (pv 3) (pv 2))))) (pss_one (ps_ret (pv 3)))))), ?_⟩)
  · obtain ⟨b, a, xs, rfl, _⟩ := h
    rfl
  · obtain ⟨b, a, xs, rfl, ha, hl, q⟩ := h
    refine q_asg (ev_op (ev_lenN (K := K) (el_callR (ea_cons (ev_var rfl) ea_nil) fun H1 _ Q' q' => ⟨b, rfl, q'⟩)) ev_c rv_I0) fun H1 e1 => ?_
    rw [IL_len]
    refine q_asg ev_c fun H2 e2 => ?_
    refine q_forLn (K := K) (a := a) (xs := xs) (ev_var rfl) (sq_of ((e1.trans e2) _ _ ha)) (fun i σ H' => (∃ u, σ = [some (.int b), some (.ref a), some (.int ((Lm.squaresOf b).length + 1)), some (.int ((2 * ((Lm.squaresOf b).length + 1) ^ i : Nat) : Int)), u]) ∧ Ex H H') (fun H3 e3 => ⟨⟨none, rfl⟩, (e1.trans e2).trans e3⟩) (fun i σ' H' _ p => sq_of (p.2 _ _ ha)) ?_ ?_
    · rintro i x σ' H' hx ⟨⟨u, rfl⟩, e3⟩
      have hi := (List.getElem?_eq_some_iff.mp hx).1
      have hb := count_le b i (by omega)
      refine s_asg (ev_op (ev_var rfl) (ev_var rfl) (rv_I (Or.inl ⟨by omega, by omega⟩))) fun H4 e4 => ⟨⟨some x, ?_⟩, e3.trans e4⟩
      rw [Nat.pow_succ]
      show _ = [some (V.int b), some (V.ref a), _, some (V.int ((2 * (((Lm.squaresOf b).length + 1) ^ i * ((Lm.squaresOf b).length + 1)) : Nat) : Int)), some x]
      have e : ((2 * ((Lm.squaresOf b).length + 1) ^ i : Nat) : Int) * ((Lm.squaresOf b).length + 1) = ((2 * (((Lm.squaresOf b).length + 1) ^ i * ((Lm.squaresOf b).length + 1)) : Nat) : Int) := by
        rw [← Nat.mul_assoc]
        push_cast
        rfl
      rw [← e]
      rfl
    · rintro σ' H' ⟨⟨u, rfl⟩, e3⟩
      exact s_ret (ev_var rfl) fun H4 e4 => q H4 (e3.trans e4)

/-! ### squares_along -/
def sp_squares_along : Sp := fun vs H Q _ => ∃ (b s : Nat) (a : Addr) (p : Lm.Pattern), vs = [.int b, .int s, .ref a] ∧ PatAt K H a p ∧ p.reach ≤ 7 ∧ RetL (IL (wayOf b s p)) H Q
abbrev s_squares_along : Stmt := top 12
abbrev n_squares_along : List Str := ["board", "square", "pattern", "found", "file", "rank"]
theorem sc_squares_along : FnScope n_squares_along ["board", "square", "pattern"] (defScope s_squares_along) := ⟨rfl, rfl, rfl, by decide +kernel, rfl, by decide +kernel, by decide +kernel⟩
theorem ok_squares_along (T : Env K mg) : Cal P w K mg base CX0 3 "squares_along" (sp_squares_along (K := K)) := by
  refine T.d_squares_along.cal sc_squares_along (fun _ _ _ _ _ _ us hl => match us, hl with | [_, _, _], _ => rfl) (fun vs H Q E h => ?_) (Body0.by fun f cdv A outer s H vs Q E hr h => ⟨_, (pss_cons (ps_set (i := 3) sc_squares_along.nd rfl (Or.inl rfl) (pe_lst pa_nil)) (pss_cons (ps_set (i := 4) sc_squares_along.nd rfl (Or.inl rfl) (pe_op op_add (pe_op op_modN (pv 1) pe_int) (pe_fld (pv 2) rfl))) (pss_cons (ps_set (i := 5) sc_squares_along.nd rfl (Or.inl rfl) (pe_op op_add (pe_op op_fdivN (pv 1) pe_int) (pe_fld (pv 2) rfl))) (pss_cons (ps_while PassesOwn.never (PW.pt (pw_and (pt_cmpR op_lt (pe_callB call_len_seq (by rfl) T.f_len PySem.boot_len (pa_cons (pv 3) pa_nil)) (pe_fld (pv 2) rfl) (nomark _)) (pw_and1 (pt_val (pe_c (ok_is_on_board T) hr (by decide) (by rfl) pass0 (pa_cons (pv 0) (pa_cons (pv 4) (pa_cons (pv 5) pa_nil)))))))) (pss_cons (ps_expr (pe_bm PySem.F.plainAttrs_list PySem.F.slot_list_append PySem.F.type_list_append mt_append (pv 3) (pa_cons (pe_op op_add (pe_op op_mul pe_int (pv 5)) (pv 4)) pa_nil))) (pss_cons (ps_set (i := 4) sc_squares_along.nd rfl (Or.inl rfl) (pe_op op_add (pv 4) (pe_fld (pv 2) rfl))) (pss_one (ps_set (i := 5) sc_squares_along.nd rfl (Or.inl rfl) (pe_op op_add (pv 5) (pe_fld (pv 2) rfl))))))) (pss_one (ps_ret (pv 3))))))), ?_⟩)
  · obtain ⟨b, s, a, p, rfl, _⟩ := h
    rfl
  · obtain ⟨b, s, a, p, rfl, ⟨dx, ha⟩, hrch, q⟩ := h
    refine q_lnew fun d hd => ?_
    have e0 : Ex H (upd H d (.lst [])) := Ex.new hd
    refine q_asg (ev_op (ev_op (ev_var rfl) ev_c (rv_I (by decide))) (ev_fld (ev_var rfl) (e0 _ _ ha) T.c_Pattern T.n_Pattern_df rfl) rv_I0) fun H1 e1 => ?_
    refine q_asg (ev_op (ev_op (ev_var rfl) ev_c (rv_I ⟨by decide, by decide⟩)) (ev_fld (ev_var rfl) ((e0.trans e1) _ _ ha) T.c_Pattern T.n_Pattern_dr rfl) rv_I0) fun H2 e2 => ?_
    rw [show ((s : Int)).fmod 8 = ((s % 8 : Nat) : Int) from fmod_nat s 8, show ((s : Int)).fdiv 8 = ((s / 8 : Nat) : Int) from fdiv_nat s 8]
    have e02 := (e0.trans e1).trans e2
    refine q_while (fun m σ H' => ∃ (l : List Nat) (f r : Int), σ = [some (.int b), some (.int s), some (.ref a), some (.ref d), some (.int f), some (.int r)] ∧ Ex H H' ∧ H' d = some (.lst (IL l)) ∧ l.length + m = p.reach ∧ l ++ walkTo b p.df p.dr m f r = wayOf b s p) p.reach
      ⟨[], _, _, rfl, e02, (e1.trans e2) _ _ upd_same, by simp, rfl⟩ ?_
    rintro m σ' H' ⟨l, f, r, rfl, e3, hd3, hlen, hw⟩
    have ha3 := e3 _ _ ha
    refine ⟨_, et_and (et_test (ev_op (ev_lenS (K := K) (ev_var rfl) (sq_of hd3)) (ev_fld (ev_var rfl) ha3 T.c_Pattern T.n_Pattern_reach rfl) rv_I0)) (fun _ => et_B (ev_callR (ea_cons (ev_var rfl) (ea_cons (ev_var rfl) (ea_cons (ev_var rfl) ea_nil))) fun H5 _ Q' q' => ⟨b, f, r, rfl, q'⟩)), ?_, ?_⟩
    · intro hb H5 e5
      rw [IL_len, Bool.and_eq_true, decide_eq_true_eq] at hb
      obtain ⟨hb1, hb2⟩ := hb
      cases m with
      | zero => omega
      | succ m =>
        refine ⟨fun σ2 H2 => ∃ (l : List Nat) (f r : Int), σ2 = [some (.int b), some (.int s), some (.ref a), some (.ref d), some (.int f), some (.int r)] ∧ Ex H H2 ∧ H2 d = some (.lst (IL l)) ∧ l.length + m = p.reach ∧ l ++ walkTo b p.df p.dr m f r = wayOf b s p, fun σ2 H2 h => ⟨m, by omega, h⟩, ?_⟩
        have hf : fitsB b f r = true := hb2
        unfold fitsB at hb2
        simp only [Bool.and_eq_true, decide_eq_true_eq] at hb2
        have e35 := e3.trans e5
        refine q_app (K := K) (l := d) (xs := IL l) (e5 _ _ hd3) (ev_var rfl) (ev_op (ev_op ev_c (ev_var rfl) (rv_I (Or.inl ⟨by decide, by decide⟩))) (ev_var rfl) rv_I0) (by rw [IL_len]; omega) fun H6 e6 => ?_
        have e7 : Ex H (upd H6 d (.lst (IL l ++ [V.int (8 * r + f)]))) := Ex.mut (e35.trans e6) hd
        refine q_asg (ev_op (ev_var rfl) (ev_fld (ev_var rfl) (e7 _ _ ha) T.c_Pattern T.n_Pattern_df rfl) rv_I0) fun H8 e8 => ?_
        refine s_asg (ev_op (ev_var rfl) (ev_fld (ev_var rfl) ((e7.trans e8) _ _ ha) T.c_Pattern T.n_Pattern_dr rfl) rv_I0) fun H9 e9 => ?_
        refine ⟨l ++ [(8 * r + f).toNat], f + p.df, r + p.dr, rfl, (e7.trans e8).trans e9, ?_, by rw [List.length_append, List.length_singleton]; omega, ?_⟩
        · refine (e8.trans e9) _ _ ?_
          rw [upd_same, IL_snoc, show (((8 * r + f).toNat : Nat) : Int) = 8 * r + f by omega]
        · rw [← hw, List.append_assoc]
          congr 1
          exact (show walkTo b p.df p.dr (m + 1) f r = (8 * r + f).toNat :: walkTo b p.df p.dr m (f + p.df) (r + p.dr) from if_pos hf).symm
    · intro hb H5 e5
      refine s_ret (ev_var rfl) fun H6 e6 => q d H6 hd ((e3.trans e5).trans e6) ?_
      rw [(e5.trans e6) _ _ hd3, ← hw]
      have : walkTo b p.df p.dr m f r = [] := by
        cases m with
        | zero => rfl
        | succ m =>
          unfold walkTo
          rw [if_neg]
          intro hf
          rw [hf, Bool.and_true, IL_len, decide_eq_false_iff_not] at hb
          omega
      rw [this, List.append_nil]
end
end Es
end

section
set_option Elab.async false
set_option linter.all false
set_option maxRecDepth 100000
set_option maxHeartbeats 4000000
namespace Es
open PySem PySem.Spec PyProof.Rows L2 Evl
section
variable {P : Program} {w : World} {K : Fr} {mg : Str → Option Value} {base : Heap}
/-! ### ways_of_kind -/
/-- Way(how, squares_along(..)) -/
theorem ef_way {σ : L2.St} {H : Hp} {t1 t2 : TE} {E : XK} {how : Nat} {sq : List Nat} (h1 : Ev t1 σ H (.int (how : Nat))) (h2 : EvL t2 σ H (IL sq)) :
    EvF (tMake (CA K "Way") (sp_init2 (CA K "Way") "how" "squares") [] E (tCons t1 (tCons t2 tNil))) σ H (fun p Hn => WayAt K Hn p how sq) := fun H1 e Q q =>
  h1 H1 e _ fun H2 e2 => h2 H2 (e.trans e2) _ fun l H3 hl e3 h3 x dx hx hdx ne => by
    have e4 : Ex H3 (upd (upd H3 dx (.own x)) x (.ins (CA K "Way") dx [])) := (Ex.new hdx).trans (Ex.new (by rw [upd_ne ne.symm]; exact hx))
    have e13 := e2.trans e3
    refine ⟨x, dx, _, _, rfl, upd_same, rfl, q x _ (fresh_back e13 hx) (e13.trans (Ex.mut e4 hx)) ⟨dx, l, (New.at (fresh_back e13 hx)).trans upd_same, ?_⟩⟩
    rw [New.at (fresh_back e2 hl), upd_ne (ne_of_none h3 hx)]
    exact e4 _ _ h3
theorem wayKV_put {l : List Nat} (hn : l.Nodup) {rs : List Addr} {s : Nat} {r : Addr} (h : l[rs.length]? = some s) : putK (wayKV (l.take rs.length) rs) (Sum.inl (s : Int)) (V.ref r) = wayKV (l.take (rs.length + 1)) (rs ++ [r]) := by
  have hi := (List.getElem?_eq_some_iff.mp h).1
  have hl : (l.take rs.length).length = rs.length := by rw [List.length_take]; omega
  rw [putK_new]
  · unfold wayKV
    rw [take_next h, List.zipWith_append hl]
    rfl
  · refine valV_none_of fun p hp e => ?_
    obtain ⟨i, hi2⟩ := List.mem_iff_getElem?.mp hp
    unfold wayKV at hi2
    rw [List.getElem?_zipWith] at hi2
    cases e1 : (l.take rs.length)[i]? with
    | none => rw [e1] at hi2; cases hi2
    | some s' =>
      cases e2 : rs[i]? with
      | none => rw [e1, e2] at hi2; cases hi2
      | some r' =>
        rw [e1, e2] at hi2
        have hp2 : (Sum.inl (s' : Int), V.ref r') = p := Option.some.inj hi2
        rw [← hp2] at e
        have e : (s' : Int) = (s : Int) := Sum.inl.inj e
        have e : s' = s := by omega
        subst e
        have hlt := (List.getElem?_eq_some_iff.mp e2).1
        rw [List.getElem?_take, if_pos hlt] at e1
        have := nd_ix hn e1 h
        omega
theorem wayKV_len {l : List Nat} {rs : List Addr} : (wayKV l rs).length ≤ rs.length := by
  unfold wayKV
  rw [List.length_zipWith]
  omega
def sp_ways_of_kind : Sp := fun vs H Q _ => ∃ (b : Nat) (ls a : Addr) (k : Lm.Kind), vs = [.int b, .ref ls, .ref a] ∧ H ls = some (.lst (IL (Lm.squaresOf b))) ∧ KindAt K H a k ∧ k.pats.length ≤ 16 ∧ (∀ q ∈ k.pats, q.reach ≤ 7) ∧ RetF (fun p Hn => KWaysAt K Hn p b k) H Q
abbrev s_ways_of_kind : Stmt := top 11
abbrev n_ways_of_kind : List Str := ["board", "squares", "kind", "ways", "square", "pattern"]
theorem sc_ways_of_kind : FnScope n_ways_of_kind ["board", "squares", "kind"] (defScope s_ways_of_kind) := ⟨rfl, rfl, rfl, by decide +kernel, rfl, by decide +kernel, by decide +kernel⟩
theorem ok_ways_of_kind (T : Env K mg) : Cal P w K mg base CX0 4 "ways_of_kind" (sp_ways_of_kind (K := K)) := by
  refine T.d_ways_of_kind.cal sc_ways_of_kind (fun _ _ _ _ _ _ us hl => match us, hl with | [_, _, _], _ => rfl) (fun vs H Q E h => ?_) (Body0.by fun f cdv A outer s H vs Q E hr h => ⟨_, (pss_cons (ps_set (i := 3) sc_ways_of_kind.nd rfl (Or.inl rfl) pe_dnewK) (pss_cons (ps_for PassesOwn.never rfl (pi_list (pv 1)) (pg_name (i := 4) sc_ways_of_kind.nd rfl (Or.inr rfl)) (pss_one (ps_dput (hu_of hr) (pv 3) (pv 4) (pe_lc (own := [("pattern", 5)]) rfl sc_ways_of_kind.nd (pi_list (pe_fld (pv 2) rfl)) (blkOk_by (own := [("pattern", 5)]) (N := n_ways_of_kind) (sc := defScope s_ways_of_kind) (by decide +kernel)) (fun _ _ _ _ _ => pg_name (i := 5) sc_ways_of_kind.nd rfl (Or.inl rfl)) (fun _ _ _ _ _ => pts_nil) (fun _ _ _ _ _ => by exact (pe_mk (mk_Way T) hr (by decide) (by rfl) T.g_Way pass0 (by exact (pa_cons (pe_fldK K rfl (pv 5) rfl) (pa_cons (pe_c (ok_squares_along T) hr (by decide) (by rfl) pass0 (by exact (pa_cons (pv 0) (pa_cons (pv 4) (pa_cons (pv 5) pa_nil))))) pa_nil)))))) rfl))) (pss_one (ps_ret (pv 3))))), ?_⟩)
  · obtain ⟨b, ls, a, k, rfl, _⟩ := h
    rfl
  · obtain ⟨b, ls, a, k, rfl, hls, ⟨dx, lp, ps, hk1, hk2, hk3⟩, hn, hq, q⟩ := h
    refine q_dnew fun d hd => ?_
    have e0 : Ex H (upd H d (.dK [])) := Ex.new hd
    have nd := squares_nodup b
    refine q_forLn (K := K) (a := ls) (xs := IL (Lm.squaresOf b)) (ev_var rfl) (sq_of (e0 _ _ hls)) (fun i σ H' => (∃ u, σ = [some (.int b), some (.ref ls), some (.ref a), some (.ref d), u, none]) ∧ Ex H H' ∧ ∃ rs : List Addr, rs.length = i ∧ H' d = some (.dK (wayKV ((Lm.squaresOf b).take i) rs)) ∧ ∀ (j : Nat) r (s : Nat), rs[j]? = some r → (Lm.squaresOf b)[j]? = some s → WaysAt K (rem (New H H') d) r b s k)
      (fun H1 e1 => ⟨⟨none, rfl⟩, e0.trans e1, [], rfl, e1 _ _ upd_same, fun j r s hr => by simp at hr⟩) (fun i σ' H' _ p => sq_of (p.2.1 _ _ hls)) ?_ ?_
    · rintro i x σ' H' hx ⟨⟨u, rfl⟩, e1, rs, hrs, hd1, hw⟩
      obtain ⟨s, hs, rfl⟩ := IL_get hx
      refine s_dputF (d := d) (k := Sum.inl (s : Int)) hd1 (ef_lc (K := K) (a := lp) (xs := ps.map V.ref) (G := fun i x r Hn => ∀ q, k.pats[i]? = some q → WayAt K Hn r q.how (wayOf b s q)) (fun i x p H1 H2 e h q hq => WayAt.mono H1 H2 e (h q hq)) (ev_fld (ev_var rfl) (e1 _ _ hk1) T.c_Kind T.n_Kind_patterns rfl) (sq_of (e1 _ _ hk2)) (by rw [List.length_map, hk3.1]; omega) (fun x => rfl) ?_) (ev_var rfl) (ev_var rfl) ?_ ?_
      · intro i' x H1 eH hx'
        rw [List.getElem?_map] at hx'
        obtain ⟨pa, hpa, rfl⟩ := Option.map_eq_some_iff.mp hx'
        obtain ⟨qq, hqq, hP⟩ := hk3.get' hpa
        have hP1 := PatAt.mono _ _ (e1.trans eH) hP
        obtain ⟨dxp, hp1⟩ := hP1
        refine EvF.imp (ef_way (K := K) (how := qq.how) (sq := wayOf b s qq) (ev_fld (ev_var rfl) hp1 T.c_Pattern T.n_Pattern_how rfl) (el_callR (ea_cons (ev_var rfl) (ea_cons (ev_var rfl) (ea_cons (ev_var rfl) ea_nil))) fun H5 e5 Q' q' => ⟨b, s, pa, qq, rfl, PatAt.mono _ _ e5 ⟨dxp, hp1⟩, hq qq (List.mem_of_getElem? hqq), q'⟩)) fun p Hn h q' hq' => ?_
        rw [hqq] at hq'
        cases hq'
        exact h
      · have := wayKV_len (l := (Lm.squaresOf b).take i) (rs := rs)
        have := (List.getElem?_eq_some_iff.mp hs).1
        have := squares_le b
        omega
      · rintro r H2 hr e2 ⟨ws, hw1, hw2, hw3⟩ H3 e3
        refine ⟨⟨_, rfl⟩, Ex.mut ((e1.trans e2).trans e3) hd, rs ++ [r], by simp [hrs], ?_, ?_⟩
        · rw [upd_same]
          subst hrs
          rw [wayKV_put nd hs]
        · intro j r' s' hr' hs'
          have key : ∀ {A : Hp}, Ex A (rem (New H (upd H3 d (.dK (putK (wayKV ((Lm.squaresOf b).take i) rs) (Sum.inl (s : Int)) (V.ref r))))) d) → WaysAt K A r' b s' k → WaysAt K (rem (New H (upd H3 d (.dK (putK (wayKV ((Lm.squaresOf b).take i) rs) (Sum.inl (s : Int)) (V.ref r))))) d) r' b s' k := fun {A} e h => WaysAt.mono _ _ e h
          by_cases c : j < rs.length
          · rw [List.getElem?_append_left c] at hr'
            refine key (fun bb o hb => ?_) (hw j r' s' hr' hs')
            have ne : bb ≠ d := fun z => by rw [z, rem_same] at hb; cases hb
            rw [rem_ne ne] at hb ⊢
            obtain ⟨u1, v1⟩ := New.get hb
            rw [New.at u1, upd_ne ne]
            exact (e2.trans e3) _ _ v1
          · have ej : j = rs.length := by
              have := (List.getElem?_eq_some_iff.mp hr').1
              rw [List.length_append, List.length_singleton] at this
              omega
            subst ej
            rw [List.getElem?_append_right (Nat.le_refl _), Nat.sub_self] at hr'
            have er : r = r' := by simpa using hr'
            subst er
            rw [hrs, hs] at hs'
            cases hs'
            refine key (A := New H' H2) (fun bb o hb => ?_) ⟨ws, hw1, by rw [hw2, List.length_map, hk3.1], fun i' r' q' h1 h2 => ?_⟩
            · obtain ⟨u1, v1⟩ := New.get hb
              have ne : bb ≠ d := fun z => by rw [z, hd1] at u1; cases u1
              rw [rem_ne ne, New.at (fresh_back e1 u1), upd_ne ne]
              exact e3 _ _ v1
            · obtain ⟨pa, hpa, _⟩ := hk3.get h2
              exact hw3 i' (V.ref pa) r' (by rw [List.getElem?_map, hpa]; rfl) h1 q' h2
    · rintro σ' H' ⟨⟨u, rfl⟩, e1, rs, hrs, hd1, hw⟩
      rw [IL_len] at hrs hd1
      rw [List.take_length] at hd1
      refine s_ret (ev_var rfl) fun H2 e2 => q d H2 hd (e1.trans e2) ⟨rs, ?_, hrs, fun j r s h1 h2 => WaysAt.mono _ _ ((rem_ex _ _).trans (New.step e2)) (hw j r s h1 h2)⟩
      rw [New.at hd]
      exact e2 _ _ hd1
end
end Es
end

section
set_option Elab.async false
set_option linter.all false
set_option maxRecDepth 100000
set_option maxHeartbeats 4000000
namespace Es
open PySem PySem.Spec PyProof.Rows L2 Evl
section
variable {P : Program} {w : World} {K : Fr} {mg : Str → Option Value} {base : Heap}
/-! ### Game -/
theorem ex_updp {H0 H1 : Hp} {p : Addr} {o : HO} (e : Ex H0 H1) (h : H0 p = none) : Ex H0 (upd H1 p o) := Ex.mut e h
theorem new_ex_upd {H H2 H3 : Hp} {p : Addr} {o u : HO} (h : H p = some u) (e : Ex H2 H3) : Ex (New H H2) (upd H3 p o) := fun a v ha => by
  obtain ⟨x, y⟩ := New.get ha
  rw [upd_ne (ne_of_none h x).symm]
  exact e _ _ y
/-- whatever stands in Hs stands in H -/
def Dom (Hs H : Hp) : Prop := ∀ a, H a = none → Hs a = none
theorem Dom.ex {Hs H H' : Hp} (d : Dom Hs H) (e : Ex H H') : Dom Hs H' := fun a h => d a (fresh_back e h)
theorem Dom.upd {Hs H : Hp} {p : Addr} {o : HO} (d : Dom Hs H) : Dom Hs (upd H p o) := fun a h => d a (by
  by_cases c : a = p
  · rw [c, upd_same] at h; cases h
  · rw [upd_ne c] at h; exact h)
theorem Dom.new {Hs H H' : Hp} (d : Dom Hs H) : Ex (New H H') (New Hs H') := fun a o h => by
  obtain ⟨x, y⟩ := New.get h
  exact (New.at (d a x)).trans y
theorem new_base {H0 Hs H' : Hp} (h : ∀ a o, H0 a = some o → Hs a = none) (e : Ex H0 H') : Ex H0 (New Hs H') := fun a o q => (New.at (h a o q)).trans (e _ _ q)
def sp_Game : Sp := fun vs H Q _ => ∃ (p dx lk lp : Addr) (ks ps : List Addr) (g : Lm.Game) (H0 Hs : Hp), Dom Hs H ∧ Hs p = none ∧ (∀ a o, H0 a = some o → Hs a = none) ∧ vs = [.ref p, .int (g.stuck : Nat), .int (b2 g.pass), .int (g.board : Nat), .ref lk, .ref lp] ∧ H p = some (.ins (CA K "Game") dx []) ∧ Ex H0 H ∧ H0 p = none ∧
  H0 lk = some (.lst (ks.map V.ref)) ∧ AllAt (KindAt K H0) ks g.kinds ∧ H0 lp = some (.lst (ps.map V.ref)) ∧ AllAt (PieceAt K H0) ps g.pieces ∧ Fit g ∧ ∀ H', Ex H0 H' → Dom H H' → (∀ a o, H a = some o → a ≠ p → H' a = some o) → GAt K (New Hs H') p g → Q .non H'
abbrev s_Game___init__ : Stmt := inClass (top 6) 0
abbrev n_Game___init__ : List Str := ["self", "stuck", "passing", "board", "kinds", "pieces", "kind"]
theorem sc_Game___init__ : FnScope n_Game___init__ ["self", "stuck", "passing", "board", "kinds", "pieces"] (defScope s_Game___init__) := ⟨rfl, rfl, rfl, by decide +kernel, rfl, by decide +kernel, by decide +kernel⟩
theorem mk_Game (T : Env K mg) : Mak P w K mg base CX0 5 (CA K "Game") (sp_Game (K := K)) := by
  refine T.k_Game.mak sc_Game___init__ (fun _ _ _ _ _ _ us hl => match us, hl with | [_, _, _, _, _, _], _ => rfl) (fun vs H Q E h => ?_) (Body0.by fun f cdv A outer s H vs Q E hr h => ⟨_, (pss_cons (ps_fld (pv 0) (pv 1) rfl) (pss_cons (ps_fld (pv 0) (pv 2) rfl) (pss_cons (ps_fld (pv 0) (pv 3) rfl) (pss_cons (ps_fld (pv 0) (pv 4) rfl) (pss_cons (ps_fld (pv 0) (pv 5) rfl) (pss_cons (ps_fld (pv 0) (pe_c (ok_squares_of T) hr (by decide) (by rfl) pass0 (pa_cons (pv 3) pa_nil)) rfl) (pss_cons (ps_fld (pv 0) (pe_c (ok_places_of T) hr (by decide) (by rfl) pass0 (pa_cons (pe_fld (pv 0) rfl) pa_nil)) rfl) (pss_cons (ps_fld (pv 0) (pe_c (ok_count_numbers T) hr (by decide) (by rfl) pass0 (pa_cons (pv 3) (pa_cons (pv 5) pa_nil))) rfl) (pss_one (ps_fld (pv 0) (pe_lc (own := [("kind", 6)]) rfl sc_Game___init__.nd (pi_list (pv 4)) (blkOk_by (own := [("kind", 6)]) (N := n_Game___init__) (sc := defScope s_Game___init__) (by decide +kernel)) (fun _ _ _ _ _ => pg_name (i := 6) sc_Game___init__.nd rfl (Or.inl rfl)) (fun _ _ _ _ _ => by exact pts_nil) (fun _ _ _ _ _ => by exact (pe_c (ok_ways_of_kind T) hr (by decide) (by rfl) pass0 (by exact (pa_cons (pv 3) (pa_cons (pe_fldK K rfl (pv 0) rfl) (pa_cons (pv 6) pa_nil))))))) rfl)))))))))), ?_⟩)
  · obtain ⟨p, dx, lk, lp, ks, ps, g, H0, Hs, _, _, _, rfl, _⟩ := h
    rfl
  · obtain ⟨p, dx, lk, lp, ks, ps, g, H0, Hs, dm, hsp, hs0, rfl, hp, e0, h0p, hk1, hk2, hp1, hp2, F, q⟩ := h
    refine ⟨_, rfl, _, rfl, p, _, dx, _, rfl, hp, T.c_Game, T.n_Game_stuck, (by show 0 < 1000; decide), ?_⟩
    refine ⟨_, rfl, _, rfl, p, _, dx, _, rfl, upd_same, T.c_Game, T.n_Game_passing, (by show 1 < 1000; decide), ?_⟩
    refine ⟨_, rfl, _, rfl, p, _, dx, _, rfl, upd_same, T.c_Game, T.n_Game_board, (by show 2 < 1000; decide), ?_⟩
    refine ⟨_, rfl, _, rfl, p, _, dx, _, rfl, upd_same, T.c_Game, T.n_Game_kinds, (by show 3 < 1000; decide), ?_⟩
    refine ⟨_, rfl, _, rfl, p, _, dx, _, rfl, upd_same, T.c_Game, T.n_Game_pieces, (by show 4 < 1000; decide), ?_⟩
    rw [upd_upd, upd_upd, upd_upd, upd_upd]
    have e1 := ex_updp (o := .ins (CA K "Game") dx [("stuck", .int (g.stuck : Nat)), ("passing", .int (b2 g.pass)), ("board", .int (g.board : Nat)), ("kinds", .ref lk), ("pieces", .ref lp)]) e0 h0p
    refine q_fldF (C := CA K "Game") (EvF.of (el_callR (ea_cons (ev_var rfl) ea_nil) fun H1 _ Q' q' => ⟨g.board, rfl, q'⟩)) (ev_var rfl) upd_same T.c_Game T.n_Game_squares (by show 5 < 1000; decide) fun ls H2 hls e2 f2 H3 e3 => ?_
    have nls : ls ≠ p := fun z => by rw [z, upd_same] at hls; cases hls
    have hls3 : H3 ls = some (.lst (IL (Lm.squaresOf g.board))) := e3 _ _ (New.get f2).2
    have e4 := ex_updp (o := .ins (CA K "Game") dx [("stuck", .int (g.stuck : Nat)), ("passing", .int (b2 g.pass)), ("board", .int (g.board : Nat)), ("kinds", .ref lk), ("pieces", .ref lp), ("squares", .ref ls)]) ((e1.trans e2).trans e3) h0p
    have hls4 : upd H3 p (.ins (CA K "Game") dx [("stuck", .int (g.stuck : Nat)), ("passing", .int (b2 g.pass)), ("board", .int (g.board : Nat)), ("kinds", .ref lk), ("pieces", .ref lp), ("squares", .ref ls)]) ls = some (.lst (IL (Lm.squaresOf g.board))) := (upd_ne nls).trans hls3
    refine q_fldF (C := CA K "Game") (F := fun r Hn => Hn r = some (.dK (placesD g.board))) (ef_call (fun p H H' e h => e _ _ h) (ea_cons (ev_fld (ev_var rfl) upd_same T.c_Game T.n_Game_squares rfl) ea_nil) fun H5 e5 Q' q' => ⟨g.board, ls, rfl, e5 _ _ hls4, fun r H6 hr e6 h6 => q' r H6 hr e6 ((New.at hr).trans h6)⟩) (ev_var rfl) upd_same T.c_Game T.n_Game_places (by show 6 < 1000; decide) fun dp H5 hdp e5 f5 H6 e6 => ?_
    have ndp : dp ≠ p := fun z => by rw [z, upd_same] at hdp; cases hdp
    have hdp6 : H6 dp = some (.dK (placesD g.board)) := e6 _ _ (New.get f5).2
    have hls6 := (e5.trans e6) _ _ hls4
    have e7 := ex_updp (o := .ins (CA K "Game") dx [("stuck", .int (g.stuck : Nat)), ("passing", .int (b2 g.pass)), ("board", .int (g.board : Nat)), ("kinds", .ref lk), ("pieces", .ref lp), ("squares", .ref ls), ("places", .ref dp)]) ((e4.trans e5).trans e6) h0p
    have hlen : (ps.map V.ref).length = g.pieces.length := by rw [List.length_map, hp2.1]
    refine q_fld (C := CA K "Game") (ev_callR (v := .int ((g.count : Nat) : Int)) (ea_cons (ev_var rfl) (ea_cons (ev_var rfl) ea_nil)) fun H8 e8 Q' q' => ⟨g.board, lp, ps.map V.ref, rfl, (e7.trans e8) _ _ hp1, by rw [hlen]; exact F.np.2, by
      rw [hlen]
      exact q'⟩) (ev_var rfl) upd_same T.c_Game T.n_Game_total (by show 7 < 1000; decide) fun H8 e8 => ?_
    have e9 := ex_updp (o := .ins (CA K "Game") dx [("stuck", .int (g.stuck : Nat)), ("passing", .int (b2 g.pass)), ("board", .int (g.board : Nat)), ("kinds", .ref lk), ("pieces", .ref lp), ("squares", .ref ls), ("places", .ref dp), ("total", .int ((g.count : Nat) : Int))]) (e7.trans e8) h0p
    have hls8 : H8 ls = some (.lst (IL (Lm.squaresOf g.board))) := e8 _ _ ((upd_ne nls).trans hls6)
    have hdp8 : H8 dp = some (.dK (placesD g.board)) := e8 _ _ ((upd_ne ndp).trans hdp6)
    refine s_fldF (C := CA K "Game") (ef_lc (K := K) (a := lk) (xs := ks.map V.ref) (G := fun i x r Hn => ∀ k, g.kinds[i]? = some k → KWaysAt K Hn r g.board k) (fun i x p H1 H2 e h k hk => KWaysAt.mono H1 H2 e (h k hk)) (ev_var rfl) (sq_of (e9 _ _ hk1)) (by rw [List.length_map, hk2.1]; have := F.nk; omega) (fun x => rfl) ?_) (ev_var rfl) upd_same T.c_Game T.n_Game_ways (by show 8 < 1000; decide) ?_
    · intro i x H10 e10 hx
      rw [List.getElem?_map] at hx
      obtain ⟨ka, hka, rfl⟩ := Option.map_eq_some_iff.mp hx
      obtain ⟨kk, hkk, hKk⟩ := hk2.get' hka
      have hfit := F.kd kk (List.mem_of_getElem? hkk)
      refine EvF.imp (ef_call (F := fun p Hn => KWaysAt K Hn p g.board kk) (fun p H H' e h => KWaysAt.mono H H' e h) (ea_cons (ev_var rfl) (ea_cons (ev_fld (ev_var rfl) (e10 _ _ upd_same) T.c_Game T.n_Game_squares rfl) (ea_cons (ev_var rfl) ea_nil))) fun H11 e11 Q' q' => ⟨g.board, ls, ka, kk, rfl, (e10.trans e11) _ _ ((upd_ne nls).trans hls8), KindAt.mono _ _ ((e9.trans e10).trans e11) hKk, hfit.1, fun q hq => (hfit.2.2.2 q hq).1, q'⟩) fun p Hn h k' hk' => ?_
      rw [hkk] at hk'
      cases hk'
      exact h
    · rintro lw H10 hlw e10 ⟨ws, hw1, hw2, hw3⟩ H11 e11
      have e12 := (e9.trans e10).trans e11
      have nlw : lw ≠ p := fun z => by rw [z, upd_same] at hlw; cases hlw
      have eN : ∀ o, Ex (New (upd H8 p (.ins (CA K "Game") dx [("stuck", .int (g.stuck : Nat)), ("passing", .int (b2 g.pass)), ("board", .int (g.board : Nat)), ("kinds", .ref lk), ("pieces", .ref lp), ("squares", .ref ls), ("places", .ref dp), ("total", .int ((g.count : Nat) : Int))])) H10) (upd H11 p o) := fun o => new_ex_upd upd_same e11
      have f12 : ∀ o, (∀ a u, H a = some u → a ≠ p → upd H11 p o a = some u) := fun o a u h n => (upd_ne n).trans (e11 _ _ (e10 _ _ ((upd_ne n).trans (e8 _ _ ((upd_ne n).trans (e6 _ _ (e5 _ _ ((upd_ne n).trans (e3 _ _ (e2 _ _ ((upd_ne n).trans h)))))))))))
      have d1 : Dom H (upd H p (.ins (CA K "Game") dx [("stuck", .int (g.stuck : Nat)), ("passing", .int (b2 g.pass)), ("board", .int (g.board : Nat)), ("kinds", .ref lk), ("pieces", .ref lp)])) := Dom.upd fun a h => h
      have d4 : Dom H (upd H3 p (.ins (CA K "Game") dx [("stuck", .int (g.stuck : Nat)), ("passing", .int (b2 g.pass)), ("board", .int (g.board : Nat)), ("kinds", .ref lk), ("pieces", .ref lp), ("squares", .ref ls)])) := Dom.upd (d1.ex (e2.trans e3))
      have d7 : Dom H (upd H6 p (.ins (CA K "Game") dx [("stuck", .int (g.stuck : Nat)), ("passing", .int (b2 g.pass)), ("board", .int (g.board : Nat)), ("kinds", .ref lk), ("pieces", .ref lp), ("squares", .ref ls), ("places", .ref dp)])) := Dom.upd (d4.ex (e5.trans e6))
      have d9 : Dom H (upd H8 p (.ins (CA K "Game") dx [("stuck", .int (g.stuck : Nat)), ("passing", .int (b2 g.pass)), ("board", .int (g.board : Nat)), ("kinds", .ref lk), ("pieces", .ref lp), ("squares", .ref ls), ("places", .ref dp), ("total", .int ((g.count : Nat) : Int))])) := Dom.upd (d7.ex e8)
      have hN : ∀ o, Ex H0 (New Hs (upd H11 p o)) := fun o => new_base hs0 (ex_updp e12 h0p)
      have eN2 : ∀ o, Ex (New (upd H8 p (.ins (CA K "Game") dx [("stuck", .int (g.stuck : Nat)), ("passing", .int (b2 g.pass)), ("board", .int (g.board : Nat)), ("kinds", .ref lk), ("pieces", .ref lp), ("squares", .ref ls), ("places", .ref dp), ("total", .int ((g.count : Nat) : Int))])) H10) (New Hs (upd H11 p o)) := fun o a u h => by
        obtain ⟨x, y⟩ := New.get h
        rw [New.at (dm a (d9 a x))]
        exact eN o a u h
      refine q _ (ex_updp e12 h0p) (Dom.upd ((d9.ex e10).ex e11)) (f12 _) ⟨dx, lk, lp, ls, dp, lw, ks, ps, ws, ⟨(New.at hsp).trans upd_same, hN _ _ _ hk1, hk2.imp fun r x => KindAt.mono _ _ (hN _), hN _ _ _ hp1, hp2.imp fun r x => PieceAt.mono _ _ (hN _), ?_, ?_, ?_, ?_⟩⟩
      · rw [New.at (dm ls (d1 ls hls))]
        exact (upd_ne nls).trans ((e10.trans e11) _ _ ((upd_ne nls).trans hls8))
      · rw [New.at (dm dp (d4 dp hdp))]
        exact (upd_ne ndp).trans ((e10.trans e11) _ _ ((upd_ne ndp).trans hdp8))
      · exact eN2 _ _ _ hw1
      · refine ⟨by rw [hw2, List.length_map, hk2.1], fun i r k hr hk => KWaysAt.mono _ _ (eN2 _) ?_⟩
        obtain ⟨ka, hka, _⟩ := hk2.get hk
        exact hw3 i (V.ref ka) r (by rw [List.getElem?_map, hka]; rfl) hr k hk
end
end Es
end

section
set_option Elab.async false
set_option linter.all false
set_option maxRecDepth 100000
set_option maxHeartbeats 4000000
namespace Es
open PySem PySem.Spec PyProof.Rows L2 Evl
section
variable {K : Fr} {σ : L2.St} {H H' : Hp} {ta tb te tv td ty : TE} {t : TT} {x y z v : V} {D : Ends} {tu tw tz : TS}
theorem ev_dget1 {d : Addr} {kvs : List (Key × V)} {k : Key} (ha : Ev td σ H (.ref d)) (hb : Ev ty σ H (kV k)) (hd : H d = some (.dK kvs)) : Ev (tDGet1 td ty) σ H ((valV kvs k).getD .non) := fun H1 e Q q =>
  ha H1 e _ fun H2 e2 => ⟨d, rfl, Or.inl ⟨kvs, Or.inl ((e.trans e2) _ _ hd)⟩, hb H2 (e.trans e2) _ fun H3 e3 => ⟨_, DGet.k (k := k) (((e.trans e2).trans e3) _ _ hd), q H3 (e2.trans e3)⟩⟩
theorem ev_listD {d : Addr} {kvs : List (Key × V)} (ha : Ev ta σ H (.ref d)) (hd : H d = some (.dK kvs)) : EvL (tCB rListD (tCons ta tNil)) σ H (kvs.map fun kv => kV kv.1) := fun H1 e Q q =>
  ha H1 e _ fun H2 e2 => ⟨d, kvs, rfl, (e.trans e2) _ _ hd, fun l hl => q l _ (fresh_back e2 hl) (e2.trans (Ex.new hl)) upd_same⟩
theorem ev_isN (ha : Ev ta σ H x) : Ev (tOp (fun x y H Q => y = .non ∧ Q (.bl (decide (x = .non))) H) ta (tC .non)) σ H (.bl (decide (x = .non))) := fun H1 e Q q =>
  ha H1 e _ fun H2 e2 => ⟨rfl, q H2 e2⟩
theorem s_break (h : D.bk σ H) : tBreak D σ H := h
end
theorem dec_int {a b : Int} : decide (V.int a = V.int b) = decide (a = b) := by
  rw [decide_eq_decide]
  exact ⟨fun h => V.int.inj h, fun h => by rw [h]⟩
theorem dec_nat {a b : Nat} : decide (V.int (a : Int) = V.int (b : Int)) = decide (a = b) := by
  rw [dec_int, decide_eq_decide]
  omega
theorem atI_nat' {xs : List V} {z : Int} {j : Nat} {v : V} (e : z = (j : Int)) (h : xs[j]? = some v) : atI xs z = some v := by
  rw [e]; exact atI_nat h
theorem atI_IL {l : List Nat} {j n : Nat} (h : l[j]? = some n) : atI (IL l) (j : Int) = some (.int (n : Int)) := atI_nat (by rw [IL_at, h]; rfl)
theorem atI_refs {rs : List Addr} {j : Nat} {r : Addr} (h : rs[j]? = some r) : atI (rs.map V.ref) (j : Int) = some (.ref r) := atI_nat (by rw [List.getElem?_map, h]; rfl)
theorem atI_end (l : List Nat) (n : Nat) : atI (IL (l ++ [n])) (-1) = some (.int (n : Int)) := by rw [IL_snoc]; exact atI_last _ _
theorem inSet_off {x : Nat} (h : x < 2 ^ 64) : Lm.inSet x Lm.OFF = false := by
  unfold Lm.inSet Lm.OFF
  rw [Nat.div_eq_of_lt h]
  rfl
/-- whether one piece makes the side lose -/
def lostAt (g : Lm.Game) (l : List Nat) (side i : Nat) : Bool := if g.sideOf i = side then (g.kindOf i).royal && l.getD i Lm.OFF == Lm.OFF else l.getD i Lm.OFF != Lm.OFF && Lm.inSet (g.kindOf i).goals (l.getD i Lm.OFF)
theorem lost_is (g : Lm.Game) (l : List Nat) (s side : Nat) : Lm.lost g ⟨l, s⟩ side = (List.range l.length).any (lostAt g l side) := rfl
theorem any_range_true {n i : Nat} {f : Nat → Bool} (hi : i < n) (h : f i = true) : (List.range n).any f = true := List.any_eq_true.mpr ⟨i, List.mem_range.mpr hi, h⟩
theorem any_range_false {n : Nat} {f : Nat → Bool} (h : ∀ i, i < n → f i = false) : (List.range n).any f = false := List.any_eq_false.mpr fun i hi => by rw [h i (List.mem_range.mp hi)]; exact Bool.false_ne_true
theorem getD_of {α : Type} {l : List α} {i : Nat} {x d : α} (h : l[i]? = some x) : l.getD i d = x := by rw [List.getD_eq_getElem?_getD, h]; rfl
theorem refs_get {rs : List Addr} {i : Nat} {x : V} (h : (rs.map V.ref)[i]? = some x) : ∃ r, rs[i]? = some r ∧ x = .ref r := by
  rw [List.getElem?_map] at h
  obtain ⟨r, e, q⟩ := Option.map_eq_some_iff.mp h
  exact ⟨r, e, q.symm⟩
theorem b2_eq (b : Bool) : decide (V.int (b2 b) = V.int 1) = b := by
  rw [dec_int]
  cases b <;> rfl
section
variable {P : Program} {w : World} {K : Fr} {mg : Str → Option Value} {base : Heap}
/-! ### has_lost -/
def sp_has_lost : Sp := fun vs H Q _ => ∃ (ga ra : Addr) (side : Nat) (g : Lm.Game) (l : List Nat) (x : Nat), vs = [.ref ga, .ref ra, .int (side : Nat)] ∧ GAt K H ga g ∧ Fit g ∧ H ra = some (.lst (IL (l ++ [x]))) ∧ l.length = g.pieces.length ∧ RetV (.bl (Lm.lost g ⟨l, x⟩ side)) H Q
abbrev s_has_lost : Stmt := top 20
abbrev n_has_lost : List Str := ["game", "row", "side", "number", "piece", "kind"]
theorem sc_has_lost : FnScope n_has_lost ["game", "row", "side"] (defScope s_has_lost) := ⟨rfl, rfl, rfl, by decide +kernel, rfl, by decide +kernel, by decide +kernel⟩
theorem ok_has_lost (T : Env K mg) : Cal P w K mg base CX0 2 "has_lost" (sp_has_lost (K := K)) := by
  refine T.d_has_lost.cal sc_has_lost (fun _ _ _ _ _ _ us hl => match us, hl with | [_, _, _], _ => rfl) (fun vs H Q E h => ?_) (Body0.by fun f cdv A outer s H vs Q E hr h => ⟨_, (pss_cons (ps_for PassesOwn.never rfl (pi_enum (by rfl) T.f_enumerate (pa_cons (pe_fld (pv 0) rfl) pa_nil)) (pg_tup rfl (pgs_cons (pg_name (i := 3) sc_has_lost.nd rfl (Or.inl rfl)) (pgs_cons (pg_name (i := 4) sc_has_lost.nd rfl (Or.inl rfl)) pgs_nil))) (pss_cons (ps_set (i := 5) sc_has_lost.nd rfl (Or.inl rfl) (pe_ix ix_list (pe_fld (pv 0) rfl) (pe_fld (pv 4) rfl) (fun _ _ => rfl))) (pss_one (ps_if (pt_cmpR op_eq (pe_fld (pv 4) rfl) (pv 2) (nomark _)) (pss_one (ps_if (PW.pt (pw_and (pt_cmpR op_eq (pe_fld (pv 5) rfl) pe_int (nomark _)) (pw_and1 (pt_cmpR op_eq (pe_ix ix_list (pv 1) (pv 3) (fun _ _ => rfl)) (pe_gv (by rfl) T.v_OFF) (nomark _))))) (pss_one (ps_ret pe_bl)) pss_nil)) (pss_one (ps_if (pt_val (pe_c (ok_has_square T) hr (by decide) (by rfl) pass0 (pa_cons (pe_fld (pv 5) rfl) (pa_cons (pe_ix ix_list (pv 1) (pv 3) (fun _ _ => rfl)) pa_nil)))) (pss_one (ps_ret pe_bl)) pss_nil)))))) (pss_one (ps_ret pe_bl))), ?_⟩)
  · obtain ⟨ga, ra, side, g, l, x, rfl, _⟩ := h
    rfl
  · obtain ⟨ga, ra, side, g, l, x, rfl, ⟨dx, lk, lp, ls, dp, lw, ks, ps, ws, G⟩, F, hra, hl, q⟩ := h
    refine q_enum (K := K) (a := lp) (xs := ps.map V.ref) (ea_cons (ev_fld (ev_var rfl) G.obj T.c_Game T.n_Game_pieces rfl) ea_nil) (sq_of G.pieces) (fun n σ H' => (∃ u v w, σ = [some (.ref ga), some (.ref ra), some (.int (side : Nat)), u, v, w]) ∧ Ex H H' ∧ ∀ i, i < n → lostAt g l side i = false)
      (fun H1 e1 => ⟨⟨none, none, none, rfl⟩, e1, fun i hi => by omega⟩) (fun i σ' H' _ p => sq_of (p.2.1 _ _ G.pieces)) ?_ ?_
    · rintro n x' σ' H' H2 hx ⟨⟨u, v, w', rfl⟩, e1, hno⟩ e2
      obtain ⟨pa, hpa, rfl⟩ := refs_get hx
      obtain ⟨⟨pk, psd⟩, hpc, hP⟩ := G.piecesA.get' hpa
      have hf := F.pk _ (List.mem_of_getElem? hpc)
      obtain ⟨dxp, hP⟩ := PieceAt.mono _ _ (e1.trans e2) hP
      obtain ⟨kk, hkk⟩ : ∃ kk, g.kinds[pk]? = some kk := ⟨_, List.getElem?_eq_getElem hf.1⟩
      obtain ⟨ka, hka, hK⟩ := G.kindsA.get hkk
      obtain ⟨dxk, lpt, pts, hk1, hk2, hk3⟩ := KindAt.mono _ _ (e1.trans e2) hK
      have e12 := e1.trans e2
      have hsd : g.sideOf n = psd := by unfold Lm.Game.sideOf; rw [getD_of hpc]
      have hkd : g.kindOf n = kk := by unfold Lm.Game.kindOf; rw [getD_of hpc]; exact getD_of hkk
      have hn : n < l.length := by rw [hl]; exact (List.getElem?_eq_some_iff.mp hpc).1
      obtain ⟨sq, hsq⟩ : ∃ sq, l[n]? = some sq := ⟨_, List.getElem?_eq_getElem hn⟩
      have hsq2 : (l ++ [x])[n]? = some sq := by rw [List.getElem?_append_left hn]; exact hsq
      have hgd : l.getD n Lm.OFF = sq := getD_of hsq
      have hlost : lostAt g l side n = true → Lm.lost g ⟨l, x⟩ side = true := fun h => by rw [lost_is]; exact any_range_true hn h
      refine q_asg (ev_op (ev_fld (ev_var rfl) (e12 _ _ G.obj) T.c_Game T.n_Game_kinds rfl) (ev_fld (ev_var rfl) hP T.c_Piece T.n_Piece_kind rfl) (rv_ixL (K := K) (sq_of (e12 _ _ G.kinds)) (atI_refs hka))) fun H3 e3 => ?_
      have next : ∀ H4, Ex H3 H4 → lostAt g l side n = false → (∃ u v w, [some (V.ref ga), some (V.ref ra), some (V.int (side : Nat)), some (V.int (n : Nat)), some (V.ref pa), some (V.ref ka)] = [some (.ref ga), some (.ref ra), some (.int (side : Nat)), u, v, w]) ∧ Ex H H4 ∧ ∀ i, i < n + 1 → lostAt g l side i = false := fun H4 e4 h => ⟨⟨_, _, _, rfl⟩, (e12.trans e3).trans e4, fun i hi => by
        by_cases c : i = n
        · rw [c]; exact h
        · exact hno i (by omega)⟩
      refine s_if (et_test (ev_op (ev_fld (ev_var rfl) (e3 _ _ hP) T.c_Piece T.n_Piece_side rfl) (ev_var rfl) (rv_eq rfl))) ?_ ?_
      · intro hb H4 e4
        rw [dec_nat, decide_eq_true_eq] at hb
        have e34 := e3.trans e4
        have key : lostAt g l side n = (kk.royal && decide (sq = 64)) := by
          unfold lostAt
          rw [hsd, if_pos hb, hkd, hgd]
          rfl
        refine s_when (et_and (et_test (ev_op (ev_fld (ev_var rfl) (e34 _ _ hk1) T.c_Kind T.n_Kind_royal rfl) ev_c (rv_eq rfl))) (fun _ => et_test (ev_op (ev_op (ev_var rfl) (ev_var rfl) (rv_ixL (K := K) (sq_of ((e12.trans e34) _ _ hra)) (atI_IL hsq2))) ev_c (rv_eq rfl)))) ?_ ?_
        · intro hc H5 e5
          rw [b2_eq, show decide (V.int (sq : Int) = V.int 64) = decide (sq = 64) from dec_nat (b := 64), ← key] at hc
          refine s_ret ev_c fun H6 e6 => ?_
          have := q H6 ((((e12.trans e34)).trans e5).trans e6)
          rw [hlost hc] at this
          exact this
        · intro hc H5 e5
          rw [b2_eq, show decide (V.int (sq : Int) = V.int 64) = decide (sq = 64) from dec_nat (b := 64), ← key] at hc
          exact next H5 (e4.trans e5) hc
      · intro hb H4 e4
        rw [dec_nat, decide_eq_false_iff_not] at hb
        have e34 := e3.trans e4
        have key : lostAt g l side n = Lm.inSet kk.goals sq := by
          unfold lostAt
          rw [hsd, if_neg hb, hkd, hgd]
          by_cases c : sq = Lm.OFF
          · rw [c, inSet_off (F.kd kk (List.mem_of_getElem? hkk)).2.1, Bool.and_false]
          · rw [show (sq != Lm.OFF) = true by simpa using c, Bool.true_and]
        refine s_when (et_B (ev_call (ea_cons (ev_fld (ev_var rfl) (e34 _ _ hk1) T.c_Kind T.n_Kind_goals rfl) (ea_cons (ev_op (ev_var rfl) (ev_var rfl) (rv_ixL (K := K) (sq_of ((e12.trans e34) _ _ hra)) (atI_IL hsq2))) ea_nil)) (spv_has_square kk.goals sq))) ?_ ?_
        · intro hc H5 e5
          rw [← key] at hc
          refine s_ret ev_c fun H6 e6 => ?_
          have := q H6 ((((e12.trans e34)).trans e5).trans e6)
          rw [hlost hc] at this
          exact this
        · intro hc H5 e5
          rw [← key] at hc
          exact next H5 (e4.trans e5) hc
    · rintro σ' H' ⟨⟨u, v, w', rfl⟩, e1, hno⟩
      refine s_ret ev_c fun H2 e2 => ?_
      have := q H2 (e1.trans e2)
      rw [lost_is, any_range_false (fun i hi => hno i (by rw [List.length_map, G.piecesA.1, ← hl]; exact hi))] at this
      exact this
end
end Es
end

section
set_option Elab.async false
set_option linter.all false
set_option maxRecDepth 100000
set_option maxHeartbeats 4000000
namespace Es
open PySem PySem.Spec PyProof.Rows L2 Evl
/-! ### who stands where -/
theorem findIdx_snoc {l : List Nat} {s t : Nat} : (l ++ [s]).findIdx? (fun x => x == t) = match l.findIdx? (fun x => x == t) with
    | some i => some i
    | none => if s = t then some l.length else none := by
  rw [List.findIdx?_append]
  cases l.findIdx? (fun x => x == t) with
  | some i => rfl
  | none =>
    by_cases c : s = t
    · subst c
      simp [List.findIdx?_cons]
    · have : (s == t) = false := by simpa using c
      simp [List.findIdx?_cons, this, c]
/-- a dict of holders: by square the side of who stands there -/
def HoldKV (kvs : List (Key × V)) (h : Nat → Option Nat) : Prop := ∀ t : Nat, t < 64 → valV kvs (Sum.inl (t : Int)) = (h t).map fun (s : Nat) => V.int (s : Int)
def holdTo (g : Lm.Game) (l : List Nat) (n t : Nat) : Option Nat := ((l.take n).findIdx? fun x => x == t).map g.sideOf
theorem holdTo_all (g : Lm.Game) (l : List Nat) (x t : Nat) : holdTo g l l.length t = holdOf g ⟨l, x⟩ t := by
  unfold holdTo holdOf Lm.pieceAt
  rw [List.take_length]
theorem holdTo_next {g : Lm.Game} {l : List Nat} {n s t : Nat} (h : l[n]? = some s) : holdTo g l (n + 1) t = match holdTo g l n t with
    | some i => some i
    | none => if s = t then some (g.sideOf n) else none := by
  unfold holdTo
  have hn : (l.take n).length = n := by rw [List.length_take]; have := (List.getElem?_eq_some_iff.mp h).1; omega
  rw [take_next h, findIdx_snoc, hn]
  cases (l.take n).findIdx? (fun x => x == t) with
  | some i => rfl
  | none =>
    by_cases c : s = t
    · rw [if_pos c, if_pos c]; rfl
    · rw [if_neg c, if_neg c]; rfl
theorem holdTo_new {g : Lm.Game} {l : List Nat} {n s : Nat} (h : l[n]? = some s) (hs : s ≠ Lm.OFF) (nd : (l.filter fun s => s != Lm.OFF).Nodup) : holdTo g l n s = none := by
  unfold holdTo
  cases e : (l.take n).findIdx? (fun x => x == s) with
  | none => rfl
  | some i =>
    exfalso
    obtain ⟨hi, h2, _⟩ := List.findIdx?_eq_some_iff_getElem.mp e
    have hin : i < n := by rw [List.length_take] at hi; omega
    have hl := (List.getElem?_eq_some_iff.mp h)
    have e1 : (l.take n)[i] = s := by simpa using h2
    rw [List.getElem_take] at e1
    have il : i < l.length := by rw [List.length_take] at hi; omega
    -- two places of one square
    have split : l = l.take n ++ s :: l.drop (n + 1) := by
      obtain ⟨hlt, hv⟩ := hl
      rw [← hv, ← List.drop_eq_getElem_cons hlt, List.take_append_drop]
    rw [split, List.filter_append, List.filter_cons, if_pos (by simpa using hs)] at nd
    have hm : s ∈ (l.take n).filter fun s => s != Lm.OFF := List.mem_filter.mpr ⟨by rw [← e1]; exact List.mem_iff_getElem.mpr ⟨i, hi, by rw [List.getElem_take]⟩, by simpa using hs⟩
    exact (List.nodup_append.mp nd).2.2 s hm s (List.mem_cons_self ..) rfl
theorem holdKV_put {g : Lm.Game} {l : List Nat} {n s : Nat} {kvs : List (Key × V)} (hk : HoldKV kvs (holdTo g l n)) (h : l[n]? = some s) (hs : s ≠ Lm.OFF) (nd : (l.filter fun s => s != Lm.OFF).Nodup) : HoldKV (putK kvs (Sum.inl (s : Int)) (V.int (g.sideOf n : Nat))) (holdTo g l (n + 1)) := by
  intro t ht
  rw [valV_put, holdTo_next h]
  by_cases c : t = s
  · subst c
    rw [if_pos rfl, holdTo_new h hs nd]
    simp
  · rw [if_neg (fun z => c (by have := Sum.inl.inj z; omega)), hk t ht]
    cases holdTo g l n t with
    | some i => rfl
    | none => simp [show ¬ s = t from fun z => c z.symm]
theorem holdKV_off {g : Lm.Game} {l : List Nat} {n : Nat} {kvs : List (Key × V)} (hk : HoldKV kvs (holdTo g l n)) (h : l[n]? = some Lm.OFF) : HoldKV kvs (holdTo g l (n + 1)) := by
  intro t ht
  rw [hk t ht, holdTo_next h]
  cases holdTo g l n t with
  | some i => rfl
  | none => simp [show ¬ Lm.OFF = t by unfold Lm.OFF; omega]
section
variable {P : Program} {w : World} {K : Fr} {mg : Str → Option Value} {base : Heap}
/-! ### holders_of -/
def sp_holders_of : Sp := fun vs H Q _ => ∃ (ga ra : Addr) (g : Lm.Game) (l : List Nat) (x : Nat), vs = [.ref ga, .ref ra] ∧ GAt K H ga g ∧ Fit g ∧ H ra = some (.lst (IL (l ++ [x]))) ∧ Lm.rightPos g ⟨l, x⟩ = true ∧ RetF (fun p Hn => ∃ kvs, Hn p = some (.dK kvs) ∧ HoldKV kvs (holdOf g ⟨l, x⟩)) H Q
abbrev s_holders_of : Stmt := top 21
abbrev n_holders_of : List Str := ["game", "row", "holders", "number", "piece"]
theorem sc_holders_of : FnScope n_holders_of ["game", "row"] (defScope s_holders_of) := ⟨rfl, rfl, rfl, by decide +kernel, rfl, by decide +kernel, by decide +kernel⟩
theorem ok_holders_of (T : Env K mg) : Cal P w K mg base CX0 1 "holders_of" (sp_holders_of (K := K)) := by
  refine T.d_holders_of.cal sc_holders_of (fun _ _ _ _ _ _ us hl => match us, hl with | [_, _], _ => rfl) (fun vs H Q E h => ?_) (Body0.by fun f cdv A outer s H vs Q E hr h => ⟨_, (pss_cons (ps_set (i := 2) sc_holders_of.nd rfl (Or.inl rfl) pe_dnewK) (pss_cons (ps_for PassesOwn.never rfl (pi_enum (by rfl) T.f_enumerate (pa_cons (pe_fld (pv 0) rfl) pa_nil)) (pg_tup rfl (pgs_cons (pg_name (i := 3) sc_holders_of.nd rfl (Or.inl rfl)) (pgs_cons (pg_name (i := 4) sc_holders_of.nd rfl (Or.inl rfl)) pgs_nil))) (pss_one (ps_if (pt_cmpR op_ne (pe_ix ix_list (pv 1) (pv 3) (fun _ _ => rfl)) (pe_gv (by rfl) T.v_OFF) (nomark _)) (pss_one (ps_dput (hu_of hr) (pv 2) (pe_ix ix_list (pv 1) (pv 3) (fun _ _ => rfl)) (pe_fld (pv 4) rfl) rfl)) pss_nil))) (pss_one (ps_ret (pv 2))))), ?_⟩)
  · obtain ⟨ga, ra, g, l, x, rfl, _⟩ := h
    rfl
  · obtain ⟨ga, ra, g, l, x, rfl, ⟨dx, lk, lp, ls, dp, lw, ks, ps, ws, G⟩, F, hra, hR, q⟩ := h
    obtain ⟨hl, hx1, hon, hnd⟩ := right_iff.mp hR
    have hl : l.length = g.pieces.length := hl
    refine q_dnew fun d hd => ?_
    have e0 : Ex H (upd H d (.dK [])) := Ex.new hd
    refine q_enum (K := K) (a := lp) (xs := ps.map V.ref) (ea_cons (ev_fld (ev_var rfl) (e0 _ _ G.obj) T.c_Game T.n_Game_pieces rfl) ea_nil) (sq_of (e0 _ _ G.pieces)) (fun n σ H' => (∃ u v, σ = [some (.ref ga), some (.ref ra), some (.ref d), u, v]) ∧ Ex H H' ∧ ∃ kvs, H' d = some (.dK kvs) ∧ kvs.length ≤ n ∧ HoldKV kvs (holdTo g l n))
      (fun H1 e1 => ⟨⟨none, none, rfl⟩, e0.trans e1, [], e1 _ _ upd_same, Nat.le_refl _, fun t ht => rfl⟩) (fun i σ' H' _ p => sq_of (p.2.1 _ _ G.pieces)) ?_ ?_
    · rintro n x' σ' H' H2 hx ⟨⟨u, v, rfl⟩, e1, kvs, hd1, hkl, hk⟩ e2
      obtain ⟨pa, hpa, rfl⟩ := refs_get hx
      obtain ⟨⟨pk, psd⟩, hpc, hP⟩ := G.piecesA.get' hpa
      obtain ⟨dxp, hP⟩ := PieceAt.mono _ _ (e1.trans e2) hP
      have e12 := e1.trans e2
      have hsd : g.sideOf n = psd := by unfold Lm.Game.sideOf; rw [getD_of hpc]
      have hn : n < l.length := by rw [hl]; exact (List.getElem?_eq_some_iff.mp hpc).1
      have hn6 : n < 6 := by have := F.np.2; omega
      obtain ⟨sq, hsq⟩ : ∃ sq, l[n]? = some sq := ⟨_, List.getElem?_eq_getElem hn⟩
      have hsq2 : (l ++ [x])[n]? = some sq := by rw [List.getElem?_append_left hn]; exact hsq
      refine s_when (et_test (ev_op (ev_op (ev_var rfl) (ev_var rfl) (rv_ixL (K := K) (sq_of (e12 _ _ hra)) (atI_IL hsq2))) ev_c (rv_ne rfl))) ?_ ?_
      · intro hb H3 e3
        rw [show decide (V.int (sq : Int) = V.int 64) = decide (sq = 64) from dec_nat (b := 64), Bool.not_eq_true', decide_eq_false_iff_not] at hb
        refine s_dput (d := d) (k := Sum.inl (sq : Int)) ((e2.trans e3) _ _ hd1) (ev_fld (ev_var rfl) (e3 _ _ hP) T.c_Piece T.n_Piece_side rfl) (ev_var rfl) (ev_op (ev_var rfl) (ev_var rfl) (rv_ixL (K := K) (sq_of ((e12.trans e3) _ _ hra)) (atI_IL hsq2))) (by omega) fun H4 e4 => ⟨⟨_, _, rfl⟩, Ex.mut ((e12.trans e3).trans e4) hd, _, upd_same, ?_, ?_⟩
        · rw [putK_new _ (by rw [hk sq (by
            rcases hon sq (List.mem_of_getElem? hsq) with z | z
            · exact absurd z hb
            · exact z.1), holdTo_new hsq hb hnd]; rfl), List.length_append, List.length_singleton]
          omega
        · have := holdKV_put hk hsq hb hnd
          rw [hsd] at this
          exact this
      · intro hb H3 e3
        rw [show decide (V.int (sq : Int) = V.int 64) = decide (sq = 64) from dec_nat (b := 64), Bool.not_eq_false', decide_eq_true_eq] at hb
        subst hb
        exact ⟨⟨_, _, rfl⟩, e12.trans e3, kvs, (e2.trans e3) _ _ hd1, by omega, holdKV_off hk hsq⟩
    · rintro σ' H' ⟨⟨u, v, rfl⟩, e1, kvs, hd1, hkl, hk⟩
      refine s_ret (ev_var rfl) fun H2 e2 => q d H2 hd (e1.trans e2) ⟨kvs, ?_, ?_⟩
      · rw [New.at hd]
        exact e2 _ _ hd1
      · intro t ht
        rw [hk t ht, List.length_map, G.piecesA.1, ← hl, holdTo_all g l x]
/-! ### targets_of -/
/-- the keys of a dict of targets -/
def TK (acc : List Nat) : List (Key × V) := acc.map fun (t : Nat) => (Sum.inl (t : Int), V.bl true)
theorem TK_keys (acc : List Nat) : ((TK acc).map fun kv => kV kv.1) = IL acc := by unfold TK IL; rw [List.map_map]; rfl
theorem TK_val {acc : List Nat} {t : Nat} : valV (TK acc) (Sum.inl (t : Int)) = if acc.contains t = true then some (V.bl true) else none := by
  induction acc with
  | nil => rfl
  | cons a r ih =>
    show valV ((Sum.inl (a : Int), V.bl true) :: TK r) _ = _
    by_cases c : a = t
    · subst c
      rw [valV_pos rfl, if_pos (by simp)]
    · rw [valV_neg (fun z => c (by have := Sum.inl.inj z; omega)), ih]
      have : (a :: r).contains t = r.contains t := by
        rw [List.contains_cons, show (t == a) = false by simpa using fun z => c z.symm, Bool.false_or]
      rw [this]
theorem putK_same : ∀ {kvs : List (Key × V)} {k : Key} {v : V}, (∀ p ∈ kvs, p.1 = k → p.2 = v) → (kvs.map fun kv => if kv.1 = k then (kv.1, v) else kv) = kvs
  | [], _, _, _ => rfl
  | p :: r, k, v, h => by
    rw [List.map_cons, putK_same fun q hq => h q (List.mem_cons_of_mem _ hq)]
    by_cases c : p.1 = k
    · rw [if_pos c, ← h p (List.mem_cons_self ..) c]
    · rw [if_neg c]
theorem TK_put (acc : List Nat) (t : Nat) : putK (TK acc) (Sum.inl (t : Int)) (V.bl true) = TK (put1 acc t) := by
  unfold put1
  by_cases c : acc.contains t = true
  · rw [if_pos c]
    unfold putK
    rw [if_pos (by rw [valV_any, TK_val, if_pos c]; rfl)]
    refine putK_same fun p hp _ => ?_
    obtain ⟨a, _, e⟩ := List.mem_map.mp hp
    rw [← e]
  · rw [if_neg c, putK_new _ (by rw [TK_val, if_neg c])]
    unfold TK
    rw [List.map_append]
    rfl
theorem put1_len (acc : List Nat) (t : Nat) : (put1 acc t).length ≤ acc.length + 1 := by
  unfold put1
  split
  · omega
  · rw [List.length_append, List.length_singleton]; omega
theorem how1 {h : Nat} : decide (V.int (Builtin.bitAnd (h : Int) 1) = V.int 1) = decide (h % 2 = 1) := by
  have e : Builtin.bitAnd (h : Int) 1 = ((h % 2 : Nat) : Int) := by
    have := Bits.bitAnd_mask (x := (h : Int)) 1 (Int.natCast_nonneg h)
    have e2 : ((2 : Int) ^ 1 - 1) = 1 := by decide
    rw [e2] at this
    rw [this]
    norm_cast
  rw [e, show (V.int 1 : V) = V.int ((1 : Nat) : Int) from rfl, dec_nat]
theorem how2 {h : Nat} (h3 : h ≤ 3) : decide (V.int (Builtin.bitAnd (h : Int) 2) = V.int 2) = decide (2 ≤ h) := by
  rcases (show h = 0 ∨ h = 1 ∨ h = 2 ∨ h = 3 by omega) with e | e | e | e <;> subst e <;> decide
def sp_targets_of : Sp := fun vs H Q _ => ∃ (lw d : Addr) (side : Nat) (ws : List Addr) (qs : List (Nat × List Nat)) (kvs : List (Key × V)) (hold : Nat → Option Nat), vs = [.ref lw, .ref d, .int (side : Nat)] ∧ H lw = some (.lst (ws.map V.ref)) ∧ AllAt (fun r (q : Nat × List Nat) => WayAt K H r q.1 q.2) ws qs ∧
  H d = some (.dK kvs) ∧ HoldKV kvs hold ∧ qs.length ≤ 16 ∧ (∀ q ∈ qs, q.1 ≤ 3 ∧ q.2.length ≤ 7 ∧ ∀ t ∈ q.2, t < 64) ∧ RetL (IL (Lm.firsts (qs.flatMap fun q => takeWay hold side q.1 q.2))) H Q
abbrev s_targets_of : Stmt := top 22
abbrev n_targets_of : List Str := ["ways", "holders", "side", "targets", "way", "square", "holder"]
theorem sc_targets_of : FnScope n_targets_of ["ways", "holders", "side"] (defScope s_targets_of) := ⟨rfl, rfl, rfl, by decide +kernel, rfl, by decide +kernel, by decide +kernel⟩
theorem ok_targets_of (T : Env K mg) : Cal P w K mg base CX0 1 "targets_of" (sp_targets_of (K := K)) := by
  refine T.d_targets_of.cal sc_targets_of (fun _ _ _ _ _ _ us hl => match us, hl with | [_, _, _], _ => rfl) (fun vs H Q E h => ?_) (Body0.by fun f cdv A outer s H vs Q E hr h => ⟨_, (pss_cons (ps_set (i := 3) sc_targets_of.nd rfl (Or.inl rfl) pe_dnewK) (pss_cons (ps_for PassesOwn.never rfl (pi_list (pv 0)) (pg_name (i := 4) sc_targets_of.nd rfl (Or.inl rfl)) (pss_one (ps_for PassesOwn.never rfl (pi_list (pe_fld (pv 4) rfl)) (pg_name (i := 5) sc_targets_of.nd rfl (Or.inl rfl)) (pss_cons (ps_set (i := 6) sc_targets_of.nd rfl (Or.inl rfl) (pe_dget1 (hu_of hr) (pv 1) (pv 5) ⟨rfl, rfl, rfl, rfl⟩)) (pss_one (ps_if (pt_cmpR op_isN (pv 6) pe_non (nomark _)) (pss_one (ps_if (pt_cmpR op_eq (pe_op op_and (pe_fld (pv 4) rfl) pe_int) pe_int (nomark _)) (pss_one (ps_dput (hu_of hr) (pv 3) (pv 5) pe_bl rfl)) pss_nil)) (pss_cons (ps_if (PW.pt (pw_and (pt_cmpR op_ne (pv 6) (pv 2) (nomark _)) (pw_and1 (pt_cmpR op_eq (pe_op op_and (pe_fld (pv 4) rfl) pe_int) pe_int (nomark _))))) (pss_one (ps_dput (hu_of hr) (pv 3) (pv 5) pe_bl rfl)) pss_nil) (pss_one ps_break)))))))) (pss_one (ps_ret (pe_callTy (call_list_dK rfl) (by rfl) T.f_list (by decide +kernel) (pa_cons (pv 3) pa_nil)))))), ?_⟩)
  · obtain ⟨lw, d, side, ws, qs, kvs, hold, rfl, _⟩ := h
    rfl
  · obtain ⟨lw, d, side, ws, qs, kvs, hold, rfl, hlw, hA, hd, hk, hqs, hq, q⟩ := h
    refine q_dnew fun tg htg => ?_
    have e0 : Ex H (upd H tg (.dK [])) := Ex.new htg
    refine q_forLn (K := K) (a := lw) (xs := ws.map V.ref) (ev_var rfl) (sq_of (e0 _ _ hlw)) (fun n σ H' => (∃ u v w, σ = [some (.ref lw), some (.ref d), some (.int (side : Nat)), some (.ref tg), u, v, w]) ∧ Ex H H' ∧ ∃ acc, H' tg = some (.dK (TK acc)) ∧ acc.length ≤ 7 * n ∧ acc = ((qs.take n).flatMap fun q => takeWay hold side q.1 q.2).foldl put1 [])
      (fun H1 e1 => ⟨⟨none, none, none, rfl⟩, e0.trans e1, [], e1 _ _ upd_same, Nat.le_refl _, rfl⟩) (fun i σ' H' _ p => sq_of (p.2.1 _ _ hlw)) ?_ ?_
    · rintro n x' σ' H' hx ⟨⟨u, v, w', rfl⟩, e1, acc, htg1, hlen, hacc⟩
      obtain ⟨wa, hwa, rfl⟩ := refs_get hx
      obtain ⟨⟨how, sqs⟩, hqn, hW⟩ := hA.get' hwa
      have hfit : how ≤ 3 ∧ sqs.length ≤ 7 ∧ ∀ t ∈ sqs, t < 64 := hq _ (List.mem_of_getElem? hqn)
      have hn16 : n < 16 := by have := (List.getElem?_eq_some_iff.mp hqn).1; omega
      obtain ⟨dxw, lsq, hw1, hw2⟩ := WayAt.mono _ _ e1 hW
      have fin : ∀ acc', acc' = (takeWay hold side how sqs).foldl put1 acc → acc' = ((qs.take (n + 1)).flatMap fun q => takeWay hold side q.1 q.2).foldl put1 [] := fun acc' h => by
        rw [take_next hqn, List.flatMap_append, List.foldl_append, ← hacc, h]
        simp
      refine s_forLn (K := K) (a := lsq) (xs := IL sqs) (ev_fld (ev_var rfl) hw1 T.c_Way T.n_Way_squares rfl) (sq_of hw2) (fun j σ H2 => (∃ v w, σ = [some (.ref lw), some (.ref d), some (.int (side : Nat)), some (.ref tg), some (.ref wa), v, w]) ∧ Ex H H2 ∧ H2 wa = H' wa ∧ H2 lsq = H' lsq ∧ ∃ acc' pre, H2 tg = some (.dK (TK acc')) ∧ acc'.length ≤ 7 * n + j ∧ acc' = pre.foldl put1 acc ∧ takeWay hold side how sqs = pre ++ takeWay hold side how (sqs.drop j))
        (fun H1 e2 => ⟨⟨_, _, rfl⟩, e1.trans e2, by rw [hw1, e2 _ _ hw1], by rw [hw2, e2 _ _ hw2], acc, [], e2 _ _ htg1, by omega, rfl, rfl⟩) (fun i σ' H2 _ p => sq_of (p.2.2.2.1.trans hw2)) ?_ ?_
      · rintro j x' σ' H2 hx ⟨⟨v', w'', rfl⟩, e2, hwa2, hlsq2, acc', pre, htg2, hlen2, hacc2, htw⟩
        obtain ⟨t, ht, rfl⟩ := IL_get hx
        have ht64 : t < 64 := hfit.2.2 t (List.mem_of_getElem? ht)
        have hj7 : j < 7 := by have := (List.getElem?_eq_some_iff.mp ht).1; have := hfit.2.1; omega
        have hdrop : sqs.drop j = t :: sqs.drop (j + 1) := by
          obtain ⟨hlt, hv⟩ := List.getElem?_eq_some_iff.mp ht
          rw [← hv]
          exact List.drop_eq_getElem_cons hlt
        have nwa : wa ≠ tg := fun z => by rw [z, htg1] at hw1; cases hw1
        have nls : lsq ≠ tg := fun z => by rw [z, htg1] at hw2; cases hw2
        refine q_asg (ev_dget1 (d := d) (kvs := kvs) (k := Sum.inl (t : Int)) (ev_var rfl) (ev_var rfl) (e2 _ _ hd)) fun H3 e3 => ?_
        rw [hk t ht64]
        have hw3 := e3 _ _ (hwa2.trans hw1)
        have hls3 := e3 _ _ (hlsq2.trans hw2)
        cases hh : hold t with
        | none =>
          have tw : takeWay hold side how (sqs.drop j) = (if how % 2 = 1 then [t] else []) ++ takeWay hold side how (sqs.drop (j + 1)) := by
            rw [hdrop]
            show (match hold t with | none => _ | some h => _) = _
            rw [hh]
          refine s_if (b := true) (et_is (et_test (ev_isN (ev_var rfl))) rfl) (fun _ H4 e4 => ?_) (fun z => Bool.noConfusion z)
          refine s_when (et_test (ev_op (ev_op (ev_fld (ev_var rfl) (e4 _ _ hw3) T.c_Way T.n_Way_how rfl) ev_c rv_I0) ev_c (rv_eq rfl))) ?_ ?_
          · intro hb H5 e5
            rw [how1, decide_eq_true_eq] at hb
            have e35 := (e3.trans e4).trans e5
            refine s_dput (d := tg) (k := Sum.inl (t : Int)) (e35 _ _ htg2) ev_c (ev_var rfl) (ev_var rfl) (by unfold TK; rw [List.length_map]; omega) fun H6 e6 => ⟨⟨_, _, rfl⟩, Ex.mut ((e2.trans e35).trans e6) htg, ?_, ?_, put1 acc' t, pre ++ [t], ?_, ?_, ?_, ?_⟩
            · rw [upd_ne nwa, hw1, ((e4.trans e5).trans e6) _ _ hw3]
            · rw [upd_ne nls, hw2, ((e4.trans e5).trans e6) _ _ hls3]
            · rw [upd_same, TK_put]
            · have := put1_len acc' t
              omega
            · rw [List.foldl_append, ← hacc2]
              rfl
            · rw [htw, tw, if_pos hb, List.append_assoc]
          · intro hb H5 e5
            rw [how1, decide_eq_false_iff_not] at hb
            have e35 := (e3.trans e4).trans e5
            refine ⟨⟨_, _, rfl⟩, e2.trans e35, ?_, ?_, acc', pre, e35 _ _ htg2, by omega, hacc2, ?_⟩
            · rw [hw1, (e4.trans e5) _ _ hw3]
            · rw [hw2, (e4.trans e5) _ _ hls3]
            · rw [htw, tw, if_neg hb]
              rfl
        | some hs =>
          have tw : takeWay hold side how (sqs.drop j) = if hs = side then [] else if 2 ≤ how then [t] else [] := by
            rw [hdrop]
            show (match hold t with | none => _ | some h => _) = _
            rw [hh]
          refine s_if (b := false) (et_is (et_test (ev_isN (ev_var rfl))) rfl) (fun z => Bool.noConfusion z) (fun _ H4 e4 => ?_)
          have e34 := e3.trans e4
          have done : ∀ acc2 H6, acc2.length ≤ 7 * (n + 1) → Ex H H6 → H6 tg = some (.dK (TK acc2)) → acc2 = (takeWay hold side how sqs).foldl put1 acc → ((∃ u v w, [some (V.ref lw), some (V.ref d), some (V.int (side : Nat)), some (V.ref tg), some (V.ref wa), some (V.int (t : Int)), some (V.int (hs : Int))] = [some (.ref lw), some (.ref d), some (.int (side : Nat)), some (.ref tg), u, v, w]) ∧ Ex H H6 ∧ ∃ acc, H6 tg = some (.dK (TK acc)) ∧ acc.length ≤ 7 * (n + 1) ∧ acc = ((qs.take (n + 1)).flatMap fun q => takeWay hold side q.1 q.2).foldl put1 []) :=
            fun acc2 H6 a b c dd => ⟨⟨_, _, _, rfl⟩, b, acc2, c, a, fin acc2 dd⟩
          refine q_when (et_and (et_test (ev_op (ev_var rfl) (ev_var rfl) (rv_ne rfl))) (fun _ => et_test (ev_op (ev_op (ev_fld (ev_var rfl) (e4 _ _ hw3) T.c_Way T.n_Way_how rfl) ev_c rv_I0) ev_c (rv_eq rfl)))) ?_ ?_
          · intro hb H5 e5
            have hb : (!decide (V.int (hs : Int) = V.int (side : Int)) && decide (V.int (Builtin.bitAnd (how : Int) 2) = V.int 2)) = true := hb
            rw [dec_nat, how2 hfit.1, Bool.and_eq_true, Bool.not_eq_true', decide_eq_false_iff_not, decide_eq_true_eq] at hb
            refine s_dput (d := tg) (k := Sum.inl (t : Int)) ((e34.trans e5) _ _ htg2) ev_c (ev_var rfl) (ev_var rfl) (by unfold TK; rw [List.length_map]; omega) fun H6 e6 => ?_
            refine done (put1 acc' t) _ (by have := put1_len acc' t; omega) (Ex.mut ((e2.trans (e34.trans e5)).trans e6) htg) (by rw [upd_same, TK_put]) ?_
            rw [htw, tw, if_neg hb.1, if_pos hb.2, List.foldl_append, ← hacc2]
            rfl
          · intro hb H5 e5
            have hb : (!decide (V.int (hs : Int) = V.int (side : Int)) && decide (V.int (Builtin.bitAnd (how : Int) 2) = V.int 2)) = false := hb
            refine s_break (done acc' _ (by omega) (e2.trans (e34.trans e5)) ((e34.trans e5) _ _ htg2) ?_)
            have : takeWay hold side how (sqs.drop j) = [] := by
              rw [tw]
              rw [dec_nat, how2 hfit.1, Bool.and_eq_false_iff, Bool.not_eq_false', decide_eq_true_eq, decide_eq_false_iff_not] at hb
              rcases hb with z | z
              · rw [if_pos z]
              · rw [if_neg z]; split <;> rfl
            rw [htw, this, List.append_nil]
            exact hacc2
      · rintro σ' H2 ⟨⟨v', w'', rfl⟩, e2, hwa2, hlsq2, acc', pre, htg2, hlen2, hacc2, htw⟩
        rw [IL_len] at hlen2 htw
        refine ⟨⟨_, _, _, rfl⟩, e2, acc', htg2, by have := hfit.2.1; omega, fin acc' ?_⟩
        rw [htw, List.drop_length]
        rw [show takeWay hold side how [] = [] from rfl, List.append_nil]
        exact hacc2
    · rintro σ' H' ⟨⟨u, v, w', rfl⟩, e1, acc, htg1, hlen, hacc⟩
      refine s_retL (ev_listD (d := tg) (ev_var rfl) htg1) fun p H2 hp e2 h2 => q p H2 (fresh_back e1 hp) (e1.trans e2) ?_
      rw [h2, TK_keys, hacc, List.length_map, hA.1, List.take_length]
      rfl
end
end Es
end

section
set_option Elab.async false
set_option linter.all false
set_option maxRecDepth 100000
set_option maxHeartbeats 4000000
namespace Es
open PySem PySem.Spec PyProof.Rows L2 Evl
theorem et_yes {σ : L2.St} {H : Hp} : EvT tYes σ H true := fun H1 _ _ q => q H1 (Ex.refl _)
theorem given_all {n : Nat} {v : Nat → V} : given n (fun _ => true) v = (List.range n).map v := by
  unfold given
  rw [List.filter_eq_self.mpr fun _ _ => rfl]
theorem range_getD {α : Type} (l : List α) (d : α) : (List.range l.length).map (fun i => l.getD i d) = l := by
  apply List.ext_getElem?
  intro i
  rw [List.getElem?_map]
  by_cases h : i < l.length
  · rw [List.getElem?_range h, List.getElem?_eq_getElem h]
    show some (l.getD i d) = _
    rw [getD_of (List.getElem?_eq_getElem h)]
  · rw [List.getElem?_eq_none_iff.mpr (by rw [List.length_range]; omega), List.getElem?_eq_none_iff.mpr (by omega)]
    rfl
theorem takeWay_len {hold : Nat → Option Nat} {side how : Nat} : ∀ l : List Nat, (takeWay hold side how l).length ≤ l.length
  | [] => Nat.le_refl _
  | a :: l => by
    unfold takeWay
    have ih := takeWay_len (hold := hold) (side := side) (how := how) l
    cases hold a with
    | none =>
      show ((if how % 2 = 1 then [a] else []) ++ takeWay hold side how l).length ≤ _
      rw [List.length_append, List.length_cons]
      split
      · rw [List.length_singleton]; omega
      · rw [List.length_nil]; omega
    | some h =>
      show (if h = side then [] else if 2 ≤ how then [a] else []).length ≤ _
      rw [List.length_cons]
      split
      · exact Nat.zero_le _
      · split
        · rw [List.length_singleton]; omega
        · exact Nat.zero_le _
theorem foldl_put1_len : ∀ (l acc : List Nat), (l.foldl put1 acc).length ≤ acc.length + l.length
  | [], acc => Nat.le_refl _
  | a :: l, acc => by
    rw [List.foldl_cons, List.length_cons]
    have := foldl_put1_len l (put1 acc a)
    have := put1_len acc a
    omega
theorem flatMap_len {α : Type} {f : α → List Nat} : ∀ (l : List α), (∀ x ∈ l, (f x).length ≤ 7) → (l.flatMap f).length ≤ 7 * l.length
  | [], _ => Nat.le_refl _
  | a :: l, h => by
    rw [List.flatMap_cons, List.length_append, List.length_cons]
    have := h a (List.mem_cons_self ..)
    have := flatMap_len l fun x hx => h x (List.mem_cons_of_mem _ hx)
    omega
theorem wayKV_val {l : List Nat} (nd : l.Nodup) {rs : List Addr} {j s : Nat} {r : Addr} (hs : l[j]? = some s) (hr : rs[j]? = some r) : valV (wayKV l rs) (Sum.inl (s : Int)) = some (.ref r) := by
  induction l generalizing rs j with
  | nil => simp at hs
  | cons a l ih =>
    cases rs with
    | nil => simp at hr
    | cons b rs =>
      show valV ((Sum.inl (a : Int), V.ref b) :: wayKV l rs) _ = _
      cases j with
      | zero =>
        have h1 : a = s := by simpa using hs
        have h2 : b = r := by simpa using hr
        rw [valV_pos (by rw [h1]), h2]
      | succ j =>
        have hs' : l[j]? = some s := hs
        have hr' : rs[j]? = some r := hr
        have ne : ¬ a = s := fun z => (List.nodup_cons.mp nd).1 (by rw [z]; exact List.mem_of_getElem? hs')
        rw [valV_neg (fun z => ne (by have := Sum.inl.inj z; omega))]
        exact ih (List.nodup_cons.mp nd).2 hs' hr'
/-- what a row tells: its position after a move -/
def rowAfter (l : List Nat) (x m : Nat) : List Nat := (if m = Lm.PASS then l else putAfter l (m / 256) (m % 256)) ++ [1 - x]
theorem rowAfter_is {g : Lm.Game} {l : List Nat} {x m : Nat} (hl : l.length = g.pieces.length) : rowAfter l x m = LmCalls.posNums (Lm.after g ⟨l, x⟩ m) := by
  unfold rowAfter
  by_cases c : m = Lm.PASS
  · rw [if_pos c]
    unfold Lm.after
    rw [if_pos c]
    rfl
  · rw [if_neg c, after_eq (p := ⟨l, x⟩) hl c]
    rfl
theorem cutV_init (l : List Nat) (x : Nat) : cutV (IL (l ++ [x])) none (some (-1)) = IL l := by
  have hl : (IL (l ++ [x])).length = l.length + 1 := by rw [IL_len, List.length_append, List.length_singleton]
  unfold cutV
  have h1 : HT.sIx (IL (l ++ [x])).length 0 none = 0 := rfl
  have h2 : HT.sIx (IL (l ++ [x])).length (IL (l ++ [x])).length (some (-1)) = l.length := by
    rw [hl]
    unfold HT.sIx
    simp
    omega
  rw [h1, h2, List.drop_zero, IL_snoc, Nat.sub_zero]
  have : l.length = (IL l).length := (IL_len l).symm
  rw [this, List.take_left]
section
variable {P : Program} {w : World} {K : Fr} {mg : Str → Option Value} {base : Heap}
theorem spv_has_lost {H : Hp} {ga ra : Addr} {side : Nat} {g : Lm.Game} {l : List Nat} {x : Nat} (hG : GAt K H ga g) (F : Fit g) (hra : H ra = some (.lst (IL (l ++ [x])))) (hl : l.length = g.pieces.length) : SpV (sp_has_lost (K := K)) ([.ref ga, .ref ra, .int (side : Nat)] ++ []) H (.bl (Lm.lost g ⟨l, x⟩ side)) :=
  fun H1 e _ q _ => ⟨ga, ra, side, g, l, x, rfl, GAt.mono _ _ e hG, F, e _ _ hra, hl, q⟩
/-! ### moves_of -/
def sp_moves_of : Sp := fun vs H Q _ => ∃ (ga ra : Addr) (g : Lm.Game) (l : List Nat) (x : Nat), vs = [.ref ga, .ref ra] ∧ GAt K H ga g ∧ Fit g ∧ H ra = some (.lst (IL (l ++ [x]))) ∧ Lm.rightPos g ⟨l, x⟩ = true ∧ RetL (IL (Lm.moves g ⟨l, x⟩)) H Q
abbrev s_moves_of : Stmt := top 23
abbrev n_moves_of : List Str := ["game", "row", "side", "holders", "moves", "number", "piece", "ways", "square"]
theorem sc_moves_of : FnScope n_moves_of ["game", "row"] (defScope s_moves_of) := ⟨rfl, rfl, rfl, by decide +kernel, rfl, by decide +kernel, by decide +kernel⟩
theorem ok_moves_of (T : Env K mg) : Cal P w K mg base CX0 3 "moves_of" (sp_moves_of (K := K)) := by
  refine T.d_moves_of.cal sc_moves_of (fun _ _ _ _ _ _ us hl => match us, hl with | [_, _], _ => rfl) (fun vs H Q E h => ?_) (Body0.by fun f cdv A outer s H vs Q E hr h => ⟨_, (pss_cons (ps_if (PW.pt (pw_or (pt_val (pe_c (ok_has_lost T) hr (by decide) (by rfl) pass0 (pa_cons (pv 0) (pa_cons (pv 1) (pa_cons pe_int pa_nil))))) (pw_or1 (pt_val (pe_c (ok_has_lost T) hr (by decide) (by rfl) pass0 (pa_cons (pv 0) (pa_cons (pv 1) (pa_cons pe_int pa_nil)))))))) (pss_one (ps_ret (pe_lst pa_nil))) pss_nil) (pss_cons (ps_set (i := 2) sc_moves_of.nd rfl (Or.inl rfl) (pe_ix ix_list (pv 1) (pe_un un_neg pe_int) (fun _ _ => rfl))) (pss_cons (ps_set (i := 3) sc_moves_of.nd rfl (Or.inl rfl) (pe_c (ok_holders_of T) hr (by decide) (by rfl) pass0 (pa_cons (pv 0) (pa_cons (pv 1) pa_nil)))) (pss_cons (ps_set (i := 4) sc_moves_of.nd rfl (Or.inl rfl) (pe_lst pa_nil)) (pss_cons (ps_for PassesOwn.never rfl (pi_enum (by rfl) T.f_enumerate (pa_cons (pe_fld (pv 0) rfl) pa_nil)) (pg_tup rfl (pgs_cons (pg_name (i := 5) sc_moves_of.nd rfl (Or.inl rfl)) (pgs_cons (pg_name (i := 6) sc_moves_of.nd rfl (Or.inl rfl)) pgs_nil))) (pss_one (ps_if (PW.pt (pw_and (pt_cmpR op_eq (pe_fld (pv 6) rfl) (pv 2) (nomark _)) (pw_and1 (pt_cmpR op_ne (pe_ix ix_list (pv 1) (pv 5) (fun _ _ => rfl)) (pe_gv (by rfl) T.v_OFF) (nomark _))))) (pss_cons (ps_set (i := 7) sc_moves_of.nd rfl (Or.inl rfl) (pe_dget (hu_of hr) (pe_ix ix_list (pe_fld (pv 0) rfl) (pe_fld (pv 6) rfl) (fun _ _ => rfl)) (pe_ix ix_list (pv 1) (pv 5) (fun _ _ => rfl)) (fun _ _ => rfl))) (pss_one (ps_for PassesOwn.never rfl (pi_list (pe_c (ok_targets_of T) hr (by decide) (by rfl) pass0 (pa_cons (pv 7) (pa_cons (pv 3) (pa_cons (pv 2) pa_nil))))) (pg_name (i := 8) sc_moves_of.nd rfl (Or.inl rfl)) (pss_one (ps_expr (pe_bm PySem.F.plainAttrs_list PySem.F.slot_list_append PySem.F.type_list_append mt_append (pv 4) (pa_cons (pe_op op_add (pe_op op_mul pe_int (pv 5)) (pv 8)) pa_nil))))))) pss_nil))) (pss_cons (ps_if (pt_cmpR op_eq (pe_fld (pv 0) rfl) pe_int (nomark _)) (pss_one (ps_expr (pe_bm PySem.F.plainAttrs_list PySem.F.slot_list_append PySem.F.type_list_append mt_append (pv 4) (pa_cons (pe_gv (by rfl) T.v_PASS) pa_nil)))) pss_nil) (pss_one (ps_ret (pv 4))))))))), ?_⟩)
  · obtain ⟨ga, ra, g, l, x, rfl, _⟩ := h
    rfl
  · obtain ⟨ga, ra, g, l, x, rfl, hG, F, hra, hR, q⟩ := h
    obtain ⟨hl, hx1, hon, hnd⟩ := right_iff.mp hR
    have hl : l.length = g.pieces.length := hl
    refine q_when (et_or (et_B (ev_call (ea_cons (ev_var rfl) (ea_cons (ev_var rfl) (ea_cons ev_c ea_nil))) (spv_has_lost (side := 0) hG F hra hl))) (fun _ => et_B (ev_call (ea_cons (ev_var rfl) (ea_cons (ev_var rfl) (ea_cons ev_c ea_nil))) (spv_has_lost (side := 1) hG F hra hl)))) ?_ ?_
    · intro hb H1 e1
      rw [Bool.or_eq_true] at hb
      rw [moves_eq, if_pos hb] at q
      exact s_retL (el_lst ea_nil (by decide)) fun p H2 hp e2 h2 => q p H2 (fresh_back e1 hp) (e1.trans e2) h2
    · intro hb H1 e1
      have hb : ¬ (Lm.lost g ⟨l, x⟩ 0 = true ∨ Lm.lost g ⟨l, x⟩ 1 = true) := by
        rw [Bool.or_eq_false_iff] at hb
        rw [hb.1, hb.2]
        rintro (z | z) <;> cases z
      rw [moves_eq, if_neg hb] at q
      refine q_asg (ev_op (ev_var rfl) (ev_un ev_c ru_neg) (rv_ixL (K := K) (sq_of (e1 _ _ hra)) (atI_end l x))) fun H2 e2 => ?_
      have e12 := e1.trans e2
      refine q_asgF (ef_call (F := fun p Hn => ∃ kvs, Hn p = some (.dK kvs) ∧ HoldKV kvs (holdOf g ⟨l, x⟩)) (fun p H H' e h => h.imp fun kvs h => ⟨e _ _ h.1, h.2⟩) (ea_cons (ev_var rfl) (ea_cons (ev_var rfl) ea_nil)) fun H5 e5 Q' q' => ⟨ga, ra, g, l, x, rfl, GAt.mono _ _ (e12.trans e5) hG, F, (e12.trans e5) _ _ hra, hR, q'⟩) fun d H3 hd e3 hh => ?_
      obtain ⟨kvs, hd3, hk⟩ := hh
      have hd3 : H3 d = some (.dK kvs) := (New.get hd3).2
      have e03 := e12.trans e3
      refine q_lnew fun mv hmv => ?_
      obtain ⟨dx, lk, lp, ls, dp, lw, ks, ps, ws, G⟩ := GAt.mono _ _ e03 hG
      have hra3 := e03 _ _ hra
      have e4 : Ex H3 (upd H3 mv (.lst [])) := Ex.new hmv
      refine q_enum (K := K) (a := lp) (xs := ps.map V.ref) (ea_cons (ev_fld (ev_var rfl) (e4 _ _ G.obj) T.c_Game T.n_Game_pieces rfl) ea_nil) (sq_of (e4 _ _ G.pieces)) (fun n σ H' => (∃ a b c d', σ = [some (.ref ga), some (.ref ra), some (.int (x : Nat)), some (.ref d), some (.ref mv), a, b, c, d']) ∧ Ex H3 H' ∧ H' mv = some (.lst (IL ((List.range n).flatMap (pieceMoves g ⟨l, x⟩)))) ∧ ((List.range n).flatMap (pieceMoves g ⟨l, x⟩)).length ≤ 200 * n)
        (fun H5 e5 => ⟨⟨none, none, none, none, rfl⟩, e4.trans e5, e5 _ _ upd_same, Nat.le_refl _⟩) (fun i σ' H' _ p => sq_of (p.2.1 _ _ G.pieces)) ?_ ?_
      · rintro n x' σ' H' H5 hx ⟨⟨a, b, c, d', rfl⟩, e5, hmv5, hlen⟩ e6
        obtain ⟨pa, hpa, rfl⟩ := refs_get hx
        obtain ⟨⟨pk, psd⟩, hpc, hP⟩ := G.piecesA.get' hpa
        have hf := F.pk _ (List.mem_of_getElem? hpc)
        have e36 := e5.trans e6
        obtain ⟨dxp, hP⟩ := PieceAt.mono _ _ e36 hP
        obtain ⟨kk, hkk⟩ : ∃ kk, g.kinds[pk]? = some kk := ⟨_, List.getElem?_eq_getElem hf.1⟩
        have hkf := F.kd kk (List.mem_of_getElem? hkk)
        have hsd : g.sideOf n = psd := by unfold Lm.Game.sideOf; rw [getD_of hpc]
        have hkd : g.kindOf n = kk := by unfold Lm.Game.kindOf; rw [getD_of hpc]; exact getD_of hkk
        have hn : n < l.length := by rw [hl]; exact (List.getElem?_eq_some_iff.mp hpc).1
        have hn6 : n < 6 := by have := F.np.2; omega
        obtain ⟨sq, hsq⟩ : ∃ sq, l[n]? = some sq := ⟨_, List.getElem?_eq_getElem hn⟩
        have hsq2 : (l ++ [x])[n]? = some sq := by rw [List.getElem?_append_left hn]; exact hsq
        have hgd : l.getD n Lm.OFF = sq := getD_of hsq
        have hrs : (List.range (n + 1)).flatMap (pieceMoves g ⟨l, x⟩) = (List.range n).flatMap (pieceMoves g ⟨l, x⟩) ++ pieceMoves g ⟨l, x⟩ n := by
          rw [List.range_succ, List.flatMap_append]
          simp
        refine s_when (et_and (et_test (ev_op (ev_fld (ev_var rfl) hP T.c_Piece T.n_Piece_side rfl) (ev_var rfl) (rv_eq rfl))) (fun _ => et_test (ev_op (ev_op (ev_var rfl) (ev_var rfl) (rv_ixL (K := K) (sq_of (e36 _ _ hra3)) (atI_IL hsq2))) ev_c (rv_ne rfl)))) ?_ ?_
        · intro hc H6 e7
          rw [dec_nat, show decide (V.int (sq : Int) = V.int 64) = decide (sq = 64) from dec_nat (b := 64), Bool.and_eq_true, decide_eq_true_eq, Bool.not_eq_true', decide_eq_false_iff_not] at hc
          have hpm : pieceMoves g ⟨l, x⟩ n = (targets g ⟨l, x⟩ n).map fun t => 256 * n + t := by
            unfold pieceMoves
            rw [if_pos ⟨by rw [hsd]; exact hc.1, by show l.getD n Lm.OFF ≠ _; rw [hgd]; exact hc.2⟩]
          have hsqb : sq < 64 ∧ Lm.inSet g.board sq = true := by
            rcases hon sq (List.mem_of_getElem? hsq) with z | z
            · exact absurd z hc.2
            · exact z
          have hsqi := squares_at.mpr ⟨hsqb.1, hsqb.2, rfl⟩
          obtain ⟨wd, hwd, hKW⟩ := G.waysA.get hkk
          obtain ⟨rs, hw1, hw2⟩ := hKW
          obtain ⟨r, hr1, hr2⟩ := hw2.get hsqi
          have e37 := e36.trans e7
          refine q_asg (ev_dget (d := wd) (kvs := wayKV (Lm.squaresOf g.board) rs) (k := Sum.inl (sq : Int)) (ev_op (ev_fld (ev_var rfl) (e37 _ _ G.obj) T.c_Game T.n_Game_ways rfl) (ev_fld (ev_var rfl) (e7 _ _ hP) T.c_Piece T.n_Piece_kind rfl) (rv_ixL (K := K) (sq_of (e37 _ _ G.ways)) (atI_refs hwd))) (ev_op (ev_var rfl) (ev_var rfl) (rv_ixL (K := K) (sq_of (e37 _ _ hra3)) (atI_IL hsq2))) (e37 _ _ hw1) (wayKV_val (squares_nodup _) hsqi hr1)) fun H7 e8 => ?_
          have e38 := e37.trans e8
          obtain ⟨was, hwas, hwasA⟩ := hr2
          have hT : Lm.firsts ((kk.pats.map fun q => (q.how, wayOf g.board sq q)).flatMap fun q => takeWay (holdOf g ⟨l, x⟩) x q.1 q.2) = targets g ⟨l, x⟩ n := by
            unfold targets
            rw [List.flatMap_map, hkd]
            show _ = Lm.firsts (kk.pats.flatMap fun q => takeWay (holdOf g ⟨l, x⟩) x q.how (wayOf g.board (l.getD n Lm.OFF) q))
            rw [hgd]
          have hTl : (targets g ⟨l, x⟩ n).length ≤ 112 := by
            rw [← hT, firsts_eq]
            have h1 := foldl_put1_len ((kk.pats.map fun q => (q.how, wayOf g.board sq q)).flatMap fun q => takeWay (holdOf g ⟨l, x⟩) x q.1 q.2) []
            have h2 := flatMap_len (f := fun q : Nat × List Nat => takeWay (holdOf g ⟨l, x⟩) x q.1 q.2) (kk.pats.map fun q => (q.how, wayOf g.board sq q)) (fun y hy => by
              obtain ⟨q, hq, e⟩ := List.mem_map.mp hy
              rw [← e]
              have a1 := takeWay_len (hold := holdOf g ⟨l, x⟩) (side := x) (how := q.how) (wayOf g.board sq q)
              have a2 : (wayOf g.board sq q).length ≤ q.reach := walk_len
              have := (hkf.2.2.2 q hq).1
              show (takeWay (holdOf g ⟨l, x⟩) x q.how (wayOf g.board sq q)).length ≤ 7
              omega)
            rw [List.length_map] at h2
            have := hkf.1
            simp only [List.length_nil, Nat.zero_add] at h1
            omega
          refine s_forNL (K := K) (xs := IL (targets g ⟨l, x⟩ n)) (el_callR (ea_cons (ev_var rfl) (ea_cons (ev_var rfl) (ea_cons (ev_var rfl) ea_nil))) fun H9 e9 Q' q' => ⟨r, d, x, was, kk.pats.map fun q => (q.how, wayOf g.board sq q), kvs, holdOf g ⟨l, x⟩, rfl, (e38.trans e9) _ _ hwas, ⟨by rw [hwasA.1, List.length_map], fun i r' q h1 h2 => by
              rw [List.getElem?_map] at h2
              obtain ⟨q0, hq0, e⟩ := Option.map_eq_some_iff.mp h2
              rw [← e]
              exact WayAt.mono _ _ (e38.trans e9) (hwasA.2 i r' q0 h1 hq0)⟩, (e38.trans e9) _ _ hd3, hk, by rw [List.length_map]; exact hkf.1, fun y hy => by
              obtain ⟨q0, hq0, e⟩ := List.mem_map.mp hy
              rw [← e]
              have a2 : (wayOf g.board sq q0).length ≤ q0.reach := walk_len
              have := hkf.2.2.2 q0 hq0
              exact ⟨this.2.2.1, by show (wayOf g.board sq q0).length ≤ 7; omega, fun t ht => (walk_mem ht).1⟩, by rw [hT]; exact q'⟩)
            (fun p j σ H' => (∃ u, σ = [some (.ref ga), some (.ref ra), some (.int (x : Nat)), some (.ref d), some (.ref mv), some (.int (n : Nat)), some (.ref pa), some (.ref r), u]) ∧ Ex H3 H' ∧ p ≠ mv ∧ H' p = some (.lst (IL (targets g ⟨l, x⟩ n))) ∧ H' mv = some (.lst (IL ((List.range n).flatMap (pieceMoves g ⟨l, x⟩) ++ ((targets g ⟨l, x⟩ n).take j).map fun t => 256 * n + t))))
            (fun p H9 hp e9 h9 => ⟨⟨_, rfl⟩, e38.trans e9, (fun (z : p = mv) => by
              have z2 := ((e6.trans e7).trans e8) _ _ hmv5
              rw [z, z2] at hp
              cases hp), h9, (by
              rw [(((e6.trans e7).trans e8).trans e9) _ _ hmv5]
              simp)⟩) (fun p i σ' H' _ pp => sq_of pp.2.2.2.1) ?_ ?_
          · rintro p j x2 σ2 H9 hx2 ⟨⟨u, rfl⟩, e9, npm, hp9, hmv9⟩
            obtain ⟨t, ht, rfl⟩ := IL_get hx2
            have hj : j < 112 := by have := (List.getElem?_eq_some_iff.mp ht).1; omega
            refine s_app (K := K) (l := mv) hmv9 (ev_var rfl) (ev_op (ev_op ev_c (ev_var rfl) (rv_I (Or.inl ⟨by decide, by decide⟩))) (ev_var rfl) rv_I0) (by rw [IL_len, List.length_append, List.length_map, List.length_take]; omega) fun H10 e10 => ⟨⟨_, rfl⟩, Ex.mut (e9.trans e10) hmv, npm, (upd_ne npm).trans (e10 _ _ hp9), ?_⟩
            rw [upd_same, take_next ht, List.map_append, ← List.append_assoc, List.map_singleton, IL_snoc]
            rfl
          · rintro p σ2 H9 ⟨⟨u, rfl⟩, e9, npm, hp9, hmv9⟩
            refine ⟨⟨_, _, _, _, rfl⟩, e9, ?_, ?_⟩
            · rw [hmv9, IL_len, List.take_length, hrs, hpm]
            · rw [hrs, hpm, List.length_append, List.length_map]
              omega
        · intro hc H6 e7
          rw [dec_nat, show decide (V.int (sq : Int) = V.int 64) = decide (sq = 64) from dec_nat (b := 64), Bool.and_eq_false_iff, decide_eq_false_iff_not, Bool.not_eq_false', decide_eq_true_eq] at hc
          have hpm : pieceMoves g ⟨l, x⟩ n = [] := by
            unfold pieceMoves
            rw [if_neg]
            rintro ⟨z1, z2⟩
            rcases hc with z | z
            · exact z (hsd.symm.trans z1)
            · exact z2 (by show l.getD n Lm.OFF = _; rw [hgd, z]; rfl)
          refine ⟨⟨_, _, _, _, rfl⟩, e36.trans e7, ?_, ?_⟩
          · rw [hrs, hpm, List.append_nil]
            exact (e6.trans e7) _ _ hmv5
          · rw [hrs, hpm, List.append_nil]
            omega
      · rintro σ' H' ⟨⟨a, b, c, d', rfl⟩, e5, hmv5, hlen⟩
        rw [List.length_map, G.piecesA.1, ← hl] at hmv5 hlen
        have hl6 : l.length ≤ 6 := by have := F.np.2; omega
        refine q_when (et_test (ev_op (ev_fld (ev_var rfl) (e5 _ _ G.obj) T.c_Game T.n_Game_passing rfl) ev_c (rv_eq rfl))) ?_ ?_
        · intro hb H6 e6
          rw [b2_eq] at hb
          refine s_app (K := K) (l := mv) (e6 _ _ hmv5) (ev_var rfl) ev_c (by rw [IL_len]; omega) fun H7 e7 => ?_
          refine s_ret (ev_var rfl) fun H8 e8 => q mv H8 (fresh_back e03 hmv) (e03.trans ((Ex.mut ((e5.trans e6).trans e7) hmv).trans e8)) (e8 _ _ ?_)
          rw [upd_same, if_pos hb, IL_snoc]
          rfl
        · intro hb H6 e6
          rw [b2_eq] at hb
          refine s_ret (ev_var rfl) fun H8 e8 => q mv H8 (fresh_back e03 hmv) (e03.trans ((e5.trans e6).trans e8)) ?_
          rw [(e6.trans e8) _ _ hmv5, if_neg (by rw [hb]; exact Bool.false_ne_true), List.append_nil]
/-! ### row_after -/
def sp_row_after : Sp := fun vs H Q _ => ∃ (ra : Addr) (l : List Nat) (x m : Nat), vs = [.ref ra, .int (m : Nat)] ∧ H ra = some (.lst (IL (l ++ [x]))) ∧ x ≤ 1 ∧ l.length ≤ 6 ∧ (m = Lm.PASS ∨ m / 256 < l.length) ∧ RetL (IL (rowAfter l x m)) H Q
abbrev s_row_after : Stmt := top 24
abbrev n_row_after : List Str := ["row", "move", "after", "target", "square"]
theorem sc_row_after : FnScope n_row_after ["row", "move"] (defScope s_row_after) := ⟨rfl, rfl, rfl, by decide +kernel, rfl, by decide +kernel, by decide +kernel⟩
theorem ok_row_after (T : Env K mg) : Cal P w K mg base CX0 1 "row_after" sp_row_after := by
  refine T.d_row_after.cal sc_row_after (fun _ _ _ _ _ _ us hl => match us, hl with | [_, _], _ => rfl) (fun vs H Q E h => ?_) (Body0.by fun f cdv A outer s H vs Q E hr h => ⟨_, (pss_cons (ps_set (i := 2) sc_row_after.nd rfl (Or.inl rfl) (pe_slice sl_list (pv 0) po_none (po_some (pe_un un_neg pe_int)))) (pss_cons (ps_if (pt_cmpR op_ne (pv 1) (pe_gv (by rfl) T.v_PASS) (nomark _)) (pss_cons (ps_set (i := 3) sc_row_after.nd rfl (Or.inr rfl) (pe_op op_modN (pv 1) pe_int)) (pss_cons (ps_setLc (i := 2) (own := [("square", 4)]) rfl sc_row_after.nd rfl rfl (sw_true rfl rfl rfl (by decide +kernel)) (pi_list (pv 2)) (blkOk_by (own := [("square", 4)]) (N := n_row_after) (sc := defScope s_row_after) (by decide +kernel)) (fun _ _ _ _ _ => pg_name (i := 4) sc_row_after.nd rfl (Or.inl rfl)) (fun _ _ _ _ _ => by exact pts_nil) (fun _ _ _ _ _ => by exact (pe_ifExp (pt_cmpR op_eq (pv 4) (pv 3) (nomark _)) (pe_gv (by rfl) T.v_OFF) (pv 4)))) (pss_one (ps_asg (pv 3) (pg_sub (pv 2) (pe_op op_fdivN (pv 1) pe_int) set_list))))) pss_nil) (pss_cons (ps_expr (pe_bm PySem.F.plainAttrs_list PySem.F.slot_list_append PySem.F.type_list_append mt_append (pv 2) (pa_cons (pe_op op_sub pe_int (pe_ix ix_list (pv 0) (pe_un un_neg pe_int) (fun _ _ => rfl))) pa_nil))) (pss_one (ps_ret (pv 2)))))), ?_⟩)
  · obtain ⟨ra, l, x, m, rfl, _⟩ := h
    rfl
  · obtain ⟨ra, l, x, m, rfl, hra, hx, hl6, hm, q⟩ := h
    refine q_asgL (el_sl (K := K) (lo := none) (hi := some (-1)) (ev_var rfl) eo_none (eo_some (ev_un ev_c ru_neg)) (sq_of hra)) fun p1 H1 hp1 e1 h1 => ?_
    rw [cutV_init] at h1
    have fin : ∀ (l2 : List Nat) (σ2 : L2.St) (pp : Addr) (H2 : Hp), σ2[0]? = some (some (.ref ra)) → σ2[2]? = some (some (.ref pp)) → H pp = none → Ex H H2 → H2 pp = some (.lst (IL l2)) → l2.length ≤ 6 → rowAfter l x m = l2 ++ [1 - x] → tSeq (tDrop (tBM K "list" rAppend (tVar 2) (tCons (tOp (rI0 fun i j => .int (i - j)) (tC (.int 1)) (tOp (rIxL K) (tVar 0) (tUn (rU fun i => .int (-i)) (tC (.int 1))))) tNil))) (tRet (tVar 2)) { nx := fun _ H' => Q .non H', rt := Q } σ2 H2 := by
      intro l2 σ2 pp H2 s0 s2 hpp e2 h2 hl2 hrow
      refine q_app (K := K) (l := pp) h2 (ev_var s2) (ev_op ev_c (ev_op (ev_var s0) (ev_un ev_c ru_neg) (rv_ixL (K := K) (sq_of (e2 _ _ hra)) (atI_end l x))) rv_I0) (by rw [IL_len]; omega) fun H3 e3 => ?_
      refine s_ret (ev_var s2) fun H4 e4 => q pp H4 hpp ((Ex.mut (e2.trans e3) hpp).trans e4) (e4 _ _ ?_)
      rw [upd_same, hrow, IL_snoc, show (((1 - x : Nat) : Nat) : Int) = 1 - (x : Int) by omega]
    refine q_when (et_test (ev_op (ev_var rfl) ev_c (rv_ne rfl))) ?_ ?_
    · intro hb H2 e2
      rw [show decide (V.int (m : Int) = V.int 65535) = decide (m = 65535) from dec_nat (b := 65535), Bool.not_eq_true', decide_eq_false_iff_not] at hb
      have hm2 : m / 256 < l.length := hm.resolve_left hb
      refine q_asg (ev_op (ev_var rfl) ev_c (rv_I (by decide))) fun H3 e3 => ?_
      rw [show ((m : Int)).fmod 256 = ((m % 256 : Nat) : Int) from fmod_nat m 256]
      have e13 := (e1.trans e2).trans e3
      have h3 := (e2.trans e3) _ _ h1
      refine q_asgL (el_lcL (K := K) (a := p1) (xs := IL l) (fun _ => true) (fun i => (IL (l.map fun s => if s = m % 256 then Lm.OFF else s)).getD i .non) (ev_var rfl) (sq_of h3) (by rw [IL_len]; omega) (fun x => rfl) (fun i y H4 _ _ => et_yes) ?_) ?_
      · intro i y H4 e4 hy _
        obtain ⟨n, hn, rfl⟩ := IL_get hy
        have hv : (IL (l.map fun s => if s = m % 256 then Lm.OFF else s)).getD i .non = .int (((if n = m % 256 then Lm.OFF else n : Nat)) : Int) := by
          refine getD_of ?_
          rw [IL_at, List.getElem?_map, hn]
          rfl
        rw [hv]
        refine ev_if (b := decide (n = m % 256)) (et_is (et_test (ev_op (ev_var rfl) (ev_var rfl) (rv_eq rfl))) dec_nat) ?_ ?_
        · intro hc
          rw [decide_eq_true_eq] at hc
          rw [if_pos hc]
          exact ev_c
        · intro hc
          rw [decide_eq_false_iff_not] at hc
          rw [if_neg hc]
          exact ev_var rfl
      · intro p2 H4 hp2 e4 h4
        have e14 := e13.trans e4
        have hp2' : H p2 = none := fresh_back e13 hp2
        have h4' : H4 p2 = some (.lst (IL (l.map fun s => if s = m % 256 then Lm.OFF else s))) := by
          rw [h4, given_all, show (IL l).length = (IL (l.map fun s => if s = m % 256 then Lm.OFF else s)).length by rw [IL_len, IL_len, List.length_map], range_getD]
        refine s_setL (l := p2) (j := m / 256) h4' (ev_var rfl) (ev_var rfl) (ev_is (ev_op (ev_var rfl) ev_c (rv_I ⟨by decide, by decide⟩)) (by rw [show ((m : Int)).fdiv 256 = ((m / 256 : Nat) : Int) from fdiv_nat m 256])) (by rw [IL_len, List.length_map]; exact hm2) fun H5 e5 => ?_
        refine fin (putAfter l (m / 256) (m % 256)) _ p2 _ rfl rfl hp2' (Ex.mut (e14.trans e5) hp2') ?_ ?_ ?_
        · rw [upd_same]
          unfold putAfter IL
          rw [List.map_set]
        · unfold putAfter
          rw [List.length_set, List.length_map]
          exact hl6
        · unfold rowAfter
          rw [if_neg (show ¬ m = Lm.PASS from hb)]
    · intro hb H2 e2
      rw [show decide (V.int (m : Int) = V.int 65535) = decide (m = 65535) from dec_nat (b := 65535), Bool.not_eq_false', decide_eq_true_eq] at hb
      refine fin l _ p1 H2 rfl rfl hp1 (e1.trans e2) (e2 _ _ h1) hl6 ?_
      unfold rowAfter
      rw [if_pos (show m = Lm.PASS from hb)]
/-! ### end_outcome -/
def sp_end_outcome : Sp := fun vs H Q _ => ∃ (ga ra : Addr) (g : Lm.Game) (l : List Nat) (x : Nat), vs = [.ref ga, .ref ra] ∧ GAt K H ga g ∧ Fit g ∧ H ra = some (.lst (IL (l ++ [x]))) ∧ l.length = g.pieces.length ∧ x ≤ 1 ∧ RetV (.int (endOut g ⟨l, x⟩ : Nat)) H Q
abbrev s_end_outcome : Stmt := top 25
abbrev n_end_outcome : List Str := ["game", "row", "side", "mine_lost", "other_lost"]
theorem sc_end_outcome : FnScope n_end_outcome ["game", "row"] (defScope s_end_outcome) := ⟨rfl, rfl, rfl, by decide +kernel, rfl, by decide +kernel, by decide +kernel⟩
theorem ok_end_outcome (T : Env K mg) : Cal P w K mg base CX0 3 "end_outcome" (sp_end_outcome (K := K)) := by
  refine T.d_end_outcome.cal sc_end_outcome (fun _ _ _ _ _ _ us hl => match us, hl with | [_, _], _ => rfl) (fun vs H Q E h => ?_) (Body0.by fun f cdv A outer s H vs Q E hr h => ⟨_, (pss_cons (ps_set (i := 2) sc_end_outcome.nd rfl (Or.inl rfl) (pe_ix ix_list (pv 1) (pe_un un_neg pe_int) (fun _ _ => rfl))) (pss_cons (ps_set (i := 3) sc_end_outcome.nd rfl (Or.inl rfl) (pe_c (ok_has_lost T) hr (by decide) (by rfl) pass0 (pa_cons (pv 0) (pa_cons (pv 1) (pa_cons (pv 2) pa_nil))))) (pss_cons (ps_set (i := 4) sc_end_outcome.nd rfl (Or.inl rfl) (pe_c (ok_has_lost T) hr (by decide) (by rfl) pass0 (pa_cons (pv 0) (pa_cons (pv 1) (pa_cons (pe_op op_sub pe_int (pv 2)) pa_nil))))) (pss_cons (ps_if (PW.pt (pw_and (pt_val (pv 3)) (pw_and1 (pt_val (pv 4))))) (pss_one (ps_ret (pe_gv (by rfl) T.v_DRAW))) pss_nil) (pss_cons (ps_if (pt_val (pv 3)) (pss_one (ps_ret (pe_gv (by rfl) T.v_LOSS))) pss_nil) (pss_cons (ps_if (pt_val (pv 4)) (pss_one (ps_ret (pe_gv (by rfl) T.v_WIN))) pss_nil) (pss_one (ps_ret (pe_ix ix_tup (pe_gv (by rfl) T.v_STUCK_OUTCOMES) (pe_fld (pv 0) rfl) (fun _ _ => rfl)))))))))), ?_⟩)
  · obtain ⟨ga, ra, g, l, x, rfl, _⟩ := h
    rfl
  · obtain ⟨ga, ra, g, l, x, rfl, hG, F, hra, hl, hx, q⟩ := h
    refine q_asg (ev_op (ev_var rfl) (ev_un ev_c ru_neg) (rv_ixL (K := K) (sq_of hra) (atI_end l x))) fun H1 e1 => ?_
    refine q_asg (ev_call (ea_cons (ev_var rfl) (ea_cons (ev_var rfl) (ea_cons (ev_var rfl) ea_nil))) (spv_has_lost (side := x) (GAt.mono _ _ e1 hG) F (e1 _ _ hra) hl)) fun H2 e2 => ?_
    have e12 := e1.trans e2
    have ea : EvA (tCons (tVar 0) (tCons (tVar 1) (tCons (tOp (rI0 fun i j => .int (i - j)) (tC (.int 1)) (tVar 2)) tNil))) [some (V.ref ga), some (V.ref ra), some (V.int (x : Nat)), some (V.bl (Lm.lost g ⟨l, x⟩ x)), none] H2 [.ref ga, .ref ra, .int ((1 - x : Nat) : Nat)] :=
      ea_cons (ev_var rfl) (ea_cons (ev_var rfl) (ea_cons (ev_is (ev_op ev_c (ev_var rfl) rv_I0) (by rw [show (((1 - x : Nat) : Nat) : Int) = 1 - (x : Int) by omega])) ea_nil))
    refine q_asg (ev_call ea (spv_has_lost (side := 1 - x) (GAt.mono _ _ e12 hG) F (e12 _ _ hra) hl)) fun H3 e3 => ?_
    have e13 := e12.trans e3
    unfold endOut at q
    refine q_when (et_and (et_B (ev_var rfl)) (fun _ => et_B (ev_var rfl))) ?_ ?_
    · intro hb H4 e4
      rw [Bool.and_eq_true] at hb
      rw [if_pos hb] at q
      exact s_ret ev_c fun H5 e5 => q H5 ((e13.trans e4).trans e5)
    · intro hb H4 e4
      have hb' : ¬ (Lm.lost g ⟨l, x⟩ x = true ∧ Lm.lost g ⟨l, x⟩ (1 - x) = true) := fun z => by rw [z.1, z.2] at hb; cases hb
      rw [if_neg hb'] at q
      refine q_when (et_B (ev_var rfl)) ?_ ?_
      · intro hc H5 e5
        rw [if_pos hc] at q
        exact s_ret ev_c fun H6 e6 => q H6 (((e13.trans e4).trans e5).trans e6)
      · intro hc H5 e5
        rw [if_neg (by rw [hc]; exact Bool.false_ne_true)] at q
        refine q_when (et_B (ev_var rfl)) ?_ ?_
        · intro hd H6 e6
          rw [if_pos hd] at q
          exact s_ret ev_c fun H7 e7 => q H7 ((((e13.trans e4).trans e5).trans e6).trans e7)
        · intro hd H6 e6
          rw [if_neg (by rw [hd]; exact Bool.false_ne_true)] at q
          have e16 := ((e13.trans e4).trans e5).trans e6
          obtain ⟨dx, lk, lp, ls, dp, lw, ks, ps, ws, G⟩ := GAt.mono _ _ e16 hG
          refine s_ret (ev_op ev_c (ev_fld (ev_var rfl) G.obj T.c_Game T.n_Game_stuck rfl) (rv_ixT (K := K) (T.t_STUCK_OUTCOMES _) (v := .int ((if g.stuck = 0 then Lm.LOSS else if g.stuck = 1 then Lm.DRAW else Lm.WIN : Nat) : Int)) ?_)) fun H7 e7 => q H7 (e16.trans e7)
          have := F.st
          rcases (show g.stuck = 0 ∨ g.stuck = 1 ∨ g.stuck = 2 by omega) with z | z | z <;> rw [z] <;> rfl
end
end Es
end

section
set_option Elab.async false
set_option linter.all false
set_option maxRecDepth 100000
set_option maxHeartbeats 4000000
namespace Es
open PySem PySem.Spec PyProof.Rows L2 Evl
/-! ### len(set(xs)), whatever stands twice -/
def dd (ns : List Int) : List Int := firstMet (fun i => ns.getD i 0) ns.length
def tLenSetF (K : Fr) (ta : TE) : TE := fun σ H Q => ta σ H fun x H1 => ∃ (l : Addr) (ns : List Int), x = .ref l ∧ SqL K H1 l (ns.map V.int) ∧ ns.length ≤ 4000 ∧ Q (.int ((dd ns).length : Nat)) H1
theorem pe_lenSet {X : Cx} {a : Expr} {ta : TE} {p p2 q pos : Pos} (hg : Gl X "len") (hm : X.mg "len" = none) (hg2 : Gl X "set") (hm2 : X.mg "set" = none) (ha : PE X a ta) (hc : X.calm = true := by rfl)
    (na : starEach [a] X.env = (false, eval a X.env) :: starEach [] X.env := by rfl) : PE X (.Call (.Name "len" p) [.Call (.Name "set" p2) [a] [] q] [] pos) (tLenSetF X.K ta) := by
  refine ⟨fun pins s σ H Q I h => Call_ (ld_blt I hg hm boot_len (callWith_builtin1 (args_cons (Call_ (ld_blt I hg2 hm2 boot_set ?_)) rfl) rfl rfl))⟩
  refine callWith_type1 (args_cons (thn (ha.run pins s σ H _ I h) fun v s1 ⟨x, H1, I1, r1, l, ns, ex, hq, hl, q1⟩ => args_nil ?_) na) na rfl
  subst ex
  cases r1
  obtain ⟨its, r, pl, hz⟩ := I1.list hq
  have hlen : its.toArray.size = ns.length := by rw [List.size_toArray, ← r.length, List.length_map]
  refine call_set_list (I1.ok.hd hc) pl.isList (by simpa using RZ.intsAre_vals r) (by rw [hlen]; unfold scanBound; omega) fun h' tk hS hk => args_nil ?_
  rw [hlen] at hS
  have hle : (dd ns).length ≤ ns.length := firstMet_length_le _ _
  obtain ⟨o, es, ep, t, ho, hex, hd, _, _, _, hf, hn⟩ := hS
  have I2 : Inv X pins σ H1 { s1 with heap := h', toks := tk } := I1.kept fun b o e => hk b o (Heap.lt_size e) e
  have hn : es.size = (dd ns).length := hn
  exact call_len_set ho hex hd hf (by rw [hn]; omega) ⟨.int (dd ns).length, H1, I2.tok _, ⟨_, by rw [hn]⟩, q1⟩
theorem mem_firstMet {val : Nat → Int} {x : Int} : ∀ {i : Nat}, x ∈ firstMet val i ↔ ∃ j, j < i ∧ val j = x
  | 0 => by
    rw [firstMet_zero]
    constructor
    · intro h; cases h
    · rintro ⟨j, h, _⟩; omega
  | i + 1 => by
    rw [firstMet_succ]
    unfold step_dedup
    have ih := mem_firstMet (val := val) (x := x) (i := i)
    by_cases c : (firstMet val i).any (· == val i) = true
    · rw [if_pos c, ih]
      constructor
      · rintro ⟨j, h, e⟩; exact ⟨j, by omega, e⟩
      · rintro ⟨j, h, e⟩
        by_cases cj : j = i
        · subst cj
          obtain ⟨y, hy, ey⟩ := List.any_eq_true.mp c
          have ey : y = val j := by simpa using ey
          rw [ey] at hy
          obtain ⟨j', h', e'⟩ := (mem_firstMet (val := val) (x := val j) (i := j)).mp hy
          exact ⟨j', h', e'.trans e⟩
        · exact ⟨j, by omega, e⟩
    · rw [if_neg c, List.mem_append, ih, List.mem_singleton]
      constructor
      · rintro (⟨j, h, e⟩ | h)
        · exact ⟨j, by omega, e⟩
        · exact ⟨i, by omega, h.symm⟩
      · rintro ⟨j, h, e⟩
        by_cases cj : j = i
        · subst cj; exact Or.inr e.symm
        · exact Or.inl ⟨j, by omega, e⟩
theorem firstMet_grow {val : Nat → Int} (i : Nat) : (firstMet val (i + 1)).length ≤ (firstMet val i).length + 1 := by
  rw [firstMet_succ]
  unfold step_dedup
  split
  · omega
  · rw [List.length_append, List.length_singleton]; omega
theorem firstMet_less {val : Nat → Int} {i : Nat} (h : ∃ j, j < i ∧ val j = val i) : ∀ n, i < n → (firstMet val n).length < n
  | 0, hn => by omega
  | n + 1, hn => by
    by_cases c : i = n
    · subst c
      have e : firstMet val (i + 1) = firstMet val i := by
        rw [firstMet_succ]
        unfold step_dedup
        rw [if_pos (List.any_eq_true.mpr ⟨val i, mem_firstMet.mpr h, by simp⟩)]
      rw [e]
      have := firstMet_length_le val i
      omega
    · have := firstMet_less h n (by omega)
      have := firstMet_grow (val := val) n
      omega
theorem dd_nodup {ns : List Int} : decide (V.int ((dd ns).length : Nat) = V.int (ns.length : Nat)) = decide ns.Nodup := by
  rw [dec_nat, decide_eq_decide]
  constructor
  · intro h
    rw [List.nodup_iff_pairwise_ne] at *
    rw [List.pairwise_iff_getElem]
    intro i j hi hj hij e
    have : (dd ns).length < ns.length := firstMet_less (i := j) ⟨i, hij, by
      show ns.getD i 0 = ns.getD j 0
      rw [getD_of (List.getElem?_eq_getElem hi), getD_of (List.getElem?_eq_getElem hj), e]⟩ _ hj
    omega
  · intro h
    unfold dd
    rw [RZ.firstMet_nodup h _ (Nat.le_refl _), List.take_length]
theorem IL_ints (l : List Nat) : IL l = (l.map fun (n : Nat) => (n : Int)).map V.int := by unfold IL; rw [List.map_map]; rfl
theorem nodup_cast {l : List Nat} : (l.map fun (n : Nat) => (n : Int)).Nodup ↔ l.Nodup := by
  induction l with
  | nil => simp
  | cons a l ih =>
    rw [List.map_cons, List.nodup_cons, List.nodup_cons, ih]
    have : ((a : Int) ∈ l.map fun (n : Nat) => (n : Int)) ↔ a ∈ l := by
      rw [List.mem_map]
      constructor
      · rintro ⟨b, hb, e⟩
        have : b = a := by omega
        rw [← this]; exact hb
      · intro h; exact ⟨a, h, rfl⟩
    rw [this]
theorem ev_lenSet {K : Fr} {σ : L2.St} {H : Hp} {ta : TE} {p : Addr} {l : List Nat} (ha : Ev ta σ H (.ref p)) (h : H p = some (.lst (IL l))) (hz : l.length ≤ 4000) : Ev (tLenSetF K ta) σ H (.int ((dd (l.map fun (n : Nat) => (n : Int))).length : Nat)) := fun H1 e Q q =>
  ha H1 e _ fun H2 e2 => ⟨p, l.map fun (n : Nat) => (n : Int), rfl, by rw [← IL_ints]; exact sq_of ((e.trans e2) _ _ h), by rw [List.length_map]; exact hz, q H2 e2⟩
/-! ### places -/
theorem placesKV_val {b n s : Nat} : valV (placesKV b n) (Sum.inl (s : Int)) = if s < 64 ∧ Lm.inSet b s = true ∧ Lm.below b s < n then some (.int (Lm.below b s : Nat)) else none := by
  by_cases c : s < 64 ∧ Lm.inSet b s = true ∧ Lm.below b s < n
  · rw [if_pos c]
    have hs := squares_at.mpr ⟨c.1, c.2.1, rfl⟩
    cases e : valV (placesKV b n) (Sum.inl (s : Int)) with
    | none =>
      exfalso
      apply valV_not e
      refine List.mem_map.mpr ⟨(Sum.inl (s : Int), V.int (Lm.below b s : Nat)), ?_, rfl⟩
      unfold placesKV
      exact List.mem_map.mpr ⟨(s, Lm.below b s), List.mem_zipIdx_iff_getElem?.mpr (by rw [List.getElem?_take, if_pos c.2.2]; exact hs), rfl⟩
    | some v =>
      unfold valV at e
      obtain ⟨p, hp, ep⟩ := Option.map_eq_some_iff.mp e
      have hm := List.mem_of_find?_eq_some hp
      have hk := List.find?_some hp
      obtain ⟨s', j, hj, hn, rfl⟩ := placesKV_mem hm
      have hk : Sum.inl (s' : Int) = (Sum.inl (s : Int) : Key) := of_decide_eq_true hk
      have : s' = s := by have := Sum.inl.inj hk; omega
      subst this
      have := (squares_at.mp hj).2.2
      rw [← ep, this]
  · rw [if_neg c]
    refine valV_none_of fun p hp e => c ?_
    obtain ⟨s', j, hj, hn, rfl⟩ := placesKV_mem hp
    have : s' = s := by have := Sum.inl.inj e; omega
    subst this
    obtain ⟨x, y, z⟩ := squares_at.mp hj
    exact ⟨x, y, by omega⟩
theorem placesD_val {g : Lm.Game} {s : Nat} : valV (placesD g.board) (Sum.inl (s : Int)) = if s = Lm.OFF ∨ (s < 64 ∧ Lm.inSet g.board s = true) then some (.int (Lm.placeIn g s : Nat)) else none := by
  unfold placesD
  rw [valV_snoc _ _ _ _ (by rw [show (64 : Int) = ((64 : Nat) : Int) from rfl, placesKV_val, if_neg (by omega)])]
  by_cases c : s = 64
  · subst c
    rw [if_pos (show (Sum.inl ((64 : Nat) : Int) : Key) = Sum.inl 64 from rfl), if_pos (Or.inl (show 64 = Lm.OFF from rfl))]
    rfl
  · rw [if_neg (fun z => c (by have := Sum.inl.inj z; omega)), placesKV_val]
    by_cases d : s < 64 ∧ Lm.inSet g.board s = true
    · rw [if_pos ⟨d.1, d.2, below_lt d.1 d.2⟩, if_pos (Or.inr d)]
      unfold Lm.placeIn
      rw [if_neg (show ¬ s = Lm.OFF from c)]
    · rw [if_neg (fun z => d ⟨z.1, z.2.1⟩), if_neg]
      rintro (z | z)
      · exact c z
      · exact d z
theorem placesD_len (b : Nat) : (placesD b).length = (Lm.squaresOf b).length + 1 := by
  unfold placesD placesKV
  rw [List.length_append, List.length_map, List.length_zipIdx, List.take_length, List.length_singleton]
theorem given_filter {l : List Nat} {f : Nat → Bool} : given l.length (fun i => f (l.getD i 0)) (fun i => V.int ((l.getD i 0 : Nat) : Int)) = IL (l.filter f) := by
  unfold given
  have key : ∀ m, ((List.range m).filter fun i => f (l.getD i 0)).map (fun i => l.getD i 0) = ((List.range m).map fun i => l.getD i 0).filter f := fun m => by
    rw [List.filter_map]
    rfl
  have := key l.length
  rw [range_getD] at this
  rw [← this]
  unfold IL
  rw [List.map_map]
  rfl
/-- a row that is a position of the game, and a right one -/
def rightRow (g : Lm.Game) (r : List Nat) : Bool := decide (r.length = g.pieces.length + 1) && Lm.rightPos g (LmCalls.posIn r)
theorem posIn_snoc (l : List Nat) (x : Nat) : LmCalls.posIn (l ++ [x]) = ⟨l, x⟩ := by
  unfold LmCalls.posIn
  rw [List.dropLast_concat, List.getLastD_concat]
theorem rightRow_snoc {g : Lm.Game} {l : List Nat} {x : Nat} : rightRow g (l ++ [x]) = (decide (l.length = g.pieces.length) && (decide (x ≤ 1) && ((l.all fun s => s == Lm.OFF || (decide (s < 64) && Lm.inSet g.board s)) && decide ((l.filter fun s => s != Lm.OFF).Nodup)))) := by
  unfold rightRow Lm.rightPos
  rw [posIn_snoc, List.length_append, List.length_singleton]
  by_cases c : l.length = g.pieces.length
  · simp [c, Bool.and_assoc]
  · simp [c]
section
variable {P : Program} {w : World} {K : Fr} {mg : Str → Option Value} {base : Heap}
/-! ### is_right -/
def sp_is_right : Sp := fun vs H Q _ => ∃ (ga ra : Addr) (g : Lm.Game) (r : List Nat), vs = [.ref ga, .ref ra] ∧ GAt K H ga g ∧ Fit g ∧ H ra = some (.lst (IL r)) ∧ r.length ≤ 1000 ∧ RetV (.bl (rightRow g r)) H Q
abbrev s_is_right : Stmt := top 42
abbrev n_is_right : List Str := ["game", "row", "standing", "square"]
theorem sc_is_right : FnScope n_is_right ["game", "row"] (defScope s_is_right) := ⟨rfl, rfl, rfl, by decide +kernel, rfl, by decide +kernel, by decide +kernel⟩
theorem ok_is_right (T : Env K mg) : Cal P w K mg base CX0 1 "is_right" (sp_is_right (K := K)) := by
  refine T.d_is_right.cal sc_is_right (fun _ _ _ _ _ _ us hl => match us, hl with | [_, _], _ => rfl) (fun vs H Q E h => ?_) (Body0.by fun f cdv A outer s H vs Q E hr h => ⟨_, (pss_cons (ps_if (PW.pt (pw_or (pt_cmpR op_ne (pe_callB call_len_seq (by rfl) T.f_len PySem.boot_len (pa_cons (pv 1) pa_nil)) (pe_op op_add (pe_callB call_len_seq (by rfl) T.f_len PySem.boot_len (pa_cons (pe_fld (pv 0) rfl) pa_nil)) pe_int) (nomark _)) (pw_or1 (pt_cmpR op_gt (pe_ix ix_list (pv 1) (pe_un un_neg pe_int) (fun _ _ => rfl)) pe_int (nomark _))))) (pss_one (ps_ret pe_bl)) pss_nil) (pss_cons (ps_setLc (i := 2) (own := [("square", 3)]) rfl sc_is_right.nd rfl rfl (sw_true rfl rfl rfl (by decide +kernel)) (pi_list (pe_slice sl_list (pv 1) po_none (po_some (pe_un un_neg pe_int)))) (blkOk_by (own := [("square", 3)]) (N := n_is_right) (sc := defScope s_is_right) (by decide +kernel)) (fun _ _ _ _ _ => pg_name (i := 3) sc_is_right.nd rfl (Or.inl rfl)) (fun _ _ _ _ _ => by exact (pts_one (pt_cmpR op_ne (pv 3) (pe_gv (by rfl) T.v_OFF) (nomark _)))) (fun _ _ _ _ _ => by exact (pv 3))) (pss_cons (ps_for PassesOwn.never rfl (pi_list (pv 2)) (pg_name (i := 3) sc_is_right.nd rfl (Or.inl rfl)) (pss_one (ps_if (pt_cmp (pc_dnotin (hu_of hr) (pv 3) (pe_fld (pv 0) rfl))) (pss_one (ps_ret pe_bl)) pss_nil))) (pss_one (ps_ret (pe_cmpR op_eq (pe_lenSet (by rfl) T.f_len (by rfl) T.f_set (pv 2)) (pe_callB call_len_seq (by rfl) T.f_len PySem.boot_len (pa_cons (pv 2) pa_nil)) (nomark _))))))), ?_⟩)
  · obtain ⟨ga, ra, g, r, rfl, _⟩ := h
    rfl
  · obtain ⟨ga, ra, g, r, rfl, ⟨dx, lk, lp, ls, dp, lw, ks, ps, ws, G⟩, F, hra, hr1000, q⟩ := h
    have hpl : (ps.map V.ref).length = g.pieces.length := by rw [List.length_map, G.piecesA.1]
    by_cases hlen : r.length = g.pieces.length + 1
    · obtain ⟨l, x, rfl⟩ : ∃ l x, r = l ++ [x] := by
        refine ⟨r.dropLast, r.getLast (fun z => by rw [z] at hlen; simp at hlen), (List.dropLast_concat_getLast _).symm⟩
      have hl : l.length = g.pieces.length := by rw [List.length_append, List.length_singleton] at hlen; omega
      rw [rightRow_snoc, decide_eq_true hl, Bool.true_and] at q
      refine q_when (b := decide (1 < x)) (et_is (et_or (et_test (ev_op (ev_lenS (K := K) (ev_var rfl) (sq_of hra)) (ev_op (ev_lenS (K := K) (ev_fld (ev_var rfl) G.obj T.c_Game T.n_Game_pieces rfl) (sq_of G.pieces)) ev_c rv_I0) (rv_ne rfl))) (fun _ => et_test (ev_op (ev_op (ev_var rfl) (ev_un ev_c ru_neg) (rv_ixL (K := K) (sq_of hra) (atI_end l x))) ev_c rv_I0))) ?_) ?_ ?_
      · rw [IL_len, hpl, dec_int, decide_eq_true (show ((l ++ [x]).length : Int) = (g.pieces.length : Int) + 1 by rw [hlen]; omega), Bool.not_true, Bool.false_or, decide_eq_decide]
        omega
      · intro hb H1 e1
        rw [decide_eq_true_eq] at hb
        rw [decide_eq_false (show ¬ x ≤ 1 by omega), Bool.false_and] at q
        exact s_ret ev_c fun H2 e2 => q H2 (e1.trans e2)
      · intro hb H1 e1
        rw [decide_eq_false_iff_not] at hb
        rw [decide_eq_true (show x ≤ 1 by omega), Bool.true_and] at q
        refine q_asgL (xs := IL (l.filter fun s => s != Lm.OFF)) ?_ fun st H2 hst e2 h2 => ?_
        · have hl6 : l.length ≤ 6 := by have := F.np.2; omega
          have := el_lcNL (K := K) (σ := [some (.ref ga), some (.ref ra), none, none]) (H := H1) (xs := IL l) (j := 3) (vs := [3]) (t := tTest (tOp rNe (tVar 3) (tC (.int 64)))) (te := tVar 3) (tl := tSl (rSlL K) (tVar 1) tNoPart (tPart (tUn (rU fun i => .int (-i)) (tC (.int 1))))) (fun i => l.getD i 0 != Lm.OFF) (fun i => V.int ((l.getD i 0 : Nat) : Int))
            (by
              have := el_sl (K := K) (σ := [some (.ref ga), some (.ref ra), none, none]) (H := H1) (te := tVar 1) (lo := none) (hi := some (-1)) (ev_var rfl) eo_none (eo_some (ev_un ev_c ru_neg)) (sq_of (e1 _ _ hra))
              rw [cutV_init] at this
              exact this) (by rw [IL_len]; omega) (fun x => rfl) (fun i y H3 e3 hy => ?_) (fun i y H3 e3 hy _ => ?_)
          · rw [IL_len, given_filter (f := fun s => s != Lm.OFF)] at this
            exact this
          · obtain ⟨n, hn, rfl⟩ := IL_get hy
            refine et_is (et_test (ev_op (ev_var rfl) ev_c (rv_ne rfl))) ?_
            rw [getD_of hn, show decide (V.int (n : Int) = V.int 64) = decide (n = 64) from dec_nat (b := 64)]
            rfl
          · obtain ⟨n, hn, rfl⟩ := IL_get hy
            rw [getD_of hn]
            exact ev_var rfl
        · have e12 := e1.trans e2
          have hfl : (l.filter fun s => s != Lm.OFF).length ≤ 6 := by have := List.length_filter_le (fun s => s != Lm.OFF) l; have := F.np.2; omega
          refine q_forLn (K := K) (a := st) (xs := IL (l.filter fun s => s != Lm.OFF)) (ev_var rfl) (sq_of h2) (fun i σ H' => (∃ u, σ = [some (.ref ga), some (.ref ra), some (.ref st), u]) ∧ Ex H2 H' ∧ ∀ s ∈ (l.filter fun s => s != Lm.OFF).take i, s < 64 ∧ Lm.inSet g.board s = true) (fun H3 e3 => ⟨⟨none, rfl⟩, e3, fun s hs => by cases hs⟩) (fun i σ' H' _ p => sq_of (p.2.1 _ _ h2)) ?_ ?_
          · rintro i y σ' H' hy ⟨⟨u, rfl⟩, e3, hall⟩
            obtain ⟨n, hn, rfl⟩ := IL_get hy
            have hmem := List.mem_filter.mp (List.mem_of_getElem? hn)
            have hoff : ¬ n = Lm.OFF := by simpa using hmem.2
            refine s_when (et_B (ev_dnotin (d := dp) (k := Sum.inl (n : Int)) (ev_var rfl) (ev_fld (ev_var rfl) ((e12.trans e3) _ _ G.obj) T.c_Game T.n_Game_places rfl) ((e12.trans e3) _ _ G.places))) ?_ ?_
            · intro hc H4 e4
              rw [placesD_val] at hc
              have hnot : ¬ (n < 64 ∧ Lm.inSet g.board n = true) := fun z => by rw [if_pos (Or.inr z)] at hc; cases hc
              have hF : ((l.all fun s => s == Lm.OFF || (decide (s < 64) && Lm.inSet g.board s)) && decide ((l.filter fun s => s != Lm.OFF).Nodup)) = false := by
                rw [Bool.and_eq_false_iff]
                left
                rw [List.all_eq_false]
                refine ⟨n, hmem.1, ?_⟩
                simp only [Bool.or_eq_true, Bool.and_eq_true, decide_eq_true_eq, beq_iff_eq]
                rintro (z | z)
                · exact hoff z
                · exact hnot z
              rw [hF] at q
              exact s_ret ev_c fun H5 e5 => q H5 (((e12.trans e3).trans e4).trans e5)
            · intro hc H4 e4
              rw [placesD_val] at hc
              have hyes : n < 64 ∧ Lm.inSet g.board n = true := by
                apply Classical.byContradiction
                intro z
                rw [if_neg (by rintro (y | y); exact hoff y; exact z y)] at hc
                cases hc
              refine ⟨⟨_, rfl⟩, e3.trans e4, fun s hs => ?_⟩
              rw [take_next hn] at hs
              rcases List.mem_append.mp hs with z | z
              · exact hall s z
              · rw [List.mem_singleton.mp z]; exact hyes
          · rintro σ' H' ⟨⟨u, rfl⟩, e3, hall⟩
            rw [IL_len, List.take_length] at hall
            refine s_ret (ev_op (ev_lenSet (K := K) (ev_var rfl) (e3 _ _ h2) (by omega)) (ev_lenS (K := K) (ev_var rfl) (sq_of (e3 _ _ h2))) (rv_eq rfl)) fun H4 e4 => ?_
            have key : decide (V.int ((dd ((l.filter fun s => s != Lm.OFF).map fun (n : Nat) => (n : Int))).length : Nat) = V.int ((IL (l.filter fun s => s != Lm.OFF)).length : Nat)) = ((l.all fun s => s == Lm.OFF || (decide (s < 64) && Lm.inSet g.board s)) && decide ((l.filter fun s => s != Lm.OFF).Nodup)) := by
              have hA : (l.all fun s => s == Lm.OFF || (decide (s < 64) && Lm.inSet g.board s)) = true := by
                rw [List.all_eq_true]
                intro s hs
                simp only [Bool.or_eq_true, Bool.and_eq_true, decide_eq_true_eq, beq_iff_eq]
                by_cases c : s = Lm.OFF
                · exact Or.inl c
                · exact Or.inr (hall s (List.mem_filter.mpr ⟨hs, by simpa using c⟩))
              rw [hA, Bool.true_and, IL_len]
              have := dd_nodup (ns := (l.filter fun s => s != Lm.OFF).map fun (n : Nat) => (n : Int))
              rw [List.length_map] at this
              rw [this, decide_eq_decide]
              exact nodup_cast
            rw [key]
            exact q H4 ((e12.trans e3).trans e4)
    · have hF : rightRow g r = false := by unfold rightRow; rw [decide_eq_false hlen, Bool.false_and]
      rw [hF] at q
      refine q_when (b := true) ?_ (fun _ H1 e1 => s_ret ev_c fun H2 e2 => q H2 (e1.trans e2)) (fun z => Bool.noConfusion z)
      have h1 : EvT (tTest (tOp rNe (tCB (fun xs H Q => ∃ p ys, xs = [.ref p] ∧ (SqL K H p ys ∨ SqT K H p ys) ∧ Q (.int ys.length) H) (tCons (tVar 1) tNil)) (tOp (rI0 fun i j => .int (i + j)) (tCB (fun xs H Q => ∃ p ys, xs = [.ref p] ∧ (SqL K H p ys ∨ SqT K H p ys) ∧ Q (.int ys.length) H) (tCons (tFld K (tVar 0) "pieces") tNil)) (tC (.int 1))))) (start n_is_right [.ref ga, .ref ra]) H true := by
        refine et_is (et_test (ev_op (ev_lenS (K := K) (ev_var rfl) (sq_of hra)) (ev_op (ev_lenS (K := K) (ev_fld (ev_var rfl) G.obj T.c_Game T.n_Game_pieces rfl) (sq_of G.pieces)) ev_c rv_I0) (rv_ne rfl))) ?_
        rw [IL_len, hpl, dec_int, decide_eq_false (show ¬ ((r.length : Int) = (g.pieces.length : Int) + 1) by omega)]
        rfl
      exact et_or (b := true) h1 (fun z => Bool.noConfusion z)
end
end Es
end

section
set_option Elab.async false
set_option linter.all false
set_option maxRecDepth 100000
set_option maxHeartbeats 4000000
namespace Es
open PySem PySem.Spec PyProof.Rows L2 Evl
section
variable {P : Program} {w : World} {K : Fr} {mg : Str → Option Value} {base : Heap}
/-! ### number_of -/
theorem pow_le_count {b n k : Nat} (hb : b ≤ 64) (h : n ≤ k) (hk : k ≤ 6) : 2 * (b + 1) ^ n < 2 ^ 63 := by
  have h1 : (b + 1) ^ n ≤ 65 ^ n := Nat.pow_le_pow_left (by omega) n
  have h2 : 65 ^ n ≤ 65 ^ 6 := Nat.pow_le_pow_right (by decide) (by omega)
  have h3 : 2 * 65 ^ 6 < 2 ^ 63 := by decide
  omega
def sp_number_of : Sp := fun vs H Q _ => ∃ (ga ra : Addr) (g : Lm.Game) (l : List Nat) (x : Nat), vs = [.ref ga, .ref ra] ∧ GAt K H ga g ∧ Fit g ∧ H ra = some (.lst (IL (l ++ [x]))) ∧ l.length = g.pieces.length ∧ (∀ s ∈ l, On g s) ∧ RetV (.int (Lm.index g ⟨l, x⟩ : Nat)) H Q
abbrev s_number_of : Stmt := top 44
abbrev n_number_of : List Str := ["game", "row", "number", "weight", "square"]
theorem sc_number_of : FnScope n_number_of ["game", "row"] (defScope s_number_of) := ⟨rfl, rfl, rfl, by decide +kernel, rfl, by decide +kernel, by decide +kernel⟩
theorem ok_number_of (T : Env K mg) : Cal P w K mg base CX0 1 "number_of" (sp_number_of (K := K)) := by
  refine T.d_number_of.cal sc_number_of (fun _ _ _ _ _ _ us hl => match us, hl with | [_, _], _ => rfl) (fun vs H Q E h => ?_) (Body0.by fun f cdv A outer s H vs Q E hr h => ⟨_, (pss_cons (ps_set (i := 2) sc_number_of.nd rfl (Or.inl rfl) (pe_ix ix_list (pv 1) (pe_un un_neg pe_int) (fun _ _ => rfl))) (pss_cons (ps_set (i := 3) sc_number_of.nd rfl (Or.inl rfl) pe_int) (pss_cons (ps_for PassesOwn.never rfl (pi_list (pe_slice sl_list (pv 1) po_none (po_some (pe_un un_neg pe_int)))) (pg_name (i := 4) sc_number_of.nd rfl (Or.inl rfl)) (pss_cons (ps_set (i := 2) sc_number_of.nd rfl (Or.inl rfl) (pe_op op_add (pv 2) (pe_op op_mul (pv 3) (pe_dget (hu_of hr) (pe_fld (pv 0) rfl) (pv 4) (fun _ _ => rfl))))) (pss_one (ps_set (i := 3) sc_number_of.nd rfl (Or.inl rfl) (pe_op op_mul (pv 3) (pe_callB call_lenD (by rfl) T.f_len PySem.boot_len (pa_cons (pe_fld (pv 0) rfl) pa_nil))))))) (pss_one (ps_ret (pv 2)))))), ?_⟩)
  · obtain ⟨ga, ra, g, l, x, rfl, _⟩ := h
    rfl
  · obtain ⟨ga, ra, g, l, x, rfl, ⟨dx, lk, lp, ls, dp, lw, ks, ps, ws, G⟩, F, hra, hl, hon, q⟩ := h
    have hb : (Lm.squaresOf g.board).length = g.squares := rfl
    refine q_asg (ev_op (ev_var rfl) (ev_un ev_c ru_neg) (rv_ixL (K := K) (sq_of hra) (atI_end l x))) fun H1 e1 => ?_
    refine q_asg ev_c fun H2 e2 => ?_
    have e12 := e1.trans e2
    have hsl : EvL (tSl (rSlL K) (tVar 1) tNoPart (tPart (tUn (rU fun i => .int (-i)) (tC (.int 1))))) [some (.ref ga), some (.ref ra), some (.int (x : Nat)), some (.int 2), none] H2 (IL l) := by
      have := el_sl (K := K) (σ := [some (.ref ga), some (.ref ra), some (.int (x : Nat)), some (.int 2), none]) (H := H2) (te := tVar 1) (lo := none) (hi := some (-1)) (ev_var rfl) eo_none (eo_some (ev_un ev_c ru_neg)) (sq_of (e12 _ _ hra))
      rw [cutV_init] at this
      exact this
    refine q_forNLn (K := K) (xs := IL l) hsl (fun p i σ H' => (∃ u, σ = [some (.ref ga), some (.ref ra), some (.int ((x + 2 * Lm.indexFrom g (l.take i) : Nat) : Int)), some (.int ((2 * (g.squares + 1) ^ i : Nat) : Int)), u]) ∧ Ex H H' ∧ H' p = some (.lst (IL l))) (fun p H3 hp e3 h3 => ⟨⟨none, rfl⟩, e12.trans e3, h3⟩) (fun p i σ' H' _ pp => sq_of pp.2.2) ?_ ?_
    · rintro p i y σ' H' hy ⟨⟨u, rfl⟩, e3, hp3⟩
      obtain ⟨n, hn, rfl⟩ := IL_get hy
      have hi := (List.getElem?_eq_some_iff.mp hn).1
      have hpow := pow_le_count (b := g.squares) (n := i) (k := g.pieces.length) (squares_le g.board) (by omega) F.np.2
      have hv : valV (placesD g.board) (Sum.inl (n : Int)) = some (.int (Lm.placeIn g n : Nat)) := by rw [placesD_val]; exact if_pos (hon n (List.mem_of_getElem? hn))
      refine q_asg (ev_op (ev_var rfl) (ev_op (ev_var rfl) (ev_dget (d := dp) (k := Sum.inl (n : Int)) (ev_fld (ev_var rfl) (e3 _ _ G.obj) T.c_Game T.n_Game_places rfl) (ev_var rfl) (e3 _ _ G.places) hv) (rv_I (Or.inl ⟨by omega, by omega⟩))) rv_I0) fun H4 e4 => ?_
      refine s_asg (ev_op (ev_var rfl) (ev_lenD (ev_fld (ev_var rfl) ((e3.trans e4) _ _ G.obj) T.c_Game T.n_Game_places rfl) ((e3.trans e4) _ _ G.places)) (rv_I (Or.inl ⟨by omega, by omega⟩))) fun H5 e5 => ⟨⟨some (.int (n : Nat)), ?_⟩, (e3.trans e4).trans e5, (e4.trans e5) _ _ hp3⟩
      · have hti : (l.take i).length = i := by rw [List.length_take]; omega
        rw [take_next hn, indexFrom_snoc, hti, placesD_len, hb]
        have a1 : ((x + 2 * Lm.indexFrom g (l.take i) : Nat) : Int) + ((2 * (g.squares + 1) ^ i : Nat) : Int) * ((Lm.placeIn g n : Nat) : Int) = ((x + 2 * (Lm.indexFrom g (l.take i) + (g.squares + 1) ^ i * Lm.placeIn g n) : Nat) : Int) := by
          rw [Nat.mul_add, ← Nat.mul_assoc, ← Nat.add_assoc]
          push_cast
          rfl
        have a2 : ((2 * (g.squares + 1) ^ i : Nat) : Int) * ((g.squares + 1 : Nat) : Int) = ((2 * (g.squares + 1) ^ (i + 1) : Nat) : Int) := by
          rw [Nat.pow_succ, ← Nat.mul_assoc]
          push_cast
          rfl
        rw [← a1, ← a2]
        rfl
    · rintro p σ' H' ⟨⟨u, rfl⟩, e3, hp3⟩
      refine s_ret (ev_var rfl) fun H4 e4 => ?_
      rw [IL_len, List.take_length]
      exact q H4 (e3.trans e4)
/-! ### row_of -/
def sp_row_of : Sp := fun vs H Q _ => ∃ (ga : Addr) (n : Nat) (g : Lm.Game), vs = [.ref ga, .int (n : Nat)] ∧ GAt K H ga g ∧ Fit g ∧ RetL (IL (LmCalls.posNums (Lm.posAt g n))) H Q
abbrev s_row_of : Stmt := top 45
abbrev n_row_of : List Str := ["game", "number", "row", "rest", "place"]
theorem sc_row_of : FnScope n_row_of ["game", "number"] (defScope s_row_of) := ⟨rfl, rfl, rfl, by decide +kernel, rfl, by decide +kernel, by decide +kernel⟩
theorem ok_row_of (T : Env K mg) : Cal P w K mg base CX0 1 "row_of" (sp_row_of (K := K)) := by
  refine T.d_row_of.cal sc_row_of (fun _ _ _ _ _ _ us hl => match us, hl with | [_, _], _ => rfl) (fun vs H Q E h => ?_) (Body0.by fun f cdv A outer s H vs Q E hr h => ⟨_, (pss_cons (ps_set (i := 2) sc_row_of.nd rfl (Or.inl rfl) (pe_lst pa_nil)) (pss_cons (ps_set (i := 3) sc_row_of.nd rfl (Or.inl rfl) (pe_op op_fdivN (pv 1) pe_int)) (pss_cons (ps_while PassesOwn.never (pt_cmpR op_lt (pe_callB call_len_seq (by rfl) T.f_len PySem.boot_len (pa_cons (pv 2) pa_nil)) (pe_callB call_len_seq (by rfl) T.f_len PySem.boot_len (pa_cons (pe_fld (pv 0) rfl) pa_nil)) (nomark _)) (pss_cons (ps_set (i := 4) sc_row_of.nd rfl (Or.inl rfl) (pe_op op_modN (pv 3) (pe_callB call_lenD (by rfl) T.f_len PySem.boot_len (pa_cons (pe_fld (pv 0) rfl) pa_nil)))) (pss_cons (ps_expr (pe_bm PySem.F.plainAttrs_list PySem.F.slot_list_append PySem.F.type_list_append mt_append (pv 2) (pa_cons (pe_ifExp (pt_cmpR op_eq (pv 4) (pe_callB call_len_seq (by rfl) T.f_len PySem.boot_len (pa_cons (pe_fld (pv 0) rfl) pa_nil)) (nomark _)) (pe_gv (by rfl) T.v_OFF) (pe_ix ix_list (pe_fld (pv 0) rfl) (pv 4) (fun _ _ => rfl))) pa_nil))) (pss_one (ps_set (i := 3) sc_row_of.nd rfl (Or.inl rfl) (pe_op op_fdivN (pv 3) (pe_callB call_lenD (by rfl) T.f_len PySem.boot_len (pa_cons (pe_fld (pv 0) rfl) pa_nil)))))))) (pss_cons (ps_expr (pe_bm PySem.F.plainAttrs_list PySem.F.slot_list_append PySem.F.type_list_append mt_append (pv 2) (pa_cons (pe_op op_modN (pv 1) pe_int) pa_nil))) (pss_one (ps_ret (pv 2))))))), ?_⟩)
  · obtain ⟨ga, n, g, rfl, _⟩ := h
    rfl
  · obtain ⟨ga, n, g, rfl, ⟨dx, lk, lp, ls, dp, lw, ks, ps, ws, G⟩, F, q⟩ := h
    have hb : (Lm.squaresOf g.board).length = g.squares := rfl
    have hb64 : g.squares ≤ 64 := squares_le g.board
    have hpl : (ps.map V.ref).length = g.pieces.length := by rw [List.length_map, G.piecesA.1]
    refine q_lnew fun d hd => ?_
    have e0 : Ex H (upd H d (.lst [])) := Ex.new hd
    refine q_asg (ev_op (ev_var rfl) ev_c (rv_I ⟨by decide, by decide⟩)) fun H1 e1 => ?_
    rw [show ((n : Int)).fdiv 2 = ((n / 2 : Nat) : Int) from fdiv_nat n 2]
    refine q_while (fun m σ H' => (∃ i u, i + m = g.pieces.length ∧ σ = [some (.ref ga), some (.int (n : Nat)), some (.ref d), some (.int ((n / 2 / (g.squares + 1) ^ i : Nat) : Int)), u] ∧ H' d = some (.lst (IL ((List.range i).map fun j => sqAt g (n / 2 / (g.squares + 1) ^ j % (g.squares + 1)))))) ∧ Ex H H') g.pieces.length
      ⟨⟨0, none, by omega, by rw [Nat.pow_zero, Nat.div_one]; rfl, e1 _ _ upd_same⟩, e0.trans e1⟩ ?_
    rintro m σ' H' ⟨⟨i, u, him, rfl, hd1⟩, e2⟩
    refine ⟨decide (i < g.pieces.length), et_is (et_test (ev_op (ev_lenS (K := K) (ev_var rfl) (sq_of hd1)) (ev_lenS (K := K) (ev_fld (ev_var rfl) (e2 _ _ G.obj) T.c_Game T.n_Game_pieces rfl) (sq_of (e2 _ _ G.pieces))) rv_I0)) ?_, ?_, ?_⟩
    · rw [IL_len, List.length_map, List.length_range, hpl, decide_eq_decide]
      omega
    · intro hc H3 e3
      rw [decide_eq_true_eq] at hc
      have hi6 : i < 6 := by have := F.np.2; omega
      refine ⟨fun σ2 H2 => (∃ i u, i + (m - 1) = g.pieces.length ∧ σ2 = [some (.ref ga), some (.int (n : Nat)), some (.ref d), some (.int ((n / 2 / (g.squares + 1) ^ i : Nat) : Int)), u] ∧ H2 d = some (.lst (IL ((List.range i).map fun j => sqAt g (n / 2 / (g.squares + 1) ^ j % (g.squares + 1)))))) ∧ Ex H H2, fun σ2 H2 h => ⟨m - 1, by omega, h⟩, ?_⟩
      have e23 := e2.trans e3
      refine q_asg (ev_op (ev_var rfl) (ev_lenD (ev_fld (ev_var rfl) (e23 _ _ G.obj) T.c_Game T.n_Game_places rfl) (e23 _ _ G.places)) (rv_I (by rw [placesD_len]; omega))) fun H4 e4 => ?_
      rw [placesD_len, hb, show (((n / 2 / (g.squares + 1) ^ i : Nat) : Int)).fmod ((g.squares + 1 : Nat) : Int) = ((n / 2 / (g.squares + 1) ^ i % (g.squares + 1) : Nat) : Int) from fmod_nat _ _]
      have e24 := e23.trans e4
      generalize hk : n / 2 / (g.squares + 1) ^ i % (g.squares + 1) = k
      have hk1 : k ≤ g.squares := by have := Nat.mod_lt (n / 2 / (g.squares + 1) ^ i) (show 0 < g.squares + 1 by omega); omega
      refine q_app (K := K) (l := d) ((e3.trans e4) _ _ hd1) (ev_var rfl) (v := .int (sqAt g k : Nat)) (ev_if (b := decide (k = g.squares)) (et_is (et_test (ev_op (ev_var rfl) (ev_lenS (K := K) (ev_fld (ev_var rfl) (e24 _ _ G.obj) T.c_Game T.n_Game_squares rfl) (sq_of (e24 _ _ G.squares))) (rv_eq rfl))) ?_) ?_ ?_) (by rw [IL_len, List.length_map, List.length_range]; omega) fun H5 e5 => ?_
      · rw [IL_len, dec_nat, hb]
      · intro hz
        rw [decide_eq_true_eq] at hz
        have : sqAt g k = 64 := by
          unfold sqAt
          rw [List.getD_eq_getElem?_getD, List.getElem?_eq_none_iff.mpr (by rw [hb]; omega)]
          rfl
        rw [this]
        exact ev_c
      · intro hz
        rw [decide_eq_false_iff_not] at hz
        have hkl : k < (Lm.squaresOf g.board).length := by rw [hb]; omega
        have hsq := List.getElem?_eq_getElem hkl
        have : sqAt g k = (Lm.squaresOf g.board)[k] := getD_of hsq
        rw [this]
        exact ev_op (ev_fld (ev_var rfl) (e24 _ _ G.obj) T.c_Game T.n_Game_squares rfl) (ev_var rfl) (rv_ixL (K := K) (sq_of (e24 _ _ G.squares)) (atI_IL hsq))
      · have e6 : Ex H (upd H5 d (.lst (IL ((List.range i).map fun j => sqAt g (n / 2 / (g.squares + 1) ^ j % (g.squares + 1))) ++ [V.int (sqAt g k : Nat)]))) := Ex.mut (e24.trans e5) hd
        refine s_asg (ev_op (ev_var rfl) (ev_lenD (ev_fld (ev_var rfl) (e6 _ _ G.obj) T.c_Game T.n_Game_places rfl) (e6 _ _ G.places)) (rv_I ⟨by rw [placesD_len]; omega, by rw [placesD_len, hb]; omega⟩)) fun H7 e7 => ⟨⟨i + 1, some (.int (k : Nat)), by omega, ?_, ?_⟩, e6.trans e7⟩
        · rw [placesD_len, hb, show (((n / 2 / (g.squares + 1) ^ i : Nat) : Int)).fdiv ((g.squares + 1 : Nat) : Int) = ((n / 2 / (g.squares + 1) ^ i / (g.squares + 1) : Nat) : Int) from fdiv_nat _ _, Nat.div_div_eq_div_mul (n / 2), ← Nat.pow_succ]
          rfl
        · rw [e7 _ _ upd_same, List.range_succ, List.map_append, List.map_singleton, hk, IL_snoc]
    · intro hc H3 e3
      rw [decide_eq_false_iff_not] at hc
      have hi : i = g.pieces.length := by omega
      have hn6 := F.np.2
      refine q_app (K := K) (l := d) (e3 _ _ hd1) (ev_var rfl) (ev_op (ev_var rfl) ev_c (rv_I (by decide))) (by rw [IL_len, List.length_map, List.length_range]; omega) fun H4 e4 => ?_
      rw [show ((n : Int)).fmod 2 = ((n % 2 : Nat) : Int) from fmod_nat n 2]
      refine s_ret (ev_var rfl) fun H5 e5 => q d H5 hd ((Ex.mut ((e2.trans e3).trans e4) hd).trans e5) (e5 _ _ ?_)
      rw [upd_same]
      unfold LmCalls.posNums
      rw [posAt_at, IL_snoc, hi]
      rfl
/-! ### the refusals -/
abbrev s_Refusal___init__ : Stmt := inClass (top 27) 0
abbrev n_Refusal___init__ : List Str := ["self", "answer"]
theorem sc_Refusal___init__ : FnScope n_Refusal___init__ ["self", "answer"] (defScope s_Refusal___init__) := ⟨rfl, rfl, rfl, by decide +kernel, rfl, by decide +kernel, by decide +kernel⟩
theorem of_Refusal (T : Env K mg) : Off P w K mg base CX0 1 "Refusal" "__init__" (sp_Ref K) := by
  refine OffAt.off T.g_Refusal T.o_Refusal sc_Refusal___init__ (fun _ _ _ _ _ _ us hl => match us, hl with | [_, _], _ => rfl) (fun vs H Q E h => ?_) (Body0.by fun f cdv A outer s H vs Q E hr h => ⟨_, (pss_one (ps_ansSet (pv 0) (pv 1))), ?_⟩)
  · obtain ⟨a, C, y, rfl, _⟩ := h
    rfl
  · obtain ⟨a, C, y, rfl, hC, ha, q⟩ := h
    exact ⟨_, rfl, _, rfl, a, C, rfl, hC, ha, q⟩
/-- the body of a refusal's __init__: Refusal.__init__(self, [..]) -/
theorem err_body {H : Hp} {a C : Addr} {Q : VK} {ta : TA} {σ : L2.St} {ys : List V} (hs : σ[0]? = some (some (.ref a))) (hC : EC K C) (ha : H a = some (exo a C none)) (h : ∀ Q' : List V → Hp → Prop, Q' ys H → ta σ H Q') (hz : ys.length ≤ 1000)
    (q : ∀ la dx, H la = none → upd H la (.lst ys) dx = none → dx ≠ a → Q .non (upd (upd (upd H la (.lst ys)) dx (exd dx [("answer", .ref la)])) a (exo a C (some dx)))) :
    tDrop (tOff (sp_Ref K) E0 (tCons (tVar 0) (tCons (tLst ta) tNil))) { nx := fun _ H' => Q .non H', rt := Q } σ H :=
  ⟨_, hs, h _ ⟨Nat.le_trans hz (by decide), fun la hla => ⟨a, C, .ref la, rfl, hC, (upd_ne (ne_of_none ha hla)).trans ha, fun dx hdx ne => q la dx hla hdx ne⟩⟩⟩
abbrev spE0 (K : Fr) (z : Int) : Sp := sp_err K (fun ws => ws = []) (fun _ => [.int z])
abbrev spE1 (K : Fr) : Sp := sp_err K (fun ws => ∃ n : Nat, ws = [.int n]) (fun ws => .int (-1) :: ws)
abbrev s_NoGame___init__ : Stmt := inClass (top 28) 0
abbrev n_NoGame___init__ : List Str := ["self"]
theorem sc_NoGame___init__ : FnScope n_NoGame___init__ ["self"] (defScope s_NoGame___init__) := ⟨rfl, rfl, rfl, by decide +kernel, rfl, by decide +kernel, by decide +kernel⟩
theorem er_NoGame (T : Env K mg) : MkE P w K mg base 2 (CA K "NoGame") (spE0 K (-4)) := by
  refine T.i_NoGame.mk_ sc_NoGame___init__ (fun _ _ _ _ _ _ us hl => match us, hl with | [_], _ => rfl) (fun vs H Q E h => ?_) (Body0.by fun f cdv A outer s H vs Q E hr h => ⟨_, (pss_one (ps_expr (pe_offB (of_Refusal T) hr (by decide) (by rfl) pass0 (pa_cons (pv 0) (pa_cons (pe_lst (pa_cons (pe_un un_neg pe_int) pa_nil)) pa_nil))))), ?_⟩)
  · obtain ⟨a, C, ws, rfl, rfl, _⟩ := h
    rfl
  · obtain ⟨a, C, ws, rfl, rfl, hC, ha, q⟩ := h
    exact err_body rfl hC ha (fun Q' q' => ⟨_, rfl, q'⟩) (by show 1 ≤ 1000; decide) q
abbrev s_TooLarge___init__ : Stmt := inClass (top 30) 0
abbrev n_TooLarge___init__ : List Str := ["self"]
theorem sc_TooLarge___init__ : FnScope n_TooLarge___init__ ["self"] (defScope s_TooLarge___init__) := ⟨rfl, rfl, rfl, by decide +kernel, rfl, by decide +kernel, by decide +kernel⟩
theorem er_TooLarge (T : Env K mg) : MkE P w K mg base 2 (CA K "TooLarge") (spE0 K (-2)) := by
  refine T.i_TooLarge.mk_ sc_TooLarge___init__ (fun _ _ _ _ _ _ us hl => match us, hl with | [_], _ => rfl) (fun vs H Q E h => ?_) (Body0.by fun f cdv A outer s H vs Q E hr h => ⟨_, (pss_one (ps_expr (pe_offB (of_Refusal T) hr (by decide) (by rfl) pass0 (pa_cons (pv 0) (pa_cons (pe_lst (pa_cons (pe_un un_neg pe_int) pa_nil)) pa_nil))))), ?_⟩)
  · obtain ⟨a, C, ws, rfl, rfl, _⟩ := h
    rfl
  · obtain ⟨a, C, ws, rfl, rfl, hC, ha, q⟩ := h
    exact err_body rfl hC ha (fun Q' q' => ⟨_, rfl, q'⟩) (by show 1 ≤ 1000; decide) q
abbrev s_NotRight___init__ : Stmt := inClass (top 31) 0
abbrev n_NotRight___init__ : List Str := ["self"]
theorem sc_NotRight___init__ : FnScope n_NotRight___init__ ["self"] (defScope s_NotRight___init__) := ⟨rfl, rfl, rfl, by decide +kernel, rfl, by decide +kernel, by decide +kernel⟩
theorem er_NotRight (T : Env K mg) : MkE P w K mg base 2 (CA K "NotRight") (spE0 K (-2)) := by
  refine T.i_NotRight.mk_ sc_NotRight___init__ (fun _ _ _ _ _ _ us hl => match us, hl with | [_], _ => rfl) (fun vs H Q E h => ?_) (Body0.by fun f cdv A outer s H vs Q E hr h => ⟨_, (pss_one (ps_expr (pe_offB (of_Refusal T) hr (by decide) (by rfl) pass0 (pa_cons (pv 0) (pa_cons (pe_lst (pa_cons (pe_un un_neg pe_int) pa_nil)) pa_nil))))), ?_⟩)
  · obtain ⟨a, C, ws, rfl, rfl, _⟩ := h
    rfl
  · obtain ⟨a, C, ws, rfl, rfl, hC, ha, q⟩ := h
    exact err_body rfl hC ha (fun Q' q' => ⟨_, rfl, q'⟩) (by show 1 ≤ 1000; decide) q
abbrev s_NoOutcome___init__ : Stmt := inClass (top 32) 0
abbrev n_NoOutcome___init__ : List Str := ["self"]
theorem sc_NoOutcome___init__ : FnScope n_NoOutcome___init__ ["self"] (defScope s_NoOutcome___init__) := ⟨rfl, rfl, rfl, by decide +kernel, rfl, by decide +kernel, by decide +kernel⟩
theorem er_NoOutcome (T : Env K mg) : MkE P w K mg base 2 (CA K "NoOutcome") (spE0 K (-2)) := by
  refine T.i_NoOutcome.mk_ sc_NoOutcome___init__ (fun _ _ _ _ _ _ us hl => match us, hl with | [_], _ => rfl) (fun vs H Q E h => ?_) (Body0.by fun f cdv A outer s H vs Q E hr h => ⟨_, (pss_one (ps_expr (pe_offB (of_Refusal T) hr (by decide) (by rfl) pass0 (pa_cons (pv 0) (pa_cons (pe_lst (pa_cons (pe_un un_neg pe_int) pa_nil)) pa_nil))))), ?_⟩)
  · obtain ⟨a, C, ws, rfl, rfl, _⟩ := h
    rfl
  · obtain ⟨a, C, ws, rfl, rfl, hC, ha, q⟩ := h
    exact err_body rfl hC ha (fun Q' q' => ⟨_, rfl, q'⟩) (by show 1 ≤ 1000; decide) q
abbrev s_NoSide___init__ : Stmt := inClass (top 33) 0
abbrev n_NoSide___init__ : List Str := ["self"]
theorem sc_NoSide___init__ : FnScope n_NoSide___init__ ["self"] (defScope s_NoSide___init__) := ⟨rfl, rfl, rfl, by decide +kernel, rfl, by decide +kernel, by decide +kernel⟩
theorem er_NoSide (T : Env K mg) : MkE P w K mg base 2 (CA K "NoSide") (spE0 K (-2)) := by
  refine T.i_NoSide.mk_ sc_NoSide___init__ (fun _ _ _ _ _ _ us hl => match us, hl with | [_], _ => rfl) (fun vs H Q E h => ?_) (Body0.by fun f cdv A outer s H vs Q E hr h => ⟨_, (pss_one (ps_expr (pe_offB (of_Refusal T) hr (by decide) (by rfl) pass0 (pa_cons (pv 0) (pa_cons (pe_lst (pa_cons (pe_un un_neg pe_int) pa_nil)) pa_nil))))), ?_⟩)
  · obtain ⟨a, C, ws, rfl, rfl, _⟩ := h
    rfl
  · obtain ⟨a, C, ws, rfl, rfl, hC, ha, q⟩ := h
    exact err_body rfl hC ha (fun Q' q' => ⟨_, rfl, q'⟩) (by show 1 ≤ 1000; decide) q
abbrev s_NotFound___init__ : Stmt := inClass (top 36) 0
abbrev n_NotFound___init__ : List Str := ["self"]
theorem sc_NotFound___init__ : FnScope n_NotFound___init__ ["self"] (defScope s_NotFound___init__) := ⟨rfl, rfl, rfl, by decide +kernel, rfl, by decide +kernel, by decide +kernel⟩
theorem er_NotFound (T : Env K mg) : MkE P w K mg base 2 (CA K "NotFound") (spE0 K (-1)) := by
  refine T.i_NotFound.mk_ sc_NotFound___init__ (fun _ _ _ _ _ _ us hl => match us, hl with | [_], _ => rfl) (fun vs H Q E h => ?_) (Body0.by fun f cdv A outer s H vs Q E hr h => ⟨_, (pss_one (ps_expr (pe_offB (of_Refusal T) hr (by decide) (by rfl) pass0 (pa_cons (pv 0) (pa_cons (pe_lst (pa_cons (pe_un un_neg pe_int) pa_nil)) pa_nil))))), ?_⟩)
  · obtain ⟨a, C, ws, rfl, rfl, _⟩ := h
    rfl
  · obtain ⟨a, C, ws, rfl, rfl, hC, ha, q⟩ := h
    exact err_body rfl hC ha (fun Q' q' => ⟨_, rfl, q'⟩) (by show 1 ≤ 1000; decide) q
abbrev s_OtherLength___init__ : Stmt := inClass (top 37) 0
abbrev n_OtherLength___init__ : List Str := ["self"]
theorem sc_OtherLength___init__ : FnScope n_OtherLength___init__ ["self"] (defScope s_OtherLength___init__) := ⟨rfl, rfl, rfl, by decide +kernel, rfl, by decide +kernel, by decide +kernel⟩
theorem er_OtherLength (T : Env K mg) : MkE P w K mg base 2 (CA K "OtherLength") (spE0 K (-1)) := by
  refine T.i_OtherLength.mk_ sc_OtherLength___init__ (fun _ _ _ _ _ _ us hl => match us, hl with | [_], _ => rfl) (fun vs H Q E h => ?_) (Body0.by fun f cdv A outer s H vs Q E hr h => ⟨_, (pss_one (ps_expr (pe_offB (of_Refusal T) hr (by decide) (by rfl) pass0 (pa_cons (pv 0) (pa_cons (pe_lst (pa_cons (pe_un un_neg pe_int) pa_nil)) pa_nil))))), ?_⟩)
  · obtain ⟨a, C, ws, rfl, rfl, _⟩ := h
    rfl
  · obtain ⟨a, C, ws, rfl, rfl, hC, ha, q⟩ := h
    exact err_body rfl hC ha (fun Q' q' => ⟨_, rfl, q'⟩) (by show 1 ≤ 1000; decide) q
abbrev s_NotKnown___init__ : Stmt := inClass (top 34) 0
abbrev n_NotKnown___init__ : List Str := ["self"]
theorem sc_NotKnown___init__ : FnScope n_NotKnown___init__ ["self"] (defScope s_NotKnown___init__) := ⟨rfl, rfl, rfl, by decide +kernel, rfl, by decide +kernel, by decide +kernel⟩
theorem er_NotKnown (T : Env K mg) : MkE P w K mg base 2 (CA K "NotKnown") (spE0 K (-3)) := by
  refine T.i_NotKnown.mk_ sc_NotKnown___init__ (fun _ _ _ _ _ _ us hl => match us, hl with | [_], _ => rfl) (fun vs H Q E h => ?_) (Body0.by fun f cdv A outer s H vs Q E hr h => ⟨_, (pss_one (ps_expr (pe_offB (of_Refusal T) hr (by decide) (by rfl) pass0 (pa_cons (pv 0) (pa_cons (pe_lst (pa_cons (pe_un un_neg pe_int) pa_nil)) pa_nil))))), ?_⟩)
  · obtain ⟨a, C, ws, rfl, rfl, _⟩ := h
    rfl
  · obtain ⟨a, C, ws, rfl, rfl, hC, ha, q⟩ := h
    exact err_body rfl hC ha (fun Q' q' => ⟨_, rfl, q'⟩) (by show 1 ≤ 1000; decide) q
abbrev s_NotSolved___init__ : Stmt := inClass (top 35) 0
abbrev n_NotSolved___init__ : List Str := ["self"]
theorem sc_NotSolved___init__ : FnScope n_NotSolved___init__ ["self"] (defScope s_NotSolved___init__) := ⟨rfl, rfl, rfl, by decide +kernel, rfl, by decide +kernel, by decide +kernel⟩
theorem er_NotSolved (T : Env K mg) : MkE P w K mg base 2 (CA K "NotSolved") (spE0 K (-3)) := by
  refine T.i_NotSolved.mk_ sc_NotSolved___init__ (fun _ _ _ _ _ _ us hl => match us, hl with | [_], _ => rfl) (fun vs H Q E h => ?_) (Body0.by fun f cdv A outer s H vs Q E hr h => ⟨_, (pss_one (ps_expr (pe_offB (of_Refusal T) hr (by decide) (by rfl) pass0 (pa_cons (pv 0) (pa_cons (pe_lst (pa_cons (pe_un un_neg pe_int) pa_nil)) pa_nil))))), ?_⟩)
  · obtain ⟨a, C, ws, rfl, rfl, _⟩ := h
    rfl
  · obtain ⟨a, C, ws, rfl, rfl, hC, ha, q⟩ := h
    exact err_body rfl hC ha (fun Q' q' => ⟨_, rfl, q'⟩) (by show 1 ≤ 1000; decide) q
abbrev s_NoMove___init__ : Stmt := inClass (top 38) 0
abbrev n_NoMove___init__ : List Str := ["self"]
theorem sc_NoMove___init__ : FnScope n_NoMove___init__ ["self"] (defScope s_NoMove___init__) := ⟨rfl, rfl, rfl, by decide +kernel, rfl, by decide +kernel, by decide +kernel⟩
theorem er_NoMove (T : Env K mg) : MkE P w K mg base 2 (CA K "NoMove") (spE0 K (-5)) := by
  refine T.i_NoMove.mk_ sc_NoMove___init__ (fun _ _ _ _ _ _ us hl => match us, hl with | [_], _ => rfl) (fun vs H Q E h => ?_) (Body0.by fun f cdv A outer s H vs Q E hr h => ⟨_, (pss_one (ps_expr (pe_offB (of_Refusal T) hr (by decide) (by rfl) pass0 (pa_cons (pv 0) (pa_cons (pe_lst (pa_cons (pe_un un_neg pe_int) pa_nil)) pa_nil))))), ?_⟩)
  · obtain ⟨a, C, ws, rfl, rfl, _⟩ := h
    rfl
  · obtain ⟨a, C, ws, rfl, rfl, hC, ha, q⟩ := h
    exact err_body rfl hC ha (fun Q' q' => ⟨_, rfl, q'⟩) (by show 1 ≤ 1000; decide) q
abbrev s_AtEnd___init__ : Stmt := inClass (top 39) 0
abbrev n_AtEnd___init__ : List Str := ["self"]
theorem sc_AtEnd___init__ : FnScope n_AtEnd___init__ ["self"] (defScope s_AtEnd___init__) := ⟨rfl, rfl, rfl, by decide +kernel, rfl, by decide +kernel, by decide +kernel⟩
theorem er_AtEnd (T : Env K mg) : MkE P w K mg base 2 (CA K "AtEnd") (spE0 K (-6)) := by
  refine T.i_AtEnd.mk_ sc_AtEnd___init__ (fun _ _ _ _ _ _ us hl => match us, hl with | [_], _ => rfl) (fun vs H Q E h => ?_) (Body0.by fun f cdv A outer s H vs Q E hr h => ⟨_, (pss_one (ps_expr (pe_offB (of_Refusal T) hr (by decide) (by rfl) pass0 (pa_cons (pv 0) (pa_cons (pe_lst (pa_cons (pe_un un_neg pe_int) pa_nil)) pa_nil))))), ?_⟩)
  · obtain ⟨a, C, ws, rfl, rfl, _⟩ := h
    rfl
  · obtain ⟨a, C, ws, rfl, rfl, hC, ha, q⟩ := h
    exact err_body rfl hC ha (fun Q' q' => ⟨_, rfl, q'⟩) (by show 1 ≤ 1000; decide) q
abbrev s_Drawn___init__ : Stmt := inClass (top 40) 0
abbrev n_Drawn___init__ : List Str := ["self"]
theorem sc_Drawn___init__ : FnScope n_Drawn___init__ ["self"] (defScope s_Drawn___init__) := ⟨rfl, rfl, rfl, by decide +kernel, rfl, by decide +kernel, by decide +kernel⟩
theorem er_Drawn (T : Env K mg) : MkE P w K mg base 2 (CA K "Drawn") (spE0 K (-7)) := by
  refine T.i_Drawn.mk_ sc_Drawn___init__ (fun _ _ _ _ _ _ us hl => match us, hl with | [_], _ => rfl) (fun vs H Q E h => ?_) (Body0.by fun f cdv A outer s H vs Q E hr h => ⟨_, (pss_one (ps_expr (pe_offB (of_Refusal T) hr (by decide) (by rfl) pass0 (pa_cons (pv 0) (pa_cons (pe_lst (pa_cons (pe_un un_neg pe_int) pa_nil)) pa_nil))))), ?_⟩)
  · obtain ⟨a, C, ws, rfl, rfl, _⟩ := h
    rfl
  · obtain ⟨a, C, ws, rfl, rfl, hC, ha, q⟩ := h
    exact err_body rfl hC ha (fun Q' q' => ⟨_, rfl, q'⟩) (by show 1 ≤ 1000; decide) q
abbrev s_Fault___init__ : Stmt := inClass (top 29) 0
abbrev n_Fault___init__ : List Str := ["self", "place"]
theorem sc_Fault___init__ : FnScope n_Fault___init__ ["self", "place"] (defScope s_Fault___init__) := ⟨rfl, rfl, rfl, by decide +kernel, rfl, by decide +kernel, by decide +kernel⟩
theorem er_Fault (T : Env K mg) : MkE P w K mg base 2 (CA K "Fault") (spE1 K) := by
  refine T.i_Fault.mk_ sc_Fault___init__ (fun _ _ _ _ _ _ us hl => match us, hl with | [_, _], _ => rfl) (fun vs H Q E h => ?_) (Body0.by fun f cdv A outer s H vs Q E hr h => ⟨_, (pss_one (ps_expr (pe_offB (of_Refusal T) hr (by decide) (by rfl) pass0 (pa_cons (pv 0) (pa_cons (pe_lst (pa_cons (pe_un un_neg pe_int) (pa_cons (pv 1) pa_nil))) pa_nil))))), ?_⟩)
  · obtain ⟨a, C, ws, rfl, ⟨n, rfl⟩, _⟩ := h
    rfl
  · obtain ⟨a, C, ws, rfl, ⟨n, rfl⟩, hC, ha, q⟩ := h
    exact err_body rfl hC ha (fun Q' q' => ⟨_, rfl, _, rfl, q'⟩) (by show 2 ≤ 1000; decide) q
theorem raise0 {C : Addr} {σ : L2.St} {H : Hp} {E : XK} {z : Int} (T : EC K C) (rc : RC K C) (R : Refuses K E H [z]) : tMkE C (spE0 K z) tNil σ H fun cls d H' => E cls d H' := raise_err (ws := []) T rc ea_nil rfl rfl (Nat.zero_le _) R
/-! ### check_right, right_row_of -/
def sp_check_right : Sp := fun vs H Q E => ∃ (ga ra : Addr) (g : Lm.Game) (r : List Nat), vs = [.ref ga, .ref ra] ∧ GAt K H ga g ∧ Fit g ∧ H ra = some (.lst (IL r)) ∧ r.length ≤ 1000 ∧ (rightRow g r = true → RetV .non H Q) ∧ (rightRow g r = false → Refuses K E H [-2])
abbrev s_check_right : Stmt := top 43
abbrev n_check_right : List Str := ["game", "row"]
theorem sc_check_right : FnScope n_check_right ["game", "row"] (defScope s_check_right) := ⟨rfl, rfl, rfl, by decide +kernel, rfl, by decide +kernel, by decide +kernel⟩
theorem ok_check_right (T : Env K mg) : Cal P w K mg base (L2.CX P w) 4 "check_right" (sp_check_right (K := K)) := by
  refine T.d_check_right.cal sc_check_right (fun _ _ _ _ _ _ us hl => match us, hl with | [_, _], _ => rfl) (fun vs H Q E h => ?_) (fun f cdv A outer s H vs Q E hr h => ⟨_, (pss_one (ps_if (pt_not (pt_val (pe_c (ok_is_right T) hr (by decide) (by rfl) pass0 (pa_cons (pv 0) (pa_cons (pv 1) pa_nil))))) (pss_one (ps_raise rfl (takes_of rfl rfl rfl rfl) (pmkE0 T.e_NotRight (er_NotRight T) hr (by decide) (by rfl) T.g_NotRight))) pss_nil)), ?_⟩)
  · obtain ⟨ga, ra, g, r, rfl, _⟩ := h
    rfl
  · obtain ⟨ga, ra, g, r, rfl, hG, F, hra, hz, q1, q2⟩ := h
    refine s_when (et_not (et_B (ev_callR (ea_cons (ev_var rfl) (ea_cons (ev_var rfl) ea_nil)) fun H1 e1 Q' q' => ⟨ga, ra, g, r, rfl, GAt.mono _ _ e1 hG, F, e1 _ _ hra, hz, q'⟩))) ?_ ?_
    · intro hb H1 e1
      rw [Bool.not_eq_true'] at hb
      exact raise0 T.e_NotRight T.r_NotRight ((q2 hb).mono e1)
    · intro hb H1 e1
      rw [Bool.not_eq_false'] at hb
      exact q1 hb H1 e1
def sp_right_row_of : Sp := fun vs H Q E => ∃ (ga : Addr) (n : Nat) (g : Lm.Game), vs = [.ref ga, .int (n : Nat)] ∧ GAt K H ga g ∧ Fit g ∧ (n < g.count ∧ Lm.rightPos g (Lm.posAt g n) = true → RetL (IL (LmCalls.posNums (Lm.posAt g n))) H Q) ∧ (¬ (n < g.count ∧ Lm.rightPos g (Lm.posAt g n) = true) → Refuses K E H [-2])
theorem rightRow_posAt {g : Lm.Game} {n : Nat} : rightRow g (LmCalls.posNums (Lm.posAt g n)) = Lm.rightPos g (Lm.posAt g n) := by
  unfold rightRow LmCalls.posNums
  have hl : (Lm.posAt g n).at_.length = g.pieces.length := by rw [posAt_at, List.length_map, List.length_range]
  rw [posIn_snoc, List.length_append, List.length_singleton, hl, decide_eq_true rfl, Bool.true_and]
abbrev s_right_row_of : Stmt := top 46
abbrev n_right_row_of : List Str := ["game", "number", "row"]
theorem sc_right_row_of : FnScope n_right_row_of ["game", "number"] (defScope s_right_row_of) := ⟨rfl, rfl, rfl, by decide +kernel, rfl, by decide +kernel, by decide +kernel⟩
theorem ok_right_row_of (T : Env K mg) : Cal P w K mg base (L2.CX P w) 5 "right_row_of" (sp_right_row_of (K := K)) := by
  refine T.d_right_row_of.cal sc_right_row_of (fun _ _ _ _ _ _ us hl => match us, hl with | [_, _], _ => rfl) (fun vs H Q E h => ?_) (fun f cdv A outer s H vs Q E hr h => ⟨_, (pss_cons (ps_if (pt_cmpR op_ge (pv 1) (pe_fld (pv 0) rfl) (nomark _)) (pss_one (ps_raise rfl (takes_of rfl rfl rfl rfl) (pmkE0 T.e_NotRight (er_NotRight T) hr (by decide) (by rfl) T.g_NotRight))) pss_nil) (pss_cons (ps_set (i := 2) sc_right_row_of.nd rfl (Or.inl rfl) (pe_c (ok_row_of T) hr (by decide) (by rfl) pass0 (pa_cons (pv 0) (pa_cons (pv 1) pa_nil)))) (pss_cons (ps_expr (pe_c (ok_check_right T) hr (by decide) (by rfl) (passes_call (takes_of rfl rfl rfl rfl) (fun _ _ _ _ h => h)) (pa_cons (pv 0) (pa_cons (pv 2) pa_nil)))) (pss_one (ps_ret (pv 2)))))), ?_⟩)
  · obtain ⟨ga, n, g, rfl, _⟩ := h
    rfl
  · obtain ⟨ga, n, g, rfl, hG, F, q1, q2⟩ := h
    have hG' := hG
    obtain ⟨dx, lk, lp, ls, dp, lw, ks, ps, ws, G⟩ := hG'
    refine q_when (b := decide (g.count ≤ n)) (et_is (et_test (ev_op (ev_var rfl) (ev_fld (ev_var rfl) G.obj T.c_Game T.n_Game_total rfl) rv_I0)) ?_) ?_ ?_
    · rw [decide_eq_decide]
      omega
    · intro hb H1 e1
      rw [decide_eq_true_eq] at hb
      exact raise0 T.e_NotRight T.r_NotRight ((q2 (fun z => by omega)).mono e1)
    · intro hb H1 e1
      rw [decide_eq_false_iff_not] at hb
      refine q_asgL (el_callR (ea_cons (ev_var rfl) (ea_cons (ev_var rfl) ea_nil)) fun H2 e2 Q' q' => ⟨ga, n, g, rfl, GAt.mono _ _ (e1.trans e2) hG, F, q'⟩) fun ra H2 hra e2 h2 => ?_
      have e12 := e1.trans e2
      have hl6 : (LmCalls.posNums (Lm.posAt g n)).length ≤ 7 := by
        unfold LmCalls.posNums
        rw [posAt_at, List.length_append, List.length_map, List.length_range, List.length_singleton]
        have := F.np.2
        omega
      refine ⟨_, rfl, _, rfl, ga, ra, g, LmCalls.posNums (Lm.posAt g n), rfl, GAt.mono _ _ e12 hG, F, h2, by omega, fun hR => ?_, fun hR => ?_⟩
      · rw [rightRow_posAt] at hR
        intro H3 e3
        exact s_ret (ev_var rfl) fun H4 e4 => q1 ⟨by omega, hR⟩ ra H4 (fresh_back e1 hra) ((e12.trans e3).trans e4) ((e3.trans e4) _ _ h2)
      · rw [rightRow_posAt] at hR
        exact (q2 (fun z => by rw [z.2] at hR; cases hR)).mono e12
/-! ### right_numbers -/
def sp_right_numbers : Sp := fun vs H Q _ => ∃ (ga : Addr) (g : Lm.Game), vs = [.ref ga] ∧ GAt K H ga g ∧ Fit g ∧ g.count ≤ 2048 ∧ RetL (IL (Lm.numbers g)) H Q
theorem posNums_len {g : Lm.Game} (F : Fit g) (n : Nat) : (LmCalls.posNums (Lm.posAt g n)).length ≤ 7 := by
  unfold LmCalls.posNums
  rw [posAt_at, List.length_append, List.length_map, List.length_range, List.length_singleton]
  have := F.np.2
  omega
theorem ev_callAL2 {sp : Sp} {E : XK} {σ : L2.St} {H : Hp} {t1 t2 : TE} {x v : V} {xs : List V} (h1 : Ev t1 σ H x) (h2 : EvL t2 σ H xs) (hs : ∀ H1 p, Ex H H1 → H1 p = some (.lst xs) → ∀ Q : VK, RetV v H1 Q → sp [x, .ref p] H1 Q E) : Ev (tCall sp [] E (tCons t1 (tCons t2 tNil))) σ H v := fun H1 e Q q =>
  h1 H1 e _ fun H2 e2 => h2 H2 (e.trans e2) _ fun p H3 hp e3 h3 => hs H3 p ((e.trans e2).trans e3) h3 Q fun H4 e4 => q H4 ((e2.trans e3).trans e4)
abbrev s_right_numbers : Stmt := top 47
abbrev n_right_numbers : List Str := ["game", "number"]
theorem sc_right_numbers : FnScope n_right_numbers ["game"] (defScope s_right_numbers) := ⟨rfl, rfl, rfl, by decide +kernel, rfl, by decide +kernel, by decide +kernel⟩
theorem ok_right_numbers (T : Env K mg) : Cal P w K mg base CX0 2 "right_numbers" (sp_right_numbers (K := K)) := by
  refine T.d_right_numbers.cal sc_right_numbers (fun _ _ _ _ _ _ us hl => match us, hl with | [_], _ => rfl) (fun vs H Q E h => ?_) (Body0.by fun f cdv A outer s H vs Q E hr h => ⟨_, (pss_one (ps_ret (pe_lc (own := [("number", 1)]) rfl sc_right_numbers.nd (pi_range1 (by rfl) T.f_range (pa_cons (pe_fld (pv 0) rfl) pa_nil)) (blkOk_by (own := [("number", 1)]) (N := n_right_numbers) (sc := defScope s_right_numbers) (by decide +kernel)) (fun _ _ _ _ _ => pg_name (i := 1) sc_right_numbers.nd rfl (Or.inl rfl)) (fun _ _ _ _ _ => by exact (pts_one (pt_val (pe_c (ok_is_right T) hr (by decide) (by rfl) pass0 (by exact (pa_cons (pv 0) (pa_cons (pe_c (ok_row_of T) hr (by decide) (by rfl) pass0 (by exact (pa_cons (pv 0) (pa_cons (pv 1) pa_nil)))) pa_nil))))))) (fun _ _ _ _ _ => by exact (pv 1))))), ?_⟩)
  · obtain ⟨ga, g, rfl, _⟩ := h
    rfl
  · obtain ⟨ga, g, rfl, hG, F, hN, q⟩ := h
    have hG' := hG
    obtain ⟨dx, lk, lp, ls, dp, lw, ks, ps, ws, G⟩ := hG'
    refine s_retL (el_lcR1 (n := ((g.count : Nat) : Int)) (fun i => Lm.rightPos g (Lm.posAt g i)) (fun i => .int (i : Int)) (ea_cons (ev_fld (ev_var rfl) G.obj T.c_Game T.n_Game_total rfl) ea_nil) ⟨by omega, by omega⟩ (fun x => rfl)
      (fun i H1 e hi => et_is (et_B (ev_callAL2 (xs := IL (LmCalls.posNums (Lm.posAt g i))) (ev_var rfl) (el_callR (ea_cons (ev_var rfl) (ea_cons (ev_var rfl) ea_nil)) fun H2 e2 Q' q' => ⟨ga, i, g, rfl, GAt.mono _ _ (e.trans e2) hG, F, q'⟩) fun H2 p e2 hp Q' q' => ⟨ga, p, g, _, rfl, GAt.mono _ _ (e.trans e2) hG, F, hp, by have := posNums_len F i; omega, q'⟩)) rightRow_posAt) (fun i H1 e hi _ => ev_var rfl)) fun p H1 hp e h1 => q p H1 hp e ?_
    rw [h1, Int.toNat_natCast]
    rfl
end
end Es
end

section
set_option Elab.async false
set_option linter.all false
set_option maxRecDepth 100000
set_option maxHeartbeats 4000000
namespace Es
open PySem PySem.Spec PyProof.Rows L2 Evl
theorem targets_len {g : Lm.Game} (F : Fit g) (p : Lm.Pos) (i : Nat) : (targets g p i).length ≤ 112 := by
  unfold targets
  rw [firsts_eq]
  have h1 := foldl_put1_len ((g.kindOf i).pats.flatMap fun q => takeWay (holdOf g p) p.side q.how (wayOf g.board (p.at_.getD i Lm.OFF) q)) []
  have hk : (g.kindOf i).pats.length ≤ 16 ∧ ∀ q ∈ (g.kindOf i).pats, q.reach ≤ 7 := by
    unfold Lm.Game.kindOf
    rw [List.getD_eq_getElem?_getD]
    cases e : g.kinds[(g.pieces.getD i (0, 0)).1]? with
    | none => exact ⟨Nat.zero_le _, fun q hq => by cases hq⟩
    | some k =>
      have := F.kd k (List.mem_of_getElem? e)
      exact ⟨this.1, fun q hq => (this.2.2.2 q hq).1⟩
  have h2 := flatMap_len (f := fun q : Lm.Pattern => takeWay (holdOf g p) p.side q.how (wayOf g.board (p.at_.getD i Lm.OFF) q)) (g.kindOf i).pats (fun q hq => by
    have a1 := takeWay_len (hold := holdOf g p) (side := p.side) (how := q.how) (wayOf g.board (p.at_.getD i Lm.OFF) q)
    have a2 : (wayOf g.board (p.at_.getD i Lm.OFF) q).length ≤ q.reach := walk_len
    have := hk.2 q hq
    omega)
  simp only [List.length_nil, Nat.zero_add] at h1
  have := hk.1
  omega
theorem flat_range_len {f : Nat → List Nat} : ∀ n, (∀ i, (f i).length ≤ 112) → ((List.range n).flatMap f).length ≤ 112 * n
  | 0, _ => Nat.le_refl _
  | n + 1, h => by
    rw [List.range_succ, List.flatMap_append, List.length_append]
    have := flat_range_len n h
    have := h n
    simp only [List.flatMap_cons, List.flatMap_nil, List.append_nil]
    omega
theorem moves_len {g : Lm.Game} (F : Fit g) {p : Lm.Pos} (hR : Lm.rightPos g p = true) : (Lm.moves g p).length ≤ 700 := by
  rw [moves_eq]
  split
  · exact Nat.zero_le _
  · rw [List.length_append]
    have h1 := flat_range_len (f := pieceMoves g p) p.at_.length (fun i => by
      unfold pieceMoves
      split
      · rw [List.length_map]; exact targets_len F p i
      · exact Nat.zero_le _)
    have : p.at_.length ≤ 6 := by have := F.np.2; have := (right_iff.mp hR).1; omega
    have h2 : (if g.pass = true then [Lm.PASS] else []).length ≤ 1 := by split <;> simp
    omega
end Es
end

section
set_option Elab.async false
set_option linter.all false
set_option maxRecDepth 100000
set_option maxHeartbeats 4000000
namespace Es
open PySem PySem.Spec PyProof.Rows L2 Evl
/-! ### dicts by numbers -/
def GK {β : Type} (f : β → V) (l : List (Nat × β)) : List (Key × V) := l.map fun p => (Sum.inl (p.1 : Int), f p.2)
abbrev PK : List (Nat × Addr) → List (Key × V) := GK V.ref
abbrev FK : List (Nat × Nat) → List (Key × V) := GK fun (n : Nat) => V.int (n : Int)
section
variable {β : Type} {f : β → V} {l : List (Nat × β)} {i : Nat} {b : β}
theorem GK_val : valV (GK f l) (Sum.inl (i : Int)) = (l.lookup i).map f := by
  induction l with
  | nil => rfl
  | cons p l ih =>
    obtain ⟨j, c⟩ := p
    show valV ((Sum.inl (j : Int), f c) :: GK f l) _ = _
    rw [List.lookup_cons]
    by_cases h : i = j
    · subst h
      rw [valV_pos rfl, beq_self_eq_true]
      rfl
    · have hb : (i == j) = false := by simpa using h
      rw [valV_neg (fun z => h (by have := Sum.inl.inj z; omega)), hb]
      exact ih
theorem GK_put (h : l.lookup i = none) : putK (GK f l) (Sum.inl (i : Int)) (f b) = GK f (l ++ [(i, b)]) := by
  rw [putK_new _ (by rw [GK_val, h]; rfl)]
  unfold GK
  rw [List.map_append]
  rfl
theorem GK_drop : dropK (GK f l) (Sum.inl (i : Int)) = GK f (l.filter fun p => p.1 != i) := by
  unfold dropK GK
  rw [List.filter_map]
  congr 1
  apply List.filter_congr
  intro p _
  show decide ((Sum.inl (p.1 : Int) : Key) ≠ Sum.inl (i : Int)) = (p.1 != i)
  rw [Bool.eq_iff_iff, decide_eq_true_eq, bne_iff_ne]
  constructor
  · intro h z; exact h (by rw [z])
  · intro h z; exact h (by have := Sum.inl.inj z; omega)
theorem GK_keys : ((GK f l).map fun kv => kV kv.1) = IL (l.map (·.1)) := by
  unfold GK IL
  rw [List.map_map, List.map_map]
  rfl
theorem GK_len : (GK f l).length = l.length := by unfold GK; rw [List.length_map]
theorem mem_of_lookup : ∀ {l : List (Nat × β)}, l.lookup i = some b → (i, b) ∈ l
  | [], h => by cases h
  | (j, c) :: l, h => by
    rw [List.lookup_cons] at h
    by_cases e : (i == j) = true
    · rw [e] at h
      have h1 : i = j := by simpa using e
      have h2 : c = b := Option.some.inj h
      rw [h1, h2]
      exact List.mem_cons_self ..
    · have e' : (i == j) = false := by simpa using e
      rw [e'] at h
      exact List.mem_cons_of_mem _ (mem_of_lookup h)
theorem lookup_none : ∀ {l : List (Nat × β)}, l.lookup i = none ↔ ∀ b, (i, b) ∉ l
  | [] => by simp
  | (j, c) :: l => by
    rw [List.lookup_cons]
    by_cases e : (i == j) = true
    · rw [e]
      have h1 : i = j := by simpa using e
      constructor
      · intro h; cases h
      · intro h; exact absurd (by rw [h1]; exact List.mem_cons_self ..) (h c)
    · have e' : (i == j) = false := by simpa using e
      have ne : ¬ i = j := by simpa using e
      rw [e']
      show List.lookup i l = none ↔ _
      rw [lookup_none]
      constructor
      · intro h b hb
        rcases List.mem_cons.mp hb with z | z
        · exact ne (congrArg Prod.fst z)
        · exact h b z
      · intro h b hb
        exact h b (List.mem_cons_of_mem _ hb)
theorem lookup_mem : ∀ {l : List (Nat × β)}, (l.map (·.1)).Nodup → (i, b) ∈ l → l.lookup i = some b
  | [], _, h => by cases h
  | (j, c) :: l, nd, h => by
    rw [List.lookup_cons]
    rw [List.map_cons, List.nodup_cons] at nd
    rcases List.mem_cons.mp h with z | z
    · have h1 : i = j := congrArg Prod.fst z
      have h2 : b = c := congrArg Prod.snd z
      rw [h1, h2, beq_self_eq_true]
    · have ne : ¬ i = j := fun e => nd.1 (by rw [← e]; exact List.mem_map.mpr ⟨(i, b), z, rfl⟩)
      have e' : (i == j) = false := by simpa using ne
      rw [e']
      exact lookup_mem nd.2 z
theorem nodup_snoc_keys (nd : (l.map (·.1)).Nodup) (h : l.lookup i = none) : ((l ++ [(i, b)]).map (·.1)).Nodup := by
  rw [List.map_append]
  refine List.nodup_append.mpr ⟨nd, by simp, fun x hx y hy => ?_⟩
  obtain ⟨p, hp, rfl⟩ := List.mem_map.mp hx
  have hy : y = i := by simpa using hy
  rw [hy]
  intro z
  exact lookup_none.mp h p.2 (by rw [← z]; exact hp)
end
theorem nodup_bound : ∀ {n : Nat} {l : List Nat}, l.Nodup → (∀ x ∈ l, x < n) → l.length ≤ n
  | 0, l, _, h => by
    cases l with
    | nil => exact Nat.le_refl _
    | cons a l => exact absurd (h a (List.mem_cons_self ..)) (by omega)
  | n + 1, l, nd, h => by
    by_cases c : n ∈ l
    · have := nodup_bound (n := n) (l := l.erase n) (nd.erase n) (fun x hx => by
        have := (List.Nodup.mem_erase_iff nd).mp hx
        have := h x this.2
        omega)
      rw [List.length_erase_of_mem c] at this
      omega
    · have := nodup_bound (n := n) (l := l) nd (fun x hx => by
        have := h x hx
        have : x ≠ n := fun z => c (by rw [← z]; exact hx)
        omega)
      omega
section
variable {P : Program} {w : World} {K : Fr} {mg : Str → Option Value} {base : Heap}
theorem ev_callAL {sp : Sp} {E : XK} {σ : L2.St} {H : Hp} {t1 t2 : TE} {x v : V} {xs : List V} (h1 : Ev t1 σ H x) (h2 : EvL t2 σ H xs) (hs : ∀ H1 p, Ex H H1 → H1 p = some (.lst xs) → ∀ Q : VK, RetV v H1 Q → sp [x, .ref p] H1 Q E) : Ev (tCall sp [] E (tCons t1 (tCons t2 tNil))) σ H v := fun H1 e Q q =>
  h1 H1 e _ fun H2 e2 => h2 H2 (e.trans e2) _ fun p H3 hp e3 h3 => hs H3 p ((e.trans e2).trans e3) h3 Q fun H4 e4 => q H4 ((e2.trans e3).trans e4)
/-! ### Solving -/
def solF (ga kn ld : Addr) (r : Nat) (sv : Bool) : List (Str × V) := [("game", .ref ga), ("known", .ref kn), ("leads", .ref ld), ("rounds", .int (r : Nat)), ("solved", .bl sv)]
def sp_Solving : Sp := fun vs H Q _ => ∃ (p dx ga : Addr) (H0 : Hp), vs = [.ref p, .ref ga] ∧ H p = some (.ins (CA K "Solving") dx []) ∧ Ex H0 H ∧ H0 p = none ∧ ∀ kn ld H', Ex H0 H' → H' p = some (.ins (CA K "Solving") dx (solF ga kn ld 0 false)) → H' kn = some (.dK []) → H' ld = some (.dK []) → H0 kn = none → H0 ld = none → kn ≠ ld → Q .non H'
abbrev s_Solving___init__ : Stmt := inClass (top 49) 0
abbrev n_Solving___init__ : List Str := ["self", "game"]
theorem sc_Solving___init__ : FnScope n_Solving___init__ ["self", "game"] (defScope s_Solving___init__) := ⟨rfl, rfl, rfl, by decide +kernel, rfl, by decide +kernel, by decide +kernel⟩
theorem mk_Solving (T : Env K mg) : Mak P w K mg base CX0 1 (CA K "Solving") (sp_Solving (K := K)) := by
  refine T.k_Solving.mak sc_Solving___init__ (fun _ _ _ _ _ _ us hl => match us, hl with | [_, _], _ => rfl) (fun vs H Q E h => ?_) (Body0.by fun f cdv A outer s H vs Q E hr h => ⟨_, (pss_cons (ps_fld (pv 0) (pv 1) rfl) (pss_cons (ps_fld (pv 0) pe_dnewK rfl) (pss_cons (ps_fld (pv 0) pe_dnewK rfl) (pss_cons (ps_fld (pv 0) pe_int rfl) (pss_one (ps_fld (pv 0) pe_bl rfl)))))), ?_⟩)
  · obtain ⟨p, dx, ga, H0, rfl, _⟩ := h
    rfl
  · obtain ⟨p, dx, ga, H0, rfl, hp, e0, h0, q⟩ := h
    refine ⟨_, rfl, _, rfl, p, _, dx, _, rfl, hp, T.c_Solving, T.n_Solving_game, (by show 0 < 1000; decide), ?_⟩
    have e1 := ex_updp (o := .ins (CA K "Solving") dx [("game", .ref ga)]) e0 h0
    intro kn hkn
    have nkn : kn ≠ p := fun z => by rw [z, upd_same] at hkn; cases hkn
    refine ⟨_, rfl, p, _, dx, _, rfl, (upd_ne nkn.symm).trans upd_same, T.c_Solving, T.n_Solving_known, (by show 1 < 1000; decide), ?_⟩
    intro ld hld
    have nld : ld ≠ p := fun z => by rw [z, upd_same] at hld; cases hld
    rw [upd_ne nld] at hld
    have nlk : ld ≠ kn := fun z => by rw [z, upd_same] at hld; cases hld
    rw [upd_ne nlk] at hld
    refine ⟨_, rfl, p, _, dx, _, rfl, (upd_ne nld.symm).trans upd_same, T.c_Solving, T.n_Solving_leads, (by show 2 < 1000; decide), ?_⟩
    refine ⟨_, rfl, p, _, dx, _, rfl, upd_same, T.c_Solving, T.n_Solving_rounds, (by show 3 < 1000; decide), ?_⟩
    refine ⟨_, rfl, p, _, dx, _, rfl, upd_same, T.c_Solving, T.n_Solving_solved, (by show 4 < 1000; decide), ?_⟩
    have f1 : H0 kn = none := fresh_back e1 hkn
    have f2 : H0 ld = none := fresh_back e1 hld
    refine q kn ld _ ?_ upd_same ?_ ?_ f1 f2 nlk.symm
    · exact ex_updp (ex_updp (ex_updp (ex_updp (ex_updp (ex_updp e1 f1) h0) f2) h0) h0) h0
    · rw [upd_ne nkn, upd_ne nkn, upd_ne nkn, upd_ne nlk.symm, upd_ne nkn]
      exact upd_same
    · rw [upd_ne nld, upd_ne nld, upd_ne nld]
      exact upd_same
/-! ### find_ends -/
structure EndsF (g : Lm.Game) (n : Nat) (fk : List (Nat × Nat)) : Prop where
  nd : (fk.map (·.1)).Nodup
  iff : ∀ i v, (i, v) ∈ fk ↔ i < n ∧ Lm.rightPos g (Lm.posAt g i) = true ∧ Lm.ended g (Lm.posAt g i) = some v ∧ v ≠ Lm.DRAW
structure LeadsF (H : Hp) (g : Lm.Game) (n : Nat) (LP : List (Nat × Addr)) : Prop where
  nd : (LP.map (·.1)).Nodup
  mem : ∀ i l, (i, l) ∈ LP → i < n ∧ isOpen g i ∧ H l = some (.lst (IL (leadsOf g i)))
  all : ∀ i, i < n → isOpen g i → ∃ l, (i, l) ∈ LP
theorem LeadsF.mono {H H' : Hp} {g : Lm.Game} {n : Nat} {LP : List (Nat × Addr)} (h : LeadsF H g n LP) (k : ∀ l xs, H l = some (.lst xs) → H' l = some (.lst xs)) : LeadsF H' g n LP :=
  ⟨h.nd, fun i l hm => ⟨(h.mem i l hm).1, (h.mem i l hm).2.1, k _ _ (h.mem i l hm).2.2⟩, h.all⟩
theorem lst_upd {H : Hp} {d : Addr} {kvs kvs' : List (Key × V)} (hd : H d = some (.dK kvs)) {l : Addr} {xs : List V} (h : H l = some (.lst xs)) : upd H d (.dK kvs') l = some (.lst xs) := (upd_ne (ne_of h hd (by intro z; cases z))).trans h
theorem EndsF.yes {g : Lm.Game} {n v : Nat} {fk : List (Nat × Nat)} (h : EndsF g n fk) (hr : Lm.rightPos g (Lm.posAt g n) = true) (he : Lm.ended g (Lm.posAt g n) = some v) (hv : v ≠ Lm.DRAW) : fk.lookup n = none ∧ EndsF g (n + 1) (fk ++ [(n, v)]) := by
  have hn : fk.lookup n = none := lookup_none.mpr fun b hb => by have := ((h.iff n b).mp hb).1; omega
  refine ⟨hn, nodup_snoc_keys h.nd hn, fun i u => ?_⟩
  rw [List.mem_append, h.iff, List.mem_singleton]
  constructor
  · rintro (⟨a, b⟩ | z)
    · exact ⟨by omega, b⟩
    · have z1 : i = n := congrArg Prod.fst z
      have z2 : u = v := congrArg Prod.snd z
      rw [z1, z2]
      exact ⟨by omega, hr, he, hv⟩
  · rintro ⟨a, b, c, d⟩
    by_cases e : i = n
    · subst e
      rw [he] at c
      rw [Option.some.inj c]
      exact Or.inr rfl
    · exact Or.inl ⟨by omega, b, c, d⟩
theorem EndsF.no {g : Lm.Game} {n : Nat} {fk : List (Nat × Nat)} (h : EndsF g n fk) (hno : ∀ v, ¬ (Lm.rightPos g (Lm.posAt g n) = true ∧ Lm.ended g (Lm.posAt g n) = some v ∧ v ≠ Lm.DRAW)) : EndsF g (n + 1) fk := by
  refine ⟨h.nd, fun i u => ?_⟩
  rw [h.iff]
  constructor
  · rintro ⟨a, b⟩; exact ⟨by omega, b⟩
  · rintro ⟨a, b⟩
    by_cases e : i = n
    · subst e; exact absurd b (hno u)
    · exact ⟨by omega, b⟩
theorem LeadsF.yes {H : Hp} {g : Lm.Game} {n : Nat} {l : Addr} {LP : List (Nat × Addr)} (h : LeadsF H g n LP) (ho : isOpen g n) (hl : H l = some (.lst (IL (leadsOf g n)))) : LP.lookup n = none ∧ LeadsF H g (n + 1) (LP ++ [(n, l)]) := by
  have hn : LP.lookup n = none := lookup_none.mpr fun b hb => by have := (h.mem n b hb).1; omega
  refine ⟨hn, nodup_snoc_keys h.nd hn, fun i b hb => ?_, fun i hi hio => ?_⟩
  · rcases List.mem_append.mp hb with z | z
    · have := h.mem i b z
      exact ⟨by omega, this.2⟩
    · have z := List.mem_singleton.mp z
      have z1 : i = n := congrArg Prod.fst z
      have z2 : b = l := congrArg Prod.snd z
      rw [z1, z2]
      exact ⟨by omega, ho, hl⟩
  · by_cases e : i = n
    · subst e; exact ⟨l, List.mem_append.mpr (Or.inr (List.mem_singleton.mpr rfl))⟩
    · obtain ⟨b, hb⟩ := h.all i (by omega) hio
      exact ⟨b, List.mem_append.mpr (Or.inl hb)⟩
theorem LeadsF.no {H : Hp} {g : Lm.Game} {n : Nat} {LP : List (Nat × Addr)} (h : LeadsF H g n LP) (ho : ¬ isOpen g n) : LeadsF H g (n + 1) LP := by
  refine ⟨h.nd, fun i b hb => ?_, fun i hi hio => ?_⟩
  · have := h.mem i b hb
    exact ⟨by omega, this.2⟩
  · by_cases e : i = n
    · subst e; exact absurd hio ho
    · exact h.all i (by omega) hio
theorem EndsF.skip {g : Lm.Game} {a b : Nat} {fk : List (Nat × Nat)} (h : EndsF g a fk) (hab : a ≤ b) (hb : b ≤ g.count) (hno : ∀ i, a ≤ i → i < b → ¬ isRight g i) : EndsF g b fk := by
  refine ⟨h.nd, fun i v => ?_⟩
  rw [h.iff]
  constructor
  · rintro ⟨x, y⟩; exact ⟨by omega, y⟩
  · rintro ⟨x, y, z⟩
    refine ⟨?_, y, z⟩
    by_cases c : i < a
    · exact c
    · exact absurd ⟨by omega, y⟩ (hno i (by omega) x)
theorem LeadsF.skip {H : Hp} {g : Lm.Game} {a b : Nat} {LP : List (Nat × Addr)} (h : LeadsF H g a LP) (hab : a ≤ b) (hno : ∀ i, a ≤ i → i < b → ¬ isRight g i) : LeadsF H g b LP := by
  refine ⟨h.nd, fun i l hm => ?_, fun i hi ho => ?_⟩
  · have := h.mem i l hm
    exact ⟨by omega, this.2⟩
  · by_cases c : i < a
    · exact h.all i c ho
    · exact absurd ho.1 (hno i (by omega) hi)
theorem EndsF.len {g : Lm.Game} {n : Nat} {fk : List (Nat × Nat)} (h : EndsF g n fk) : fk.length ≤ n := by
  have := nodup_bound h.nd (n := n) (fun x hx => by
    obtain ⟨p, hp, rfl⟩ := List.mem_map.mp hx
    exact ((h.iff p.1 p.2).mp hp).1)
  rw [List.length_map] at this
  exact this
theorem LeadsF.len {H : Hp} {g : Lm.Game} {n : Nat} {LP : List (Nat × Addr)} (h : LeadsF H g n LP) : LP.length ≤ n := by
  have := nodup_bound h.nd (n := n) (fun x hx => by
    obtain ⟨p, hp, rfl⟩ := List.mem_map.mp hx
    exact (h.mem p.1 p.2 hp).1)
  rw [List.length_map] at this
  exact this
/-- moves: each one may be played -/
theorem move_ok {g : Lm.Game} {p : Lm.Pos} {m : Nat} (hm : m ∈ Lm.moves g p) : m = Lm.PASS ∨ m / 256 < p.at_.length := by
  rcases mem_moves hm with ⟨e, _⟩ | ⟨i, t, e, hi, ht, _⟩
  · exact Or.inl e
  · exact Or.inr (by omega)
/-- number_of(game, row_after(row, move)) -/
theorem ev_lead {T : Env K mg} {σ : L2.St} {H : Hp} {ga ra : Addr} {g : Lm.Game} {p : Lm.Pos} {m : Nat} {t1 t2 t3 : TE} {E1 E2 : XK} (hG : GAt K H ga g) (F : Fit g) (hR : Lm.rightPos g p = true) (hra : H ra = some (.lst (IL (LmCalls.posNums p)))) (hm : m ∈ Lm.moves g p)
    (h1 : Ev t1 σ H (.ref ga)) (h2 : Ev t2 σ H (.ref ra)) (h3 : Ev t3 σ H (.int (m : Nat))) : Ev (tCall (sp_number_of (K := K)) [] E1 (tCons t1 (tCons (tCall sp_row_after [] E2 (tCons t2 (tCons t3 tNil))) tNil))) σ H (.int (Lm.index g (Lm.after g p m) : Nat)) := by
  obtain ⟨hl, hx, hon, hnd⟩ := right_iff.mp hR
  have h6 : p.at_.length ≤ 6 := by have := F.np.2; omega
  have hRa := right_after hR hm
  obtain ⟨hl2, hx2, hon2, hnd2⟩ := right_iff.mp hRa
  refine ev_callAL (xs := IL (rowAfter p.at_ p.side m)) h1 (el_callR (ea_cons h2 (ea_cons h3 ea_nil)) fun H1 e1 Q' q' => ⟨ra, p.at_, p.side, m, rfl, e1 _ _ hra, hx, h6, move_ok hm, q'⟩) fun H1 pp e1 hpp Q' q' => ?_
  rw [rowAfter_is (g := g) hl] at hpp
  exact ⟨ga, pp, g, (Lm.after g p m).at_, (Lm.after g p m).side, rfl, GAt.mono _ _ e1 hG, F, hpp, hl2, hon2, q'⟩
def sp_find_ends : Sp := fun vs H Q _ => ∃ (s ga dx kn ld : Addr) (r : Nat) (sv : Bool) (g : Lm.Game), vs = [.ref s] ∧ H s = some (.ins (CA K "Solving") dx (solF ga kn ld r sv)) ∧ H ld = some (.dK []) ∧ GAt K (rem H ld) ga g ∧ Fit g ∧ g.count ≤ 2048 ∧
  ∀ p H' fk LP, H p = none → Ex (rem H ld) H' → H' ld = some (.dK (PK LP)) → H' p = some (.dK (FK fk)) → EndsF g g.count fk → LeadsF H' g g.count LP → (∀ q ∈ LP, H q.2 = none) → Q (.ref p) H'
abbrev s_find_ends : Stmt := top 52
abbrev n_find_ends : List Str := ["solving", "game", "found", "number", "row", "moves", "outcome", "move"]
theorem sc_find_ends : FnScope n_find_ends ["solving"] (defScope s_find_ends) := ⟨rfl, rfl, rfl, by decide +kernel, rfl, by decide +kernel, by decide +kernel⟩
theorem ok_find_ends (T : Env K mg) : Cal P w K mg base CX0 4 "find_ends" (sp_find_ends (K := K)) := by
  refine T.d_find_ends.cal sc_find_ends (fun _ _ _ _ _ _ us hl => match us, hl with | [_], _ => rfl) (fun vs H Q E h => ?_) (Body0.by fun f cdv A outer s H vs Q E hr h => ⟨_, (pss_cons (ps_set (i := 1) sc_find_ends.nd rfl (Or.inr rfl) (pe_fld (pv 0) rfl)) (pss_cons (ps_set (i := 2) sc_find_ends.nd rfl (Or.inl rfl) pe_dnewK) (pss_cons (ps_for PassesOwn.never rfl (pi_list (pe_c (ok_right_numbers T) hr (by decide) (by rfl) pass0 (pa_cons (pv 1) pa_nil))) (pg_name (i := 3) sc_find_ends.nd rfl (Or.inl rfl)) (pss_cons (ps_set (i := 4) sc_find_ends.nd rfl (Or.inr rfl) (pe_c (ok_row_of T) hr (by decide) (by rfl) pass0 (pa_cons (pv 1) (pa_cons (pv 3) pa_nil)))) (pss_cons (ps_set (i := 5) sc_find_ends.nd rfl (Or.inl rfl) (pe_c (ok_moves_of T) hr (by decide) (by rfl) pass0 (pa_cons (pv 1) (pa_cons (pv 4) pa_nil)))) (pss_cons (ps_set (i := 6) sc_find_ends.nd rfl (Or.inl rfl) (pe_ifExp (pt_cmpR op_eq (pe_callB call_len_seq (by rfl) T.f_len PySem.boot_len (pa_cons (pv 5) pa_nil)) pe_int (nomark _)) (pe_c (ok_end_outcome T) hr (by decide) (by rfl) pass0 (pa_cons (pv 1) (pa_cons (pv 4) pa_nil))) (pe_gv (by rfl) T.v_DRAW))) (pss_one (ps_if (pt_cmpR op_ne (pv 6) (pe_gv (by rfl) T.v_DRAW) (nomark _)) (pss_one (ps_dput (hu_of hr) (pv 2) (pv 3) (pv 6) rfl)) (pss_one (ps_if (pt_cmpR op_gt (pe_callB call_len_seq (by rfl) T.f_len PySem.boot_len (pa_cons (pv 5) pa_nil)) pe_int (nomark _)) (pss_one (ps_dput (hu_of hr) (pe_fld (pv 0) rfl) (pv 3) (pe_lc (own := [("move", 7)]) rfl sc_find_ends.nd (pi_list (pv 5)) (blkOk_by (own := [("move", 7)]) (N := n_find_ends) (sc := defScope s_find_ends) (by decide +kernel)) (fun _ _ _ _ _ => pg_name (i := 7) sc_find_ends.nd rfl (Or.inl rfl)) (fun _ _ _ _ _ => by exact pts_nil) (fun _ _ _ _ _ => by exact (pe_c (ok_number_of T) hr (by decide) (by rfl) pass0 (by exact (pa_cons (pv 1) (pa_cons (pe_c (ok_row_after T) hr (by decide) (by rfl) pass0 (by exact (pa_cons (pv 4) (pa_cons (pv 7) pa_nil)))) pa_nil)))))) rfl)) pss_nil)))))))) (pss_one (ps_ret (pv 2)))))), ?_⟩)
  · obtain ⟨s, ga, dx, kn, ld, r, sv, g, rfl, _⟩ := h
    rfl
  · obtain ⟨s, ga, dx, kn, ld, r, sv, g, rfl, hs, hld, hG, F, hN, q⟩ := h
    have nsl : s ≠ ld := ne_of hs hld (by intro z; cases z)
    have hs0 : rem H ld s = some (.ins (CA K "Solving") dx (solF ga kn ld r sv)) := (rem_ne nsl).trans hs
    refine q_asg (ev_fld (ev_var rfl) hs T.c_Solving T.n_Solving_game rfl) fun H1 e1 => ?_
    have e01 : Ex (rem H ld) H1 := (rem_ex _ _).trans e1
    refine q_dnew fun d hd => ?_
    have hd0 : H d = none := fresh_back e1 hd
    have hdr : rem H ld d = none := fresh_back (rem_ex H ld) hd0
    have ndl : d ≠ ld := fun z => by rw [z, hld] at hd0; cases hd0
    have e02 : Ex (rem H ld) (upd H1 d (.dK [])) := e01.trans (Ex.new hd)
    have hG2 := GAt.mono _ _ e02 hG
    obtain ⟨gx, lk, lp, ls, dp, lw, ks, ps, ws, G⟩ := hG
    refine q_forNLn (K := K) (xs := IL (Lm.numbers g)) (el_callR (ea_cons (ev_var rfl) ea_nil) fun H3 e3 Q' q' => ⟨ga, g, rfl, GAt.mono _ _ e3 hG2, F, hN, q'⟩)
      (fun pl k σ H' => (∃ a b c e f, σ = [some (.ref s), some (.ref ga), some (.ref d), a, b, c, e, f]) ∧ Ex (rem H ld) H' ∧ H' pl = some (.lst (IL (Lm.numbers g))) ∧ ∃ fk LP, H' ld = some (.dK (PK LP)) ∧ H' d = some (.dK (FK fk)) ∧ EndsF g (reachN g k) fk ∧ LeadsF H' g (reachN g k) LP ∧ ∀ q ∈ LP, H q.2 = none)
      (fun pl H3 hpl e3 h3 => ⟨⟨_, _, _, _, _, rfl⟩, e02.trans e3, h3, [], [], e3 _ _ ((upd_ne ndl.symm).trans (e1 _ _ hld)), e3 _ _ upd_same, ⟨by simp, fun i v => ⟨(fun z => by cases z), (fun z => absurd ⟨Nat.lt_of_lt_of_le z.1 (reachN_le g 0), z.2.1⟩ (reachN_zero z.1))⟩⟩, ⟨by simp, (fun i l z => by cases z), (fun i z y => absurd y.1 (reachN_zero z))⟩, fun q hq => by cases hq⟩) (fun pl k σ' H' _ pp => sq_of pp.2.2.1) ?_ ?_
    · rintro pl k y σ' H' hy ⟨⟨a, b, c, e', f', rfl⟩, e3, hpl3, fk, LP, hld3, hd3, hE, hL, hF0⟩
      obtain ⟨n, hnk, rfl⟩ := IL_get hy
      have hRn := mem_numbers.mp (List.mem_of_getElem? hnk)
      rw [reachN_at hnk] at hE hL
      have hn : n < g.count := hRn.1
      have hR := hRn.2
      have upE : ∀ {fk'}, EndsF g (n + 1) fk' → EndsF g (reachN g (k + 1)) fk' := fun h => h.skip (reachN_gt hnk) (reachN_le g (k + 1)) fun i h1 h2 => reachN_next hnk (Nat.lt_of_succ_le h1) h2
      have upL : ∀ {H5 LP'}, LeadsF H5 g (n + 1) LP' → LeadsF H5 g (reachN g (k + 1)) LP' := fun h => h.skip (reachN_gt hnk) fun i h1 h2 => reachN_next hnk (Nat.lt_of_succ_le h1) h2
      have hlenE := hE.len
      have hlenL := hL.len
      have hG' : ∀ {H5 : Hp}, Ex H' H5 → GAt K H5 ga g := fun {H5} e => GAt.mono _ _ (e3.trans e) ⟨gx, lk, lp, ls, dp, lw, ks, ps, ws, G⟩
      have ndl3 : d ≠ ld := ndl
      -- what holds behind a turn that leaves both dicts
      have stay : ∀ {H5 : Hp} {x y z u v : Option V}, Ex H' H5 → EndsF g (n + 1) fk → LeadsF H5 g (n + 1) LP → ((∃ a b c e f, [some (V.ref s), some (V.ref ga), some (V.ref d), x, y, z, u, v] = [some (.ref s), some (.ref ga), some (.ref d), a, b, c, e, f]) ∧ Ex (rem H ld) H5 ∧ H5 pl = some (.lst (IL (Lm.numbers g))) ∧ ∃ fk LP, H5 ld = some (.dK (PK LP)) ∧ H5 d = some (.dK (FK fk)) ∧ EndsF g (reachN g (k + 1)) fk ∧ LeadsF H5 g (reachN g (k + 1)) LP ∧ ∀ q ∈ LP, H q.2 = none) :=
        fun {H5 x y z u v} e a b => ⟨⟨_, _, _, _, _, rfl⟩, e3.trans e, e _ _ hpl3, fk, LP, e _ _ hld3, e _ _ hd3, upE a, upL b, hF0⟩
      refine q_asgL (el_callR (ea_cons (ev_var rfl) (ea_cons (ev_var rfl) ea_nil)) fun H4 e4 Q' q' => ⟨ga, n, g, rfl, hG' e4, F, q'⟩) fun ra H4 hra e4 h4 => ?_
      have e45 := e4
      have h5 := h4
      have hside := (right_iff.mp hR).2.1
      refine q_asgL (el_callR (ea_cons (ev_var rfl) (ea_cons (ev_var rfl) ea_nil)) fun H6 e6 Q' q' => ⟨ga, ra, g, (Lm.posAt g n).at_, (Lm.posAt g n).side, rfl, hG' (e45.trans e6), F, e6 _ _ h5, hR, q'⟩) fun mv H6 hmv e6 h6 => ?_
      have h6 : H6 mv = some (.lst (IL (Lm.moves g (Lm.posAt g n)))) := h6
      have e46 := e45.trans e6
      refine q_asg (v := .int ((if Lm.moves g (Lm.posAt g n) = [] then endOut g (Lm.posAt g n) else 0 : Nat) : Int)) (ev_if (b := decide (Lm.moves g (Lm.posAt g n) = [])) (et_is (et_test (ev_op (ev_lenS (K := K) (ev_var rfl) (sq_of h6)) ev_c (rv_eq rfl))) ?_) ?_ ?_) fun H7 e7 => ?_
      · rw [IL_len, show (V.int 0 : V) = V.int ((0 : Nat) : Int) from rfl, dec_nat, decide_eq_decide, List.length_eq_zero_iff]
      · intro hz
        rw [decide_eq_true_eq] at hz
        rw [if_pos hz]
        exact ev_callR (ea_cons (ev_var rfl) (ea_cons (ev_var rfl) ea_nil)) fun H8 e8 Q' q' => ⟨ga, ra, g, (Lm.posAt g n).at_, (Lm.posAt g n).side, rfl, hG' (e46.trans e8), F, (e6.trans e8) _ _ h5, (right_iff.mp hR).1, hside, q'⟩
      · intro hz
        rw [decide_eq_false_iff_not] at hz
        rw [if_neg hz]
        exact ev_c
      · have e47 := e46.trans e7
        refine s_if (b := decide (¬ (if Lm.moves g (Lm.posAt g n) = [] then endOut g (Lm.posAt g n) else 0) = 0)) (et_is (et_test (ev_op (ev_var rfl) ev_c (rv_ne rfl))) ?_) ?_ ?_
        · rw [show (V.int 0 : V) = V.int ((0 : Nat) : Int) from rfl, dec_nat, decide_not]
        · intro hz H8 e8
          rw [decide_eq_true_eq] at hz
          have hmz : Lm.moves g (Lm.posAt g n) = [] := by
            apply Classical.byContradiction
            intro y
            rw [if_neg y] at hz
            exact hz rfl
          have hend := ended_some hside hmz
          rw [if_pos hmz] at hz
          obtain ⟨hlk, hE'⟩ := hE.yes hR hend hz
          have e48 := e47.trans e8
          refine s_dput (d := d) (k := Sum.inl (n : Int)) (e48 _ _ hd3) (ev_var rfl) (ev_var rfl) (ev_var rfl) (by rw [GK_len]; omega) fun H9 e9 => ?_
          have e49 := e48.trans e9
          refine ⟨⟨_, _, _, _, _, rfl⟩, Ex.mut (e3.trans e49) hdr, lst_upd (e49 _ _ hd3) (e49 _ _ hpl3), fk ++ [(n, endOut g (Lm.posAt g n))], LP, (upd_ne ndl.symm).trans (e49 _ _ hld3), ?_, upE hE', upL ((hL.no (fun y => by have := y.2; rw [hend] at this; cases this)).mono fun l xs hl => lst_upd (e49 _ _ hd3) (e49 _ _ hl)), hF0⟩
          rw [upd_same, if_pos hmz, GK_put hlk]
        · intro hz H8 e8
          have e48 := e47.trans e8
          have h68 := (e7.trans e8) _ _ h6
          have hz : (if Lm.moves g (Lm.posAt g n) = [] then endOut g (Lm.posAt g n) else 0) = 0 := by
            rw [decide_eq_false_iff_not, Classical.not_not] at hz
            exact hz
          refine s_when (b := decide (0 < (Lm.moves g (Lm.posAt g n)).length)) (et_is (et_test (ev_op (ev_lenS (K := K) (ev_var rfl) (sq_of h68)) ev_c rv_I0)) ?_) ?_ ?_
          · rw [IL_len, decide_eq_decide]
            omega
          · intro hpos H9 e9
            rw [decide_eq_true_eq] at hpos
            have hne : Lm.moves g (Lm.posAt g n) ≠ [] := fun z => by rw [z] at hpos; simp at hpos
            have hopen : isOpen g n := ⟨⟨hn, hR⟩, (ended_none_iff hside).mpr hne⟩
            have e49 := e48.trans e9
            have hEl : EvL (tLc (iList K (tVar 5)) (gName 7) tYes (tCall (sp_number_of (K := K)) [] E0 (tCons (tVar 1) (tCons (tCall sp_row_after [] E0 (tCons (tVar 4) (tCons (tVar 7) tNil))) tNil))) [7]) [some (.ref s), some (.ref ga), some (.ref d), some (.int (n : Nat)), some (.ref ra), some (.ref mv), some (.int ((if Lm.moves g (Lm.posAt g n) = [] then endOut g (Lm.posAt g n) else 0 : Nat) : Int)), f'] H9 (IL (leadsOf g n)) := by
              have := el_lcL (K := K) (σ := [some (.ref s), some (.ref ga), some (.ref d), some (.int (n : Nat)), some (.ref ra), some (.ref mv), some (.int ((if Lm.moves g (Lm.posAt g n) = [] then endOut g (Lm.posAt g n) else 0 : Nat) : Int)), f']) (H := H9) (a := mv) (xs := IL (Lm.moves g (Lm.posAt g n))) (j := 7) (vs := [7]) (t := tYes) (tl := tVar 5) (te := tCall (sp_number_of (K := K)) [] E0 (tCons (tVar 1) (tCons (tCall sp_row_after [] E0 (tCons (tVar 4) (tCons (tVar 7) tNil))) tNil))) (fun _ => true) (fun j => (IL (leadsOf g n)).getD j .non) (ev_var rfl) (sq_of (e9 _ _ h68)) (by
                  rw [IL_len]
                  have := moves_len F hR
                  omega) (fun x => rfl) (fun j y H10 _ _ => et_yes) (fun j y H10 e10 hy _ => by
                  obtain ⟨m, hm, rfl⟩ := IL_get hy
                  have hv : (IL (leadsOf g n)).getD j .non = .int (Lm.index g (Lm.after g (Lm.posAt g n) m) : Nat) := by
                    refine getD_of ?_
                    unfold leadsOf
                    rw [IL_at, List.getElem?_map, hm]
                    rfl
                  rw [hv]
                  exact ev_lead (T := T) (hG' (e49.trans e10)) F hR ((((e6.trans e7).trans e8).trans e9).trans e10 _ _ h5) (List.mem_of_getElem? hm) (ev_var rfl) (ev_var rfl) (ev_var rfl))
              rw [given_all, show (IL (Lm.moves g (Lm.posAt g n))).length = (IL (leadsOf g n)).length by rw [IL_len, IL_len]; unfold leadsOf; rw [List.length_map], range_getD] at this
              exact this
            have e39 := e3.trans e49
            refine s_dputL (d := ld) (k := Sum.inl (n : Int)) (e49 _ _ hld3) hEl (ev_fld (ev_var rfl) (e39 _ _ hs0) T.c_Solving T.n_Solving_leads rfl) (ev_var rfl) (by rw [GK_len]; omega) fun l H10 hl e10 h10 => ?_
            have e410 := e49.trans e10
            obtain ⟨hlk, hL'⟩ := (hL.mono fun l xs h => e410 _ _ h).yes (l := l) hopen h10
            refine ⟨⟨_, _, _, _, _, rfl⟩, Ex.mut (e3.trans e410) rem_same, lst_upd (e410 _ _ hld3) (e410 _ _ hpl3), fk, LP ++ [(n, l)], ?_, (upd_ne ndl).trans (e410 _ _ hd3), upE (hE.no (fun v y => by have := y.2.1; rw [hopen.2] at this; cases this)), upL (hL'.mono fun l xs h => lst_upd (e410 _ _ hld3) h), fun q hq => ?_⟩
            · rw [upd_same, GK_put hlk]
            · rcases List.mem_append.mp hq with z | z
              · exact hF0 q z
              · rw [List.mem_singleton] at z
                subst z
                have hl0 : rem H ld l = none := fresh_back (e3.trans e49) hl
                have nl : l ≠ ld := fun z => by rw [z, e49 _ _ hld3] at hl; cases hl
                rw [rem_ne nl] at hl0
                exact hl0
          · intro hpos H9 e9
            rw [decide_eq_false_iff_not] at hpos
            have hmz : Lm.moves g (Lm.posAt g n) = [] := List.length_eq_zero_iff.mp (by omega)
            rw [if_pos hmz] at hz
            have hend := ended_some hside hmz
            have e49 := e48.trans e9
            exact stay e49 (hE.no (fun v y => by
              have := y.2.1
              rw [hend] at this
              exact y.2.2 ((Option.some.inj this).symm.trans hz))) ((hL.no (fun y => by have := y.2; rw [hend] at this; cases this)).mono fun l xs h => e49 _ _ h)
    · rintro pl σ' H' ⟨⟨a, b, c, e', f', rfl⟩, e3, hpl3, fk, LP, hld3, hd3, hE, hL, hF0⟩
      rw [IL_len, reachN_end] at hE hL
      exact s_ret (ev_var rfl) fun H4 e4 => q d H4 fk LP hd0 (e3.trans e4) (e4 _ _ hld3) (e4 _ _ hd3) hE (hL.mono fun l xs h => e4 _ _ h) hF0
end
end Es
end

section
set_option Elab.async false
set_option linter.all false
set_option maxRecDepth 100000
set_option maxHeartbeats 4000000
namespace Es
open PySem PySem.Spec PyProof.Rows L2 Evl
/-! ### what is known lies in a dict -/
structure Knows (H : Hp) (t : Nat → Option (Nat × Nat)) (KP : List (Nat × Addr)) : Prop where
  nd : (KP.map (·.1)).Nodup
  mem : ∀ i a, (i, a) ∈ KP → ∃ v n, t i = some (v, n) ∧ H a = some (.tup [.int (v : Nat), .int (n : Nat)])
  all : ∀ i x, t i = some x → ∃ a, (i, a) ∈ KP
theorem Knows.some_ {H : Hp} {t : Nat → Option (Nat × Nat)} {KP : List (Nat × Addr)} (h : Knows H t KP) {i v n : Nat} (e : t i = some (v, n)) : ∃ a, valV (PK KP) (Sum.inl (i : Int)) = some (.ref a) ∧ H a = some (.tup [.int (v : Nat), .int (n : Nat)]) := by
  obtain ⟨a, ha⟩ := h.all i _ e
  obtain ⟨v', n', e', h'⟩ := h.mem i a ha
  rw [e] at e'
  cases e'
  exact ⟨a, by rw [GK_val, lookup_mem h.nd ha]; rfl, h'⟩
theorem Knows.none_ {H : Hp} {t : Nat → Option (Nat × Nat)} {KP : List (Nat × Addr)} (h : Knows H t KP) {i : Nat} (e : t i = none) : KP.lookup i = none ∧ valV (PK KP) (Sum.inl (i : Int)) = none := by
  have : KP.lookup i = none := lookup_none.mpr fun a ha => by
    obtain ⟨v, n, e', _⟩ := h.mem i a ha
    rw [e] at e'
    cases e'
  exact ⟨this, by rw [GK_val, this]; rfl⟩
theorem Knows.mono {H H' : Hp} {t : Nat → Option (Nat × Nat)} {KP : List (Nat × Addr)} (h : Knows H t KP) (k : ∀ a xs, H a = some (.tup xs) → H' a = some (.tup xs)) : Knows H' t KP :=
  ⟨h.nd, fun i a ha => by
    obtain ⟨v, n, e, q⟩ := h.mem i a ha
    exact ⟨v, n, e, k _ _ q⟩, h.all⟩
section
variable {P : Program} {w : World} {K : Fr} {mg : Str → Option Value} {base : Heap}
theorem s_dputU {σ : L2.St} {H : Hp} {tv td ty : TE} {D : Ends} {d : Addr} {kvs : List (Key × V)} {k : Key} {xs : List V} (hd : H d = some (.dK kvs)) (hv : EvU tv σ H xs) (ha : Ev td σ H (.ref d)) (hk : Ev ty σ H (kV k)) (hz : kvs.length < 100000) (q : ∀ p H1, H p = none → Ex H H1 → H1 p = some (.tup xs) → D.nx σ (upd H1 d (.dK (putK kvs k (.ref p))))) : sDPut td ty tv D σ H :=
  hv H (Ex.refl H) _ fun p H1 hp e1 h1 => ha H1 e1 _ fun H2 e2 => hk H2 (e1.trans e2) _ fun H3 e3 => ⟨d, _, rfl, DPut.k (((e1.trans e2).trans e3) _ _ hd) (sz_lt hz), q p H3 hp ((e1.trans e2).trans e3) ((e2.trans e3) _ _ h1)⟩
/-! ### outcome_by_leads -/
def sp_outcome_by_leads : Sp := fun vs H Q _ => ∃ (kn l : Addr) (t : Nat → Option (Nat × Nat)) (KP : List (Nat × Addr)) (ls : List Nat), vs = [.ref kn, .ref l] ∧ H kn = some (.dK (PK KP)) ∧ Knows H t KP ∧ H l = some (.lst (IL ls)) ∧ RetV (.int (byLeads t ls : Nat)) H Q
abbrev s_outcome_by_leads : Stmt := top 54
abbrev n_outcome_by_leads : List Str := ["known", "leads", "outcome", "lead"]
theorem sc_outcome_by_leads : FnScope n_outcome_by_leads ["known", "leads"] (defScope s_outcome_by_leads) := ⟨rfl, rfl, rfl, by decide +kernel, rfl, by decide +kernel, by decide +kernel⟩
theorem ok_outcome_by_leads (T : Env K mg) : Cal P w K mg base CX0 1 "outcome_by_leads" sp_outcome_by_leads := by
  refine T.d_outcome_by_leads.cal sc_outcome_by_leads (fun _ _ _ _ _ _ us hl => match us, hl with | [_, _], _ => rfl) (fun vs H Q E h => ?_) (Body0.by fun f cdv A outer s H vs Q E hr h => ⟨_, (pss_cons (ps_set (i := 2) sc_outcome_by_leads.nd rfl (Or.inl rfl) (pe_gv (by rfl) T.v_LOSS)) (pss_cons (ps_for PassesOwn.never rfl (pi_list (pv 1)) (pg_name (i := 3) sc_outcome_by_leads.nd rfl (Or.inl rfl)) (pss_one (ps_if (pt_cmp (pc_dnotin (hu_of hr) (pv 3) (pv 0))) (pss_one (ps_set (i := 2) sc_outcome_by_leads.nd rfl (Or.inl rfl) (pe_gv (by rfl) T.v_DRAW))) (pss_one (ps_if (pt_cmpR op_eq (pe_ix ix_tup (pe_dget (hu_of hr) (pv 0) (pv 3) (fun _ _ => rfl)) pe_int (fun _ _ => rfl)) (pe_gv (by rfl) T.v_LOSS) (nomark _)) (pss_one (ps_ret (pe_gv (by rfl) T.v_WIN))) pss_nil))))) (pss_one (ps_ret (pv 2))))), ?_⟩)
  · obtain ⟨kn, l, t, KP, ls, rfl, _⟩ := h
    rfl
  · obtain ⟨kn, l, t, KP, ls, rfl, hkn, hk, hl, q⟩ := h
    refine q_asg ev_c fun H1 e1 => ?_
    refine q_forLn (K := K) (a := l) (xs := IL ls) (ev_var rfl) (sq_of (e1 _ _ hl)) (fun n σ H' => (∃ u, σ = [some (.ref kn), some (.ref l), some (.int ((if ((ls.take n).all fun j => (t j).isSome) = true then 2 else 0 : Nat) : Int)), u]) ∧ Ex H H' ∧ ∀ j ∈ ls.take n, ¬ ((t j).map (·.1) == some Lm.LOSS) = true)
      (fun H2 e2 => ⟨⟨none, rfl⟩, e1.trans e2, fun j hj => by cases hj⟩) (fun i σ' H' _ p => sq_of (p.2.1 _ _ hl)) ?_ ?_
    · rintro n y σ' H' hy ⟨⟨u, rfl⟩, e2, hno⟩
      obtain ⟨j, hj, rfl⟩ := IL_get hy
      have htk := take_next hj
      cases e : t j with
      | none =>
        have hv := (hk.none_ e).2
        refine s_if (b := true) (et_is (et_B (ev_dnotin (d := kn) (k := Sum.inl (j : Int)) (ev_var rfl) (ev_var rfl) (e2 _ _ hkn))) (by rw [hv]; rfl)) (fun _ H3 e3 => ?_) (fun z => Bool.noConfusion z)
        refine s_asg ev_c fun H4 e4 => ⟨⟨some (.int (j : Nat)), ?_⟩, (e2.trans e3).trans e4, fun i hi => ?_⟩
        · rw [htk, List.all_append]
          simp [e]
        · rw [htk] at hi
          rcases List.mem_append.mp hi with z | z
          · exact hno i z
          · rw [List.mem_singleton.mp z, e]
            intro y
            cases y
      | some x =>
        obtain ⟨v, m⟩ := x
        obtain ⟨a, hv, ha⟩ := hk.some_ e
        refine s_if (b := false) (et_is (et_B (ev_dnotin (d := kn) (k := Sum.inl (j : Int)) (ev_var rfl) (ev_var rfl) (e2 _ _ hkn))) (by rw [hv]; rfl)) (fun z => Bool.noConfusion z) (fun _ H3 e3 => ?_)
        have e23 := e2.trans e3
        refine s_when (et_test (ev_op (ev_op (ev_dget (d := kn) (k := Sum.inl (j : Int)) (ev_var rfl) (ev_var rfl) (e23 _ _ hkn) hv) ev_c (rv_ixT (K := K) (v := .int (v : Nat)) (st_of (e23 _ _ ha)) rfl)) ev_c (rv_eq rfl))) ?_ ?_
        · intro hb H4 e4
          rw [show decide (V.int (v : Int) = V.int 2) = decide (v = 2) from dec_nat (b := 2), decide_eq_true_eq] at hb
          refine s_ret ev_c fun H5 e5 => ?_
          have hw : byLeads t ls = 1 := by
            unfold byLeads
            rw [if_pos (List.any_eq_true.mpr ⟨j, List.mem_of_getElem? hj, by rw [e, hb]; rfl⟩)]
            rfl
          rw [hw] at q
          exact q H5 ((e23.trans e4).trans e5)
        · intro hb H4 e4
          rw [show decide (V.int (v : Int) = V.int 2) = decide (v = 2) from dec_nat (b := 2), decide_eq_false_iff_not] at hb
          refine ⟨⟨some (.int (j : Nat)), ?_⟩, e23.trans e4, fun i hi => ?_⟩
          · rw [htk, List.all_append]
            simp [e]
          · rw [htk] at hi
            rcases List.mem_append.mp hi with z | z
            · exact hno i z
            · rw [List.mem_singleton.mp z, e]
              intro y
              exact hb (show v = Lm.LOSS by simpa using y)
    · rintro σ' H' ⟨⟨u, rfl⟩, e2, hno⟩
      rw [IL_len, List.take_length] at *
      refine s_ret (ev_var rfl) fun H3 e3 => ?_
      have hany : ¬ (ls.any fun j => (t j).map (·.1) == some Lm.LOSS) = true := fun z => by
        obtain ⟨j, hj, e⟩ := List.any_eq_true.mp z
        exact hno j hj e
      have := q H3 (e2.trans e3)
      unfold byLeads at this
      rw [if_neg hany] at this
      exact this
/-! ### find_by_leads -/
def sp_find_by_leads : Sp := fun vs H Q _ => ∃ (s ga dx kn ld : Addr) (r : Nat) (sv : Bool) (g : Lm.Game) (t : Nat → Option (Nat × Nat)) (KP LP0 : List (Nat × Addr)), vs = [.ref s] ∧ H s = some (.ins (CA K "Solving") dx (solF ga kn ld r sv)) ∧ H kn = some (.dK (PK KP)) ∧ kn ≠ ld ∧ Knows H t KP ∧ H ld = some (.dK (PK LP0)) ∧ (LP0.map (·.1)).Nodup ∧ LP0.length ≤ 2048 ∧
  (∀ i l, (i, l) ∈ LP0 → H l = some (.lst (IL (leadsOf g i)))) ∧
  ∀ p H' fk LP, H p = none → Ex (rem H ld) H' → H' ld = some (.dK (PK LP)) → H' p = some (.dK (FK fk)) → (fk.map (·.1)).Nodup → (∀ i v, (i, v) ∈ fk ↔ (∃ l, (i, l) ∈ LP0) ∧ byLeads t (leadsOf g i) = v ∧ v ≠ Lm.DRAW) → (LP.map (·.1)).Nodup → (∀ p, p ∈ LP ↔ p ∈ LP0 ∧ byLeads t (leadsOf g p.1) = Lm.DRAW) → Q (.ref p) H'
abbrev s_find_by_leads : Stmt := top 53
abbrev n_find_by_leads : List Str := ["solving", "found", "number", "outcome"]
theorem sc_find_by_leads : FnScope n_find_by_leads ["solving"] (defScope s_find_by_leads) := ⟨rfl, rfl, rfl, by decide +kernel, rfl, by decide +kernel, by decide +kernel⟩
theorem ok_find_by_leads (T : Env K mg) : Cal P w K mg base CX0 2 "find_by_leads" (sp_find_by_leads (K := K)) := by
  refine T.d_find_by_leads.cal sc_find_by_leads (fun _ _ _ _ _ _ us hl => match us, hl with | [_], _ => rfl) (fun vs H Q E h => ?_) (Body0.by fun f cdv A outer s H vs Q E hr h => ⟨_, (pss_cons (ps_set (i := 1) sc_find_by_leads.nd rfl (Or.inl rfl) pe_dnewK) (pss_cons (ps_for PassesOwn.never rfl (pi_list (pe_callTy (call_list_dK rfl) (by rfl) T.f_list (by decide +kernel) (pa_cons (pe_fld (pv 0) rfl) pa_nil))) (pg_name (i := 2) sc_find_by_leads.nd rfl (Or.inl rfl)) (pss_cons (ps_set (i := 3) sc_find_by_leads.nd rfl (Or.inl rfl) (pe_c (ok_outcome_by_leads T) hr (by decide) (by rfl) pass0 (pa_cons (pe_fld (pv 0) rfl) (pa_cons (pe_dget (hu_of hr) (pe_fld (pv 0) rfl) (pv 2) (fun _ _ => rfl)) pa_nil)))) (pss_one (ps_if (pt_cmpR op_ne (pv 3) (pe_gv (by rfl) T.v_DRAW) (nomark _)) (pss_cons (ps_dput (hu_of hr) (pv 1) (pv 2) (pv 3) rfl) (pss_one (ps_expr (pe_dpop1 (pe_fld (pv 0) rfl) (pv 2) ⟨rfl, rfl, rfl, rfl⟩)))) pss_nil)))) (pss_one (ps_ret (pv 1))))), ?_⟩)
  · obtain ⟨s, ga, dx, kn, ld, r, sv, g, t, KP, LP0, rfl, _⟩ := h
    rfl
  · obtain ⟨s, ga, dx, kn, ld, r, sv, g, t, KP, LP0, rfl, hs, hkn, nkl, hk, hld, nd, hlen, hls, q⟩ := h
    have nsl : s ≠ ld := ne_of hs hld (by intro z; cases z)
    have hs0 : rem H ld s = some (.ins (CA K "Solving") dx (solF ga kn ld r sv)) := (rem_ne nsl).trans hs
    have hkn0 : rem H ld kn = some (.dK (PK KP)) := (rem_ne nkl).trans hkn
    have hk0 : Knows (rem H ld) t KP := hk.mono fun a xs h => (rem_ne (ne_of h hld (by intro z; cases z))).trans h
    have hls0 : ∀ i l, (i, l) ∈ LP0 → rem H ld l = some (.lst (IL (leadsOf g i))) := fun i l h => (rem_ne (ne_of (hls i l h) hld (by intro z; cases z))).trans (hls i l h)
    refine q_dnew fun d hd => ?_
    have hdr : rem H ld d = none := fresh_back (rem_ex H ld) hd
    have ndl : d ≠ ld := fun z => by rw [z, hld] at hd; cases hd
    have e0 : Ex (rem H ld) (upd H d (.dK [])) := (rem_ex _ _).trans (Ex.new hd)
    have hld1 : upd H d (.dK []) ld = some (.dK (PK LP0)) := (upd_ne ndl.symm).trans hld
    have hList := ev_listD (σ := [some (.ref s), some (.ref d), none, none]) (d := ld) (ev_fld (K := K) (ta := tVar 0) (ev_var rfl) (e0 _ _ hs0) T.c_Solving T.n_Solving_leads rfl) hld1
    rw [GK_keys] at hList
    refine q_forNLn (K := K) hList (fun pl n σ H' => (∃ u v, σ = [some (.ref s), some (.ref d), u, v]) ∧ Ex (rem H ld) H' ∧ pl ≠ d ∧ pl ≠ ld ∧ H' pl = some (.lst (IL (LP0.map (·.1)))) ∧ ∃ fk LP, H' ld = some (.dK (PK LP)) ∧ H' d = some (.dK (FK fk)) ∧ (fk.map (·.1)).Nodup ∧ (∀ i v, (i, v) ∈ fk ↔ i ∈ (LP0.map (·.1)).take n ∧ byLeads t (leadsOf g i) = v ∧ v ≠ Lm.DRAW) ∧ (LP.map (·.1)).Nodup ∧ (∀ p, p ∈ LP ↔ p ∈ LP0 ∧ ¬ (p.1 ∈ (LP0.map (·.1)).take n ∧ byLeads t (leadsOf g p.1) ≠ Lm.DRAW)))
      (fun pl H2 hpl e2 h2 => ⟨⟨none, none, rfl⟩, e0.trans e2, (fun z => by rw [z, upd_same] at hpl; cases hpl), (fun z => by rw [z, hld1] at hpl; cases hpl), h2, [], LP0, e2 _ _ hld1, e2 _ _ upd_same, by simp, (fun i v => ⟨(fun z => by cases z), (fun z => by cases z.1)⟩), nd, (fun p => ⟨fun h => ⟨h, (fun z => by cases z.1)⟩, fun h => h.1⟩)⟩) (fun pl i σ' H' _ pp => sq_of pp.2.2.2.2.1) ?_ ?_
    · rintro pl n y σ' H' hy ⟨⟨u, v, rfl⟩, e2, npd, npl, hpl, fk, LP, hld2, hd2, ndf, hfk, ndL, hLP⟩
      obtain ⟨i, hi, rfl⟩ := IL_get hy
      have hi0 := hi
      rw [List.getElem?_map] at hi0
      obtain ⟨⟨i', l⟩, hil, e'⟩ := Option.map_eq_some_iff.mp hi0
      have e' : i' = i := e'
      subst e'
      have hmem0 : (i', l) ∈ LP0 := List.mem_of_getElem? hil
      have hnew : i' ∉ (LP0.map (·.1)).take n := fun z => by
        obtain ⟨j, hj⟩ := List.mem_iff_getElem?.mp z
        rw [List.getElem?_take] at hj
        by_cases c : j < n
        · rw [if_pos c] at hj
          have := nd_ix nd hj hi
          omega
        · rw [if_neg c] at hj
          cases hj
      have hmemL : (i', l) ∈ LP := (hLP _).mpr ⟨hmem0, fun z => hnew z.1⟩
      have hval : valV (PK LP) (Sum.inl (i' : Int)) = some (.ref l) := by rw [GK_val, lookup_mem ndL hmemL]; rfl
      have hn : n < 2048 := by
        have := (List.getElem?_eq_some_iff.mp hil).1
        omega
      have htk := take_next hi
      have hflen : fk.length ≤ n := by
        have h1 : ∀ x ∈ fk.map (·.1), x ∈ (LP0.map (·.1)).take n := fun x hx => by
          obtain ⟨p, hp, rfl⟩ := List.mem_map.mp hx
          exact ((hfk p.1 p.2).mp hp).1
        have h2 := List.Nodup.length_le_of_subset ndf (show fk.map (·.1) ⊆ (LP0.map (·.1)).take n from fun x hx => h1 x hx)
        rw [List.length_map, List.length_take] at h2
        omega
      refine q_asg (ev_callR (v := .int (byLeads t (leadsOf g i') : Nat)) (ea_cons (ev_fld (ev_var rfl) (e2 _ _ hs0) T.c_Solving T.n_Solving_known rfl) (ea_cons (ev_dget (d := ld) (k := Sum.inl (i' : Int)) (ev_fld (ev_var rfl) (e2 _ _ hs0) T.c_Solving T.n_Solving_leads rfl) (ev_var rfl) hld2 hval) ea_nil)) fun H3 e3 Q' q' => ⟨kn, l, t, KP, leadsOf g i', rfl, (e2.trans e3) _ _ hkn0, hk0.mono fun a xs h => (e2.trans e3) _ _ h, (e2.trans e3) _ _ (hls0 i' l hmem0), q'⟩) fun H3 e3 => ?_
      have e23 := e2.trans e3
      refine s_when (b := decide (¬ byLeads t (leadsOf g i') = 0)) (et_is (et_test (ev_op (ev_var rfl) ev_c (rv_ne rfl))) (by rw [show (V.int 0 : V) = V.int ((0 : Nat) : Int) from rfl, dec_nat, decide_not])) ?_ ?_
      · intro hb H4 e4
        rw [decide_eq_true_eq] at hb
        have hlk : fk.lookup i' = none := lookup_none.mpr fun b hb => hnew ((hfk i' b).mp hb).1
        refine q_dput (d := d) (k := Sum.inl (i' : Int)) ((e3.trans e4) _ _ hd2) (ev_var rfl) (ev_var rfl) (ev_var rfl) (by rw [GK_len]; omega) fun H5 e5 => ?_
        have e25 := (e23.trans e4).trans e5
        rw [GK_put (f := fun (n : Nat) => V.int (n : Int)) (b := byLeads t (leadsOf g i')) hlk]
        have e26 : Ex (rem H ld) (upd H5 d (.dK (FK (fk ++ [(i', byLeads t (leadsOf g i'))])))) := Ex.mut e25 hdr
        have hld6 : upd H5 d (.dK (FK (fk ++ [(i', byLeads t (leadsOf g i'))]))) ld = some (.dK (PK LP)) := (upd_ne ndl.symm).trans (((e3.trans e4).trans e5) _ _ hld2)
        refine ⟨_, rfl, s, _, dx, _, _, rfl, e26 _ _ hs0, T.c_Solving, T.n_Solving_leads, rfl, ld, rfl, Or.inl ⟨PK LP, Or.inl hld6⟩, _, rfl, PK LP, Sum.inl (i' : Int), .ref l, hld6, rfl, hval, ?_⟩
        rw [GK_drop]
        refine ⟨⟨_, _, rfl⟩, Ex.mut e26 rem_same, npd, npl, ?_, _, _, upd_same, (upd_ne ndl).trans upd_same, nodup_snoc_keys ndf hlk, fun j v => ?_, ?_, fun p => ?_⟩
        · rw [upd_ne npl, upd_ne npd]
          exact ((e3.trans e4).trans e5) _ _ hpl
        · rw [List.mem_append, hfk, htk, List.mem_append, List.mem_singleton, List.mem_singleton]
          constructor
          · rintro (⟨a, b⟩ | z)
            · exact ⟨Or.inl a, b⟩
            · have z1 : j = i' := congrArg Prod.fst z
              have z2 : v = _ := congrArg Prod.snd z
              rw [z1, z2]
              exact ⟨Or.inr rfl, rfl, hb⟩
          · rintro ⟨a | a, b⟩
            · exact Or.inl ⟨a, b⟩
            · subst a
              rw [← b.1]
              exact Or.inr rfl
        · exact List.Pairwise.sublist (List.Sublist.map _ List.filter_sublist) ndL
        · rw [List.mem_filter, hLP, htk]
          simp only [List.mem_append, List.mem_singleton, bne_iff_ne, ne_eq]
          constructor
          · rintro ⟨⟨a, b⟩, c⟩
            exact ⟨a, fun z => z.1.elim (fun y => b ⟨y, z.2⟩) (fun y => c y)⟩
          · rintro ⟨a, b⟩
            refine ⟨⟨a, fun z => b ⟨Or.inl z.1, z.2⟩⟩, fun z => b ⟨Or.inr z, ?_⟩⟩
            rw [z]
            exact hb
      · intro hb H4 e4
        rw [decide_eq_false_iff_not, Classical.not_not] at hb
        refine ⟨⟨_, _, rfl⟩, e23.trans e4, npd, npl, (e3.trans e4) _ _ hpl, fk, LP, (e3.trans e4) _ _ hld2, (e3.trans e4) _ _ hd2, ndf, fun j v => ?_, ndL, fun p => ?_⟩
        · rw [hfk, htk, List.mem_append, List.mem_singleton]
          constructor
          · rintro ⟨a, b⟩; exact ⟨Or.inl a, b⟩
          · rintro ⟨a | a, b⟩
            · exact ⟨a, b⟩
            · subst a
              exact absurd (b.1.symm.trans hb) b.2
        · rw [hLP, htk]
          simp only [List.mem_append, List.mem_singleton]
          constructor
          · rintro ⟨a, b⟩
            refine ⟨a, fun z => z.1.elim (fun y => b ⟨y, z.2⟩) (fun y => ?_)⟩
            rw [y] at z
            exact z.2 hb
          · rintro ⟨a, b⟩
            exact ⟨a, fun z => b ⟨Or.inl z.1, z.2⟩⟩
    · rintro pl σ' H' ⟨⟨u, v, rfl⟩, e2, npd, npl, hpl, fk, LP, hld2, hd2, ndf, hfk, ndL, hLP⟩
      rw [IL_len, List.take_length] at hfk hLP
      refine s_ret (ev_var rfl) fun H3 e3 => q d H3 fk LP hd (e2.trans e3) (e3 _ _ hld2) (e3 _ _ hd2) ndf (fun i v => ?_) ndL (fun p => ?_)
      · rw [hfk, List.mem_map]
        constructor
        · rintro ⟨⟨p, hp, e⟩, b⟩
          exact ⟨⟨p.2, by rw [← e]; exact hp⟩, b⟩
        · rintro ⟨⟨l, hl⟩, b⟩
          exact ⟨⟨(i, l), hl, rfl⟩, b⟩
      · rw [hLP]
        constructor
        · rintro ⟨a, b⟩
          refine ⟨a, Classical.byContradiction fun z => b ⟨List.mem_map.mpr ⟨p, a, rfl⟩, z⟩⟩
        · rintro ⟨a, b⟩
          exact ⟨a, fun z => z.2 b⟩
end
end Es
end

section
set_option Elab.async false
set_option linter.all false
set_option maxRecDepth 100000
set_option maxHeartbeats 4000000
namespace Es
open PySem PySem.Spec PyProof.Rows L2 Evl
/-! ### how a work lies in the heap -/
structure LeadsW (H : Hp) (wk : Lm.Work) (LP : List (Nat × Addr)) : Prop where
  nd : (LP.map (·.1)).Nodup
  mem : ∀ i l, (i, l) ∈ LP → isOpen wk.game i ∧ wk.tab.at_ i = none ∧ H l = some (.lst (IL (leadsOf wk.game i)))
  all : ∀ i, isOpen wk.game i → wk.tab.at_ i = none → ∃ l, (i, l) ∈ LP
theorem LeadsW.mono {H H' : Hp} {wk : Lm.Work} {LP : List (Nat × Addr)} (h : LeadsW H wk LP) (k : ∀ l xs, H l = some (.lst xs) → H' l = some (.lst xs)) : LeadsW H' wk LP :=
  ⟨h.nd, fun i l hm => ⟨(h.mem i l hm).1, (h.mem i l hm).2.1, k _ _ (h.mem i l hm).2.2⟩, h.all⟩
structure SolS (K : Fr) (H : Hp) (s ga : Addr) (wk : Lm.Work) (dx kn ld : Addr) (KP LP : List (Nat × Addr)) : Prop where
  obj : H s = some (.ins (CA K "Solving") dx (solF ga kn ld wk.rounds wk.solved))
  hkn : H kn = some (.dK (PK KP))
  hld : H ld = some (.dK (PK LP))
  ne : kn ≠ ld
  kno : Knows H wk.tab.at_ KP
  l0 : wk.rounds = 0 → LP = []
  l1 : 0 < wk.rounds → LeadsW H wk LP
  good : Good wk
def SolAt (K : Fr) (H : Hp) (s ga : Addr) (wk : Lm.Work) : Prop := ∃ dx kn ld KP LP, SolS K H s ga wk dx kn ld KP LP
theorem SolS.mono {K : Fr} {s ga : Addr} {wk : Lm.Work} {dx kn ld : Addr} {KP LP : List (Nat × Addr)} : Mono fun H => SolS K H s ga wk dx kn ld KP LP := fun H H' e h => ⟨e _ _ h.obj, e _ _ h.hkn, e _ _ h.hld, h.ne, h.kno.mono fun a xs q => e _ _ q, h.l0, fun z => (h.l1 z).mono fun a xs q => e _ _ q, h.good⟩
theorem SolAt.mono {K : Fr} {s ga : Addr} {wk : Lm.Work} : Mono fun H => SolAt K H s ga wk := fun H H' e ⟨dx, kn, ld, KP, LP, h⟩ => ⟨dx, kn, ld, KP, LP, SolS.mono _ _ e h⟩
theorem LeadsW.len {H : Hp} {wk : Lm.Work} {LP : List (Nat × Addr)} (h : LeadsW H wk LP) : LP.length ≤ wk.game.count := by
  have := nodup_bound h.nd (n := wk.game.count) (fun x hx => by
    obtain ⟨p, hp, rfl⟩ := List.mem_map.mp hx
    exact (h.mem p.1 p.2 hp).1.1.1)
  rw [List.length_map] at this
  exact this
theorem Knows.len {H : Hp} {wk : Lm.Work} {KP : List (Nat × Addr)} (G : Good wk) (h : Knows H wk.tab.at_ KP) : KP.length ≤ wk.game.count := by
  have := nodup_bound h.nd (n := wk.game.count) (fun x hx => by
    obtain ⟨p, hp, rfl⟩ := List.mem_map.mp hx
    obtain ⟨v, n, e, _⟩ := h.mem p.1 p.2 hp
    exact (G.known _ _ _ e).1.1)
  rw [List.length_map] at this
  exact this
/-- what a round finds -/
structure FoundW (wk : Lm.Work) (fk : List (Nat × Nat)) : Prop where
  nd : (fk.map (·.1)).Nodup
  iff : ∀ i v, (i, v) ∈ fk ↔ i < wk.game.count ∧ wk.tab.at_ i = none ∧ Lm.newly wk.game wk.tab wk.rounds i = some (v, wk.rounds)
/-- the next table by what was found -/
theorem FoundW.next {wk : Lm.Work} {fk : List (Nat × Nat)} (G : Good wk) (h : FoundW wk fk) (i v n : Nat) : (oneRound wk).tab.at_ i = some (v, n) ↔ wk.tab.at_ i = some (v, n) ∨ ((i, v) ∈ fk ∧ n = wk.rounds) := by
  constructor
  · intro e
    rcases one_cases e with e | ⟨e1, e2, e3⟩
    · exact Or.inl e
    · have hn := (newly_count G e2 e1 e3).1
      subst hn
      exact Or.inr ⟨(h.iff i v).mpr ⟨e2, e1, e3⟩, rfl⟩
  · rintro (e | ⟨e, rfl⟩)
    · exact one_keeps G e
    · obtain ⟨a, b, c⟩ := (h.iff i v).mp e
      rw [one_at, if_pos a]
      unfold nextAt
      rw [b]
      exact c
theorem FoundW.solved {wk : Lm.Work} {fk : List (Nat × Nat)} (G : Good wk) (h : FoundW wk fk) : (oneRound wk).solved = decide (fk.length = 0) := by
  show (!(Lm.round wk.game wk.tab wk.rounds).2) = _
  rw [round_new, Bool.eq_iff_iff, Bool.not_eq_true', List.any_eq_false, decide_eq_true_eq, List.length_eq_zero_iff]
  constructor
  · intro z
    cases fk with
    | nil => rfl
    | cons p r =>
      exfalso
      obtain ⟨a, b, c⟩ := (h.iff p.1 p.2).mp (List.mem_cons_self ..)
      have := z p.1 (List.mem_range.mpr a)
      rw [b, c] at this
      exact this rfl
  · intro z i hi
    rw [Bool.and_eq_true]
    rintro ⟨a, b⟩
    cases e1 : wk.tab.at_ i with
    | some x => rw [e1] at a; cases a
    | none =>
      cases e2 : Lm.newly wk.game wk.tab wk.rounds i with
      | none => rw [e2] at b; cases b
      | some x =>
        obtain ⟨v, n⟩ := x
        have hn := (newly_count G (List.mem_range.mp hi) e1 e2).1
        subst hn
        have := (h.iff i v).mpr ⟨List.mem_range.mp hi, e1, e2⟩
        rw [z] at this
        cases this
theorem FoundW.len {wk : Lm.Work} {fk : List (Nat × Nat)} (h : FoundW wk fk) : fk.length ≤ wk.game.count := by
  have := nodup_bound h.nd (n := wk.game.count) (fun x hx => by
    obtain ⟨p, hp, rfl⟩ := List.mem_map.mp hx
    exact ((h.iff p.1 p.2).mp hp).1)
  rw [List.length_map] at this
  exact this
/-- the first round finds the ends -/
theorem found_ends {wk : Lm.Work} {fk : List (Nat × Nat)} (G : Good wk) (hr : wk.rounds = 0) (h : EndsF wk.game wk.game.count fk) : FoundW wk fk := by
  refine ⟨h.nd, fun i v => ?_⟩
  rw [h.iff]
  have hn := (G.none0 hr).2 i
  constructor
  · rintro ⟨a, b, c, d⟩
    refine ⟨a, hn, ?_⟩
    rw [newly_end b c, if_neg d, hr]
  · rintro ⟨a, _, c⟩
    obtain ⟨_, _, c'⟩ := newly_count G a hn c
    rcases c' with ⟨_, c'⟩ | ⟨z, _⟩
    · refine ⟨a, newly_right c, c', fun z => ?_⟩
      rw [newly_end (newly_right c) c', if_pos z] at c
      cases c
    · omega
theorem leads_ends {H : Hp} {wk : Lm.Work} {LP : List (Nat × Addr)} (G : Good wk) (hr : wk.rounds = 0) (h : LeadsF H wk.game wk.game.count LP) : LeadsW H (oneRound wk) LP := by
  refine ⟨h.nd, fun i l hm => ?_, fun i ho _ => h.all i ho.1.1 ho⟩
  obtain ⟨a, b, c⟩ := h.mem i l hm
  refine ⟨b, ?_, c⟩
  cases e : (oneRound wk).tab.at_ i with
  | none => rfl
  | some x =>
    obtain ⟨v, n⟩ := x
    rcases one_cases e with e | ⟨e1, e2, e3⟩
    · rw [(G.none0 hr).2 i] at e; cases e
    · obtain ⟨_, _, c'⟩ := newly_count G e2 e1 e3
      rcases c' with ⟨_, c'⟩ | ⟨z, _⟩
      · rw [b.2] at c'; cases c'
      · omega
/-- a later round finds what the leads say -/
theorem found_leads {H : Hp} {wk : Lm.Work} {fk : List (Nat × Nat)} {LP0 : List (Nat × Addr)} (G : Good wk) (hr : 0 < wk.rounds) (hL : LeadsW H wk LP0) (nd : (fk.map (·.1)).Nodup) (h : ∀ i v, (i, v) ∈ fk ↔ (∃ l, (i, l) ∈ LP0) ∧ byLeads wk.tab.at_ (leadsOf wk.game i) = v ∧ v ≠ Lm.DRAW) : FoundW wk fk := by
  refine ⟨nd, fun i v => ?_⟩
  rw [h]
  constructor
  · rintro ⟨⟨l, hl⟩, b, c⟩
    obtain ⟨o, n, _⟩ := hL.mem i l hl
    refine ⟨o.1.1, n, ?_⟩
    rw [newly_by G o]
    show (if byLeads wk.tab.at_ (leadsOf wk.game i) = Lm.DRAW then none else some (byLeads wk.tab.at_ (leadsOf wk.game i), wk.rounds)) = _
    rw [b, if_neg c]
  · rintro ⟨a, b, c⟩
    obtain ⟨_, _, c'⟩ := newly_count G a b c
    rcases c' with ⟨z, _⟩ | ⟨_, c', _⟩
    · omega
    · have o : isOpen wk.game i := ⟨⟨a, newly_right c⟩, c'⟩
      refine ⟨hL.all i o b, ?_⟩
      rw [newly_by G o] at c
      have c : (if byLeads wk.tab.at_ (leadsOf wk.game i) = Lm.DRAW then none else some (byLeads wk.tab.at_ (leadsOf wk.game i), wk.rounds)) = some (v, wk.rounds) := c
      by_cases z : byLeads wk.tab.at_ (leadsOf wk.game i) = Lm.DRAW
      · rw [if_pos z] at c; cases c
      · rw [if_neg z] at c
        have := congrArg Prod.fst (Option.some.inj c)
        have this : byLeads wk.tab.at_ (leadsOf wk.game i) = v := this
        exact ⟨this, by rw [← this]; exact z⟩
theorem leads_next {H H' : Hp} {wk : Lm.Work} {fk : List (Nat × Nat)} {LP0 LP : List (Nat × Addr)} (G : Good wk) (hr : 0 < wk.rounds) (hL : LeadsW H wk LP0) (hF : FoundW wk fk) (k : ∀ l xs, H l = some (.lst xs) → H' l = some (.lst xs)) (nd : (LP.map (·.1)).Nodup) (h : ∀ p, p ∈ LP ↔ p ∈ LP0 ∧ byLeads wk.tab.at_ (leadsOf wk.game p.1) = Lm.DRAW) : LeadsW H' (oneRound wk) LP := by
  refine ⟨nd, fun i l hm => ?_, fun i ho hn => ?_⟩
  · obtain ⟨a, b⟩ := (h _).mp hm
    obtain ⟨o, n, hl⟩ := hL.mem i l a
    refine ⟨o, ?_, k _ _ hl⟩
    cases e : (oneRound wk).tab.at_ i with
    | none => rfl
    | some x =>
      obtain ⟨v, m⟩ := x
      rcases (hF.next G i v m).mp e with e | ⟨e, _⟩
      · rw [n] at e; cases e
      · obtain ⟨_, _, c⟩ := (hF.iff i v).mp e
        rw [newly_by G o] at c
        have c : (if byLeads wk.tab.at_ (leadsOf wk.game i) = Lm.DRAW then none else some (byLeads wk.tab.at_ (leadsOf wk.game i), wk.rounds)) = some (v, wk.rounds) := c
        rw [if_pos b] at c
        cases c
  · have hn0 : wk.tab.at_ i = none := by
      cases e : wk.tab.at_ i with
      | none => rfl
      | some x => rw [one_keeps G e] at hn; cases hn
    obtain ⟨l, hl⟩ := hL.all i ho hn0
    refine ⟨l, (h _).mpr ⟨hl, ?_⟩⟩
    apply Classical.byContradiction
    intro z
    have c : Lm.newly wk.game wk.tab wk.rounds i = some (byLeads wk.tab.at_ (leadsOf wk.game i), wk.rounds) := by
      rw [newly_by G ho]
      show (if byLeads wk.tab.at_ (leadsOf wk.game i) = Lm.DRAW then none else some (byLeads wk.tab.at_ (leadsOf wk.game i), wk.rounds)) = _
      rw [if_neg z]
    have := (hF.next G i _ _).mpr (Or.inr ⟨(hF.iff i _).mpr ⟨ho.1.1, hn0, c⟩, rfl⟩)
    have hn : (oneRound wk).tab.at_ i = none := hn
    rw [this] at hn
    cases hn
section
variable {P : Program} {w : World} {K : Fr} {mg : Str → Option Value} {base : Heap}
/-! ### do_round -/
def sp_do_round : Sp := fun vs H Q _ => ∃ (s ga dx kn ld : Addr) (wk : Lm.Work) (KP LP : List (Nat × Addr)) (H0 : Hp), vs = [.ref s] ∧ SolS K H s ga wk dx kn ld KP LP ∧ Ex H0 H ∧ H0 s = none ∧ H0 kn = none ∧ H0 ld = none ∧ GAt K H0 ga wk.game ∧ Fit wk.game ∧ wk.game.count ≤ 2048 ∧ wk.solved = false ∧ (∀ q ∈ LP, H0 q.2 = none) ∧
  ∀ H' KP' LP', Ex H0 H' → SolS K H' s ga (oneRound wk) dx kn ld KP' LP' → (∀ q ∈ LP', H0 q.2 = none) → Q .non H'
abbrev s_do_round : Stmt := top 51
abbrev n_do_round : List Str := ["solving", "found", "number", "outcome"]
theorem sc_do_round : FnScope n_do_round ["solving"] (defScope s_do_round) := ⟨rfl, rfl, rfl, by decide +kernel, rfl, by decide +kernel, by decide +kernel⟩
theorem ok_do_round (T : Env K mg) : Cal P w K mg base CX0 5 "do_round" (sp_do_round (K := K)) := by
  refine T.d_do_round.cal sc_do_round (fun _ _ _ _ _ _ us hl => match us, hl with | [_], _ => rfl) (fun vs H Q E h => ?_) (Body0.by fun f cdv A outer s H vs Q E hr h => ⟨_, (pss_cons (ps_if (pt_cmpR op_eq (pe_fld (pv 0) rfl) pe_int (nomark _)) (pss_one (ps_set (i := 1) sc_do_round.nd rfl (Or.inl rfl) (pe_c (ok_find_ends T) hr (by decide) (by rfl) pass0 (pa_cons (pv 0) pa_nil)))) (pss_one (ps_set (i := 1) sc_do_round.nd rfl (Or.inl rfl) (pe_c (ok_find_by_leads T) hr (by decide) (by rfl) pass0 (pa_cons (pv 0) pa_nil))))) (pss_cons (ps_lock (ps_for PassesOwn.never rfl (pi_items (pv 1)) (pg_tup rfl (pgs_cons (pg_name (i := 2) sc_do_round.nd rfl (Or.inl rfl)) (pgs_cons (pg_name (i := 3) sc_do_round.nd rfl (Or.inl rfl)) pgs_nil))) (pss_one (ps_dput (hu_of hr) (pe_fld (pv 0) rfl) (pv 2) (pe_tup (pa_cons (pv 3) (pa_cons (pe_fld (pv 0) rfl) pa_nil))) rfl)))) (pss_cons (ps_fld (pv 0) (pe_op op_add (pe_fld (pv 0) rfl) pe_int) rfl) (pss_one (ps_fld (pv 0) (pe_cmpR op_eq (pe_callB call_lenD (by rfl) T.f_len PySem.boot_len (pa_cons (pv 1) pa_nil)) pe_int (nomark _)) rfl))))), ?_⟩)
  · obtain ⟨s, ga, dx, kn, ld, wk, KP, LP, H0, rfl, _⟩ := h
    rfl
  · obtain ⟨s, ga, dx, kn, ld, wk, KP, LP, H0, rfl, S, e0, h0s, h0k, h0l, hG, F, hN, hsv, hl0, q⟩ := h
    have G := S.good
    have e0r : Ex H0 (rem H ld) := fun a o h => (rem_ne (ne_of_none h h0l)).trans (e0 _ _ h)
    have nsl : s ≠ ld := ne_of S.obj S.hld (by intro z; cases z)
    have nsk : s ≠ kn := ne_of S.obj S.hkn (by intro z; cases z)
    have hKlen := Knows.len G S.kno
    -- the rest, once something was found
    have rest : ∀ p H1 fk LP1, H p = none → Ex (rem H ld) H1 → H1 ld = some (.dK (PK LP1)) → H1 p = some (.dK (FK fk)) → FoundW wk fk → LeadsW H1 (oneRound wk) LP1 → (∀ q ∈ LP1, H0 q.2 = none) →
        tSeq (tLock (tFor (iItems (tVar 1)) (gTup K 2 (gCons (gName 2) (gCons (gName 3) gNil))) (sDPut (tFld K (tVar 0) "known") (tVar 2) (tTup (tCons (tVar 3) (tCons (tFld K (tVar 0) "rounds") tNil))))))
          (tSeq (sFld K (tVar 0) (tOp (rI0 fun i j => .int (i + j)) (tFld K (tVar 0) "rounds") (tC (.int 1))) "rounds") (sFld K (tVar 0) (tOp rEq (tCB (fun xs H Q => ∃ a kvs, xs = [V.ref a] ∧ H a = some (.dK kvs) ∧ Q (.int kvs.length) H) (tCons (tVar 1) tNil)) (tC (.int 0))) "solved"))
          { nx := fun _ H' => Q .non H', rt := Q } [some (.ref s), some (.ref p), none, none] H1 := by
      intro p H1 fk LP1 hp e1 hld1 hp1 hF hL1 hL10
      have hs1 : H1 s = some (.ins (CA K "Solving") dx (solF ga kn ld wk.rounds wk.solved)) := e1 _ _ ((rem_ne nsl).trans S.obj)
      have hkn1 : H1 kn = some (.dK (PK KP)) := e1 _ _ ((rem_ne S.ne).trans S.hkn)
      have hK1 : Knows H1 wk.tab.at_ KP := S.kno.mono fun a xs h => e1 _ _ ((rem_ne (ne_of h S.hld (by intro z; cases z))).trans h)
      have npk : p ≠ kn := fun z => by rw [z, S.hkn] at hp; cases hp
      have nps : p ≠ s := fun z => by rw [z, S.obj] at hp; cases hp
      have npl : p ≠ ld := fun z => by rw [z, S.hld] at hp; cases hp
      have h0p : H0 p = none := fresh_back e0 hp
      have hFlen := hF.len
      -- the heap without known and found
      have eB : Ex (rem (rem H1 kn) p) H1 := (rem_ex _ _).trans (rem_ex _ _)
      have e0B : Ex H0 (rem (rem H1 kn) p) := fun a o h => (rem_ne (ne_of_none h h0p)).trans ((rem_ne (ne_of_none h h0k)).trans ((e0r.trans e1) _ _ h))
      have hsB : rem (rem H1 kn) p s = some (.ins (CA K "Solving") dx (solF ga kn ld wk.rounds wk.solved)) := (rem_ne nps.symm).trans ((rem_ne nsk).trans hs1)
      have hldB : rem (rem H1 kn) p ld = some (.dK (PK LP1)) := (rem_ne npl.symm).trans ((rem_ne S.ne.symm).trans hld1)
      have hKB : Knows (rem (rem H1 kn) p) wk.tab.at_ KP := hK1.mono fun a xs h => (rem_ne (ne_of h hp1 (by intro z; cases z))).trans ((rem_ne (ne_of h hkn1 (by intro z; cases z))).trans h)
      have hLB : LeadsW (rem (rem H1 kn) p) (oneRound wk) LP1 := hL1.mono fun a xs h => (rem_ne (ne_of h hp1 (by intro z; cases z))).trans ((rem_ne (ne_of h hkn1 (by intro z; cases z))).trans h)
      refine ⟨p, _, hp1, True.intro, fun od => ?_⟩
      refine ⟨_, rfl, p, od, FK fk, rfl, upd_same, for_it walk_items (fun n σ H' => (∃ u v, σ = [some (.ref s), some (.ref p), u, v]) ∧ Ex (rem (rem H1 kn) p) H' ∧ H' p = some (.frz od (.dK (FK fk))) ∧ ∃ KQ : List (Nat × Addr), H' kn = some (.dK (PK (KP ++ KQ))) ∧ KQ.map (·.1) = (fk.take n).map (·.1) ∧ ∀ (j : Nat) i a v, KQ[j]? = some (i, a) → fk[j]? = some (i, v) → H' a = some (.tup [.int (v : Nat), .int (wk.rounds : Nat)])) ⟨⟨none, none, rfl⟩, Ex.mut eB rem_same, upd_same, [], by rw [List.append_nil]; exact (upd_ne npk.symm).trans hkn1, rfl, (fun j i a v h => by simp at h)⟩ (fun i σ' H' _ pp => pp.2.2.1) ?_ ?_⟩
      · rintro n x σ' H' H2 hn ⟨⟨u, v, rfl⟩, e2, hp2, KQ, hkn2, hKQ, hKt⟩ ⟨TT, a, b, rfl, hTT, rfl, ha, hb⟩
        rw [GK_len] at hn
        obtain ⟨⟨i, vv⟩, hfn⟩ : ∃ q, fk[n]? = some q := ⟨_, List.getElem?_eq_getElem hn⟩
        have hgk : (FK fk)[n]? = some (Sum.inl (i : Int), V.int (vv : Int)) := by show (GK _ fk)[n]? = _; unfold GK; rw [List.getElem?_map, hfn]; rfl
        have ha : Option.map (fun kv => kV kv.1) (FK fk)[n]? = some a := ha
        have hb : Option.map Prod.snd (FK fk)[n]? = some b := hb
        rw [hgk] at ha hb
        have ha : a = V.int (i : Int) := (Option.some.inj ha).symm
        have hb : b = V.int (vv : Int) := (Option.some.inj hb).symm
        subst ha hb
        refine ⟨TT, _, rfl, st_of upd_same, rfl, _, _, rfl, _, _, rfl, rfl, ?_⟩
        have e3 : Ex H' (upd H' TT (.tup [.int (i : Int), .int (vv : Int)])) := Ex.new hTT
        have e23 := e2.trans e3
        have hKQl : KQ.length = n := by
          have := congrArg List.length hKQ
          rw [List.length_map, List.length_map, List.length_take] at this
          omega
        have hin : (i, vv) ∈ fk := List.mem_of_getElem? hfn
        have hnone := ((hF.iff i vv).mp hin).2.1
        have hlk : (KP ++ KQ).lookup i = none := lookup_none.mpr fun c hc => by
          rcases List.mem_append.mp hc with z | z
          · exact lookup_none.mp (hK1.none_ hnone).1 c z
          · have z2 : i ∈ KQ.map (·.1) := List.mem_map.mpr ⟨_, z, rfl⟩
            rw [hKQ] at z2
            obtain ⟨j, hj⟩ := List.mem_iff_getElem?.mp z2
            rw [List.map_take, List.getElem?_take] at hj
            by_cases c : j < n
            · rw [if_pos c] at hj
              have := nd_ix hF.nd hj (by rw [List.getElem?_map, hfn]; rfl)
              omega
            · rw [if_neg c] at hj; cases hj
        refine s_dputU (d := kn) (k := Sum.inl (i : Int)) (xs := [.int (vv : Int), .int (wk.rounds : Nat)]) (e3 _ _ hkn2) (eu_tup (ea_cons (ev_var rfl) (ea_cons (ev_fld (ev_var rfl) (e23 _ _ hsB) T.c_Solving T.n_Solving_rounds rfl) ea_nil)) (by show 2 ≤ 100000; decide)) (ev_fld (ev_var rfl) (e23 _ _ hsB) T.c_Solving T.n_Solving_known rfl) (ev_var rfl) (by rw [GK_len, List.length_append, hKQl]; omega) fun tp H4 htp e4 h4 => ?_
        have e34 := e3.trans e4
        have ntk : tp ≠ kn := fun z => by rw [z, e3 _ _ hkn2] at htp; cases htp
        rw [GK_put hlk, List.append_assoc]
        refine ⟨⟨_, _, rfl⟩, Ex.mut (e2.trans e34) ((rem_ne npk.symm).trans rem_same), (upd_ne npk).trans (e34 _ _ hp2), KQ ++ [(i, tp)], upd_same, ?_, ?_⟩
        · rw [List.map_append, hKQ, take_next hfn, List.map_append]
          rfl
        · intro j i' a v h1 h2
          by_cases c : j < KQ.length
          · rw [List.getElem?_append_left c] at h1
            have := e34 _ _ (hKt j i' a v h1 h2)
            exact (upd_ne (ne_of this (e34 _ _ hkn2) (by intro z; cases z))).trans this
          · have ej : j = n := by
              have := (List.getElem?_eq_some_iff.mp h1).1
              rw [List.length_append, List.length_singleton] at this
              omega
            subst ej
            rw [List.getElem?_append_right (by omega), hKQl, Nat.sub_self] at h1
            have h1 : (i, tp) = (i', a) := by simpa using h1
            have e1' : i = i' := congrArg Prod.fst h1
            have e2' : tp = a := congrArg Prod.snd h1
            subst e1' e2'
            rw [hfn] at h2
            have e3' : vv = v := congrArg Prod.snd (Option.some.inj h2)
            subst e3'
            exact (upd_ne ntk).trans h4
      · rintro σ' H' ⟨⟨u, v, rfl⟩, e2, hp2, KQ, hkn2, hKQ, hKt⟩
        rw [GK_len, List.take_length] at hKQ
        refine ⟨hp2, ?_⟩
        have hpB : rem (rem H1 kn) p p = none := rem_same
        have e3 : Ex (rem (rem H1 kn) p) (upd H' p (.dK (FK fk))) := Ex.mut e2 hpB
        have hsBk : rem (rem (rem H1 kn) p) s s = none := rem_same
        have hkn3 : upd H' p (.dK (FK fk)) kn = some (.dK (PK (KP ++ KQ))) := (upd_ne npk.symm).trans hkn2
        have hK3 : ∀ (j : Nat) i a v, KQ[j]? = some (i, a) → fk[j]? = some (i, v) → upd H' p (.dK (FK fk)) a = some (.tup [.int (v : Nat), .int (wk.rounds : Nat)]) := fun j i a v h1 h2 => by
          have := hKt j i a v h1 h2
          exact (upd_ne (ne_of this hp2 (by intro z; cases z))).trans this
        refine q_fld (C := CA K "Solving") (ev_op (ev_fld (ev_var rfl) (e3 _ _ hsB) T.c_Solving T.n_Solving_rounds rfl) ev_c rv_I0) (ev_var rfl) (e3 _ _ hsB) T.c_Solving T.n_Solving_rounds (by show 5 < 1000; decide) fun H4 e4 => ?_
        refine s_fld (C := CA K "Solving") (v := .bl (decide (fk.length = 0))) (ev_is (ev_op (ev_lenD (ev_var rfl) ((upd_ne nps).trans (e4 _ _ upd_same))) ev_c (rv_eq rfl)) ?_) (ev_var rfl) upd_same T.c_Solving T.n_Solving_solved (by show 5 < 1000; decide) fun H5 e5 => ?_
        · rw [GK_len, show (V.int 0 : V) = V.int ((0 : Nat) : Int) from rfl, dec_nat]
        · have keep : ∀ {a o}, a ≠ s → upd H' p (.dK (FK fk)) a = some o → upd H5 s (.ins (CA K "Solving") dx (putF "solved" (.bl (decide (fk.length = 0))) (putF "rounds" (.int ((wk.rounds : Nat) + 1)) (solF ga kn ld wk.rounds wk.solved)))) a = some o := fun {a o} h1 h2 => (upd_ne h1).trans (e5 _ _ ((upd_ne h1).trans (e4 _ _ h2)))
          have fin : upd H5 s (.ins (CA K "Solving") dx (putF "solved" (.bl (decide (fk.length = 0))) (putF "rounds" (.int ((wk.rounds : Nat) + 1)) (solF ga kn ld wk.rounds wk.solved)))) s = some (.ins (CA K "Solving") dx (solF ga kn ld (oneRound wk).rounds (oneRound wk).solved)) := by
            rw [upd_same, hF.solved G, one_rounds]
            rfl
          refine q _ (KP ++ KQ) LP1 (fun a o h => ?_) ⟨fin, keep nsk.symm hkn3, keep nsl.symm (e3 _ _ hldB), S.ne, ⟨?_, ?_, ?_⟩, fun z => ?_, fun _ => hLB.mono fun a xs h => keep (ne_of (e3 _ _ h) (e3 _ _ hsB) (by intro z; cases z)) (e3 _ _ h), one_good G hsv⟩ hL10
          · exact keep (ne_of_none h h0s) (e3 _ _ (e0B _ _ h))
          · rw [List.map_append, hKQ]
            refine List.nodup_append.mpr ⟨hK1.nd, hF.nd, fun x hx y hy z => ?_⟩
            subst z
            obtain ⟨pp, hpp, rfl⟩ := List.mem_map.mp hx
            obtain ⟨qq, hqq, e⟩ := List.mem_map.mp hy
            have hnone := ((hF.iff qq.1 qq.2).mp hqq).2.1
            rw [e] at hnone
            exact lookup_none.mp (hK1.none_ hnone).1 pp.2 hpp
          · intro i a ha
            rcases List.mem_append.mp ha with z | z
            · obtain ⟨v, n, e, hh⟩ := hKB.mem i a z
              exact ⟨v, n, one_keeps G e, keep (ne_of (e3 _ _ hh) (e3 _ _ hsB) (by intro z; cases z)) (e3 _ _ hh)⟩
            · obtain ⟨j, hj⟩ := List.mem_iff_getElem?.mp z
              have h2 : (KQ.map (·.1))[j]? = some i := by rw [List.getElem?_map, hj]; rfl
              rw [hKQ, List.getElem?_map] at h2
              obtain ⟨⟨i', v⟩, hv, e⟩ := Option.map_eq_some_iff.mp h2
              have e : i' = i := e
              subst e
              have hh := hK3 j i' a v hj hv
              exact ⟨v, wk.rounds, (hF.next G i' v wk.rounds).mpr (Or.inr ⟨List.mem_of_getElem? hv, rfl⟩), keep (ne_of hh (e3 _ _ hsB) (by intro z; cases z)) hh⟩
          · intro i x hx
            obtain ⟨v, n⟩ := x
            rcases (hF.next G i v n).mp hx with e | ⟨e, _⟩
            · obtain ⟨a, ha⟩ := hK1.all i _ e
              exact ⟨a, List.mem_append.mpr (Or.inl ha)⟩
            · have h2 : i ∈ fk.map (·.1) := List.mem_map.mpr ⟨_, e, rfl⟩
              rw [← hKQ] at h2
              obtain ⟨qq, hqq, e⟩ := List.mem_map.mp h2
              exact ⟨qq.2, List.mem_append.mpr (Or.inr (by rw [← e]; exact hqq))⟩
          · rw [one_rounds] at z
            omega
    refine q_if (b := decide (wk.rounds = 0)) (et_is (et_test (ev_op (ev_fld (ev_var rfl) S.obj T.c_Solving T.n_Solving_rounds rfl) ev_c (rv_eq rfl))) ?_) ?_ ?_
    · rw [show (V.int 0 : V) = V.int ((0 : Nat) : Int) from rfl, dec_nat]
    · intro hz H1 e1
      rw [decide_eq_true_eq] at hz
      have hLP := S.l0 hz
      subst hLP
      have er : Ex (rem H ld) (rem H1 ld) := fun a o h => by
        have ne : a ≠ ld := fun z => by rw [z, rem_same] at h; cases h
        rw [rem_ne ne] at h ⊢
        exact e1 _ _ h
      refine ⟨_, rfl, s, ga, dx, kn, ld, wk.rounds, wk.solved, wk.game, rfl, e1 _ _ S.obj, e1 _ _ S.hld, GAt.mono _ _ (e0r.trans er) hG, F, hN, fun p H2 fk LP2 hp e2 a b c d f0 => ?_⟩
      exact rest p H2 fk LP2 (fresh_back e1 hp) (er.trans e2) a b (found_ends G hz c) (leads_ends G hz d) fun q hq => fresh_back (e0.trans e1) (f0 q hq)
    · intro hz H1 e1
      rw [decide_eq_false_iff_not] at hz
      have hz : 0 < wk.rounds := by omega
      have hLW := S.l1 hz
      have er : Ex (rem H ld) (rem H1 ld) := fun a o h => by
        have ne : a ≠ ld := fun z => by rw [z, rem_same] at h; cases h
        rw [rem_ne ne] at h ⊢
        exact e1 _ _ h
      have hLlen := hLW.len
      refine ⟨_, rfl, s, ga, dx, kn, ld, wk.rounds, wk.solved, wk.game, wk.tab.at_, KP, LP, rfl, e1 _ _ S.obj, e1 _ _ S.hkn, S.ne, S.kno.mono fun a xs h => e1 _ _ h, e1 _ _ S.hld, hLW.nd, by omega, fun i l h => e1 _ _ (hLW.mem i l h).2.2, fun p H2 fk LP2 hp e2 a b c d e f => ?_⟩
      have hF := found_leads G hz hLW c d
      refine rest p H2 fk LP2 (fresh_back e1 hp) (er.trans e2) a b hF (leads_next G hz hLW hF (fun l xs h => e2 _ _ (er _ _ ((rem_ne (ne_of h S.hld (by intro z; cases z))).trans h))) e f) fun q hq => hl0 q ((f q).mp hq).1
/-! ### do_rounds -/
def sp_do_rounds : Sp := fun vs H Q _ => ∃ (s ga dx kn ld : Addr) (n : Nat) (wk : Lm.Work) (KP LP : List (Nat × Addr)) (H0 : Hp), vs = [.ref s, .int (n : Nat)] ∧ SolS K H s ga wk dx kn ld KP LP ∧ Ex H0 H ∧ H0 s = none ∧ H0 kn = none ∧ H0 ld = none ∧ GAt K H0 ga wk.game ∧ Fit wk.game ∧ wk.game.count ≤ 2048 ∧ (∀ q ∈ LP, H0 q.2 = none) ∧
  ∀ H' KP' LP', Ex H0 H' → SolS K H' s ga (wk.go n) dx kn ld KP' LP' → (∀ q ∈ LP', H0 q.2 = none) → Q .non H'
abbrev s_do_rounds : Stmt := top 50
abbrev n_do_rounds : List Str := ["solving", "most", "done"]
theorem sc_do_rounds : FnScope n_do_rounds ["solving", "most"] (defScope s_do_rounds) := ⟨rfl, rfl, rfl, by decide +kernel, rfl, by decide +kernel, by decide +kernel⟩
theorem ok_do_rounds (T : Env K mg) : Cal P w K mg base CX0 6 "do_rounds" (sp_do_rounds (K := K)) := by
  refine T.d_do_rounds.cal sc_do_rounds (fun _ _ _ _ _ _ us hl => match us, hl with | [_, _], _ => rfl) (fun vs H Q E h => ?_) (Body0.by fun f cdv A outer s H vs Q E hr h => ⟨_, (pss_cons (ps_set (i := 2) sc_do_rounds.nd rfl (Or.inl rfl) pe_int) (pss_one (ps_while PassesOwn.never (PW.pt (pw_and (pt_cmpR op_lt (pv 2) (pv 1) (nomark _)) (pw_and1 (pt_not (pt_val (pe_fld (pv 0) rfl)))))) (pss_cons (ps_expr (pe_c (ok_do_round T) hr (by decide) (by rfl) pass0 (pa_cons (pv 0) pa_nil))) (pss_one (ps_set (i := 2) sc_do_rounds.nd rfl (Or.inl rfl) (pe_op op_add (pv 2) pe_int))))))), ?_⟩)
  · obtain ⟨s, ga, dx, kn, ld, n, wk, KP, LP, H0, rfl, _⟩ := h
    rfl
  · obtain ⟨s, ga, dx, kn, ld, n, wk, KP, LP, H0, rfl, S, e0, h0s, h0k, h0l, hG, F, hN, hl0, q⟩ := h
    refine q_asg ev_c fun H1 e1 => ?_
    refine s_while (fun m σ H' => ∃ (wk' : Lm.Work) (KP' LP' : List (Nat × Addr)) (j : Nat), σ = [some (.ref s), some (.int (n : Nat)), some (.int (j : Nat))] ∧ j + m = n ∧ Ex H0 H' ∧ SolS K H' s ga wk' dx kn ld KP' LP' ∧ wk'.go m = wk.go n ∧ wk'.game = wk.game ∧ ∀ q ∈ LP', H0 q.2 = none) n
      ⟨wk, KP, LP, 0, rfl, by omega, e0.trans e1, SolS.mono _ _ e1 S, rfl, rfl, hl0⟩ ?_
    rintro m σ' H' ⟨wk', KP', LP', j, rfl, hj, e2, S', hgo, hgm, hl1⟩
    refine ⟨decide (j < n) && !wk'.solved, et_is (et_and (et_test (ev_op (ev_var rfl) (ev_var rfl) rv_I0)) (fun _ => et_not (et_B (ev_fld (ev_var rfl) S'.obj T.c_Solving T.n_Solving_solved rfl)))) ?_, ?_, ?_⟩
    · congr 1
      rw [decide_eq_decide]
      omega
    · intro hb H3 e3
      rw [Bool.and_eq_true, decide_eq_true_eq, Bool.not_eq_true'] at hb
      obtain ⟨m', rfl⟩ : ∃ m', m = m' + 1 := ⟨m - 1, by omega⟩
      refine ⟨fun σ2 H2 => ∃ (wk' : Lm.Work) (KP' LP' : List (Nat × Addr)) (j : Nat), σ2 = [some (.ref s), some (.int (n : Nat)), some (.int (j : Nat))] ∧ j + m' = n ∧ Ex H0 H2 ∧ SolS K H2 s ga wk' dx kn ld KP' LP' ∧ wk'.go m' = wk.go n ∧ wk'.game = wk.game ∧ ∀ q ∈ LP', H0 q.2 = none, fun σ2 H2 h => ⟨m', by omega, h⟩, ?_⟩
      refine ⟨_, rfl, s, ga, dx, kn, ld, wk', KP', LP', H0, rfl, SolS.mono _ _ e3 S', e2.trans e3, h0s, h0k, h0l, by rw [hgm]; exact hG, by rw [hgm]; exact F, by rw [hgm]; exact hN, hb.2, hl1, fun H4 KP4 LP4 e4 S4 hl4 => ?_⟩
      refine s_asg (ev_op (ev_var rfl) ev_c rv_I0) fun H5 e5 => ⟨oneRound wk', KP4, LP4, j + 1, by rfl, by omega, e4.trans e5, SolS.mono _ _ e5 S4, ?_, hgm, hl4⟩
      rw [← hgo, go_succ, if_neg (by rw [hb.2]; exact Bool.false_ne_true)]
    · intro hb H3 e3
      have hend : wk' = wk.go n := by
        rw [← hgo]
        rw [Bool.and_eq_false_iff, decide_eq_false_iff_not, Bool.not_eq_false'] at hb
        rcases hb with z | z
        · have : m = 0 := by omega
          subst this
          rfl
        · exact (go_solved z).symm
      rw [← hend] at q
      exact q H3 KP' LP' (e2.trans e3) (SolS.mono _ _ e3 S') hl1
/-! ### value_of, check_solved -/
/-- a value told: a tuple of both numbers -/
def RetU (v : Nat × Nat) (H : Hp) (Q : VK) : Prop := ∀ t H', Ex H H' → H' t = some (.tup [.int (v.1 : Nat), .int (v.2 : Nat)]) → Q (.ref t) H'
theorem r_call {sp : Sp} {σ : L2.St} {H : Hp} {E : XK} {D : Ends} {ta : TA} {vs : List V} (ha : EvA ta σ H vs) (hs : ∀ H1, Ex H H1 → sp (vs ++ []) H1 D.rt E) : tRet (tCall sp [] E ta) D σ H := ha H (Ex.refl H) _ hs
/-- what is known of a number -/
def valN (wk : Lm.Work) (n : Nat) : Option (Nat × Nat) := match wk.tab.at_ n with
  | some x => some x
  | none => if wk.solved = true then some (Lm.DRAW, 0) else none
def sp_value_at : Sp := fun vs H Q E => ∃ (s ga : Addr) (wk : Lm.Work) (n : Nat), vs = [.ref s, .int (n : Nat)] ∧ SolAt K H s ga wk ∧ (∀ v, valN wk n = some v → RetU v H Q) ∧ (valN wk n = none → Refuses K E H [-3])
abbrev s_value_at : Stmt := top 56
abbrev n_value_at : List Str := ["solving", "number"]
theorem sc_value_at : FnScope n_value_at ["solving", "number"] (defScope s_value_at) := ⟨rfl, rfl, rfl, by decide +kernel, rfl, by decide +kernel, by decide +kernel⟩
theorem ok_value_at (T : Env K mg) : Cal P w K mg base (L2.CX P w) 4 "value_at" (sp_value_at (K := K)) := by
  refine T.d_value_at.cal sc_value_at (fun _ _ _ _ _ _ us hl => match us, hl with | [_, _], _ => rfl) (fun vs H Q E h => ?_) (fun f cdv A outer s H vs Q E hr h => ⟨_, (pss_cons (ps_if (pt_cmp (pc_din (hu_of hr) (pv 1) (pe_fld (pv 0) rfl))) (pss_one (ps_ret (pe_dget (hu_of hr) (pe_fld (pv 0) rfl) (pv 1) (fun _ _ => rfl)))) pss_nil) (pss_cons (ps_if (pt_not (pt_val (pe_fld (pv 0) rfl))) (pss_one (ps_raise rfl (takes_of rfl rfl rfl rfl) (pmkE0 T.e_NotKnown (er_NotKnown T) hr (by decide) (by rfl) T.g_NotKnown))) pss_nil) (pss_one (ps_ret (pe_tup (pa_cons (pe_gv (by rfl) T.v_DRAW) (pa_cons pe_int pa_nil))))))), ?_⟩)
  · obtain ⟨s, ga, wk, n, rfl, _⟩ := h
    rfl
  · obtain ⟨s, ga, wk, n, rfl, ⟨dx, kn, ld, KP, LP, S⟩, q1, q2⟩ := h
    unfold valN at q1 q2
    cases e : wk.tab.at_ n with
    | some x =>
      obtain ⟨v, m⟩ := x
      obtain ⟨a, hv, ha⟩ := S.kno.some_ e
      rw [e] at q1
      refine q_when (b := true) (et_is (et_B (ev_din (d := kn) (k := Sum.inl (n : Int)) (ev_var rfl) (ev_fld (ev_var rfl) S.obj T.c_Solving T.n_Solving_known rfl) S.hkn)) (by rw [hv]; rfl)) (fun _ H2 e2 => ?_) (fun z => Bool.noConfusion z)
      exact s_ret (ev_dget (d := kn) (k := Sum.inl (n : Int)) (ev_fld (ev_var rfl) (e2 _ _ S.obj) T.c_Solving T.n_Solving_known rfl) (ev_var rfl) (e2 _ _ S.hkn) hv) fun H3 e3 => q1 (v, m) rfl a H3 (e2.trans e3) ((e2.trans e3) _ _ ha)
    | none =>
      have hv := (S.kno.none_ e).2
      rw [e] at q1 q2
      refine q_when (b := false) (et_is (et_B (ev_din (d := kn) (k := Sum.inl (n : Int)) (ev_var rfl) (ev_fld (ev_var rfl) S.obj T.c_Solving T.n_Solving_known rfl) S.hkn)) (by rw [hv]; rfl)) (fun z => Bool.noConfusion z) (fun _ H2 e2 => ?_)
      refine q_when (et_not (et_B (ev_fld (ev_var rfl) (e2 _ _ S.obj) T.c_Solving T.n_Solving_solved rfl))) ?_ ?_
      · intro hb H3 e3
        rw [Bool.not_eq_true'] at hb
        exact raise0 T.e_NotKnown T.r_NotKnown ((q2 (if_neg (by rw [hb]; exact Bool.false_ne_true))).mono (e2.trans e3))
      · intro hb H3 e3
        rw [Bool.not_eq_false'] at hb
        exact s_retU (eu_tup (ea_cons ev_c (ea_cons ev_c ea_nil)) (by decide)) fun t H4 ht e4 h4 => q1 (Lm.DRAW, 0) (if_pos hb) t H4 ((e2.trans e3).trans e4) h4
def sp_at_solved : Sp := fun vs H Q _ => ∃ (s ga : Addr) (wk : Lm.Work) (n : Nat), vs = [.ref s, .int (n : Nat)] ∧ SolAt K H s ga wk ∧ wk.solved = true ∧ RetU ((wk.tab.at_ n).getD (Lm.DRAW, 0)) H Q
theorem ok_at_solved (T : Env K mg) : Cal P w K mg base CX0 1 "value_at" (sp_at_solved (K := K)) := by
  refine T.d_value_at.cal sc_value_at (fun _ _ _ _ _ _ us hl => match us, hl with | [_, _], _ => rfl) (fun vs H Q E h => ?_) (Body0.by fun f cdv A outer s H vs Q E hr h => ⟨_, (pss_cons (ps_if (pt_cmp (pc_din (hu_of hr) (pv 1) (pe_fld (pv 0) rfl))) (pss_one (ps_ret (pe_dget (hu_of hr) (pe_fld (pv 0) rfl) (pv 1) (fun _ _ => rfl)))) pss_nil) (pss_cons (ps_if (pt_not (pt_val (pe_fld (pv 0) rfl))) (pss_one ps_never) pss_nil) (pss_one (ps_ret (pe_tup (pa_cons (pe_gv (by rfl) T.v_DRAW) (pa_cons pe_int pa_nil))))))), ?_⟩)
  · obtain ⟨s, ga, wk, n, rfl, _⟩ := h
    rfl
  · obtain ⟨s, ga, wk, n, rfl, ⟨dx, kn, ld, KP, LP, S⟩, hsv, q1⟩ := h
    cases e : wk.tab.at_ n with
    | some x =>
      obtain ⟨v, m⟩ := x
      obtain ⟨a, hv, ha⟩ := S.kno.some_ e
      rw [e] at q1
      refine q_when (b := true) (et_is (et_B (ev_din (d := kn) (k := Sum.inl (n : Int)) (ev_var rfl) (ev_fld (ev_var rfl) S.obj T.c_Solving T.n_Solving_known rfl) S.hkn)) (by rw [hv]; rfl)) (fun _ H2 e2 => ?_) (fun z => Bool.noConfusion z)
      exact s_ret (ev_dget (d := kn) (k := Sum.inl (n : Int)) (ev_fld (ev_var rfl) (e2 _ _ S.obj) T.c_Solving T.n_Solving_known rfl) (ev_var rfl) (e2 _ _ S.hkn) hv) fun H3 e3 => q1 a H3 (e2.trans e3) ((e2.trans e3) _ _ ha)
    | none =>
      have hv := (S.kno.none_ e).2
      rw [e] at q1
      refine q_when (b := false) (et_is (et_B (ev_din (d := kn) (k := Sum.inl (n : Int)) (ev_var rfl) (ev_fld (ev_var rfl) S.obj T.c_Solving T.n_Solving_known rfl) S.hkn)) (by rw [hv]; rfl)) (fun z => Bool.noConfusion z) (fun _ H2 e2 => ?_)
      refine q_when (b := false) (et_is (et_not (et_B (ev_fld (ev_var rfl) (e2 _ _ S.obj) T.c_Solving T.n_Solving_solved rfl))) (by rw [hsv]; rfl)) (fun z => Bool.noConfusion z) (fun _ H3 e3 => ?_)
      exact s_retU (eu_tup (ea_cons ev_c (ea_cons ev_c ea_nil)) (by decide)) fun t H4 ht e4 h4 => q1 t H4 ((e2.trans e3).trans e4) h4
def sp_value_of : Sp := fun vs H Q E => ∃ (s ga ra : Addr) (wk : Lm.Work) (p : Lm.Pos), vs = [.ref s, .ref ra] ∧ SolAt K H s ga wk ∧ GAt K H ga wk.game ∧ Fit wk.game ∧ H ra = some (.lst (IL (LmCalls.posNums p))) ∧ Lm.rightPos wk.game p = true ∧ (∀ v, wk.value p = some v → RetU v H Q) ∧ (wk.value p = none → Refuses K E H [-3])
abbrev s_value_of : Stmt := top 55
abbrev n_value_of : List Str := ["solving", "row"]
theorem sc_value_of : FnScope n_value_of ["solving", "row"] (defScope s_value_of) := ⟨rfl, rfl, rfl, by decide +kernel, rfl, by decide +kernel, by decide +kernel⟩
theorem RetU.mono {v : Nat × Nat} {H H' : Hp} {Q : VK} (e : Ex H H') (h : RetU v H Q) : RetU v H' Q := fun t H2 e2 h2 => h t H2 (e.trans e2) h2
theorem ok_value_of (T : Env K mg) : Cal P w K mg base (L2.CX P w) 5 "value_of" (sp_value_of (K := K)) := by
  refine T.d_value_of.cal sc_value_of (fun _ _ _ _ _ _ us hl => match us, hl with | [_, _], _ => rfl) (fun vs H Q E h => ?_) (fun f cdv A outer s H vs Q E hr h => ⟨_, (pss_one (ps_ret (pe_c (ok_value_at T) hr (by decide) (by rfl) (passes_call (takes_of rfl rfl rfl rfl) (fun _ _ _ _ h => h)) (pa_cons (pv 0) (pa_cons (pe_c (ok_number_of T) hr (by decide) (by rfl) pass0 (pa_cons (pe_fld (pv 0) rfl) (pa_cons (pv 1) pa_nil))) pa_nil))))), ?_⟩)
  · obtain ⟨s, ga, ra, wk, p, rfl, _⟩ := h
    rfl
  · obtain ⟨s, ga, ra, wk, p, rfl, hS, hG, F, hra, hR, q1, q2⟩ := h
    obtain ⟨hl, hx, hon, hnd⟩ := right_iff.mp hR
    have hS' := hS
    obtain ⟨dx, kn, ld, KP, LP, S⟩ := hS'
    exact r_call (ea_cons (ev_var rfl) (ea_cons (ev_callR (v := .int (Lm.index wk.game p : Nat)) (ea_cons (ev_fld (ev_var rfl) S.obj T.c_Solving T.n_Solving_game rfl) (ea_cons (ev_var rfl) ea_nil)) fun H1 e1 Q' q' => ⟨ga, ra, wk.game, p.at_, p.side, rfl, GAt.mono _ _ e1 hG, F, e1 _ _ hra, hl, hon, q'⟩) ea_nil)) fun H1 e1 => ⟨s, ga, wk, _, rfl, SolAt.mono _ _ e1 hS, fun v hv => (q1 v hv).mono e1, fun hv => (q2 hv).mono e1⟩
def sp_value_solved : Sp := fun vs H Q _ => ∃ (s ga ra : Addr) (wk : Lm.Work) (p : Lm.Pos), vs = [.ref s, .ref ra] ∧ SolAt K H s ga wk ∧ GAt K H ga wk.game ∧ Fit wk.game ∧ H ra = some (.lst (IL (LmCalls.posNums p))) ∧ Lm.rightPos wk.game p = true ∧ wk.solved = true ∧ RetU (valAt wk p) H Q
theorem ok_value_solved (T : Env K mg) : Cal P w K mg base CX0 2 "value_of" (sp_value_solved (K := K)) := by
  refine T.d_value_of.cal sc_value_of (fun _ _ _ _ _ _ us hl => match us, hl with | [_, _], _ => rfl) (fun vs H Q E h => ?_) (Body0.by fun f cdv A outer s H vs Q E hr h => ⟨_, (pss_one (ps_ret (pe_c (ok_at_solved T) hr (by decide) (by rfl) pass0 (pa_cons (pv 0) (pa_cons (pe_c (ok_number_of T) hr (by decide) (by rfl) pass0 (pa_cons (pe_fld (pv 0) rfl) (pa_cons (pv 1) pa_nil))) pa_nil))))), ?_⟩)
  · obtain ⟨s, ga, ra, wk, p, rfl, _⟩ := h
    rfl
  · obtain ⟨s, ga, ra, wk, p, rfl, hS, hG, F, hra, hR, hsv, q1⟩ := h
    obtain ⟨hl, hx, hon, hnd⟩ := right_iff.mp hR
    have hS' := hS
    obtain ⟨dx, kn, ld, KP, LP, S⟩ := hS'
    exact r_call (ea_cons (ev_var rfl) (ea_cons (ev_callR (v := .int (Lm.index wk.game p : Nat)) (ea_cons (ev_fld (ev_var rfl) S.obj T.c_Solving T.n_Solving_game rfl) (ea_cons (ev_var rfl) ea_nil)) fun H1 e1 Q' q' => ⟨ga, ra, wk.game, p.at_, p.side, rfl, GAt.mono _ _ e1 hG, F, e1 _ _ hra, hl, hon, q'⟩) ea_nil)) fun H1 e1 => ⟨s, ga, wk, _, rfl, SolAt.mono _ _ e1 hS, hsv, q1.mono e1⟩
def sp_check_solved : Sp := fun vs H Q E => ∃ (s ga : Addr) (wk : Lm.Work), vs = [.ref s] ∧ SolAt K H s ga wk ∧ (wk.solved = true → RetV .non H Q) ∧ (wk.solved = false → Refuses K E H [-3])
abbrev s_check_solved : Stmt := top 57
abbrev n_check_solved : List Str := ["solving"]
theorem sc_check_solved : FnScope n_check_solved ["solving"] (defScope s_check_solved) := ⟨rfl, rfl, rfl, by decide +kernel, rfl, by decide +kernel, by decide +kernel⟩
theorem ok_check_solved (T : Env K mg) : Cal P w K mg base (L2.CX P w) 4 "check_solved" (sp_check_solved (K := K)) := by
  refine T.d_check_solved.cal sc_check_solved (fun _ _ _ _ _ _ us hl => match us, hl with | [_], _ => rfl) (fun vs H Q E h => ?_) (fun f cdv A outer s H vs Q E hr h => ⟨_, (pss_one (ps_if (pt_not (pt_val (pe_fld (pv 0) rfl))) (pss_one (ps_raise rfl (takes_of rfl rfl rfl rfl) (pmkE0 T.e_NotSolved (er_NotSolved T) hr (by decide) (by rfl) T.g_NotSolved))) pss_nil)), ?_⟩)
  · obtain ⟨s, ga, wk, rfl, _⟩ := h
    rfl
  · obtain ⟨s, ga, wk, rfl, ⟨dx, kn, ld, KP, LP, S⟩, q1, q2⟩ := h
    refine s_when (et_not (et_B (ev_fld (ev_var rfl) S.obj T.c_Solving T.n_Solving_solved rfl))) ?_ ?_
    · intro hb H1 e1
      rw [Bool.not_eq_true'] at hb
      exact raise0 T.e_NotSolved T.r_NotSolved ((q2 hb).mono e1)
    · intro hb H1 e1
      rw [Bool.not_eq_false'] at hb
      exact q1 hb H1 e1
end
end Es
end

section
set_option Elab.async false
set_option linter.all false
set_option maxRecDepth 100000
set_option maxHeartbeats 4000000
namespace Es
open PySem PySem.Spec PyProof.Rows L2 Evl
theorem op_eqDK {X : Cx} (K : Fr) (hK : X.K = K) (hu : X.A.units + 64 < cLine) : OpR X (compareOp .Eq) (rEqD K) := by
  subst hK
  exact op_eqD hu
abbrev U2 (v : Nat × Nat) : HO := .tup [.int (v.1 : Nat), .int (v.2 : Nat)]
/-- a tuple of two numbers, new or not -/
def EvR (te : TE) (σ : L2.St) (H : Hp) (v : Nat × Nat) : Prop := ∀ H1, Ex H H1 → ∀ Q : VK, (∀ t H2, Ex H1 H2 → H2 t = some (U2 v) → Q (.ref t) H2) → te σ H1 Q
section
variable {K : Fr} {σ : L2.St} {H : Hp} {ta tb : TE} {D : Ends} {tz : TS}
theorem er_callR {sp : Sp} {vs : List V} {v : Nat × Nat} {E : XK} {ta : TA} (h : EvA ta σ H vs) (hs : ∀ H1, Ex H H1 → ∀ Q : VK, RetU v H1 Q → sp (vs ++ []) H1 Q E) : EvR (tCall sp [] E ta) σ H v := fun H1 e Q q =>
  h H1 e _ fun H2 e2 => hs H2 (e.trans e2) Q fun t H3 e3 f => q t H3 (e2.trans e3) f
theorem er_callAL {sp : Sp} {E : XK} {t1 t2 : TE} {x : V} {v : Nat × Nat} {xs : List V} (h1 : Ev t1 σ H x) (h2 : EvL t2 σ H xs) (hs : ∀ H1 p, Ex H H1 → H1 p = some (.lst xs) → ∀ Q : VK, RetU v H1 Q → sp [x, .ref p] H1 Q E) : EvR (tCall sp [] E (tCons t1 (tCons t2 tNil))) σ H v := fun H1 e Q q =>
  h1 H1 e _ fun H2 e2 => h2 H2 (e.trans e2) _ fun p H3 hp e3 h3 => hs H3 p ((e.trans e2).trans e3) h3 Q fun t H4 e4 f => q t H4 ((e2.trans e3).trans e4) f
theorem eqv2 (a b c d : Int) : PyData.eqv (.tuple [.int a, .int b]) (.tuple [.int c, .int d]) = (decide (a = c) && decide (b = d)) := by
  show ((a == c) && ((b == d) && true)) = _
  rw [Bool.and_true, Bool.beq_eq_decide_eq, Bool.beq_eq_decide_eq]
theorem dp2 {t : Addr} {v : Nat × Nat} (h : H t = some (U2 v)) : Dp K H (.ref t) (.tuple [.int (v.1 : Nat), .int (v.2 : Nat)]) := .tup (st_of h) (.cons (.int _) (.cons (.int _) .nil))
theorem ev_eqD {u v : Nat × Nat} {t2 : Addr} (ha : EvR ta σ H u) (hb : Ev tb σ H (.ref t2)) (ht : H t2 = some (U2 v)) : Ev (tOp (rEqD K) ta tb) σ H (.bl (decide (u = v))) := fun H1 e Q q =>
  ha H1 e _ fun t H2 e2 h2 => hb H2 (e.trans e2) _ fun H3 e3 => ⟨_, _, dp2 (e3 _ _ h2), dp2 (((e.trans e2).trans e3) _ _ ht), rfl, rfl, by
    rw [eqv2]
    have : (decide ((u.1 : Int) = (v.1 : Int)) && decide ((u.2 : Int) = (v.2 : Int))) = decide (u = v) := by
      rw [← Bool.decide_and, decide_eq_decide, Prod.ext_iff]
      omega
    rw [this]
    exact q H3 (e2.trans e3)⟩
theorem q_asgR {i : Nat} {v : Nat × Nat} (h : EvR ta σ H v) (k : ∀ t H1, Ex H H1 → H1 t = some (U2 v) → tz D (σ.set i (some (.ref t))) H1) : tSeq (tAsg ta (gName i)) tz D σ H := h H (Ex.refl H) _ fun t H1 e h1 => k t H1 e h1
end
section
variable {P : Program} {w : World} {K : Fr} {mg : Str → Option Value} {base : Heap}
/-! ### value_to_reach -/
def sp_value_to_reach : Sp := fun vs H Q _ => ∃ (t : Addr) (v : Nat × Nat), vs = [.ref t] ∧ H t = some (U2 v) ∧ (v.1 = Lm.WIN ∨ v.1 = Lm.LOSS → 0 < v.2) ∧ RetU (wanted v) H Q
abbrev s_value_to_reach : Stmt := top 64
abbrev n_value_to_reach : List Str := ["value"]
theorem sc_value_to_reach : FnScope n_value_to_reach ["value"] (defScope s_value_to_reach) := ⟨rfl, rfl, rfl, by decide +kernel, rfl, by decide +kernel, by decide +kernel⟩
theorem ok_value_to_reach (T : Env K mg) : Cal P w K mg base CX0 1 "value_to_reach" sp_value_to_reach := by
  refine T.d_value_to_reach.cal sc_value_to_reach (fun _ _ _ _ _ _ us hl => match us, hl with | [_], _ => rfl) (fun vs H Q E h => ?_) (Body0.by fun f cdv A outer s H vs Q E hr h => ⟨_, (pss_cons (ps_if (pt_cmpR op_eq (pe_ix ix_tup (pv 0) pe_int (fun _ _ => rfl)) (pe_gv (by rfl) T.v_WIN) (nomark _)) (pss_one (ps_ret (pe_tup (pa_cons (pe_gv (by rfl) T.v_LOSS) (pa_cons (pe_op op_sub (pe_ix ix_tup (pv 0) pe_int (fun _ _ => rfl)) pe_int) pa_nil))))) pss_nil) (pss_cons (ps_if (pt_cmpR op_eq (pe_ix ix_tup (pv 0) pe_int (fun _ _ => rfl)) (pe_gv (by rfl) T.v_LOSS) (nomark _)) (pss_one (ps_ret (pe_tup (pa_cons (pe_gv (by rfl) T.v_WIN) (pa_cons (pe_op op_sub (pe_ix ix_tup (pv 0) pe_int (fun _ _ => rfl)) pe_int) pa_nil))))) pss_nil) (pss_one (ps_ret (pe_tup (pa_cons (pe_gv (by rfl) T.v_DRAW) (pa_cons pe_int pa_nil))))))), ?_⟩)
  · obtain ⟨t, v, rfl, _⟩ := h
    rfl
  · obtain ⟨t, ⟨a, b⟩, rfl, ht, hpos, q⟩ := h
    have hpos : a = 1 ∨ a = 2 → 0 < b := hpos
    have i0 : ∀ H1, Ex H H1 → Ev (tOp (rIxT K) (tVar 0) (tC (.int 0))) (start n_value_to_reach [.ref t]) H1 (.int (a : Nat)) := fun H1 e => ev_op (ev_var rfl) ev_c (rv_ixT (K := K) (v := .int (a : Nat)) (st_of (e _ _ ht)) rfl)
    have i1 : ∀ H1, Ex H H1 → Ev (tOp (rI0 fun i j => .int (i - j)) (tOp (rIxT K) (tVar 0) (tC (.int 1))) (tC (.int 1))) (start n_value_to_reach [.ref t]) H1 (.int ((b : Nat) - 1)) := fun H1 e => ev_op (ev_op (ev_var rfl) ev_c (rv_ixT (K := K) (v := .int (b : Nat)) (st_of (e _ _ ht)) rfl)) ev_c rv_I0
    unfold wanted at q
    refine q_when (b := decide (a = 1)) (et_is (et_test (ev_op (i0 H (Ex.refl H)) ev_c (rv_eq rfl))) (dec_nat (b := 1))) ?_ ?_
    · intro hb H1 e1
      rw [decide_eq_true_eq] at hb
      rw [if_pos (show a = Lm.WIN from hb)] at q
      refine s_retU (eu_tup (ea_cons ev_c (ea_cons (i1 H1 e1) ea_nil)) (by show 2 ≤ 100000; decide)) fun p H2 hp e2 h2 => q p H2 (e1.trans e2) ?_
      rw [h2, show ((b : Nat) : Int) - 1 = ((b - 1 : Nat) : Int) by have := hpos (Or.inl hb); omega]
      rfl
    · intro hb H1 e1
      rw [decide_eq_false_iff_not] at hb
      rw [if_neg (show ¬ a = Lm.WIN from hb)] at q
      refine q_when (b := decide (a = 2)) (et_is (et_test (ev_op (i0 H1 e1) ev_c (rv_eq rfl))) (dec_nat (b := 2))) ?_ ?_
      · intro hc H2 e2
        rw [decide_eq_true_eq] at hc
        rw [if_pos (show a = Lm.LOSS from hc)] at q
        refine s_retU (eu_tup (ea_cons ev_c (ea_cons (i1 H2 (e1.trans e2)) ea_nil)) (by show 2 ≤ 100000; decide)) fun p H3 hp e3 h3 => q p H3 ((e1.trans e2).trans e3) ?_
        rw [h3, show ((b : Nat) : Int) - 1 = ((b - 1 : Nat) : Int) by have := hpos (Or.inr hc); omega]
        rfl
      · intro hc H2 e2
        rw [decide_eq_false_iff_not] at hc
        rw [if_neg (show ¬ a = Lm.LOSS from hc)] at q
        exact s_retU (eu_tup (ea_cons ev_c (ea_cons ev_c ea_nil)) (by decide)) fun p H3 hp e3 h3 => q p H3 ((e1.trans e2).trans e3) h3
/-! ### best_move -/
def sp_best_move : Sp := fun vs H Q E => ∃ (s ga ra : Addr) (wk : Lm.Work) (p : Lm.Pos), vs = [.ref s, .ref ra] ∧ SolAt K H s ga wk ∧ GAt K H ga wk.game ∧ Fit wk.game ∧ H ra = some (.lst (IL (LmCalls.posNums p))) ∧ Lm.rightPos wk.game p = true ∧ wk.solved = true ∧ (Lm.moves wk.game p = [] → Refuses K E H [-6]) ∧ (∀ m, Lm.moves wk.game p ≠ [] → wk.best p = some m → RetV (.int (m : Nat)) H Q)
abbrev s_best_move : Stmt := top 63
abbrev n_best_move : List Str := ["solving", "row", "moves", "wanted", "keeping", "move"]
theorem sc_best_move : FnScope n_best_move ["solving", "row"] (defScope s_best_move) := ⟨rfl, rfl, rfl, by decide +kernel, rfl, by decide +kernel, by decide +kernel⟩
theorem ok_best_move (T : Env K mg) : Cal P w K mg base (L2.CX P w) 4 "best_move" (sp_best_move (K := K)) := by
  refine T.d_best_move.cal sc_best_move (fun _ _ _ _ _ _ us hl => match us, hl with | [_, _], _ => rfl) (fun vs H Q E h => ?_) (fun f cdv A outer s H vs Q E hr h => ⟨_, (pss_cons (ps_set (i := 2) sc_best_move.nd rfl (Or.inl rfl) (pe_c (ok_moves_of T) hr (by decide) (by rfl) pass0 (pa_cons (pe_fld (pv 0) rfl) (pa_cons (pv 1) pa_nil)))) (pss_cons (ps_if (pt_cmpR op_eq (pe_callB call_len_seq (by rfl) T.f_len PySem.boot_len (pa_cons (pv 2) pa_nil)) pe_int (nomark _)) (pss_one (ps_raise rfl (takes_of rfl rfl rfl rfl) (pmkE0 T.e_AtEnd (er_AtEnd T) hr (by decide) (by rfl) T.g_AtEnd))) pss_nil) (pss_cons (ps_set (i := 3) sc_best_move.nd rfl (Or.inr rfl) (pe_c (ok_value_to_reach T) hr (by decide) (by rfl) pass0 (pa_cons (pe_c (ok_value_solved T) hr (by decide) (by rfl) pass0 (pa_cons (pv 0) (pa_cons (pv 1) pa_nil))) pa_nil))) (pss_cons (ps_setLc (i := 4) (own := [("move", 5)]) rfl sc_best_move.nd rfl rfl (sw_true rfl rfl rfl (by decide +kernel)) (pi_list (pv 2)) (blkOk_by (own := [("move", 5)]) (N := n_best_move) (sc := defScope s_best_move) (by decide +kernel)) (fun _ _ _ _ _ => pg_name (i := 5) sc_best_move.nd rfl (Or.inl rfl)) (fun _ _ _ _ _ => by exact (pts_one (pt_cmpR (op_eqDK K rfl hr.units) (pe_c (ok_value_solved T) hr (by decide) (by rfl) pass0 (by exact (pa_cons (pv 0) (pa_cons (pe_c (ok_row_after T) hr (by decide) (by rfl) pass0 (by exact (pa_cons (pv 1) (pa_cons (pv 5) pa_nil)))) pa_nil)))) (pv 3) (nomark _)))) (fun _ _ _ _ _ => by exact (pv 5))) (pss_one (ps_ret (pe_ix ix_list (pv 4) pe_int (fun _ _ => rfl)))))))), ?_⟩)
  · obtain ⟨s, ga, ra, wk, p, rfl, _⟩ := h
    rfl
  · obtain ⟨s, ga, ra, wk, p, rfl, hS, hG, F, hra, hR, hsv, q1, q2⟩ := h
    have hS' := hS
    obtain ⟨dx, kn, ld, KP, LP, S⟩ := hS'
    have G := S.good
    have hside := (right_iff.mp hR).2.1
    refine q_asgL (el_callR (ea_cons (ev_fld (ev_var rfl) S.obj T.c_Solving T.n_Solving_game rfl) (ea_cons (ev_var rfl) ea_nil)) fun H1 e1 Q' q' => ⟨ga, ra, wk.game, p.at_, p.side, rfl, GAt.mono _ _ e1 hG, F, e1 _ _ hra, hR, q'⟩) fun mv H1 hmv e1 h1 => ?_
    have h1 : H1 mv = some (.lst (IL (Lm.moves wk.game p))) := h1
    refine q_when (b := decide (Lm.moves wk.game p = [])) (et_is (et_test (ev_op (ev_lenS (K := K) (ev_var rfl) (sq_of h1)) ev_c (rv_eq rfl))) ?_) ?_ ?_
    · rw [IL_len, show (V.int 0 : V) = V.int ((0 : Nat) : Int) from rfl, dec_nat, decide_eq_decide, List.length_eq_zero_iff]
    · intro hb H2 e2
      rw [decide_eq_true_eq] at hb
      exact raise0 T.e_AtEnd T.r_AtEnd ((q1 hb).mono (e1.trans e2))
    · intro hb H2 e2
      rw [decide_eq_false_iff_not] at hb
      have he := (ended_none_iff hside).mpr hb
      have e12 := e1.trans e2
      -- wanted = value_to_reach(value_of(solving, row))
      refine q_asgR (v := wanted (valAt wk p)) (fun H3 e3 Q' q' => ⟨_, rfl, _, rfl, s, ga, ra, wk, p, rfl, SolAt.mono _ _ (e12.trans e3) hS, GAt.mono _ _ (e12.trans e3) hG, F, (e12.trans e3) _ _ hra, hR, hsv, fun t H4 e4 h4 => ⟨t, valAt wk p, rfl, h4, fun z => valAt_pos G hR he z, fun t' H5 e5 h5 => q' t' H5 (e4.trans e5) h5⟩⟩) fun wt H3 e3 h3 => ?_
      have e13 := e12.trans e3
      have hml := moves_len F hR
      have hEl := el_lcL (K := K) (σ := [some (.ref s), some (.ref ra), some (.ref mv), some (.ref wt), none, none]) (H := H3) (a := mv) (xs := IL (Lm.moves wk.game p)) (j := 5) (vs := [5]) (t := tTest (tOp (rEqD K) (tCall (sp_value_solved (K := K)) [] E0 (tCons (tVar 0) (tCons (tCall sp_row_after [] E0 (tCons (tVar 1) (tCons (tVar 5) tNil))) tNil))) (tVar 3))) (tl := tVar 2) (te := tVar 5)
        (fun i => decide (valAt wk (Lm.after wk.game p ((Lm.moves wk.game p).getD i 0)) = wanted (valAt wk p))) (fun i => V.int (((Lm.moves wk.game p).getD i 0 : Nat) : Int)) (ev_var rfl) (sq_of ((e2.trans e3) _ _ h1)) (by rw [IL_len]; omega) (fun x => rfl) (fun i y H4 e4 hy => by
          obtain ⟨m, hm, rfl⟩ := IL_get hy
          have hmm := List.mem_of_getElem? hm
          have hRa := right_after hR hmm
          rw [getD_of hm]
          refine et_test (ev_eqD (K := K) (er_callAL (xs := IL (rowAfter p.at_ p.side m)) (ev_var rfl) (el_callR (ea_cons (ev_var rfl) (ea_cons (ev_var rfl) ea_nil)) fun H5 e5 Q' q' => ⟨ra, p.at_, p.side, m, rfl, ((e13.trans e4).trans e5) _ _ hra, hside, by have := F.np.2; have := (right_iff.mp hR).1; omega, move_ok hmm, q'⟩) fun H5 pp e5 hpp Q' q' => ?_) (ev_var rfl) (e4 _ _ h3))
          rw [rowAfter_is (g := wk.game) (right_iff.mp hR).1] at hpp
          exact ⟨s, ga, pp, wk, Lm.after wk.game p m, rfl, SolAt.mono _ _ ((e13.trans e4).trans e5) hS, GAt.mono _ _ ((e13.trans e4).trans e5) hG, F, hpp, hRa, hsv, q'⟩) (fun i y H4 e4 hy _ => by
          obtain ⟨m, hm, rfl⟩ := IL_get hy
          rw [getD_of hm]
          exact ev_var rfl)
      rw [IL_len, given_filter (f := fun m => decide (valAt wk (Lm.after wk.game p m) = wanted (valAt wk p)))] at hEl
      refine q_asgL hEl fun kp H4 hkp e4 h4 => ?_
      obtain ⟨m, hbest, hmm, hval⟩ := best_is G hsv hR he
      have hf0 : ((Lm.moves wk.game p).filter fun m => decide (valAt wk (Lm.after wk.game p m) = wanted (valAt wk p)))[0]? = some m := by
        rw [← List.head?_eq_getElem?, List.head?_filter]
        exact (best_eq G hsv hR he).symm.trans hbest
      exact s_ret (ev_op (ev_var rfl) ev_c (rv_ixL (K := K) (v := .int (m : Nat)) (sq_of h4) (atI_IL (j := 0) hf0))) fun H5 e5 => q2 m hb hbest H5 ((e13.trans e4).trans e5)
/-! ### best_line -/
theorem line_succ (wk : Lm.Work) (n : Nat) (p : Lm.Pos) {m : Nat} (h : wk.best p = some m) : wk.line (n + 1) p = m :: wk.line n (Lm.after wk.game p m) := by
  show (match wk.best p with | some m => m :: wk.line n (Lm.after wk.game p m) | none => []) = _
  rw [h]
theorem known_open {wk : Lm.Work} (G : Good wk) {p : Lm.Pos} (hR : Lm.rightPos wk.game p = true) (h : (valAt wk p).1 = Lm.WIN ∨ (valAt wk p).1 = Lm.LOSS) (hn : 0 < (valAt wk p).2) : Lm.ended wk.game p = none := by
  rcases valAt_cases G p with z | ⟨_, z⟩
  · rw [z] at hn
    exact absurd hn (by decide)
  · have := ((G.known _ _ _ z).2.2.2.2 hn).1
    rw [posAt_index hR] at this
    exact this
def sp_best_line : Sp := fun vs H Q E => ∃ (s ga ra : Addr) (wk : Lm.Work) (p : Lm.Pos), vs = [.ref s, .ref ra] ∧ SolAt K H s ga wk ∧ GAt K H ga wk.game ∧ Fit wk.game ∧ H ra = some (.lst (IL (LmCalls.posNums p))) ∧ Lm.rightPos wk.game p = true ∧ wk.solved = true ∧ wk.rounds ≤ 1000 ∧ ((valAt wk p).1 = Lm.DRAW → Refuses K E H [-7]) ∧ ((valAt wk p).1 ≠ Lm.DRAW → RetL (IL (wk.line (valAt wk p).2 p)) H Q)
abbrev s_best_line : Stmt := top 65
abbrev n_best_line : List Str := ["solving", "row", "value", "line", "current", "move"]
theorem sc_best_line : FnScope n_best_line ["solving", "row"] (defScope s_best_line) := ⟨rfl, rfl, rfl, by decide +kernel, rfl, by decide +kernel, by decide +kernel⟩
theorem ok_best_line (T : Env K mg) : Cal P w K mg base (L2.CX P w) 5 "best_line" (sp_best_line (K := K)) := by
  refine T.d_best_line.cal sc_best_line (fun _ _ _ _ _ _ us hl => match us, hl with | [_, _], _ => rfl) (fun vs H Q E h => ?_) (fun f cdv A outer s H vs Q E hr h => ⟨_, (pss_cons (ps_set (i := 2) sc_best_line.nd rfl (Or.inl rfl) (pe_c (ok_value_solved T) hr (by decide) (by rfl) pass0 (pa_cons (pv 0) (pa_cons (pv 1) pa_nil)))) (pss_cons (ps_if (pt_cmpR op_eq (pe_ix ix_tup (pv 2) pe_int (fun _ _ => rfl)) (pe_gv (by rfl) T.v_DRAW) (nomark _)) (pss_one (ps_raise rfl (takes_of rfl rfl rfl rfl) (pmkE0 T.e_Drawn (er_Drawn T) hr (by decide) (by rfl) T.g_Drawn))) pss_nil) (pss_cons (ps_set (i := 3) sc_best_line.nd rfl (Or.inl rfl) (pe_lst pa_nil)) (pss_cons (ps_set (i := 4) sc_best_line.nd rfl (Or.inl rfl) (pv 1)) (pss_cons (ps_while (passes_of rfl) (pt_cmpR op_lt (pe_callB call_len_seq (by rfl) T.f_len PySem.boot_len (pa_cons (pv 3) pa_nil)) (pe_ix ix_tup (pv 2) pe_int (fun _ _ => rfl)) (nomark _)) (pss_cons (ps_set (i := 5) sc_best_line.nd rfl (Or.inl rfl) (pe_c (ok_best_move T) hr (by decide) (by rfl) (passes_call (takes_of rfl rfl rfl rfl) (fun _ _ _ _ h => h)) (pa_cons (pv 0) (pa_cons (pv 4) pa_nil)))) (pss_cons (ps_expr (pe_bm PySem.F.plainAttrs_list PySem.F.slot_list_append PySem.F.type_list_append mt_append (pv 3) (pa_cons (pv 5) pa_nil))) (pss_one (ps_set (i := 4) sc_best_line.nd rfl (Or.inl rfl) (pe_c (ok_row_after T) hr (by decide) (by rfl) pass0 (pa_cons (pv 4) (pa_cons (pv 5) pa_nil)))))))) (pss_one (ps_ret (pv 3)))))))), ?_⟩)
  · obtain ⟨s, ga, ra, wk, p, rfl, _⟩ := h
    rfl
  · obtain ⟨s, ga, ra, wk, p, rfl, hS, hG, F, hra, hR, hsv, hrd, q1, q2⟩ := h
    have hS' := hS
    obtain ⟨dx, kn, ld, KP, LP, S⟩ := hS'
    have G := S.good
    refine q_asgR (v := valAt wk p) (er_callR (ea_cons (ev_var rfl) (ea_cons (ev_var rfl) ea_nil)) fun H1 e1 Q' q' => ⟨s, ga, ra, wk, p, rfl, SolAt.mono _ _ e1 hS, GAt.mono _ _ e1 hG, F, e1 _ _ hra, hR, hsv, q'⟩) fun vt H1 e1 h1 => ?_
    refine q_when (b := decide ((valAt wk p).1 = 0)) (et_is (et_test (ev_op (ev_op (ev_var rfl) ev_c (rv_ixT (K := K) (v := .int ((valAt wk p).1 : Nat)) (st_of h1) rfl)) ev_c (rv_eq rfl))) (dec_nat (b := 0))) ?_ ?_
    · intro hb H2 e2
      rw [decide_eq_true_eq] at hb
      exact raise0 T.e_Drawn T.r_Drawn ((q1 hb).mono (e1.trans e2))
    · intro hb H2 e2
      rw [decide_eq_false_iff_not] at hb
      have e12 := e1.trans e2
      have q2 := q2 hb
      have hwl : (valAt wk p).1 = Lm.WIN ∨ (valAt wk p).1 = Lm.LOSS := by
        rcases valAt_cases G p with z | ⟨z, _⟩
        · rw [z] at hb; exact absurd rfl hb
        · exact z
      have hvr : (valAt wk p).2 ≤ 1000 := by
        rcases valAt_cases G p with z | ⟨_, z⟩
        · rw [z]; exact Nat.zero_le _
        · have := (G.known _ (valAt wk p).1 (valAt wk p).2 z).2.1
          omega
      generalize hvv : valAt wk p = vv at *
      obtain ⟨v1, v2⟩ := vv
      refine q_lnew fun ln hln => ?_
      have hln0 : H ln = none := fresh_back e12 hln
      refine q_asg (ev_var rfl) fun H4 e4 => ?_
      have e3 : Ex H2 (upd H2 ln (.lst [])) := Ex.new hln
      refine q_while (fun k σ H' => ∃ (cur : Addr) (acc : List Nat) (pj : Lm.Pos) (u : Option V), σ = [some (.ref s), some (.ref ra), some (.ref vt), some (.ref ln), some (.ref cur), u] ∧ cur ≠ ln ∧ Ex H2 H' ∧ H' ln = some (.lst (IL acc)) ∧ H' cur = some (.lst (IL (LmCalls.posNums pj))) ∧ Lm.rightPos wk.game pj = true ∧ acc.length + k = v2 ∧ acc ++ wk.line k pj = wk.line v2 p ∧ (valAt wk pj).2 = k ∧ ((valAt wk pj).1 = Lm.WIN ∨ (valAt wk pj).1 = Lm.LOSS)) v2
        ⟨ra, [], p, none, rfl, ne_of_none (e12 _ _ hra) hln, e3.trans e4, e4 _ _ upd_same, (e3.trans e4) _ _ (e12 _ _ hra), hR, by simp, rfl, by rw [hvv], by rw [hvv]; exact hwl⟩ ?_
      rintro k σ' H' ⟨cur, acc, pj, u, rfl, ncl, e5, hln5, hcur, hRj, hk, hline, hvk, hvw⟩
      have e05 := e12.trans e5
      refine ⟨decide (acc.length < v2), et_is (et_test (ev_op (ev_lenS (K := K) (ev_var rfl) (sq_of hln5)) (ev_op (ev_var rfl) ev_c (rv_ixT (K := K) (v := .int (v2 : Nat)) (st_of ((e2.trans e5) _ _ h1)) rfl)) rv_I0)) ?_, ?_, ?_⟩
      · rw [IL_len, decide_eq_decide]
        omega
      · intro hc H6 e6
        rw [decide_eq_true_eq] at hc
        obtain ⟨k', rfl⟩ : ∃ k', k = k' + 1 := ⟨k - 1, by omega⟩
        have heJ := known_open G hRj hvw (by omega)
        have hmJ := (ended_none_iff (right_iff.mp hRj).2.1).mp heJ
        obtain ⟨m, hbest, hmm, hval⟩ := best_is G hsv hRj heJ
        have hRa := right_after hRj hmm
        have e06 := e05.trans e6
        refine ⟨fun σ2 H7 => ∃ (cur : Addr) (acc : List Nat) (pj : Lm.Pos) (u : Option V), σ2 = [some (.ref s), some (.ref ra), some (.ref vt), some (.ref ln), some (.ref cur), u] ∧ cur ≠ ln ∧ Ex H2 H7 ∧ H7 ln = some (.lst (IL acc)) ∧ H7 cur = some (.lst (IL (LmCalls.posNums pj))) ∧ Lm.rightPos wk.game pj = true ∧ acc.length + k' = v2 ∧ acc ++ wk.line k' pj = wk.line v2 p ∧ (valAt wk pj).2 = k' ∧ ((valAt wk pj).1 = Lm.WIN ∨ (valAt wk pj).1 = Lm.LOSS), fun σ2 H7 h => ⟨k', by omega, h⟩, ?_⟩
        refine ⟨_, rfl, _, rfl, s, ga, cur, wk, pj, rfl, SolAt.mono _ _ e06 hS, GAt.mono _ _ e06 hG, F, e6 _ _ hcur, hRj, hsv, fun z => absurd z hmJ, fun m' _ hb' => ?_⟩
        rw [hbest] at hb'
        have hb' := Option.some.inj hb'
        subst hb'
        intro H7 e7
        have e67 := e6.trans e7
        refine q_app (K := K) (l := ln) (e67 _ _ hln5) (ev_var rfl) (ev_var rfl) (by rw [IL_len]; omega) fun H8 e8 => ?_
        have e58 := e67.trans e8
        have e9 : Ex H2 (upd H8 ln (.lst (IL acc ++ [V.int (m : Nat)]))) := Ex.mut (e5.trans e58) hln
        have hcur9 : upd H8 ln (.lst (IL acc ++ [V.int (m : Nat)])) cur = some (.lst (IL (LmCalls.posNums pj))) := (upd_ne ncl).trans (e58 _ _ hcur)
        refine s_asgL (xs := IL (rowAfter pj.at_ pj.side m)) (el_callR (ea_cons (ev_var rfl) (ea_cons (ev_var rfl) ea_nil)) fun H10 e10 Q' q' => ⟨cur, pj.at_, pj.side, m, rfl, e10 _ _ hcur9, (right_iff.mp hRj).2.1, by have := F.np.2; have := (right_iff.mp hRj).1; omega, move_ok hmm, q'⟩) fun nc H10 hnc e10 h10 => ?_
        rw [rowAfter_is (g := wk.game) (right_iff.mp hRj).1] at h10
        have hnl : nc ≠ ln := fun z => by rw [z, upd_same] at hnc; cases hnc
        refine ⟨nc, acc ++ [m], Lm.after wk.game pj m, _, rfl, hnl, e9.trans e10, ?_, h10, hRa, by rw [List.length_append, List.length_singleton]; omega, ?_, ?_, ?_⟩
        · rw [e10 _ _ upd_same, IL_snoc]
        · rw [← hline, line_succ wk k' pj hbest, List.append_assoc]
          rfl
        · rw [hval]
          unfold wanted
          rcases hvw with z | z
          · rw [if_pos z]; show (valAt wk pj).2 - 1 = k'; omega
          · rw [if_neg (by rw [z]; decide), if_pos z]; show (valAt wk pj).2 - 1 = k'; omega
        · rw [hval]
          unfold wanted
          rcases hvw with z | z
          · rw [if_pos z]; exact Or.inr rfl
          · rw [if_neg (by rw [z]; decide), if_pos z]; exact Or.inl rfl
      · intro hc H6 e6
        rw [decide_eq_false_iff_not] at hc
        have hk0 : k = 0 := by omega
        subst hk0
        refine s_ret (ev_var rfl) fun H7 e7 => q2 ln H7 hln0 ((e05.trans e6).trans e7) ?_
        rw [(e6.trans e7) _ _ hln5, ← hline]
        rw [show wk.line 0 pj = [] from rfl, List.append_nil]
end
end Es
end

section
set_option Elab.async false
set_option linter.all false
set_option maxRecDepth 100000
set_option maxHeartbeats 4000000
namespace Es
open PySem PySem.Spec PyProof.Rows L2 Evl
/-! ### fields of bytes -/
theorem num1 {s : List Nat} {o v : Nat} (h : s[o]? = some v) : Lm.num s o 1 = v := by
  unfold Lm.num
  obtain ⟨hl, hv⟩ := List.getElem?_eq_some_iff.mp h
  rw [List.drop_eq_getElem_cons hl, hv]
  rfl
theorem num_succ {s : List Nat} {o j v : Nat} (h : s[o + j]? = some v) : Lm.num s o (j + 1) = Lm.num s o j + v * 256 ^ j := by
  unfold Lm.num
  have key : ∀ (l : List Nat) (j v : Nat), l[j]? = some v → (l.take (j + 1)).foldr (fun b x => b + 256 * x) 0 = (l.take j).foldr (fun b x => b + 256 * x) 0 + v * 256 ^ j := by
    intro l
    induction l with
    | nil => intro j v h; simp at h
    | cons a l ih =>
      intro j v h
      cases j with
      | zero =>
        have h : a = v := by simpa using h
        subst h
        simp
      | succ j =>
        have h : l[j]? = some v := h
        have := ih j v h
        rw [List.take_succ_cons, List.take_succ_cons, List.foldr_cons, List.foldr_cons, this, Nat.mul_add, Nat.pow_succ]
        have : 256 * (v * 256 ^ j) = v * (256 ^ j * 256) := by
          rw [Nat.mul_comm 256, Nat.mul_assoc]
        omega
  exact key (s.drop o) j v (by rw [List.getElem?_drop]; exact h)
theorem num_lt {s : List Nat} (hs : ∀ b ∈ s, b < 256) (o : Nat) : ∀ j, Lm.num s o j < 256 ^ j := by
  have key : ∀ (l : List Nat) (j : Nat), (∀ b ∈ l, b < 256) → (l.take j).foldr (fun b x => b + 256 * x) 0 < 256 ^ j := by
    intro l
    induction l with
    | nil => intro j _; simp; exact Nat.pow_pos (by decide)
    | cons a l ih =>
      intro j h
      cases j with
      | zero => simp
      | succ j =>
        have h1 := ih j fun b hb => h b (List.mem_cons_of_mem _ hb)
        have h2 := h a (List.mem_cons_self ..)
        rw [List.take_succ_cons, List.foldr_cons, Nat.pow_succ]
        omega
  exact fun j => key (s.drop o) j fun b hb => hs b (List.mem_of_mem_drop hb)
theorem field_short {s : List Nat} {o w : Nat} {ok : Nat → Bool} (h : s.length < o + w) : Lm.field s o w ok = .error s.length := by unfold Lm.field; rw [if_pos h]
theorem field_ok {s : List Nat} {o w : Nat} {ok : Nat → Bool} (h : ¬ s.length < o + w) (h2 : ok (Lm.num s o w) = true) : Lm.field s o w ok = .ok (Lm.num s o w) := by unfold Lm.field; rw [if_neg h, if_pos h2]
theorem field_bad {s : List Nat} {o w : Nat} {ok : Nat → Bool} (h : ¬ s.length < o + w) (h2 : ok (Lm.num s o w) = false) : Lm.field s o w ok = .error o := by unfold Lm.field; rw [if_neg h, if_neg (by rw [h2]; exact Bool.false_ne_true)]
/-- all but one object stands -/
def Off1 (p : Addr) (H H' : Hp) : Prop := ∀ a o, H a = some o → a ≠ p → H' a = some o
theorem Off1.ex {p : Addr} {H H1 H' : Hp} (e : Ex H H1) (h : Off1 p H1 H') : Off1 p H H' := fun a o q n => h a o (e _ _ q) n
theorem Off1.trans {p : Addr} {H H1 H2 : Hp} (a : Off1 p H H1) (b : Off1 p H1 H2) : Off1 p H H2 := fun x o q n => b x o (a x o q n) n
theorem Off1.base {p : Addr} {H0 H H' : Hp} (e : Ex H0 H) (h0 : H0 p = none) (h : Off1 p H H') : Ex H0 H' := fun a o q => h a o (e _ _ q) (ne_of_none q h0)
section
variable {P : Program} {w : World} {K : Fr} {mg : Str → Option Value} {base : Heap}
def RdAt (K : Fr) (H : Hp) (rd dx ln : Addr) (o : Nat) : Prop := H rd = some (.ins (CA K "ByteReader") dx [("numbers", .ref ln), ("place", .int (o : Nat))])
/-! ### ByteReader -/
def sp_ByteReader : Sp := fun vs H Q _ => ∃ p dx a, vs = [.ref p, a] ∧ H p = some (.ins (CA K "ByteReader") dx []) ∧ Q .non (upd H p (.ins (CA K "ByteReader") dx [("numbers", a), ("place", .int 0)]))
abbrev s_ByteReader___init__ : Stmt := inClass (top 74) 0
abbrev n_ByteReader___init__ : List Str := ["self", "numbers"]
theorem sc_ByteReader___init__ : FnScope n_ByteReader___init__ ["self", "numbers"] (defScope s_ByteReader___init__) := ⟨rfl, rfl, rfl, by decide +kernel, rfl, by decide +kernel, by decide +kernel⟩
theorem mk_ByteReader (T : Env K mg) : Mak P w K mg base CX0 1 (CA K "ByteReader") (sp_ByteReader (K := K)) := by
  refine T.k_ByteReader.mak sc_ByteReader___init__ (fun _ _ _ _ _ _ us hl => match us, hl with | [_, _], _ => rfl) (fun vs H Q E h => ?_) (Body0.by fun f cdv A outer s H vs Q E hr h => ⟨_, (pss_cons (ps_fld (pv 0) (pv 1) rfl) (pss_one (ps_fld (pv 0) pe_int rfl))), ?_⟩)
  · obtain ⟨p, dx, a, rfl, _⟩ := h
    rfl
  · obtain ⟨p, dx, a, rfl, hp, q⟩ := h
    refine ⟨_, rfl, _, rfl, p, _, dx, _, rfl, hp, T.c_ByteReader, T.n_ByteReader_numbers, (by show 0 < 1000; decide), ?_⟩
    refine ⟨_, rfl, p, _, dx, _, rfl, upd_same, T.c_ByteReader, T.n_ByteReader_place, (by show 1 < 1000; decide), ?_⟩
    rw [upd_upd]
    exact q
theorem raise_fault {T : Env K mg} {σ : L2.St} {H : Hp} {E : XK} {n : Nat} {te : TE} (h : Ev te σ H (.int (n : Nat))) (R : Refuses K E H [-1, (n : Int)]) : tMkE (CA K "Fault") (spE1 K) (tCons te tNil) σ H fun cls d H' => E cls d H' :=
  raise_err (ws := [.int (n : Nat)]) T.e_Fault T.r_Fault (ea_cons h ea_nil) ⟨n, rfl⟩ rfl (by show 1 ≤ 1000; decide) R
def sp_need : Sp := fun vs H Q E => ∃ (rd dx ln : Addr) (s : List Nat) (o wd : Nat), vs = [.ref rd, .int (wd : Nat)] ∧ RdAt K H rd dx ln o ∧ H ln = some (.lst (IL s)) ∧ (s.length < o + wd → Refuses K E H [-1, (s.length : Nat)]) ∧ (¬ s.length < o + wd → RetV .non H Q)
abbrev s_ByteReader_need : Stmt := inClass (top 74) 1
abbrev n_ByteReader_need : List Str := ["self", "length"]
theorem sc_ByteReader_need : FnScope n_ByteReader_need ["self", "length"] (defScope s_ByteReader_need) := ⟨rfl, rfl, rfl, by decide +kernel, rfl, by decide +kernel, by decide +kernel⟩
theorem me_ByteReader_need (T : Env K mg) : Met P w K mg base (L2.CX P w) 4 (CA K "ByteReader") "need" (sp_need (K := K)) := by
  refine T.m_ByteReader_need.met sc_ByteReader_need (fun _ _ _ _ _ _ us hl => match us, hl with | [_, _], _ => rfl) (fun vs H Q E h => ?_) (fun f cdv A outer s H vs Q E hr h => ⟨_, (pss_one (ps_if (pt_cmpR op_gt (pe_op op_add (pe_fld (pv 0) rfl) (pv 1)) (pe_callB call_len_seq (by rfl) T.f_len PySem.boot_len (pa_cons (pe_fld (pv 0) rfl) pa_nil)) (nomark _)) (pss_one (ps_raise rfl (takes_of rfl rfl rfl rfl) (pmkE T.e_Fault (er_Fault T) hr (by decide) (by rfl) T.g_Fault (pa_cons (pe_callB call_len_seq (by rfl) T.f_len PySem.boot_len (pa_cons (pe_fld (pv 0) rfl) pa_nil)) pa_nil)))) pss_nil)), ?_⟩)
  · obtain ⟨rd, dx, ln, s, o, wd, rfl, _⟩ := h
    rfl
  · obtain ⟨rd, dx, ln, s, o, wd, rfl, hrd, hln, q1, q2⟩ := h
    refine s_when (b := decide (s.length < o + wd)) (et_is (et_test (ev_op (ev_op (ev_fld (ev_var rfl) hrd T.c_ByteReader T.n_ByteReader_place rfl) (ev_var rfl) rv_I0) (ev_lenS (K := K) (ev_fld (ev_var rfl) hrd T.c_ByteReader T.n_ByteReader_numbers rfl) (sq_of hln)) rv_I0)) ?_) ?_ ?_
    · rw [IL_len, decide_eq_decide]
      omega
    · intro hb H1 e1
      rw [decide_eq_true_eq] at hb
      refine raise_fault (T := T) (n := s.length) (ev_is (ev_lenS (K := K) (ev_fld (ev_var rfl) (e1 _ _ hrd) T.c_ByteReader T.n_ByteReader_numbers rfl) (sq_of (e1 _ _ hln))) (by rw [IL_len])) ((q1 hb).mono e1)
    · intro hb H1 e1
      rw [decide_eq_false_iff_not] at hb
      exact q2 hb H1 e1
/-- a call of self.need(w) ahead of what follows -/
theorem q_need {T : Env K mg} {σ : L2.St} {H : Hp} {D : Ends} {tz : TS} {E : XK} {rd dx ln : Addr} {s : List Nat} {o wd : Nat} {z : Int} (hz : z = (wd : Int)) (h0 : σ[0]? = some (some (.ref rd))) (hrd : RdAt K H rd dx ln o) (hln : H ln = some (.lst (IL s))) (q1 : s.length < o + wd → Refuses K E H [-1, (s.length : Nat)]) (q2 : ¬ s.length < o + wd → ∀ H1, Ex H H1 → tz D σ H1) :
    tSeq (tDrop (tMeth (CA K "ByteReader") "need" (sp_need (K := K)) [] E (tVar 0) (tCons (tC (.int z)) tNil))) tz D σ H := by
  subst hz
  exact ⟨_, h0, rd, dx, _, rfl, hrd, rfl, rd, dx, ln, s, o, wd, rfl, hrd, hln, q1, fun c H1 e1 => q2 c H1 e1⟩
def sp_byte : Sp := fun vs H Q E => ∃ (rd dx ln : Addr) (s : List Nat) (o l h : Nat), vs = [.ref rd, .int (l : Nat), .int (h : Nat)] ∧ RdAt K H rd dx ln o ∧ H ln = some (.lst (IL s)) ∧ (∀ v, Lm.field s o 1 (Lm.within l h) = .ok v → ∀ H', Off1 rd H H' → RdAt K H' rd dx ln (o + 1) → Q (.int (v : Nat)) H') ∧ (∀ e, Lm.field s o 1 (Lm.within l h) = .error e → Refuses K E H [-1, (e : Nat)])
abbrev s_ByteReader_byte : Stmt := inClass (top 74) 2
abbrev n_ByteReader_byte : List Str := ["self", "least", "most", "number"]
theorem sc_ByteReader_byte : FnScope n_ByteReader_byte ["self", "least", "most"] (defScope s_ByteReader_byte) := ⟨rfl, rfl, rfl, by decide +kernel, rfl, by decide +kernel, by decide +kernel⟩
theorem me_ByteReader_byte (T : Env K mg) : Met P w K mg base (L2.CX P w) 5 (CA K "ByteReader") "byte" (sp_byte (K := K)) := by
  refine T.m_ByteReader_byte.met sc_ByteReader_byte (fun _ _ _ _ _ _ us hl => match us, hl with | [_, _, _], _ => rfl) (fun vs H Q E h => ?_) (fun f cdv A outer s H vs Q E hr h => ⟨_, (pss_cons (ps_expr (pe_mt (me_ByteReader_need T) T.c_ByteReader hr (by decide) (pv 0) (passes_call (takes_of rfl rfl rfl rfl) (fun _ _ _ _ h => h)) (pa_cons pe_int pa_nil))) (pss_cons (ps_set (i := 3) sc_ByteReader_byte.nd rfl (Or.inl rfl) (pe_ix ix_list (pe_fld (pv 0) rfl) (pe_fld (pv 0) rfl) (fun _ _ => rfl))) (pss_cons (ps_if (PW.pt (pw_or (pt_cmpR op_lt (pv 3) (pv 1) (nomark _)) (pw_or1 (pt_cmpR op_gt (pv 3) (pv 2) (nomark _))))) (pss_one (ps_raise rfl (takes_of rfl rfl rfl rfl) (pmkE T.e_Fault (er_Fault T) hr (by decide) (by rfl) T.g_Fault (pa_cons (pe_fld (pv 0) rfl) pa_nil)))) pss_nil) (pss_cons (ps_fld (pv 0) (pe_op op_add (pe_fld (pv 0) rfl) pe_int) rfl) (pss_one (ps_ret (pv 3))))))), ?_⟩)
  · obtain ⟨rd, dx, ln, s, o, l, h', rfl, _⟩ := h
    rfl
  · obtain ⟨rd, dx, ln, s, o, l, h', rfl, hrd, hln, q1, q2⟩ := h
    refine q_need (T := T) (wd := 1) rfl rfl hrd hln (fun c => q2 _ (field_short c)) fun c H1 e1 => ?_
    obtain ⟨v, hv⟩ : ∃ v, s[o]? = some v := ⟨_, List.getElem?_eq_getElem (by omega)⟩
    refine q_asg (ev_op (ev_fld (ev_var rfl) (e1 _ _ hrd) T.c_ByteReader T.n_ByteReader_numbers rfl) (ev_fld (ev_var rfl) (e1 _ _ hrd) T.c_ByteReader T.n_ByteReader_place rfl) (rv_ixL (K := K) (sq_of (e1 _ _ hln)) (atI_IL hv))) fun H2 e2 => ?_
    have e12 := e1.trans e2
    refine q_when (b := !Lm.within l h' v) (et_is (et_or (et_test (ev_op (ev_var rfl) (ev_var rfl) rv_I0)) (fun _ => et_test (ev_op (ev_var rfl) (ev_var rfl) rv_I0))) ?_) ?_ ?_
    · unfold Lm.within
      rw [Bool.eq_iff_iff]
      simp only [Bool.or_eq_true, decide_eq_true_eq, Bool.not_eq_true', Bool.and_eq_false_iff, decide_eq_false_iff_not]
      omega
    · intro hb H3 e3
      rw [Bool.not_eq_true'] at hb
      refine raise_fault (T := T) (n := o) (ev_fld (ev_var rfl) ((e12.trans e3) _ _ hrd) T.c_ByteReader T.n_ByteReader_place rfl) ((q2 o (field_bad c (by rw [num1 hv]; exact hb))).mono (e12.trans e3))
    · intro hb H3 e3
      rw [Bool.not_eq_false'] at hb
      have e13 := e12.trans e3
      refine q_fld (C := CA K "ByteReader") (ev_op (ev_fld (ev_var rfl) (e13 _ _ hrd) T.c_ByteReader T.n_ByteReader_place rfl) ev_c rv_I0) (ev_var rfl) (e13 _ _ hrd) T.c_ByteReader T.n_ByteReader_place (by show 2 < 1000; decide) fun H4 e4 => ?_
      have hf := field_ok (ok := Lm.within l h') c (by rw [num1 hv]; exact hb)
      rw [num1 hv] at hf
      exact s_ret (ev_var rfl) fun H5 e5 => q1 v hf H5 (fun a o' q n => e5 _ _ ((upd_ne n).trans ((e13.trans e4) _ _ q))) (e5 _ _ upd_same)
/-- a signed byte that may be a step -/
def okS (z : Bool) (x : Nat) : Bool := Lm.isSpan x && (z || x != 0)
def sp_step : Sp := fun vs H Q E => ∃ (rd dx ln : Addr) (s : List Nat) (o : Nat) (z : Bool), vs = [.ref rd, .bl z] ∧ RdAt K H rd dx ln o ∧ H ln = some (.lst (IL s)) ∧ (∀ b ∈ s, b < 256) ∧ (∀ v, Lm.field s o 1 (okS z) = .ok v → ∀ H', Off1 rd H H' → RdAt K H' rd dx ln (o + 1) → Q (.int (Lm.signed8 v)) H') ∧ (∀ e, Lm.field s o 1 (okS z) = .error e → Refuses K E H [-1, (e : Nat)])
abbrev s_ByteReader_step : Stmt := inClass (top 74) 3
abbrev n_ByteReader_step : List Str := ["self", "may_be_zero", "number"]
theorem sc_ByteReader_step : FnScope n_ByteReader_step ["self", "may_be_zero"] (defScope s_ByteReader_step) := ⟨rfl, rfl, rfl, by decide +kernel, rfl, by decide +kernel, by decide +kernel⟩
theorem me_ByteReader_step (T : Env K mg) : Met P w K mg base (L2.CX P w) 5 (CA K "ByteReader") "step" (sp_step (K := K)) := by
  refine T.m_ByteReader_step.met sc_ByteReader_step (fun _ _ _ _ _ _ us hl => match us, hl with | [_, _], _ => rfl) (fun vs H Q E h => ?_) (fun f cdv A outer s H vs Q E hr h => ⟨_, (pss_cons (ps_expr (pe_mt (me_ByteReader_need T) T.c_ByteReader hr (by decide) (pv 0) (passes_call (takes_of rfl rfl rfl rfl) (fun _ _ _ _ h => h)) (pa_cons pe_int pa_nil))) (pss_cons (ps_set (i := 2) sc_ByteReader_step.nd rfl (Or.inl rfl) (pe_ix ix_list (pe_fld (pv 0) rfl) (pe_fld (pv 0) rfl) (fun _ _ => rfl))) (pss_cons (ps_if (pt_cmpR op_gt (pv 2) pe_int (nomark _)) (pss_one (ps_set (i := 2) sc_ByteReader_step.nd rfl (Or.inl rfl) (pe_op op_sub (pv 2) pe_int))) pss_nil) (pss_cons (ps_if (PW.pt (pw_or (pt_cmpR op_gt (pe_callB call_abs (by rfl) T.f_abs (by decide +kernel) (pa_cons (pv 2) pa_nil)) pe_int (nomark _)) (pw_or1 (PW.pt (pw_and (pt_cmpR op_eq (pv 2) pe_int (nomark _)) (pw_and1 (pt_not (pt_val (pv 1))))))))) (pss_one (ps_raise rfl (takes_of rfl rfl rfl rfl) (pmkE T.e_Fault (er_Fault T) hr (by decide) (by rfl) T.g_Fault (pa_cons (pe_fld (pv 0) rfl) pa_nil)))) pss_nil) (pss_cons (ps_fld (pv 0) (pe_op op_add (pe_fld (pv 0) rfl) pe_int) rfl) (pss_one (ps_ret (pv 2)))))))), ?_⟩)
  · obtain ⟨rd, dx, ln, s, o, z, rfl, _⟩ := h
    rfl
  · obtain ⟨rd, dx, ln, s, o, z, rfl, hrd, hln, hby, q1, q2⟩ := h
    refine q_need (T := T) (wd := 1) rfl rfl hrd hln (fun c => q2 _ (field_short c)) fun c H1 e1 => ?_
    obtain ⟨v, hv⟩ : ∃ v, s[o]? = some v := ⟨_, List.getElem?_eq_getElem (by omega)⟩
    have hv256 := hby v (List.mem_of_getElem? hv)
    refine q_asg (ev_op (ev_fld (ev_var rfl) (e1 _ _ hrd) T.c_ByteReader T.n_ByteReader_numbers rfl) (ev_fld (ev_var rfl) (e1 _ _ hrd) T.c_ByteReader T.n_ByteReader_place rfl) (rv_ixL (K := K) (sq_of (e1 _ _ hln)) (atI_IL hv))) fun H2 e2 => ?_
    have e12 := e1.trans e2
    refine q_ifAsg (b := decide (127 < (v : Int))) (v := .int (Lm.signed8 v)) (et_test (ev_op (ev_var rfl) ev_c rv_I0)) (fun hb => ?_) (fun hb => ?_) fun H3 e3 => ?_
    · rw [decide_eq_true_eq] at hb
      refine ev_is (ev_op (ev_var rfl) ev_c rv_I0) ?_
      unfold Lm.signed8
      rw [if_neg (by omega)]
    · rw [decide_eq_false_iff_not] at hb
      have : Lm.signed8 v = (v : Int) := by unfold Lm.signed8; rw [if_pos (by omega)]
      rw [this]
      rfl
    · have e13 := e12.trans e3
      have hsv : (v : Int) = Lm.signed8 v ∨ (v : Int) = Lm.signed8 v + 256 := by unfold Lm.signed8; split <;> omega
      have hs0 : Lm.signed8 v = 0 ↔ v = 0 := by unfold Lm.signed8; split <;> omega
      have habs : Ev (tCB (fun xs H Q => ∃ i, xs = [.int i] ∧ Q (.int (if i < 0 then -i else i)) H) (tCons (tVar 2) tNil)) [some (.ref rd), some (.bl z), some (.int (Lm.signed8 v))] H3 (.int (if Lm.signed8 v < 0 then -Lm.signed8 v else Lm.signed8 v)) := fun H4 e4 Q' q' => ⟨_, rfl, _, rfl, q' H4 (Ex.refl H4)⟩
      refine q_when (b := !okS z v) (et_is (et_or (et_test (ev_op habs ev_c rv_I0)) (fun _ => et_and (et_test (ev_op (ev_var rfl) ev_c (rv_eq rfl))) (fun _ => et_not (et_B (ev_var rfl))))) ?_) ?_ ?_
      · unfold okS Lm.isSpan
        rw [dec_int, Bool.eq_iff_iff]
        cases z
        · simp only [Bool.or_eq_true, Bool.and_eq_true, decide_eq_true_eq, Bool.not_eq_true', Bool.and_eq_false_iff, decide_eq_false_iff_not, Bool.not_false, and_true, Bool.false_or, bne_eq_false_iff_eq]
          rw [hs0]
          split <;> omega
        · simp only [Bool.or_eq_true, Bool.and_eq_true, decide_eq_true_eq, Bool.not_eq_true', Bool.and_eq_false_iff, decide_eq_false_iff_not, Bool.not_true, Bool.false_eq_true, and_false, or_false, Bool.true_or, Bool.true_eq_false]
          split <;> omega
      · intro hb H4 e4
        rw [Bool.not_eq_true'] at hb
        refine raise_fault (T := T) (n := o) (ev_fld (ev_var rfl) ((e13.trans e4) _ _ hrd) T.c_ByteReader T.n_ByteReader_place rfl) ((q2 o (field_bad c (by rw [num1 hv]; exact hb))).mono (e13.trans e4))
      · intro hb H4 e4
        rw [Bool.not_eq_false'] at hb
        have e14 := e13.trans e4
        refine q_fld (C := CA K "ByteReader") (ev_op (ev_fld (ev_var rfl) (e14 _ _ hrd) T.c_ByteReader T.n_ByteReader_place rfl) ev_c rv_I0) (ev_var rfl) (e14 _ _ hrd) T.c_ByteReader T.n_ByteReader_place (by show 2 < 1000; decide) fun H5 e5 => ?_
        have hf := field_ok (ok := okS z) c (by rw [num1 hv]; exact hb)
        rw [num1 hv] at hf
        exact s_ret (ev_var rfl) fun H6 e6 => q1 v hf H6 (fun a o' q n => e6 _ _ ((upd_ne n).trans ((e14.trans e5) _ _ q))) (e6 _ _ upd_same)
def sp_square_set : Sp := fun vs H Q E => ∃ (rd dx ln : Addr) (s : List Nat) (o : Nat), vs = [.ref rd] ∧ RdAt K H rd dx ln o ∧ H ln = some (.lst (IL s)) ∧ (∀ b ∈ s, b < 256) ∧ (¬ s.length < o + 8 → ∀ H', Off1 rd H H' → RdAt K H' rd dx ln (o + 8) → Q (.int (Lm.num s o 8 : Nat)) H') ∧ (s.length < o + 8 → Refuses K E H [-1, (s.length : Nat)])
abbrev s_ByteReader_square_set : Stmt := inClass (top 74) 4
abbrev n_ByteReader_square_set : List Str := ["self", "squares", "offset"]
theorem sc_ByteReader_square_set : FnScope n_ByteReader_square_set ["self"] (defScope s_ByteReader_square_set) := ⟨rfl, rfl, rfl, by decide +kernel, rfl, by decide +kernel, by decide +kernel⟩
theorem me_ByteReader_square_set (T : Env K mg) : Met P w K mg base (L2.CX P w) 5 (CA K "ByteReader") "square_set" (sp_square_set (K := K)) := by
  refine T.m_ByteReader_square_set.met sc_ByteReader_square_set (fun _ _ _ _ _ _ us hl => match us, hl with | [_], _ => rfl) (fun vs H Q E h => ?_) (fun f cdv A outer s H vs Q E hr h => ⟨_, (pss_cons (ps_expr (pe_mt (me_ByteReader_need T) T.c_ByteReader hr (by decide) (pv 0) (passes_call (takes_of rfl rfl rfl rfl) (fun _ _ _ _ h => h)) (pa_cons pe_int pa_nil))) (pss_cons (ps_set (i := 1) sc_ByteReader_square_set.nd rfl (Or.inl rfl) pe_int) (pss_cons (ps_for (passes_of rfl) rfl (pi_range1 (by rfl) T.f_range (pa_cons pe_int pa_nil)) (pg_name (i := 2) sc_ByteReader_square_set.nd rfl (Or.inl rfl)) (pss_one (ps_set (i := 1) sc_ByteReader_square_set.nd rfl (Or.inl rfl) (pe_op op_or (pv 1) (pe_op op_shl (pe_ix ix_list (pe_fld (pv 0) rfl) (pe_op op_add (pe_fld (pv 0) rfl) (pv 2)) (fun _ _ => rfl)) (pe_op op_mul pe_int (pv 2))))))) (pss_cons (ps_fld (pv 0) (pe_op op_add (pe_fld (pv 0) rfl) pe_int) rfl) (pss_one (ps_ret (pv 1))))))), ?_⟩)
  · obtain ⟨rd, dx, ln, s, o, rfl, _⟩ := h
    rfl
  · obtain ⟨rd, dx, ln, s, o, rfl, hrd, hln, hby, q1, q2⟩ := h
    refine q_need (T := T) (wd := 8) rfl rfl hrd hln q2 fun c H1 e1 => ?_
    refine q_asg ev_c fun H2 e2 => ?_
    have e12 := e1.trans e2
    refine q_forR1 (n := 8) (ea_cons ev_c ea_nil) ⟨by decide, by decide⟩ (fun j σ H' => (∃ u, σ = [some (.ref rd), some (.int (Lm.num s o j : Nat)), u]) ∧ Ex H H') (fun H3 e3 => ⟨⟨none, by rfl⟩, e12.trans e3⟩) ?_ ?_
    · rintro j σ' H' hj ⟨⟨u, rfl⟩, e3⟩
      obtain ⟨v, hv⟩ : ∃ v, s[o + j]? = some v := ⟨_, List.getElem?_eq_getElem (by omega)⟩
      have hv256 := hby v (List.mem_of_getElem? hv)
      have hnl := num_lt hby o j
      refine s_asg (ev_is (ev_op (ev_var rfl) (ev_op (ev_op (ev_fld (ev_var rfl) (e3 _ _ hrd) T.c_ByteReader T.n_ByteReader_numbers rfl) (ev_op (ev_fld (ev_var rfl) (e3 _ _ hrd) T.c_ByteReader T.n_ByteReader_place rfl) (ev_var rfl) rv_I0) (rv_ixL (K := K) (v := .int (v : Nat)) (sq_of (e3 _ _ hln)) (atI_nat' (j := o + j) (by omega) (by rw [IL_at, hv]; rfl)))) (ev_op ev_c (ev_var rfl) (rv_I (Or.inl ⟨by decide, by decide⟩))) (rv_I ⟨by omega, by omega, by
        have : (v : Int).natAbs = v := by omega
        rw [this]
        have : (256 : Nat) < 2 ^ 64 := by decide
        omega⟩)) rv_I0) (w := .int (Lm.num s o (j + 1) : Nat)) ?_) fun H4 e4 => ⟨⟨_, rfl⟩, e3.trans e4⟩
      have h8 : (8 * (j : Int)).toNat = 8 * j := by omega
      have hp : (256 : Nat) ^ j = 2 ^ (8 * j) := by rw [Nat.pow_mul]
      rw [h8, Bits.bitOr_join (Int.natCast_nonneg _) (by
        rw [hp] at hnl
        have : ((2 : Int) ^ (8 * j)) = ((2 ^ (8 * j) : Nat) : Int) := by push_cast; rfl
        rw [this]
        omega) (Int.natCast_nonneg _), num_succ hv, hp]
      push_cast
      rfl
    · rintro σ' H' ⟨⟨u, rfl⟩, e3⟩
      refine q_fld (C := CA K "ByteReader") (ev_op (ev_fld (ev_var rfl) (e3 _ _ hrd) T.c_ByteReader T.n_ByteReader_place rfl) ev_c rv_I0) (ev_var rfl) (e3 _ _ hrd) T.c_ByteReader T.n_ByteReader_place (by show 2 < 1000; decide) fun H4 e4 => ?_
      exact s_ret (ev_var rfl) fun H5 e5 => q1 c H5 (fun a o' q n => e5 _ _ ((upd_ne n).trans ((e3.trans e4) _ _ q))) (e5 _ _ upd_same)
def sp_finish : Sp := fun vs H Q E => ∃ (rd dx ln : Addr) (s : List Nat) (o : Nat), vs = [.ref rd] ∧ RdAt K H rd dx ln o ∧ H ln = some (.lst (IL s)) ∧ (o < s.length → Refuses K E H [-1, (o : Nat)]) ∧ (¬ o < s.length → RetV .non H Q)
abbrev s_ByteReader_finish : Stmt := inClass (top 74) 5
abbrev n_ByteReader_finish : List Str := ["self"]
theorem sc_ByteReader_finish : FnScope n_ByteReader_finish ["self"] (defScope s_ByteReader_finish) := ⟨rfl, rfl, rfl, by decide +kernel, rfl, by decide +kernel, by decide +kernel⟩
theorem me_ByteReader_finish (T : Env K mg) : Met P w K mg base (L2.CX P w) 4 (CA K "ByteReader") "finish" (sp_finish (K := K)) := by
  refine T.m_ByteReader_finish.met sc_ByteReader_finish (fun _ _ _ _ _ _ us hl => match us, hl with | [_], _ => rfl) (fun vs H Q E h => ?_) (fun f cdv A outer s H vs Q E hr h => ⟨_, (pss_one (ps_if (pt_cmpR op_lt (pe_fld (pv 0) rfl) (pe_callB call_len_seq (by rfl) T.f_len PySem.boot_len (pa_cons (pe_fld (pv 0) rfl) pa_nil)) (nomark _)) (pss_one (ps_raise rfl (takes_of rfl rfl rfl rfl) (pmkE T.e_Fault (er_Fault T) hr (by decide) (by rfl) T.g_Fault (pa_cons (pe_fld (pv 0) rfl) pa_nil)))) pss_nil)), ?_⟩)
  · obtain ⟨rd, dx, ln, s, o, rfl, _⟩ := h
    rfl
  · obtain ⟨rd, dx, ln, s, o, rfl, hrd, hln, q1, q2⟩ := h
    refine s_when (b := decide (o < s.length)) (et_is (et_test (ev_op (ev_fld (ev_var rfl) hrd T.c_ByteReader T.n_ByteReader_place rfl) (ev_lenS (K := K) (ev_fld (ev_var rfl) hrd T.c_ByteReader T.n_ByteReader_numbers rfl) (sq_of hln)) rv_I0)) ?_) ?_ ?_
    · rw [IL_len, decide_eq_decide]
      omega
    · intro hb H1 e1
      rw [decide_eq_true_eq] at hb
      exact raise_fault (T := T) (n := o) (ev_fld (ev_var rfl) (e1 _ _ hrd) T.c_ByteReader T.n_ByteReader_place rfl) ((q1 hb).mono e1)
    · intro hb H1 e1
      rw [decide_eq_false_iff_not] at hb
      exact q2 hb H1 e1
end
end Es
end

section
set_option Elab.async false
set_option linter.all false
set_option maxRecDepth 100000
set_option maxHeartbeats 4000000
namespace Es
open PySem PySem.Spec PyProof.Rows L2 Evl
section
variable {P : Program} {w : World} {K : Fr} {mg : Str → Option Value} {base : Heap}
/-! ### heaps in which the reader alone changes -/
theorem Off1.refl (p : Addr) (H : Hp) : Off1 p H H := fun a o h _ => h
theorem Off1.exr {p : Addr} {H H1 H' : Hp} (h : Off1 p H H1) (e : Ex H1 H') : Off1 p H H' := fun a o q n => e _ _ (h a o q n)
theorem rd_lst {H H' : Hp} {rd dx ln l : Addr} {o : Nat} {xs : List V} (h : RdAt K H rd dx ln o) (f : Off1 rd H H') (hl : H l = some (.lst xs)) : H' l = some (.lst xs) := f l _ hl fun z => by
  unfold RdAt at h
  rw [z, h] at hl
  cases hl
theorem off_fresh {H H' : Hp} {rd dx ln : Addr} {o : Nat} (h : RdAt K H' rd dx ln o) (f : Off1 rd H H') {a : Addr} (ha : H' a = none) : H a = none := by
  cases hh : H a with
  | none => rfl
  | some u =>
    by_cases c : a = rd
    · unfold RdAt at h
      rw [c, h] at ha
      cases ha
    · rw [f a u hh c] at ha
      cases ha
theorem off_dom {H H' : Hp} {rd dx ln : Addr} {o : Nat} (h : RdAt K H' rd dx ln o) (f : Off1 rd H H') : Dom H H' := fun a ha => off_fresh h f ha
/-- what is new stays new for an earlier heap -/
theorem new_off {H H1 H' : Hp} {rd dx ln : Addr} {o : Nat} (h : RdAt K H1 rd dx ln o) (f : Off1 rd H H1) : Ex (New H1 H') (New H H') := (off_dom h f).new
theorem q_byte {T : Env K mg} {σ : L2.St} {H : Hp} {D : Ends} {tz : TS} {E : XK} {ta : TA} {i j : Nat} {rd dx ln : Addr} {s : List Nat} {o l h : Nat} (h0 : σ[i]? = some (some (.ref rd))) (hrd : RdAt K H rd dx ln o) (hln : H ln = some (.lst (IL s))) (ha : EvA ta σ H [.int (l : Nat), .int (h : Nat)])
    (q1 : ∀ v, Lm.field s o 1 (Lm.within l h) = .ok v → ∀ H', Off1 rd H H' → RdAt K H' rd dx ln (o + 1) → tz D (σ.set j (some (.int (v : Nat)))) H') (q2 : ∀ e, Lm.field s o 1 (Lm.within l h) = .error e → Refuses K E H [-1, (e : Nat)]) :
    tSeq (tAsg (tMeth (CA K "ByteReader") "byte" (sp_byte (K := K)) [] E (tVar i) ta) (gName j)) tz D σ H :=
  ⟨_, h0, rd, dx, _, rfl, hrd, rfl, ha H (Ex.refl H) _ fun H1 e1 => ⟨rd, dx, ln, s, o, l, h, rfl, e1 _ _ hrd, e1 _ _ hln, fun v hv H' f r => q1 v hv H' (f.ex e1) r, fun e he => (q2 e he).mono e1⟩⟩
theorem q_step {T : Env K mg} {σ : L2.St} {H : Hp} {D : Ends} {tz : TS} {E : XK} {ta : TA} {i j : Nat} {rd dx ln : Addr} {s : List Nat} {o : Nat} {z : Bool} (h0 : σ[i]? = some (some (.ref rd))) (hrd : RdAt K H rd dx ln o) (hln : H ln = some (.lst (IL s))) (hby : ∀ b ∈ s, b < 256) (ha : EvA ta σ H [.bl z])
    (q1 : ∀ v, Lm.field s o 1 (okS z) = .ok v → ∀ H', Off1 rd H H' → RdAt K H' rd dx ln (o + 1) → tz D (σ.set j (some (.int (Lm.signed8 v)))) H') (q2 : ∀ e, Lm.field s o 1 (okS z) = .error e → Refuses K E H [-1, (e : Nat)]) :
    tSeq (tAsg (tMeth (CA K "ByteReader") "step" (sp_step (K := K)) [] E (tVar i) ta) (gName j)) tz D σ H :=
  ⟨_, h0, rd, dx, _, rfl, hrd, rfl, ha H (Ex.refl H) _ fun H1 e1 => ⟨rd, dx, ln, s, o, z, rfl, e1 _ _ hrd, e1 _ _ hln, hby, fun v hv H' f r => q1 v hv H' (f.ex e1) r, fun e he => (q2 e he).mono e1⟩⟩
theorem q_sqset {T : Env K mg} {σ : L2.St} {H : Hp} {D : Ends} {tz : TS} {E : XK} {i j : Nat} {rd dx ln : Addr} {s : List Nat} {o : Nat} (h0 : σ[i]? = some (some (.ref rd))) (hrd : RdAt K H rd dx ln o) (hln : H ln = some (.lst (IL s))) (hby : ∀ b ∈ s, b < 256)
    (q1 : ¬ s.length < o + 8 → ∀ H', Off1 rd H H' → RdAt K H' rd dx ln (o + 8) → tz D (σ.set j (some (.int (Lm.num s o 8 : Nat)))) H') (q2 : s.length < o + 8 → Refuses K E H [-1, (s.length : Nat)]) :
    tSeq (tAsg (tMeth (CA K "ByteReader") "square_set" (sp_square_set (K := K)) [] E (tVar i) tNil) (gName j)) tz D σ H :=
  ⟨_, h0, rd, dx, _, rfl, hrd, rfl, rd, dx, ln, s, o, rfl, hrd, hln, hby, q1, q2⟩
/-! ### read_board, read_goals -/
def sp_read_board : Sp := fun vs H Q E => ∃ (rd dx ln : Addr) (s : List Nat) (o : Nat), vs = [.ref rd] ∧ RdAt K H rd dx ln o ∧ H ln = some (.lst (IL s)) ∧ (∀ b ∈ s, b < 256) ∧ (∀ v, Lm.field s o 8 (fun x => x != 0) = .ok v → ∀ H', Off1 rd H H' → RdAt K H' rd dx ln (o + 8) → Q (.int (v : Nat)) H') ∧ (∀ e, Lm.field s o 8 (fun x => x != 0) = .error e → ∀ H', Off1 rd H H' → Refuses K E H' [-1, (e : Nat)])
abbrev s_read_board : Stmt := top 76
abbrev n_read_board : List Str := ["reader", "place", "board"]
theorem sc_read_board : FnScope n_read_board ["reader"] (defScope s_read_board) := ⟨rfl, rfl, rfl, by decide +kernel, rfl, by decide +kernel, by decide +kernel⟩
theorem ok_read_board (T : Env K mg) : Cal P w K mg base (L2.CX P w) 6 "read_board" (sp_read_board (K := K)) := by
  refine T.d_read_board.cal sc_read_board (fun _ _ _ _ _ _ us hl => match us, hl with | [_], _ => rfl) (fun vs H Q E h => ?_) (fun f cdv A outer s H vs Q E hr h => ⟨_, (pss_cons (ps_set (i := 1) sc_read_board.nd rfl (Or.inl rfl) (pe_fld (pv 0) rfl)) (pss_cons (ps_set (i := 2) sc_read_board.nd rfl (Or.inl rfl) (pe_mt0 (me_ByteReader_square_set T) T.c_ByteReader hr (by decide) (pv 0) (passes_call (takes_of rfl rfl rfl rfl) (fun _ _ _ _ h => h)))) (pss_cons (ps_if (pt_cmpR op_eq (pv 2) pe_int (nomark _)) (pss_one (ps_raise rfl (takes_of rfl rfl rfl rfl) (pmkE T.e_Fault (er_Fault T) hr (by decide) (by rfl) T.g_Fault (pa_cons (pv 1) pa_nil)))) pss_nil) (pss_one (ps_ret (pv 2)))))), ?_⟩)
  · obtain ⟨rd, dx, ln, s, o, rfl, _⟩ := h
    rfl
  · obtain ⟨rd, dx, ln, s, o, rfl, hrd, hln, hby, q1, q2⟩ := h
    refine q_asg (ev_fld (ev_var rfl) hrd T.c_ByteReader T.n_ByteReader_place rfl) fun H1 e1 => ?_
    refine q_sqset (T := T) (i := 0) rfl (e1 _ _ hrd) (e1 _ _ hln) hby (fun c H2 f2 r2 => ?_) fun c => q2 _ (field_short c) _ (Off1.ex e1 (Off1.refl _ _))
    refine q_when (b := decide (Lm.num s o 8 = 0)) (et_is (et_test (ev_op (ev_var rfl) ev_c (rv_eq rfl))) (dec_nat (b := 0))) (fun hb H3 e3 => ?_) (fun hb H3 e3 => ?_)
    · rw [decide_eq_true_eq] at hb
      exact raise_fault (T := T) (n := o) (ev_var rfl) (q2 o (field_bad c (by rw [hb]; rfl)) _ ((f2.ex e1).exr e3))
    · rw [decide_eq_false_iff_not] at hb
      exact s_ret (ev_var rfl) fun H4 e4 => q1 _ (field_ok c (by rw [bne_iff_ne]; exact hb)) H4 ((f2.ex e1).exr (e3.trans e4)) ((e3.trans e4) _ _ r2)
def sp_read_goals : Sp := fun vs H Q E => ∃ (rd dx ln : Addr) (s : List Nat) (o board : Nat), vs = [.ref rd, .int (board : Nat)] ∧ RdAt K H rd dx ln o ∧ H ln = some (.lst (IL s)) ∧ (∀ b ∈ s, b < 256) ∧ (∀ v, Lm.field s o 8 (fun x => decide (x &&& board = x)) = .ok v → ∀ H', Off1 rd H H' → RdAt K H' rd dx ln (o + 8) → Q (.int (v : Nat)) H') ∧ (∀ e, Lm.field s o 8 (fun x => decide (x &&& board = x)) = .error e → ∀ H', Off1 rd H H' → Refuses K E H' [-1, (e : Nat)])
abbrev s_read_goals : Stmt := top 78
abbrev n_read_goals : List Str := ["reader", "board", "place", "goals"]
theorem sc_read_goals : FnScope n_read_goals ["reader", "board"] (defScope s_read_goals) := ⟨rfl, rfl, rfl, by decide +kernel, rfl, by decide +kernel, by decide +kernel⟩
theorem ok_read_goals (T : Env K mg) : Cal P w K mg base (L2.CX P w) 6 "read_goals" (sp_read_goals (K := K)) := by
  refine T.d_read_goals.cal sc_read_goals (fun _ _ _ _ _ _ us hl => match us, hl with | [_, _], _ => rfl) (fun vs H Q E h => ?_) (fun f cdv A outer s H vs Q E hr h => ⟨_, (pss_cons (ps_set (i := 2) sc_read_goals.nd rfl (Or.inl rfl) (pe_fld (pv 0) rfl)) (pss_cons (ps_set (i := 3) sc_read_goals.nd rfl (Or.inl rfl) (pe_mt0 (me_ByteReader_square_set T) T.c_ByteReader hr (by decide) (pv 0) (passes_call (takes_of rfl rfl rfl rfl) (fun _ _ _ _ h => h)))) (pss_cons (ps_if (pt_cmpR op_ne (pe_op op_and (pv 3) (pv 1)) (pv 3) (nomark _)) (pss_one (ps_raise rfl (takes_of rfl rfl rfl rfl) (pmkE T.e_Fault (er_Fault T) hr (by decide) (by rfl) T.g_Fault (pa_cons (pv 2) pa_nil)))) pss_nil) (pss_one (ps_ret (pv 3)))))), ?_⟩)
  · obtain ⟨rd, dx, ln, s, o, board, rfl, _⟩ := h
    rfl
  · obtain ⟨rd, dx, ln, s, o, board, rfl, hrd, hln, hby, q1, q2⟩ := h
    refine q_asg (ev_fld (ev_var rfl) hrd T.c_ByteReader T.n_ByteReader_place rfl) fun H1 e1 => ?_
    refine q_sqset (T := T) (i := 0) rfl (e1 _ _ hrd) (e1 _ _ hln) hby (fun c H2 f2 r2 => ?_) fun c => q2 _ (field_short c) _ (Off1.ex e1 (Off1.refl _ _))
    refine q_when (b := !decide (Lm.num s o 8 &&& board = Lm.num s o 8)) (et_is (et_test (ev_op (ev_op (ev_var rfl) (ev_var rfl) rv_I0) (ev_var rfl) (rv_ne rfl))) ?_) (fun hb H3 e3 => ?_) (fun hb H3 e3 => ?_)
    · show (!decide (V.int (Builtin.bitAnd ((Lm.num s o 8 : Nat) : Int) ((board : Nat) : Int)) = V.int ((Lm.num s o 8 : Nat) : Int))) = _
      rw [show Builtin.bitAnd ((Lm.num s o 8 : Nat) : Int) ((board : Nat) : Int) = ((Lm.num s o 8 &&& board : Nat) : Int) from rfl, dec_nat]
    · rw [Bool.not_eq_true'] at hb
      exact raise_fault (T := T) (n := o) (ev_var rfl) (q2 o (field_bad c hb) _ ((f2.ex e1).exr e3))
    · rw [Bool.not_eq_false'] at hb
      exact s_ret (ev_var rfl) fun H4 e4 => q1 _ (field_ok c hb) H4 ((f2.ex e1).exr (e3.trans e4)) ((e3.trans e4) _ _ r2)
/-! ### read_pattern -/
theorem okS_true : okS true = Lm.isSpan := by
  funext x
  show (Lm.isSpan x && (true || x != 0)) = Lm.isSpan x
  rw [Bool.true_or, Bool.and_true]
theorem okS_dr {f : Nat} (hf : f < 256) : okS (!decide (Lm.signed8 f = 0)) = fun x => Lm.isSpan x && !(f == 0 && x == 0) := by
  have hs : Lm.signed8 f = 0 ↔ f = 0 := by unfold Lm.signed8; split <;> omega
  funext x
  unfold okS
  by_cases c : f = 0
  · rw [decide_eq_true (hs.mpr c), c]
    show (Lm.isSpan x && (false || !(x == 0))) = (Lm.isSpan x && !(true && x == 0))
    rw [Bool.false_or, Bool.true_and]
  · rw [decide_eq_false (fun z => c (hs.mp z)), beq_false_of_ne c]
    rfl
theorem num1_lt {s : List Nat} (hby : ∀ b ∈ s, b < 256) {o v : Nat} {ok : Nat → Bool} (h : Lm.field s o 1 ok = .ok v) : v < 256 := by
  rw [(field_val h).2.2]
  exact num_lt hby o 1
def sp_read_pattern : Sp := fun vs H Q E => ∃ (rd dx ln : Addr) (s : List Nat) (o : Nat), vs = [.ref rd] ∧ RdAt K H rd dx ln o ∧ H ln = some (.lst (IL s)) ∧ (∀ b ∈ s, b < 256) ∧ (∀ q, patOne s o = .ok q → ∀ p H', H p = none → Off1 rd H H' → RdAt K H' rd dx ln (o + 4) → PatAt K (New H H') p q → Q (.ref p) H') ∧ (∀ e, patOne s o = .error e → ∀ H', Off1 rd H H' → Refuses K E H' [-1, (e : Nat)])
abbrev s_read_pattern : Stmt := top 79
abbrev n_read_pattern : List Str := ["reader", "df", "dr", "reach", "how"]
theorem sc_read_pattern : FnScope n_read_pattern ["reader"] (defScope s_read_pattern) := ⟨rfl, rfl, rfl, by decide +kernel, rfl, by decide +kernel, by decide +kernel⟩
theorem ok_read_pattern (T : Env K mg) : Cal P w K mg base (L2.CX P w) 6 "read_pattern" (sp_read_pattern (K := K)) := by
  refine T.d_read_pattern.cal sc_read_pattern (fun _ _ _ _ _ _ us hl => match us, hl with | [_], _ => rfl) (fun vs H Q E h => ?_) (fun f cdv A outer s H vs Q E hr h => ⟨_, (pss_cons (ps_set (i := 1) sc_read_pattern.nd rfl (Or.inl rfl) (pe_mt (me_ByteReader_step T) T.c_ByteReader hr (by decide) (pv 0) (passes_call (takes_of rfl rfl rfl rfl) (fun _ _ _ _ h => h)) (pa_cons pe_bl pa_nil))) (pss_cons (ps_set (i := 2) sc_read_pattern.nd rfl (Or.inl rfl) (pe_mt (me_ByteReader_step T) T.c_ByteReader hr (by decide) (pv 0) (passes_call (takes_of rfl rfl rfl rfl) (fun _ _ _ _ h => h)) (pa_cons (pe_cmpR op_ne (pv 1) pe_int (nomark _)) pa_nil))) (pss_cons (ps_set (i := 3) sc_read_pattern.nd rfl (Or.inl rfl) (pe_mt (me_ByteReader_byte T) T.c_ByteReader hr (by decide) (pv 0) (passes_call (takes_of rfl rfl rfl rfl) (fun _ _ _ _ h => h)) (pa_cons pe_int (pa_cons pe_int pa_nil)))) (pss_cons (ps_set (i := 4) sc_read_pattern.nd rfl (Or.inl rfl) (pe_mt (me_ByteReader_byte T) T.c_ByteReader hr (by decide) (pv 0) (passes_call (takes_of rfl rfl rfl rfl) (fun _ _ _ _ h => h)) (pa_cons pe_int (pa_cons pe_int pa_nil)))) (pss_one (ps_ret (pe_mk (mk_Pattern T) hr (by decide) (by rfl) T.g_Pattern pass0 (pa_cons (pv 1) (pa_cons (pv 2) (pa_cons (pv 3) (pa_cons (pv 4) pa_nil))))))))))), ?_⟩)
  · obtain ⟨rd, dx, ln, s, o, rfl, _⟩ := h
    rfl
  · obtain ⟨rd, dx, ln, s, o, rfl, hrd, hln, hby, q1, q2⟩ := h
    refine q_step (T := T) (z := true) (i := 0) rfl hrd hln hby (ea_cons ev_c ea_nil) (fun v1 h1 H1 f1 r1 => ?_) fun e he => q2 e (by rw [okS_true] at he; simp only [patOne, he]) _ (Off1.refl _ _)
    rw [okS_true] at h1
    have l1 := rd_lst hrd f1 hln
    refine q_step (T := T) (z := !decide (Lm.signed8 v1 = 0)) (i := 0) rfl r1 l1 hby (ea_cons (ev_is (ev_op (ev_var rfl) ev_c (rv_ne rfl)) (by rw [dec_int])) ea_nil) (fun v2 h2 H2 f2 r2 => ?_) fun e he => q2 e (by rw [okS_dr (num1_lt hby h1)] at he; simp only [patOne, h1, he]) _ f1
    rw [okS_dr (num1_lt hby h1)] at h2
    have l2 := rd_lst r1 f2 l1
    have f12 := f1.trans f2
    refine q_byte (T := T) (i := 0) (l := 1) (h := 7) rfl r2 l2 (ea_cons ev_c (ea_cons ev_c ea_nil)) (fun v3 h3 H3 f3 r3 => ?_) fun e he => q2 e (by simp only [patOne, h1, h2, he]) _ f12
    have l3 := rd_lst r2 f3 l2
    have f13 := f12.trans f3
    refine q_byte (T := T) (i := 0) (l := 1) (h := 3) rfl r3 l3 (ea_cons ev_c (ea_cons ev_c ea_nil)) (fun v4 h4 H4 f4 r4 => ?_) fun e he => q2 e (by simp only [patOne, h1, h2, h3, he]) _ f13
    have f14 := f13.trans f4
    refine s_retF (ef_make (fs := [("df", .int (Lm.signed8 v1)), ("dr", .int (Lm.signed8 v2)), ("reach", .int (v3 : Nat)), ("how", .int (v4 : Nat))]) (ea_cons (ev_var rfl) (ea_cons (ev_var rfl) (ea_cons (ev_var rfl) (ea_cons (ev_var rfl) ea_nil)))) fun x dx H1 Q' a b => ⟨x, dx, _, _, _, _, rfl, a, b⟩) fun p H5 hp e5 f5 => ?_
    exact q1 ⟨Lm.signed8 v1, Lm.signed8 v2, v3, v4⟩ (by simp only [patOne, h1, h2, h3, h4]) p H5 (off_fresh r4 f14 hp) (f14.exr e5) (e5 _ _ r4) (PatAt.mono _ _ (new_off r4 f14) f5)
/-! ### read_piece -/
theorem within_lt {k : Nat} (h : 1 ≤ k) : Lm.within 0 (k - 1) = fun x => decide (x < k) := by
  funext x
  unfold Lm.within
  rw [Bool.eq_iff_iff, Bool.and_eq_true, decide_eq_true_eq, decide_eq_true_eq, decide_eq_true_eq]
  omega
def sp_read_piece : Sp := fun vs H Q E => ∃ (rd dx ln : Addr) (s : List Nat) (o kc : Nat), vs = [.ref rd, .int (kc : Nat)] ∧ RdAt K H rd dx ln o ∧ H ln = some (.lst (IL s)) ∧ 1 ≤ kc ∧ (∀ q, pieceOne s kc o = .ok q → ∀ p H', H p = none → Off1 rd H H' → RdAt K H' rd dx ln (o + 2) → PieceAt K (New H H') p q → Q (.ref p) H') ∧ (∀ e, pieceOne s kc o = .error e → ∀ H', Off1 rd H H' → Refuses K E H' [-1, (e : Nat)])
abbrev s_read_piece : Stmt := top 80
abbrev n_read_piece : List Str := ["reader", "kind_count", "kind", "side"]
theorem sc_read_piece : FnScope n_read_piece ["reader", "kind_count"] (defScope s_read_piece) := ⟨rfl, rfl, rfl, by decide +kernel, rfl, by decide +kernel, by decide +kernel⟩
theorem ok_read_piece (T : Env K mg) : Cal P w K mg base (L2.CX P w) 6 "read_piece" (sp_read_piece (K := K)) := by
  refine T.d_read_piece.cal sc_read_piece (fun _ _ _ _ _ _ us hl => match us, hl with | [_, _], _ => rfl) (fun vs H Q E h => ?_) (fun f cdv A outer s H vs Q E hr h => ⟨_, (pss_cons (ps_set (i := 2) sc_read_piece.nd rfl (Or.inl rfl) (pe_mt (me_ByteReader_byte T) T.c_ByteReader hr (by decide) (pv 0) (passes_call (takes_of rfl rfl rfl rfl) (fun _ _ _ _ h => h)) (pa_cons pe_int (pa_cons (pe_op op_sub (pv 1) pe_int) pa_nil)))) (pss_cons (ps_set (i := 3) sc_read_piece.nd rfl (Or.inl rfl) (pe_mt (me_ByteReader_byte T) T.c_ByteReader hr (by decide) (pv 0) (passes_call (takes_of rfl rfl rfl rfl) (fun _ _ _ _ h => h)) (pa_cons pe_int (pa_cons pe_int pa_nil)))) (pss_one (ps_ret (pe_mk (mk_Piece T) hr (by decide) (by rfl) T.g_Piece pass0 (pa_cons (pv 2) (pa_cons (pv 3) pa_nil))))))), ?_⟩)
  · obtain ⟨rd, dx, ln, s, o, kc, rfl, _⟩ := h
    rfl
  · obtain ⟨rd, dx, ln, s, o, kc, rfl, hrd, hln, hkc, q1, q2⟩ := h
    refine q_byte (T := T) (i := 0) (l := 0) (h := kc - 1) rfl hrd hln (ea_cons ev_c (ea_cons (ev_is (ev_op (ev_var rfl) ev_c rv_I0) (by congr 1; omega)) ea_nil)) (fun v1 h1 H1 f1 r1 => ?_) fun e he => q2 e (by rw [within_lt hkc] at he; simp only [pieceOne, he]) _ (Off1.refl _ _)
    rw [within_lt hkc] at h1
    have l1 := rd_lst hrd f1 hln
    refine q_byte (T := T) (i := 0) (l := 0) (h := 1) rfl r1 l1 (ea_cons ev_c (ea_cons ev_c ea_nil)) (fun v2 h2 H2 f2 r2 => ?_) fun e he => q2 e (by simp only [pieceOne, h1, he]) _ f1
    have f12 := f1.trans f2
    refine s_retF (ef_make (fs := [("kind", .int (v1 : Nat)), ("side", .int (v2 : Nat))]) (ea_cons (ev_var rfl) (ea_cons (ev_var rfl) ea_nil)) fun x dx H1 Q' a b => ⟨x, dx, _, _, rfl, a, b⟩) fun p H5 hp e5 f5 => ?_
    exact q1 (v1, v2) (by simp only [pieceOne, h1, h2]) p H5 (off_fresh r2 f12 hp) (f12.exr e5) (e5 _ _ r2) (PieceAt.mono _ _ (new_off r2 f12) f5)
end
end Es
end

section
set_option Elab.async false
set_option linter.all false
set_option maxRecDepth 100000
set_option maxHeartbeats 4000000
namespace Es
open PySem PySem.Spec PyProof.Rows L2 Evl
theorem AllAt.snoc {α : Type} {R : Addr → α → Prop} {rs : List Addr} {l : List α} {r : Addr} {x : α} (h : AllAt R rs l) (hx : R r x) : AllAt R (rs ++ [r]) (l ++ [x]) := by
  refine ⟨by rw [List.length_append, List.length_append, h.1]; rfl, fun i r' x' hr hx' => ?_⟩
  by_cases c : i < rs.length
  · rw [List.getElem?_append_left c] at hr
    rw [List.getElem?_append_left (by rw [← h.1]; exact c)] at hx'
    exact h.2 i r' x' hr hx'
  · have hi : i = rs.length := by
      have := (List.getElem?_eq_some_iff.mp hr).1
      rw [List.length_append, List.length_singleton] at this
      omega
    subst hi
    rw [List.getElem?_append_right (Nat.le_refl _), Nat.sub_self] at hr
    rw [h.1, List.getElem?_append_right (Nat.le_refl _), Nat.sub_self] at hx'
    have a : r = r' := by simpa using hr
    have b : x = x' := by simpa using hx'
    rw [← a, ← b]
    exact hx
theorem AllAt.nil {α : Type} {R : Addr → α → Prop} : AllAt R [] ([] : List α) := ⟨rfl, fun i r x h => by simp at h⟩
section
variable {P : Program} {w : World} {K : Fr} {mg : Str → Option Value} {base : Heap}
/-- the reader, if anything, stands at rd -/
def RdOr (H : Hp) (rd : Addr) : Prop := ∀ u, H rd = some u → ∃ C dx v r, u = .ins C dx (("numbers", v) :: r)
theorem RdAt.or {H : Hp} {rd dx ln : Addr} {o : Nat} (h : RdAt K H rd dx ln o) : RdOr H rd := fun u hu => by
  unfold RdAt at h
  rw [h] at hu
  exact ⟨_, _, _, _, (Option.some.inj hu).symm⟩
theorem PatAt.off1 {Ha Hb : Hp} {rd a : Addr} {q : Lm.Pattern} (f : Off1 rd Ha Hb) (ro : RdOr Ha rd) (h : PatAt K Ha a q) : PatAt K Hb a q := by
  obtain ⟨dx, h⟩ := h
  refine ⟨dx, f _ _ h fun z => ?_⟩
  obtain ⟨C, dx', v, r, e⟩ := ro _ (z ▸ h)
  injection e with _ _ e
  injection e with e _
  injection e with e _
  exact absurd e (by decide)
theorem PieceAt.off1 {Ha Hb : Hp} {rd a : Addr} {q : Nat × Nat} (f : Off1 rd Ha Hb) (ro : RdOr Ha rd) (h : PieceAt K Ha a q) : PieceAt K Hb a q := by
  obtain ⟨dx, h⟩ := h
  refine ⟨dx, f _ _ h fun z => ?_⟩
  obtain ⟨C, dx', v, r, e⟩ := ro _ (z ▸ h)
  injection e with _ _ e
  injection e with e _
  injection e with e _
  exact absurd e (by decide)
theorem KindAt.off1 {Ha Hb : Hp} {rd a : Addr} {q : Lm.Kind} (f : Off1 rd Ha Hb) (ro : RdOr Ha rd) (h : KindAt K Ha a q) : KindAt K Hb a q := by
  obtain ⟨dx, l, rs, h, h2, h3⟩ := h
  refine ⟨dx, l, rs, f _ _ h fun z => ?_, f _ _ h2 fun z => ?_, h3.imp fun r x => PatAt.off1 f ro⟩
  · obtain ⟨C, dx', v, r, e⟩ := ro _ (z ▸ h)
    injection e with _ _ e
    injection e with e _
    injection e with e _
    exact absurd e (by decide)
  · obtain ⟨C, dx', v, r, e⟩ := ro _ (z ▸ h2)
    cases e
/-- l.append(f(..)), what f does beside told -/
theorem s_appC {σ : L2.St} {H : Hp} {D : Ends} {E : XK} {sp : Sp} {ta : TA} {i : Nat} {l : Addr} {xs vs : List V} (h0 : σ[i]? = some (some (.ref l))) (hl : H l = some (.lst xs)) (ha : EvA ta σ H vs) (hs : ∀ H1, Ex H H1 → sp (vs ++ []) H1 (fun v H' => rAppend (.ref l) [v] H' fun _ H'' => D.nx σ H'') E) :
    tDrop (tBM K "list" rAppend (tVar i) (tCons (tCall sp [] E ta) tNil)) D σ H := ⟨_, h0, Or.inl ⟨rfl, xs, sq_of hl⟩, ha H (Ex.refl H) _ fun H1 e1 => hs H1 e1⟩
/-- one more thing is new: all that was new stays, but for the list and the reader -/
theorem grow {H H' H1 H2 : Hp} {rd D : Addr} {o : HO} (e : Ex H' H1) (f : Off1 rd H1 H2) : Off1 rd (rem (New H H') D) (rem (New H (upd H2 D o)) D) := fun a u h n => by
  have nD : a ≠ D := fun z => by rw [z, rem_same] at h; cases h
  rw [rem_ne nD] at h ⊢
  obtain ⟨x, y⟩ := New.get h
  rw [New.at x, upd_ne nD]
  exact f a u (e _ _ y) n
theorem grow_new {H H1 H2 : Hp} {D : Addr} {o u : HO} (hD : H1 D = some u) (d : Dom H H1) : Ex (New H1 H2) (rem (New H (upd H2 D o)) D) := fun a v h => by
  obtain ⟨x, y⟩ := New.get h
  have nD : a ≠ D := fun z => by rw [z, hD] at x; cases x
  rw [rem_ne nD, New.at (d a x), upd_ne nD]
  exact y
theorem grow_or {H H' : Hp} {rd D dx ln : Addr} {o : Nat} (h : RdAt K H' rd dx ln o) : RdOr (rem (New H H') D) rd := fun u hu => by
  have nD : rd ≠ D := fun z => by rw [z, rem_same] at hu; cases hu
  rw [rem_ne nD] at hu
  exact RdAt.or h u (New.get hu).2
theorem rd_ne {H : Hp} {rd D dx ln : Addr} {o : Nat} {xs : List V} (h : RdAt K H rd dx ln o) (hD : H D = some (.lst xs)) : rd ≠ D := fun z => by
  unfold RdAt at h
  rw [z, hD] at h
  cases h
theorem b2_of {y : Nat} (h : y ≤ 1) : b2 (y == 1) = (y : Int) := by
  have : y = 0 ∨ y = 1 := by omega
  rcases this with rfl | rfl <;> rfl
/-! ### read_kind -/
def sp_read_kind : Sp := fun vs H Q E => ∃ (rd dx ln : Addr) (s : List Nat) (o board : Nat), vs = [.ref rd, .int (board : Nat)] ∧ RdAt K H rd dx ln o ∧ H ln = some (.lst (IL s)) ∧ (∀ b ∈ s, b < 256) ∧ (∀ q o', kindOne s board o = .ok (q, o') → ∀ p H', H p = none → Off1 rd H H' → RdAt K H' rd dx ln o' → KindAt K (New H H') p q → Q (.ref p) H') ∧ (∀ e, kindOne s board o = .error e → ∀ H', Off1 rd H H' → Refuses K E H' [-1, (e : Nat)])
abbrev s_read_kind : Stmt := top 77
abbrev n_read_kind : List Str := ["reader", "board", "royal", "pattern_count", "goals", "patterns"]
theorem sc_read_kind : FnScope n_read_kind ["reader", "board"] (defScope s_read_kind) := ⟨rfl, rfl, rfl, by decide +kernel, rfl, by decide +kernel, by decide +kernel⟩
theorem ok_read_kind (T : Env K mg) : Cal P w K mg base (L2.CX P w) 7 "read_kind" (sp_read_kind (K := K)) := by
  refine T.d_read_kind.cal sc_read_kind (fun _ _ _ _ _ _ us hl => match us, hl with | [_, _], _ => rfl) (fun vs H Q E h => ?_) (fun f cdv A outer s H vs Q E hr h => ⟨_, (pss_cons (ps_set (i := 2) sc_read_kind.nd rfl (Or.inl rfl) (pe_mt (me_ByteReader_byte T) T.c_ByteReader hr (by decide) (pv 0) (passes_call (takes_of rfl rfl rfl rfl) (fun _ _ _ _ h => h)) (pa_cons pe_int (pa_cons pe_int pa_nil)))) (pss_cons (ps_set (i := 3) sc_read_kind.nd rfl (Or.inl rfl) (pe_mt (me_ByteReader_byte T) T.c_ByteReader hr (by decide) (pv 0) (passes_call (takes_of rfl rfl rfl rfl) (fun _ _ _ _ h => h)) (pa_cons pe_int (pa_cons pe_int pa_nil)))) (pss_cons (ps_set (i := 4) sc_read_kind.nd rfl (Or.inl rfl) (pe_c (ok_read_goals T) hr (by decide) (by rfl) (passes_call (takes_of rfl rfl rfl rfl) (fun _ _ _ _ h => h)) (pa_cons (pv 0) (pa_cons (pv 1) pa_nil)))) (pss_cons (ps_set (i := 5) sc_read_kind.nd rfl (Or.inl rfl) (pe_lst pa_nil)) (pss_cons (ps_while (passes_of rfl) (pt_cmpR op_lt (pe_callB call_len_seq (by rfl) T.f_len PySem.boot_len (pa_cons (pv 5) pa_nil)) (pv 3) (nomark _)) (pss_one (ps_expr (pe_bm PySem.F.plainAttrs_list PySem.F.slot_list_append PySem.F.type_list_append mt_append (pv 5) (pa_cons (pe_c (ok_read_pattern T) hr (by decide) (by rfl) (passes_call (takes_of rfl rfl rfl rfl) (fun _ _ _ _ h => h)) (pa_cons (pv 0) pa_nil)) pa_nil))))) (pss_one (ps_ret (pe_mk (mk_Kind T) hr (by decide) (by rfl) T.g_Kind pass0 (pa_cons (pv 2) (pa_cons (pv 4) (pa_cons (pv 5) pa_nil))))))))))), ?_⟩)
  · obtain ⟨rd, dx, ln, s, o, board, rfl, _⟩ := h
    rfl
  · obtain ⟨rd, dx, ln, s, o, board, rfl, hrd, hln, hby, q1, q2⟩ := h
    refine q_byte (T := T) (i := 0) (l := 0) (h := 1) rfl hrd hln (ea_cons ev_c (ea_cons ev_c ea_nil)) (fun y h1 H1 f1 r1 => ?_) fun e he => q2 e (by simp only [kindOne, he]) _ (Off1.refl _ _)
    have l1 := rd_lst hrd f1 hln
    refine q_byte (T := T) (i := 0) (l := 0) (h := 16) rfl r1 l1 (ea_cons ev_c (ea_cons ev_c ea_nil)) (fun n h2 H2 f2 r2 => ?_) fun e he => q2 e (by simp only [kindOne, h1, he]) _ f1
    have l2 := rd_lst r1 f2 l1
    have f12 := f1.trans f2
    refine ⟨_, rfl, _, rfl, rd, dx, ln, s, o + 1 + 1, board, rfl, r2, l2, hby, fun g h3 H3 f3 r3 => ?_, fun e he H' f' => q2 e (by simp only [kindOne, h1, h2, he]) _ (f12.trans f')⟩
    have l3 := rd_lst r2 f3 l2
    have f13 := f12.trans f3
    refine q_lnew fun D hD => ?_
    have hD0 : H D = none := off_fresh r3 f13 hD
    have e4 : Ex H3 (upd H3 D (.lst [])) := Ex.new hD
    have hn16 : n ≤ 16 := (within_iff.mp (field_val h2).2.1).2
    refine q_while (fun m σ H' => ∃ (rs : List Addr) (l : List Lm.Pattern) (o' : Nat), σ = [some (.ref rd), some (.int (board : Nat)), some (.int (y : Nat)), some (.int (n : Nat)), some (.int (g : Nat)), some (.ref D)] ∧ Off1 rd H H' ∧ RdAt K H' rd dx ln o' ∧ H' D = some (.lst (rs.map V.ref)) ∧ AllAt (PatAt K (rem (New H H') D)) rs l ∧ l.length + m = n ∧ more l (Lm.patternsAt s m o') = Lm.patternsAt s n (o + 10)) n
      ⟨[], [], o + 1 + 1 + 8, rfl, f13.exr e4, e4 _ _ r3, upd_same, AllAt.nil, by simp, more_nil _⟩ ?_
    rintro m σ' H' ⟨rs, l, o', rfl, f5, r5, hD5, hA5, hm, hmore⟩
    have l5 := rd_lst hrd f5 hln
    refine ⟨decide (l.length < n), et_is (et_test (ev_op (ev_lenS (K := K) (ev_var rfl) (sq_of hD5)) (ev_var rfl) rv_I0)) ?_, ?_, ?_⟩
    · rw [List.length_map, hA5.1, decide_eq_decide]
      omega
    · intro hc H6 e6
      rw [decide_eq_true_eq] at hc
      obtain ⟨m', rfl⟩ : ∃ m', m = m' + 1 := ⟨m - 1, by omega⟩
      refine ⟨fun σ' H' => ∃ (rs : List Addr) (l : List Lm.Pattern) (o' : Nat), σ' = [some (.ref rd), some (.int (board : Nat)), some (.int (y : Nat)), some (.int (n : Nat)), some (.int (g : Nat)), some (.ref D)] ∧ Off1 rd H H' ∧ RdAt K H' rd dx ln o' ∧ H' D = some (.lst (rs.map V.ref)) ∧ AllAt (PatAt K (rem (New H H') D)) rs l ∧ l.length + m' = n ∧ more l (Lm.patternsAt s m' o') = Lm.patternsAt s n (o + 10), fun σ2 H7 h => ⟨m', by omega, h⟩, ?_⟩
      refine s_appC rfl (e6 _ _ hD5) (ea_cons (ev_var rfl) ea_nil) fun H7 e7 => ?_
      have e67 := e6.trans e7
      refine ⟨rd, dx, ln, s, o', rfl, e67 _ _ r5, e67 _ _ l5, hby, fun q hq p H8 hp f8 r8 p8 => ?_, fun e he H8 f8 => q2 e (by
        rw [pats_err he] at hmore
        simp only [kindOne, h1, h2, h3, ← hmore]) _ (((f5.exr e67)).trans f8)⟩
      have f58 : Off1 rd H H8 := (f5.exr e67).trans f8
      have hD8 : H8 D = some (.lst (rs.map V.ref)) := rd_lst (e67 _ _ r5) f8 (e67 _ _ hD5)
      refine ⟨D, _, _, rfl, rfl, hD8, sz_lt (by rw [List.length_map, hA5.1]; omega), rs ++ [p], l ++ [q], o' + 4, rfl, fun a u hu n => ?_, ?_, ?_, ?_, ?_, ?_⟩
      · rw [upd_ne (ne_of_none hu hD0)]
        exact f58 a u hu n
      · exact (upd_ne (rd_ne r8 hD8)).trans r8
      · rw [upd_same, List.map_append]
        rfl
      · exact AllAt.snoc (hA5.imp fun r x => PatAt.off1 (grow e67 f8) (grow_or r5)) (PatAt.mono _ _ (grow_new (e67 _ _ hD5) (off_dom (e67 _ _ r5) (f5.exr e67))) p8)
      · rw [List.length_append, List.length_singleton]
        omega
      · rw [← hmore, pats_ok hq]
    · intro hc H6 e6
      rw [decide_eq_false_iff_not] at hc
      have hm0 : m = 0 := by omega
      subst hm0
      have hmore : more l (.ok ([], o')) = Lm.patternsAt s n (o + 10) := hmore
      rw [more_end] at hmore
      have hk : kindOne s board o = .ok (⟨y == 1, g, l⟩, o') := by simp only [kindOne, h1, h2, h3, ← hmore]
      have f6 := f5.exr e6
      refine s_retF (ef_make (fs := [("royal", .int (y : Nat)), ("goals", .int (g : Nat)), ("patterns", .ref D)]) (ea_cons (ev_var rfl) (ea_cons (ev_var rfl) (ea_cons (ev_var rfl) ea_nil))) fun x dx H1 Q' a b => ⟨x, dx, _, _, _, rfl, a, b⟩) fun p H7 hp e7 f7 => ?_
      obtain ⟨dxk, f7⟩ := f7
      have e67 := e6.trans e7
      have hp0 := off_fresh (e6 _ _ r5) f6 hp
      refine q1 _ _ hk p H7 hp0 (f6.exr e7) (e67 _ _ r5) ⟨dxk, D, rs, ?_, ?_, hA5.imp fun r x => PatAt.mono _ _ ((rem_ex _ _).trans (New.step e67))⟩
      · rw [New.at hp0, (New.get f7).2]
        show _ = some (HO.ins _ _ [("royal", V.int (b2 (y == 1))), _, _])
        rw [b2_of (within_iff.mp (field_val h1).2.1).2]
        rfl
      · exact (New.at hD0).trans (e67 _ _ hD5)
end
end Es
end

section
set_option Elab.async false
set_option linter.all false
set_option maxRecDepth 100000
set_option maxHeartbeats 4000000
namespace Es
open PySem PySem.Spec PyProof.Rows L2 Evl
theorem gameIn_fit {s : List Nat} (hby : ∀ b ∈ s, b < 256) {g : Lm.Game} (h : Lm.gameIn s = .ok g) : Fit g := by
  rw [gameIn_eq] at h
  split at h
  · cases h
  rename_i k hk
  split at h
  · cases h
  rename_i m hm
  split at h
  · cases h
  rename_i stuck hstuck
  split at h
  · cases h
  rename_i pass hpass
  split at h
  · cases h
  rename_i board hboard
  split at h
  · cases h
  rename_i x hx
  split at h
  · cases h
  rename_i y hy
  split at h
  · cases h
  injection h with h
  subst h
  obtain ⟨b1, b2, b3⟩ := field_val hboard
  obtain ⟨l1, o1⟩ := x
  obtain ⟨l2, o2⟩ := y
  obtain ⟨k1, k2, k3⟩ := kindsAt_fit (by omega) hx
  obtain ⟨p1, p2, p3⟩ := piecesAt_fit k3 hy
  have wk := within_iff.mp (field_val hk).2.1
  have wm := within_iff.mp (field_val hm).2.1
  have ws := within_iff.mp (field_val hstuck).2.1
  have n8 : ∀ o, Lm.num s o 8 < 2 ^ 64 := fun o => num_lt hby o 8
  refine ⟨by show 1 ≤ l2.length ∧ l2.length ≤ 6; rw [p1]; exact wk, by show l1.length ≤ 8; rw [k1]; exact wm.2, ws.2, by show board < _; rw [b3]; exact n8 4, fun p hp => ?_, fun q hq => ?_⟩
  · show _ < l1.length ∧ _
    rw [k1]
    exact p2 p hp
  · obtain ⟨f1, ⟨o, f2⟩, f3, f4⟩ := k2 q hq
    exact ⟨f1, by rw [f2]; exact n8 o, fun s' hs' => and_sub f3 hs', fun r hr => f4 r hr⟩
section
variable {P : Program} {w : World} {K : Fr} {mg : Str → Option Value} {base : Heap}
theorem q_finish {T : Env K mg} {σ : L2.St} {H : Hp} {D : Ends} {tz : TS} {E : XK} {i : Nat} {rd dx ln : Addr} {s : List Nat} {o : Nat} (h0 : σ[i]? = some (some (.ref rd))) (hrd : RdAt K H rd dx ln o) (hln : H ln = some (.lst (IL s))) (q1 : o < s.length → Refuses K E H [-1, (o : Nat)]) (q2 : ¬ o < s.length → ∀ H1, Ex H H1 → tz D σ H1) :
    tSeq (tDrop (tMeth (CA K "ByteReader") "finish" (sp_finish (K := K)) [] E (tVar i) tNil)) tz D σ H :=
  ⟨_, h0, rd, dx, _, rfl, hrd, rfl, rd, dx, ln, s, o, rfl, hrd, hln, q1, q2⟩
/-! ### read_game -/
def sp_read_game : Sp := fun vs H Q E => ∃ (ln : Addr) (s : List Nat), vs = [.ref ln] ∧ H ln = some (.lst (IL s)) ∧ (∀ b ∈ s, b < 256) ∧ (∀ e, Lm.gameIn s = .error e → Refuses K E H [-1, (e : Nat)]) ∧ (∀ g, Lm.gameIn s = .ok g → 2048 < g.count → Refuses K E H [-2]) ∧ (∀ g, Lm.gameIn s = .ok g → ¬ 2048 < g.count → Fit g → ∀ p H', H p = none → Ex H H' → GAt K (New H H') p g → Q (.ref p) H')
abbrev s_read_game : Stmt := top 75
abbrev n_read_game : List Str := ["numbers", "reader", "piece_count", "kind_count", "stuck", "passing", "board", "kinds", "pieces"]
theorem sc_read_game : FnScope n_read_game ["numbers"] (defScope s_read_game) := ⟨rfl, rfl, rfl, by decide +kernel, rfl, by decide +kernel, by decide +kernel⟩
theorem ok_read_game (T : Env K mg) : Cal P w K mg base (L2.CX P w) 8 "read_game" (sp_read_game (K := K)) := by
  refine T.d_read_game.cal sc_read_game (fun _ _ _ _ _ _ us hl => match us, hl with | [_], _ => rfl) (fun vs H Q E h => ?_) (fun f cdv A outer s H vs Q E hr h => ⟨_, (pss_cons (ps_set (i := 1) sc_read_game.nd rfl (Or.inl rfl) (pe_mk (mk_ByteReader T) hr (by decide) (by rfl) T.g_ByteReader pass0 (pa_cons (pv 0) pa_nil))) (pss_cons (ps_set (i := 2) sc_read_game.nd rfl (Or.inl rfl) (pe_mt (me_ByteReader_byte T) T.c_ByteReader hr (by decide) (pv 1) (passes_call (takes_of rfl rfl rfl rfl) (fun _ _ _ _ h => h)) (pa_cons pe_int (pa_cons pe_int pa_nil)))) (pss_cons (ps_set (i := 3) sc_read_game.nd rfl (Or.inl rfl) (pe_mt (me_ByteReader_byte T) T.c_ByteReader hr (by decide) (pv 1) (passes_call (takes_of rfl rfl rfl rfl) (fun _ _ _ _ h => h)) (pa_cons pe_int (pa_cons pe_int pa_nil)))) (pss_cons (ps_set (i := 4) sc_read_game.nd rfl (Or.inl rfl) (pe_mt (me_ByteReader_byte T) T.c_ByteReader hr (by decide) (pv 1) (passes_call (takes_of rfl rfl rfl rfl) (fun _ _ _ _ h => h)) (pa_cons pe_int (pa_cons pe_int pa_nil)))) (pss_cons (ps_set (i := 5) sc_read_game.nd rfl (Or.inl rfl) (pe_mt (me_ByteReader_byte T) T.c_ByteReader hr (by decide) (pv 1) (passes_call (takes_of rfl rfl rfl rfl) (fun _ _ _ _ h => h)) (pa_cons pe_int (pa_cons pe_int pa_nil)))) (pss_cons (ps_set (i := 6) sc_read_game.nd rfl (Or.inl rfl) (pe_c (ok_read_board T) hr (by decide) (by rfl) (passes_call (takes_of rfl rfl rfl rfl) (fun _ _ _ _ h => h)) (pa_cons (pv 1) pa_nil))) (pss_cons (ps_set (i := 7) sc_read_game.nd rfl (Or.inl rfl) (pe_lst pa_nil)) (pss_cons (ps_while (passes_of rfl) (pt_cmpR op_lt (pe_callB call_len_seq (by rfl) T.f_len PySem.boot_len (pa_cons (pv 7) pa_nil)) (pv 3) (nomark _)) (pss_one (ps_expr (pe_bm PySem.F.plainAttrs_list PySem.F.slot_list_append PySem.F.type_list_append mt_append (pv 7) (pa_cons (pe_c (ok_read_kind T) hr (by decide) (by rfl) (passes_call (takes_of rfl rfl rfl rfl) (fun _ _ _ _ h => h)) (pa_cons (pv 1) (pa_cons (pv 6) pa_nil))) pa_nil))))) (pss_cons (ps_set (i := 8) sc_read_game.nd rfl (Or.inl rfl) (pe_lst pa_nil)) (pss_cons (ps_while (passes_of rfl) (pt_cmpR op_lt (pe_callB call_len_seq (by rfl) T.f_len PySem.boot_len (pa_cons (pv 8) pa_nil)) (pv 2) (nomark _)) (pss_one (ps_expr (pe_bm PySem.F.plainAttrs_list PySem.F.slot_list_append PySem.F.type_list_append mt_append (pv 8) (pa_cons (pe_c (ok_read_piece T) hr (by decide) (by rfl) (passes_call (takes_of rfl rfl rfl rfl) (fun _ _ _ _ h => h)) (pa_cons (pv 1) (pa_cons (pv 3) pa_nil))) pa_nil))))) (pss_cons (ps_expr (pe_mt0 (me_ByteReader_finish T) T.c_ByteReader hr (by decide) (pv 1) (passes_call (takes_of rfl rfl rfl rfl) (fun _ _ _ _ h => h)))) (pss_cons (ps_if (pt_cmpR op_gt (pe_c (ok_count_numbers T) hr (by decide) (by rfl) pass0 (pa_cons (pv 6) (pa_cons (pv 8) pa_nil))) (pe_gv (by rfl) T.v_MOST_NUMBERS) (nomark _)) (pss_one (ps_raise rfl (takes_of rfl rfl rfl rfl) (pmkE0 T.e_TooLarge (er_TooLarge T) hr (by decide) (by rfl) T.g_TooLarge))) pss_nil) (pss_one (ps_ret (pe_mk (mk_Game T) hr (by decide) (by rfl) T.g_Game pass0 (pa_cons (pv 4) (pa_cons (pv 5) (pa_cons (pv 6) (pa_cons (pv 7) (pa_cons (pv 8) pa_nil)))))))))))))))))))), ?_⟩)
  · obtain ⟨ln, s, rfl, _⟩ := h
    rfl
  · obtain ⟨ln, s, rfl, hln, hby, q1, q2, q3⟩ := h
    refine q_asgF (ef_make (fs := [("numbers", .ref ln), ("place", .int 0)]) (ea_cons (ev_var rfl) ea_nil) fun x dx H1 Q' a b => ⟨x, dx, _, rfl, a, b⟩) fun rd H0 hrd0 e0 f0 => ?_
    obtain ⟨dx, f0⟩ := f0
    have r0 : RdAt K H0 rd dx ln 0 := (New.get f0).2
    have l0 := e0 _ _ hln
    have o0 : Off1 rd H H0 := Off1.ex e0 (Off1.refl _ _)
    have qe : ∀ {H' : Hp}, Off1 rd H H' → Ex H H' := fun f a o h => f a o h (ne_of_none h hrd0)
    rw [gameIn_eq] at q1 q2 q3
    refine q_byte (T := T) (i := 1) (l := 1) (h := 6) rfl r0 l0 (ea_cons ev_c (ea_cons ev_c ea_nil)) (fun k h1 H1 f1 r1 => ?_) fun e he => (q1 e (by simp only [he])).mono e0
    have l1 := rd_lst r0 f1 l0
    have o1 := o0.trans f1
    refine q_byte (T := T) (i := 1) (l := 1) (h := 8) rfl r1 l1 (ea_cons ev_c (ea_cons ev_c ea_nil)) (fun m h2 H2 f2 r2 => ?_) fun e he => (q1 e (by simp only [h1, he])).mono (qe o1)
    have l2 := rd_lst r1 f2 l1
    have o2 := o1.trans f2
    refine q_byte (T := T) (i := 1) (l := 0) (h := 2) rfl r2 l2 (ea_cons ev_c (ea_cons ev_c ea_nil)) (fun stuck h3 H3 f3 r3 => ?_) fun e he => (q1 e (by simp only [h1, h2, he])).mono (qe o2)
    have l3 := rd_lst r2 f3 l2
    have o3 := o2.trans f3
    refine q_byte (T := T) (i := 1) (l := 0) (h := 1) rfl r3 l3 (ea_cons ev_c (ea_cons ev_c ea_nil)) (fun pass h4 H4 f4 r4 => ?_) fun e he => (q1 e (by simp only [h1, h2, h3, he])).mono (qe o3)
    have l4 := rd_lst r3 f4 l3
    have o4 := o3.trans f4
    refine ⟨_, rfl, rd, dx, ln, s, 0 + 1 + 1 + 1 + 1, rfl, r4, l4, hby, fun board h5 H5 f5 r5 => ?_, fun e he H' f' => (q1 e (by simp only [h1, h2, h3, h4, he])).mono (qe (o4.trans f'))⟩
    have l5 := rd_lst r4 f5 l4
    have o5 := o4.trans f5
    refine q_lnew fun D hD => ?_
    have hD0 : H D = none := off_fresh r5 o5 hD
    have e6 : Ex H5 (upd H5 D (.lst [])) := Ex.new hD
    have hm := within_iff.mp (field_val h2).2.1
    have hk := within_iff.mp (field_val h1).2.1
    refine q_while (fun j σ H' => ∃ (rs : List Addr) (l : List Lm.Kind) (o' : Nat), σ = [some (.ref ln), some (.ref rd), some (.int (k : Nat)), some (.int (m : Nat)), some (.int (stuck : Nat)), some (.int (pass : Nat)), some (.int (board : Nat)), some (.ref D), none] ∧ Off1 rd H H' ∧ RdAt K H' rd dx ln o' ∧ H' D = some (.lst (rs.map V.ref)) ∧ AllAt (KindAt K (rem (New H H') D)) rs l ∧ l.length + j = m ∧ more l (Lm.kindsAt s board j o') = Lm.kindsAt s board m 12) m
      ⟨[], [], 0 + 1 + 1 + 1 + 1 + 8, rfl, o5.exr e6, e6 _ _ r5, upd_same, AllAt.nil, by simp, more_nil _⟩ ?_
    rintro j σ' H' ⟨rs, l, o', rfl, o7, r7, hD7, hA7, hj, hmore⟩
    have l7 := qe o7 _ _ hln
    refine ⟨decide (l.length < m), et_is (et_test (ev_op (ev_lenS (K := K) (ev_var rfl) (sq_of hD7)) (ev_var rfl) rv_I0)) ?_, ?_, ?_⟩
    · rw [List.length_map, hA7.1, decide_eq_decide]
      omega
    · intro hc H8 e8
      rw [decide_eq_true_eq] at hc
      obtain ⟨j', rfl⟩ : ∃ j', j = j' + 1 := ⟨j - 1, by omega⟩
      refine ⟨fun σ' H' => ∃ (rs : List Addr) (l : List Lm.Kind) (o' : Nat), σ' = [some (.ref ln), some (.ref rd), some (.int (k : Nat)), some (.int (m : Nat)), some (.int (stuck : Nat)), some (.int (pass : Nat)), some (.int (board : Nat)), some (.ref D), none] ∧ Off1 rd H H' ∧ RdAt K H' rd dx ln o' ∧ H' D = some (.lst (rs.map V.ref)) ∧ AllAt (KindAt K (rem (New H H') D)) rs l ∧ l.length + j' = m ∧ more l (Lm.kindsAt s board j' o') = Lm.kindsAt s board m 12, fun σ2 H7 h => ⟨j', by omega, h⟩, ?_⟩
      refine s_appC rfl (e8 _ _ hD7) (ea_cons (ev_var rfl) (ea_cons (ev_var rfl) ea_nil)) fun H9 e9 => ?_
      have e89 := e8.trans e9
      refine ⟨rd, dx, ln, s, o', board, rfl, e89 _ _ r7, e89 _ _ l7, hby, fun q o2' hq p H10 hp f10 r10 p10 => ?_, fun e he H10 f10 => (q1 e (by
        rw [kinds_err he] at hmore
        simp only [h1, h2, h3, h4, h5, ← hmore])).mono (qe ((o7.exr e89).trans f10))⟩
      have o10 : Off1 rd H H10 := (o7.exr e89).trans f10
      have hD10 : H10 D = some (.lst (rs.map V.ref)) := rd_lst (e89 _ _ r7) f10 (e89 _ _ hD7)
      refine ⟨D, _, _, rfl, rfl, hD10, sz_lt (by rw [List.length_map, hA7.1]; omega), rs ++ [p], l ++ [q], o2', rfl, fun a u hu n => ?_, ?_, ?_, ?_, ?_, ?_⟩
      · rw [upd_ne (ne_of_none hu hD0)]
        exact o10 a u hu n
      · exact (upd_ne (rd_ne r10 hD10)).trans r10
      · rw [upd_same, List.map_append]
        rfl
      · exact AllAt.snoc (hA7.imp fun r x => KindAt.off1 (grow e89 f10) (grow_or r7)) (KindAt.mono _ _ (grow_new (e89 _ _ hD7) (off_dom (e89 _ _ r7) (o7.exr e89))) p10)
      · rw [List.length_append, List.length_singleton]
        omega
      · rw [← hmore, kinds_ok hq]
    · intro hc H8 e8
      rw [decide_eq_false_iff_not] at hc
      have hj0 : j = 0 := by omega
      subst hj0
      have hmore : more l (.ok ([], o')) = Lm.kindsAt s board m 12 := hmore
      rw [more_end] at hmore
      have hlm : l.length = m := by omega
      have o8 := o7.exr e8
      have r8 := e8 _ _ r7
      have hD8 := e8 _ _ hD7
      -- what stands of the kinds
      have hK0D : rem (New H H8) rd D = some (.lst (rs.map V.ref)) := by
        rw [rem_ne (rd_ne r8 hD8).symm, New.at hD0]
        exact hD8
      have hK0 : AllAt (KindAt K (rem (New H H8) rd)) rs l := hA7.imp fun r x hx => KindAt.off1 (rd := rd) (fun a u h n => by
        have nD : a ≠ D := fun z => by rw [z, rem_same] at h; cases h
        rw [rem_ne nD] at h
        rw [rem_ne n]
        exact New.step e8 _ _ h) (grow_or r7) hx
      generalize hH0 : rem (New H H8) rd = K0 at hK0D hK0
      have eK0 : Ex K0 H8 := by rw [← hH0]; exact (rem_ex _ _).trans (New.ex _ _)
      have rK0 : K0 rd = none := by rw [← hH0]; exact rem_same
      have nK0 : ∀ a o, K0 a = some o → H a = none := fun a o h => by
        rw [← hH0] at h
        exact (New.get (rem_ex _ _ _ _ h)).1
      refine q_lnew fun D2 hD2 => ?_
      have hD20 : H D2 = none := off_fresh r8 o8 hD2
      have hD2K : K0 D2 = none := fresh_back eK0 hD2
      have e9 : Ex H8 (upd H8 D2 (.lst [])) := Ex.new hD2
      refine q_while (fun j σ H' => ∃ (ps : List Addr) (pl : List (Nat × Nat)) (op : Nat), σ = [some (.ref ln), some (.ref rd), some (.int (k : Nat)), some (.int (m : Nat)), some (.int (stuck : Nat)), some (.int (pass : Nat)), some (.int (board : Nat)), some (.ref D), some (.ref D2)] ∧ Ex K0 H' ∧ Off1 rd H H' ∧ RdAt K H' rd dx ln op ∧ H' D2 = some (.lst (ps.map V.ref)) ∧ AllAt (PieceAt K (rem (New H H') D2)) ps pl ∧ pl.length + j = k ∧ more pl (Lm.piecesAt s m j op) = Lm.piecesAt s m k o') k
        ⟨[], [], o', rfl, eK0.trans e9, o8.exr e9, e9 _ _ r8, upd_same, AllAt.nil, by simp, more_nil _⟩ ?_
      rintro j σ' H' ⟨ps, pl, op, rfl, k10, o10, r10, hD10, hA10, hj, hmore2⟩
      have l10 := qe o10 _ _ hln
      refine ⟨decide (pl.length < k), et_is (et_test (ev_op (ev_lenS (K := K) (ev_var rfl) (sq_of hD10)) (ev_var rfl) rv_I0)) ?_, ?_, ?_⟩
      · rw [List.length_map, hA10.1, decide_eq_decide]
        omega
      · intro hc H11 e11
        rw [decide_eq_true_eq] at hc
        obtain ⟨j', rfl⟩ : ∃ j', j = j' + 1 := ⟨j - 1, by omega⟩
        refine ⟨fun σ' H' => ∃ (ps : List Addr) (pl : List (Nat × Nat)) (op : Nat), σ' = [some (.ref ln), some (.ref rd), some (.int (k : Nat)), some (.int (m : Nat)), some (.int (stuck : Nat)), some (.int (pass : Nat)), some (.int (board : Nat)), some (.ref D), some (.ref D2)] ∧ Ex K0 H' ∧ Off1 rd H H' ∧ RdAt K H' rd dx ln op ∧ H' D2 = some (.lst (ps.map V.ref)) ∧ AllAt (PieceAt K (rem (New H H') D2)) ps pl ∧ pl.length + j' = k ∧ more pl (Lm.piecesAt s m j' op) = Lm.piecesAt s m k o', fun σ2 H7 h => ⟨j', by omega, h⟩, ?_⟩
        refine s_appC rfl (e11 _ _ hD10) (ea_cons (ev_var rfl) (ea_cons (ev_var rfl) ea_nil)) fun H12 e12 => ?_
        have e112 := e11.trans e12
        refine ⟨rd, dx, ln, s, op, m, rfl, e112 _ _ r10, e112 _ _ l10, hm.1, fun q hq p H13 hp f13 r13 p13 => ?_, fun e he H13 f13 => (q1 e (by
          rw [pieces_err he] at hmore2
          simp only [h1, h2, h3, h4, h5, ← hmore, ← hmore2])).mono (qe ((o10.exr e112).trans f13))⟩
        have o13 : Off1 rd H H13 := (o10.exr e112).trans f13
        have hD13 : H13 D2 = some (.lst (ps.map V.ref)) := rd_lst (e112 _ _ r10) f13 (e112 _ _ hD10)
        refine ⟨D2, _, _, rfl, rfl, hD13, sz_lt (by rw [List.length_map, hA10.1]; omega), ps ++ [p], pl ++ [q], op + 2, rfl, fun a u hu => ?_, fun a u hu n => ?_, ?_, ?_, ?_, ?_, ?_⟩
        · rw [upd_ne (ne_of_none hu hD2K)]
          exact f13 a u (e112 _ _ (k10 _ _ hu)) (ne_of_none hu rK0)
        · rw [upd_ne (ne_of_none hu hD20)]
          exact o13 a u hu n
        · exact (upd_ne (rd_ne r13 hD13)).trans r13
        · rw [upd_same, List.map_append]
          rfl
        · exact AllAt.snoc (hA10.imp fun r x => PieceAt.off1 (grow e112 f13) (grow_or r10)) (PieceAt.mono _ _ (grow_new (e112 _ _ hD10) (off_dom (e112 _ _ r10) (o10.exr e112))) p13)
        · rw [List.length_append, List.length_singleton]
          omega
        · rw [← hmore2, pieces_ok hq]
      · intro hc H11 e11
        rw [decide_eq_false_iff_not] at hc
        have hj0 : j = 0 := by omega
        subst hj0
        have hmore2 : more pl (.ok ([], op)) = Lm.piecesAt s m k o' := hmore2
        rw [more_end] at hmore2
        have hplk : pl.length = k := by omega
        have o11 := o10.exr e11
        have r11 := e11 _ _ r10
        have hD11 := e11 _ _ hD10
        have l11 := e11 _ _ l10
        have hop : op ≤ s.length := by
          obtain ⟨b1, _, _⟩ := field_val h5
          have := (kindsAt_fit (by omega) hmore.symm).2.2
          exact (piecesAt_fit this hmore2.symm).2.2
        refine q_finish (T := T) (i := 1) rfl r11 l11 (fun c => (q1 op (by
          simp only [h1, h2, h3, h4, h5, ← hmore, ← hmore2]
          rw [if_pos (by omega)])).mono (qe o11)) fun c H12 e12 => ?_
        have hok : Lm.gameIn s = .ok ⟨stuck, pass == 1, board, l, pl⟩ := by
          rw [gameIn_eq]
          simp only [h1, h2, h3, h4, h5, ← hmore, ← hmore2]
          rw [if_neg (by omega)]
        rw [← gameIn_eq] at q2 q3
        have F := gameIn_fit hby hok
        have e112 := e11.trans e12
        have o12 := o11.exr e12
        have hlen : (ps.map V.ref).length = pl.length := by rw [List.length_map, hA10.1]
        refine q_when (b := decide (2048 < (⟨stuck, pass == 1, board, l, pl⟩ : Lm.Game).count)) (et_is (et_test (ev_op (ev_callR (v := .int (((⟨stuck, pass == 1, board, l, pl⟩ : Lm.Game).count : Nat) : Int)) (ea_cons (ev_var rfl) (ea_cons (ev_var rfl) ea_nil)) fun H8 e8 Q' q' => ⟨board, D2, ps.map V.ref, rfl, (e112.trans e8) _ _ hD10, by rw [hlen]; exact F.np.2, by
          rw [hlen]
          exact q'⟩) ev_c rv_I0)) ?_) (fun hb H13 e13 => ?_) (fun hb H13 e13 => ?_)
        · rw [decide_eq_decide]
          omega
        · rw [decide_eq_true_eq] at hb
          exact raise0 T.e_TooLarge T.r_TooLarge ((q2 _ hok hb).mono (qe (o12.exr e13)))
        · rw [decide_eq_false_iff_not] at hb
          have o13 := o12.exr e13
          have e113 := e112.trans e13
          have r13 := e113 _ _ r10
          refine ⟨_, rfl, _, rfl, _, rfl, _, rfl, _, rfl, fun x dxg hx hdx ne => ?_⟩
          have e14 : Ex H13 (upd (upd H13 dxg (.own x)) x (.ins (CA K "Game") dxg [])) := (Ex.new hdx).trans (Ex.new (by rw [upd_ne ne.symm]; exact hx))
          have dm : Dom H H13 := off_dom r13 o13
          refine ⟨x, dxg, D, D2, rs, ps, ⟨stuck, pass == 1, board, l, pl⟩, New H H13, H, Dom.upd (Dom.upd dm), dm x hx, fun a o h => (New.get h).1, ?_, upd_same, (New.ex _ _).trans e14, fresh_back (New.ex _ _) hx, ?_, ?_, ?_, ?_, F, fun H14 e15 d15 k15 g15 => ⟨rfl, q3 _ hok hb F x H14 (dm x hx) (fun a o h => ?_) g15⟩⟩
          · show [_, _, V.int (pass : Nat), _, _, _] ++ [] = [_, _, V.int (b2 (pass == 1)), _, _, _]
            rw [b2_of (within_iff.mp (field_val h4).2.1).2]
            rfl
          · rw [New.at hD0]
            exact e113 _ _ (k10 _ _ hK0D)
          · refine hK0.imp fun r y => KindAt.mono _ _ fun a o h => ?_
            rw [New.at (nK0 _ _ h)]
            exact e113 _ _ (k10 _ _ h)
          · rw [New.at hD20]
            exact e113 _ _ hD10
          · exact hA10.imp fun r y => PieceAt.mono _ _ ((rem_ex _ _).trans (New.step e113))
          · have h13 := qe o13 _ _ h
            exact k15 a o (e14 _ _ h13) (ne_of_none h13 hx)
end
end Es
end

section
set_option Elab.async false
set_option linter.all false
set_option maxRecDepth 100000
set_option maxHeartbeats 4000000
namespace Es
open PySem PySem.Spec PyProof.Rows L2 Evl
/-! ### a def that raises nothing may stand where one may raise -/
theorem fn_up {P : Program} {w : World} {K : Fr} {mg : Str → Option Value} {base : Heap} {CX : CXT} {k : Nat} {f : Addr} {fd : FuncData} {ps : List Str} {sp : Sp} (F : FnOk P w K mg base CX0 k f fd ps sp) : FnOk P w K mg base CX k f fd ps sp :=
  ⟨F.len, fun A outer s H args us vs Q E hr he hb hv hs => codeAny_mono (F.run A outer s H args us vs Q E hr he hb hv hs) fun r s' hq => by
    cases r with
    | error e => exact False.elim hq
    | ok fl => cases fl <;> exact hq⟩
theorem Cal.up {P : Program} {w : World} {K : Fr} {mg : Str → Option Value} {base : Heap} {CX : CXT} {k : Nat} {x : Str} {sp : Sp} (c : Cal P w K mg base CX0 k x sp) : Cal P w K mg base CX k x sp := by
  obtain ⟨f, fd, ps, a, b, c, F⟩ := c.ex
  exact ⟨f, fd, ps, a, b, c, fn_up F⟩
/-! ### a call of a local name that holds a def, within a try -/
structure Holds (P : Program) (w : World) (K : Fr) (mg : Str → Option Value) (base : Heap) (k : Nat) (f : Addr) (sp : Sp) : Prop where
  ex : ∃ fd ps, PySem.W.keepIn K (.ref f) = true ∧ Binds K fd ps [] ∧ FnOk P w K mg base (L2.CX P w) k f fd ps sp
def tCallT (P : Program) (w : World) (K : Fr) (mg : Str → Option Value) (base : Heap) (k i : Nat) (W : WX) (t : TA) : TE := fun σ H Q => ∃ f sp, σ[i]? = some (some (.ref f)) ∧ Holds P w K mg base k f sp ∧ t σ H fun vs H1 => sp vs H1 Q (WE W σ)
theorem pe_callT {X : Cx} {j k i : Nat} {W : WX} {x : Str} {p pos : Pos} {e : Expr} {es : List Expr} {t : TA} (hr : Room j X.A) (hk : k ≤ j) (hN : X.N[i]? = some x) (hv : Vis X.env.scope x) (tk : Takes X W) (ha : PA X (e :: es) t)
    (hdb : (x == ("__debug__" : Str)) = false := by decide) (hcd : (x == ("__classdict__" : Str)) = false := by decide) (he : starEach (e :: es) X.env = (false, eval e X.env) :: starEach es X.env := by rfl) (hpl : (backTo pos (starEach es X.env)).any (·.1) = false := by rfl) :
    PE X (.Call (.Name x p) (e :: es) [] pos) (tCallT X.prog X.w X.K X.mg X.base k i W t) := by
  constructor
  rintro pins s σ H Q I ⟨f, sp, h0, ⟨fd, ps, kp, hb, F⟩, ht⟩
  have load := (pe_var (pos := p) hN hv hdb hcd).run pins s σ H (fun v H1 => v = .ref f ∧ H1 = H) I ⟨.ref f, h0, rfl, rfl⟩
  refine wpAny_Call_Name_kw (thn load ?_)
  rintro u s1 ⟨v, H1, I1, r1, rfl, rfl⟩
  cases r1
  have args := ha.run pos pins s1 σ _ _ I1 ht
  refine PySem.W.callWith_K (h₀ := X.base) I.ok.mod.kin kp (thn args ?_) he hpl
  rintro us s2 ⟨vs, H2, I2, r, q⟩
  exact ⟨I2.kIn, run_fnS (E := WE W) F (hr.mono hk) hb (passAt tk σ) I2 r q⟩
theorem pe_callTK {X : Cx} (P : Program) (w : World) (K : Fr) (mg : Str → Option Value) (base : Heap) (hP : X.prog = P) (hw : X.w = w) (hK : X.K = K) (hm : X.mg = mg) (hb : X.base = base) {j k i : Nat} {W : WX} {x : Str} {p pos : Pos} {e : Expr} {es : List Expr} {t : TA} (hr : Room j X.A) (hk : k ≤ j) (hN : X.N[i]? = some x) (hv : Vis X.env.scope x) (tk : Takes X W) (ha : PA X (e :: es) t)
    (hdb : (x == ("__debug__" : Str)) = false := by decide) (hcd : (x == ("__classdict__" : Str)) = false := by decide) (he : starEach (e :: es) X.env = (false, eval e X.env) :: starEach es X.env := by rfl) (hpl : (backTo pos (starEach es X.env)).any (·.1) = false := by rfl) :
    PE X (.Call (.Name x p) (e :: es) [] pos) (tCallT P w K mg base k i W t) := by
  subst hP hw hK hm hb
  exact pe_callT hr hk hN hv tk ha hdb hcd he hpl
theorem ix_idictK {X : Cx} (K : Fr) (hK : X.K = K) : IxR X (rIxI K) := by
  subst hK
  exact ix_idict
/-! ### refusal.answer within an except suite -/
def tXr (K : Fr) (a : Addr) (cls : Value) (d : Option Addr) (te : TE) : TE := fun σ H Q => ∃ C, cls = .ref C ∧ RC K C ∧ tXf a cls d C "answer" te σ H Q
theorem pe_xr {X : Cx} {a : Addr} {oe : Obj} {cls : Value} {d : Option Addr} {pn : List (Addr × Obj)} {e : Expr} {te : TE} {pos : Pos} (hz : Zc cls d oe) (hf : ∃ vs, oe.data = .fields vs) (he : PE (X.suite a ((a, oe) :: pn)) e te) (hb : attributeBase e "answer" X.env (eval e X.env) = eval e X.env := by rfl) :
    PE (X.suite a ((a, oe) :: pn)) (.Attribute e "answer" pos) (tXr X.K a cls d te) := by
  constructor
  rintro pins s σ H Q I ⟨C, hc, rc, h⟩
  exact (pe_xf rc.xf rc.na hz hf he hb).run pins s σ H Q I h
end Es
end

section
set_option Elab.async false
set_option linter.all false
set_option maxRecDepth 100000
set_option maxHeartbeats 4000000
namespace Es
open PySem PySem.Spec PyProof.Rows L2 Evl
theorem cutV_mid (l : List Nat) (o n : Nat) : cutV (IL l) (some (o : Int)) (some ((o + n : Nat) : Int)) = IL ((l.drop o).take n) := by
  unfold cutV
  rw [HT.sIx_nat, HT.sIx_nat, IL_len]
  unfold IL
  rw [List.map_take, List.map_drop]
  by_cases c : o ≤ l.length
  · rw [Nat.min_eq_left c]
    have key : ∀ m : List V, m.length = l.length → (m.drop o).take (min (o + n) l.length - o) = (m.drop o).take n := fun m hm => by
      by_cases d : o + n ≤ l.length
      · rw [Nat.min_eq_left d]
        congr 1
        omega
      · rw [Nat.min_eq_right (by omega), List.take_of_length_le (by rw [List.length_drop]; omega), List.take_of_length_le (by rw [List.length_drop]; omega)]
    exact key _ (List.length_map ..)
  · rw [Nat.min_eq_right (by omega), List.drop_eq_nil_of_le (by rw [List.length_map]; omega), List.drop_eq_nil_of_le (by rw [List.length_map]; omega), List.take_nil, List.take_nil]
theorem one_take {l : List Nat} {o p : Nat} (h : l[o]? = some p) : (l.drop o).take 1 = [p] := by
  obtain ⟨hl, hv⟩ := List.getElem?_eq_some_iff.mp h
  rw [List.drop_eq_getElem_cons hl, hv]
  rfl
section
variable {P : Program} {w : World} {K : Fr} {mg : Str → Option Value} {base : Heap}
def CallAt (K : Fr) (H : Hp) (c : Addr) (p : Nat) (xs : List Nat) (rws : List (List Nat)) : Prop := ∃ dx ln lr rs, H c = some (.ins (CA K "Call") dx [("number", .int (p : Nat)), ("numbers", .ref ln), ("rows", .ref lr)]) ∧ H ln = some (.lst (IL xs)) ∧ H lr = some (.lst (rs.map V.ref)) ∧ AllAt (fun r x => H r = some (.lst (IL x))) rs rws
theorem CallAt.mono {c : Addr} {p : Nat} {xs : List Nat} {rws : List (List Nat)} : Mono fun H => CallAt K H c p xs rws := fun H H' e ⟨dx, ln, lr, rs, h1, h2, h3, h4⟩ => ⟨dx, ln, lr, rs, e _ _ h1, e _ _ h2, e _ _ h3, h4.imp fun r x h => e _ _ h⟩
def CrAt (K : Fr) (H : Hp) (cr dx lc : Addr) (o : Nat) : Prop := H cr = some (.ins (CA K "CallReader") dx [("calls", .ref lc), ("place", .int (o : Nat))])
theorem cr_lst {H H' : Hp} {cr dx lc l : Addr} {o : Nat} {xs : List V} (h : CrAt K H cr dx lc o) (f : Off1 cr H H') (hl : H l = some (.lst xs)) : H' l = some (.lst xs) := f l _ hl fun z => by
  unfold CrAt at h
  rw [z, h] at hl
  cases hl
theorem cr_sq {H H' : Hp} {cr dx lc l : Addr} {o : Nat} {xs : List V} (h : CrAt K H cr dx lc o) (f : Off1 cr H H') (hl : SqL K H l xs) : SqL K H' l xs := by
  rcases hl with (hl | ⟨u, hl⟩) | hl
  · exact Or.inl (Or.inl (cr_lst h f hl))
  · exact Or.inl (Or.inr ⟨u, f l _ hl fun z => by
      unfold CrAt at h
      rw [z, h] at hl
      cases hl⟩)
  · exact Or.inr hl
theorem cr_dom {H H' : Hp} {cr dx lc : Addr} {o : Nat} (h : CrAt K H' cr dx lc o) (f : Off1 cr H H') : Dom H H' := fun a ha => by
  cases hh : H a with
  | none => rfl
  | some u =>
    by_cases c : a = cr
    · unfold CrAt at h
      rw [c, h] at ha
      cases ha
    · rw [f a u hh c] at ha
      cases ha
theorem cr_ne {H : Hp} {cr D dx lc : Addr} {o : Nat} {xs : List V} (h : CrAt K H cr dx lc o) (hD : H D = some (.lst xs)) : cr ≠ D := fun z => by
  unfold CrAt at h
  rw [z, hD] at h
  cases h
abbrev s_Call___init__ : Stmt := inClass (top 106) 0
abbrev n_Call___init__ : List Str := ["self", "number", "numbers", "rows"]
theorem sc_Call___init__ : FnScope n_Call___init__ ["self", "number", "numbers", "rows"] (defScope s_Call___init__) := ⟨rfl, rfl, rfl, by decide +kernel, rfl, by decide +kernel, by decide +kernel⟩
theorem mk_Call (T : Env K mg) : Mak P w K mg base CX0 1 (CA K "Call") (sp_init3 (CA K "Call") "number" "numbers" "rows") := by
  refine T.k_Call.mak sc_Call___init__ (fun _ _ _ _ _ _ us hl => match us, hl with | [_, _, _, _], _ => rfl) (fun vs H Q E h => ?_) (Body0.by fun f cdv A outer s H vs Q E hr h => ⟨_, (pss_cons (ps_fld (pv 0) (pv 1) rfl) (pss_cons (ps_fld (pv 0) (pv 2) rfl) (pss_one (ps_fld (pv 0) (pv 3) rfl)))), ?_⟩)
  · obtain ⟨p, dx, a, b, c, rfl, _⟩ := h
    rfl
  · obtain ⟨p, dx, a, b, c, rfl, hp, q⟩ := h
    refine ⟨_, rfl, _, rfl, p, _, dx, _, rfl, hp, T.c_Call, T.n_Call_number, (by show 0 < 1000; decide), ?_⟩
    refine ⟨_, rfl, _, rfl, p, _, dx, _, rfl, upd_same, T.c_Call, T.n_Call_numbers, (by show 1 < 1000; decide), ?_⟩
    refine ⟨_, rfl, _, rfl, p, _, dx, _, rfl, upd_same, T.c_Call, T.n_Call_rows, (by show 2 < 1000; decide), ?_⟩
    rw [upd_upd, upd_upd]
    exact q
def sp_CallReader : Sp := fun vs H Q _ => ∃ p dx a, vs = [.ref p, a] ∧ H p = some (.ins (CA K "CallReader") dx []) ∧ Q .non (upd H p (.ins (CA K "CallReader") dx [("calls", a), ("place", .int 0)]))
abbrev s_CallReader___init__ : Stmt := inClass (top 107) 0
abbrev n_CallReader___init__ : List Str := ["self", "calls"]
theorem sc_CallReader___init__ : FnScope n_CallReader___init__ ["self", "calls"] (defScope s_CallReader___init__) := ⟨rfl, rfl, rfl, by decide +kernel, rfl, by decide +kernel, by decide +kernel⟩
theorem mk_CallReader (T : Env K mg) : Mak P w K mg base CX0 1 (CA K "CallReader") (sp_CallReader (K := K)) := by
  refine T.k_CallReader.mak sc_CallReader___init__ (fun _ _ _ _ _ _ us hl => match us, hl with | [_, _], _ => rfl) (fun vs H Q E h => ?_) (Body0.by fun f cdv A outer s H vs Q E hr h => ⟨_, (pss_cons (ps_fld (pv 0) (pv 1) rfl) (pss_one (ps_fld (pv 0) pe_int rfl))), ?_⟩)
  · obtain ⟨p, dx, a, rfl, _⟩ := h
    rfl
  · obtain ⟨p, dx, a, rfl, hp, q⟩ := h
    refine ⟨_, rfl, _, rfl, p, _, dx, _, rfl, hp, T.c_CallReader, T.n_CallReader_calls, (by show 0 < 1000; decide), ?_⟩
    refine ⟨_, rfl, p, _, dx, _, rfl, upd_same, T.c_CallReader, T.n_CallReader_place, (by show 1 < 1000; decide), ?_⟩
    rw [upd_upd]
    exact q
def sp_Desk : Sp := fun vs H Q _ => ∃ p dx, vs = [.ref p] ∧ H p = some (.ins (CA K "Desk") dx []) ∧ Q .non (upd H p (.ins (CA K "Desk") dx [("solving", .non)]))
abbrev s_Desk___init__ : Stmt := inClass (top 108) 0
abbrev n_Desk___init__ : List Str := ["self"]
theorem sc_Desk___init__ : FnScope n_Desk___init__ ["self"] (defScope s_Desk___init__) := ⟨rfl, rfl, rfl, by decide +kernel, rfl, by decide +kernel, by decide +kernel⟩
theorem mk_Desk (T : Env K mg) : Mak P w K mg base CX0 1 (CA K "Desk") (sp_Desk (K := K)) := by
  refine T.k_Desk.mak sc_Desk___init__ (fun _ _ _ _ _ _ us hl => match us, hl with | [_], _ => rfl) (fun vs H Q E h => ?_) (Body0.by fun f cdv A outer s H vs Q E hr h => ⟨_, (pss_one (ps_fld (pv 0) pe_non rfl)), ?_⟩)
  · obtain ⟨p, dx, rfl, _⟩ := h
    rfl
  · obtain ⟨p, dx, rfl, hp, q⟩ := h
    exact ⟨_, rfl, p, _, dx, _, rfl, hp, T.c_Desk, T.n_Desk_solving, (by show 0 < 1000; decide), q⟩
def sp_at_end : Sp := fun vs H Q _ => ∃ (cr dx lc : Addr) (l : List Nat) (o : Nat), vs = [.ref cr] ∧ CrAt K H cr dx lc o ∧ SqL K H lc (IL l) ∧ RetV (.bl (decide (o = l.length))) H Q
abbrev s_CallReader_at_end : Stmt := inClass (top 107) 1
abbrev n_CallReader_at_end : List Str := ["self"]
theorem sc_CallReader_at_end : FnScope n_CallReader_at_end ["self"] (defScope s_CallReader_at_end) := ⟨rfl, rfl, rfl, by decide +kernel, rfl, by decide +kernel, by decide +kernel⟩
theorem me_CallReader_at_end (T : Env K mg) : Met P w K mg base CX0 1 (CA K "CallReader") "at_end" (sp_at_end (K := K)) := by
  refine T.m_CallReader_at_end.met sc_CallReader_at_end (fun _ _ _ _ _ _ us hl => match us, hl with | [_], _ => rfl) (fun vs H Q E h => ?_) (Body0.by fun f cdv A outer s H vs Q E hr h => ⟨_, (pss_one (ps_ret (pe_cmpR op_eq (pe_fld (pv 0) rfl) (pe_callB call_len_seq (by rfl) T.f_len PySem.boot_len (pa_cons (pe_fld (pv 0) rfl) pa_nil)) (nomark _)))), ?_⟩)
  · obtain ⟨cr, dx, lc, l, o, rfl, _⟩ := h
    rfl
  · obtain ⟨cr, dx, lc, l, o, rfl, hcr, hlc, q⟩ := h
    exact s_ret (ev_is (ev_op (ev_fld (ev_var rfl) hcr T.c_CallReader T.n_CallReader_place rfl) (ev_lenS (K := K) (ev_fld (ev_var rfl) hcr T.c_CallReader T.n_CallReader_calls rfl) hlc) (rv_eq rfl)) (by rw [IL_len, dec_nat])) q
def sp_take : Sp := fun vs H Q _ => ∃ (cr dx lc : Addr) (l : List Nat) (o n : Nat), vs = [.ref cr, .int (n : Nat)] ∧ CrAt K H cr dx lc o ∧ SqL K H lc (IL l) ∧ ∀ p H', H p = none → Off1 cr H H' → CrAt K H' cr dx lc (o + n) → H' p = some (.lst (IL ((l.drop o).take n))) → Q (.ref p) H'
abbrev s_CallReader_take : Stmt := inClass (top 107) 2
abbrev n_CallReader_take : List Str := ["self", "length", "start"]
theorem sc_CallReader_take : FnScope n_CallReader_take ["self", "length"] (defScope s_CallReader_take) := ⟨rfl, rfl, rfl, by decide +kernel, rfl, by decide +kernel, by decide +kernel⟩
theorem me_CallReader_take (T : Env K mg) : Met P w K mg base CX0 1 (CA K "CallReader") "take" (sp_take (K := K)) := by
  refine T.m_CallReader_take.met sc_CallReader_take (fun _ _ _ _ _ _ us hl => match us, hl with | [_, _], _ => rfl) (fun vs H Q E h => ?_) (Body0.by fun f cdv A outer s H vs Q E hr h => ⟨_, (pss_cons (ps_set (i := 2) sc_CallReader_take.nd rfl (Or.inl rfl) (pe_fld (pv 0) rfl)) (pss_cons (ps_fld (pv 0) (pe_op op_add (pv 2) (pv 1)) rfl) (pss_one (ps_ret (pe_slice sl_list (pe_fld (pv 0) rfl) (po_some (pv 2)) (po_some (pe_op op_add (pv 2) (pv 1)))))))), ?_⟩)
  · obtain ⟨cr, dx, lc, l, o, n, rfl, _⟩ := h
    rfl
  · obtain ⟨cr, dx, lc, l, o, n, rfl, hcr, hlc, q⟩ := h
    refine q_asg (ev_fld (ev_var rfl) hcr T.c_CallReader T.n_CallReader_place rfl) fun H1 e1 => ?_
    refine q_fld (C := CA K "CallReader") (v := .int ((o + n : Nat) : Int)) (ev_is (ev_op (ev_var rfl) (ev_var rfl) rv_I0) (by push_cast; rfl)) (ev_var rfl) (e1 _ _ hcr) T.c_CallReader T.n_CallReader_place (by show 2 < 1000; decide) fun H2 e2 => ?_
    have e12 := e1.trans e2
    have hcr3 : CrAt K (upd H2 cr (.ins (CA K "CallReader") dx [("calls", .ref lc), ("place", .int ((o + n : Nat) : Int))])) cr dx lc (o + n) := upd_same
    have hlc3 : SqL K (upd H2 cr (.ins (CA K "CallReader") dx [("calls", .ref lc), ("place", .int ((o + n : Nat) : Int))])) lc (IL l) := cr_sq (e12 _ _ hcr) (fun a u hu n => (upd_ne n).trans hu) (ex_l e12 hlc)
    refine s_retL (el_sl (K := K) (lo := some (o : Int)) (hi := some ((o + n : Nat) : Int)) (ev_fld (ev_var rfl) hcr3 T.c_CallReader T.n_CallReader_calls rfl) (eo_some (ev_var rfl)) (eo_some (ev_is (ev_op (ev_var rfl) (ev_var rfl) rv_I0) (by push_cast; rfl))) hlc3) fun p H3 hp e3 h3 => ?_
    rw [cutV_mid] at h3
    have np : p ≠ cr := fun z => by rw [z, upd_same] at hp; cases hp
    rw [upd_ne np] at hp
    exact q p H3 (fresh_back e12 hp) (fun a u hu n => e3 _ _ ((upd_ne n).trans (e12 _ _ hu))) (e3 _ _ hcr3) h3
/-! ### take_call -/
/-- self.take(e), as a value of its own -/
theorem t_take {T : Env K mg} {σ : L2.St} {H : Hp} {E : XK} {Q : VK} {ta : TA} {i : Nat} {cr dx lc : Addr} {l : List Nat} {o n : Nat} (h0 : σ[i]? = some (some (.ref cr))) (hcr : CrAt K H cr dx lc o) (hlc : SqL K H lc (IL l)) (ha : EvA ta σ H [.int (n : Nat)])
    (q : ∀ p H', H p = none → Off1 cr H H' → CrAt K H' cr dx lc (o + n) → H' p = some (.lst (IL ((l.drop o).take n))) → Q (.ref p) H') : tMeth (CA K "CallReader") "take" (sp_take (K := K)) [] E (tVar i) ta σ H Q :=
  ⟨_, h0, cr, dx, _, rfl, hcr, rfl, ha H (Ex.refl H) _ fun H1 e1 => ⟨cr, dx, lc, l, o, n, rfl, e1 _ _ hcr, ex_l e1 hlc, fun p H' hp f r h => q p H' (fresh_back e1 hp) (f.ex e1) r h⟩⟩
theorem crnew_off {H H1 H' : Hp} {cr dx lc : Addr} {o : Nat} (h : CrAt K H1 cr dx lc o) (f : Off1 cr H H1) : Ex (New H1 H') (New H H') := (cr_dom h f).new
def sp_take_call : Sp := fun vs H Q _ => ∃ (cr dx lc : Addr) (l : List Nat) (o p : Nat) (xs : List Nat) (rws : List (List Nat)) (o' : Nat), vs = [.ref cr] ∧ CrAt K H cr dx lc o ∧ SqL K H lc (IL l) ∧ Took d_CALL_FORMS l o p xs rws o' ∧ rws.length ≤ 1000 ∧ ∀ c H', H c = none → Off1 cr H H' → CrAt K H' cr dx lc o' → CallAt K (New H H') c p xs rws → Q (.ref c) H'
abbrev s_CallReader_take_call : Stmt := inClass (top 107) 3
abbrev n_CallReader_take_call : List Str := ["self", "number", "form", "numbers", "rows"]
theorem sc_CallReader_take_call : FnScope n_CallReader_take_call ["self"] (defScope s_CallReader_take_call) := ⟨rfl, rfl, rfl, by decide +kernel, rfl, by decide +kernel, by decide +kernel⟩
theorem me_CallReader_take_call (T : Env K mg) : Met P w K mg base CX0 3 (CA K "CallReader") "take_call" (sp_take_call (K := K)) := by
  refine T.m_CallReader_take_call.met sc_CallReader_take_call (fun _ _ _ _ _ _ us hl => match us, hl with | [_], _ => rfl) (fun vs H Q E h => ?_) (Body0.by fun f cdv A outer s H vs Q E hr h => ⟨_, (pss_cons (ps_set (i := 1) sc_CallReader_take_call.nd rfl (Or.inl rfl) (pe_ix ix_list (pe_mt (me_CallReader_take T) T.c_CallReader hr (by decide) (pv 0) pass0 (pa_cons pe_int pa_nil)) pe_int (fun _ _ => rfl))) (pss_cons (ps_set (i := 2) sc_CallReader_take_call.nd rfl (Or.inl rfl) (pe_ix ix_idict (pe_gv (by rfl) T.v_CALL_FORMS) (pv 1) (fun _ _ => rfl))) (pss_cons (ps_set (i := 3) sc_CallReader_take_call.nd rfl (Or.inl rfl) (pe_mt (me_CallReader_take T) T.c_CallReader hr (by decide) (pv 0) pass0 (pa_cons (pe_ix ix_tup (pv 2) pe_int (fun _ _ => rfl)) pa_nil))) (pss_cons (ps_set (i := 4) sc_CallReader_take_call.nd rfl (Or.inl rfl) (pe_lst pa_nil)) (pss_cons (ps_while PassesOwn.never (pt_cmpR op_lt (pe_callB call_len_seq (by rfl) T.f_len PySem.boot_len (pa_cons (pv 4) pa_nil)) (pe_ix ix_tup (pv 2) pe_int (fun _ _ => rfl)) (nomark _)) (pss_one (ps_expr (pe_bm PySem.F.plainAttrs_list PySem.F.slot_list_append PySem.F.type_list_append mt_append (pv 4) (pa_cons (pe_mt (me_CallReader_take T) T.c_CallReader hr (by decide) (pv 0) pass0 (pa_cons (pe_ix ix_list (pe_mt (me_CallReader_take T) T.c_CallReader hr (by decide) (pv 0) pass0 (pa_cons pe_int pa_nil)) pe_int (fun _ _ => rfl)) pa_nil)) pa_nil))))) (pss_one (ps_ret (pe_mk (mk_Call T) hr (by decide) (by rfl) T.g_Call pass0 (pa_cons (pv 1) (pa_cons (pv 3) (pa_cons (pv 4) pa_nil))))))))))), ?_⟩)
  · obtain ⟨cr, dx, lc, l, o, p, xs, rws, o', rfl, _⟩ := h
    rfl
  · obtain ⟨cr, dx, lc, l, o, p, xs, rws, o', rfl, hcr, hlc, tk, hrw, q⟩ := h
    refine t_take (T := T) (n := 1) (i := 0) rfl hcr hlc (ea_cons ev_c ea_nil) fun p1 H1 hp1 f1 r1 h1 => ?_
    rw [one_take tk.at_] at h1
    refine ⟨p1, [.int (p : Nat)], 0, .int (p : Nat), rfl, rfl, sq_of h1, rfl, ?_⟩
    have l1 := cr_sq hcr f1 hlc
    obtain ⟨t, hkd, hst⟩ := T.k_CALL_FORMS _ tk.form
    have hkd : KDi K (CA K "CALL_FORMS") ((p : Nat) : Int) (.ref t) := hkd
    have hst : ∀ H, SqT K H t [.int ((xs.length : Nat) : Int), .int ((rws.length : Nat) : Int)] := hst
    refine q_asg (ev_op ev_c (ev_var rfl) (rv_kd hkd)) fun H2 e2 => ?_
    have r2 := e2 _ _ r1
    have l2 := ex_l e2 l1
    refine t_take (T := T) (n := xs.length) (i := 0) rfl r2 l2 (ea_cons (ev_op (ev_var rfl) ev_c (rv_ixT (K := K) (v := .int (xs.length : Int)) (hst _) rfl)) ea_nil) fun p3 H3 hp3 f3 r3 h3 => ?_
    rw [← tk.nums] at h3
    have f23 := (f1.exr e2).trans f3
    have l3 := cr_sq hcr f23 hlc
    refine q_lnew fun D hD => ?_
    have hD0 : H D = none := cr_dom r3 f23 D hD
    have e4 : Ex H3 (upd H3 D (.lst [])) := Ex.new hD
    have hp30 : H p3 = none := cr_dom r2 (f1.exr e2) p3 hp3
    have np3D : p3 ≠ D := ne_of_none h3 hD
    refine q_while (fun k σ H' => ∃ (rs : List Addr) (acc rest : List (List Nat)) (o1 : Nat), σ = [some (.ref cr), some (.int (p : Nat)), some (.ref t), some (.ref p3), some (.ref D)] ∧ Off1 cr H H' ∧ CrAt K H' cr dx lc o1 ∧ H' D = some (.lst (rs.map V.ref)) ∧ H' p3 = some (.lst (IL xs)) ∧ AllAt (fun r x => rem (New H H') D r = some (.lst (IL x))) rs acc ∧ rest.length = k ∧ acc ++ rest = rws ∧ RowsFrom l o1 rest o') rws.length
      ⟨[], [], rws, o + 1 + xs.length, rfl, f23.exr e4, e4 _ _ r3, upd_same, e4 _ _ h3, AllAt.nil, rfl, rfl, tk.rows⟩ ?_
    rintro k σ' H' ⟨rs, acc, rest, o1, rfl, f5, r5, hD5, h35, hA5, hk, happ, hrows⟩
    have l5 := cr_sq hcr f5 hlc
    refine ⟨decide (acc.length < rws.length), et_is (et_test (ev_op (ev_lenS (K := K) (ev_var rfl) (sq_of hD5)) (ev_op (ev_var rfl) ev_c (rv_ixT (K := K) (v := .int (rws.length : Int)) (hst _) rfl)) rv_I0)) ?_, ?_, ?_⟩
    · rw [List.length_map, hA5.1, decide_eq_decide]
      omega
    · intro hc H6 e6
      rw [decide_eq_true_eq] at hc
      have hlen := congrArg List.length happ
      rw [List.length_append] at hlen
      cases hrows with
      | nil => rw [List.length_nil] at hlen; omega
      | @cons _ m _ rs' hm hfit hrest =>
        have f6 := f5.exr e6
        have r6 := e6 _ _ r5
        have l6 := ex_l e6 l5
        refine ⟨fun σ' H' => ∃ (rs : List Addr) (acc rest : List (List Nat)) (o1 : Nat), σ' = [some (.ref cr), some (.int (p : Nat)), some (.ref t), some (.ref p3), some (.ref D)] ∧ Off1 cr H H' ∧ CrAt K H' cr dx lc o1 ∧ H' D = some (.lst (rs.map V.ref)) ∧ H' p3 = some (.lst (IL xs)) ∧ AllAt (fun r x => rem (New H H') D r = some (.lst (IL x))) rs acc ∧ rest.length = rs'.length ∧ acc ++ rest = rws ∧ RowsFrom l o1 rest o', fun σ2 H7 h => ⟨rs'.length, by rw [← hk, List.length_cons]; omega, h⟩, ?_⟩
        refine ⟨_, rfl, Or.inl ⟨rfl, _, sq_of (e6 _ _ hD5)⟩, _, rfl, cr, dx, _, rfl, r6, rfl, ?_⟩
        refine t_take (T := T) (n := 1) (i := 0) rfl r6 l6 (ea_cons ev_c ea_nil) fun p7 H7 hp7 f7 r7 h7 => ?_
        rw [one_take hm] at h7
        refine ⟨p7, [.int (m : Nat)], 0, .int (m : Nat), rfl, rfl, sq_of h7, rfl, ?_⟩
        have l7 := cr_sq r6 f7 l6
        refine ⟨cr, dx, lc, l, o1 + 1, m, rfl, r7, l7, fun p8 H8 hp8 f8 r8 h8 => ?_⟩
        have hD8 : H8 D = some (.lst (rs.map V.ref)) := cr_lst r7 f8 (cr_lst r6 f7 (e6 _ _ hD5))
        have f68 := f7.trans f8
        have h0 : Off1 cr H H8 := f6.trans f68
        refine ⟨D, _, _, rfl, rfl, hD8, sz_lt (by rw [List.length_map, hA5.1]; omega), rs ++ [p8], acc ++ [(l.drop (o1 + 1)).take m], rs', o1 + 1 + m, rfl, fun a u hu n => ?_, ?_, ?_, ?_, ?_, rfl, ?_, hrest⟩
        · rw [upd_ne (ne_of_none hu hD0)]
          exact h0 a u hu n
        · exact (upd_ne (cr_ne r8 hD8)).trans r8
        · rw [upd_same, List.map_append]
          rfl
        · rw [upd_ne np3D]
          exact cr_lst r7 f8 (cr_lst r6 f7 (e6 _ _ h35))
        · refine AllAt.snoc (hA5.imp fun r x hx => ?_) ?_
          · have nD : r ≠ D := fun z => by rw [z, rem_same] at hx; cases hx
            rw [rem_ne nD] at hx ⊢
            obtain ⟨a, b⟩ := New.get hx
            rw [New.at a, upd_ne nD]
            exact cr_lst r7 f8 (cr_lst r6 f7 (e6 _ _ b))
          · have n8 : p8 ≠ D := fun z => by rw [z, cr_lst r6 f7 (e6 _ _ hD5)] at hp8; cases hp8
            rw [rem_ne n8, New.at (cr_dom r7 (f6.trans f7) p8 hp8), upd_ne n8]
            exact h8
        · rw [List.append_assoc]
          exact happ
    · intro hc H6 e6
      rw [decide_eq_false_iff_not] at hc
      have hlen := congrArg List.length happ
      rw [List.length_append] at hlen
      have hr0 : rest = [] := List.length_eq_zero_iff.mp (by omega)
      subst hr0
      rw [List.append_nil] at happ
      subst happ
      have ho : o1 = o' := by cases hrows; rfl
      subst ho
      have f6 := f5.exr e6
      have r6 := e6 _ _ r5
      refine s_retF (ef_make (fs := [("number", .int (p : Nat)), ("numbers", .ref p3), ("rows", .ref D)]) (ea_cons (ev_var rfl) (ea_cons (ev_var rfl) (ea_cons (ev_var rfl) ea_nil))) fun x dx H1 Q' a b => ⟨x, dx, _, _, _, rfl, a, b⟩) fun c H7 hc' e7 f7 => ?_
      obtain ⟨dxc, f7⟩ := f7
      have e67 := e6.trans e7
      have hc0 := cr_dom r6 f6 c hc'
      refine q c H7 hc0 (f6.exr e7) (e7 _ _ r6) ⟨dxc, p3, D, rs, ?_, ?_, ?_, hA5.imp fun r x hx => ?_⟩
      · rw [New.at hc0]
        exact (New.get f7).2
      · exact (New.at hp30).trans (e67 _ _ h35)
      · exact (New.at hD0).trans (e67 _ _ hD5)
      · obtain ⟨a, b⟩ := New.get (rem_ex _ _ _ _ hx)
        exact (New.at a).trans (e67 _ _ b)
end
end Es
end

section
set_option Elab.async false
set_option linter.all false
set_option maxRecDepth 100000
set_option maxHeartbeats 4000000
namespace Es
open PySem PySem.Spec PyProof.Rows L2 Evl
/-! ### what is told -/
theorem ints_IL (l : List Nat) : (MovesNeutral.ints l).map V.int = IL l := by
  unfold MovesNeutral.ints IL
  rw [List.map_map]
  rfl
theorem rowN_IL (l : List Nat) : (MovesNeutral.rowN (MovesNeutral.ints l)).map V.int = .int (l.length : Nat) :: IL l := by
  unfold MovesNeutral.rowN
  rw [List.map_cons, ints_IL]
  unfold MovesNeutral.ints
  rw [List.length_map]
theorem ints_len (l : List Nat) : (MovesNeutral.ints l).length = l.length := List.length_map ..
section
variable {P : Program} {w : World} {K : Fr} {mg : Str → Option Value} {base : Heap}
/-- what a teller does: it refuses, or gives what stands behind the 0 -/
def Told (K : Fr) (H : Hp) (a : LmCalls.Answer) (Q : VK) (E : XK) : Prop := (∀ l, a = .refused l → Refuses K E H l) ∧ ∀ tl, MovesNeutral.told a = 0 :: tl → (∀ l, a ≠ .refused l) → tl.length ≤ 10000000 ∧ RetL (tl.map V.int) H Q
variable {H : Hp} {Q : VK} {E : XK}
theorem Told.no {z : Int} (h : Told K H (LmCalls.no z) Q E) : Refuses K E H [z] := h.1 _ rfl
theorem Told.done (h : Told K H .done Q E) : RetL [] H Q := (h.2 [] rfl fun l z => by cases z).2
theorem Told.nums {l : List Nat} (h : Told K H (.nums l) Q E) : RetL (IL l) H Q := by
  have := (h.2 _ rfl fun l z => by cases z).2
  rw [ints_IL] at this
  exact this
theorem Told.row {l : List Nat} (h : Told K H (.row l) Q E) : l.length + 1 ≤ sizeLine ∧ RetL (.int (l.length : Nat) :: IL l) H Q := by
  have := h.2 _ rfl fun l z => by cases z
  rw [rowN_IL] at this
  refine ⟨?_, this.2⟩
  have h1 := this.1
  unfold MovesNeutral.rowN at h1
  rw [List.length_cons, ints_len] at h1
  rw [sizeLine_eq]
  omega
theorem Told.pos {l p : List Nat} (h : Told K H (.pos l p) Q E) : l.length + (p.length + 1) ≤ sizeLine ∧ RetL (IL l ++ .int (p.length : Nat) :: IL p) H Q := by
  have := h.2 _ rfl fun l z => by cases z
  rw [List.map_append, ints_IL, rowN_IL] at this
  refine ⟨?_, this.2⟩
  have h1 := this.1
  unfold MovesNeutral.rowN at h1
  rw [List.length_append, List.length_cons, ints_len, ints_len] at h1
  rw [sizeLine_eq]
  omega
theorem Told.mono {H' : Hp} {a : LmCalls.Answer} (e : Ex H H') (h : Told K H a Q E) : Told K H' a Q E :=
  ⟨fun l z => (h.1 l z).mono e, fun tl z n => ⟨(h.2 tl z n).1, fun p H2 hp e2 h2 => (h.2 tl z n).2 p H2 (fresh_back e hp) (e.trans e2) h2⟩⟩
theorem RetL.mono {H' : Hp} {xs : List V} (e : Ex H H') (h : RetL xs H Q) : RetL xs H' Q := fun p H2 hp e2 h2 => h p H2 (fresh_back e hp) (e.trans e2) h2
/-! ### counted -/
theorem el_cat {σ : L2.St} {ta tb : TE} {xs ys : List V} {b : Addr} (ha : EvL ta σ H xs) (hb : Ev tb σ H (.ref b)) (hB : H b = some (.lst ys)) (hz : xs.length + ys.length ≤ sizeLine) : EvL (tOp rCat ta tb) σ H (xs ++ ys) := fun H1 e Q q =>
  ha H1 e _ fun l H2 hl e2 h2 => hb H2 (e.trans e2) _ fun H3 e3 => ⟨l, b, xs, ys, rfl, rfl, e3 _ _ h2, ((e.trans e2).trans e3) _ _ hB, hz, fun p hp => q p _ (fresh_back (e2.trans e3) hp) ((e2.trans e3).trans (Ex.new hp)) upd_same⟩
def sp_counted : Sp := fun vs H Q _ => ∃ (a : Addr) (xs : List V), vs = [.ref a] ∧ H a = some (.lst xs) ∧ xs.length + 1 ≤ sizeLine ∧ RetL (.int (xs.length : Nat) :: xs) H Q
abbrev s_counted : Stmt := top 129
abbrev n_counted : List Str := ["row"]
theorem sc_counted : FnScope n_counted ["row"] (defScope s_counted) := ⟨rfl, rfl, rfl, by decide +kernel, rfl, by decide +kernel, by decide +kernel⟩
theorem ok_counted (T : Env K mg) : Cal P w K mg base CX0 1 "counted" sp_counted := by
  refine T.d_counted.cal sc_counted (fun _ _ _ _ _ _ us hl => match us, hl with | [_], _ => rfl) (fun vs H Q E h => ?_) (Body0.by fun f cdv A outer s H vs Q E hr h => ⟨_, (pss_one (ps_ret (pe_op op_cat (pe_lst (pa_cons (pe_callB call_len_seq (by rfl) T.f_len PySem.boot_len (pa_cons (pv 0) pa_nil)) pa_nil)) (pv 0)))), ?_⟩)
  · obtain ⟨a, xs, rfl, _⟩ := h
    rfl
  · obtain ⟨a, xs, rfl, ha, hz, q⟩ := h
    exact s_retL (el_cat (el_lst (ea_cons (ev_lenS (K := K) (ev_var rfl) (sq_of ha)) ea_nil) (by show 1 ≤ 100000; decide)) (ev_var rfl) ha (by show 1 + xs.length ≤ _; omega)) q
/-- counted(e), e a new list -/
theorem el_counted {σ : L2.St} {te : TE} {xs : List V} (h : EvL te σ H xs) (hz : xs.length + 1 ≤ sizeLine) : EvL (tCall sp_counted [] E (tCons te tNil)) σ H (.int (xs.length : Nat) :: xs) := fun H1 e Q q =>
  h H1 e _ fun p H2 hp e2 h2 => ⟨p, xs, rfl, h2, hz, fun p' H3 hp' e3 h3 => q p' H3 (fresh_back e2 hp') (e2.trans e3) h3⟩
theorem t_call {sp : Sp} {σ : L2.St} {ta : TA} {vs : List V} (ha : EvA ta σ H vs) (hs : ∀ H1, Ex H H1 → sp (vs ++ []) H1 Q E) : tCall sp [] E ta σ H Q := ha H (Ex.refl H) _ hs
/-! ### what the desk holds -/
def See (K : Fr) (H : Hp) (d s ga : Addr) (wk : Lm.Work) : Prop := (∃ dxd, H d = some (.ins (CA K "Desk") dxd [("solving", .ref s)])) ∧ SolAt K H s ga wk ∧ GAt K H ga wk.game ∧ Fit wk.game ∧ wk.game.count ≤ 2048
theorem See.mono {d s ga : Addr} {wk : Lm.Work} : Mono fun H => See K H d s ga wk := fun H H' e ⟨⟨dxd, h1⟩, h2, h3, h4, h5⟩ => ⟨⟨dxd, e _ _ h1⟩, SolAt.mono _ _ e h2, GAt.mono _ _ e h3, h4, h5⟩
theorem ev_sol (T : Env K mg) {σ : L2.St} {te : TE} {d s ga : Addr} {wk : Lm.Work} (S : See K H d s ga wk) (h : Ev te σ H (.ref d)) : Ev (tFld K te "solving") σ H (.ref s) := by
  obtain ⟨⟨dxd, hd⟩, _⟩ := S
  exact ev_fld h hd T.c_Desk T.n_Desk_solving rfl
theorem ev_game (T : Env K mg) {σ : L2.St} {te : TE} {d s ga : Addr} {wk : Lm.Work} (S : See K H d s ga wk) (h : Ev te σ H (.ref d)) : Ev (tFld K (tFld K te "solving") "game") σ H (.ref ga) := by
  have hs := ev_sol T S h
  obtain ⟨_, ⟨dx, kn, ld, KP, LP, hS⟩, _⟩ := S
  exact ev_fld hs hS.obj T.c_Solving T.n_Solving_game rfl
theorem ev_num (T : Env K mg) {σ : L2.St} {te : TE} {c : Addr} {p n : Nat} {xs : List Nat} {rws : List (List Nat)} (C : CallAt K H c p (n :: xs) rws) (h : Ev te σ H (.ref c)) : Ev (tOp (rIxL K) (tFld K te "numbers") (tC (.int 0))) σ H (.int (n : Nat)) := by
  obtain ⟨dx, ln, lr, rs, h1, h2, _⟩ := C
  exact ev_op (ev_fld h h1 T.c_Call T.n_Call_numbers rfl) ev_c (rv_ixL (K := K) (sq_of h2) (atI_nat' (j := 0) (by omega) (by rw [IL_at]; rfl)))
theorem CallAt.row0 {c : Addr} {p : Nat} {xs : List Nat} {r : List Nat} {rws : List (List Nat)} (C : CallAt K H c p xs (r :: rws)) (T : Env K mg) : ∃ ra, H ra = some (.lst (IL r)) ∧ ∀ {σ : L2.St} {te : TE} {H' : Hp}, Ex H H' → Ev te σ H' (.ref c) → Ev (tOp (rIxL K) (tFld K te "rows") (tC (.int 0))) σ H' (.ref ra) := by
  obtain ⟨dx, ln, lr, rs, h1, h2, h3, h4⟩ := C
  obtain ⟨ra, e, h⟩ := h4.get (i := 0) (x := r) rfl
  refine ⟨ra, h, fun {σ te H'} ex he => ?_⟩
  exact ev_op (ev_fld he (ex _ _ h1) T.c_Call T.n_Call_rows rfl) ev_c (rv_ixL (K := K) (sq_of (ex _ _ h3)) (atI_nat' (j := 0) (by omega) (by rw [List.getElem?_map, e]; rfl)))
/-! ### right_row -/
theorem right_nums {g : Lm.Game} {r : List Nat} (h : rightRow g r = true) : LmCalls.posNums (LmCalls.posIn r) = r ∧ Lm.rightPos g (LmCalls.posIn r) = true := by
  unfold rightRow at h
  rw [Bool.and_eq_true, decide_eq_true_eq] at h
  refine ⟨?_, h.2⟩
  have hne : r ≠ [] := fun z => by rw [z] at h; simp at h
  obtain ⟨l, x, rfl⟩ : ∃ l x, r = l ++ [x] := ⟨r.dropLast, r.getLast hne, (List.dropLast_concat_getLast hne).symm⟩
  rw [posIn_snoc]
  rfl
theorem atPos_eq {wk : Lm.Work} {r : List Nat} {f : Lm.Pos → LmCalls.Answer} : LmCalls.atPos wk r f = if rightRow wk.game r = true then f (LmCalls.posIn r) else LmCalls.no (-2) := by
  unfold LmCalls.atPos rightRow
  by_cases c : r.length = wk.game.pieces.length + 1 ∧ Lm.rightPos wk.game (LmCalls.posIn r) = true
  · rw [if_pos c, if_pos (by rw [decide_eq_true c.1, c.2]; rfl)]
  · rw [if_neg c, if_neg fun z => c (by rw [Bool.and_eq_true, decide_eq_true_eq] at z; exact z)]
def sp_right_row : Sp := fun vs H Q E => ∃ (d c s ga : Addr) (wk : Lm.Work) (p : Nat) (xs r : List Nat) (rs : List (List Nat)), vs = [.ref d, .ref c] ∧ See K H d s ga wk ∧ CallAt K H c p xs (r :: rs) ∧ r.length ≤ 1000 ∧ (rightRow wk.game r = true → ∀ ra H', H ra = some (.lst (IL r)) → Ex H H' → Q (.ref ra) H') ∧ (rightRow wk.game r = false → Refuses K E H [-2])
abbrev s_right_row : Stmt := top 127
abbrev n_right_row : List Str := ["desk", "call", "row"]
theorem sc_right_row : FnScope n_right_row ["desk", "call"] (defScope s_right_row) := ⟨rfl, rfl, rfl, by decide +kernel, rfl, by decide +kernel, by decide +kernel⟩
theorem ok_right_row (T : Env K mg) : Cal P w K mg base (L2.CX P w) 5 "right_row" (sp_right_row (K := K)) := by
  refine T.d_right_row.cal sc_right_row (fun _ _ _ _ _ _ us hl => match us, hl with | [_, _], _ => rfl) (fun vs H Q E h => ?_) (fun f cdv A outer s H vs Q E hr h => ⟨_, (pss_cons (ps_set (i := 2) sc_right_row.nd rfl (Or.inl rfl) (pe_ix ix_list (pe_fld (pv 1) rfl) pe_int (fun _ _ => rfl))) (pss_cons (ps_expr (pe_c (ok_check_right T) hr (by decide) (by rfl) (passes_call (takes_of rfl rfl rfl rfl) (fun _ _ _ _ h => h)) (pa_cons (pe_fld (pe_fld (pv 0) rfl) rfl) (pa_cons (pv 2) pa_nil)))) (pss_one (ps_ret (pv 2))))), ?_⟩)
  · obtain ⟨d, c, s, ga, wk, p, xs, r, rs, rfl, _⟩ := h
    rfl
  · obtain ⟨d, c, s, ga, wk, p, xs, r, rs, rfl, S, C, hl, q1, q2⟩ := h
    obtain ⟨ra, hra, hrow⟩ := C.row0 T
    refine q_asg (hrow (Ex.refl H) (ev_var rfl)) fun H1 e1 => ?_
    have S1 := See.mono _ _ e1 S
    refine t_call (ea_cons (ev_game T S1 (ev_var rfl)) (ea_cons (ev_var rfl) ea_nil)) fun H2 e2 => ⟨ga, ra, wk.game, r, rfl, GAt.mono _ _ (e1.trans e2) S.2.2.1, S.2.2.2.1, (e1.trans e2) _ _ hra, hl, fun hR H3 e3 => ?_, fun hR => (q2 hR).mono (e1.trans e2)⟩
    exact s_ret (ev_var rfl) fun H4 e4 => q1 hR ra H4 hra (((e1.trans e2).trans e3).trans e4)
/-- row = right_row(desk, call), ahead of what follows -/
theorem q_row {σ : L2.St} {D : Ends} {tz : TS} {j : Nat} {d c s ga : Addr} {wk : Lm.Work} {p : Nat} {xs r : List Nat} {rs : List (List Nat)} {f : Lm.Pos → LmCalls.Answer} (h0 : σ[0]? = some (some (.ref d))) (h1 : σ[1]? = some (some (.ref c))) (S : See K H d s ga wk) (C : CallAt K H c p xs (r :: rs)) (hl : r.length ≤ 1000)
    (A : Told K H (LmCalls.atPos wk r f) D.rt E) (q : rightRow wk.game r = true → Told K H (f (LmCalls.posIn r)) D.rt E → ∀ ra H', Ex H H' → H' ra = some (.lst (IL (LmCalls.posNums (LmCalls.posIn r)))) → tz D (σ.set j (some (.ref ra))) H') :
    tSeq (tAsg (tCall (sp_right_row (K := K)) [] E (tCons (tVar 0) (tCons (tVar 1) tNil))) (gName j)) tz D σ H := by
  rw [atPos_eq] at A
  refine t_call (ea_cons (ev_var h0) (ea_cons (ev_var h1) ea_nil)) fun H1 e1 => ⟨d, c, s, ga, wk, p, xs, r, rs, rfl, See.mono _ _ e1 S, CallAt.mono _ _ e1 C, hl, fun hR ra H2 hra e2 => ?_, fun hR => ?_⟩
  · rw [if_pos hR] at A
    refine q hR A ra H2 (e1.trans e2) ?_
    rw [(right_nums hR).1]
    exact e2 _ _ hra
  · rw [hR, if_neg Bool.false_ne_true] at A
    exact A.no.mono e1
end
end Es
end

section
set_option Elab.async false
set_option linter.all false
set_option maxRecDepth 100000
set_option maxHeartbeats 4000000
namespace Es
open PySem PySem.Spec PyProof.Rows L2 Evl
theorem inV_IL (m : Nat) (l : List Nat) : inV (.int (m : Nat)) (IL l) = l.contains m := by
  unfold inV IL
  rw [List.any_map, Bool.eq_iff_iff, List.any_eq_true, List.contains_iff_mem]
  constructor
  · rintro ⟨x, hx, e⟩
    have e : ((x : Int) == (m : Int)) = true := e
    rw [beq_iff_eq] at e
    have e : x = m := by omega
    rw [← e]
    exact hx
  · exact fun h => ⟨m, h, by show ((m : Int) == (m : Int)) = true; rw [beq_iff_eq]⟩
theorem flat_IL (l : List Nat) : (IL l).all flatV = true := by
  unfold IL
  rw [List.all_map, List.all_eq_true]
  exact fun x _ => rfl
section
variable {P : Program} {w : World} {K : Fr} {mg : Str → Option Value} {base : Heap} {H : Hp} {Q : VK} {E : XK}
theorem ev_niN {σ : L2.St} {ta tb : TE} {m : Nat} {l : List Nat} (ha : Ev ta σ H (.int (m : Nat))) (hb : EvL tb σ H (IL l)) : Ev (tOp (rIn K true) ta tb) σ H (.bl (!l.contains m)) := fun H1 e Q q =>
  ha H1 e _ fun H2 e2 => hb H2 (e.trans e2) _ fun p H3 hp e3 h3 => ⟨p, IL l, rfl, Or.inl (sq_of h3), rfl, flat_IL l, by
    rw [if_pos rfl, inV_IL]
    exact q H3 (e2.trans e3)⟩
/-- an asking call: nothing changes -/
def spAsk (K : Fr) (R : List Nat → List (List Nat) → LmCalls.Call → Prop) : Sp := fun vs H Q E => ∃ (d c s ga : Addr) (wk : Lm.Work) (p : Nat) (xs : List Nat) (rws : List (List Nat)) (cl : LmCalls.Call), vs = [.ref d, .ref c] ∧ See K H d s ga wk ∧ CallAt K H c p xs rws ∧ R xs rws cl ∧ wk.rounds ≤ 1000 ∧ Told K H (LmCalls.ask wk cl) Q E
def rowCall (f : List Nat → LmCalls.Call) : List Nat → List (List Nat) → LmCalls.Call → Prop := fun xs rws cl => ∃ r, rws = [r] ∧ r.length ≤ 1000 ∧ cl = f r
theorem s_retC {σ : L2.St} {D : Ends} {sp : Sp} {te : TE} (h : te σ H fun v H1 => sp ([v] ++ []) H1 D.rt E) : tRet (tCall sp [] E (tCons te tNil)) D σ H := h
theorem s_retB {σ : L2.St} {D : Ends} {r : List V → Hp → VK → Prop} {te : TE} (h : te σ H fun v H1 => r [v] H1 D.rt) : tRet (tCB r (tCons te tNil)) D σ H := h
/-! ### tell_index -/
abbrev s_tell_index : Stmt := top 111
abbrev n_tell_index : List Str := ["desk", "call", "row"]
theorem sc_tell_index : FnScope n_tell_index ["desk", "call"] (defScope s_tell_index) := ⟨rfl, rfl, rfl, by decide +kernel, rfl, by decide +kernel, by decide +kernel⟩
theorem ok_tell_index (T : Env K mg) : Cal P w K mg base (L2.CX P w) 6 "tell_index" (spAsk K (rowCall .index)) := by
  refine T.d_tell_index.cal sc_tell_index (fun _ _ _ _ _ _ us hl => match us, hl with | [_, _], _ => rfl) (fun vs H Q E h => ?_) (fun f cdv A outer s H vs Q E hr h => ⟨_, (pss_cons (ps_set (i := 2) sc_tell_index.nd rfl (Or.inl rfl) (pe_c (ok_right_row T) hr (by decide) (by rfl) (passes_call (takes_of rfl rfl rfl rfl) (fun _ _ _ _ h => h)) (pa_cons (pv 0) (pa_cons (pv 1) pa_nil)))) (pss_one (ps_ret (pe_lst (pa_cons (pe_c (ok_number_of T) hr (by decide) (by rfl) pass0 (pa_cons (pe_fld (pe_fld (pv 0) rfl) rfl) (pa_cons (pv 2) pa_nil))) pa_nil))))), ?_⟩)
  · obtain ⟨d, c, s, ga, wk, p, xs, rws, cl, rfl, _⟩ := h
    rfl
  · obtain ⟨d, c, s, ga, wk, p, xs, rws, cl, rfl, S, C, ⟨r, rfl, hl, rfl⟩, hro, A⟩ := h
    have A : Told K H (LmCalls.atPos wk r fun x => .nums [Lm.index wk.game x]) Q E := A
    refine q_row (D := { nx := fun _ H' => Q .non H', rt := Q }) rfl rfl S C hl A fun hR A ra H1 e1 hra => ?_
    have hp := (right_nums hR).2
    refine s_retL (el_lst (ea_cons (ev_callR (v := .int (Lm.index wk.game (LmCalls.posIn r) : Nat)) (ea_cons (ev_game T (See.mono _ _ e1 S) (ev_var rfl)) (ea_cons (ev_var rfl) ea_nil)) fun H2 e2 Q' q' => ⟨ga, ra, wk.game, (LmCalls.posIn r).at_, (LmCalls.posIn r).side, rfl, GAt.mono _ _ (e1.trans e2) S.2.2.1, S.2.2.2.1, e2 _ _ hra, (right_iff.mp hp).1, (right_iff.mp hp).2.2.1, q'⟩) ea_nil) (by show 1 ≤ 100000; decide)) ?_
    exact (A.mono e1).nums
/-! ### tell_pos -/
abbrev s_tell_pos : Stmt := top 112
abbrev n_tell_pos : List Str := ["desk", "call"]
theorem sc_tell_pos : FnScope n_tell_pos ["desk", "call"] (defScope s_tell_pos) := ⟨rfl, rfl, rfl, by decide +kernel, rfl, by decide +kernel, by decide +kernel⟩
theorem ok_tell_pos (T : Env K mg) : Cal P w K mg base (L2.CX P w) 6 "tell_pos" (spAsk K fun xs rws cl => ∃ n, xs = [n] ∧ cl = .pos n) := by
  refine T.d_tell_pos.cal sc_tell_pos (fun _ _ _ _ _ _ us hl => match us, hl with | [_, _], _ => rfl) (fun vs H Q E h => ?_) (fun f cdv A outer s H vs Q E hr h => ⟨_, (pss_one (ps_ret (pe_c (ok_counted T) hr (by decide) (by rfl) pass0 (pa_cons (pe_c (ok_right_row_of T) hr (by decide) (by rfl) (passes_call (takes_of rfl rfl rfl rfl) (fun _ _ _ _ h => h)) (pa_cons (pe_fld (pe_fld (pv 0) rfl) rfl) (pa_cons (pe_ix ix_list (pe_fld (pv 1) rfl) pe_int (fun _ _ => rfl)) pa_nil))) pa_nil)))), ?_⟩)
  · obtain ⟨d, c, s, ga, wk, p, xs, rws, cl, rfl, _⟩ := h
    rfl
  · obtain ⟨d, c, s, ga, wk, p, xs, rws, cl, rfl, S, C, ⟨n, rfl, rfl⟩, hro, A⟩ := h
    have A : Told K H (if n < wk.game.count ∧ Lm.rightPos wk.game (Lm.posAt wk.game n) = true then .row (LmCalls.posNums (Lm.posAt wk.game n)) else LmCalls.no (-2)) Q E := A
    refine s_retC (t_call (ea_cons (ev_game T S (ev_var rfl)) (ea_cons (ev_num T C (ev_var rfl)) ea_nil)) fun H1 e1 => ⟨ga, n, wk.game, rfl, GAt.mono _ _ e1 S.2.2.1, S.2.2.2.1, fun hR => ?_, fun hR => ?_⟩)
    · rw [if_pos hR] at A
      obtain ⟨hz, q⟩ := (A.mono e1).row
      intro p2 H2 hp2 e2 h2
      exact ⟨p2, _, rfl, h2, by rw [IL_len]; exact hz, by rw [IL_len]; exact RetL.mono e2 q⟩
    · rw [if_neg hR] at A
      exact A.no.mono e1
/-! ### tell_value -/
abbrev s_tell_value : Stmt := top 113
abbrev n_tell_value : List Str := ["desk", "call", "row"]
theorem sc_tell_value : FnScope n_tell_value ["desk", "call"] (defScope s_tell_value) := ⟨rfl, rfl, rfl, by decide +kernel, rfl, by decide +kernel, by decide +kernel⟩
theorem ok_tell_value (T : Env K mg) : Cal P w K mg base (L2.CX P w) 6 "tell_value" (spAsk K (rowCall .value)) := by
  refine T.d_tell_value.cal sc_tell_value (fun _ _ _ _ _ _ us hl => match us, hl with | [_, _], _ => rfl) (fun vs H Q E h => ?_) (fun f cdv A outer s H vs Q E hr h => ⟨_, (pss_cons (ps_set (i := 2) sc_tell_value.nd rfl (Or.inl rfl) (pe_c (ok_right_row T) hr (by decide) (by rfl) (passes_call (takes_of rfl rfl rfl rfl) (fun _ _ _ _ h => h)) (pa_cons (pv 0) (pa_cons (pv 1) pa_nil)))) (pss_one (ps_ret (pe_callTy call_list_of (by rfl) T.f_list (by decide +kernel) (pa_cons (pe_c (ok_value_of T) hr (by decide) (by rfl) (passes_call (takes_of rfl rfl rfl rfl) (fun _ _ _ _ h => h)) (pa_cons (pe_fld (pv 0) rfl) (pa_cons (pv 2) pa_nil))) pa_nil))))), ?_⟩)
  · obtain ⟨d, c, s, ga, wk, p, xs, rws, cl, rfl, _⟩ := h
    rfl
  · obtain ⟨d, c, s, ga, wk, p, xs, rws, cl, rfl, S, C, ⟨r, rfl, hl, rfl⟩, hro, A⟩ := h
    have A : Told K H (LmCalls.atPos wk r fun x => (match wk.value x with | some v => .nums [v.1, v.2] | none => LmCalls.no (-3))) Q E := A
    refine q_row (D := { nx := fun _ H' => Q .non H', rt := Q }) rfl rfl S C hl A fun hR A ra H1 e1 hra => ?_
    have hp := (right_nums hR).2
    have S1 := See.mono _ _ e1 S
    have A : Told K H (match wk.value (LmCalls.posIn r) with | some v => .nums [v.1, v.2] | none => LmCalls.no (-3)) Q E := A
    refine s_retB (t_call (ea_cons (ev_sol T S1 (ev_var rfl)) (ea_cons (ev_var rfl) ea_nil)) fun H2 e2 => ⟨s, ga, ra, wk, LmCalls.posIn r, rfl, SolAt.mono _ _ e2 S1.2.1, GAt.mono _ _ e2 S1.2.2.1, S.2.2.2.1, e2 _ _ hra, hp, fun v hv t H3 e3 h3 => ?_, fun hv => ?_⟩)
    · rw [hv] at A
      exact ⟨t, _, rfl, Or.inr (st_of h3), fun l hl => A.nums l _ (fresh_back ((e1.trans e2).trans e3) hl) (((e1.trans e2).trans e3).trans (Ex.new hl)) upd_same⟩
    · rw [hv] at A
      exact A.no.mono (e1.trans e2)
/-! ### tell_moves -/
theorem el_moves {T : Env K mg} {σ : L2.St} {d s ga ra : Addr} {wk : Lm.Work} {p : Lm.Pos} {td tr : TE} (S : See K H d s ga wk) (hd : Ev td σ H (.ref d)) (hr : Ev tr σ H (.ref ra)) (hra : H ra = some (.lst (IL (LmCalls.posNums p)))) (hp : Lm.rightPos wk.game p = true) :
    EvL (tCall (sp_moves_of (K := K)) [] E (tCons (tFld K (tFld K td "solving") "game") (tCons tr tNil))) σ H (IL (Lm.moves wk.game p)) :=
  el_callR (ea_cons (ev_game T S hd) (ea_cons hr ea_nil)) fun H2 e2 Q' q' => ⟨ga, ra, wk.game, p.at_, p.side, rfl, GAt.mono _ _ e2 S.2.2.1, S.2.2.2.1, e2 _ _ hra, hp, q'⟩
abbrev s_tell_moves : Stmt := top 114
abbrev n_tell_moves : List Str := ["desk", "call", "row"]
theorem sc_tell_moves : FnScope n_tell_moves ["desk", "call"] (defScope s_tell_moves) := ⟨rfl, rfl, rfl, by decide +kernel, rfl, by decide +kernel, by decide +kernel⟩
theorem ok_tell_moves (T : Env K mg) : Cal P w K mg base (L2.CX P w) 6 "tell_moves" (spAsk K (rowCall .moves)) := by
  refine T.d_tell_moves.cal sc_tell_moves (fun _ _ _ _ _ _ us hl => match us, hl with | [_, _], _ => rfl) (fun vs H Q E h => ?_) (fun f cdv A outer s H vs Q E hr h => ⟨_, (pss_cons (ps_set (i := 2) sc_tell_moves.nd rfl (Or.inl rfl) (pe_c (ok_right_row T) hr (by decide) (by rfl) (passes_call (takes_of rfl rfl rfl rfl) (fun _ _ _ _ h => h)) (pa_cons (pv 0) (pa_cons (pv 1) pa_nil)))) (pss_one (ps_ret (pe_c (ok_counted T) hr (by decide) (by rfl) pass0 (pa_cons (pe_c (ok_moves_of T) hr (by decide) (by rfl) pass0 (pa_cons (pe_fld (pe_fld (pv 0) rfl) rfl) (pa_cons (pv 2) pa_nil))) pa_nil))))), ?_⟩)
  · obtain ⟨d, c, s, ga, wk, p, xs, rws, cl, rfl, _⟩ := h
    rfl
  · obtain ⟨d, c, s, ga, wk, p, xs, rws, cl, rfl, S, C, ⟨r, rfl, hl, rfl⟩, hro, A⟩ := h
    have A : Told K H (LmCalls.atPos wk r fun x => .row (Lm.moves wk.game x)) Q E := A
    refine q_row (D := { nx := fun _ H' => Q .non H', rt := Q }) rfl rfl S C hl A fun hR A ra H1 e1 hra => ?_
    obtain ⟨hz, q⟩ := (A.mono e1).row
    refine s_retL (el_counted (el_moves (T := T) (See.mono _ _ e1 S) (ev_var rfl) (ev_var rfl) hra (right_nums hR).2) (by rw [IL_len]; exact hz)) ?_
    rw [IL_len]
    exact q
/-! ### tell_play -/
abbrev s_tell_play : Stmt := top 115
abbrev n_tell_play : List Str := ["desk", "call", "row", "move"]
theorem sc_tell_play : FnScope n_tell_play ["desk", "call"] (defScope s_tell_play) := ⟨rfl, rfl, rfl, by decide +kernel, rfl, by decide +kernel, by decide +kernel⟩
theorem ok_tell_play (T : Env K mg) : Cal P w K mg base (L2.CX P w) 6 "tell_play" (spAsk K fun xs rws cl => ∃ m, xs = [m] ∧ rowCall (.play m) xs rws cl) := by
  refine T.d_tell_play.cal sc_tell_play (fun _ _ _ _ _ _ us hl => match us, hl with | [_, _], _ => rfl) (fun vs H Q E h => ?_) (fun f cdv A outer s H vs Q E hr h => ⟨_, (pss_cons (ps_set (i := 2) sc_tell_play.nd rfl (Or.inl rfl) (pe_c (ok_right_row T) hr (by decide) (by rfl) (passes_call (takes_of rfl rfl rfl rfl) (fun _ _ _ _ h => h)) (pa_cons (pv 0) (pa_cons (pv 1) pa_nil)))) (pss_cons (ps_set (i := 3) sc_tell_play.nd rfl (Or.inl rfl) (pe_ix ix_list (pe_fld (pv 1) rfl) pe_int (fun _ _ => rfl))) (pss_cons (ps_if (pt_cmpR op_notIn_seq (pv 3) (pe_c (ok_moves_of T) hr (by decide) (by rfl) pass0 (pa_cons (pe_fld (pe_fld (pv 0) rfl) rfl) (pa_cons (pv 2) pa_nil))) rfl) (pss_one (ps_raise rfl (takes_of rfl rfl rfl rfl) (pmkE0 T.e_NoMove (er_NoMove T) hr (by decide) (by rfl) T.g_NoMove))) pss_nil) (pss_one (ps_ret (pe_c (ok_counted T) hr (by decide) (by rfl) pass0 (pa_cons (pe_c (ok_row_after T) hr (by decide) (by rfl) pass0 (pa_cons (pv 2) (pa_cons (pv 3) pa_nil))) pa_nil))))))), ?_⟩)
  · obtain ⟨d, c, s, ga, wk, p, xs, rws, cl, rfl, _⟩ := h
    rfl
  · obtain ⟨d, c, s, ga, wk, p, xs, rws, cl, rfl, S, C, ⟨m, rfl, r, rfl, hl, rfl⟩, hro, A⟩ := h
    have A : Told K H (LmCalls.atPos wk r fun x => if (Lm.moves wk.game x).contains m = true then .row (LmCalls.posNums (Lm.after wk.game x m)) else LmCalls.no (-5)) Q E := A
    refine q_row (D := { nx := fun _ H' => Q .non H', rt := Q }) rfl rfl S C hl A fun hR A ra H1 e1 hra => ?_
    have hp := (right_nums hR).2
    have A : Told K H (if (Lm.moves wk.game (LmCalls.posIn r)).contains m = true then .row (LmCalls.posNums (Lm.after wk.game (LmCalls.posIn r) m)) else LmCalls.no (-5)) Q E := A
    refine q_asg (ev_num T (CallAt.mono _ _ e1 C) (ev_var rfl)) fun H2 e2 => ?_
    have e12 := e1.trans e2
    refine q_when (et_test (ev_niN (ev_var rfl) (el_moves (T := T) (See.mono _ _ e12 S) (ev_var rfl) (ev_var rfl) (e2 _ _ hra) hp))) (fun hb H3 e3 => ?_) (fun hb H3 e3 => ?_)
    · rw [Bool.not_eq_true'] at hb
      rw [hb, if_neg Bool.false_ne_true] at A
      exact raise0 T.e_NoMove T.r_NoMove (A.no.mono (e12.trans e3))
    · rw [Bool.not_eq_false'] at hb
      rw [if_pos hb] at A
      have hmm : m ∈ Lm.moves wk.game (LmCalls.posIn r) := List.contains_iff_mem.mp hb
      obtain ⟨hz, q⟩ := (A.mono (e12.trans e3)).row
      have hrow := rowAfter_is (g := wk.game) (x := (LmCalls.posIn r).side) (m := m) (right_iff.mp hp).1
      refine s_retL (el_counted (xs := IL (rowAfter (LmCalls.posIn r).at_ (LmCalls.posIn r).side m)) (el_callR (ea_cons (ev_var rfl) (ea_cons (ev_var rfl) ea_nil)) fun H4 e4 Q' q' => ⟨ra, (LmCalls.posIn r).at_, (LmCalls.posIn r).side, m, rfl, ((e2.trans e3).trans e4) _ _ hra, (right_iff.mp hp).2.1, by have := S.2.2.2.1.np.2; have := (right_iff.mp hp).1; omega, move_ok hmm, q'⟩) (by rw [IL_len, hrow]; exact hz)) ?_
      rw [IL_len, hrow]
      exact q
/-! ### tell_best -/
theorem ev_ixU {sp : Sp} {σ : L2.St} {ta : TA} {vs : List V} {v : Nat × Nat} (h : EvA ta σ H vs) (hs : ∀ H1, Ex H H1 → ∀ Q : VK, RetU v H1 Q → sp (vs ++ []) H1 Q E) : Ev (tOp (rIxT K) (tCall sp [] E ta) (tC (.int 0))) σ H (.int (v.1 : Nat)) := fun H1 e Q q =>
  h H1 e _ fun H2 e2 => hs H2 (e.trans e2) _ fun t H3 e3 h3 => ⟨t, _, 0, .int (v.1 : Nat), rfl, rfl, st_of h3, rfl, q H3 (e2.trans e3)⟩
theorem ended_iff {g : Lm.Game} {p : Lm.Pos} (hp : Lm.rightPos g p = true) : (Lm.ended g p).isSome = true ↔ Lm.moves g p = [] := by
  have h := ended_none_iff (g := g) (right_iff.mp hp).2.1
  cases he : Lm.ended g p with
  | none => exact ⟨fun z => (by cases z), fun z => absurd z (h.mp he)⟩
  | some v => exact ⟨fun _ => Classical.byContradiction fun z => (by rw [h.mpr z] at he; cases he), fun _ => rfl⟩
abbrev s_tell_best : Stmt := top 116
abbrev n_tell_best : List Str := ["desk", "call", "row", "move"]
theorem sc_tell_best : FnScope n_tell_best ["desk", "call"] (defScope s_tell_best) := ⟨rfl, rfl, rfl, by decide +kernel, rfl, by decide +kernel, by decide +kernel⟩
theorem ok_tell_best (T : Env K mg) : Cal P w K mg base (L2.CX P w) 6 "tell_best" (spAsk K (rowCall .best)) := by
  refine T.d_tell_best.cal sc_tell_best (fun _ _ _ _ _ _ us hl => match us, hl with | [_, _], _ => rfl) (fun vs H Q E h => ?_) (fun f cdv A outer s H vs Q E hr h => ⟨_, (pss_cons (ps_set (i := 2) sc_tell_best.nd rfl (Or.inl rfl) (pe_c (ok_right_row T) hr (by decide) (by rfl) (passes_call (takes_of rfl rfl rfl rfl) (fun _ _ _ _ h => h)) (pa_cons (pv 0) (pa_cons (pv 1) pa_nil)))) (pss_cons (ps_expr (pe_c (ok_check_solved T) hr (by decide) (by rfl) (passes_call (takes_of rfl rfl rfl rfl) (fun _ _ _ _ h => h)) (pa_cons (pe_fld (pv 0) rfl) pa_nil))) (pss_cons (ps_set (i := 3) sc_tell_best.nd rfl (Or.inl rfl) (pe_c (ok_best_move T) hr (by decide) (by rfl) (passes_call (takes_of rfl rfl rfl rfl) (fun _ _ _ _ h => h)) (pa_cons (pe_fld (pv 0) rfl) (pa_cons (pv 2) pa_nil)))) (pss_one (ps_ret (pe_lst (pa_cons (pe_ix ix_tup (pe_c (ok_value_solved T) hr (by decide) (by rfl) pass0 (pa_cons (pe_fld (pv 0) rfl) (pa_cons (pv 2) pa_nil))) pe_int (fun _ _ => rfl)) (pa_cons (pv 3) pa_nil)))))))), ?_⟩)
  · obtain ⟨d, c, s, ga, wk, p, xs, rws, cl, rfl, _⟩ := h
    rfl
  · obtain ⟨d, c, s, ga, wk, p, xs, rws, cl, rfl, S, C, ⟨r, rfl, hl, rfl⟩, hro, A⟩ := h
    have A : Told K H (LmCalls.atPos wk r fun x => LmCalls.ifSolved wk (if (Lm.ended wk.game x).isSome = true then LmCalls.no (-6) else match wk.value x, wk.best x with | some v, some m => .nums [v.1, m] | _, _ => LmCalls.no (-3))) Q E := A
    refine q_row (D := { nx := fun _ H' => Q .non H', rt := Q }) rfl rfl S C hl A fun hR A ra H1 e1 hra => ?_
    have hp := (right_nums hR).2
    have S1 := See.mono _ _ e1 S
    have A : Told K H (if wk.solved = true then (if (Lm.ended wk.game (LmCalls.posIn r)).isSome = true then LmCalls.no (-6) else match wk.value (LmCalls.posIn r), wk.best (LmCalls.posIn r) with
      | some v, some m => .nums [v.1, m]
      | _, _ => LmCalls.no (-3)) else LmCalls.no (-3)) Q E := A
    refine t_call (ea_cons (ev_sol T S1 (ev_var rfl)) ea_nil) fun H2 e2 => ⟨s, ga, wk, rfl, SolAt.mono _ _ e2 S1.2.1, fun hsv H3 e3 => ?_, fun hsv => ?_⟩
    · rw [if_pos hsv] at A
      have e23 := e2.trans e3
      have e13 := e1.trans e23
      have S3 := See.mono _ _ e13 S
      refine t_call (ea_cons (ev_sol T S3 (ev_var rfl)) (ea_cons (ev_var rfl) ea_nil)) fun H4 e4 => ⟨s, ga, ra, wk, LmCalls.posIn r, rfl, SolAt.mono _ _ e4 S3.2.1, GAt.mono _ _ e4 S3.2.2.1, S.2.2.2.1, (e23.trans e4) _ _ hra, hp, hsv, fun hz => ?_, fun m hz hb H5 e5 => ?_⟩
      · rw [if_pos ((ended_iff hp).mpr hz)] at A
        exact A.no.mono (e13.trans e4)
      · rw [if_neg fun z => hz ((ended_iff hp).mp z), value_solved hsv, hb] at A
        have e15 := (e13.trans e4).trans e5
        have S5 := See.mono _ _ e15 S
        refine s_retL (el_lst (ea_cons (ev_ixU (v := valAt wk (LmCalls.posIn r)) (ea_cons (ev_sol T S5 (ev_var rfl)) (ea_cons (ev_var rfl) ea_nil)) fun H6 e6 Q' q' => ⟨s, ga, ra, wk, LmCalls.posIn r, rfl, SolAt.mono _ _ e6 S5.2.1, GAt.mono _ _ e6 S5.2.2.1, S.2.2.2.1, (((e23.trans e4).trans e5).trans e6) _ _ hra, hp, hsv, q'⟩) (ea_cons (ev_var rfl) ea_nil)) (by show 2 ≤ 100000; decide)) ?_
        exact (A.mono e15).nums
    · rw [hsv, if_neg Bool.false_ne_true] at A
      exact A.no.mono (e1.trans e2)
/-! ### tell_line -/
abbrev s_tell_line : Stmt := top 117
abbrev n_tell_line : List Str := ["desk", "call", "row"]
theorem sc_tell_line : FnScope n_tell_line ["desk", "call"] (defScope s_tell_line) := ⟨rfl, rfl, rfl, by decide +kernel, rfl, by decide +kernel, by decide +kernel⟩
theorem ok_tell_line (T : Env K mg) : Cal P w K mg base (L2.CX P w) 6 "tell_line" (spAsk K (rowCall .line)) := by
  refine T.d_tell_line.cal sc_tell_line (fun _ _ _ _ _ _ us hl => match us, hl with | [_, _], _ => rfl) (fun vs H Q E h => ?_) (fun f cdv A outer s H vs Q E hr h => ⟨_, (pss_cons (ps_set (i := 2) sc_tell_line.nd rfl (Or.inl rfl) (pe_c (ok_right_row T) hr (by decide) (by rfl) (passes_call (takes_of rfl rfl rfl rfl) (fun _ _ _ _ h => h)) (pa_cons (pv 0) (pa_cons (pv 1) pa_nil)))) (pss_cons (ps_expr (pe_c (ok_check_solved T) hr (by decide) (by rfl) (passes_call (takes_of rfl rfl rfl rfl) (fun _ _ _ _ h => h)) (pa_cons (pe_fld (pv 0) rfl) pa_nil))) (pss_one (ps_ret (pe_c (ok_counted T) hr (by decide) (by rfl) pass0 (pa_cons (pe_c (ok_best_line T) hr (by decide) (by rfl) (passes_call (takes_of rfl rfl rfl rfl) (fun _ _ _ _ h => h)) (pa_cons (pe_fld (pv 0) rfl) (pa_cons (pv 2) pa_nil))) pa_nil)))))), ?_⟩)
  · obtain ⟨d, c, s, ga, wk, p, xs, rws, cl, rfl, _⟩ := h
    rfl
  · obtain ⟨d, c, s, ga, wk, p, xs, rws, cl, rfl, S, C, ⟨r, rfl, hl, rfl⟩, hro, A⟩ := h
    have A : Told K H (LmCalls.atPos wk r fun x => LmCalls.ifSolved wk (match wk.value x with | some v => if v.1 = Lm.DRAW then LmCalls.no (-7) else .row (wk.line v.2 x) | none => LmCalls.no (-3))) Q E := A
    refine q_row (D := { nx := fun _ H' => Q .non H', rt := Q }) rfl rfl S C hl A fun hR A ra H1 e1 hra => ?_
    have hp := (right_nums hR).2
    have S1 := See.mono _ _ e1 S
    have A : Told K H (if wk.solved = true then (match wk.value (LmCalls.posIn r) with
      | some v => if v.1 = Lm.DRAW then LmCalls.no (-7) else .row (wk.line v.2 (LmCalls.posIn r))
      | none => LmCalls.no (-3)) else LmCalls.no (-3)) Q E := A
    refine t_call (ea_cons (ev_sol T S1 (ev_var rfl)) ea_nil) fun H2 e2 => ⟨s, ga, wk, rfl, SolAt.mono _ _ e2 S1.2.1, fun hsv H3 e3 => ?_, fun hsv => ?_⟩
    · rw [if_pos hsv, value_solved hsv] at A
      have A : Told K H (if (valAt wk (LmCalls.posIn r)).1 = Lm.DRAW then LmCalls.no (-7) else .row (wk.line (valAt wk (LmCalls.posIn r)).2 (LmCalls.posIn r))) Q E := A
      have e23 := e2.trans e3
      have e13 := e1.trans e23
      have S3 := See.mono _ _ e13 S
      refine s_retC (t_call (ea_cons (ev_sol T S3 (ev_var rfl)) (ea_cons (ev_var rfl) ea_nil)) fun H4 e4 => ⟨s, ga, ra, wk, LmCalls.posIn r, rfl, SolAt.mono _ _ e4 S3.2.1, GAt.mono _ _ e4 S3.2.2.1, S.2.2.2.1, (e23.trans e4) _ _ hra, hp, hsv, hro, fun hz => ?_, fun hz => ?_⟩)
      · rw [if_pos hz] at A
        exact A.no.mono (e13.trans e4)
      · rw [if_neg hz] at A
        obtain ⟨hz, q⟩ := (A.mono (e13.trans e4)).row
        intro p2 H5 hp2 e5 h5
        exact ⟨p2, _, rfl, h5, by rw [IL_len]; exact hz, by rw [IL_len]; exact RetL.mono e5 q⟩
    · rw [hsv, if_neg Bool.false_ne_true] at A
      exact A.no.mono (e1.trans e2)
end
end Es
end

section
set_option Elab.async false
set_option linter.all false
set_option maxRecDepth 100000
set_option maxHeartbeats 4000000
namespace Es
open PySem PySem.Spec PyProof.Rows L2
/-! ### == of two dicts whose keys are tuples, all values True -/
section
variable {prog : Program} {w : World} {κ : Type} [DecidableEq κ] {kn : HeapKind prog w κ} {A : Around} {E : Value → Shared → Prop} {s : Shared}
theorem pairsT {nm : String} {a b : Addr} {xs ys : List (κ × Addr × Value)} {Q : Bool → Shared → Prop} (hu : kn.room A) (na : (a == sysModules) = false) (nb : (b == sysModules) = false) (da : s.heap.DictOfH kn a xs) (db : s.heap.DictOfH kn b ys)
    (va : ∀ x ∈ xs, x.2.2 = .bool true) (vb : ∀ y ∈ ys, y.2.2 = .bool true) {r : Bool} (hrr : r = true ↔ xs.length = ys.length ∧ ∀ x ∈ xs, x.1 ∈ ys.map (·.1)) (h : Q r s) : wpAny (model prog w) A (Builtin.Dict.samePairs nm a b) Q E s := by
  obtain ⟨oa, es, ep, ha, _, ea, ta, ia, ua⟩ := da
  obtain ⟨ob, fs, eq, hb, _, eb, tb, ib, ub⟩ := db
  have la : es.size = xs.length := size_of_entries ta
  have lb : fs.size = ys.length := size_of_entries tb
  unfold Builtin.Dict.samePairs Builtin.Dict.showsAll
  rw [if_neg (by rw [na]; exact Bool.false_ne_true), if_neg (by rw [nb]; exact Bool.false_ne_true)]
  refine wpAny_bind (wpAny_pure (wpAny_bind (wpAny_pure (wpAny_bind (wpAny_dictEntries ha ea ?_)))))
  dsimp only
  refine wpAny_bind (wpAny_dictEntries hb eb ?_)
  by_cases z : es.size = fs.size
  · rw [if_neg (by rw [z]; simp)]
    refine wpAny_bind (wpAny_dictEpoch ha ea (wpAny_bind ?_))
    rw [Std.Legacy.Range.forIn_eq_forIn_range']
    simp only [Std.Legacy.Range.size, Nat.sub_zero, Nat.add_sub_cancel, Nat.div_one]
    refine wpAny_forIn_list _ (fun rest q s' => s' = s ∧ q = (none, ()) ∧ ∃ i, rest = List.range' i (es.size - i) ∧ i ≤ es.size ∧ ∀ j x, j < i → xs[j]? = some x → x.1 ∈ ys.map (·.1)) _ ?_ ?_ _ _ ⟨rfl, rfl, 0, by simp, Nat.zero_le _, fun j x hj => by omega⟩
    · rintro i' rest q s' ⟨rfl, rfl, i, hr, hi, pre⟩
      have lt : i < es.size := by
        rcases Nat.lt_or_ge i es.size with c | c
        · exact c
        · rw [Nat.sub_eq_zero_of_le c] at hr
          simp at hr
      obtain ⟨rfl, hrest⟩ : i' = i ∧ rest = List.range' (i + 1) (es.size - (i + 1)) := by
        rw [show es.size - i = (es.size - (i + 1)) + 1 by omega, List.range'_succ] at hr
        injection hr with r1 r2
        exact ⟨r1, r2⟩
      obtain ⟨⟨k, ka, v⟩, hx⟩ : ∃ x, xs[i']? = some x := ⟨_, List.getElem?_eq_getElem (by omega)⟩
      have hv : v = .bool true := va _ (List.mem_of_getElem? hx)
      subst hv
      have hk : kn.is s'.heap k ka := ia _ (List.mem_of_getElem? hx)
      refine wpAny_bind (wpAny_dictEntries ha ea ?_)
      rw [entry_at ta i', hx]
      show wpAny _ _ (holding [Value.ref ka, Value.bool true] _ >>= _) _ _ _
      refine wpAny_bind (wpAny_holding (wpAny_bind (wpAny_dictFind_heap hu hk hb eb tb ib ub (fun no => ?_) (fun j p hj => ?_))))
      · refine wpAny_pure ?_
        show wpAny _ _ (if (!false) = true then _ else _) _ _ _
        rw [if_pos (by decide)]
        refine wpAny_pure (wpAny_pure ?_)
        have rf : r = false := by
          rw [Bool.eq_false_iff, ne_eq, hrr]
          rintro ⟨_, all⟩
          obtain ⟨y, hy, e⟩ := List.mem_map.mp (all _ (List.mem_of_getElem? hx))
          obtain ⟨j, hj⟩ := List.mem_iff_getElem?.mp hy
          obtain ⟨k', p'⟩ := y
          have e : k' = k := e
          subst e
          exact no j p' hj
        rw [rf] at h
        exact h
      · refine wpAny_bind (wpAny_dictEntries hb eb ?_)
        rw [entry_at tb j, hj]
        have hp : p.2 = .bool true := vb _ (List.mem_of_getElem? hj)
        show wpAny _ _ (holding [p.2] (eqBool (Value.bool true) p.2)) _ _ _
        rw [hp]
        refine wpAny_holding (eqAt_same (v := V.bl true) (show RelV (V.bl true) (Value.bool true) from rfl) (show RelV (V.bl true) (Value.bool true) from rfl) rfl prog w _ _ ?_)
        show wpAny _ _ (if (!true) = true then _ else _) _ _ _
        rw [if_neg (by decide)]
        refine wpAny_bind (wpAny_dictEpoch ha ea ?_)
        rw [if_neg (by simp)]
        refine wpAny_pure ⟨rfl, rfl, i' + 1, hrest, lt, fun j' x hj' hx' => ?_⟩
        by_cases c : j' = i'
        · subst c
          rw [hx] at hx'
          injection hx' with hx'
          subst hx'
          exact List.mem_map.mpr ⟨_, List.mem_of_getElem? hj, rfl⟩
        · exact pre j' x (by omega) hx'
    · rintro q s' ⟨rfl, rfl, i, hr, hi, pre⟩
      have hin : i = es.size := by
        rcases Nat.lt_or_ge i es.size with c | c
        · rw [show es.size - i = (es.size - (i + 1)) + 1 by omega, List.range'_succ] at hr
          exact nomatch hr
        · omega
      refine wpAny_pure ?_
      have rt : r = true := by
        refine hrr.mpr ⟨by omega, fun x hx => ?_⟩
        obtain ⟨j, hj⟩ := List.mem_iff_getElem?.mp hx
        exact pre j x (by have := (List.getElem?_eq_some_iff.mp hj).1; omega) hj
      rw [rt] at h
      exact h
  · rw [if_pos (by simpa using z)]
    rw [show r = false by rw [Bool.eq_false_iff, ne_eq, hrr]; exact fun y => z (by omega)] at h
    exact wpAny_bind (wpAny_rule (wpAny_pure h))
theorem eqT {a b : Addr} {xs ys : List (κ × Addr × Value)} {Q : Value → Shared → Prop} (hk : kn.room A.in1) (hu : A.units < cLine) (na : (a == sysModules) = false) (nb : (b == sysModules) = false) (da : s.heap.DictOfH kn a xs) (db : s.heap.DictOfH kn b ys)
    (va : ∀ x ∈ xs, x.2.2 = .bool true) (vb : ∀ y ∈ ys, y.2.2 = .bool true) {r : Bool} (hrr : r = true ↔ xs.length = ys.length ∧ ∀ x ∈ xs, x.1 ∈ ys.map (·.1)) (h : Q (.bool r) s) : wpAny (model prog w) A (compareOp .Eq (.ref a) (.ref b)) Q E s := by
  refine wpAny_richCompare_same_room (op := .Eq) da.typeIs db.typeIs PySem.F.slot_dict_eq (wpAny_call_entry PySem.F.slot_dict_eq da.typeIs PySem.F.entry_dict_eq ?_ (PySem.F.args_dict_eq_2 (Value.ref a) (Value.ref b))) hu
  show wpAny _ _ (Builtin.Dict.dictSlotArgs "__eq__" ⟨[.ref a, .ref b], []⟩ >>= _) _ E s
  unfold Builtin.Dict.dictSlotArgs
  refine wpAny_bind (wpAny_bind (wpAny_notOrdered_dict da.typeIs ?_))
  show wpAny _ _ (pure (Value.ref a, Value.ref b)) _ E s
  refine wpAny_pure (wpAny_bind (wpAny_isInstance (T := "dict") db.typeIs PySem.F.sub_dict_dict ?_))
  simp only [Bool.not_true, Bool.false_eq_true, if_false]
  refine wpAny_bind (wpAny_pure (wpAny_bind (wpAny_pure (wpAny_bind (pairsT hk na nb da db va vb hrr ?_)))))
  refine wpAny_pure ⟨_, rfl, fun x => ?_, ?_⟩
  · cases x
  · simpa using h
end
/-- a dict whose keys are tuples, all values True, by its keys -/
def DTT (ks : List (List Key)) : HO := .dT (ks.map fun k => (k, V.bl true))
def rEqTT : R2 := fun x y H Q => ∃ a b ks ls, x = .ref a ∧ y = .ref b ∧ H a = some (DTT ks) ∧ H b = some (DTT ls) ∧ ∃ r : Bool, (r = true ↔ ks.length = ls.length ∧ ∀ k ∈ ks, k ∈ ls) ∧ Q (.bl r) H
theorem kt_keys {H : Hp} {ks : List (List Key)} {xs : List (List Key × Addr × Value)} (r : KT H (ks.map fun k => (k, V.bl true)) xs) : xs.map (·.1) = ks ∧ ∀ x ∈ xs, x.2.2 = .bool true := by
  induction ks generalizing xs with
  | nil =>
    cases r
    exact ⟨rfl, fun x hx => by cases hx⟩
  | cons k ks ih =>
    rw [List.map_cons] at r
    cases r with
    | cons h t =>
      obtain ⟨e1, e2⟩ := ih t
      refine ⟨by rw [List.map_cons, e1, ← h.1], fun x hx => ?_⟩
      rcases List.mem_cons.mp hx with z | z
      · rw [z]
        exact h.2.2
      · exact e2 x z
theorem op_eqTT {X : Cx} (hu : X.A.units + 1 < cLine) : OpR X (compareOp .Eq) rEqTT := by
  intro pins s σ H x y v u Q I rx ry h
  obtain ⟨a, b, ks, ls, rfl, rfl, ha, hb, r, hr, q⟩ := h
  obtain rfl : v = Value.ref a := rx
  obtain rfl : u = Value.ref b := ry
  obtain ⟨_, na, xs, ra, da⟩ := dt_of I.hok ha
  obtain ⟨_, nb, ys, rb, db⟩ := dt_of I.hok hb
  obtain ⟨e1, e2⟩ := kt_keys ra
  obtain ⟨f1, f2⟩ := kt_keys rb
  refine eqT (kn := tupleKind (mixKind X.prog X.w)) (tupleKind_room_in1 hu) (by omega) na nb da db e2 f2 (r := r) ?_ (fin_bl I q rfl)
  rw [hr, ← e1, ← f1, List.length_map, List.length_map]
  exact and_congr Iff.rfl ⟨fun h x hx => h _ (List.mem_map.mpr ⟨x, hx, rfl⟩), fun h k hk => by
    obtain ⟨x, hx, rfl⟩ := List.mem_map.mp hk
    exact h x hx⟩
end Es
end

section
set_option Elab.async false
set_option linter.all false
set_option maxRecDepth 100000
set_option maxHeartbeats 4000000
namespace Es
open PySem PySem.Spec PyProof.Rows L2 Evl
theorem bit4 {t : Nat} (h : t < 8) : decide (V.int (Builtin.bitAnd (t : Int) 4) = V.int 4) = Lm.inSet t 2 := by
  rcases (show t = 0 ∨ t = 1 ∨ t = 2 ∨ t = 3 ∨ t = 4 ∨ t = 5 ∨ t = 6 ∨ t = 7 by omega) with e | e | e | e | e | e | e | e <;> subst e <;> decide
theorem bit2 {t : Nat} (h : t < 8) : decide (V.int (Builtin.bitAnd (t : Int) 2) = V.int 2) = Lm.inSet t 1 := by
  rcases (show t = 0 ∨ t = 1 ∨ t = 2 ∨ t = 3 ∨ t = 4 ∨ t = 5 ∨ t = 6 ∨ t = 7 by omega) with e | e | e | e | e | e | e | e <;> subst e <;> decide
theorem bit1 {t : Nat} (h : t < 8) : decide (V.int (Builtin.bitAnd (t : Int) 1) = V.int 1) = Lm.inSet t 0 := by
  rcases (show t = 0 ∨ t = 1 ∨ t = 2 ∨ t = 3 ∨ t = 4 ∨ t = 5 ∨ t = 6 ∨ t = 7 by omega) with e | e | e | e | e | e | e | e <;> subst e <;> decide
/-- a pair of whole numbers told -/
abbrev P2 (v : Int × Int) : HO := .tup [.int v.1, .int v.2]
def RetP (v : Int × Int) (H : Hp) (Q : VK) : Prop := ∀ t H', Ex H H' → H' t = some (P2 v) → Q (.ref t) H'
theorem RetP.mono {v : Int × Int} {H H' : Hp} {Q : VK} (e : Ex H H') (h : RetP v H Q) : RetP v H' Q := fun t H2 e2 h2 => h t H2 (e.trans e2) h2
def EvP (te : TE) (σ : L2.St) (H : Hp) (v : Int × Int) : Prop := ∀ H1, Ex H H1 → ∀ Q : VK, RetP v H1 Q → te σ H1 Q
section
variable {K : Fr} {σ : L2.St} {H : Hp} {ta tb : TE} {D : Ends} {tz : TS}
theorem ep_callR {sp : Sp} {vs : List V} {v : Int × Int} {E : XK} {ta : TA} (h : EvA ta σ H vs) (hs : ∀ H1, Ex H H1 → ∀ Q : VK, RetP v H1 Q → sp (vs ++ []) H1 Q E) : EvP (tCall sp [] E ta) σ H v := fun H1 e Q q =>
  h H1 e _ fun H2 e2 => hs H2 (e.trans e2) Q (q.mono e2)
theorem q_asgP {i : Nat} {v : Int × Int} (h : EvP ta σ H v) (k : ∀ t H1, Ex H H1 → H1 t = some (P2 v) → tz D (σ.set i (some (.ref t))) H1) : tSeq (tAsg ta (gName i)) tz D σ H := h H (Ex.refl H) _ fun t H1 e h1 => k t H1 e h1
theorem el_catLL {xs ys : List V} (ha : EvL ta σ H xs) (hb : EvL tb σ H ys) (hz : xs.length + ys.length ≤ sizeLine) : EvL (tOp rCat ta tb) σ H (xs ++ ys) := fun H1 e Q q =>
  ha H1 e _ fun l H2 hl e2 h2 => hb H2 (e.trans e2) _ fun b H3 hb' e3 h3 => ⟨l, b, xs, ys, rfl, rfl, e3 _ _ h2, h3, hz, fun p hp => q p _ (fresh_back (e2.trans e3) hp) ((e2.trans e3).trans (Ex.new hp)) upd_same⟩
end
section
variable {P : Program} {w : World} {K : Fr} {mg : Str → Option Value} {base : Heap}
/-! ### mirrored_pair, turned_pair -/
def sp_mirrored_pair : Sp := fun vs H Q _ => ∃ (t : Nat) (f r e : Int), vs = [.int (t : Nat), .int f, .int r, .int e] ∧ t < 8 ∧ RetP (mirT t f r e) H Q
abbrev s_mirrored_pair : Stmt := top 93
abbrev n_mirrored_pair : List Str := ["turn", "file", "rank", "edge"]
theorem sc_mirrored_pair : FnScope n_mirrored_pair ["turn", "file", "rank", "edge"] (defScope s_mirrored_pair) := ⟨rfl, rfl, rfl, by decide +kernel, rfl, by decide +kernel, by decide +kernel⟩
theorem ok_mirrored_pair (T : Env K mg) : Cal P w K mg base CX0 1 "mirrored_pair" sp_mirrored_pair := by
  refine T.d_mirrored_pair.cal sc_mirrored_pair (fun _ _ _ _ _ _ us hl => match us, hl with | [_, _, _, _], _ => rfl) (fun vs H Q E h => ?_) (Body0.by fun f cdv A outer s H vs Q E hr h => ⟨_, (pss_cons (ps_if (pt_cmpR op_eq (pe_op op_and (pv 0) pe_int) pe_int (nomark _)) (pss_one (ps_set (i := 1) sc_mirrored_pair.nd rfl (Or.inl rfl) (pe_op op_sub (pv 3) (pv 1)))) pss_nil) (pss_cons (ps_if (pt_cmpR op_eq (pe_op op_and (pv 0) pe_int) pe_int (nomark _)) (pss_one (ps_set (i := 2) sc_mirrored_pair.nd rfl (Or.inl rfl) (pe_op op_sub (pv 3) (pv 2)))) pss_nil) (pss_one (ps_ret (pe_tup (pa_cons (pv 1) (pa_cons (pv 2) pa_nil))))))), ?_⟩)
  · obtain ⟨t, f, r, e, rfl, _⟩ := h
    rfl
  · obtain ⟨t, f, r, e, rfl, ht, q⟩ := h
    refine q_ifAsg (b := Lm.inSet t 0) (i := 1) (v := .int (mirT t f r e).1) (et_is (et_test (ev_op (ev_op (ev_var rfl) ev_c rv_I0) ev_c (rv_eq rfl))) (bit1 ht)) (fun hb => ev_is (ev_op (ev_var rfl) (ev_var rfl) rv_I0) (by unfold mirT; rw [if_pos hb])) (fun hb => by unfold mirT; rw [hb, if_neg Bool.false_ne_true]; rfl) fun H1 e1 => ?_
    refine q_ifAsg (b := Lm.inSet t 1) (i := 2) (v := .int (mirT t f r e).2) (et_is (et_test (ev_op (ev_op (ev_var rfl) ev_c rv_I0) ev_c (rv_eq rfl))) (bit2 ht)) (fun hb => ev_is (ev_op (ev_var rfl) (ev_var rfl) rv_I0) (by unfold mirT; rw [if_pos hb])) (fun hb => by unfold mirT; rw [hb, if_neg Bool.false_ne_true]; rfl) fun H2 e2 => ?_
    exact s_retU (eu_tup (ea_cons (ev_var rfl) (ea_cons (ev_var rfl) ea_nil)) (by show 2 ≤ 100000; decide)) fun p H3 hp e3 h3 => q p H3 ((e1.trans e2).trans e3) h3
def sp_turned_pair : Sp := fun vs H Q _ => ∃ (t : Nat) (f r e : Int), vs = [.int (t : Nat), .int f, .int r, .int e] ∧ t < 8 ∧ RetP (pairT t f r e) H Q
abbrev s_turned_pair : Stmt := top 92
abbrev n_turned_pair : List Str := ["turn", "file", "rank", "edge"]
theorem sc_turned_pair : FnScope n_turned_pair ["turn", "file", "rank", "edge"] (defScope s_turned_pair) := ⟨rfl, rfl, rfl, by decide +kernel, rfl, by decide +kernel, by decide +kernel⟩
theorem ok_turned_pair (T : Env K mg) : Cal P w K mg base CX0 2 "turned_pair" sp_turned_pair := by
  refine T.d_turned_pair.cal sc_turned_pair (fun _ _ _ _ _ _ us hl => match us, hl with | [_, _, _, _], _ => rfl) (fun vs H Q E h => ?_) (Body0.by fun f cdv A outer s H vs Q E hr h => ⟨_, (pss_cons (ps_if (pt_cmpR op_eq (pe_op op_and (pv 0) pe_int) pe_int (nomark _)) (pss_one (ps_ret (pe_c (ok_mirrored_pair T) hr (by decide) (by rfl) pass0 (pa_cons (pv 0) (pa_cons (pv 2) (pa_cons (pv 1) (pa_cons (pv 3) pa_nil))))))) pss_nil) (pss_one (ps_ret (pe_c (ok_mirrored_pair T) hr (by decide) (by rfl) pass0 (pa_cons (pv 0) (pa_cons (pv 1) (pa_cons (pv 2) (pa_cons (pv 3) pa_nil)))))))), ?_⟩)
  · obtain ⟨t, f, r, e, rfl, _⟩ := h
    rfl
  · obtain ⟨t, f, r, e, rfl, ht, q⟩ := h
    unfold pairT at q
    refine q_when (b := Lm.inSet t 2) (et_is (et_test (ev_op (ev_op (ev_var rfl) ev_c rv_I0) ev_c (rv_eq rfl))) (bit4 ht)) (fun hb H1 e1 => ?_) (fun hb H1 e1 => ?_)
    · rw [if_pos hb] at q
      exact r_call (ea_cons (ev_var rfl) (ea_cons (ev_var rfl) (ea_cons (ev_var rfl) (ea_cons (ev_var rfl) ea_nil)))) fun H2 e2 => ⟨t, r, f, e, rfl, ht, q.mono (e1.trans e2)⟩
    · rw [hb, if_neg Bool.false_ne_true] at q
      exact r_call (ea_cons (ev_var rfl) (ea_cons (ev_var rfl) (ea_cons (ev_var rfl) (ea_cons (ev_var rfl) ea_nil)))) fun H2 e2 => ⟨t, f, r, e, rfl, ht, q.mono (e1.trans e2)⟩
/-! ### turned_square, turned_set -/
def tSq (t s : Nat) : Nat := if s = Lm.OFF then Lm.OFF else Lm.turnSq t s
def sp_turned_square : Sp := fun vs H Q _ => ∃ (t s : Nat), vs = [.int (t : Nat), .int (s : Nat)] ∧ t < 8 ∧ s ≤ 64 ∧ RetV (.int (tSq t s : Nat)) H Q
abbrev s_turned_square : Stmt := top 94
abbrev n_turned_square : List Str := ["turn", "square", "pair"]
theorem sc_turned_square : FnScope n_turned_square ["turn", "square"] (defScope s_turned_square) := ⟨rfl, rfl, rfl, by decide +kernel, rfl, by decide +kernel, by decide +kernel⟩
theorem ok_turned_square (T : Env K mg) : Cal P w K mg base CX0 3 "turned_square" sp_turned_square := by
  refine T.d_turned_square.cal sc_turned_square (fun _ _ _ _ _ _ us hl => match us, hl with | [_, _], _ => rfl) (fun vs H Q E h => ?_) (Body0.by fun f cdv A outer s H vs Q E hr h => ⟨_, (pss_cons (ps_if (pt_cmpR op_eq (pv 1) (pe_gv (by rfl) T.v_OFF) (nomark _)) (pss_one (ps_ret (pe_gv (by rfl) T.v_OFF))) pss_nil) (pss_cons (ps_set (i := 2) sc_turned_square.nd rfl (Or.inl rfl) (pe_c (ok_turned_pair T) hr (by decide) (by rfl) pass0 (pa_cons (pv 0) (pa_cons (pe_op op_modN (pv 1) pe_int) (pa_cons (pe_op op_fdivN (pv 1) pe_int) (pa_cons (pe_gv (by rfl) T.v_LAST) pa_nil)))))) (pss_one (ps_ret (pe_op op_add (pe_op op_mul pe_int (pe_ix ix_tup (pv 2) pe_int (fun _ _ => rfl))) (pe_ix ix_tup (pv 2) pe_int (fun _ _ => rfl))))))), ?_⟩)
  · obtain ⟨t, s, rfl, _⟩ := h
    rfl
  · obtain ⟨t, s, rfl, ht, hs, q⟩ := h
    unfold tSq at q
    refine q_when (b := decide (s = 64)) (et_is (et_test (ev_op (ev_var rfl) ev_c (rv_eq rfl))) (dec_nat (b := 64))) (fun hb H1 e1 => ?_) (fun hb H1 e1 => ?_)
    · rw [decide_eq_true_eq] at hb
      rw [if_pos (show s = Lm.OFF from hb)] at q
      exact s_ret ev_c fun H2 e2 => q H2 (e1.trans e2)
    · rw [decide_eq_false_iff_not] at hb
      rw [if_neg (show ¬ s = Lm.OFF from hb)] at q
      have h8 : ((s : Nat) : Int).fmod 8 = ((s % 8 : Nat) : Int) := fmod_nat s 8
      have d8 : ((s : Nat) : Int).fdiv 8 = ((s / 8 : Nat) : Int) := fdiv_nat s 8
      refine q_asgP (v := pairT t ((s % 8 : Nat) : Int) ((s / 8 : Nat) : Int) 7) (ep_callR (ea_cons (ev_var rfl) (ea_cons (ev_is (ev_op (ev_var rfl) ev_c (rv_I (by decide))) (by rw [h8])) (ea_cons (ev_is (ev_op (ev_var rfl) ev_c (rv_I ⟨by decide, by decide⟩)) (by rw [d8])) (ea_cons ev_c ea_nil)))) fun H2 e2 Q' q' => ⟨t, _, _, 7, rfl, ht, q'⟩) fun pr H2 e2 h2 => ?_
      have key := turnSq_pair (t := t) (s := s) (by omega)
      refine s_ret (ev_is (ev_op (ev_op ev_c (ev_op (ev_var rfl) ev_c (rv_ixT (K := K) (v := .int (pairT t ((s % 8 : Nat) : Int) ((s / 8 : Nat) : Int) 7).2) (st_of h2) rfl)) (rv_I (Or.inl ⟨by decide, by decide⟩))) (ev_op (ev_var rfl) ev_c (rv_ixT (K := K) (v := .int (pairT t ((s % 8 : Nat) : Int) ((s / 8 : Nat) : Int) 7).1) (st_of h2) rfl)) rv_I0) (by rw [key])) fun H3 e3 => q H3 ((e1.trans e2).trans e3)
def sp_turned_set : Sp := fun vs H Q _ => ∃ (t x : Nat), vs = [.int (t : Nat), .int (x : Nat)] ∧ t < 8 ∧ RetV (.int (Lm.turnSet x t : Nat)) H Q
abbrev s_turned_set : Stmt := top 95
abbrev n_turned_set : List Str := ["turn", "squares", "turned", "square"]
theorem sc_turned_set : FnScope n_turned_set ["turn", "squares"] (defScope s_turned_set) := ⟨rfl, rfl, rfl, by decide +kernel, rfl, by decide +kernel, by decide +kernel⟩
theorem ok_turned_set (T : Env K mg) : Cal P w K mg base CX0 4 "turned_set" sp_turned_set := by
  refine T.d_turned_set.cal sc_turned_set (fun _ _ _ _ _ _ us hl => match us, hl with | [_, _], _ => rfl) (fun vs H Q E h => ?_) (Body0.by fun f cdv A outer s H vs Q E hr h => ⟨_, (pss_cons (ps_set (i := 2) sc_turned_set.nd rfl (Or.inl rfl) pe_int) (pss_cons (ps_for PassesOwn.never rfl (pi_list (pe_c (ok_squares_of T) hr (by decide) (by rfl) pass0 (pa_cons (pv 1) pa_nil))) (pg_name (i := 3) sc_turned_set.nd rfl (Or.inl rfl)) (pss_one (ps_set (i := 2) sc_turned_set.nd rfl (Or.inl rfl) (pe_op op_or (pv 2) (pe_op op_shl pe_int (pe_c (ok_turned_square T) hr (by decide) (by rfl) pass0 (pa_cons (pv 0) (pa_cons (pv 3) pa_nil)))))))) (pss_one (ps_ret (pv 2))))), ?_⟩)
  · obtain ⟨t, x, rfl, _⟩ := h
    rfl
  · obtain ⟨t, x, rfl, ht, q⟩ := h
    refine q_asg ev_c fun H1 e1 => ?_
    refine q_forNLn (K := K) (xs := IL (Lm.squaresOf x)) (el_callR (ea_cons (ev_var rfl) ea_nil) fun H2 e2 Q' q' => ⟨x, rfl, q'⟩) (fun p i σ H' => (∃ u, σ = [some (.int (t : Nat)), some (.int (x : Nat)), some (.int ((orSet t ((Lm.squaresOf x).take i) : Nat) : Int)), u]) ∧ Ex H H' ∧ H' p = some (.lst (IL (Lm.squaresOf x)))) (fun p H2 hp e2 h2 => ⟨⟨none, rfl⟩, e1.trans e2, h2⟩) (fun p i σ' H' _ pp => sq_of pp.2.2) ?_ ?_
    · rintro p i y σ' H' hy ⟨⟨u, rfl⟩, e3, hp3⟩
      obtain ⟨n, hn, rfl⟩ := IL_get hy
      have hn64 := (mem_squares.mp (List.mem_of_getElem? hn)).1
      have hsq : tSq t n = Lm.turnSq t n := by
        unfold tSq
        exact if_neg (fun z => by rw [z] at hn64; exact absurd hn64 (by decide))
      have hlt := turnSq_lt (t := t) hn64
      refine s_asg (ev_is (w := .int ((orSet t ((Lm.squaresOf x).take (i + 1)) : Nat) : Int)) (ev_op (ev_var rfl) (ev_op ev_c (ev_callR (v := .int (tSq t n : Nat)) (ea_cons (ev_var rfl) (ea_cons (ev_var rfl) ea_nil)) fun H4 e4 Q' q' => ⟨t, n, rfl, ht, by omega, q'⟩) (rv_I ⟨by omega, by rw [hsq]; omega, by decide⟩)) rv_I0) ?_) fun H4 e4 => ⟨⟨_, rfl⟩, e3.trans e4, e4 _ _ hp3⟩
      rw [take_next hn, orSet_snoc, hsq, Bits.bitOr_pp (Int.natCast_nonneg _) (by rw [Int.one_mul]; exact Int.le_of_lt (Int.pow_pos (by decide)))]
      congr 3
      rw [Int.one_mul, Int.toNat_natCast]
      have : ((2 : Int) ^ Lm.turnSq t n) = ((2 ^ Lm.turnSq t n : Nat) : Int) := by push_cast; rfl
      rw [this, Int.toNat_natCast]
    · rintro p σ' H' ⟨⟨u, rfl⟩, e3, hp3⟩
      refine s_ret (ev_var rfl) fun H4 e4 => ?_
      rw [IL_len, List.take_length, orSet_is]
      exact q H4 (e3.trans e4)
end
end Es
end

section
set_option Elab.async false
set_option linter.all false
set_option maxRecDepth 100000
set_option maxHeartbeats 4000000
namespace Es
open PySem PySem.Spec PyProof.Rows L2 Evl
/-- a pattern turned, as a key -/
def keyL (t : Nat) (q : Lm.Pattern) : List Key := [Sum.inl (pairT t q.df q.dr 0).1, Sum.inl (pairT t q.df q.dr 0).2, Sum.inl (q.reach : Int), Sum.inl (q.how : Int)]
theorem keyL_eq {t t' : Nat} {q q' : Lm.Pattern} : keyL t q = keyL t' q' ↔ keyP t q = keyP t' q' := by
  unfold keyL keyP
  simp only [List.cons.injEq, Sum.inl.injEq, Prod.mk.injEq, and_true]
  constructor
  · rintro ⟨a, b, c, d⟩
    exact ⟨a, b, by omega, by omega⟩
  · rintro ⟨a, b, c, d⟩
    exact ⟨a, b, by omega, by omega⟩
theorem keyL_same {t : Nat} {l : List Lm.Pattern} : (∀ k, (∃ q ∈ l, keyL t q = k) ↔ ∃ q ∈ l, keyL 0 q = k) ↔ Lm.samePatterns (l.map (Lm.turnedPattern t)) l = true := by
  rw [same_iff]
  constructor
  · intro h k
    constructor
    · rintro ⟨q, hq, rfl⟩
      obtain ⟨q', hq', e⟩ := (h (keyL t q)).mp ⟨q, hq, rfl⟩
      exact ⟨q', hq', keyL_eq.mp e⟩
    · rintro ⟨q, hq, rfl⟩
      obtain ⟨q', hq', e⟩ := (h (keyL 0 q)).mpr ⟨q, hq, rfl⟩
      exact ⟨q', hq', keyL_eq.mp e⟩
  · intro h k
    constructor
    · rintro ⟨q, hq, rfl⟩
      obtain ⟨q', hq', e⟩ := (h (keyP t q)).mp ⟨q, hq, rfl⟩
      exact ⟨q', hq', keyL_eq.mpr e⟩
    · rintro ⟨q, hq, rfl⟩
      obtain ⟨q', hq', e⟩ := (h (keyP 0 q)).mpr ⟨q, hq, rfl⟩
      exact ⟨q', hq', keyL_eq.mpr e⟩
theorem put_TT {ks : List (List Key)} (nd : ks.Nodup) (k : List Key) : ∃ ls : List (List Key), putK (ks.map fun k => (k, V.bl true)) k (V.bl true) = ls.map (fun k => (k, V.bl true)) ∧ ls.Nodup ∧ (∀ x, x ∈ ls ↔ x ∈ ks ∨ x = k) ∧ ls.length ≤ ks.length + 1 := by
  unfold putK
  by_cases h : k ∈ ks
  · rw [if_pos (List.any_eq_true.mpr ⟨(k, V.bl true), List.mem_map.mpr ⟨k, h, rfl⟩, decide_eq_true rfl⟩)]
    refine ⟨ks, ?_, nd, fun x => ⟨Or.inl, fun z => z.elim id (fun e => e ▸ h)⟩, Nat.le_succ _⟩
    rw [List.map_map]
    refine List.map_congr_left fun x _ => ?_
    show (if x = k then (x, V.bl true) else (x, V.bl true)) = _
    split <;> rfl
  · rw [if_neg (fun z => by
      obtain ⟨⟨x, v⟩, hx, e⟩ := List.any_eq_true.mp z
      obtain ⟨y, hy, e'⟩ := List.mem_map.mp hx
      have e : x = k := of_decide_eq_true e
      have e' : y = x := congrArg Prod.fst e'
      rw [← e, ← e'] at h
      exact h hy)]
    refine ⟨ks ++ [k], by rw [List.map_append]; rfl, List.nodup_append.mpr ⟨nd, List.pairwise_singleton .., fun a ha b hb e => ?_⟩, fun x => ?_, by rw [List.length_append]; exact Nat.le_refl _⟩
    · rw [List.mem_singleton.mp hb] at e
      rw [e] at ha
      exact h ha
    · rw [List.mem_append, List.mem_singleton]
section
variable {K : Fr} {σ : L2.St} {H : Hp} {ta tb td tv : TE} {D : Ends} {tz : TS}
theorem q_dnewT {i : Nat} (q : ∀ d, H d = none → tz D (σ.set i (some (.ref d))) (upd H d (DTT []))) : tSeq (tAsg tDNewT (gName i)) tz D σ H := fun d hd => q d hd
theorem s_dputT {d : Addr} {ks : List (List Key)} {k : List Key} {tk : TA} (hd : H d = some (DTT ks)) (nd : ks.Nodup) (hv : Ev tv σ H (.bl true)) (ha : Ev td σ H (.ref d)) (hk : EvA tk σ H (k.map kV)) (hl : k.length ≤ 100000) (hz : ks.length < 100000)
    (q : ∀ ls H1, Ex H H1 → ls.Nodup → (∀ x, x ∈ ls ↔ x ∈ ks ∨ x = k) → ls.length ≤ ks.length + 1 → D.nx σ (upd H1 d (DTT ls))) : sDPut td (tTup tk) tv D σ H :=
  hv H (Ex.refl H) _ fun H1 e1 => ha H1 e1 _ fun H2 e2 => eu_tup hk (by rw [List.length_map]; exact hl) H2 (e1.trans e2) _ fun b H3 hb e3 h3 => by
    obtain ⟨ls, h1, h2, h3', h4⟩ := put_TT nd k
    refine ⟨d, _, rfl, DPut.t (k := k) (((e1.trans e2).trans e3) _ _ hd) h3 (by rw [List.length_map]; exact sz_lt hz), ?_⟩
    rw [h1]
    exact q ls H3 ((e1.trans e2).trans e3) h2 h3' h4
theorem s_retOp {r : R2} (h : ta σ H fun x H1 => tb σ H1 fun y H2 => r x y H2 D.rt) : tRet (tOp r ta tb) D σ H := h
theorem t_callA {sp : Sp} {E : XK} {Q : VK} {tk : TA} {vs : List V} (ha : EvA tk σ H vs) (hs : ∀ H1, Ex H H1 → sp (vs ++ []) H1 Q E) : tCall sp [] E tk σ H Q := ha H (Ex.refl H) _ hs
theorem ev_sumL {te : TE} {ns : List Int} (h : EvL te σ H (ns.map V.int)) : Ev (tCB (rSum K) (tCons te tNil)) σ H (.int ns.sum) := fun H1 e Q q => h H1 e _ fun p H2 hp e2 h2 => ⟨p, ns, rfl, sq_of h2, q H2 e2⟩
end
section
variable {P : Program} {w : World} {K : Fr} {mg : Str → Option Value} {base : Heap}
/-! ### turned_patterns, keeps_kind -/
def sp_turned_patterns : Sp := fun vs H Q _ => ∃ (t : Nat) (l : Addr) (rs : List Addr) (pats : List Lm.Pattern), vs = [.int (t : Nat), .ref l] ∧ t < 8 ∧ H l = some (.lst (rs.map V.ref)) ∧ AllAt (PatAt K H) rs pats ∧ pats.length ≤ 16 ∧ ∀ p H' ks, H p = none → Ex H H' → H' p = some (DTT ks) → ks.Nodup → (∀ k, k ∈ ks ↔ ∃ q ∈ pats, keyL t q = k) → Q (.ref p) H'
abbrev s_turned_patterns : Stmt := top 96
abbrev n_turned_patterns : List Str := ["turn", "patterns", "turned", "pattern", "pair"]
theorem sc_turned_patterns : FnScope n_turned_patterns ["turn", "patterns"] (defScope s_turned_patterns) := ⟨rfl, rfl, rfl, by decide +kernel, rfl, by decide +kernel, by decide +kernel⟩
theorem ok_turned_patterns (T : Env K mg) : Cal P w K mg base CX0 3 "turned_patterns" (sp_turned_patterns (K := K)) := by
  refine T.d_turned_patterns.cal sc_turned_patterns (fun _ _ _ _ _ _ us hl => match us, hl with | [_, _], _ => rfl) (fun vs H Q E h => ?_) (Body0.by fun f cdv A outer s H vs Q E hr h => ⟨_, (pss_cons (ps_set (i := 2) sc_turned_patterns.nd rfl (Or.inl rfl) pe_dnewT) (pss_cons (ps_for PassesOwn.never rfl (pi_list (pv 1)) (pg_name (i := 3) sc_turned_patterns.nd rfl (Or.inl rfl)) (pss_cons (ps_set (i := 4) sc_turned_patterns.nd rfl (Or.inl rfl) (pe_c (ok_turned_pair T) hr (by decide) (by rfl) pass0 (pa_cons (pv 0) (pa_cons (pe_fld (pv 3) rfl) (pa_cons (pe_fld (pv 3) rfl) (pa_cons pe_int pa_nil)))))) (pss_one (ps_dput (hu_of hr) (pv 2) (pe_tup (pa_cons (pe_ix ix_tup (pv 4) pe_int (fun _ _ => rfl)) (pa_cons (pe_ix ix_tup (pv 4) pe_int (fun _ _ => rfl)) (pa_cons (pe_fld (pv 3) rfl) (pa_cons (pe_fld (pv 3) rfl) pa_nil))))) pe_bl rfl)))) (pss_one (ps_ret (pv 2))))), ?_⟩)
  · obtain ⟨t, l, rs, pats, rfl, _⟩ := h
    rfl
  · obtain ⟨t, l, rs, pats, rfl, ht, hl, hA, hz, q⟩ := h
    refine q_dnewT fun d hd => ?_
    have e0 : Ex H (upd H d (DTT [])) := Ex.new hd
    refine q_forLn (K := K) (a := l) (xs := rs.map V.ref) (ev_var rfl) (sq_of (e0 _ _ hl)) (fun i σ H' => (∃ u v ks, σ = [some (.int (t : Nat)), some (.ref l), some (.ref d), u, v] ∧ H' d = some (DTT ks) ∧ ks.Nodup ∧ ks.length ≤ i ∧ ∀ k, k ∈ ks ↔ ∃ q ∈ pats.take i, keyL t q = k) ∧ Ex H H')
      (fun H1 e1 => ⟨⟨none, none, [], rfl, e1 _ _ upd_same, List.nodup_nil, Nat.le_refl _, fun k => ⟨fun z => (by cases z), fun ⟨q, hq, _⟩ => by rw [List.take_zero] at hq; cases hq⟩⟩, e0.trans e1⟩) (fun i σ' H' _ p => sq_of (p.2 _ _ hl)) ?_ ?_
    · rintro i y σ' H' hy ⟨⟨u, v, ks, rfl, hd1, nd, hlen, hmem⟩, e1⟩
      obtain ⟨r, hr', rfl⟩ := refs_get hy
      obtain ⟨pt, hpt, hP⟩ := hA.get' hr'
      obtain ⟨dxp, hP⟩ := hP
      have hi : i < pats.length := (List.getElem?_eq_some_iff.mp hpt).1
      refine q_asgP (v := pairT t pt.df pt.dr 0) (ep_callR (ea_cons (ev_var rfl) (ea_cons (ev_fld (ev_var rfl) (e1 _ _ hP) T.c_Pattern T.n_Pattern_df rfl) (ea_cons (ev_fld (ev_var rfl) (e1 _ _ hP) T.c_Pattern T.n_Pattern_dr rfl) (ea_cons ev_c ea_nil)))) fun H2 e2 Q' q' => ⟨t, _, _, 0, rfl, ht, q'⟩) fun pr H2 e2 h2 => ?_
      have e12 := e1.trans e2
      refine s_dputT (k := keyL t pt) (e2 _ _ hd1) nd ev_c (ev_var rfl) (ea_cons (ev_op (ev_var rfl) ev_c (rv_ixT (K := K) (v := .int (pairT t pt.df pt.dr 0).1) (st_of h2) rfl)) (ea_cons (ev_op (ev_var rfl) ev_c (rv_ixT (K := K) (v := .int (pairT t pt.df pt.dr 0).2) (st_of h2) rfl)) (ea_cons (ev_fld (ev_var rfl) (e12 _ _ hP) T.c_Pattern T.n_Pattern_reach rfl) (ea_cons (ev_fld (ev_var rfl) (e12 _ _ hP) T.c_Pattern T.n_Pattern_how rfl) ea_nil)))) (by show 4 ≤ 100000; decide) (by omega) fun ls H3 e3 nd' hm' hl' => ⟨⟨_, _, ls, rfl, upd_same, nd', by omega, fun k => ?_⟩, Ex.mut (e12.trans e3) hd⟩
      rw [hm', hmem, take_next hpt]
      constructor
      · rintro (⟨q, hq, e⟩ | rfl)
        · exact ⟨q, List.mem_append_left _ hq, e⟩
        · exact ⟨pt, by simp, rfl⟩
      · rintro ⟨q, hq, e⟩
        rcases List.mem_append.mp hq with z | z
        · exact Or.inl ⟨q, z, e⟩
        · rw [List.mem_singleton.mp z] at e
          exact Or.inr e.symm
    · rintro σ' H' ⟨⟨u, v, ks, rfl, hd1, nd, hlen, hmem⟩, e1⟩
      rw [List.length_map, hA.1, List.take_length] at hmem
      exact s_ret (ev_var rfl) fun H2 e2 => q d H2 ks hd (e1.trans e2) (e2 _ _ hd1) nd hmem
def keepsK (t : Nat) (k : Lm.Kind) : Bool := Lm.turnSet k.goals t == k.goals && Lm.samePatterns (k.pats.map (Lm.turnedPattern t)) k.pats
def sp_keeps_kind : Sp := fun vs H Q _ => ∃ (t : Nat) (ka : Addr) (k : Lm.Kind), vs = [.int (t : Nat), .ref ka] ∧ t < 8 ∧ KindAt K H ka k ∧ k.pats.length ≤ 16 ∧ RetV (.bl (keepsK t k)) H Q
abbrev s_keeps_kind : Stmt := top 98
abbrev n_keeps_kind : List Str := ["turn", "kind"]
theorem sc_keeps_kind : FnScope n_keeps_kind ["turn", "kind"] (defScope s_keeps_kind) := ⟨rfl, rfl, rfl, by decide +kernel, rfl, by decide +kernel, by decide +kernel⟩
theorem ok_keeps_kind (T : Env K mg) : Cal P w K mg base CX0 5 "keeps_kind" (sp_keeps_kind (K := K)) := by
  refine T.d_keeps_kind.cal sc_keeps_kind (fun _ _ _ _ _ _ us hl => match us, hl with | [_, _], _ => rfl) (fun vs H Q E h => ?_) (Body0.by fun f cdv A outer s H vs Q E hr h => ⟨_, (pss_cons (ps_if (pt_cmpR op_ne (pe_c (ok_turned_set T) hr (by decide) (by rfl) pass0 (pa_cons (pv 0) (pa_cons (pe_fld (pv 1) rfl) pa_nil))) (pe_fld (pv 1) rfl) (nomark _)) (pss_one (ps_ret pe_bl)) pss_nil) (pss_one (ps_ret (pe_cmpR (op_eqTT (hu_of hr)) (pe_c (ok_turned_patterns T) hr (by decide) (by rfl) pass0 (pa_cons (pv 0) (pa_cons (pe_fld (pv 1) rfl) pa_nil))) (pe_c (ok_turned_patterns T) hr (by decide) (by rfl) pass0 (pa_cons pe_int (pa_cons (pe_fld (pv 1) rfl) pa_nil))) (nomark _))))), ?_⟩)
  · obtain ⟨t, ka, k, rfl, _⟩ := h
    rfl
  · obtain ⟨t, ka, k, rfl, ht, ⟨dxk, lpt, pts, hk1, hk2, hk3⟩, hz, q⟩ := h
    unfold keepsK at q
    refine q_when (b := !decide (Lm.turnSet k.goals t = k.goals)) (et_is (et_test (ev_op (ev_callR (v := .int (Lm.turnSet k.goals t : Nat)) (ea_cons (ev_var rfl) (ea_cons (ev_fld (ev_var rfl) hk1 T.c_Kind T.n_Kind_goals rfl) ea_nil)) fun H1 e1 Q' q' => ⟨t, k.goals, rfl, ht, q'⟩) (ev_fld (ev_var rfl) hk1 T.c_Kind T.n_Kind_goals rfl) (rv_ne rfl))) (by rw [dec_nat])) (fun hb H1 e1 => ?_) (fun hb H1 e1 => ?_)
    · rw [Bool.not_eq_true', decide_eq_false_iff_not] at hb
      rw [show (Lm.turnSet k.goals t == k.goals) = false from beq_eq_false_iff_ne.mpr hb, Bool.false_and] at q
      exact s_ret ev_c fun H2 e2 => q H2 (e1.trans e2)
    · rw [Bool.not_eq_false', decide_eq_true_eq] at hb
      rw [show (Lm.turnSet k.goals t == k.goals) = true from beq_iff_eq.mpr hb, Bool.true_and] at q
      have ag1 : ∀ H2, Ex H H2 → EvA (tCons (tVar 0) (tCons (tFld K (tVar 1) "patterns") tNil)) (start n_keeps_kind [.int (t : Nat), .ref ka]) H2 [.int (t : Nat), .ref lpt] := fun H2 e2 => ea_cons (ev_var rfl) (ea_cons (ev_fld (ev_var rfl) (e2 _ _ hk1) T.c_Kind T.n_Kind_patterns rfl) ea_nil)
      have ag0 : ∀ H2, Ex H H2 → EvA (tCons (tC (.int 0)) (tCons (tFld K (tVar 1) "patterns") tNil)) (start n_keeps_kind [.int (t : Nat), .ref ka]) H2 [.int ((0 : Nat) : Int), .ref lpt] := fun H2 e2 => ea_cons ev_c (ea_cons (ev_fld (ev_var rfl) (e2 _ _ hk1) T.c_Kind T.n_Kind_patterns rfl) ea_nil)
      refine s_retOp (t_callA (ag1 H1 e1) fun H2 e2 => ⟨t, lpt, pts, k.pats, rfl, ht, (e1.trans e2) _ _ hk2, hk3.imp fun r x => PatAt.mono _ _ (e1.trans e2), hz, fun p H3 ks hp e3 h3 nd hm => ?_⟩)
      have e13 := (e1.trans e2).trans e3
      refine t_callA (ag0 H3 e13) fun H4 e4 => ⟨0, lpt, pts, k.pats, rfl, by omega, (e13.trans e4) _ _ hk2, hk3.imp fun r x => PatAt.mono _ _ (e13.trans e4), hz, fun p' H5 ls hp' e5 h5 nd' hm' => ?_⟩
      refine ⟨p, p', ks, ls, rfl, rfl, (e4.trans e5) _ _ h3, h5, _, ?_, q H5 (e13.trans (e4.trans e5))⟩
      classical
      rw [same_mem nd nd', ← keyL_same]
      simp only [hm, hm']
/-! ### keeps_game, keeping_turns, turns_sum -/
def sp_keeps_game : Sp := fun vs H Q _ => ∃ (t : Nat) (ga : Addr) (g : Lm.Game), vs = [.int (t : Nat), .ref ga] ∧ t < 8 ∧ GAt K H ga g ∧ Fit g ∧ RetV (.bl (Lm.keeps g t)) H Q
abbrev s_keeps_game : Stmt := top 99
abbrev n_keeps_game : List Str := ["turn", "game", "kind"]
theorem sc_keeps_game : FnScope n_keeps_game ["turn", "game"] (defScope s_keeps_game) := ⟨rfl, rfl, rfl, by decide +kernel, rfl, by decide +kernel, by decide +kernel⟩
theorem ok_keeps_game (T : Env K mg) : Cal P w K mg base CX0 6 "keeps_game" (sp_keeps_game (K := K)) := by
  refine T.d_keeps_game.cal sc_keeps_game (fun _ _ _ _ _ _ us hl => match us, hl with | [_, _], _ => rfl) (fun vs H Q E h => ?_) (Body0.by fun f cdv A outer s H vs Q E hr h => ⟨_, (pss_cons (ps_if (pt_cmpR op_ne (pe_c (ok_turned_set T) hr (by decide) (by rfl) pass0 (pa_cons (pv 0) (pa_cons (pe_fld (pv 1) rfl) pa_nil))) (pe_fld (pv 1) rfl) (nomark _)) (pss_one (ps_ret pe_bl)) pss_nil) (pss_cons (ps_for PassesOwn.never rfl (pi_list (pe_fld (pv 1) rfl)) (pg_name (i := 2) sc_keeps_game.nd rfl (Or.inl rfl)) (pss_one (ps_if (pt_not (pt_val (pe_c (ok_keeps_kind T) hr (by decide) (by rfl) pass0 (pa_cons (pv 0) (pa_cons (pv 2) pa_nil))))) (pss_one (ps_ret pe_bl)) pss_nil))) (pss_one (ps_ret pe_bl)))), ?_⟩)
  · obtain ⟨t, ga, g, rfl, _⟩ := h
    rfl
  · obtain ⟨t, ga, g, rfl, ht, ⟨dx, lk, lp, ls, dp, lw, ks, ps, ws, G⟩, F, q⟩ := h
    have hkeep : Lm.keeps g t = (Lm.turnSet g.board t == g.board && g.kinds.all (keepsK t)) := rfl
    rw [hkeep] at q
    refine q_when (b := !decide (Lm.turnSet g.board t = g.board)) (et_is (et_test (ev_op (ev_callR (v := .int (Lm.turnSet g.board t : Nat)) (ea_cons (ev_var rfl) (ea_cons (ev_fld (ev_var rfl) G.obj T.c_Game T.n_Game_board rfl) ea_nil)) fun H1 e1 Q' q' => ⟨t, g.board, rfl, ht, q'⟩) (ev_fld (ev_var rfl) G.obj T.c_Game T.n_Game_board rfl) (rv_ne rfl))) (by rw [dec_nat])) (fun hb H1 e1 => ?_) (fun hb H1 e1 => ?_)
    · rw [Bool.not_eq_true', decide_eq_false_iff_not] at hb
      rw [show (Lm.turnSet g.board t == g.board) = false from beq_eq_false_iff_ne.mpr hb, Bool.false_and] at q
      exact s_ret ev_c fun H2 e2 => q H2 (e1.trans e2)
    · rw [Bool.not_eq_false', decide_eq_true_eq] at hb
      rw [show (Lm.turnSet g.board t == g.board) = true from beq_iff_eq.mpr hb, Bool.true_and] at q
      refine q_forLn (K := K) (a := lk) (xs := ks.map V.ref) (ev_fld (ev_var rfl) (e1 _ _ G.obj) T.c_Game T.n_Game_kinds rfl) (sq_of (e1 _ _ G.kinds)) (fun i σ H' => (∃ u, σ = [some (.int (t : Nat)), some (.ref ga), u]) ∧ Ex H H' ∧ ∀ k ∈ g.kinds.take i, keepsK t k = true)
        (fun H2 e2 => ⟨⟨none, rfl⟩, e1.trans e2, fun k hk => by rw [List.take_zero] at hk; cases hk⟩) (fun i σ' H' _ p => sq_of (p.2.1 _ _ G.kinds)) ?_ ?_
      · rintro i y σ' H' hy ⟨⟨u, rfl⟩, e2, hall⟩
        obtain ⟨ka, hka, rfl⟩ := refs_get hy
        obtain ⟨k, hk, hK⟩ := G.kindsA.get' hka
        have hkm := List.mem_of_getElem? hk
        refine s_when (b := !keepsK t k) (et_not (et_B (ev_callR (v := .bl (keepsK t k)) (ea_cons (ev_var rfl) (ea_cons (ev_var rfl) ea_nil)) fun H3 e3 Q' q' => ⟨t, ka, k, rfl, ht, KindAt.mono _ _ (e2.trans e3) hK, (F.kd k hkm).1, q'⟩))) (fun hc H3 e3 => ?_) (fun hc H3 e3 => ?_)
        · rw [Bool.not_eq_true'] at hc
          have hf : g.kinds.all (keepsK t) = false := List.all_eq_false.mpr ⟨k, hkm, by rw [hc]; exact Bool.false_ne_true⟩
          rw [hf] at q
          exact s_ret ev_c fun H4 e4 => q H4 ((e2.trans e3).trans e4)
        · rw [Bool.not_eq_false'] at hc
          refine ⟨⟨_, rfl⟩, e2.trans e3, fun k' hk' => ?_⟩
          rw [take_next hk] at hk'
          rcases List.mem_append.mp hk' with z | z
          · exact hall k' z
          · rw [List.mem_singleton.mp z]; exact hc
      · rintro σ' H' ⟨⟨u, rfl⟩, e2, hall⟩
        rw [List.length_map, G.kindsA.1, List.take_length] at hall
        rw [List.all_eq_true.mpr hall] at q
        exact s_ret ev_c fun H3 e3 => q H3 (e2.trans e3)
def sp_keeping_turns : Sp := fun vs H Q _ => ∃ (ga : Addr) (g : Lm.Game), vs = [.ref ga] ∧ GAt K H ga g ∧ Fit g ∧ RetL (IL (Lm.turnsOf g)) H Q
abbrev s_keeping_turns : Stmt := top 100
abbrev n_keeping_turns : List Str := ["game", "turn"]
theorem sc_keeping_turns : FnScope n_keeping_turns ["game"] (defScope s_keeping_turns) := ⟨rfl, rfl, rfl, by decide +kernel, rfl, by decide +kernel, by decide +kernel⟩
theorem ok_keeping_turns (T : Env K mg) : Cal P w K mg base CX0 7 "keeping_turns" (sp_keeping_turns (K := K)) := by
  refine T.d_keeping_turns.cal sc_keeping_turns (fun _ _ _ _ _ _ us hl => match us, hl with | [_], _ => rfl) (fun vs H Q E h => ?_) (Body0.by fun f cdv A outer s H vs Q E hr h => ⟨_, (pss_one (ps_ret (pe_lc (own := [("turn", 1)]) rfl sc_keeping_turns.nd (pi_range1 (by rfl) T.f_range (pa_cons (pe_gv (by rfl) T.v_TURN_COUNT) pa_nil)) (blkOk_by (own := [("turn", 1)]) (N := n_keeping_turns) (sc := defScope s_keeping_turns) (by decide +kernel)) (fun _ _ _ _ _ => pg_name (i := 1) sc_keeping_turns.nd rfl (Or.inl rfl)) (fun _ _ _ _ _ => by exact (pts_one (pt_val (pe_c (ok_keeps_game T) hr (by decide) (by rfl) pass0 (by exact (pa_cons (pv 1) (pa_cons (pv 0) pa_nil))))))) (fun _ _ _ _ _ => by exact (pv 1))))), ?_⟩)
  · obtain ⟨ga, g, rfl, _⟩ := h
    rfl
  · obtain ⟨ga, g, rfl, hG, F, q⟩ := h
    refine s_retL (el_lcR1 (n := 8) (fun i => Lm.keeps g i) (fun i => .int (i : Int)) (ea_cons ev_c ea_nil) ⟨by decide, by decide⟩ (fun x => rfl)
      (fun i H1 e hi => et_B (ev_callR (v := .bl (Lm.keeps g i)) (ea_cons (ev_var rfl) (ea_cons (ev_var rfl) ea_nil)) fun H2 e2 Q' q' => ⟨i, ga, g, rfl, by omega, GAt.mono _ _ (e.trans e2) hG, F, q'⟩)) (fun i H1 e hi _ => ev_var rfl)) fun p H1 hp e h1 => q p H1 hp e h1
theorem turns_len (g : Lm.Game) : (Lm.turnsOf g).length ≤ 8 := by
  have := List.length_filter_le (Lm.keeps g) (List.range 8)
  rw [List.length_range] at this
  exact this
theorem sum_cast (l : List Nat) : (l.map fun (n : Nat) => (n : Int)).sum = ((l.sum : Nat) : Int) := by
  induction l with
  | nil => rfl
  | cons n l ih =>
    rw [List.map_cons, List.sum_cons, List.sum_cons, ih]
    push_cast
    rfl
def turnSum (g : Lm.Game) : Nat := (Lm.turnsOf g).foldr (fun (t x : Nat) => x + 2 ^ t) 0
def sp_turns_sum : Sp := fun vs H Q _ => ∃ (ga : Addr) (g : Lm.Game), vs = [.ref ga] ∧ GAt K H ga g ∧ Fit g ∧ RetV (.int (turnSum g : Nat)) H Q
abbrev s_turns_sum : Stmt := top 101
abbrev n_turns_sum : List Str := ["game", "turn"]
theorem sc_turns_sum : FnScope n_turns_sum ["game"] (defScope s_turns_sum) := ⟨rfl, rfl, rfl, by decide +kernel, rfl, by decide +kernel, by decide +kernel⟩
theorem ok_turns_sum (T : Env K mg) : Cal P w K mg base CX0 8 "turns_sum" (sp_turns_sum (K := K)) := by
  refine T.d_turns_sum.cal sc_turns_sum (fun _ _ _ _ _ _ us hl => match us, hl with | [_], _ => rfl) (fun vs H Q E h => ?_) (Body0.by fun f cdv A outer s H vs Q E hr h => ⟨_, (pss_one (ps_ret (pe_callB (cr_sum rfl) (by rfl) T.f_sum (by decide +kernel) (pa_cons (pe_lc (own := [("turn", 1)]) rfl sc_turns_sum.nd (pi_list (pe_c (ok_keeping_turns T) hr (by decide) (by rfl) pass0 (pa_cons (pv 0) pa_nil))) (blkOk_by (own := [("turn", 1)]) (N := n_turns_sum) (sc := defScope s_turns_sum) (by decide +kernel)) (fun _ _ _ _ _ => pg_name (i := 1) sc_turns_sum.nd rfl (Or.inl rfl)) (fun _ _ _ _ _ => by exact pts_nil) (fun _ _ _ _ _ => by exact (pe_op op_shl pe_int (pv 1)))) pa_nil)))), ?_⟩)
  · obtain ⟨ga, g, rfl, _⟩ := h
    rfl
  · obtain ⟨ga, g, rfl, hG, F, q⟩ := h
    have hE := el_lcNL (K := K) (σ := [some (.ref ga), none]) (H := H) (xs := IL (Lm.turnsOf g)) (j := 1) (vs := [1]) (t := tYes) (tl := tCall (sp_keeping_turns (K := K)) [] E0 (tCons (tVar 0) tNil)) (te := tOp (rI (fun i j => 0 ≤ j ∧ j ≤ 1000000 ∧ i.natAbs < 2 ^ 64) fun i j => .int (i * 2 ^ j.toNat)) (tC (.int 1)) (tVar 1)) (fun _ => true) (fun i => V.int (((2 ^ (Lm.turnsOf g).getD i 0 : Nat) : Nat) : Int))
      (el_callR (ea_cons (ev_var rfl) ea_nil) fun H1 e1 Q' q' => ⟨ga, g, rfl, GAt.mono _ _ e1 hG, F, q'⟩) (by rw [IL_len]; have := turns_len g; omega) (fun x => rfl) (fun i y H1 e1 hy => et_yes) (fun i y H1 e1 hy _ => by
        obtain ⟨n, hn, rfl⟩ := IL_get hy
        have hn8 := (mem_turns (List.mem_of_getElem? hn)).1
        refine ev_is (ev_op ev_c (ev_var rfl) (rv_I ⟨by omega, by omega, by decide⟩)) ?_
        rw [getD_of hn, Int.one_mul, Int.toNat_natCast]
        push_cast
        rfl)
    have hl : given (IL (Lm.turnsOf g)).length (fun _ => true) (fun i => V.int (((2 ^ (Lm.turnsOf g).getD i 0 : Nat) : Nat) : Int)) = (((Lm.turnsOf g).map fun t => 2 ^ t).map fun (n : Nat) => (n : Int)).map V.int := by
      rw [given_all, IL_len, List.map_map, List.map_map]
      conv => rhs; rw [← range_getD (Lm.turnsOf g) 0]
      rw [List.map_map]
      rfl
    rw [hl] at hE
    refine s_ret (ev_is (ev_sumL (K := K) hE) ?_) fun H1 e1 => q H1 e1
    rw [sum_cast]
    unfold turnSum
    rw [turns_sum]
/-! ### turned_row, least_turn -/
def sp_turned_row : Sp := fun vs H Q _ => ∃ (t : Nat) (ra : Addr) (l : List Nat) (x : Nat), vs = [.int (t : Nat), .ref ra] ∧ t < 8 ∧ H ra = some (.lst (IL (l ++ [x]))) ∧ (∀ s ∈ l, s ≤ 64) ∧ l.length ≤ 1000 ∧ RetL (IL (l.map (tSq t) ++ [x])) H Q
abbrev s_turned_row : Stmt := top 97
abbrev n_turned_row : List Str := ["turn", "row", "square"]
theorem sc_turned_row : FnScope n_turned_row ["turn", "row"] (defScope s_turned_row) := ⟨rfl, rfl, rfl, by decide +kernel, rfl, by decide +kernel, by decide +kernel⟩
theorem ok_turned_row (T : Env K mg) : Cal P w K mg base CX0 4 "turned_row" sp_turned_row := by
  refine T.d_turned_row.cal sc_turned_row (fun _ _ _ _ _ _ us hl => match us, hl with | [_, _], _ => rfl) (fun vs H Q E h => ?_) (Body0.by fun f cdv A outer s H vs Q E hr h => ⟨_, (pss_one (ps_ret (pe_op op_cat (pe_lc (own := [("square", 2)]) rfl sc_turned_row.nd (pi_list (pe_slice sl_list (pv 1) po_none (po_some (pe_un un_neg pe_int)))) (blkOk_by (own := [("square", 2)]) (N := n_turned_row) (sc := defScope s_turned_row) (by decide +kernel)) (fun _ _ _ _ _ => pg_name (i := 2) sc_turned_row.nd rfl (Or.inl rfl)) (fun _ _ _ _ _ => by exact pts_nil) (fun _ _ _ _ _ => by exact (pe_c (ok_turned_square T) hr (by decide) (by rfl) pass0 (by exact (pa_cons (pv 0) (pa_cons (pv 2) pa_nil)))))) (pe_lst (pa_cons (pe_ix ix_list (pv 1) (pe_un un_neg pe_int) (fun _ _ => rfl)) pa_nil))))), ?_⟩)
  · obtain ⟨t, ra, l, x, rfl, _⟩ := h
    rfl
  · obtain ⟨t, ra, l, x, rfl, ht, hra, hs, hz, q⟩ := h
    have hsl : EvL (tSl (rSlL K) (tVar 1) tNoPart (tPart (tUn (rU fun i => .int (-i)) (tC (.int 1))))) [some (.int (t : Nat)), some (.ref ra), none] H (IL l) := by
      have := el_sl (K := K) (σ := [some (.int (t : Nat)), some (.ref ra), none]) (H := H) (te := tVar 1) (lo := none) (hi := some (-1)) (ev_var rfl) eo_none (eo_some (ev_un ev_c ru_neg)) (sq_of hra)
      rw [cutV_init] at this
      exact this
    have hE := el_lcNL (K := K) (σ := [some (.int (t : Nat)), some (.ref ra), none]) (H := H) (xs := IL l) (j := 2) (vs := [2]) (t := tYes) (te := tCall sp_turned_square [] E0 (tCons (tVar 0) (tCons (tVar 2) tNil))) (fun _ => true) (fun i => V.int ((tSq t (l.getD i 0) : Nat) : Int)) hsl (by rw [IL_len]; omega) (fun x => rfl) (fun i y H1 e1 hy => et_yes) (fun i y H1 e1 hy _ => by
        obtain ⟨n, hn, rfl⟩ := IL_get hy
        rw [getD_of hn]
        exact ev_callR (ea_cons (ev_var rfl) (ea_cons (ev_var rfl) ea_nil)) fun H2 e2 Q' q' => ⟨t, n, rfl, ht, hs n (List.mem_of_getElem? hn), q'⟩)
    have hl : given (IL l).length (fun _ => true) (fun i => V.int ((tSq t (l.getD i 0) : Nat) : Int)) = IL (l.map (tSq t)) := by
      rw [given_all, IL_len]
      unfold IL
      conv => rhs; rw [← range_getD l 0]
      rw [List.map_map, List.map_map]
      rfl
    rw [hl] at hE
    refine s_retL (el_catLL hE (el_lst (ea_cons (ev_op (ev_var rfl) (ev_un ev_c ru_neg) (rv_ixL (K := K) (sq_of hra) (atI_end l x))) ea_nil) (by show 1 ≤ 100000; decide)) (sz_of (by rw [IL_len, List.length_map]; show l.length + 1 ≤ 100000; omega))) fun p H1 hp e h1 => q p H1 hp e ?_
    rw [h1, IL_snoc]
def sp_least_turn : Sp := fun vs H Q _ => ∃ (ga ra : Addr) (g : Lm.Game) (p : Lm.Pos), vs = [.ref ga, .ref ra] ∧ GAt K H ga g ∧ Fit g ∧ H ra = some (.lst (IL (LmCalls.posNums p))) ∧ Lm.rightPos g p = true ∧ RetV (.int (Lm.leastTurn g p : Nat)) H Q
theorem on_le {g : Lm.Game} {s : Nat} (h : On g s) : s ≤ 64 := by
  rcases h with z | ⟨z, _⟩
  · rw [z]; exact Nat.le_refl _
  · omega
abbrev s_least_turn : Stmt := top 102
abbrev n_least_turn : List Str := ["game", "row", "least", "least_number", "turn", "number"]
theorem sc_least_turn : FnScope n_least_turn ["game", "row"] (defScope s_least_turn) := ⟨rfl, rfl, rfl, by decide +kernel, rfl, by decide +kernel, by decide +kernel⟩
theorem ok_least_turn (T : Env K mg) : Cal P w K mg base CX0 8 "least_turn" (sp_least_turn (K := K)) := by
  refine T.d_least_turn.cal sc_least_turn (fun _ _ _ _ _ _ us hl => match us, hl with | [_, _], _ => rfl) (fun vs H Q E h => ?_) (Body0.by fun f cdv A outer s H vs Q E hr h => ⟨_, (pss_cons (ps_set (i := 2) sc_least_turn.nd rfl (Or.inl rfl) pe_int) (pss_cons (ps_set (i := 3) sc_least_turn.nd rfl (Or.inl rfl) (pe_c (ok_number_of T) hr (by decide) (by rfl) pass0 (pa_cons (pv 0) (pa_cons (pv 1) pa_nil)))) (pss_cons (ps_for PassesOwn.never rfl (pi_list (pe_c (ok_keeping_turns T) hr (by decide) (by rfl) pass0 (pa_cons (pv 0) pa_nil))) (pg_name (i := 4) sc_least_turn.nd rfl (Or.inl rfl)) (pss_cons (ps_set (i := 5) sc_least_turn.nd rfl (Or.inl rfl) (pe_c (ok_number_of T) hr (by decide) (by rfl) pass0 (pa_cons (pv 0) (pa_cons (pe_c (ok_turned_row T) hr (by decide) (by rfl) pass0 (pa_cons (pv 4) (pa_cons (pv 1) pa_nil))) pa_nil)))) (pss_one (ps_if (pt_cmpR op_lt (pv 5) (pv 3) (nomark _)) (pss_cons (ps_set (i := 2) sc_least_turn.nd rfl (Or.inl rfl) (pv 4)) (pss_one (ps_set (i := 3) sc_least_turn.nd rfl (Or.inl rfl) (pv 5)))) pss_nil)))) (pss_one (ps_ret (pv 2)))))), ?_⟩)
  · obtain ⟨ga, ra, g, p, rfl, _⟩ := h
    rfl
  · obtain ⟨ga, ra, g, p, rfl, hG, F, hra, hR, q⟩ := h
    obtain ⟨hl, hx, hon, hnd⟩ := right_iff.mp hR
    have h0 := keeps_zero F.bd (fun k hk => (F.kd k hk).2.1)
    have hp6 : p.at_.length ≤ 6 := by have := F.np.2; omega
    refine q_asg ev_c fun H1 e1 => ?_
    refine q_asg (ev_callR (v := .int (Lm.index g p : Nat)) (ea_cons (ev_var rfl) (ea_cons (ev_var rfl) ea_nil)) fun H2 e2 Q' q' => ⟨ga, ra, g, p.at_, p.side, rfl, GAt.mono _ _ (e1.trans e2) hG, F, (e1.trans e2) _ _ hra, hl, hon, q'⟩) fun H2 e2 => ?_
    have e12 := e1.trans e2
    have lt := leastTurn_is (p := p) h0
    refine q_forNLn (K := K) (xs := IL (Lm.turnsOf g)) (el_callR (ea_cons (ev_var rfl) ea_nil) fun H3 e3 Q' q' => ⟨ga, g, rfl, GAt.mono _ _ (e12.trans e3) hG, F, q'⟩) (fun pp i σ H' => (∃ u v, σ = [some (.ref ga), some (.ref ra), some (.int ((((Lm.turnsOf g).take i).foldl (lstep fun t => Lm.index g (Lm.turned t p)) (0, Lm.index g (Lm.turned 0 p))).1 : Nat)), some (.int ((((Lm.turnsOf g).take i).foldl (lstep fun t => Lm.index g (Lm.turned t p)) (0, Lm.index g (Lm.turned 0 p))).2 : Nat)), u, v]) ∧ Ex H H' ∧ H' pp = some (.lst (IL (Lm.turnsOf g))))
      (fun pp H3 hp e3 h3 => ⟨⟨none, none, by rw [turned_zero hon]; rfl⟩, e12.trans e3, h3⟩) (fun pp i σ' H' _ z => sq_of z.2.2) ?_ ?_
    · rintro pp i y σ' H' hy ⟨⟨u, v, rfl⟩, e3, hp3⟩
      obtain ⟨t, ht, rfl⟩ := IL_get hy
      obtain ⟨ht8, htk⟩ := mem_turns (List.mem_of_getElem? ht)
      rw [take_next ht, List.foldl_append]
      generalize ((Lm.turnsOf g).take i).foldl (lstep fun t => Lm.index g (Lm.turned t p)) (0, Lm.index g (Lm.turned 0 p)) = b
      have hat : (Lm.turned t p).at_ = p.at_.map (tSq t) := rfl
      refine q_asg (v := .int (Lm.index g (Lm.turned t p) : Nat)) (ev_callAL2 (xs := IL (p.at_.map (tSq t) ++ [p.side])) (ev_var rfl) (el_callR (ea_cons (ev_var rfl) (ea_cons (ev_var rfl) ea_nil)) fun H4 e4 Q' q' => ⟨t, ra, p.at_, p.side, rfl, ht8, (e3.trans e4) _ _ hra, fun s hs => on_le (hon s hs), by omega, q'⟩) fun H4 pr e4 hpr Q' q' => ⟨ga, pr, g, p.at_.map (tSq t), p.side, rfl, GAt.mono _ _ (e3.trans e4) hG, F, hpr, by rw [List.length_map]; exact hl, turned_on htk hon, q'⟩) fun H4 e4 => ?_
      refine s_when (b := decide (Lm.index g (Lm.turned t p) < b.2)) (et_is (et_test (ev_op (ev_var rfl) (ev_var rfl) rv_I0)) (by rw [decide_eq_decide]; omega)) (fun hb H5 e5 => ?_) (fun hb H5 e5 => ?_)
      · rw [decide_eq_true_eq] at hb
        refine q_asg (ev_var rfl) fun H6 e6 => s_asg (ev_var rfl) fun H7 e7 => ⟨⟨some (.int (t : Nat)), some (.int (Lm.index g (Lm.turned t p) : Nat)), ?_⟩, (e3.trans e4).trans (e5.trans (e6.trans e7)), (e4.trans (e5.trans (e6.trans e7))) _ _ hp3⟩
        rw [List.foldl_cons, List.foldl_nil]
        unfold lstep
        rw [if_pos hb]
        rfl
      · rw [decide_eq_false_iff_not] at hb
        refine ⟨⟨some (.int (t : Nat)), some (.int (Lm.index g (Lm.turned t p) : Nat)), ?_⟩, (e3.trans e4).trans e5, (e4.trans e5) _ _ hp3⟩
        rw [List.foldl_cons, List.foldl_nil]
        unfold lstep
        rw [if_neg hb]
        rfl
    · rintro pp σ' H' ⟨⟨u, v, rfl⟩, e3, hp3⟩
      refine s_ret (ev_var rfl) fun H4 e4 => ?_
      rw [IL_len, List.take_length, lt.1]
      exact q H4 (e3.trans e4)
end
end Es
end

section
set_option Elab.async false
set_option linter.all false
set_option maxRecDepth 100000
set_option maxHeartbeats 4000000
namespace Es
open PySem PySem.Spec PyProof.Rows L2 Evl
theorem given_gen {α : Type} (l : List α) (d : α) (f : α → Bool) (v : α → V) : given l.length (fun i => f (l.getD i d)) (fun i => v (l.getD i d)) = (l.filter f).map v := by
  unfold given
  have key : ∀ m, ((List.range m).filter fun i => f (l.getD i d)).map (fun i => l.getD i d) = ((List.range m).map fun i => l.getD i d).filter f := fun m => by
    rw [List.filter_map]
    rfl
  have := key l.length
  rw [range_getD] at this
  rw [← this, List.map_map]
  rfl
theorem ix_tupK {X : Cx} (K : Fr) (hK : X.K = K) : IxR X (rIxT K) := by
  subst hK
  exact ix_tup
theorem rep_flat (n : Nat) (x : V) : (List.replicate n [x]).flatten = List.replicate n x := by
  induction n with
  | zero => rfl
  | succ n ih => rw [List.replicate_succ, List.replicate_succ, List.flatten_cons, ih]; rfl
section
variable {K : Fr} {σ : L2.St} {H : Hp} {ta tb td te : TE} {t : TT} {D : Ends} {tz : TS}
theorem ev_ixR {sp : Sp} {E : XK} {tk : TA} {vs : List V} {v : Nat × Nat} (h : EvA tk σ H vs) (hs : ∀ H1, Ex H H1 → ∀ Q : VK, RetU v H1 Q → sp (vs ++ []) H1 Q E) : Ev (tOp (rIxT K) (tCall sp [] E tk) (tC (.int 0))) σ H (.int (v.1 : Nat)) := fun H1 e Q q =>
  h H1 e _ fun H2 e2 => hs H2 (e.trans e2) _ fun t H3 e3 h3 => ⟨t, _, 0, .int (v.1 : Nat), rfl, rfl, st_of h3, rfl, q H3 (e2.trans e3)⟩
theorem el_rep {x : V} {tk : TA} {n : Nat} (ha : EvA tk σ H [x]) (hb : Ev tb σ H (.int (n : Nat))) (hz : n ≤ 100000) : EvL (tOp rRep (tLst tk) tb) σ H (List.replicate n x) := fun H1 e Q q =>
  el_lst ha (by show 1 ≤ 100000; decide) H1 e _ fun l H2 hl e2 h2 => hb H2 (e.trans e2) _ fun H3 e3 => ⟨l, _, _, rfl, rfl, e3 _ _ h2, by omega, by omega, sz_of (by rw [Int.toNat_natCast]; show 1 * n ≤ 100000; omega), fun p hp => q p _ (fresh_back (e2.trans e3) hp) ((e2.trans e3).trans (Ex.new hp)) (by
    rw [upd_same, Int.toNat_natCast, rep_flat])⟩
theorem ev_maxL {p : Addr} {ns : List Int} {m : Int} (ha : Ev ta σ H (.ref p)) (hp : H p = some (.lst (ns.map V.int))) (h0 : 0 < ns.length) (hm : ∀ x, x ∈ ns → (∀ y, y ∈ ns → y ≤ x) → x = m) : Ev (tCB (rMax K) (tCons ta tNil)) σ H (.int m) := fun H1 e Q q =>
  ha H1 e _ fun H2 e2 => ⟨p, ns, rfl, sq_of ((e.trans e2) _ _ hp), h0, fun x hx hle => by
    rw [hm x hx hle]
    exact q H2 e2⟩
/-- y = [e for x in d.values() if t] -/
theorem q_lcVals {d : Addr} {kvs : List (Key × V)} {i j : Nat} {vs : List Nat} (f : Nat → Bool) (v : Nat → V) (hd : H d = some (.dK kvs)) (h : ∀ od, Ev td σ (upd H d (.frz od (.dK kvs))) (.ref d)) (hz : kvs.length ≤ 40000) (hw : ∀ x, wipe ((wipe σ vs).set j (some x)) vs = wipe σ vs)
    (ht : ∀ (n : Nat) (k : Key) (x : V) od H1, Ex (upd H d (.frz od (.dK kvs))) H1 → kvs[n]? = some (k, x) → EvT t ((wipe σ vs).set j (some x)) H1 (f n)) (he : ∀ (n : Nat) (k : Key) (x : V) od H1, Ex (upd H d (.frz od (.dK kvs))) H1 → kvs[n]? = some (k, x) → f n = true → Ev te ((wipe σ vs).set j (some x)) H1 (v n))
    (k : ∀ p H1, H p = none → Ex H H1 → H1 p = some (.lst (given kvs.length f v)) → tz D (σ.set i (some (.ref p))) H1) : tSeq (tLock (tAsg (tLc (iVals td) (gName j) t te vs) (gName i))) tz D σ H := by
  refine ⟨d, .dK kvs, hd, trivial, fun od => ?_⟩
  refine h od _ (Ex.refl _) _ fun H1 e1 => ⟨d, od, kvs, rfl, e1 _ _ upd_same, fun Dl hD => ?_⟩
  have nd : Dl ≠ d := (ne_of_none (e1 _ _ upd_same) hD).symm
  refine lc_it walk_values (Cw H1 f v Dl) ⟨hD, Ex.new hD, upd_same⟩ (fun n H2 _ p => p.2.1 _ _ (e1 _ _ upd_same)) (fun n x H2 H3 hn p y => ?_) (fun H2 p => ?_)
  · obtain ⟨rfl, kk, hk⟩ := y
    exact ⟨hw x, cw_turn p (by omega) (ht n kk x od H1 e1 hk) (fun hf => he n kk x od H1 e1 hk hf)⟩
  · refine ⟨p.2.1 _ _ (e1 _ _ upd_same), k Dl (upd H2 d (.dK kvs)) ?_ (fun a o ha => ?_) ((upd_ne nd).trans p.2.2)⟩
    · have := fresh_back e1 hD
      rw [upd_ne nd] at this
      exact this
    · by_cases c : a = d
      · rw [c] at ha ⊢
        rw [upd_same, ← hd, ha]
      · rw [upd_ne c]
        exact p.2.1 _ _ (e1 _ _ ((upd_ne c).trans ha))
end
section
variable {P : Program} {w : World} {K : Fr} {mg : Str → Option Value} {base : Heap}
/-! ### numbers_with, first_with -/
def Svd (K : Fr) (H : Hp) (s ga : Addr) (wk : Lm.Work) : Prop := SolAt K H s ga wk ∧ GAt K H ga wk.game ∧ Fit wk.game ∧ wk.game.count ≤ 2048 ∧ wk.solved = true
theorem Svd.mono {s ga : Addr} {wk : Lm.Work} : Mono fun H => Svd K H s ga wk := fun H H' e ⟨a, b, c, d, f⟩ => ⟨SolAt.mono _ _ e a, GAt.mono _ _ e b, c, d, f⟩
theorem with_len (wk : Lm.Work) (what count : Nat) : (LmCalls.Work.withValue wk what count).length ≤ wk.game.count := Nat.le_trans (List.length_filter_le ..) (numbers_len _)
def sp_numbers_with : Sp := fun vs H Q _ => ∃ (s ga : Addr) (wk : Lm.Work) (what count : Nat), vs = [.ref s, .int (what : Nat), .int (count : Nat)] ∧ Svd K H s ga wk ∧ RetL (IL (LmCalls.Work.withValue wk what count)) H Q
abbrev s_numbers_with : Stmt := top 59
abbrev n_numbers_with : List Str := ["solving", "outcome", "count", "wanted", "number"]
theorem sc_numbers_with : FnScope n_numbers_with ["solving", "outcome", "count"] (defScope s_numbers_with) := ⟨rfl, rfl, rfl, by decide +kernel, rfl, by decide +kernel, by decide +kernel⟩
theorem ok_numbers_with (T : Env K mg) : Cal P w K mg base CX0 3 "numbers_with" (sp_numbers_with (K := K)) := by
  refine T.d_numbers_with.cal sc_numbers_with (fun _ _ _ _ _ _ us hl => match us, hl with | [_, _, _], _ => rfl) (fun vs H Q E h => ?_) (Body0.by fun f cdv A outer s H vs Q E hr h => ⟨_, (pss_cons (ps_set (i := 3) sc_numbers_with.nd rfl (Or.inr rfl) (pe_tup (pa_cons (pv 1) (pa_cons (pe_ifExp (pt_cmpR op_eq (pv 1) (pe_gv (by rfl) T.v_DRAW) (nomark _)) pe_int (pv 2)) pa_nil)))) (pss_one (ps_ret (pe_lc (own := [("number", 4)]) rfl sc_numbers_with.nd (pi_list (pe_c (ok_right_numbers T) hr (by decide) (by rfl) pass0 (pa_cons (pe_fld (pv 0) rfl) pa_nil))) (blkOk_by (own := [("number", 4)]) (N := n_numbers_with) (sc := defScope s_numbers_with) (by decide +kernel)) (fun _ _ _ _ _ => pg_name (i := 4) sc_numbers_with.nd rfl (Or.inl rfl)) (fun _ _ _ _ _ => by exact (pts_one (pt_cmpR (op_eqDK K rfl hr.units) (pe_c (ok_at_solved T) hr (by decide) (by rfl) pass0 (by exact (pa_cons (pv 0) (pa_cons (pv 4) pa_nil)))) (pv 3) (nomark _)))) (fun _ _ _ _ _ => by exact (pv 4)))))), ?_⟩)
  · obtain ⟨s, ga, wk, what, count, rfl, _⟩ := h
    rfl
  · obtain ⟨s, ga, wk, what, count, rfl, ⟨hS, hG, F, hN, hsv⟩, q⟩ := h
    have hS' := hS
    obtain ⟨dx, kn, ld, KP, LP, S⟩ := hS'
    refine q_asgU (xs := [.int (what : Nat), .int ((if what = 0 then 0 else count : Nat) : Int)]) (eu_tup (ea_cons (ev_var rfl) (ea_cons (ev_if (b := decide (what = 0)) (et_is (et_test (ev_op (ev_var rfl) ev_c (rv_eq rfl))) (dec_nat (b := 0))) (fun hb => by
      rw [decide_eq_true_eq] at hb
      rw [if_pos hb]
      exact ev_c) (fun hb => by
      rw [decide_eq_false_iff_not] at hb
      rw [if_neg hb]
      exact ev_var rfl)) ea_nil)) (by show 2 ≤ 100000; decide)) fun wt H1 hwt e1 h1 => ?_
    have hE := el_lcNL (K := K) (σ := [some (.ref s), some (.int (what : Nat)), some (.int (count : Nat)), some (.ref wt), none]) (H := H1) (xs := IL (Lm.numbers wk.game)) (j := 4) (vs := [4]) (t := tTest (tOp (rEqD K) (tCall (sp_at_solved (K := K)) [] E0 (tCons (tVar 0) (tCons (tVar 4) tNil))) (tVar 3))) (tl := tCall (sp_right_numbers (K := K)) [] E0 (tCons (tFld K (tVar 0) "game") tNil)) (te := tVar 4)
      (fun i => decide (valAt wk (Lm.posAt wk.game ((Lm.numbers wk.game).getD i 0)) = (what, if what = 0 then 0 else count))) (fun i => V.int (((Lm.numbers wk.game).getD i 0 : Nat) : Int))
      (el_callR (ea_cons (ev_fld (ev_var rfl) (e1 _ _ S.obj) T.c_Solving T.n_Solving_game rfl) ea_nil) fun H2 e2 Q' q' => ⟨ga, wk.game, rfl, GAt.mono _ _ (e1.trans e2) hG, F, hN, q'⟩) (by rw [IL_len]; have := numbers_len wk.game; omega) (fun x => rfl) (fun i y H2 e2 hy => by
        obtain ⟨n, hn, rfl⟩ := IL_get hy
        have hnr := mem_numbers.mp (List.mem_of_getElem? hn)
        rw [getD_of hn]
        refine et_test (ev_eqD (K := K) (er_callR (ea_cons (ev_var rfl) (ea_cons (ev_var rfl) ea_nil)) fun H3 e3 Q' q' => ⟨s, ga, wk, n, rfl, SolAt.mono _ _ ((e1.trans e2).trans e3) hS, hsv, ?_⟩) (ev_var rfl) (e2 _ _ h1))
        rw [← valAt_num hnr.1]
        exact q') (fun i y H2 e2 hy _ => by
        obtain ⟨n, hn, rfl⟩ := IL_get hy
        rw [getD_of hn]
        exact ev_var rfl)
    rw [IL_len, given_filter (f := fun n => decide (valAt wk (Lm.posAt wk.game n) = (what, if what = 0 then 0 else count))), ← withValue_eq S.good hsv] at hE
    exact s_retL hE fun p H2 hp e2 h2 => q p H2 (fresh_back e1 hp) (e1.trans e2) h2
def sp_first_with : Sp := fun vs H Q E => ∃ (s ga : Addr) (wk : Lm.Work) (st what count : Nat), vs = [.ref s, .int (st : Nat), .int (what : Nat), .int (count : Nat)] ∧ Svd K H s ga wk ∧ (∀ i, (LmCalls.Work.withValue wk what count).find? (fun (i : Nat) => decide (st ≤ i)) = some i → RetV (.int (i : Nat)) H Q) ∧ ((LmCalls.Work.withValue wk what count).find? (fun (i : Nat) => decide (st ≤ i)) = none → Refuses K E H [-1])
abbrev s_first_with : Stmt := top 60
abbrev n_first_with : List Str := ["solving", "start", "outcome", "count", "number"]
theorem sc_first_with : FnScope n_first_with ["solving", "start", "outcome", "count"] (defScope s_first_with) := ⟨rfl, rfl, rfl, by decide +kernel, rfl, by decide +kernel, by decide +kernel⟩
theorem ok_first_with (T : Env K mg) : Cal P w K mg base (L2.CX P w) 4 "first_with" (sp_first_with (K := K)) := by
  refine T.d_first_with.cal sc_first_with (fun _ _ _ _ _ _ us hl => match us, hl with | [_, _, _, _], _ => rfl) (fun vs H Q E h => ?_) (fun f cdv A outer s H vs Q E hr h => ⟨_, (pss_cons (ps_for (passes_of rfl) rfl (pi_list (pe_c (ok_numbers_with T) hr (by decide) (by rfl) pass0 (pa_cons (pv 0) (pa_cons (pv 2) (pa_cons (pv 3) pa_nil))))) (pg_name (i := 4) sc_first_with.nd rfl (Or.inl rfl)) (pss_one (ps_if (pt_cmpR op_ge (pv 4) (pv 1) (nomark _)) (pss_one (ps_ret (pv 4))) pss_nil))) (pss_one (ps_raise rfl (takes_of rfl rfl rfl rfl) (pmkE0 T.e_NotFound (er_NotFound T) hr (by decide) (by rfl) T.g_NotFound)))), ?_⟩)
  · obtain ⟨s, ga, wk, st, what, count, rfl, _⟩ := h
    rfl
  · obtain ⟨s, ga, wk, st, what, count, rfl, hS, q1, q2⟩ := h
    generalize hl : LmCalls.Work.withValue wk what count = l at q1 q2
    refine q_forNLn (K := K) (xs := IL l) (el_callR (ea_cons (ev_var rfl) (ea_cons (ev_var rfl) (ea_cons (ev_var rfl) ea_nil))) fun H1 e1 Q' q' => ⟨s, ga, wk, what, count, rfl, Svd.mono _ _ e1 hS, by rw [hl]; exact q'⟩) (fun p i σ H' => (∃ u, σ = [some (.ref s), some (.int (st : Nat)), some (.int (what : Nat)), some (.int (count : Nat)), u]) ∧ Ex H H' ∧ H' p = some (.lst (IL l)) ∧ ∀ a ∈ l.take i, ¬ st ≤ a)
      (fun p H1 hp e1 h1 => ⟨⟨none, rfl⟩, e1, h1, fun a ha => by rw [List.take_zero] at ha; cases ha⟩) (fun p i σ' H' _ z => sq_of z.2.2.1) ?_ ?_
    · rintro p i y σ' H' hy ⟨⟨u, rfl⟩, e1, hp1, hno⟩
      obtain ⟨n, hn, rfl⟩ := IL_get hy
      refine s_when (b := decide (st ≤ n)) (et_is (et_test (ev_op (ev_var rfl) (ev_var rfl) rv_I0)) (by rw [decide_eq_decide]; omega)) (fun hb H2 e2 => ?_) (fun hb H2 e2 => ?_)
      · rw [decide_eq_true_eq] at hb
        refine s_ret (ev_var rfl) fun H3 e3 => q1 n ?_ H3 ((e1.trans e2).trans e3)
        rw [List.find?_eq_some_iff_append]
        obtain ⟨hi, hv⟩ := List.getElem?_eq_some_iff.mp hn
        refine ⟨decide_eq_true hb, l.take i, l.drop (i + 1), ?_, fun a ha => ?_⟩
        · rw [← hv, ← List.drop_eq_getElem_cons hi, List.take_append_drop]
        · rw [Bool.not_eq_true', decide_eq_false_iff_not]
          exact hno a ha
      · rw [decide_eq_false_iff_not] at hb
        refine ⟨⟨_, rfl⟩, e1.trans e2, e2 _ _ hp1, fun a ha => ?_⟩
        rw [take_next hn] at ha
        rcases List.mem_append.mp ha with z | z
        · exact hno a z
        · rw [List.mem_singleton.mp z]; exact hb
    · rintro p σ' H' ⟨⟨u, rfl⟩, e1, hp1, hno⟩
      rw [IL_len, List.take_length] at hno
      refine raise0 T.e_NotFound T.r_NotFound ((q2 ?_).mono e1)
      rw [List.find?_eq_none]
      exact fun a ha => by rw [decide_eq_true_eq]; exact hno a ha
/-! ### longest_of -/
def sp_longest_of : Sp := fun vs H Q E => ∃ (s ga : Addr) (wk : Lm.Work) (what : Nat), vs = [.ref s, .int (what : Nat)] ∧ Svd K H s ga wk ∧ (what = 1 ∨ what = 2) ∧ (∀ m, LmCalls.Work.greatest wk what = some m → RetV (.int (m : Nat)) H Q) ∧ (LmCalls.Work.greatest wk what = none → Refuses K E H [-1])
abbrev s_longest_of : Stmt := top 61
abbrev n_longest_of : List Str := ["solving", "outcome", "counts", "value"]
theorem sc_longest_of : FnScope n_longest_of ["solving", "outcome"] (defScope s_longest_of) := ⟨rfl, rfl, rfl, by decide +kernel, rfl, by decide +kernel, by decide +kernel⟩
theorem ok_longest_of (T : Env K mg) : Cal P w K mg base (L2.CX P w) 4 "longest_of" (sp_longest_of (K := K)) := by
  refine T.d_longest_of.cal sc_longest_of (fun _ _ _ _ _ _ us hl => match us, hl with | [_, _], _ => rfl) (fun vs H Q E h => ?_) (fun f cdv A outer s H vs Q E hr h => ⟨_, (pss_cons (ps_lock (ps_setLc (i := 2) (own := [("value", 3)]) rfl sc_longest_of.nd rfl rfl (sw_true rfl rfl rfl (by decide +kernel)) (pi_values (pe_fld (pv 0) rfl)) (blkOk_by (own := [("value", 3)]) (N := n_longest_of) (sc := defScope s_longest_of) (by decide +kernel)) (fun _ _ _ _ _ => pg_name (i := 3) sc_longest_of.nd rfl (Or.inl rfl)) (fun _ _ _ _ _ => by exact (pts_one (pt_cmpR op_eq (pe_ix (ix_tupK K rfl) (pv 3) pe_int (fun _ _ => rfl)) (pv 1) (nomark _)))) (fun _ _ _ _ _ => by exact (pe_ix (ix_tupK K rfl) (pv 3) pe_int (fun _ _ => rfl))))) (pss_cons (ps_if (pt_cmpR op_eq (pe_callB call_len_seq (by rfl) T.f_len PySem.boot_len (pa_cons (pv 2) pa_nil)) pe_int (nomark _)) (pss_one (ps_raise rfl (takes_of rfl rfl rfl rfl) (pmkE0 T.e_NotFound (er_NotFound T) hr (by decide) (by rfl) T.g_NotFound))) pss_nil) (pss_one (ps_ret (pe_callB (cr_max rfl) (by rfl) T.f_max (by decide +kernel) (pa_cons (pv 2) pa_nil)))))), ?_⟩)
  · obtain ⟨s, ga, wk, what, rfl, _⟩ := h
    rfl
  · obtain ⟨s, ga, wk, what, rfl, ⟨⟨dx, kn, ld, KP, LP, S⟩, hG, F, hN, hsv⟩, hw, q1, q2⟩ := h
    have G := S.good
    have hkl := Knows.len G S.kno
    have nsk : s ≠ kn := ne_of S.obj S.hkn (by intro z; cases z)
    have hPK : (PK KP).length = KP.length := List.length_map ..
    let vl : List (Nat × Nat) := KP.map fun p => (wk.tab.at_ p.1).getD (0, 0)
    have hvl : vl.length = KP.length := List.length_map ..
    -- an entry's value
    have ent : ∀ (n : Nat) (k : Key) (x : V) od H1, Ex (upd H kn (.frz od (.dK (PK KP)))) H1 → (PK KP)[n]? = some (k, x) → ∃ a, x = .ref a ∧ H1 a = some (.tup [.int ((vl.getD n (0, 0)).1 : Nat), .int ((vl.getD n (0, 0)).2 : Nat)]) := fun n k x od H1 e1 hx => by
      rw [show PK KP = KP.map (fun p => ((Sum.inl (p.1 : Int) : Key), V.ref p.2)) from rfl, List.getElem?_map] at hx
      obtain ⟨⟨i, a⟩, hi, e⟩ := Option.map_eq_some_iff.mp hx
      obtain ⟨v, m, hv, ha⟩ := S.kno.mem i a (List.mem_of_getElem? hi)
      have hg : vl.getD n (0, 0) = (v, m) := by
        refine getD_of ?_
        show (KP.map fun p => (wk.tab.at_ p.1).getD (0, 0))[n]? = _
        rw [List.getElem?_map, hi]
        show some ((wk.tab.at_ i).getD (0, 0)) = _
        rw [hv]
        rfl
      refine ⟨a, (congrArg Prod.snd e).symm, ?_⟩
      rw [hg]
      refine e1 _ _ ((upd_ne (ne_of ha S.hkn (by intro z; cases z))).trans ha)
    refine q_lcVals (d := kn) (kvs := PK KP) (fun n => decide ((vl.getD n (0, 0)).1 = what)) (fun n => V.int ((vl.getD n (0, 0)).2 : Nat)) S.hkn (fun od => ev_fld (ev_var rfl) ((upd_ne nsk).trans S.obj) T.c_Solving T.n_Solving_known rfl) (by rw [hPK]; omega) (fun x => rfl) (fun n k x od H1 e1 hx => by
      obtain ⟨a, rfl, ha⟩ := ent n k x od H1 e1 hx
      exact et_is (et_test (ev_op (ev_op (ev_var rfl) ev_c (rv_ixT (K := K) (v := .int ((vl.getD n (0, 0)).1 : Nat)) (st_of ha) rfl)) (ev_var rfl) (rv_eq rfl))) dec_nat) (fun n k x od H1 e1 hx _ => by
      obtain ⟨a, rfl, ha⟩ := ent n k x od H1 e1 hx
      exact ev_op (ev_var rfl) ev_c (rv_ixT (K := K) (v := .int ((vl.getD n (0, 0)).2 : Nat)) (st_of ha) rfl)) fun cs H1 hcs e1 h1 => ?_
    rw [hPK, ← hvl, given_gen vl (0, 0) (fun v => decide (v.1 = what)) (fun v => V.int (v.2 : Nat))] at h1
    -- what is counted
    have mem : ∀ n, (∃ i, wk.tab.at_ i = some (what, n)) ↔ ∃ v ∈ vl.filter (fun v => decide (v.1 = what)), v.2 = n := fun n => by
      constructor
      · rintro ⟨i, hi⟩
        obtain ⟨a, ha⟩ := S.kno.all i _ hi
        refine ⟨(what, n), List.mem_filter.mpr ⟨List.mem_map.mpr ⟨(i, a), ha, ?_⟩, decide_eq_true rfl⟩, rfl⟩
        show (wk.tab.at_ i).getD (0, 0) = _
        rw [hi]
        rfl
      · rintro ⟨v, hv, rfl⟩
        obtain ⟨hv, hd⟩ := List.mem_filter.mp hv
        have hd : v.1 = what := of_decide_eq_true hd
        obtain ⟨⟨i, a⟩, hp, e⟩ := List.mem_map.mp hv
        obtain ⟨x, m, hx, _⟩ := S.kno.mem i a hp
        have e : (wk.tab.at_ i).getD (0, 0) = v := e
        rw [hx] at e
        have e : (x, m) = v := e
        refine ⟨i, ?_⟩
        rw [hx, e, ← hd]
    obtain ⟨g1, g2⟩ := greatest_is G hsv hw
    generalize vl.filter (fun v => decide (v.1 = what)) = fl at h1 mem
    refine q_when (b := decide (fl.length = 0)) (et_is (et_test (ev_op (ev_lenS (K := K) (ev_var rfl) (sq_of h1)) ev_c (rv_eq rfl))) (by rw [List.length_map]; exact dec_nat (b := 0))) (fun hb H2 e2 => ?_) (fun hb H2 e2 => ?_)
    · rw [decide_eq_true_eq] at hb
      have hfl := List.length_eq_zero_iff.mp hb
      refine raise0 T.e_NotFound T.r_NotFound ((q2 ?_).mono (e1.trans e2))
      cases hgr : LmCalls.Work.greatest wk what with
      | none => rfl
      | some m =>
        obtain ⟨v, hv, _⟩ := (mem m).mp (g1 m hgr).1
        rw [hfl] at hv
        cases hv
    · rw [decide_eq_false_iff_not] at hb
      cases hgr : LmCalls.Work.greatest wk what with
      | none =>
        obtain ⟨v, hv⟩ := List.exists_mem_of_length_pos (show 0 < fl.length by omega)
        obtain ⟨i, hi⟩ := (mem v.2).mpr ⟨v, hv, rfl⟩
        exact absurd hi (g2 hgr i v.2)
      | some m =>
        obtain ⟨gm, gle⟩ := g1 m hgr
        refine s_ret (ev_maxL (K := K) (p := cs) (ns := fl.map fun v => ((v.2 : Nat) : Int)) (m := (m : Nat)) (ev_var rfl) (by rw [e2 _ _ h1, List.map_map]; rfl) (by rw [List.length_map]; omega) fun x hx hle => ?_) fun H3 e3 => q1 m hgr H3 ((e1.trans e2).trans e3)
        obtain ⟨v, hv, rfl⟩ := List.mem_map.mp hx
        obtain ⟨i, hi⟩ := (mem v.2).mpr ⟨v, hv, rfl⟩
        have h1 := gle i v.2 hi
        obtain ⟨v', hv', e⟩ := (mem m).mp gm
        have h2 := hle ((v'.2 : Nat) : Int) (List.mem_map.mpr ⟨v', hv', rfl⟩)
        rw [e] at h2
        omega
end
end Es
end

section
set_option Elab.async false
set_option linter.all false
set_option maxRecDepth 100000
set_option maxHeartbeats 4000000
namespace Es
open PySem PySem.Spec PyProof.Rows L2 Evl
theorem IL_rep (n x : Nat) : List.replicate n (V.int (x : Nat)) = IL (List.replicate n x) := by
  unfold IL
  rw [List.map_replicate]
theorem IL_set (l : List Nat) (j x : Nat) : (IL l).set j (V.int (x : Nat)) = IL (l.set j x) := by
  unfold IL
  rw [List.map_set]
theorem two_cast (k : Nat) : ((2 : Int) ^ k) = ((2 ^ k : Nat) : Int) := by push_cast; rfl
section
variable {P : Program} {w : World} {K : Fr} {mg : Str → Option Value} {base : Heap}
/-! ### shift_of, code_in -/
def sp_shift_of : Sp := fun vs H Q _ => ∃ n : Nat, vs = [.int (n : Nat)] ∧ RetV (.int ((2 * (n % 4) : Nat) : Int)) H Q
abbrev s_shift_of : Stmt := top 86
abbrev n_shift_of : List Str := ["number"]
theorem sc_shift_of : FnScope n_shift_of ["number"] (defScope s_shift_of) := ⟨rfl, rfl, rfl, by decide +kernel, rfl, by decide +kernel, by decide +kernel⟩
theorem ok_shift_of (T : Env K mg) : Cal P w K mg base CX0 1 "shift_of" sp_shift_of := by
  refine T.d_shift_of.cal sc_shift_of (fun _ _ _ _ _ _ us hl => match us, hl with | [_], _ => rfl) (fun vs H Q E h => ?_) (Body0.by fun f cdv A outer s H vs Q E hr h => ⟨_, (pss_one (ps_ret (pe_op op_mul pe_int (pe_op op_modN (pv 0) (pe_gv (by rfl) T.v_PER_BYTE))))), ?_⟩)
  · obtain ⟨n, rfl, _⟩ := h
    rfl
  · obtain ⟨n, rfl, q⟩ := h
    refine s_ret (ev_is (ev_op ev_c (ev_op (ev_var rfl) ev_c (rv_I (by decide))) (rv_I (Or.inl ⟨by decide, by decide⟩))) ?_) q
    rw [show ((n : Nat) : Int).fmod 4 = ((n % 4 : Nat) : Int) from fmod_nat n 4]
    push_cast
    rfl
theorem ev_shift {T : Env K mg} {σ : L2.St} {H : Hp} {E : XK} {ta : TE} {n : Nat} (h : Ev ta σ H (.int (n : Nat))) : Ev (tCall sp_shift_of [] E (tCons ta tNil)) σ H (.int ((2 * (n % 4) : Nat) : Int)) := ev_callR (ea_cons h ea_nil) fun H1 e1 Q' q' => ⟨n, rfl, q'⟩
def sp_code_in : Sp := fun vs H Q _ => ∃ (a : Addr) (tb : List Nat) (n : Nat), vs = [.ref a, .int (n : Nat)] ∧ H a = some (.lst (IL tb)) ∧ n / 4 < tb.length ∧ RetV (.int (bitsOf tb n : Nat)) H Q
abbrev s_code_in : Stmt := top 87
abbrev n_code_in : List Str := ["table", "number"]
theorem sc_code_in : FnScope n_code_in ["table", "number"] (defScope s_code_in) := ⟨rfl, rfl, rfl, by decide +kernel, rfl, by decide +kernel, by decide +kernel⟩
theorem ok_code_in (T : Env K mg) : Cal P w K mg base CX0 2 "code_in" sp_code_in := by
  refine T.d_code_in.cal sc_code_in (fun _ _ _ _ _ _ us hl => match us, hl with | [_, _], _ => rfl) (fun vs H Q E h => ?_) (Body0.by fun f cdv A outer s H vs Q E hr h => ⟨_, (pss_one (ps_ret (pe_op op_and (pe_op op_shr (pe_ix ix_list (pv 0) (pe_op op_fdivN (pv 1) (pe_gv (by rfl) T.v_PER_BYTE)) (fun _ _ => rfl)) (pe_c (ok_shift_of T) hr (by decide) (by rfl) pass0 (pa_cons (pv 1) pa_nil))) pe_int))), ?_⟩)
  · obtain ⟨a, tb, n, rfl, _⟩ := h
    rfl
  · obtain ⟨a, tb, n, rfl, ha, hn, q⟩ := h
    have hx := List.getElem?_eq_getElem hn
    have hd : ((n : Nat) : Int).fdiv 4 = ((n / 4 : Nat) : Int) := fdiv_nat n 4
    refine s_ret (ev_is (ev_op (ev_op (ev_op (ev_var rfl) (ev_is (w := .int ((n / 4 : Nat) : Int)) (ev_op (ev_var rfl) ev_c (rv_I ⟨by decide, by decide⟩)) (by rw [hd])) (rv_ixL (K := K) (v := .int (tb[n / 4] : Nat)) (sq_of ha) (atI_IL hx))) (ev_shift (T := T) (ev_var rfl)) (rv_I (by omega))) ev_c rv_I0) ?_) q
    have e3 : (3 : Int) = 2 ^ 2 - 1 := by decide
    unfold bitsOf
    rw [List.getD_eq_getElem?_getD, hx, Int.toNat_natCast, two_cast, e3, Bits.bitAnd_mask 2 (by exact Int.natCast_nonneg (tb[n / 4] / 2 ^ (2 * (n % 4))))]
    show V.int (((tb[n / 4] : Nat) : Int) / ((2 ^ (2 * (n % 4)) : Nat) : Int) % ((4 : Nat) : Int)) = _
    rw [← Int.natCast_ediv, ← Int.natCast_emod, Nat.pow_mul]
    rfl
/-! ### codes_of -/
def sp_codes_of : Sp := fun vs H Q _ => ∃ (s ga : Addr) (wk : Lm.Work), vs = [.ref s] ∧ Svd K H s ga wk ∧ RetL (IL ((List.range wk.game.count).map (LmCalls.Work.code wk))) H Q
abbrev s_codes_of : Stmt := top 85
abbrev n_codes_of : List Str := ["solving", "codes", "number"]
theorem sc_codes_of : FnScope n_codes_of ["solving"] (defScope s_codes_of) := ⟨rfl, rfl, rfl, by decide +kernel, rfl, by decide +kernel, by decide +kernel⟩
theorem ok_codes_of (T : Env K mg) : Cal P w K mg base CX0 3 "codes_of" (sp_codes_of (K := K)) := by
  refine T.d_codes_of.cal sc_codes_of (fun _ _ _ _ _ _ us hl => match us, hl with | [_], _ => rfl) (fun vs H Q E h => ?_) (Body0.by fun f cdv A outer s H vs Q E hr h => ⟨_, (pss_cons (ps_set (i := 1) sc_codes_of.nd rfl (Or.inl rfl) (pe_op op_rep (pe_lst (pa_cons (pe_gv (by rfl) T.v_NO_POSITION) pa_nil)) (pe_fld (pe_fld (pv 0) rfl) rfl))) (pss_cons (ps_for PassesOwn.never rfl (pi_list (pe_c (ok_right_numbers T) hr (by decide) (by rfl) pass0 (pa_cons (pe_fld (pv 0) rfl) pa_nil))) (pg_name (i := 2) sc_codes_of.nd rfl (Or.inl rfl)) (pss_one (ps_asg (pe_ix ix_tup (pe_c (ok_at_solved T) hr (by decide) (by rfl) pass0 (pa_cons (pv 0) (pa_cons (pv 2) pa_nil))) pe_int (fun _ _ => rfl)) (pg_sub (pv 1) (pv 2) set_list)))) (pss_one (ps_ret (pv 1))))), ?_⟩)
  · obtain ⟨s, ga, wk, rfl, _⟩ := h
    rfl
  · obtain ⟨s, ga, wk, rfl, hV, q⟩ := h
    have hV' := hV
    obtain ⟨⟨dx, kn, ld, KP, LP, S⟩, ⟨dxg, lk, lp, ls, dp, lw, ks, ps, ws, G⟩, F, hN, hsv⟩ := hV'
    refine q_asgL (el_rep (x := .int ((3 : Nat) : Int)) (n := wk.game.count) (ea_cons ev_c ea_nil) (ev_fld (ev_fld (ev_var rfl) S.obj T.c_Solving T.n_Solving_game rfl) G.obj T.c_Game T.n_Game_total rfl) (by omega)) fun d H1 hd e1 h1 => ?_
    rw [IL_rep, ← codesK_zero] at h1
    refine q_forNLn (K := K) (xs := IL (Lm.numbers wk.game)) (el_callR (ea_cons (ev_fld (ev_var rfl) (e1 _ _ S.obj) T.c_Solving T.n_Solving_game rfl) ea_nil) fun H2 e2 Q' q' => ⟨ga, wk.game, rfl, GAt.mono _ _ (e1.trans e2) hV.2.1, F, hN, q'⟩) (fun p i σ H' => (∃ u, σ = [some (.ref s), some (.ref d), u]) ∧ Ex H H' ∧ p ≠ d ∧ H' p = some (.lst (IL (Lm.numbers wk.game))) ∧ H' d = some (.lst (IL (codesK wk i))))
      (fun p H2 hp e2 h2 => ⟨⟨none, rfl⟩, e1.trans e2, (ne_of_none h1 hp).symm, h2, e2 _ _ h1⟩) (fun p i σ' H' _ z => sq_of z.2.2.2.1) ?_ ?_
    · rintro p i y σ' H' hy ⟨⟨u, rfl⟩, e2, npd, hp2, hd2⟩
      obtain ⟨n, hn, rfl⟩ := IL_get hy
      have hnr := mem_numbers.mp (List.mem_of_getElem? hn)
      refine s_setL (j := n) hd2 (ev_ixR (v := (wk.tab.at_ n).getD (Lm.DRAW, 0)) (ea_cons (ev_var rfl) (ea_cons (ev_var rfl) ea_nil)) fun H3 e3 Q' q' => ⟨s, ga, wk, n, rfl, SolAt.mono _ _ (e2.trans e3) hV.1, hsv, q'⟩) (ev_var rfl) (ev_var rfl) (by rw [IL_len, codesK_len]; exact hnr.1) fun H3 e3 => ⟨⟨_, rfl⟩, Ex.mut (e2.trans e3) hd, npd, (upd_ne npd).trans (e3 _ _ hp2), ?_⟩
      rw [upd_same, IL_set, ← code_right hsv hnr, codesK_step hn]
    · rintro p σ' H' ⟨⟨u, rfl⟩, e2, npd, hp2, hd2⟩
      rw [IL_len, codesK_end] at hd2
      exact s_ret (ev_var rfl) fun H3 e3 => q d H3 hd (e2.trans e3) (e3 _ _ hd2)
/-! ### table_of -/
def sp_table_of : Sp := fun vs H Q _ => ∃ (s ga : Addr) (wk : Lm.Work), vs = [.ref s] ∧ Svd K H s ga wk ∧ RetL (IL (LmCalls.Work.table wk)) H Q
theorem codes_at {wk : Lm.Work} {n : Nat} (h : n < wk.game.count) : ((List.range wk.game.count).map (LmCalls.Work.code wk))[n]? = some (LmCalls.Work.code wk n) := by
  rw [List.getElem?_map, List.getElem?_range h]
  rfl
theorem tabN_len (c : Nat → Nat) (m n : Nat) : (tabN c m n).length = m := by
  unfold tabN
  rw [List.length_map, List.length_range]
abbrev s_table_of : Stmt := top 84
abbrev n_table_of : List Str := ["solving", "codes", "table", "number", "code", "place"]
theorem sc_table_of : FnScope n_table_of ["solving"] (defScope s_table_of) := ⟨rfl, rfl, rfl, by decide +kernel, rfl, by decide +kernel, by decide +kernel⟩
theorem ok_table_of (T : Env K mg) : Cal P w K mg base CX0 4 "table_of" (sp_table_of (K := K)) := by
  refine T.d_table_of.cal sc_table_of (fun _ _ _ _ _ _ us hl => match us, hl with | [_], _ => rfl) (fun vs H Q E h => ?_) (Body0.by fun f cdv A outer s H vs Q E hr h => ⟨_, (pss_cons (ps_set (i := 1) sc_table_of.nd rfl (Or.inl rfl) (pe_c (ok_codes_of T) hr (by decide) (by rfl) pass0 (pa_cons (pv 0) pa_nil))) (pss_cons (ps_set (i := 2) sc_table_of.nd rfl (Or.inl rfl) (pe_op op_rep (pe_lst (pa_cons pe_int pa_nil)) (pe_op op_fdivN (pe_op op_sub (pe_op op_add (pe_callB call_len_seq (by rfl) T.f_len PySem.boot_len (pa_cons (pv 1) pa_nil)) (pe_gv (by rfl) T.v_PER_BYTE)) pe_int) (pe_gv (by rfl) T.v_PER_BYTE)))) (pss_cons (ps_for PassesOwn.never rfl (pi_enum (by rfl) T.f_enumerate (pa_cons (pv 1) pa_nil)) (pg_tup rfl (pgs_cons (pg_name (i := 3) sc_table_of.nd rfl (Or.inl rfl)) (pgs_cons (pg_name (i := 4) sc_table_of.nd rfl (Or.inl rfl)) pgs_nil))) (pss_cons (ps_set (i := 5) sc_table_of.nd rfl (Or.inl rfl) (pe_op op_fdivN (pv 3) (pe_gv (by rfl) T.v_PER_BYTE))) (pss_one (ps_asg (pe_op op_or (pe_ix ix_list (pv 2) (pv 5) (fun _ _ => rfl)) (pe_op op_shl (pv 4) (pe_c (ok_shift_of T) hr (by decide) (by rfl) pass0 (pa_cons (pv 3) pa_nil)))) (pg_sub (pv 2) (pv 5) set_list))))) (pss_one (ps_ret (pv 2)))))), ?_⟩)
  · obtain ⟨s, ga, wk, rfl, _⟩ := h
    rfl
  · obtain ⟨s, ga, wk, rfl, hV, q⟩ := h
    have hV' := hV
    obtain ⟨⟨dx, kn, ld, KP, LP, S⟩, hG, F, hN, hsv⟩ := hV'
    have hc := code_le S.good hsv
    have hcl : ((List.range wk.game.count).map (LmCalls.Work.code wk)).length = wk.game.count := by rw [List.length_map, List.length_range]
    refine q_asgL (el_callR (ea_cons (ev_var rfl) ea_nil) fun H1 e1 Q' q' => ⟨s, ga, wk, rfl, Svd.mono _ _ e1 hV, q'⟩) fun cd H1 hcd e1 h1 => ?_
    refine q_asgL (el_rep (x := .int ((0 : Nat) : Int)) (n := (wk.game.count + 3) / 4) (ea_cons ev_c ea_nil) (ev_is (ev_op (ev_op (ev_op (ev_lenS (K := K) (ev_var rfl) (sq_of h1)) ev_c rv_I0) ev_c rv_I0) ev_c (rv_I ⟨by decide, by decide⟩)) (by
      rw [IL_len, hcl, show (((wk.game.count : Nat) : Int) + 4 - 1) = ((wk.game.count + 3 : Nat) : Int) by omega, show (((wk.game.count + 3 : Nat) : Int)).fdiv 4 = (((wk.game.count + 3) / 4 : Nat) : Int) from fdiv_nat _ 4])) (by omega)) fun d H2 hd e2 h2 => ?_
    rw [IL_rep, ← tabN_zero (LmCalls.Work.code wk)] at h2
    have hd0 : H d = none := fresh_back e1 hd
    have ncd : cd ≠ d := ne_of_none h1 hd
    refine q_enum (K := K) (a := cd) (xs := IL ((List.range wk.game.count).map (LmCalls.Work.code wk))) (ea_cons (ev_var rfl) ea_nil) (sq_of (e2 _ _ h1)) (fun n σ H' => (∃ u v x, σ = [some (.ref s), some (.ref cd), some (.ref d), u, v, x]) ∧ Ex H H' ∧ H' cd = some (.lst (IL ((List.range wk.game.count).map (LmCalls.Work.code wk)))) ∧ H' d = some (.lst (IL (tabN (LmCalls.Work.code wk) ((wk.game.count + 3) / 4) n))))
      (fun H3 e3 => ⟨⟨none, none, none, rfl⟩, (e1.trans e2).trans e3, (e2.trans e3) _ _ h1, e3 _ _ h2⟩) (fun i σ' H' _ p => sq_of p.2.2.1) ?_ ?_
    · rintro n y σ' H' H3 hy ⟨⟨u, v, x, rfl⟩, e3, hc3, hd3⟩ e4
      have hn : n < wk.game.count := by
        have := (List.getElem?_eq_some_iff.mp hy).1
        rw [IL_len, hcl] at this
        exact this
      have hy' : y = .int (LmCalls.Work.code wk n : Nat) := by
        rw [IL_at, codes_at hn] at hy
        exact (Option.some.inj hy).symm
      subst hy'
      have hb : n / 4 < (wk.game.count + 3) / 4 := by omega
      refine q_asg (v := .int ((n / 4 : Nat) : Int)) (ev_is (ev_op (ev_var rfl) ev_c (rv_I ⟨by decide, by decide⟩)) (by rw [show ((n : Nat) : Int).fdiv 4 = ((n / 4 : Nat) : Int) from fdiv_nat n 4])) fun H5 e5 => ?_
      have e45 := e4.trans e5
      have hp := part_lt hc n (n / 4)
      have h8 : 2 * (n % 4) ≤ 6 := by omega
      refine s_setL (j := n / 4) (v := .int ((part (LmCalls.Work.code wk) n (n / 4) ||| (LmCalls.Work.code wk n * 2 ^ (2 * (n % 4))) : Nat) : Int)) (e45 _ _ hd3) (ev_is (ev_op (ev_op (ev_var rfl) (ev_var rfl) (rv_ixL (K := K) (v := .int (part (LmCalls.Work.code wk) n (n / 4) : Nat)) (sq_of (e45 _ _ hd3)) (atI_IL (tabN_at hb)))) (ev_op (ev_var rfl) (ev_shift (T := T) (ev_var rfl)) (rv_I ⟨by omega, by omega, by have := hc n; omega⟩)) rv_I0) ?_) (ev_var rfl) (ev_var rfl) (by rw [IL_len, tabN_len]; exact hb) fun H6 e6 => ⟨⟨_, _, _, rfl⟩, Ex.mut ((e3.trans e45).trans e6) hd0, (upd_ne ncd).trans ((e45.trans e6) _ _ hc3), ?_⟩
      · have e : ((LmCalls.Work.code wk n : Nat) : Int) * 2 ^ ((2 * (n % 4) : Nat) : Int).toNat = ((LmCalls.Work.code wk n * 2 ^ (2 * (n % 4)) : Nat) : Int) := by
          rw [Int.toNat_natCast]
          push_cast
          rfl
        rw [e, Bits.bitOr_pp (Int.natCast_nonneg _) (Int.natCast_nonneg _), Int.toNat_natCast, Int.toNat_natCast]
      · rw [upd_same, IL_set, tabN_step hc]
    · rintro σ' H' ⟨⟨u, v, x, rfl⟩, e3, hc3, hd3⟩
      rw [IL_len, hcl, ← table_eq] at hd3
      exact s_ret (ev_var rfl) fun H4 e4 => q d H4 hd0 (e3.trans e4) (e4 _ _ hd3)
theorem table_len (wk : Lm.Work) : (LmCalls.Work.table wk).length = (wk.game.count + 3) / 4 := by
  rw [table_eq, tabN_len]
/-! ### first_wrong -/
def sp_first_wrong : Sp := fun vs H Q E => ∃ (s ga ta : Addr) (wk : Lm.Work) (tb : List Nat), vs = [.ref s, .ref ta] ∧ Svd K H s ga wk ∧ H ta = some (.lst (IL tb)) ∧ (∀ x ∈ tb, x < 256) ∧ (tb.length ≠ (wk.game.count + 3) / 4 → Refuses K E H [-1]) ∧ (tb.length = (wk.game.count + 3) / 4 → (tb = LmCalls.Work.table wk → RetV .non H Q) ∧ (tb ≠ LmCalls.Work.table wk → RetV (.int (LmCalls.Work.firstWrong wk tb : Nat)) H Q))
abbrev s_first_wrong : Stmt := top 88
abbrev n_first_wrong : List Str := ["solving", "table", "right", "number"]
theorem sc_first_wrong : FnScope n_first_wrong ["solving", "table"] (defScope s_first_wrong) := ⟨rfl, rfl, rfl, by decide +kernel, rfl, by decide +kernel, by decide +kernel⟩
theorem ok_first_wrong (T : Env K mg) : Cal P w K mg base (L2.CX P w) 5 "first_wrong" (sp_first_wrong (K := K)) := by
  refine T.d_first_wrong.cal sc_first_wrong (fun _ _ _ _ _ _ us hl => match us, hl with | [_, _], _ => rfl) (fun vs H Q E h => ?_) (fun f cdv A outer s H vs Q E hr h => ⟨_, (pss_cons (ps_set (i := 2) sc_first_wrong.nd rfl (Or.inl rfl) (pe_c (ok_table_of T) hr (by decide) (by rfl) pass0 (pa_cons (pv 0) pa_nil))) (pss_cons (ps_if (pt_cmpR op_ne (pe_callB call_len_seq (by rfl) T.f_len PySem.boot_len (pa_cons (pv 1) pa_nil)) (pe_callB call_len_seq (by rfl) T.f_len PySem.boot_len (pa_cons (pv 2) pa_nil)) (nomark _)) (pss_one (ps_raise rfl (takes_of rfl rfl rfl rfl) (pmkE0 T.e_OtherLength (er_OtherLength T) hr (by decide) (by rfl) T.g_OtherLength))) pss_nil) (pss_cons (ps_for (passes_of rfl) rfl (pi_range1 (by rfl) T.f_range (pa_cons (pe_op op_mul (pe_gv (by rfl) T.v_PER_BYTE) (pe_callB call_len_seq (by rfl) T.f_len PySem.boot_len (pa_cons (pv 2) pa_nil))) pa_nil)) (pg_name (i := 3) sc_first_wrong.nd rfl (Or.inl rfl)) (pss_one (ps_if (pt_cmpR op_ne (pe_c (ok_code_in T) hr (by decide) (by rfl) pass0 (pa_cons (pv 1) (pa_cons (pv 3) pa_nil))) (pe_c (ok_code_in T) hr (by decide) (by rfl) pass0 (pa_cons (pv 2) (pa_cons (pv 3) pa_nil))) (nomark _)) (pss_one (ps_ret (pe_callB (call_min2 rfl) (by rfl) T.f_min (by decide +kernel) (pa_cons (pv 3) (pa_cons (pe_fld (pe_fld (pv 0) rfl) rfl) pa_nil))))) pss_nil))) (pss_one (ps_ret pe_non))))), ?_⟩)
  · obtain ⟨s, ga, ta, wk, tb, rfl, _⟩ := h
    rfl
  · obtain ⟨s, ga, ta, wk, tb, rfl, hV, hta, hby, q1, q2⟩ := h
    have hV' := hV
    obtain ⟨⟨dx, kn, ld, KP, LP, S⟩, ⟨dxg, lk, lp, ls, dp, lw, ks, ps, ws, G⟩, F, hN, hsv⟩ := hV'
    have hg := S.good
    refine q_asgL (el_callR (ea_cons (ev_var rfl) ea_nil) fun H1 e1 Q' q' => ⟨s, ga, wk, rfl, Svd.mono _ _ e1 hV, q'⟩) fun rt H1 hrt e1 h1 => ?_
    refine q_when (b := !decide (tb.length = (wk.game.count + 3) / 4)) (et_is (et_test (ev_op (ev_lenS (K := K) (ev_var rfl) (sq_of (e1 _ _ hta))) (ev_lenS (K := K) (ev_var rfl) (sq_of h1)) (rv_ne rfl))) (by rw [IL_len, IL_len, table_len, dec_nat])) (fun hb H2 e2 => ?_) (fun hb H2 e2 => ?_)
    · rw [Bool.not_eq_true', decide_eq_false_iff_not] at hb
      exact raise0 T.e_OtherLength T.r_OtherLength ((q1 hb).mono (e1.trans e2))
    · rw [Bool.not_eq_false', decide_eq_true_eq] at hb
      obtain ⟨q3, q4⟩ := q2 hb
      have e12 := e1.trans e2
      refine q_forR1 (n := ((4 * ((wk.game.count + 3) / 4) : Nat) : Int)) (ea_cons (ev_is (ev_op ev_c (ev_lenS (K := K) (ev_var rfl) (sq_of (e2 _ _ h1))) (rv_I (Or.inl ⟨by decide, by decide⟩))) (by rw [IL_len, table_len]; push_cast; rfl)) ea_nil) ⟨by omega, by omega⟩ (fun i σ H' => (∃ u, σ = [some (.ref s), some (.ref ta), some (.ref rt), u]) ∧ Ex H2 H' ∧ ∀ j, j < i → bitsOf tb j = LmCalls.Work.code wk j)
        (fun H3 e3 => ⟨⟨none, rfl⟩, e3, fun j hj => by omega⟩) ?_ ?_
      · rintro i σ' H' hi ⟨⟨u, rfl⟩, e3, hall⟩
        have hi : i < 4 * ((wk.game.count + 3) / 4) := by omega
        have e13 := e12.trans e3
        refine s_when (b := !decide (bitsOf tb i = LmCalls.Work.code wk i)) (et_is (et_test (ev_op (ev_callR (v := .int (bitsOf tb i : Nat)) (ea_cons (ev_var rfl) (ea_cons (ev_var rfl) ea_nil)) fun H4 e4 Q' q' => ⟨ta, tb, i, rfl, (e13.trans e4) _ _ hta, by omega, q'⟩) (ev_callR (v := .int (bitsOf (LmCalls.Work.table wk) i : Nat)) (ea_cons (ev_var rfl) (ea_cons (ev_var rfl) ea_nil)) fun H4 e4 Q' q' => ⟨rt, LmCalls.Work.table wk, i, rfl, ((e2.trans e3).trans e4) _ _ h1, by rw [table_len]; omega, q'⟩) (rv_ne rfl))) (by rw [dec_nat, table_bits hg hsv hi])) (fun hc H4 e4 => ?_) (fun hc H4 e4 => ?_)
        · rw [Bool.not_eq_true', decide_eq_false_iff_not] at hc
          obtain ⟨j1, j2⟩ := judge_first hg hsv hb (by omega) hc hall
          have q4 := q4 j1
          rw [j2] at q4
          refine s_ret (ev_cb (vs := [.int (i : Nat), .int (wk.game.count : Nat)]) (ea_cons (ev_var rfl) (ea_cons (ev_fld (ev_fld (ev_var rfl) ((e13.trans e4) _ _ S.obj) T.c_Solving T.n_Solving_game rfl) ((e13.trans e4) _ _ G.obj) T.c_Game T.n_Game_total rfl) ea_nil)) (z := .int ((min i wk.game.count : Nat) : Int)) fun H5 e5 Q' q' => ⟨_, _, rfl, ?_⟩) fun H5 e5 => q4 H5 ((e13.trans e4).trans e5)
          have : (if ((wk.game.count : Nat) : Int) < ((i : Nat) : Int) then ((wk.game.count : Nat) : Int) else ((i : Nat) : Int)) = ((min i wk.game.count : Nat) : Int) := by
            split <;> omega
          rw [this]
          exact q' H5 (Ex.refl _)
        · rw [Bool.not_eq_false', decide_eq_true_eq] at hc
          refine ⟨⟨_, rfl⟩, e3.trans e4, fun j hj => ?_⟩
          by_cases z : j = i
          · rw [z]; exact hc
          · exact hall j (by omega)
      · rintro σ' H' ⟨⟨u, rfl⟩, e3, hall⟩
        rw [Int.toNat_natCast] at hall
        have hsame := judge_same hg hsv hb hby fun i hi => hall i (by rw [hb] at hi; exact hi)
        exact s_ret ev_c fun H4 e4 => q3 hsame H4 ((e12.trans e3).trans e4)
end
end Es
end

section
set_option Elab.async false
set_option linter.all false
set_option maxRecDepth 100000
set_option maxHeartbeats 4000000
namespace Es
open PySem PySem.Spec PyProof.Rows L2 Evl
section
variable {K : Fr} {σ : L2.St} {H : Hp} {ta tb tv te : TE} {t : TT} {D : Ends} {tz : TS}
theorem q_asgIf {b : Bool} {i : Nat} (h : EvT t σ H b) (h1 : b = true → ∀ H1, Ex H H1 → ta σ H1 fun v H2 => tz D (σ.set i (some v)) H2) (h2 : b = false → ∀ H1, Ex H H1 → tb σ H1 fun v H2 => tz D (σ.set i (some v)) H2) : tSeq (tAsg (tIf t ta tb) (gName i)) tz D σ H := by
  refine h H (Ex.refl H) _ fun H1 e1 => ?_
  cases b with
  | true => exact h1 rfl H1 e1
  | false => exact h2 rfl H1 e1
theorem q_fldL {p C dx : Addr} {fs : List (Str × V)} {f : Str} {xs : List V} (hv : EvL tv σ H xs) (ha : Ev ta σ H (.ref p)) (hp : H p = some (.ins C dx fs)) (cl : Cls K C) (na : NoAttr K C f) (hz : fs.length < 1000) (q : ∀ r H1, H r = none → Ex H H1 → H1 r = some (.lst xs) → tz D σ (upd H1 p (.ins C dx (putF f (.ref r) fs)))) : tSeq (sFld K ta tv f) tz D σ H :=
  hv H (Ex.refl H) _ fun r H1 hr e1 h1 => ha H1 e1 _ fun H2 e2 => ⟨p, C, dx, fs, rfl, (e1.trans e2) _ _ hp, cl, na, hz, q r H2 hr (e1.trans e2) (e2 _ _ h1)⟩
end
section
variable {P : Program} {w : World} {K : Fr} {mg : Str → Option Value} {base : Heap}
/-! ### Match -/
def mF (sd ra rp md rd rs : V) : List (Str × V) := [("side", sd), ("row", ra), ("replies", rp), ("made", md), ("replied", rd), ("result", rs)]
def MaAt (K : Fr) (H : Hp) (m dx : Addr) (side : Nat) (ra rp : Addr) (made rd res : Nat) : Prop := H m = some (.ins (CA K "Match") dx (mF (.int (side : Nat)) (.ref ra) (.ref rp) (.int (made : Nat)) (.int (rd : Nat)) (.int (res : Nat))))
def sp_Match : Sp := fun vs H Q _ => ∃ p dx a b c, vs = [.ref p, a, b, c] ∧ H p = some (.ins (CA K "Match") dx []) ∧ Q .non (upd H p (.ins (CA K "Match") dx (mF a b c (.int 0) (.int 0) (.int 0))))
abbrev s_Match___init__ : Stmt := inClass (top 68) 0
abbrev n_Match___init__ : List Str := ["self", "side", "row", "replies"]
theorem sc_Match___init__ : FnScope n_Match___init__ ["self", "side", "row", "replies"] (defScope s_Match___init__) := ⟨rfl, rfl, rfl, by decide +kernel, rfl, by decide +kernel, by decide +kernel⟩
theorem mk_Match (T : Env K mg) : Mak P w K mg base CX0 1 (CA K "Match") (sp_Match (K := K)) := by
  refine T.k_Match.mak sc_Match___init__ (fun _ _ _ _ _ _ us hl => match us, hl with | [_, _, _, _], _ => rfl) (fun vs H Q E h => ?_) (Body0.by fun f cdv A outer s H vs Q E hr h => ⟨_, (pss_cons (ps_fld (pv 0) (pv 1) rfl) (pss_cons (ps_fld (pv 0) (pv 2) rfl) (pss_cons (ps_fld (pv 0) (pv 3) rfl) (pss_cons (ps_fld (pv 0) pe_int rfl) (pss_cons (ps_fld (pv 0) pe_int rfl) (pss_one (ps_fld (pv 0) (pe_gv (by rfl) T.v_DRAW) rfl))))))), ?_⟩)
  · obtain ⟨p, dx, a, b, c, rfl, _⟩ := h
    rfl
  · obtain ⟨p, dx, a, b, c, rfl, hp, q⟩ := h
    refine ⟨_, rfl, _, rfl, p, _, dx, _, rfl, hp, T.c_Match, T.n_Match_side, (by show 0 < 1000; decide), ?_⟩
    refine ⟨_, rfl, _, rfl, p, _, dx, _, rfl, upd_same, T.c_Match, T.n_Match_row, (by show 1 < 1000; decide), ?_⟩
    refine ⟨_, rfl, _, rfl, p, _, dx, _, rfl, upd_same, T.c_Match, T.n_Match_replies, (by show 2 < 1000; decide), ?_⟩
    refine ⟨_, rfl, p, _, dx, _, rfl, upd_same, T.c_Match, T.n_Match_made, (by show 3 < 1000; decide), ?_⟩
    refine ⟨_, rfl, p, _, dx, _, rfl, upd_same, T.c_Match, T.n_Match_replied, (by show 4 < 1000; decide), ?_⟩
    refine ⟨_, rfl, p, _, dx, _, rfl, upd_same, T.c_Match, T.n_Match_result, (by show 5 < 1000; decide), ?_⟩
    rw [upd_upd, upd_upd, upd_upd, upd_upd, upd_upd]
    exact q
/-! ### take_reply, result_at_end -/
def sp_take_reply : Sp := fun vs H Q _ => ∃ (m dx ra rp mv : Addr) (side made rd res : Nat) (rs ms : List Nat), vs = [.ref m, .ref mv] ∧ MaAt K H m dx side ra rp made rd res ∧ H rp = some (.lst (IL rs)) ∧ H mv = some (.lst (IL ms)) ∧ rd ≤ rs.length ∧ (rd = rs.length → RetV .non H Q) ∧ ∀ x, rs[rd]? = some x → ∀ H', Off1 m H H' → MaAt K H' m dx side ra rp made (rd + 1) res → Q (if ms.contains x = true then .int (x : Nat) else .non) H'
abbrev s_take_reply : Stmt := top 70
abbrev n_take_reply : List Str := ["played", "moves", "move"]
theorem sc_take_reply : FnScope n_take_reply ["played", "moves"] (defScope s_take_reply) := ⟨rfl, rfl, rfl, by decide +kernel, rfl, by decide +kernel, by decide +kernel⟩
theorem ok_take_reply (T : Env K mg) : Cal P w K mg base CX0 1 "take_reply" (sp_take_reply (K := K)) := by
  refine T.d_take_reply.cal sc_take_reply (fun _ _ _ _ _ _ us hl => match us, hl with | [_, _], _ => rfl) (fun vs H Q E h => ?_) (Body0.by fun f cdv A outer s H vs Q E hr h => ⟨_, (pss_cons (ps_if (pt_cmpR op_eq (pe_fld (pv 0) rfl) (pe_callB call_len_seq (by rfl) T.f_len PySem.boot_len (pa_cons (pe_fld (pv 0) rfl) pa_nil)) (nomark _)) (pss_one (ps_ret pe_non)) pss_nil) (pss_cons (ps_set (i := 2) sc_take_reply.nd rfl (Or.inl rfl) (pe_ix ix_list (pe_fld (pv 0) rfl) (pe_fld (pv 0) rfl) (fun _ _ => rfl))) (pss_cons (ps_fld (pv 0) (pe_op op_add (pe_fld (pv 0) rfl) pe_int) rfl) (pss_one (ps_ret (pe_ifExp (pt_cmpR op_in_seq (pv 2) (pv 1) rfl) (pv 2) pe_non)))))), ?_⟩)
  · obtain ⟨m, dx, ra, rp, mv, side, made, rd, res, rs, ms, rfl, _⟩ := h
    rfl
  · obtain ⟨m, dx, ra, rp, mv, side, made, rd, res, rs, ms, rfl, hm, hrp, hmv, hrd, q1, q2⟩ := h
    refine q_when (b := decide (rd = rs.length)) (et_is (et_test (ev_op (ev_fld (ev_var rfl) hm T.c_Match T.n_Match_replied rfl) (ev_lenS (K := K) (ev_fld (ev_var rfl) hm T.c_Match T.n_Match_replies rfl) (sq_of hrp)) (rv_eq rfl))) (by rw [IL_len, dec_nat])) (fun hb H1 e1 => ?_) (fun hb H1 e1 => ?_)
    · rw [decide_eq_true_eq] at hb
      exact s_ret ev_c fun H2 e2 => q1 hb H2 (e1.trans e2)
    · rw [decide_eq_false_iff_not] at hb
      obtain ⟨x, hx⟩ : ∃ x, rs[rd]? = some x := ⟨_, List.getElem?_eq_getElem (by omega)⟩
      refine q_asg (ev_op (ev_fld (ev_var rfl) (e1 _ _ hm) T.c_Match T.n_Match_replies rfl) (ev_fld (ev_var rfl) (e1 _ _ hm) T.c_Match T.n_Match_replied rfl) (rv_ixL (K := K) (sq_of (e1 _ _ hrp)) (atI_IL hx))) fun H2 e2 => ?_
      have e12 := e1.trans e2
      refine q_fld (C := CA K "Match") (v := .int ((rd + 1 : Nat) : Int)) (ev_is (ev_op (ev_fld (ev_var rfl) (e12 _ _ hm) T.c_Match T.n_Match_replied rfl) ev_c rv_I0) (by push_cast; rfl)) (ev_var rfl) (e12 _ _ hm) T.c_Match T.n_Match_replied (by show 6 < 1000; decide) fun H3 e3 => ?_
      have e13 := e12.trans e3
      have hm3 : MaAt K (upd H3 m (.ins (CA K "Match") dx (putF "replied" (.int ((rd + 1 : Nat) : Int)) (mF (.int (side : Nat)) (.ref ra) (.ref rp) (.int (made : Nat)) (.int (rd : Nat)) (.int (res : Nat)))))) m dx side ra rp made (rd + 1) res := upd_same
      have nmv : mv ≠ m := ne_of hmv hm (by intro z; cases z)
      have hmv3 := (upd_ne (o := .ins (CA K "Match") dx (putF "replied" (.int ((rd + 1 : Nat) : Int)) (mF (.int (side : Nat)) (.ref ra) (.ref rp) (.int (made : Nat)) (.int (rd : Nat)) (.int (res : Nat))))) nmv).trans (e13 _ _ hmv)
      refine s_ret (v := if ms.contains x = true then .int (x : Nat) else .non) (ev_if (b := ms.contains x) (et_is (et_test (ev_op (ev_var rfl) (ev_var rfl) (rv_isL (K := K) (sq_of hmv3) rfl (flat_IL ms)))) (inV_IL x ms)) (fun hb => by rw [if_pos hb]; exact ev_var rfl) (fun hb => by rw [hb, if_neg Bool.false_ne_true]; exact ev_c)) fun H4 e4 => q2 x hx H4 (fun a o ha na => e4 _ _ ((upd_ne na).trans (e13 _ _ ha))) (e4 _ _ hm3)
def sp_result_at_end : Sp := fun vs H Q _ => ∃ (ga m dx ra rp : Addr) (g : Lm.Game) (side made rd res : Nat) (p : Lm.Pos), vs = [.ref ga, .ref m] ∧ GAt K H ga g ∧ Fit g ∧ MaAt K H m dx side ra rp made rd res ∧ H ra = some (.lst (IL (LmCalls.posNums p))) ∧ Lm.rightPos g p = true ∧ RetV (.int (resEnd side p (endOut g p) : Nat)) H Q
abbrev s_result_at_end : Stmt := top 71
abbrev n_result_at_end : List Str := ["game", "played", "outcome"]
theorem sc_result_at_end : FnScope n_result_at_end ["game", "played"] (defScope s_result_at_end) := ⟨rfl, rfl, rfl, by decide +kernel, rfl, by decide +kernel, by decide +kernel⟩
theorem ok_result_at_end (T : Env K mg) : Cal P w K mg base CX0 4 "result_at_end" (sp_result_at_end (K := K)) := by
  refine T.d_result_at_end.cal sc_result_at_end (fun _ _ _ _ _ _ us hl => match us, hl with | [_, _], _ => rfl) (fun vs H Q E h => ?_) (Body0.by fun f cdv A outer s H vs Q E hr h => ⟨_, (pss_cons (ps_set (i := 2) sc_result_at_end.nd rfl (Or.inl rfl) (pe_c (ok_end_outcome T) hr (by decide) (by rfl) pass0 (pa_cons (pv 0) (pa_cons (pe_fld (pv 1) rfl) pa_nil)))) (pss_cons (ps_if (PW.pt (pw_or (pt_cmpR op_eq (pv 2) (pe_gv (by rfl) T.v_DRAW) (nomark _)) (pw_or1 (pt_cmpR op_eq (pe_ix ix_list (pe_fld (pv 1) rfl) (pe_un un_neg pe_int) (fun _ _ => rfl)) (pe_fld (pv 1) rfl) (nomark _))))) (pss_one (ps_ret (pv 2))) pss_nil) (pss_one (ps_ret (pe_ifExp (pt_cmpR op_eq (pv 2) (pe_gv (by rfl) T.v_WIN) (nomark _)) (pe_gv (by rfl) T.v_LOSS) (pe_gv (by rfl) T.v_WIN)))))), ?_⟩)
  · obtain ⟨ga, m, dx, ra, rp, g, side, made, rd, res, p, rfl, _⟩ := h
    rfl
  · obtain ⟨ga, m, dx, ra, rp, g, side, made, rd, res, p, rfl, hG, F, hm, hra, hR, q⟩ := h
    obtain ⟨hl, hx, hon, hnd⟩ := right_iff.mp hR
    refine q_asg (ev_callR (v := .int (endOut g p : Nat)) (ea_cons (ev_var rfl) (ea_cons (ev_fld (ev_var rfl) hm T.c_Match T.n_Match_row rfl) ea_nil)) fun H1 e1 Q' q' => ⟨ga, ra, g, p.at_, p.side, rfl, GAt.mono _ _ e1 hG, F, e1 _ _ hra, hl, hx, q'⟩) fun H1 e1 => ?_
    generalize endOut g p = v at *
    unfold resEnd at q
    refine q_when (b := decide (v = 0) || decide (p.side = side)) (et_or (et_is (et_test (ev_op (ev_var rfl) ev_c (rv_eq rfl))) (dec_nat (b := 0))) (fun _ => et_is (et_test (ev_op (ev_op (ev_fld (ev_var rfl) (e1 _ _ hm) T.c_Match T.n_Match_row rfl) (ev_un ev_c ru_neg) (rv_ixL (K := K) (sq_of (e1 _ _ hra)) (atI_end p.at_ p.side))) (ev_fld (ev_var rfl) (e1 _ _ hm) T.c_Match T.n_Match_side rfl) (rv_eq rfl))) dec_nat)) (fun hb H2 e2 => ?_) (fun hb H2 e2 => ?_)
    · rw [Bool.or_eq_true, decide_eq_true_eq, decide_eq_true_eq] at hb
      rw [if_pos hb] at q
      exact s_ret (ev_var rfl) fun H3 e3 => q H3 ((e1.trans e2).trans e3)
    · have hb' : ¬ (v = 0 ∨ p.side = side) := fun z => by
        rw [Bool.or_eq_false_iff, decide_eq_false_iff_not, decide_eq_false_iff_not] at hb
        exact z.elim hb.1 hb.2
      rw [if_neg hb'] at q
      refine s_ret (ev_if (b := decide (v = 1)) (et_is (et_test (ev_op (ev_var rfl) ev_c (rv_eq rfl))) (dec_nat (b := 1))) (fun hc => ?_) (fun hc => ?_)) fun H3 e3 => q H3 ((e1.trans e2).trans e3)
      · rw [if_pos (of_decide_eq_true hc)]
        exact ev_c
      · rw [if_neg (of_decide_eq_false hc)]
        exact ev_c
/-! ### play_match -/
theorem drop_at {α : Type} {l : List α} {i : Nat} {x : α} (h : l[i]? = some x) : l.drop i = x :: l.drop (i + 1) := by
  obtain ⟨hi, hv⟩ := List.getElem?_eq_some_iff.mp h
  rw [List.drop_eq_getElem_cons hi, hv]
def sp_play_match : Sp := fun vs H Q E => ∃ (s ga m dx ra rp : Addr) (wk : Lm.Work) (B : Hp) (side most : Nat) (p : Lm.Pos) (rs : List Nat), vs = [.ref s, .ref m, .int (most : Nat)] ∧ Ex B H ∧ B m = none ∧ Svd K B s ga wk ∧ MaAt K H m dx side ra rp 0 0 0 ∧ B ra = some (.lst (IL (LmCalls.posNums p))) ∧ B rp = some (.lst (IL rs)) ∧ Lm.rightPos wk.game p = true ∧
  ∀ H' ra' rd, Ex B H' → MaAt K H' m dx side ra' rp (LmCalls.Work.play wk side most p rs 0).2.1 rd (LmCalls.Work.play wk side most p rs 0).1 → H' ra' = some (.lst (IL (LmCalls.posNums (LmCalls.Work.play wk side most p rs 0).2.2))) → Q .non H'
abbrev s_play_match : Stmt := top 69
abbrev n_play_match : List Str := ["solving", "played", "most", "game", "moves", "move"]
theorem sc_play_match : FnScope n_play_match ["solving", "played", "most"] (defScope s_play_match) := ⟨rfl, rfl, rfl, by decide +kernel, rfl, by decide +kernel, by decide +kernel⟩
theorem ok_play_match (T : Env K mg) : Cal P w K mg base (L2.CX P w) 5 "play_match" (sp_play_match (K := K)) := by
  refine T.d_play_match.cal sc_play_match (fun _ _ _ _ _ _ us hl => match us, hl with | [_, _, _], _ => rfl) (fun vs H Q E h => ?_) (fun f cdv A outer s H vs Q E hr h => ⟨_, (pss_cons (ps_set (i := 3) sc_play_match.nd rfl (Or.inl rfl) (pe_fld (pv 0) rfl)) (pss_cons (ps_set (i := 4) sc_play_match.nd rfl (Or.inl rfl) (pe_c (ok_moves_of T) hr (by decide) (by rfl) pass0 (pa_cons (pv 3) (pa_cons (pe_fld (pv 1) rfl) pa_nil)))) (pss_cons (ps_while (passes_of rfl) (PW.pt (pw_and (pt_cmpR op_gt (pe_callB call_len_seq (by rfl) T.f_len PySem.boot_len (pa_cons (pv 4) pa_nil)) pe_int (nomark _)) (pw_and1 (pt_cmpR op_lt (pe_fld (pv 1) rfl) (pv 2) (nomark _))))) (pss_cons (ps_set (i := 5) sc_play_match.nd rfl (Or.inl rfl) (pe_ifExp (pt_cmpR op_eq (pe_ix ix_list (pe_fld (pv 1) rfl) (pe_un un_neg pe_int) (fun _ _ => rfl)) (pe_fld (pv 1) rfl) (nomark _)) (pe_c (ok_best_move T) hr (by decide) (by rfl) (passes_call (takes_of rfl rfl rfl rfl) (fun _ _ _ _ h => h)) (pa_cons (pv 0) (pa_cons (pe_fld (pv 1) rfl) pa_nil))) (pe_c (ok_take_reply T) hr (by decide) (by rfl) pass0 (pa_cons (pv 1) (pa_cons (pv 4) pa_nil))))) (pss_cons (ps_if (pt_cmpR op_isN (pv 5) pe_non (nomark _)) (pss_cons (ps_fld (pv 1) (pe_gv (by rfl) T.v_NO_REPLY) rfl) (pss_one ps_retN)) pss_nil) (pss_cons (ps_fld (pv 1) (pe_c (ok_row_after T) hr (by decide) (by rfl) pass0 (pa_cons (pe_fld (pv 1) rfl) (pa_cons (pv 5) pa_nil))) rfl) (pss_cons (ps_fld (pv 1) (pe_op op_add (pe_fld (pv 1) rfl) pe_int) rfl) (pss_one (ps_set (i := 4) sc_play_match.nd rfl (Or.inl rfl) (pe_c (ok_moves_of T) hr (by decide) (by rfl) pass0 (pa_cons (pv 3) (pa_cons (pe_fld (pv 1) rfl) pa_nil)))))))))) (pss_one (ps_if (pt_cmpR op_eq (pe_callB call_len_seq (by rfl) T.f_len PySem.boot_len (pa_cons (pv 4) pa_nil)) pe_int (nomark _)) (pss_one (ps_fld (pv 1) (pe_c (ok_result_at_end T) hr (by decide) (by rfl) pass0 (pa_cons (pv 3) (pa_cons (pv 1) pa_nil))) rfl)) pss_nil))))), ?_⟩)
  · obtain ⟨s, ga, m, dx, ra, rp, wk, B, side, most, p, rs, rfl, _⟩ := h
    rfl
  · obtain ⟨s, ga, m, dx, ra, rp, wk, B, side, most, p, rs, rfl, eB, bm, hV, hm, hra, hrp, hR, q⟩ := h
    generalize hy : LmCalls.Work.play wk side most p rs 0 = y at q
    obtain ⟨hS, hG, F, hN, hsv⟩ := hV
    have hS' := hS
    obtain ⟨dxs, kn, ld, KP, LP, S⟩ := hS'
    have hgood := S.good
    have el_mv : ∀ {σ : L2.St} {H1 : Hp} {ra1 : Addr} {md rd res : Nat} {pj : Lm.Pos}, σ[1]? = some (some (.ref m)) → σ[3]? = some (some (.ref ga)) → Ex B H1 → MaAt K H1 m dx side ra1 rp md rd res → H1 ra1 = some (.lst (IL (LmCalls.posNums pj))) → Lm.rightPos wk.game pj = true → EvL (tCall (sp_moves_of (K := K)) [] E0 (tCons (tVar 3) (tCons (tFld K (tVar 1) "row") tNil))) σ H1 (IL (Lm.moves wk.game pj)) := fun {σ H1 ra1 md rd res pj} h1 h3 eB1 hm1 hra1 hRj =>
      el_callR (ea_cons (ev_var h3) (ea_cons (ev_fld (ev_var h1) hm1 T.c_Match T.n_Match_row rfl) ea_nil)) fun H2 e2 Q' q' => ⟨ga, ra1, wk.game, pj.at_, pj.side, rfl, GAt.mono _ _ (eB1.trans e2) hG, F, e2 _ _ hra1, hRj, q'⟩
    refine q_asg (ev_fld (ev_var rfl) (eB _ _ S.obj) T.c_Solving T.n_Solving_game rfl) fun H1 e1 => ?_
    have eB1 := eB.trans e1
    refine q_asgL (el_mv (σ := [some (.ref s), some (.ref m), some (.int (most : Nat)), some (.ref ga), none, none]) rfl rfl eB1 (e1 _ _ hm) (eB1 _ _ hra) hR) fun mv H2 hmv e2 h2 => ?_
    refine q_while (fun n σ H' => ∃ (ra' mv : Addr) (pj : Lm.Pos) (made rd : Nat) (u : Option V), σ = [some (.ref s), some (.ref m), some (.int (most : Nat)), some (.ref ga), some (.ref mv), u] ∧ Ex B H' ∧ MaAt K H' m dx side ra' rp made rd 0 ∧ H' ra' = some (.lst (IL (LmCalls.posNums pj))) ∧ H' mv = some (.lst (IL (Lm.moves wk.game pj))) ∧ Lm.rightPos wk.game pj = true ∧ made + n = most ∧ rd ≤ rs.length ∧ LmCalls.Work.play wk side n pj (rs.drop rd) made = y) most
      ⟨ra, mv, p, 0, 0, none, rfl, eB1.trans e2, (e1.trans e2) _ _ hm, (eB1.trans e2) _ _ hra, h2, hR, by omega, Nat.zero_le _, hy⟩ ?_
    rintro n σ' H' ⟨ra', mv, pj, made, rd, u, rfl, e3, hm3, hra3, hmv3, hRj, hn, hrd, hpl⟩
    have hside := (right_iff.mp hRj).2.1
    refine ⟨decide (¬ Lm.moves wk.game pj = []) && decide (made < most), et_and (et_is (et_test (ev_op (ev_lenS (K := K) (ev_var rfl) (sq_of hmv3)) ev_c rv_I0)) ?_) (fun _ => et_is (et_test (ev_op (ev_fld (ev_var rfl) hm3 T.c_Match T.n_Match_made rfl) (ev_var rfl) rv_I0)) ?_), ?_, ?_⟩
    · rw [IL_len, decide_eq_decide, ← List.length_eq_zero_iff]
      omega
    · rw [decide_eq_decide]
      omega
    · intro hb H4 e4
      rw [Bool.and_eq_true, decide_eq_true_eq, decide_eq_true_eq] at hb
      obtain ⟨hmo, hlt⟩ := hb
      obtain ⟨n', rfl⟩ : ∃ n', n = n' + 1 := ⟨n - 1, by omega⟩
      have hend : Lm.ended wk.game pj = none := (ended_none_iff hside).mpr hmo
      refine ⟨fun σ2 H5 => ∃ (ra' mv : Addr) (pj : Lm.Pos) (made rd : Nat) (u : Option V), σ2 = [some (.ref s), some (.ref m), some (.int (most : Nat)), some (.ref ga), some (.ref mv), u] ∧ Ex B H5 ∧ MaAt K H5 m dx side ra' rp made rd 0 ∧ H5 ra' = some (.lst (IL (LmCalls.posNums pj))) ∧ H5 mv = some (.lst (IL (Lm.moves wk.game pj))) ∧ Lm.rightPos wk.game pj = true ∧ made + n' = most ∧ rd ≤ rs.length ∧ LmCalls.Work.play wk side n' pj (rs.drop rd) made = y, fun σ2 H5 h => ⟨n', by omega, h⟩, ?_⟩
      have e34 := e3.trans e4
      have hm4 := e4 _ _ hm3
      have hra4 := e4 _ _ hra3
      have nra : ra' ≠ m := ne_of hra4 hm4 (by intro z; cases z)
      refine q_asgIf (b := decide (pj.side = side)) (et_is (et_test (ev_op (ev_op (ev_fld (ev_var rfl) hm4 T.c_Match T.n_Match_row rfl) (ev_un ev_c ru_neg) (rv_ixL (K := K) (sq_of hra4) (atI_end pj.at_ pj.side))) (ev_fld (ev_var rfl) hm4 T.c_Match T.n_Match_side rfl) (rv_eq rfl))) dec_nat) (fun hb H5 e5 => ?_) (fun hb H5 e5 => ?_)
      · rw [decide_eq_true_eq] at hb
        obtain ⟨mm, hbest, hmm, _⟩ := best_is hgood hsv hRj hend
        have e35 := e34.trans e5
        refine t_callA (ea_cons (ev_var rfl) (ea_cons (ev_fld (ev_var rfl) (e5 _ _ hm4) T.c_Match T.n_Match_row rfl) ea_nil)) fun H6 e6 => ⟨s, ga, ra', wk, pj, rfl, SolAt.mono _ _ (e35.trans e6) hS, GAt.mono _ _ (e35.trans e6) hG, F, (e5.trans e6) _ _ hra4, hRj, hsv, fun z => absurd z hmo, fun m' _ hb' => ?_⟩
        rw [hbest] at hb'
        have hb' := Option.some.inj hb'
        subst hb'
        intro H7 e7
        have e57 := (e5.trans e6).trans e7
        have hm7 := e57 _ _ hm4
        have hra7 := e57 _ _ hra4
        refine q_when (b := false) (et_is (et_test (ev_isN (ev_var rfl))) rfl) (fun z => Bool.noConfusion z) (fun _ H8 e8 => ?_)
        refine q_fldL (C := CA K "Match") (xs := IL (rowAfter pj.at_ pj.side mm)) (el_callR (ea_cons (ev_fld (ev_var rfl) (e8 _ _ hm7) T.c_Match T.n_Match_row rfl) (ea_cons (ev_var rfl) ea_nil)) fun H9 e9 Q' q' => ⟨ra', pj.at_, pj.side, mm, rfl, (e8.trans e9) _ _ hra7, hside, by have := F.np.2; have := (right_iff.mp hRj).1; omega, move_ok hmm, q'⟩) (ev_var rfl) (e8 _ _ hm7) T.c_Match T.n_Match_row (by show 6 < 1000; decide) fun nr H9 hnr e9 h9 => ?_
        rw [rowAfter_is (g := wk.game) (right_iff.mp hRj).1] at h9
        have nnr : nr ≠ m := (ne_of_none (e8 _ _ hm7) hnr).symm
        refine q_fld (C := CA K "Match") (v := .int ((made + 1 : Nat) : Int)) (ev_is (ev_op (ev_fld (ev_var rfl) upd_same T.c_Match T.n_Match_made rfl) ev_c rv_I0) (by push_cast; rfl)) (ev_var rfl) upd_same T.c_Match T.n_Match_made (by show 6 < 1000; decide) fun H10 e10 => ?_
        have h10 : H10 nr = some (.lst (IL (LmCalls.posNums (Lm.after wk.game pj mm)))) := e10 _ _ ((upd_ne nnr).trans h9)
        have eB10 : Ex B H10 := (Ex.mut ((e34.trans e57).trans (e8.trans e9)) bm).trans e10
        have hRa := right_after hRj hmm
        refine s_asgL (el_mv (H1 := upd H10 m _) (ra1 := nr) (md := made + 1) (rd := rd) (res := 0) (pj := Lm.after wk.game pj mm) rfl rfl (Ex.mut eB10 bm) upd_same ((upd_ne nnr).trans h10) hRa) fun mv' H11 hmv' e11 h11 => ⟨nr, mv', Lm.after wk.game pj mm, made + 1, rd, _, rfl, (Ex.mut eB10 bm).trans e11, e11 _ _ upd_same, e11 _ _ ((upd_ne nnr).trans h10), h11, hRa, by omega, hrd, ?_⟩
        rw [← hpl, play_best hend hb hbest]
      · rw [decide_eq_false_iff_not] at hb
        have e35 := e34.trans e5
        refine t_callA (ea_cons (ev_var rfl) (ea_cons (ev_var rfl) ea_nil)) fun H6 e6 => ⟨m, dx, ra', rp, mv, side, made, rd, 0, rs, Lm.moves wk.game pj, rfl, (e5.trans e6) _ _ hm4, (e35.trans e6) _ _ hrp, ((e4.trans e5).trans e6) _ _ hmv3, hrd, fun hz H7 e7 => ?_, fun x hx H7 f7 hm7 => ?_⟩
        · -- none left
          have hm7 := ((e5.trans e6).trans e7) _ _ hm4
          have eB7 := (e35.trans e6).trans e7
          refine q_when (b := true) (et_is (et_test (ev_isN (ev_var rfl))) rfl) (fun _ H8 e8 => ?_) (fun z => Bool.noConfusion z)
          refine q_fld (C := CA K "Match") (v := .int ((3 : Nat) : Int)) ev_c (ev_var rfl) (e8 _ _ hm7) T.c_Match T.n_Match_result (by show 6 < 1000; decide) fun H9 e9 => ?_
          rw [hz, List.drop_length, play_nil hend hb] at hpl
          subst hpl
          exact q _ ra' rd (Ex.mut ((eB7.trans e8).trans e9) bm) upd_same ((upd_ne nra).trans (((((e5.trans e6).trans e7).trans e8).trans e9) _ _ hra4))
        · have hx' := (List.getElem?_eq_some_iff.mp hx).1
          have eB6 := e35.trans e6
          have hra6 := (e5.trans e6) _ _ hra4
          have eB7 : Ex B H7 := Off1.base eB6 bm f7
          have hra7 : H7 ra' = some (.lst (IL (LmCalls.posNums pj))) := f7 _ _ hra6 nra
          rw [drop_at hx] at hpl
          cases hc : (Lm.moves wk.game pj).contains x with
          | false =>
            rw [if_neg Bool.false_ne_true]
            refine q_when (b := true) (et_is (et_test (ev_isN (ev_var rfl))) rfl) (fun _ H8 e8 => ?_) (fun z => Bool.noConfusion z)
            refine q_fld (C := CA K "Match") (v := .int ((3 : Nat) : Int)) ev_c (ev_var rfl) (e8 _ _ hm7) T.c_Match T.n_Match_result (by show 6 < 1000; decide) fun H9 e9 => ?_
            rw [play_bad hend hb hc] at hpl
            subst hpl
            exact q _ ra' (rd + 1) (Ex.mut ((eB7.trans e8).trans e9) bm) upd_same ((upd_ne nra).trans ((e8.trans e9) _ _ hra7))
          | true =>
            rw [if_pos rfl]
            have hmm : x ∈ Lm.moves wk.game pj := List.contains_iff_mem.mp hc
            refine q_when (b := false) (et_is (et_test (ev_isN (ev_var rfl))) rfl) (fun z => Bool.noConfusion z) (fun _ H8 e8 => ?_)
            refine q_fldL (C := CA K "Match") (xs := IL (rowAfter pj.at_ pj.side x)) (el_callR (ea_cons (ev_fld (ev_var rfl) (e8 _ _ hm7) T.c_Match T.n_Match_row rfl) (ea_cons (ev_var rfl) ea_nil)) fun H9 e9 Q' q' => ⟨ra', pj.at_, pj.side, x, rfl, (e8.trans e9) _ _ hra7, hside, by have := F.np.2; have := (right_iff.mp hRj).1; omega, move_ok hmm, q'⟩) (ev_var rfl) (e8 _ _ hm7) T.c_Match T.n_Match_row (by show 6 < 1000; decide) fun nr H9 hnr e9 h9 => ?_
            rw [rowAfter_is (g := wk.game) (right_iff.mp hRj).1] at h9
            have nnr : nr ≠ m := (ne_of_none (e8 _ _ hm7) hnr).symm
            refine q_fld (C := CA K "Match") (v := .int ((made + 1 : Nat) : Int)) (ev_is (ev_op (ev_fld (ev_var rfl) upd_same T.c_Match T.n_Match_made rfl) ev_c rv_I0) (by push_cast; rfl)) (ev_var rfl) upd_same T.c_Match T.n_Match_made (by show 6 < 1000; decide) fun H10 e10 => ?_
            have h10 : H10 nr = some (.lst (IL (LmCalls.posNums (Lm.after wk.game pj x)))) := e10 _ _ ((upd_ne nnr).trans h9)
            have eB10 : Ex B H10 := (Ex.mut (eB7.trans (e8.trans e9)) bm).trans e10
            have hRa := right_after hRj hmm
            refine s_asgL (el_mv (H1 := upd H10 m _) (ra1 := nr) (md := made + 1) (rd := rd + 1) (res := 0) (pj := Lm.after wk.game pj x) rfl rfl (Ex.mut eB10 bm) upd_same ((upd_ne nnr).trans h10) hRa) fun mv' H11 hmv' e11 h11 => ⟨nr, mv', Lm.after wk.game pj x, made + 1, rd + 1, _, rfl, (Ex.mut eB10 bm).trans e11, e11 _ _ upd_same, e11 _ _ ((upd_ne nnr).trans h10), h11, hRa, by omega, by omega, ?_⟩
            rw [← hpl, play_reply hend hb hc]
    · intro hb H4 e4
      have e34 := e3.trans e4
      have hm4 := e4 _ _ hm3
      have hra4 := e4 _ _ hra3
      have nra : ra' ≠ m := ne_of hra4 hm4 (by intro z; cases z)
      refine s_when (b := decide (Lm.moves wk.game pj = [])) (et_is (et_test (ev_op (ev_lenS (K := K) (ev_var rfl) (sq_of (e4 _ _ hmv3))) ev_c (rv_eq rfl))) (by rw [IL_len, show (V.int 0 : V) = V.int ((0 : Nat) : Int) from rfl, dec_nat, decide_eq_decide, List.length_eq_zero_iff])) (fun hc H5 e5 => ?_) (fun hc H5 e5 => ?_)
      · rw [decide_eq_true_eq] at hc
        rw [play_end (ended_some hside hc), endFor_is (endOut_le _ _)] at hpl
        subst hpl
        refine s_fld (C := CA K "Match") (v := .int (resEnd side pj (endOut wk.game pj) : Nat)) (ev_callR (ea_cons (ev_var rfl) (ea_cons (ev_var rfl) ea_nil)) fun H6 e6 Q' q' => ⟨ga, m, dx, ra', rp, wk.game, side, made, rd, 0, pj, rfl, GAt.mono _ _ ((e34.trans e5).trans e6) hG, F, (e5.trans e6) _ _ hm4, (e5.trans e6) _ _ hra4, hRj, q'⟩) (ev_var rfl) (e5 _ _ hm4) T.c_Match T.n_Match_result (by show 6 < 1000; decide) fun H6 e6 => ?_
        exact q _ ra' rd (Ex.mut ((e34.trans e5).trans e6) bm) upd_same ((upd_ne nra).trans ((e5.trans e6) _ _ hra4))
      · rw [decide_eq_false_iff_not] at hc
        have hn0 : n = 0 := by
          rw [Bool.and_eq_false_iff, decide_eq_false_iff_not, decide_eq_false_iff_not] at hb
          rcases hb with z | z
          · exact absurd hc z
          · omega
        subst hn0
        rw [play_zero ((ended_none_iff hside).mpr hc)] at hpl
        subst hpl
        exact q H5 ra' rd (e34.trans e5) (e5 _ _ hm4) (e5 _ _ hra4)
end
end Es
end

section
set_option Elab.async false
set_option linter.all false
set_option maxRecDepth 100000
set_option maxHeartbeats 4000000
namespace Es
open PySem PySem.Spec PyProof.Rows L2 Evl
section
variable {P : Program} {w : World} {K : Fr} {mg : Str → Option Value} {base : Heap} {H : Hp} {Q : VK} {E : XK} {σ : L2.St} {D : Ends} {tz : TS} {ta tb te t1 : TE} {t : TT}
theorem See.svd {d s ga : Addr} {wk : Lm.Work} (S : See K H d s ga wk) (hsv : wk.solved = true) : Svd K H s ga wk := ⟨S.2.1, S.2.2.1, S.2.2.2.1, S.2.2.2.2, hsv⟩
/-- call.numbers[i] -/
theorem ev_numI (T : Env K mg) {c : Addr} {p n i : Nat} {z : Int} {xs : List Nat} {rws : List (List Nat)} (C : CallAt K H c p xs rws) (hi : xs[i]? = some n) (h : Ev te σ H (.ref c)) (hz : z = (i : Int) := by rfl) : Ev (tOp (rIxL K) (tFld K te "numbers") (tC (.int z))) σ H (.int (n : Nat)) := by
  obtain ⟨dx, ln, lr, rs, h1, h2, _⟩ := C
  exact ev_op (ev_fld h h1 T.c_Call T.n_Call_numbers rfl) ev_c (rv_ixL (K := K) (sq_of h2) (atI_nat' (j := i) hz (by rw [IL_at, hi]; rfl)))
theorem CallAt.rowI {c : Addr} {p : Nat} {xs : List Nat} {r : List Nat} {rws : List (List Nat)} {i : Nat} {z : Int} (C : CallAt K H c p xs rws) (hi : rws[i]? = some r) (T : Env K mg) (hz : z = (i : Int) := by rfl) : ∃ ra, H ra = some (.lst (IL r)) ∧ ∀ {σ : L2.St} {te : TE} {H' : Hp}, Ex H H' → Ev te σ H' (.ref c) → Ev (tOp (rIxL K) (tFld K te "rows") (tC (.int z))) σ H' (.ref ra) := by
  obtain ⟨dx, ln, lr, rs, h1, h2, h3, h4⟩ := C
  obtain ⟨ra, e, h⟩ := h4.get (i := i) (x := r) hi
  refine ⟨ra, h, fun {σ te H'} ex he => ?_⟩
  exact ev_op (ev_fld he (ex _ _ h1) T.c_Call T.n_Call_rows rfl) ev_c (rv_ixL (K := K) (sq_of (ex _ _ h3)) (atI_nat' (j := i) hz (by rw [List.getElem?_map, e]; rfl)))
theorem ev_lenSN {xs : List V} (ha : EvL ta σ H xs) : Ev (tCB (fun xs H Q => ∃ p ys, xs = [.ref p] ∧ (SqL K H p ys ∨ SqT K H p ys) ∧ Q (.int ys.length) H) (tCons ta tNil)) σ H (.int (xs.length : Int)) := ev_lenN ha
theorem s_ret1 (h : te σ H fun v H1 => [v].length ≤ sizeLine ∧ ∀ l, H1 l = none → D.rt (.ref l) (upd H1 l (.lst [v]))) : tRet (tLst (tCons te tNil)) D σ H := h
theorem el_if {b : Bool} {xs : List V} (h : EvT t σ H b) (h1 : b = true → EvL ta σ H xs) (h2 : b = false → EvL tb σ H xs) : EvL (tIf t ta tb) σ H xs := fun H1 e Q q => h H1 e _ fun H2 e2 => by
  cases b with
  | true => exact h1 rfl H2 (e.trans e2) Q fun p H3 hp e3 h3 => q p H3 (fresh_back e2 hp) (e2.trans e3) h3
  | false => exact h2 rfl H2 (e.trans e2) Q fun p H3 hp e3 h3 => q p H3 (fresh_back e2 hp) (e2.trans e3) h3
theorem q_asgC {sp : Sp} {i : Nat} {tk : TA} {vs : List V} (ha : EvA tk σ H vs) (hs : ∀ H1, Ex H H1 → sp (vs ++ []) H1 (fun v H2 => tz D (σ.set i (some v)) H2) E) : tSeq (tAsg (tCall sp [] E tk) (gName i)) tz D σ H := ha H (Ex.refl H) _ hs
theorem q_dropC {sp : Sp} {tk : TA} {vs : List V} (ha : EvA tk σ H vs) (hs : ∀ H1, Ex H H1 → sp (vs ++ []) H1 (fun _ H2 => tz D σ H2) E) : tSeq (tDrop (tCall sp [] E tk)) tz D σ H := ha H (Ex.refl H) _ hs
/-! ### check_outcome, check_solved -/
def sp_check_outcome : Sp := fun vs H Q E => ∃ (n : Nat) (t : Addr) (os : List Nat), vs = [.int (n : Nat), .ref t] ∧ H t = some (.tup (IL os)) ∧ (os.contains n = true → RetV .non H Q) ∧ (os.contains n = false → Refuses K E H [-2])
abbrev s_check_outcome : Stmt := top 128
abbrev n_check_outcome : List Str := ["outcome", "outcomes"]
theorem sc_check_outcome : FnScope n_check_outcome ["outcome", "outcomes"] (defScope s_check_outcome) := ⟨rfl, rfl, rfl, by decide +kernel, rfl, by decide +kernel, by decide +kernel⟩
theorem ok_check_outcome (T : Env K mg) : Cal P w K mg base (L2.CX P w) 4 "check_outcome" (sp_check_outcome (K := K)) := by
  refine T.d_check_outcome.cal sc_check_outcome (fun _ _ _ _ _ _ us hl => match us, hl with | [_, _], _ => rfl) (fun vs H Q E h => ?_) (fun f cdv A outer s H vs Q E hr h => ⟨_, (pss_one (ps_if (pt_cmpR op_notIn_seq (pv 0) (pv 1) rfl) (pss_one (ps_raise rfl (takes_of rfl rfl rfl rfl) (pmkE0 T.e_NoOutcome (er_NoOutcome T) hr (by decide) (by rfl) T.g_NoOutcome))) pss_nil)), ?_⟩)
  · obtain ⟨n, t, os, rfl, _⟩ := h
    rfl
  · obtain ⟨n, t, os, rfl, ht, q1, q2⟩ := h
    refine s_when (b := !os.contains n) (et_is (et_test (ev_op (ev_var rfl) (ev_var rfl) (rv_niT (K := K) (st_of ht) rfl (flat_IL os)))) (by rw [inV_IL])) (fun hb H1 e1 => ?_) (fun hb H1 e1 => ?_)
    · rw [Bool.not_eq_true'] at hb
      exact raise0 T.e_NoOutcome T.r_NoOutcome ((q2 hb).mono e1)
    · rw [Bool.not_eq_false'] at hb
      exact q1 hb H1 e1
theorem q_out {n : Nat} {tk : TA} (os : List Nat) (h1 : Ev t1 σ H (.int (n : Nat))) (h2 : EvA tk σ H (IL os)) (hz : os.length ≤ 100000) (k1 : os.contains n = true → ∀ H1, Ex H H1 → tz D σ H1) (k2 : os.contains n = false → Refuses K E H [-2]) : tSeq (tDrop (tCall (sp_check_outcome (K := K)) [] E (tCons t1 (tCons (tTup tk) tNil)))) tz D σ H :=
  h1 H (Ex.refl H) _ fun H1 e1 => eu_tup h2 (by rw [IL_len]; exact hz) H1 e1 _ fun t H2 ht e2 h2 => ⟨n, t, os, rfl, h2, fun hc H3 e3 => k1 hc H3 ((e1.trans e2).trans e3), fun hc => (k2 hc).mono (e1.trans e2)⟩
theorem q_solved (T : Env K mg) {d s ga : Addr} {wk : Lm.Work} {a : LmCalls.Answer} (S : See K H d s ga wk) (hd : Ev te σ H (.ref d)) (A : Told K H (LmCalls.ifSolved wk a) Q E) (k : wk.solved = true → Told K H a Q E → ∀ H1, Ex H H1 → tz D σ H1) : tSeq (tDrop (tCall (sp_check_solved (K := K)) [] E (tCons (tFld K te "solving") tNil))) tz D σ H := by
  refine q_dropC (ea_cons (ev_sol T S hd) ea_nil) fun H1 e1 => ⟨s, ga, wk, rfl, SolAt.mono _ _ e1 S.2.1, fun hsv H2 e2 => k hsv ?_ H2 (e1.trans e2), fun hsv => ?_⟩
  · unfold LmCalls.ifSolved at A
    rw [if_pos hsv] at A
    exact A
  · unfold LmCalls.ifSolved at A
    rw [hsv, if_neg Bool.false_ne_true] at A
    exact A.no.mono e1
/-! ### tell_many, tell_next, tell_longest -/
theorem has012 {n : Nat} : ([0, 1, 2] : List Nat).contains n = true ↔ ¬ 2 < n := by
  rw [List.contains_iff_mem]
  simp only [List.mem_cons, List.not_mem_nil, or_false]
  omega
theorem has12 {n : Nat} : ([1, 2] : List Nat).contains n = true ↔ n = 1 ∨ n = 2 := by
  rw [List.contains_iff_mem]
  simp only [List.mem_cons, List.not_mem_nil, or_false]
abbrev s_tell_many : Stmt := top 118
abbrev n_tell_many : List Str := ["desk", "call"]
theorem sc_tell_many : FnScope n_tell_many ["desk", "call"] (defScope s_tell_many) := ⟨rfl, rfl, rfl, by decide +kernel, rfl, by decide +kernel, by decide +kernel⟩
theorem ok_tell_many (T : Env K mg) : Cal P w K mg base (L2.CX P w) 6 "tell_many" (spAsk K fun xs rws cl => ∃ a b, xs = [a, b] ∧ cl = .many a b) := by
  refine T.d_tell_many.cal sc_tell_many (fun _ _ _ _ _ _ us hl => match us, hl with | [_, _], _ => rfl) (fun vs H Q E h => ?_) (fun f cdv A outer s H vs Q E hr h => ⟨_, (pss_cons (ps_expr (pe_c (ok_check_outcome T) hr (by decide) (by rfl) (passes_call (takes_of rfl rfl rfl rfl) (fun _ _ _ _ h => h)) (pa_cons (pe_ix ix_list (pe_fld (pv 1) rfl) pe_int (fun _ _ => rfl)) (pa_cons (pe_tup (pa_cons (pe_gv (by rfl) T.v_DRAW) (pa_cons (pe_gv (by rfl) T.v_WIN) (pa_cons (pe_gv (by rfl) T.v_LOSS) pa_nil)))) pa_nil)))) (pss_cons (ps_expr (pe_c (ok_check_solved T) hr (by decide) (by rfl) (passes_call (takes_of rfl rfl rfl rfl) (fun _ _ _ _ h => h)) (pa_cons (pe_fld (pv 0) rfl) pa_nil))) (pss_one (ps_ret (pe_lst (pa_cons (pe_callB call_len_seq (by rfl) T.f_len PySem.boot_len (pa_cons (pe_c (ok_numbers_with T) hr (by decide) (by rfl) pass0 (pa_cons (pe_fld (pv 0) rfl) (pa_cons (pe_ix ix_list (pe_fld (pv 1) rfl) pe_int (fun _ _ => rfl)) (pa_cons (pe_ix ix_list (pe_fld (pv 1) rfl) pe_int (fun _ _ => rfl)) pa_nil)))) pa_nil)) pa_nil)))))), ?_⟩)
  · obtain ⟨d, c, s, ga, wk, p, xs, rws, cl, rfl, _⟩ := h
    rfl
  · obtain ⟨d, c, s, ga, wk, p, xs, rws, cl, rfl, S, C, ⟨wh, ct, rfl, rfl⟩, hro, A⟩ := h
    have A : Told K H (if 2 < wh then LmCalls.no (-2) else LmCalls.ifSolved wk (.nums [(LmCalls.Work.withValue wk wh ct).length])) Q E := A
    refine q_out [0, 1, 2] (ev_numI T C (i := 0) rfl (ev_var rfl)) (ea_cons ev_c (ea_cons ev_c (ea_cons ev_c ea_nil))) (by decide) (fun hc H1 e1 => ?_) (fun hc => ?_)
    · rw [if_neg (has012.mp hc)] at A
      have S1 := See.mono _ _ e1 S
      have C1 := CallAt.mono _ _ e1 C
      refine q_solved T S1 (ev_var rfl) (A.mono e1) fun hsv A H2 e2 => ?_
      have S2 := See.mono _ _ e2 S1
      have C2 := CallAt.mono _ _ e2 C1
      refine s_retL (el_lst (ea_cons (ev_lenSN (K := K) (el_callR (ea_cons (ev_sol T S2 (ev_var rfl)) (ea_cons (ev_numI T C2 (i := 0) rfl (ev_var rfl)) (ea_cons (ev_numI T C2 (i := 1) rfl (ev_var rfl)) ea_nil))) fun H3 e3 Q' q' => ⟨s, ga, wk, wh, ct, rfl, Svd.mono _ _ e3 (S2.svd hsv), q'⟩)) ea_nil) (by show 1 ≤ 100000; decide)) ?_
      rw [IL_len]
      exact (A.mono e2).nums
    · rw [if_pos (Classical.not_not.mp fun z => by rw [has012.mpr z] at hc; cases hc)] at A
      exact A.no
abbrev s_tell_next : Stmt := top 119
abbrev n_tell_next : List Str := ["desk", "call"]
theorem sc_tell_next : FnScope n_tell_next ["desk", "call"] (defScope s_tell_next) := ⟨rfl, rfl, rfl, by decide +kernel, rfl, by decide +kernel, by decide +kernel⟩
theorem ok_tell_next (T : Env K mg) : Cal P w K mg base (L2.CX P w) 6 "tell_next" (spAsk K fun xs rws cl => ∃ a b c, xs = [a, b, c] ∧ cl = .next a b c) := by
  refine T.d_tell_next.cal sc_tell_next (fun _ _ _ _ _ _ us hl => match us, hl with | [_, _], _ => rfl) (fun vs H Q E h => ?_) (fun f cdv A outer s H vs Q E hr h => ⟨_, (pss_cons (ps_expr (pe_c (ok_check_outcome T) hr (by decide) (by rfl) (passes_call (takes_of rfl rfl rfl rfl) (fun _ _ _ _ h => h)) (pa_cons (pe_ix ix_list (pe_fld (pv 1) rfl) pe_int (fun _ _ => rfl)) (pa_cons (pe_tup (pa_cons (pe_gv (by rfl) T.v_DRAW) (pa_cons (pe_gv (by rfl) T.v_WIN) (pa_cons (pe_gv (by rfl) T.v_LOSS) pa_nil)))) pa_nil)))) (pss_cons (ps_expr (pe_c (ok_check_solved T) hr (by decide) (by rfl) (passes_call (takes_of rfl rfl rfl rfl) (fun _ _ _ _ h => h)) (pa_cons (pe_fld (pv 0) rfl) pa_nil))) (pss_one (ps_ret (pe_lst (pa_cons (pe_c (ok_first_with T) hr (by decide) (by rfl) (passes_call (takes_of rfl rfl rfl rfl) (fun _ _ _ _ h => h)) (pa_cons (pe_fld (pv 0) rfl) (pa_cons (pe_ix ix_list (pe_fld (pv 1) rfl) pe_int (fun _ _ => rfl)) (pa_cons (pe_ix ix_list (pe_fld (pv 1) rfl) pe_int (fun _ _ => rfl)) (pa_cons (pe_ix ix_list (pe_fld (pv 1) rfl) pe_int (fun _ _ => rfl)) pa_nil))))) pa_nil)))))), ?_⟩)
  · obtain ⟨d, c, s, ga, wk, p, xs, rws, cl, rfl, _⟩ := h
    rfl
  · obtain ⟨d, c, s, ga, wk, p, xs, rws, cl, rfl, S, C, ⟨fr, wh, ct, rfl, rfl⟩, hro, A⟩ := h
    have A : Told K H (if 2 < wh then LmCalls.no (-2) else LmCalls.ifSolved wk (match (LmCalls.Work.withValue wk wh ct).find? fun (i : Nat) => decide (fr ≤ i) with
      | some i => .nums [i]
      | none => LmCalls.no (-1))) Q E := A
    refine q_out [0, 1, 2] (ev_numI T C (i := 1) rfl (ev_var rfl)) (ea_cons ev_c (ea_cons ev_c (ea_cons ev_c ea_nil))) (by decide) (fun hc H1 e1 => ?_) (fun hc => ?_)
    · rw [if_neg (has012.mp hc)] at A
      have S1 := See.mono _ _ e1 S
      have C1 := CallAt.mono _ _ e1 C
      refine q_solved T S1 (ev_var rfl) (A.mono e1) fun hsv A H2 e2 => ?_
      have S2 := See.mono _ _ e2 S1
      have C2 := CallAt.mono _ _ e2 C1
      refine s_ret1 (t_callA (ea_cons (ev_sol T S2 (ev_var rfl)) (ea_cons (ev_numI T C2 (i := 0) rfl (ev_var rfl)) (ea_cons (ev_numI T C2 (i := 1) rfl (ev_var rfl)) (ea_cons (ev_numI T C2 (i := 2) rfl (ev_var rfl)) ea_nil)))) fun H3 e3 => ⟨s, ga, wk, fr, wh, ct, rfl, Svd.mono _ _ e3 (S2.svd hsv), fun i hi H4 e4 => ⟨by show 1 ≤ sizeLine; decide, fun l hl => ?_⟩, fun hn => ?_⟩)
      · rw [hi] at A
        exact (A.mono (e2.trans (e3.trans e4))).nums l _ hl (Ex.new hl) upd_same
      · rw [hn] at A
        exact A.no.mono (e2.trans e3)
    · rw [if_pos (Classical.not_not.mp fun z => by rw [has012.mpr z] at hc; cases hc)] at A
      exact A.no
abbrev s_tell_longest : Stmt := top 120
abbrev n_tell_longest : List Str := ["desk", "call"]
theorem sc_tell_longest : FnScope n_tell_longest ["desk", "call"] (defScope s_tell_longest) := ⟨rfl, rfl, rfl, by decide +kernel, rfl, by decide +kernel, by decide +kernel⟩
theorem ok_tell_longest (T : Env K mg) : Cal P w K mg base (L2.CX P w) 6 "tell_longest" (spAsk K fun xs rws cl => ∃ a, xs = [a] ∧ cl = .longest a) := by
  refine T.d_tell_longest.cal sc_tell_longest (fun _ _ _ _ _ _ us hl => match us, hl with | [_, _], _ => rfl) (fun vs H Q E h => ?_) (fun f cdv A outer s H vs Q E hr h => ⟨_, (pss_cons (ps_expr (pe_c (ok_check_outcome T) hr (by decide) (by rfl) (passes_call (takes_of rfl rfl rfl rfl) (fun _ _ _ _ h => h)) (pa_cons (pe_ix ix_list (pe_fld (pv 1) rfl) pe_int (fun _ _ => rfl)) (pa_cons (pe_tup (pa_cons (pe_gv (by rfl) T.v_WIN) (pa_cons (pe_gv (by rfl) T.v_LOSS) pa_nil))) pa_nil)))) (pss_cons (ps_expr (pe_c (ok_check_solved T) hr (by decide) (by rfl) (passes_call (takes_of rfl rfl rfl rfl) (fun _ _ _ _ h => h)) (pa_cons (pe_fld (pv 0) rfl) pa_nil))) (pss_one (ps_ret (pe_lst (pa_cons (pe_c (ok_longest_of T) hr (by decide) (by rfl) (passes_call (takes_of rfl rfl rfl rfl) (fun _ _ _ _ h => h)) (pa_cons (pe_fld (pv 0) rfl) (pa_cons (pe_ix ix_list (pe_fld (pv 1) rfl) pe_int (fun _ _ => rfl)) pa_nil))) pa_nil)))))), ?_⟩)
  · obtain ⟨d, c, s, ga, wk, p, xs, rws, cl, rfl, _⟩ := h
    rfl
  · obtain ⟨d, c, s, ga, wk, p, xs, rws, cl, rfl, S, C, ⟨wh, rfl, rfl⟩, hro, A⟩ := h
    have A : Told K H (if wh = 0 ∨ 2 < wh then LmCalls.no (-2) else LmCalls.ifSolved wk (match LmCalls.Work.greatest wk wh with
      | some n => .nums [n]
      | none => LmCalls.no (-1))) Q E := A
    refine q_out [1, 2] (ev_numI T C (i := 0) rfl (ev_var rfl)) (ea_cons ev_c (ea_cons ev_c ea_nil)) (by decide) (fun hc H1 e1 => ?_) (fun hc => ?_)
    · have hw := has12.mp hc
      rw [if_neg (by omega)] at A
      have S1 := See.mono _ _ e1 S
      have C1 := CallAt.mono _ _ e1 C
      refine q_solved T S1 (ev_var rfl) (A.mono e1) fun hsv A H2 e2 => ?_
      have S2 := See.mono _ _ e2 S1
      have C2 := CallAt.mono _ _ e2 C1
      refine s_ret1 (t_callA (ea_cons (ev_sol T S2 (ev_var rfl)) (ea_cons (ev_numI T C2 (i := 0) rfl (ev_var rfl)) ea_nil)) fun H3 e3 => ⟨s, ga, wk, wh, rfl, Svd.mono _ _ e3 (S2.svd hsv), hw, fun m hm H4 e4 => ⟨by show 1 ≤ sizeLine; decide, fun l hl => ?_⟩, fun hn => ?_⟩)
      · rw [hm] at A
        exact (A.mono (e2.trans (e3.trans e4))).nums l _ hl (Ex.new hl) upd_same
      · rw [hn] at A
        exact A.no.mono (e2.trans e3)
    · have hw : ¬ (wh = 1 ∨ wh = 2) := fun z => by rw [has12.mpr z] at hc; cases hc
      rw [if_pos (by omega)] at A
      exact A.no
/-! ### tell_turns, tell_least -/
abbrev s_tell_turns : Stmt := top 121
abbrev n_tell_turns : List Str := ["desk", "call"]
theorem sc_tell_turns : FnScope n_tell_turns ["desk", "call"] (defScope s_tell_turns) := ⟨rfl, rfl, rfl, by decide +kernel, rfl, by decide +kernel, by decide +kernel⟩
theorem ok_tell_turns (T : Env K mg) : Cal P w K mg base CX0 9 "tell_turns" (spAsk K fun xs rws cl => cl = .turns) := by
  refine T.d_tell_turns.cal sc_tell_turns (fun _ _ _ _ _ _ us hl => match us, hl with | [_, _], _ => rfl) (fun vs H Q E h => ?_) (Body0.by fun f cdv A outer s H vs Q E hr h => ⟨_, (pss_one (ps_ret (pe_lst (pa_cons (pe_c (ok_turns_sum T) hr (by decide) (by rfl) pass0 (pa_cons (pe_fld (pe_fld (pv 0) rfl) rfl) pa_nil)) pa_nil)))), ?_⟩)
  · obtain ⟨d, c, s, ga, wk, p, xs, rws, cl, rfl, _⟩ := h
    rfl
  · obtain ⟨d, c, s, ga, wk, p, xs, rws, cl, rfl, S, C, rfl, hro, A⟩ := h
    have A : Told K H (.nums [turnSum wk.game]) Q E := A
    exact s_retL (el_lst (ea_cons (ev_callR (v := .int (turnSum wk.game : Nat)) (ea_cons (ev_game T S (ev_var rfl)) ea_nil) fun H1 e1 Q' q' => ⟨ga, wk.game, rfl, GAt.mono _ _ e1 S.2.2.1, S.2.2.2.1, q'⟩) ea_nil) (by show 1 ≤ 100000; decide)) A.nums
abbrev s_tell_least : Stmt := top 122
abbrev n_tell_least : List Str := ["desk", "call", "row", "turn"]
theorem sc_tell_least : FnScope n_tell_least ["desk", "call"] (defScope s_tell_least) := ⟨rfl, rfl, rfl, by decide +kernel, rfl, by decide +kernel, by decide +kernel⟩
theorem ok_tell_least (T : Env K mg) : Cal P w K mg base (L2.CX P w) 9 "tell_least" (spAsk K (rowCall .least)) := by
  refine T.d_tell_least.cal sc_tell_least (fun _ _ _ _ _ _ us hl => match us, hl with | [_, _], _ => rfl) (fun vs H Q E h => ?_) (fun f cdv A outer s H vs Q E hr h => ⟨_, (pss_cons (ps_set (i := 2) sc_tell_least.nd rfl (Or.inl rfl) (pe_c (ok_right_row T) hr (by decide) (by rfl) (passes_call (takes_of rfl rfl rfl rfl) (fun _ _ _ _ h => h)) (pa_cons (pv 0) (pa_cons (pv 1) pa_nil)))) (pss_cons (ps_set (i := 3) sc_tell_least.nd rfl (Or.inl rfl) (pe_c (ok_least_turn T) hr (by decide) (by rfl) pass0 (pa_cons (pe_fld (pe_fld (pv 0) rfl) rfl) (pa_cons (pv 2) pa_nil)))) (pss_one (ps_ret (pe_op op_cat (pe_lst (pa_cons (pv 3) pa_nil)) (pe_c (ok_counted T) hr (by decide) (by rfl) pass0 (pa_cons (pe_c (ok_turned_row T) hr (by decide) (by rfl) pass0 (pa_cons (pv 3) (pa_cons (pv 2) pa_nil))) pa_nil))))))), ?_⟩)
  · obtain ⟨d, c, s, ga, wk, p, xs, rws, cl, rfl, _⟩ := h
    rfl
  · obtain ⟨d, c, s, ga, wk, p, xs, rws, cl, rfl, S, C, ⟨r, rfl, hl, rfl⟩, hro, A⟩ := h
    have A : Told K H (LmCalls.atPos wk r fun x => .pos [Lm.leastTurn wk.game x] (LmCalls.posNums (Lm.turned (Lm.leastTurn wk.game x) x))) Q E := A
    refine q_row (D := { nx := fun _ H' => Q .non H', rt := Q }) rfl rfl S C hl A fun hR A ra H1 e1 hra => ?_
    have hp := (right_nums hR).2
    have F := S.2.2.2.1
    have hon := (right_iff.mp hp).2.2.1
    have h0 := keeps_zero F.bd (fun k hk => (F.kd k hk).2.1)
    have ht := (mem_turns (leastTurn_is (p := LmCalls.posIn r) h0).2).1
    have hlen : (LmCalls.posIn r).at_.length ≤ 1000 := by have := F.np.2; have := (right_iff.mp hp).1; omega
    refine q_asg (ev_callR (v := .int (Lm.leastTurn wk.game (LmCalls.posIn r) : Nat)) (ea_cons (ev_game T (See.mono _ _ e1 S) (ev_var rfl)) (ea_cons (ev_var rfl) ea_nil)) fun H2 e2 Q' q' => ⟨ga, ra, wk.game, LmCalls.posIn r, rfl, GAt.mono _ _ (e1.trans e2) S.2.2.1, F, e2 _ _ hra, hp, q'⟩) fun H2 e2 => ?_
    obtain ⟨hz, q⟩ := (A.mono (e1.trans e2)).pos
    refine s_retL (el_catLL (el_lst (ea_cons (ev_var rfl) ea_nil) (by show 1 ≤ 100000; decide)) (el_counted (xs := IL ((LmCalls.posIn r).at_.map (tSq (Lm.leastTurn wk.game (LmCalls.posIn r))) ++ [(LmCalls.posIn r).side])) (el_callR (ea_cons (ev_var rfl) (ea_cons (ev_var rfl) ea_nil)) fun H3 e3 Q' q' => ⟨Lm.leastTurn wk.game (LmCalls.posIn r), ra, (LmCalls.posIn r).at_, (LmCalls.posIn r).side, rfl, ht, (e2.trans e3) _ _ hra, fun s hs => on_le (hon s hs), hlen, q'⟩) ?_) ?_) ?_
    · rw [IL_len]
      have hz : 1 + (((LmCalls.posIn r).at_.map (tSq (Lm.leastTurn wk.game (LmCalls.posIn r))) ++ [(LmCalls.posIn r).side]).length + 1) ≤ sizeLine := hz
      omega
    · show 1 + ((IL ((LmCalls.posIn r).at_.map (tSq (Lm.leastTurn wk.game (LmCalls.posIn r))) ++ [(LmCalls.posIn r).side])).length + 1) ≤ sizeLine
      rw [IL_len]
      exact hz
    · rw [IL_len]
      exact q
/-! ### tell_table, tell_judge -/
abbrev s_tell_table : Stmt := top 123
abbrev n_tell_table : List Str := ["desk", "call"]
theorem sc_tell_table : FnScope n_tell_table ["desk", "call"] (defScope s_tell_table) := ⟨rfl, rfl, rfl, by decide +kernel, rfl, by decide +kernel, by decide +kernel⟩
theorem ok_tell_table (T : Env K mg) : Cal P w K mg base (L2.CX P w) 6 "tell_table" (spAsk K fun xs rws cl => cl = .table) := by
  refine T.d_tell_table.cal sc_tell_table (fun _ _ _ _ _ _ us hl => match us, hl with | [_, _], _ => rfl) (fun vs H Q E h => ?_) (fun f cdv A outer s H vs Q E hr h => ⟨_, (pss_cons (ps_expr (pe_c (ok_check_solved T) hr (by decide) (by rfl) (passes_call (takes_of rfl rfl rfl rfl) (fun _ _ _ _ h => h)) (pa_cons (pe_fld (pv 0) rfl) pa_nil))) (pss_one (ps_ret (pe_c (ok_counted T) hr (by decide) (by rfl) pass0 (pa_cons (pe_c (ok_table_of T) hr (by decide) (by rfl) pass0 (pa_cons (pe_fld (pv 0) rfl) pa_nil)) pa_nil))))), ?_⟩)
  · obtain ⟨d, c, s, ga, wk, p, xs, rws, cl, rfl, _⟩ := h
    rfl
  · obtain ⟨d, c, s, ga, wk, p, xs, rws, cl, rfl, S, C, rfl, hro, A⟩ := h
    have A : Told K H (LmCalls.ifSolved wk (.row (LmCalls.Work.table wk))) Q E := A
    refine q_solved T S (ev_var rfl) A fun hsv A H1 e1 => ?_
    obtain ⟨hz, q⟩ := (A.mono e1).row
    have S1 := See.mono _ _ e1 S
    refine s_retL (el_counted (el_callR (ea_cons (ev_sol T S1 (ev_var rfl)) ea_nil) fun H2 e2 Q' q' => ⟨s, ga, wk, rfl, Svd.mono _ _ e2 (S1.svd hsv), q'⟩) (by rw [IL_len]; exact hz)) ?_
    rw [IL_len]
    exact q
abbrev s_tell_judge : Stmt := top 124
abbrev n_tell_judge : List Str := ["desk", "call", "wrong"]
theorem sc_tell_judge : FnScope n_tell_judge ["desk", "call"] (defScope s_tell_judge) := ⟨rfl, rfl, rfl, by decide +kernel, rfl, by decide +kernel, by decide +kernel⟩
theorem ok_tell_judge (T : Env K mg) : Cal P w K mg base (L2.CX P w) 6 "tell_judge" (spAsk K fun xs rws cl => ∃ r, rws = [r] ∧ (∀ b ∈ r, b < 256) ∧ cl = .judge r) := by
  refine T.d_tell_judge.cal sc_tell_judge (fun _ _ _ _ _ _ us hl => match us, hl with | [_, _], _ => rfl) (fun vs H Q E h => ?_) (fun f cdv A outer s H vs Q E hr h => ⟨_, (pss_cons (ps_expr (pe_c (ok_check_solved T) hr (by decide) (by rfl) (passes_call (takes_of rfl rfl rfl rfl) (fun _ _ _ _ h => h)) (pa_cons (pe_fld (pv 0) rfl) pa_nil))) (pss_cons (ps_set (i := 2) sc_tell_judge.nd rfl (Or.inl rfl) (pe_c (ok_first_wrong T) hr (by decide) (by rfl) (passes_call (takes_of rfl rfl rfl rfl) (fun _ _ _ _ h => h)) (pa_cons (pe_fld (pv 0) rfl) (pa_cons (pe_ix ix_list (pe_fld (pv 1) rfl) pe_int (fun _ _ => rfl)) pa_nil)))) (pss_one (ps_ret (pe_ifExp (pt_cmpR op_isN (pv 2) pe_non (nomark _)) (pe_lst (pa_cons pe_int pa_nil)) (pe_lst (pa_cons pe_int (pa_cons (pv 2) pa_nil)))))))), ?_⟩)
  · obtain ⟨d, c, s, ga, wk, p, xs, rws, cl, rfl, _⟩ := h
    rfl
  · obtain ⟨d, c, s, ga, wk, p, xs, rws, cl, rfl, S, C, ⟨r, rfl, hby, rfl⟩, hro, A⟩ := h
    have A : Told K H (LmCalls.ifSolved wk (if r.length ≠ (wk.game.count + 3) / 4 then LmCalls.no (-1) else if r = LmCalls.Work.table wk then .nums [0] else .nums [1, LmCalls.Work.firstWrong wk r])) Q E := A
    refine q_solved T S (ev_var rfl) A fun hsv A H1 e1 => ?_
    have S1 := See.mono _ _ e1 S
    obtain ⟨ra, hra, hrow⟩ := (CallAt.mono _ _ e1 C).rowI (i := 0) rfl T
    refine q_asgC (ea_cons (ev_sol T S1 (ev_var rfl)) (ea_cons (hrow (Ex.refl H1) (ev_var rfl)) ea_nil)) fun H2 e2 => ⟨s, ga, ra, wk, r, rfl, Svd.mono _ _ e2 (S1.svd hsv), e2 _ _ hra, hby, fun hl => ?_, fun hl => ⟨fun hs H3 e3 => ?_, fun hs H3 e3 => ?_⟩⟩
    · rw [if_pos hl] at A
      exact A.no.mono (e1.trans e2)
    · rw [if_neg (fun z => z hl), if_pos hs] at A
      exact s_retL (el_if (b := true) (et_is (et_test (ev_isN (ev_var rfl))) rfl) (fun _ => el_lst (ea_cons ev_c ea_nil) (by show 1 ≤ 100000; decide)) (fun z => Bool.noConfusion z)) (A.mono ((e1.trans e2).trans e3)).nums
    · rw [if_neg (fun z => z hl), if_neg hs] at A
      exact s_retL (el_if (b := false) (et_is (et_test (ev_isN (ev_var rfl))) rfl) (fun z => Bool.noConfusion z) (fun _ => el_lst (ea_cons ev_c (ea_cons (ev_var rfl) ea_nil)) (by show 2 ≤ 100000; decide))) (A.mono ((e1.trans e2).trans e3)).nums
/-! ### tell_match -/
abbrev s_tell_match : Stmt := top 125
abbrev n_tell_match : List Str := ["desk", "call", "row", "played"]
theorem sc_tell_match : FnScope n_tell_match ["desk", "call"] (defScope s_tell_match) := ⟨rfl, rfl, rfl, by decide +kernel, rfl, by decide +kernel, by decide +kernel⟩
theorem ok_tell_match (T : Env K mg) : Cal P w K mg base (L2.CX P w) 6 "tell_match" (spAsk K fun xs rws cl => ∃ a b r q, xs = [a, b] ∧ rws = [r, q] ∧ r.length ≤ 1000 ∧ cl = .match_ a b r q) := by
  refine T.d_tell_match.cal sc_tell_match (fun _ _ _ _ _ _ us hl => match us, hl with | [_, _], _ => rfl) (fun vs H Q E h => ?_) (fun f cdv A outer s H vs Q E hr h => ⟨_, (pss_cons (ps_set (i := 2) sc_tell_match.nd rfl (Or.inl rfl) (pe_c (ok_right_row T) hr (by decide) (by rfl) (passes_call (takes_of rfl rfl rfl rfl) (fun _ _ _ _ h => h)) (pa_cons (pv 0) (pa_cons (pv 1) pa_nil)))) (pss_cons (ps_if (pt_cmpR op_gt (pe_ix ix_list (pe_fld (pv 1) rfl) pe_int (fun _ _ => rfl)) pe_int (nomark _)) (pss_one (ps_raise rfl (takes_of rfl rfl rfl rfl) (pmkE0 T.e_NoSide (er_NoSide T) hr (by decide) (by rfl) T.g_NoSide))) pss_nil) (pss_cons (ps_expr (pe_c (ok_check_solved T) hr (by decide) (by rfl) (passes_call (takes_of rfl rfl rfl rfl) (fun _ _ _ _ h => h)) (pa_cons (pe_fld (pv 0) rfl) pa_nil))) (pss_cons (ps_set (i := 3) sc_tell_match.nd rfl (Or.inl rfl) (pe_mk (mk_Match T) hr (by decide) (by rfl) T.g_Match pass0 (pa_cons (pe_ix ix_list (pe_fld (pv 1) rfl) pe_int (fun _ _ => rfl)) (pa_cons (pv 2) (pa_cons (pe_ix ix_list (pe_fld (pv 1) rfl) pe_int (fun _ _ => rfl)) pa_nil))))) (pss_cons (ps_expr (pe_c (ok_play_match T) hr (by decide) (by rfl) (passes_call (takes_of rfl rfl rfl rfl) (fun _ _ _ _ h => h)) (pa_cons (pe_fld (pv 0) rfl) (pa_cons (pv 3) (pa_cons (pe_ix ix_list (pe_fld (pv 1) rfl) pe_int (fun _ _ => rfl)) pa_nil))))) (pss_one (ps_ret (pe_op op_cat (pe_lst (pa_cons (pe_fld (pv 3) rfl) (pa_cons (pe_fld (pv 3) rfl) pa_nil))) (pe_c (ok_counted T) hr (by decide) (by rfl) pass0 (pa_cons (pe_fld (pv 3) rfl) pa_nil)))))))))), ?_⟩)
  · obtain ⟨d, c, s, ga, wk, p, xs, rws, cl, rfl, _⟩ := h
    rfl
  · obtain ⟨d, c, s, ga, wk, p, xs, rws, cl, rfl, S, C, ⟨sd, mo, r, rq, rfl, rfl, hl, rfl⟩, hro, A⟩ := h
    have A : Told K H (LmCalls.atPos wk r fun x => if 1 < sd then LmCalls.no (-2) else LmCalls.ifSolved wk (.pos [(LmCalls.Work.play wk sd mo x rq 0).1, (LmCalls.Work.play wk sd mo x rq 0).2.1] (LmCalls.posNums (LmCalls.Work.play wk sd mo x rq 0).2.2))) Q E := A
    refine q_row (D := { nx := fun _ H' => Q .non H', rt := Q }) rfl rfl S C hl A fun hR A ra H1 e1 hra => ?_
    have hp := (right_nums hR).2
    have S1 := See.mono _ _ e1 S
    have C1 := CallAt.mono _ _ e1 C
    have A : Told K H (if 1 < sd then LmCalls.no (-2) else LmCalls.ifSolved wk (.pos [(LmCalls.Work.play wk sd mo (LmCalls.posIn r) rq 0).1, (LmCalls.Work.play wk sd mo (LmCalls.posIn r) rq 0).2.1] (LmCalls.posNums (LmCalls.Work.play wk sd mo (LmCalls.posIn r) rq 0).2.2))) Q E := A
    refine q_when (b := decide (1 < sd)) (et_is (et_test (ev_op (ev_numI T C1 (i := 0) rfl (ev_var rfl)) ev_c rv_I0)) (by rw [decide_eq_decide]; omega)) (fun hb H2 e2 => ?_) (fun hb H2 e2 => ?_)
    · rw [if_pos (of_decide_eq_true hb)] at A
      exact raise0 T.e_NoSide T.r_NoSide (A.no.mono (e1.trans e2))
    · rw [if_neg (of_decide_eq_false hb)] at A
      have e12 := e1.trans e2
      refine q_solved T (See.mono _ _ e2 S1) (ev_var rfl) (A.mono e12) fun hsv A H3 e3 => ?_
      have e13 := e12.trans e3
      have S3 := See.mono _ _ e13 S
      have C3 := CallAt.mono _ _ e13 C
      obtain ⟨rp, hrp, hrow⟩ := C3.rowI (i := 1) rfl T
      refine q_asgF (ef_make (fs := mF (.int (sd : Nat)) (.ref ra) (.ref rp) (.int 0) (.int 0) (.int 0)) (ea_cons (ev_numI T C3 (i := 0) rfl (ev_var rfl)) (ea_cons (ev_var rfl) (ea_cons (hrow (Ex.refl H3) (ev_var rfl)) ea_nil))) fun x dx H4 Q' a b => ⟨x, dx, _, _, _, rfl, a, b⟩) fun m H4 hm e4 f4 => ?_
      obtain ⟨dxm, f4⟩ := f4
      have hm4 := (New.get f4).2
      have S4 := See.mono _ _ e4 S3
      have C4 := CallAt.mono _ _ e4 C3
      generalize hy : LmCalls.Work.play wk sd mo (LmCalls.posIn r) rq 0 = y at A
      refine q_dropC (ea_cons (ev_sol T S4 (ev_var rfl)) (ea_cons (ev_var rfl) (ea_cons (ev_numI T C4 (i := 1) rfl (ev_var rfl)) ea_nil))) fun H5 e5 => ⟨s, ga, m, dxm, ra, rp, wk, H3, sd, mo, LmCalls.posIn r, rq, rfl, e4.trans e5, hm, S3.svd hsv, e5 _ _ hm4, (e2.trans e3) _ _ hra, hrp, hp, ?_⟩
      rw [hy]
      intro H6 ra' rd e6 hm6 hra6
      obtain ⟨hz, q⟩ := (A.mono (e3.trans e6)).pos
      refine s_retL (el_catLL (el_lst (ea_cons (ev_fld (ev_var rfl) hm6 T.c_Match T.n_Match_result rfl) (ea_cons (ev_fld (ev_var rfl) hm6 T.c_Match T.n_Match_made rfl) ea_nil)) (by show 2 ≤ 100000; decide)) (el_callR (xs := .int ((LmCalls.posNums y.2.2).length : Nat) :: IL (LmCalls.posNums y.2.2)) (ea_cons (ev_fld (ev_var rfl) hm6 T.c_Match T.n_Match_row rfl) ea_nil) fun H7 e7 Q' q' => ⟨ra', IL (LmCalls.posNums y.2.2), rfl, e7 _ _ hra6, ?_, by rw [IL_len]; exact q'⟩) ?_) q
      · rw [IL_len]
        have hz : 2 + ((LmCalls.posNums y.2.2).length + 1) ≤ sizeLine := hz
        omega
      · show 2 + ((IL (LmCalls.posNums y.2.2)).length + 1) ≤ sizeLine
        rw [IL_len]
        exact hz
end
end Es
end

section
set_option Elab.async false
set_option linter.all false
set_option maxRecDepth 100000
set_option maxHeartbeats 4000000
namespace Es
open PySem PySem.Spec PyProof.Rows L2 Evl
section
variable {P : Program} {w : World} {K : Fr} {mg : Str → Option Value} {base : Heap} {H : Hp} {Q : VK} {E : XK}
/-- what the desk at d holds; B: what belongs to others -/
structure HeldS (K : Fr) (B H : Hp) (d : Addr) (wk : Lm.Work) (dxd s ga dx kn ld : Addr) (KP LP : List (Nat × Addr)) (G0 : Hp) : Prop where
  desk : H d = some (.ins (CA K "Desk") dxd [("solving", .ref s)])
  sol : SolS K H s ga wk dx kn ld KP LP
  bs : B s = none
  bk : B kn = none
  bl : B ld = none
  bq : ∀ q ∈ LP, B q.2 = none
  eg : Ex G0 H
  gb : ∀ a o, G0 a = some o → B a = none
  gd : G0 d = none
  gs : G0 s = none
  gk : G0 kn = none
  gl : G0 ld = none
  gq : ∀ q ∈ LP, G0 q.2 = none
  gam : GAt K G0 ga wk.game
  fit : Fit wk.game
  cnt : wk.game.count ≤ 2048
def Sit (K : Fr) (B H : Hp) (d : Addr) : LmCalls.State → Prop
  | none => B d = none ∧ ∃ dxd, H d = some (.ins (CA K "Desk") dxd [("solving", .non)])
  | some wk => B d = none ∧ ∃ dxd s ga dx kn ld KP LP G0, HeldS K B H d wk dxd s ga dx kn ld KP LP G0
theorem Sit.see {B : Hp} {d : Addr} {wk : Lm.Work} (h : Sit K B H d (some wk)) : ∃ s ga, See K H d s ga wk := by
  obtain ⟨_, dxd, s, ga, dx, kn, ld, KP, LP, G0, h⟩ := h
  exact ⟨s, ga, ⟨dxd, h.desk⟩, ⟨dx, kn, ld, KP, LP, h.sol⟩, GAt.mono _ _ h.eg h.gam, h.fit, h.cnt⟩
theorem Sit.bd {B : Hp} {d : Addr} {st : LmCalls.State} (h : Sit K B H d st) : B d = none := by
  cases st with
  | none => exact h.1
  | some wk => exact h.1
theorem Sit.obj {B : Hp} {d : Addr} {st : LmCalls.State} (h : Sit K B H d st) : ∃ dxd v, H d = some (.ins (CA K "Desk") dxd [("solving", v)]) ∧ (v = .non ↔ st = none) := by
  cases st with
  | none => exact ⟨_, _, h.2.choose_spec, by simp⟩
  | some wk =>
    obtain ⟨_, dxd, s, ga, dx, kn, ld, KP, LP, G0, h⟩ := h
    exact ⟨_, _, h.desk, by simp⟩
theorem Sit.mono {B H' : Hp} {d : Addr} {st : LmCalls.State} (e : Ex H H') (h : Sit K B H d st) : Sit K B H' d st := by
  cases st with
  | none =>
    obtain ⟨a, dxd, b⟩ := h
    exact ⟨a, dxd, e _ _ b⟩
  | some wk =>
    obtain ⟨a, dxd, s, ga, dx, kn, ld, KP, LP, G0, h⟩ := h
    exact ⟨a, dxd, s, ga, dx, kn, ld, KP, LP, G0, ⟨e _ _ h.desk, SolS.mono _ _ e h.sol, h.bs, h.bk, h.bl, h.bq, h.eg.trans e, h.gb, h.gd, h.gs, h.gk, h.gl, h.gq, h.gam, h.fit, h.cnt⟩⟩
/-- one thing of the others changes, new things become theirs -/
theorem Sit.off {B B' H' : Hp} {d m : Addr} {om : HO} {st : LmCalls.State} (eB : Ex B H) (hm : B m = some om) (nt : ∀ xs, om ≠ .tup xs) (f : Off1 m H H') (hB : ∀ a o, B' a = some o → B a = none → H a = none) (h : Sit K B H d st) : Sit K B' H' d st := by
  have keep : ∀ {a o}, H a = some o → B a = none → H' a = some o ∧ B' a = none := fun {a o} ha hb => by
    refine ⟨f a o ha (ne_of_none hm hb).symm, ?_⟩
    cases hc : B' a with
    | none => rfl
    | some u => rw [hB a u hc hb] at ha; cases ha
  cases st with
  | none =>
    obtain ⟨a, dxd, b⟩ := h
    exact ⟨(keep b a).2, dxd, (keep b a).1⟩
  | some wk =>
    obtain ⟨a, dxd, s, ga, dx, kn, ld, KP, LP, G0, h⟩ := h
    have S := h.sol
    have tup : ∀ b xs, H b = some (.tup xs) → H' b = some (.tup xs) := fun b xs q => f b _ q fun z => by
      have := eB _ _ hm
      rw [← z, q] at this
      exact nt xs (Option.some.inj this).symm
    refine ⟨(keep h.desk a).2, dxd, s, ga, dx, kn, ld, KP, LP, G0, ⟨(keep h.desk a).1, ⟨(keep S.obj h.bs).1, (keep S.hkn h.bk).1, (keep S.hld h.bl).1, S.ne, S.kno.mono fun b xs q => tup b xs q, S.l0, fun z => ⟨(S.l1 z).nd, fun i l hm => ⟨((S.l1 z).mem i l hm).1, ((S.l1 z).mem i l hm).2.1, (keep ((S.l1 z).mem i l hm).2.2 (h.bq _ hm)).1⟩, (S.l1 z).all⟩, S.good⟩, (keep S.obj h.bs).2, (keep S.hkn h.bk).2, (keep S.hld h.bl).2, fun q hq => ?_, fun b o hb => (keep (h.eg _ _ hb) (h.gb _ _ hb)).1, fun b o hb => (keep (h.eg _ _ hb) (h.gb _ _ hb)).2, h.gd, h.gs, h.gk, h.gl, h.gq, h.gam, h.fit, h.cnt⟩⟩
    by_cases z : 0 < wk.rounds
    · exact (keep ((S.l1 z).mem q.1 q.2 hq).2.2 (h.bq q hq)).2
    · rw [S.l0 (by omega)] at hq
      cases hq
/-! ### tell_game -/
theorem fresh_sol {ga s dx kn ld : Addr} {g : Lm.Game} (h1 : H s = some (.ins (CA K "Solving") dx (solF ga kn ld 0 false))) (h2 : H kn = some (.dK [])) (h3 : H ld = some (.dK [])) (ne : kn ≠ ld) : SolS K H s ga (Lm.fresh g) dx kn ld [] [] :=
  ⟨h1, h2, h3, ne, ⟨List.nodup_nil, fun i a z => (by cases z), fun i x z => by
    have z : (Lm.emptyTab g).at_ i = some x := z
    rw [empty_at] at z
    cases z⟩, fun _ => rfl, fun z => absurd z (Nat.lt_irrefl 0), fresh_good g⟩
def sp_tell_game : Sp := fun vs H Q E => ∃ (d c : Addr) (B : Hp) (st : LmCalls.State) (p : Nat) (xs r : List Nat), vs = [.ref d, .ref c] ∧ Ex B H ∧ Sit K B H d st ∧ CallAt K B c p xs [r] ∧ (∀ b ∈ r, b < 256) ∧ (∀ e, Lm.gameIn r = .error e → Refuses K E H [-1, (e : Nat)]) ∧ (∀ g, Lm.gameIn r = .ok g → 2048 < g.count → Refuses K E H [-2]) ∧
  (∀ g, Lm.gameIn r = .ok g → ¬ 2048 < g.count → ∀ t H', B t = none → Ex B H' → Sit K B H' d (some (Lm.fresh g)) → H' t = some (.lst []) → Q (.ref t) H')
abbrev s_tell_game : Stmt := top 109
abbrev n_tell_game : List Str := ["desk", "call"]
theorem sc_tell_game : FnScope n_tell_game ["desk", "call"] (defScope s_tell_game) := ⟨rfl, rfl, rfl, by decide +kernel, rfl, by decide +kernel, by decide +kernel⟩
theorem ok_tell_game (T : Env K mg) : Cal P w K mg base (L2.CX P w) 9 "tell_game" (sp_tell_game (K := K)) := by
  refine T.d_tell_game.cal sc_tell_game (fun _ _ _ _ _ _ us hl => match us, hl with | [_, _], _ => rfl) (fun vs H Q E h => ?_) (fun f cdv A outer s H vs Q E hr h => ⟨_, (pss_cons (ps_fld (pv 0) (pe_mk (mk_Solving T) hr (by decide) (by rfl) T.g_Solving pass0 (pa_cons (pe_c (ok_read_game T) hr (by decide) (by rfl) (passes_call (takes_of rfl rfl rfl rfl) (fun _ _ _ _ h => h)) (pa_cons (pe_ix ix_list (pe_fld (pv 1) rfl) pe_int (fun _ _ => rfl)) pa_nil)) pa_nil)) rfl) (pss_one (ps_ret (pe_lst pa_nil)))), ?_⟩)
  · obtain ⟨d, c, B, st, p, xs, r, rfl, _⟩ := h
    rfl
  · obtain ⟨d, c, B, st, p, xs, r, rfl, eB, S, C, hby, q1, q2, q3⟩ := h
    obtain ⟨ra, hra, hrow⟩ := (CallAt.mono _ _ eB C).row0 T
    obtain ⟨dxd, v0, hd, _⟩ := S.obj
    refine t_call (ea_cons (hrow (Ex.refl H) (ev_var rfl)) ea_nil) fun H1 e1 => ⟨ra, r, rfl, e1 _ _ hra, hby, fun e he => (q1 e he).mono e1, fun g hg hc => (q2 g hg hc).mono e1, fun g hg hc F ga H2 hga e2 G s dx hs hdx ne => ?_⟩
    have e3 : Ex H2 (upd (upd H2 dx (.own s)) s (.ins (CA K "Solving") dx [])) := (Ex.new hdx).trans (Ex.new (by rw [upd_ne ne.symm]; exact hs))
    have e12 := e1.trans e2
    refine ⟨s, dx, ga, H2, rfl, upd_same, e3, hs, fun kn ld H3 e4 h1 h2 h3 hk hl nkl => ⟨rfl, _, rfl, d, _, dxd, _, rfl, e4 _ _ (e12 _ _ hd), T.c_Desk, T.n_Desk_solving, (by show 1 < 1000; decide), ?_⟩⟩
    have e14 := e12.trans e4
    have hd3 := e14 _ _ hd
    have nds : d ≠ s := ne_of_none (e12 _ _ hd) hs
    have ndk : d ≠ kn := ne_of_none (e12 _ _ hd) hk
    have ndl : d ≠ ld := ne_of_none (e12 _ _ hd) hl
    have bd := S.bd
    have eB5 : Ex B (upd H3 d (.ins (CA K "Desk") dxd [("solving", .ref s)])) := Ex.mut (eB.trans e14) bd
    have hnew : ∀ a o, New H H2 a = some o → H a = none := fun a o h => (New.get h).1
    have S5 : Sit K B (upd H3 d (.ins (CA K "Desk") dxd [("solving", .ref s)])) d (some (Lm.fresh g)) := by
      refine ⟨bd, dxd, s, ga, dx, kn, ld, [], [], New H H2, ⟨upd_same, fresh_sol ((upd_ne nds.symm).trans h1) ((upd_ne ndk.symm).trans h2) ((upd_ne ndl.symm).trans h3) nkl, fresh_back (eB.trans e12) hs, fresh_back (eB.trans e12) hk, fresh_back (eB.trans e12) hl, fun q hq => (by cases hq), fun a o h => ?_, fun a o h => fresh_back eB (hnew a o h), New.not hd, fresh_back (New.ex _ _) hs, fresh_back (New.ex _ _) hk, fresh_back (New.ex _ _) hl, fun q hq => (by cases hq), ?_, F, Nat.le_of_not_lt hc⟩⟩
      · rw [upd_ne fun z => by rw [z, New.not hd] at h; cases h]
        exact e4 _ _ (New.ex _ _ _ _ h)
      · exact GAt.mono _ _ (New.sub e1) G
    refine s_retL (σ := [some (.ref d), some (.ref c)]) (el_lst ea_nil (Nat.zero_le _)) fun t H6 ht e6 h6 => q3 g hg hc t H6 (fresh_back eB5 ht) (eB5.trans e6) (S5.mono e6) h6
/-! ### tell_solve -/
def sp_tell_solve : Sp := fun vs H Q E => ∃ (d c : Addr) (B : Hp) (wk : Lm.Work) (p n : Nat) (rws : List (List Nat)), vs = [.ref d, .ref c] ∧ Ex B H ∧ Sit K B H d (some wk) ∧ CallAt K B c p [n] rws ∧
  (∀ t H', B t = none → Ex B H' → Sit K B H' d (some (wk.go n)) → H' t = some (.lst [.int (if (wk.go n).solved = true then 0 else 1)]) → Q (.ref t) H')
abbrev s_tell_solve : Stmt := top 110
abbrev n_tell_solve : List Str := ["desk", "call"]
theorem sc_tell_solve : FnScope n_tell_solve ["desk", "call"] (defScope s_tell_solve) := ⟨rfl, rfl, rfl, by decide +kernel, rfl, by decide +kernel, by decide +kernel⟩
theorem ok_tell_solve (T : Env K mg) : Cal P w K mg base CX0 7 "tell_solve" (sp_tell_solve (K := K)) := by
  refine T.d_tell_solve.cal sc_tell_solve (fun _ _ _ _ _ _ us hl => match us, hl with | [_, _], _ => rfl) (fun vs H Q E h => ?_) (Body0.by fun f cdv A outer s H vs Q E hr h => ⟨_, (pss_cons (ps_expr (pe_c (ok_do_rounds T) hr (by decide) (by rfl) pass0 (pa_cons (pe_fld (pv 0) rfl) (pa_cons (pe_ix ix_list (pe_fld (pv 1) rfl) pe_int (fun _ _ => rfl)) pa_nil)))) (pss_one (ps_ret (pe_lst (pa_cons (pe_ifExp (pt_val (pe_fld (pe_fld (pv 0) rfl) rfl)) pe_int pe_int) pa_nil))))), ?_⟩)
  · obtain ⟨d, c, B, wk, p, n, rws, rfl, _⟩ := h
    rfl
  · obtain ⟨d, c, B, wk, p, n, rws, rfl, eB, S, C, q⟩ := h
    have bd := S.bd
    obtain ⟨_, dxd, s, ga, dx, kn, ld, KP, LP, G0, S⟩ := S
    have Z := S.sol
    have nds : d ≠ s := fun z => by
      have := S.desk
      rw [z, Z.obj] at this
      injection this with this
      injection this with _ _ this
      injection this with this _
      injection this with this _
      exact absurd this (by decide)
    have ndk : d ≠ kn := ne_of S.desk Z.hkn (by intro z; cases z)
    have ndl : d ≠ ld := ne_of S.desk Z.hld (by intro z; cases z)
    -- what the rounds leave as it is
    let H0 : Hp := fun a => if a = d then H d else match B a with
      | some o => some o
      | none => G0 a
    have z0d : H0 d = H d := if_pos rfl
    have z0b : ∀ a o, B a = some o → H0 a = some o := fun a o h => by
      show (if a = d then H d else _) = _
      rw [if_neg (fun z => by rw [z, bd] at h; cases h), h]
    have z0g : ∀ a o, G0 a = some o → H0 a = some o := fun a o h => by
      show (if a = d then H d else _) = _
      rw [if_neg (fun z => by rw [z, S.gd] at h; cases h), S.gb a o h]
      exact h
    have z0n : ∀ a, a ≠ d → B a = none → G0 a = none → H0 a = none := fun a n b g => by
      show (if a = d then H d else _) = _
      rw [if_neg n, b]
      exact g
    have e0 : Ex H0 H := fun a o h => by
      have h : (if a = d then H d else match B a with | some o => some o | none => G0 a) = some o := h
      by_cases z : a = d
      · rw [if_pos z] at h; rw [z]; exact h
      · rw [if_neg z] at h
        cases hb : B a with
        | some u => rw [hb] at h; exact eB _ _ (hb.trans h)
        | none => rw [hb] at h; exact S.eg _ _ h
    have hlq : ∀ q ∈ LP, H0 q.2 = none := fun q hq => by
      refine z0n _ ?_ (S.bq q hq) (S.gq q hq)
      by_cases z : 0 < wk.rounds
      · exact ne_of ((Z.l1 z).mem q.1 q.2 hq).2.2 S.desk (by intro z; cases z)
      · rw [Z.l0 (by omega)] at hq
        cases hq
    refine t_call (ea_cons (ev_fld (ev_var rfl) S.desk T.c_Desk T.n_Desk_solving rfl) (ea_cons (ev_num T (CallAt.mono _ _ eB C) (ev_var rfl)) ea_nil)) fun H1 e1 => ⟨s, ga, dx, kn, ld, n, wk, KP, LP, H0, rfl, SolS.mono _ _ e1 Z, e0.trans e1, z0n _ nds.symm S.bs S.gs, z0n _ ndk.symm S.bk S.gk, z0n _ ndl.symm S.bl S.gl, GAt.mono _ _ z0g S.gam, S.fit, S.cnt, hlq, fun H2 KP2 LP2 e2 Z2 hq2 => ?_⟩
    have hd2 : H2 d = some (.ins (CA K "Desk") dxd [("solving", .ref s)]) := e2 _ _ (z0d.trans S.desk)
    have eB2 : Ex B H2 := fun a o h => e2 _ _ (z0b a o h)
    have hgo : (wk.go n).game = wk.game := go_game n wk
    have hq3 : ∀ q ∈ LP2, B q.2 = none ∧ G0 q.2 = none := fun q hq => by
      have := hq2 q hq
      refine ⟨?_, ?_⟩
      · cases hb : B q.2 with
        | none => rfl
        | some u => rw [z0b _ _ hb] at this; cases this
      · cases hb : G0 q.2 with
        | none => rfl
        | some u => rw [z0g _ _ hb] at this; cases this
    have S2 : Sit K B H2 d (some (wk.go n)) := ⟨bd, dxd, s, ga, dx, kn, ld, KP2, LP2, G0, ⟨hd2, Z2, S.bs, S.bk, S.bl, fun q hq => (hq3 q hq).1, fun a o h => e2 _ _ (z0g a o h), S.gb, S.gd, S.gs, S.gk, S.gl, fun q hq => (hq3 q hq).2, by rw [hgo]; exact S.gam, by rw [hgo]; exact S.fit, by rw [hgo]; exact S.cnt⟩⟩
    refine s_retL (el_lst (ea_cons (ev_if (b := (wk.go n).solved) (v := .int (if (wk.go n).solved = true then 0 else 1)) (et_B (ev_fld (ev_fld (ev_var rfl) hd2 T.c_Desk T.n_Desk_solving rfl) Z2.obj T.c_Solving T.n_Solving_solved rfl)) (fun hb => by rw [if_pos hb]; exact ev_c) (fun hb => by rw [hb, if_neg Bool.false_ne_true]; exact ev_c)) ea_nil) (by show 1 ≤ 100000; decide)) fun t H3 ht e3 h3 => q t H3 (fresh_back eB2 ht) (eB2.trans e3) (S2.mono e3) h3
end
end Es
end

section
set_option Elab.async false
set_option linter.all false
set_option maxRecDepth 100000
set_option maxHeartbeats 4000000
namespace Es
open PySem PySem.Spec PyProof.Rows L2 Evl
section
variable {P : Program} {w : World} {K : Fr} {mg : Str → Option Value} {base : Heap} {H : Hp} {Q : VK} {E : XK}
theorem takesN {X : Cx} : Takes X (fun _ _ _ _ => False) := by
  rintro u s' ⟨_, _, _, _, _, _, _, _, _, _, _, _, _, _, _, _, h⟩
  exact h.elim
theorem Cal.holds {j k : Nat} {x : Str} {sp : Sp} {f : Addr} (c : Cal P w K mg base (L2.CX P w) k x sp) (hk : k ≤ j) (hf : mg x = some (.ref f)) : Holds P w K mg base j f sp := by
  obtain ⟨f', fd, ps, a, b, d, F⟩ := c.ex
  rw [hf] at a
  injection a with a
  injection a with a
  subst a
  exact ⟨fd, ps, b, d, F.mono hk⟩
theorem s_seqF {σ : L2.St} {D : Ends} {t tz : TS} (h : t { D with nx := tz D } σ H) : tSeq t tz D σ H := h
/-- a refusal that is caught: its answer is given back -/
theorem ref_ok {D : Ends} {σ : L2.St} {Wout : WX} {l : List Int} (h2 : 2 < σ.length) (fin : ∀ la H', Ex H H' → H' la = some (.lst (l.map V.int)) → D.rt (.ref la) H') : Refuses K (fun cls d H' => wAs K (.ref (CA K "Refusal")) 2 (fun a cls d => tRet (tXr K a cls d (tVar 2))) Wout D cls d σ H') H l := fun C dd la H' rc ex hdd hla =>
  ⟨true, rc.exm, fun _ a ha => ⟨C, rfl, rc, _, by rw [List.getElem?_set_self h2], rfl, rfl, dd, _, _, rfl, hdd, rfl, fin la H' ex hla⟩, fun z => by cases z⟩
/-- what the teller of a call keeps -/
def TellOk (K : Fr) (B H : Hp) (d c : Addr) (st : LmCalls.State) (cl : LmCalls.Call) (sp : Sp) : Prop := ∀ H1, Ex H H1 → ∀ (Q2 : VK) (E2 : XK), (∀ l, (LmCalls.step st cl).2 = .refused l → Refuses K E2 H1 l) → (∀ t tl H', MovesNeutral.told (LmCalls.step st cl).2 = 0 :: tl → Ex B H' → Sit K B H' d (LmCalls.step st cl).1 → H' t = some (.lst (tl.map V.int)) → Q2 (.ref t) H') → sp [.ref d, .ref c] H1 Q2 E2
theorem ask_ok {B : Hp} {d c : Addr} {wk : Lm.Work} {p : Nat} {xs : List Nat} {rws : List (List Nat)} {cl : LmCalls.Call} {R : List Nat → List (List Nat) → LmCalls.Call → Prop} (eB : Ex B H) (S : Sit K B H d (some wk)) (C : CallAt K B c p xs rws) (hR : R xs rws cl) (hro : wk.rounds ≤ 1000) (hst : LmCalls.step (some wk) cl = (some wk, LmCalls.ask wk cl)) (hz : (MovesNeutral.told (LmCalls.step (some wk) cl).2).length ≤ 10000000) : TellOk K B H d c (some wk) cl (spAsk K R) := fun H1 e1 Q2 E2 h1 h2 => by
  obtain ⟨s, ga, hS⟩ := S.see
  rw [hst] at h1 h2 hz
  refine ⟨d, c, s, ga, wk, p, xs, rws, cl, rfl, See.mono _ _ e1 hS, CallAt.mono _ _ (eB.trans e1) C, hR, hro, h1, fun tl htl _ => ⟨?_, fun t H' ht e' h' => h2 t tl H' htl (eB.trans (e1.trans e')) (S.mono (e1.trans e')) h'⟩⟩
  have hz : (MovesNeutral.told (LmCalls.ask wk cl)).length ≤ 10000000 := hz
  rw [htl, List.length_cons] at hz
  omega
theorem game_ok {B : Hp} {d c : Addr} {st : LmCalls.State} {p : Nat} {xs r : List Nat} (eB : Ex B H) (S : Sit K B H d st) (C : CallAt K B c p xs [r]) (hby : ∀ b ∈ r, b < 256) : TellOk K B H d c st (.game r) (sp_tell_game (K := K)) := fun H1 e1 Q2 E2 h1 h2 => by
  refine ⟨d, c, B, st, p, xs, r, rfl, eB.trans e1, S.mono e1, C, hby, fun e he => ?_, fun g hg hc => ?_, fun g hg hc t H' ht e' S' h' => ?_⟩
  · refine h1 _ ?_
    show (match Lm.gameIn r with | .error p => (st, LmCalls.Answer.refused [-1, (p : Int)]) | .ok g => if LmCalls.NUMBERS < g.count then (st, LmCalls.no (-2)) else (some (Lm.fresh g), .done)).2 = _
    rw [he]
  · refine h1 _ ?_
    show (match Lm.gameIn r with | .error p => (st, LmCalls.Answer.refused [-1, (p : Int)]) | .ok g => if LmCalls.NUMBERS < g.count then (st, LmCalls.no (-2)) else (some (Lm.fresh g), .done)).2 = _
    rw [hg]
    show (if LmCalls.NUMBERS < g.count then (st, LmCalls.no (-2)) else (some (Lm.fresh g), LmCalls.Answer.done)).2 = _
    rw [if_pos (show LmCalls.NUMBERS < g.count from hc)]
    rfl
  · have hst : LmCalls.step st (.game r) = (some (Lm.fresh g), .done) := by
      show (match Lm.gameIn r with | .error p => (st, LmCalls.Answer.refused [-1, (p : Int)]) | .ok g => if LmCalls.NUMBERS < g.count then (st, LmCalls.no (-2)) else (some (Lm.fresh g), .done)) = _
      rw [hg]
      show (if LmCalls.NUMBERS < g.count then (st, LmCalls.no (-2)) else (some (Lm.fresh g), LmCalls.Answer.done)) = _
      rw [if_neg (show ¬ LmCalls.NUMBERS < g.count from hc)]
    refine h2 t [] H' ?_ e' ?_ h'
    · rw [hst]; rfl
    · rw [hst]; exact S'
theorem solve_ok {B : Hp} {d c : Addr} {wk : Lm.Work} {p n : Nat} {rws : List (List Nat)} (eB : Ex B H) (S : Sit K B H d (some wk)) (C : CallAt K B c p [n] rws) : TellOk K B H d c (some wk) (.solve n) (sp_tell_solve (K := K)) := fun H1 e1 Q2 E2 h1 h2 =>
  ⟨d, c, B, wk, p, n, rws, rfl, eB.trans e1, S.mono e1, C, fun t H' ht e' S' h' => h2 t [((if (wk.go n).solved = true then 0 else 1 : Nat) : Int)] H' rfl e' S' (by
    rw [h', List.map_singleton]
    cases (wk.go n).solved <;> rfl)⟩
theorem step_refused {st : LmCalls.State} {cl : LmCalls.Call} {l : List Int} (h : (LmCalls.step st cl).2 = .refused l) : (LmCalls.step st cl).1 = st := by
  cases cl with
  | game b =>
    have e : LmCalls.step st (.game b) = (match Lm.gameIn b with | .error p => (st, LmCalls.Answer.refused [-1, (p : Int)]) | .ok g => if LmCalls.NUMBERS < g.count then (st, LmCalls.no (-2)) else (some (Lm.fresh g), .done)) := rfl
    rw [e] at h ⊢
    cases hg : Lm.gameIn b with
    | error p => rfl
    | ok g =>
      rw [hg] at h
      by_cases c : LmCalls.NUMBERS < g.count
      · show (if LmCalls.NUMBERS < g.count then (st, LmCalls.no (-2)) else (some (Lm.fresh g), LmCalls.Answer.done)).1 = st
        rw [if_pos c]
      · have h : (if LmCalls.NUMBERS < g.count then (st, LmCalls.no (-2)) else (some (Lm.fresh g), LmCalls.Answer.done)).2 = .refused l := h
        rw [if_neg c] at h
        cases h
  | solve n =>
    cases st with
    | none => rfl
    | some wk => cases h
  | _ => rfl
def sp_answer_of : Sp := fun vs H Q _ => ∃ (d c : Addr) (B : Hp) (st : LmCalls.State) (p : Nat) (xs : List Nat) (rws : List (List Nat)) (cl : LmCalls.Call), vs = [.ref d, .ref c] ∧ Ex B H ∧ Sit K B H d st ∧ CallAt K B c p xs rws ∧ CallIs p xs rws cl ∧ (∃ z, ((p : Int), z) ∈ d_CALL_FORMS) ∧ (∀ wk, st = some wk → wk.rounds ≤ 1000) ∧ (MovesNeutral.told (LmCalls.step st cl).2).length ≤ 10000000 ∧
  ∀ t H', Ex B H' → Sit K B H' d (LmCalls.step st cl).1 → H' t = some (.lst ((MovesNeutral.told (LmCalls.step st cl).2).map V.int)) → Q (.ref t) H'
abbrev s_answer_of : Stmt := top 130
abbrev n_answer_of : List Str := ["desk", "call", "refusal", "teller", "told"]
theorem sc_answer_of : FnScope n_answer_of ["desk", "call"] (defScope s_answer_of) := ⟨rfl, rfl, rfl, by decide +kernel, rfl, by decide +kernel, by decide +kernel⟩
theorem ok_answer_of (T : Env K mg) : Cal P w K mg base CX0 10 "answer_of" (sp_answer_of (K := K)) := by
  refine T.d_answer_of.cal sc_answer_of (fun _ _ _ _ _ _ us hl => match us, hl with | [_, _], _ => rfl) (fun vs H Q E h => ?_) (Body0.by fun f cdv A outer s H vs Q E hr h => ⟨_, (pss_cons (ps_try_as (i := 2) rfl rfl sc_answer_of.nd rfl rfl ⟨rfl, by decide, .inl T.g_Refusal⟩ takesN (fun W pn xe tk _ => by exact (pss_cons (ps_if (PW.pt (pw_and (pt_cmpR op_isN (pe_fldK K rfl (pv 0) rfl) pe_non (nomark _)) (pw_and1 (pt_cmpR op_ne (pe_fldK K rfl (pv 1) rfl) (pe_gv (by rfl) T.v_GAME) (nomark _))))) (pss_one (ps_raise rfl tk (pmkE0 T.e_NoGame (er_NoGame T) hr (by decide) (by rfl) T.g_NoGame))) pss_nil) (pss_cons (ps_set (i := 3) sc_answer_of.nd rfl (Or.inl rfl) (pe_ix (ix_idictK K rfl) (pe_gv (by rfl) T.v_TELLERS) (pe_fldK K rfl (pv 1) rfl) (fun _ _ => rfl))) (pss_one (ps_set (i := 4) sc_answer_of.nd rfl (Or.inl rfl) (pe_callTK P w K mg base rfl rfl rfl rfl rfl (k := 9) (i := 3) hr (by decide) rfl (Or.inl rfl) tk (pa_cons (pv 0) (pa_cons (pv 1) pa_nil)))))))) (fun a oe cls d pn hz hf => by exact (pss_one (ps_ret (pe_xr hz hf (pv 2)))))) (pss_one (ps_ret (pe_op op_cat (pe_lst (pa_cons pe_int pa_nil)) (pv 4))))), ?_⟩)
  · obtain ⟨d, c, B, st, p, xs, rws, cl, rfl, _⟩ := h
    rfl
  · obtain ⟨d, c, B, st, p, xs, rws, cl, rfl, eB, S, C, hcl, hform, hro, hz, q⟩ := h
    have hc1 := CallAt.mono _ _ eB C
    obtain ⟨dxc, ln, lr, rs, hc1, _⟩ := hc1
    obtain ⟨dxd, v0, hd, hv0⟩ := S.obj
    refine s_seqF ?_
    refine q_when (b := decide (st = none) && decide (p ≠ 1)) (et_is (et_and (et_test (ev_isN (ev_fld (ev_var rfl) hd T.c_Desk T.n_Desk_solving rfl))) (fun _ => et_test (ev_op (ev_fld (ev_var rfl) hc1 T.c_Call T.n_Call_number rfl) ev_c (rv_ne rfl)))) ?_) (fun hb H1 e1 => ?_) (fun hb H1 e1 => ?_)
    · rw [show (V.int 1 : V) = V.int ((1 : Nat) : Int) from rfl, dec_nat, decide_eq_decide.mpr hv0, decide_not]
    · rw [Bool.and_eq_true, decide_eq_true_eq, decide_eq_true_eq] at hb
      obtain ⟨rfl, hp⟩ := hb
      have hst : LmCalls.step none cl = (none, LmCalls.no (-4)) := by
        cases hcl with
        | game _ => exact absurd rfl hp
        | _ => rfl
      refine raise0 T.e_NoGame T.r_NoGame (ref_ok (by show 2 < 5; decide) fun la H' e' h' => q la H' (eB.trans (e1.trans e')) ?_ ?_)
      · rw [hst]; exact S.mono (e1.trans e')
      · rw [hst]; exact h'
    · rw [Bool.and_eq_false_iff, decide_eq_false_iff_not, decide_eq_false_iff_not, Classical.not_not] at hb
      -- the teller
      have tel : ∃ name sp kk, ((p : Int), name) ∈ d_TELLERS ∧ Cal P w K mg base (L2.CX P w) kk name sp ∧ kk ≤ 9 ∧ TellOk K B H d c st cl sp := by
        cases hcl with
        | game hby => exact ⟨"tell_game", _, 9, by decide, ok_tell_game T, by decide, game_ok eB S C hby⟩
        | solve =>
          obtain ⟨wk, rfl⟩ : ∃ wk, st = some wk := Option.ne_none_iff_exists'.mp (hb.resolve_right (by decide))
          exact ⟨"tell_solve", _, 7, by decide, (ok_tell_solve T).up, by decide, solve_ok eB S C⟩
        | index hl =>
          obtain ⟨wk, rfl⟩ : ∃ wk, st = some wk := Option.ne_none_iff_exists'.mp (hb.resolve_right (by decide))
          exact ⟨"tell_index", _, 6, by decide, ok_tell_index T, by decide, ask_ok eB S C ⟨_, rfl, hl, rfl⟩ (hro _ rfl) rfl hz⟩
        | pos =>
          obtain ⟨wk, rfl⟩ : ∃ wk, st = some wk := Option.ne_none_iff_exists'.mp (hb.resolve_right (by decide))
          exact ⟨"tell_pos", _, 6, by decide, ok_tell_pos T, by decide, ask_ok eB S C ⟨_, rfl, rfl⟩ (hro _ rfl) rfl hz⟩
        | value hl =>
          obtain ⟨wk, rfl⟩ : ∃ wk, st = some wk := Option.ne_none_iff_exists'.mp (hb.resolve_right (by decide))
          exact ⟨"tell_value", _, 6, by decide, ok_tell_value T, by decide, ask_ok eB S C ⟨_, rfl, hl, rfl⟩ (hro _ rfl) rfl hz⟩
        | moves hl =>
          obtain ⟨wk, rfl⟩ : ∃ wk, st = some wk := Option.ne_none_iff_exists'.mp (hb.resolve_right (by decide))
          exact ⟨"tell_moves", _, 6, by decide, ok_tell_moves T, by decide, ask_ok eB S C ⟨_, rfl, hl, rfl⟩ (hro _ rfl) rfl hz⟩
        | play hl =>
          obtain ⟨wk, rfl⟩ : ∃ wk, st = some wk := Option.ne_none_iff_exists'.mp (hb.resolve_right (by decide))
          exact ⟨"tell_play", _, 6, by decide, ok_tell_play T, by decide, ask_ok eB S C ⟨_, rfl, _, rfl, hl, rfl⟩ (hro _ rfl) rfl hz⟩
        | best hl =>
          obtain ⟨wk, rfl⟩ : ∃ wk, st = some wk := Option.ne_none_iff_exists'.mp (hb.resolve_right (by decide))
          exact ⟨"tell_best", _, 6, by decide, ok_tell_best T, by decide, ask_ok eB S C ⟨_, rfl, hl, rfl⟩ (hro _ rfl) rfl hz⟩
        | many =>
          obtain ⟨wk, rfl⟩ : ∃ wk, st = some wk := Option.ne_none_iff_exists'.mp (hb.resolve_right (by decide))
          exact ⟨"tell_many", _, 6, by decide, ok_tell_many T, by decide, ask_ok eB S C ⟨_, _, rfl, rfl⟩ (hro _ rfl) rfl hz⟩
        | next =>
          obtain ⟨wk, rfl⟩ : ∃ wk, st = some wk := Option.ne_none_iff_exists'.mp (hb.resolve_right (by decide))
          exact ⟨"tell_next", _, 6, by decide, ok_tell_next T, by decide, ask_ok eB S C ⟨_, _, _, rfl, rfl⟩ (hro _ rfl) rfl hz⟩
        | longest =>
          obtain ⟨wk, rfl⟩ : ∃ wk, st = some wk := Option.ne_none_iff_exists'.mp (hb.resolve_right (by decide))
          exact ⟨"tell_longest", _, 6, by decide, ok_tell_longest T, by decide, ask_ok eB S C ⟨_, rfl, rfl⟩ (hro _ rfl) rfl hz⟩
        | turns =>
          obtain ⟨wk, rfl⟩ : ∃ wk, st = some wk := Option.ne_none_iff_exists'.mp (hb.resolve_right (by decide))
          exact ⟨"tell_turns", _, 9, by decide, (ok_tell_turns T).up, by decide, ask_ok eB S C (R := fun xs rws cl => cl = .turns) rfl (hro _ rfl) rfl hz⟩
        | least hl =>
          obtain ⟨wk, rfl⟩ : ∃ wk, st = some wk := Option.ne_none_iff_exists'.mp (hb.resolve_right (by decide))
          exact ⟨"tell_least", _, 9, by decide, ok_tell_least T, by decide, ask_ok eB S C ⟨_, rfl, hl, rfl⟩ (hro _ rfl) rfl hz⟩
        | table =>
          obtain ⟨wk, rfl⟩ : ∃ wk, st = some wk := Option.ne_none_iff_exists'.mp (hb.resolve_right (by decide))
          exact ⟨"tell_table", _, 6, by decide, ok_tell_table T, by decide, ask_ok eB S C (R := fun xs rws cl => cl = .table) rfl (hro _ rfl) rfl hz⟩
        | judge hby hl =>
          obtain ⟨wk, rfl⟩ : ∃ wk, st = some wk := Option.ne_none_iff_exists'.mp (hb.resolve_right (by decide))
          exact ⟨"tell_judge", _, 6, by decide, ok_tell_judge T, by decide, ask_ok eB S C ⟨_, rfl, hby, rfl⟩ (hro _ rfl) rfl hz⟩
        | match_ hm hl hq =>
          obtain ⟨wk, rfl⟩ : ∃ wk, st = some wk := Option.ne_none_iff_exists'.mp (hb.resolve_right (by decide))
          exact ⟨"tell_match", _, 6, by decide, ok_tell_match T, by decide, ask_ok eB S C ⟨_, _, _, _, rfl, rfl, hl, rfl⟩ (hro _ rfl) rfl hz⟩
        | line hl =>
          obtain ⟨wk, rfl⟩ : ∃ wk, st = some wk := Option.ne_none_iff_exists'.mp (hb.resolve_right (by decide))
          exact ⟨"tell_line", _, 6, by decide, ok_tell_line T, by decide, ask_ok eB S C ⟨_, rfl, hl, rfl⟩ (hro _ rfl) rfl hz⟩
      obtain ⟨name, sp, kk, hin, hcal, hkk, ok⟩ := tel
      obtain ⟨fa, hfa, hkd⟩ := T.k_TELLERS _ hin
      have hkd : KDi K (CA K "TELLERS") ((p : Nat) : Int) (.ref fa) := hkd
      refine q_asg (ev_op ev_c (ev_fld (ev_var rfl) (e1 _ _ hc1) T.c_Call T.n_Call_number rfl) (rv_kd hkd)) fun H2 e2 => ?_
      have e12 := e1.trans e2
      refine ⟨fa, sp, rfl, hcal.holds hkk hfa, _, rfl, _, rfl, ?_⟩
      refine ok H2 e12 _ _ (fun l hl => ?_) (fun t tl H' htl e' S' h' => ?_)
      · have hsame : (LmCalls.step st cl).1 = st := step_refused hl
        refine ref_ok (by show 2 < 5; decide) fun la H' e' h' => q la H' (eB.trans (e12.trans e')) ?_ ?_
        · rw [hsame]; exact S.mono (e12.trans e')
        · rw [hl]; exact h'
      · rw [htl] at hz q
        refine s_retL (σ := [some (.ref d), some (.ref c), none, some (.ref fa), some (.ref t)]) (el_cat (el_lst (ea_cons ev_c ea_nil) (by show 1 ≤ 100000; decide)) (ev_var rfl) h' ?_) fun t2 H3 ht2 e3 h3 => q t2 H3 (e'.trans e3) (S'.mono e3) h3
        rw [List.length_map, sizeLine_eq]
        rw [List.length_cons] at hz
        show 1 + tl.length ≤ _
        omega
end
end Es
end

section
set_option Elab.async false
set_option linter.all false
set_option maxRecDepth 100000
set_option maxHeartbeats 4000000
namespace Es
open PySem PySem.Spec PyProof.Rows L2 Evl
section
variable {P : Program} {w : World} {K : Fr} {mg : Str → Option Value} {base : Heap} {H : Hp} {Q : VK} {E : XK}
def sp_answers (K : Fr) : Sp := fun vs H Q _ => ∃ (lc : Addr) (l : List Nat) (n : Nat) (out : List Int), vs = [.ref lc] ∧ SqL K H lc (IL l) ∧ Plays d_CALL_FORMS l n 0 none out ∧ out.length ≤ 10000000 ∧ ∀ t H', H t = none → Ex H H' → H' t = some (.lst (out.map V.int)) → Q (.ref t) H'
abbrev s_answers : Stmt := top 131
abbrev n_answers : List Str := ["calls", "reader", "desk", "given"]
theorem sc_answers : FnScope n_answers ["calls"] (defScope s_answers) := ⟨rfl, rfl, rfl, by decide +kernel, rfl, by decide +kernel, by decide +kernel⟩
theorem body_answers (T : Env K mg) : BodyBy CX0 P w K mg base n_answers "answers" s_answers 10 (sp_answers K) := by
  refine Body0.by fun f cdv A outer s H vs Q E hr h => ⟨_, (pss_cons (ps_set (i := 1) sc_answers.nd rfl (Or.inl rfl) (pe_mk (mk_CallReader T) hr (by decide) (by rfl) T.g_CallReader pass0 (pa_cons (pv 0) pa_nil))) (pss_cons (ps_set (i := 2) sc_answers.nd rfl (Or.inl rfl) (pe_mk0 (mk_Desk T) hr (by decide) (by rfl) T.g_Desk pass0)) (pss_cons (ps_set (i := 3) sc_answers.nd rfl (Or.inl rfl) (pe_lst pa_nil)) (pss_cons (ps_while PassesOwn.never (pt_not (pt_val (pe_mt0 (me_CallReader_at_end T) T.c_CallReader hr (by decide) (pv 1) pass0))) (pss_one (ps_expr (pe_bm PySem.F.plainAttrs_list PySem.F.slot_list_extend PySem.F.type_list_extend mt_extend (pv 3) (pa_cons (pe_c (ok_counted T) hr (by decide) (by rfl) pass0 (pa_cons (pe_c (ok_answer_of T) hr (by decide) (by rfl) pass0 (pa_cons (pv 2) (pa_cons (pe_mt0 (me_CallReader_take_call T) T.c_CallReader hr (by decide) (pv 1) pass0) pa_nil))) pa_nil)) pa_nil))))) (pss_one (ps_ret (pv 3))))))), ?_⟩
  · obtain ⟨lc, l, n, out, rfl, hlc, hpl, hout, q⟩ := h
    refine q_asgF (ef_make (fs := [("calls", .ref lc), ("place", .int 0)]) (ea_cons (ev_var rfl) ea_nil) fun x dx H1 Q' a b => ⟨x, dx, _, rfl, a, b⟩) fun cr H1 hcr0 e1 f1 => ?_
    obtain ⟨dx, f1⟩ := f1
    have c1 : CrAt K H1 cr dx lc 0 := (New.get f1).2
    refine q_asgF (ef_make (fs := [("solving", .non)]) ea_nil fun x dx H1 Q' a b => ⟨x, dx, rfl, a, b⟩) fun d H2 hd0 e2 f2 => ?_
    obtain ⟨dxd, f2⟩ := f2
    have d2 := (New.get f2).2
    refine q_lnew fun gv hgv => ?_
    have e12 := e1.trans e2
    have hgv0 : H gv = none := fresh_back e12 hgv
    have hd0' : H d = none := fresh_back e1 hd0
    have e3 : Ex H2 (upd H2 gv (.lst [])) := Ex.new hgv
    have ncd : cr ≠ d := ne_of_none c1 hd0
    have ngd : gv ≠ d := (ne_of_none d2 hgv).symm
    have ncg : cr ≠ gv := ne_of_none (e2 _ _ c1) hgv
    refine q_while (fun k σ H' => ∃ (B : Hp) (st : LmCalls.State) (o : Nat) (acc rest : List Int), σ = [some (.ref lc), some (.ref cr), some (.ref d), some (.ref gv)] ∧ Ex B H' ∧ Ex H B ∧ Sit K B H' d st ∧ CrAt K B cr dx lc o ∧ B gv = some (.lst (acc.map V.int)) ∧ Plays d_CALL_FORMS l k o st rest ∧ acc ++ rest = out) n
      ⟨rem (upd H2 gv (.lst [])) d, none, 0, [], out, rfl, rem_ex _ _, fun a u hu => ?_, ⟨rem_same, dxd, e3 _ _ d2⟩, (rem_ne ncd).trans (e3 _ _ (e2 _ _ c1)), (rem_ne ngd).trans upd_same, hpl, rfl⟩ ?_
    · rw [rem_ne (ne_of_none hu hd0')]
      exact e3 _ _ (e12 _ _ hu)
    rintro k σ' H' ⟨B, st, o, acc, rest, rfl, eB, eH, S, cB, gB, pl, happ⟩
    have lB : SqL K B lc (IL l) := ex_l eH hlc
    have c5 : CrAt K H' cr dx lc o := eB _ _ cB
    refine ⟨!decide (o = l.length), et_not (et_B (fun H6 e6 Q' q' => ⟨_, rfl, cr, dx, _, rfl, e6 _ _ c5, rfl, cr, dx, lc, l, o, rfl, e6 _ _ c5, ex_l (eB.trans e6) lB, q'⟩)), ?_, ?_⟩
    · intro hc H6 e6
      rw [Bool.not_eq_true', decide_eq_false_iff_not] at hc
      cases pl with
      | done => exact absurd rfl hc
      | @call n' _ p o' _ xs rws cl rest' tk hcl hrw hro hrest =>
        refine ⟨fun σ' H' => ∃ (B : Hp) (st : LmCalls.State) (o : Nat) (acc rest : List Int), σ' = [some (.ref lc), some (.ref cr), some (.ref d), some (.ref gv)] ∧ Ex B H' ∧ Ex H B ∧ Sit K B H' d st ∧ CrAt K B cr dx lc o ∧ B gv = some (.lst (acc.map V.int)) ∧ Plays d_CALL_FORMS l n' o st rest ∧ acc ++ rest = out, fun σ2 H7 h => ⟨n', by omega, h⟩, ?_⟩
        have eB6 := eB.trans e6
        have c6 := e6 _ _ c5
        have S6 := S.mono e6
        refine ⟨_, rfl, Or.inl ⟨rfl, _, sq_of (eB6 _ _ gB)⟩, _, rfl, _, rfl, cr, dx, _, rfl, c6, rfl, cr, dx, lc, l, o, p, xs, rws, o', rfl, c6, ex_l eB6 lB, tk, hrw, fun c H7 hc7 f7 c7 C7 => ?_⟩
        -- what is the others' then
        let B' : Hp := fun a => if a = cr then H7 cr else match B a with
          | some o => some o
          | none => New H6 H7 a
        have b1 : B' cr = H7 cr := if_pos rfl
        have b2 : ∀ a u, B a = some u → a ≠ cr → B' a = some u := fun a u h n => by
          show (if a = cr then H7 cr else _) = _
          rw [if_neg n, h]
        have b3 : Ex (New H6 H7) B' := fun a u h => by
          obtain ⟨x, y⟩ := New.get h
          show (if a = cr then H7 cr else _) = _
          rw [if_neg (fun z => by rw [z, c6] at x; cases x), fresh_back eB6 x]
          exact h
        have b4 : ∀ a u, B' a = some u → a ≠ cr → B a = none → New H6 H7 a = some u := fun a u h n b => by
          have h : (if a = cr then H7 cr else match B a with | some o => some o | none => New H6 H7 a) = some u := h
          rw [if_neg n, b] at h
          exact h
        have eB7 : Ex B' H7 := fun a u h => by
          by_cases z : a = cr
          · rw [z] at h ⊢; rw [← b1]; exact h
          · cases hb : B a with
            | some v =>
              rw [b2 a v hb z] at h
              have := f7 a v (eB6 _ _ hb) z
              rw [this]
              exact h
            | none => exact (New.get (b4 a u h z hb)).2
        have S7 : Sit K B' H7 d st := Sit.off eB6 cB (by intro xs z; cases z) f7 (fun a u h b => (New.get (b4 a u h (fun z => by rw [z, cB] at b; cases b) b)).1) S6
        have gv7 := b2 _ _ gB (fun z => by rw [z, cB] at gB; cases gB)
        refine ⟨d, c, B', st, p, xs, rws, cl, rfl, eB7, S7, CallAt.mono _ _ b3 C7, hcl, ⟨_, tk.form⟩, hro, ?_, fun t H8 e8 S8 h8 => ?_⟩
        · have := congrArg List.length happ
          unfold toldN at this
          rw [List.length_append, List.length_append, List.length_cons] at this
          omega
        · have hlen : acc.length + ((MovesNeutral.told (LmCalls.step st cl).2).length + 1) ≤ 10000000 := by
            have := congrArg List.length happ
            unfold toldN at this
            rw [List.length_append, List.length_append, List.length_cons] at this
            omega
          refine ⟨t, _, rfl, h8, by rw [List.length_map, sizeLine_eq]; omega, fun t9 H9 ht9 e9 h9 => ?_⟩
          rw [List.length_map] at h9
          have eB9 := e8.trans e9
          refine ⟨gv, t9, acc.map V.int, _, rfl, rfl, eB9 _ _ gv7, h9, by
            rw [List.length_map, List.length_cons, List.length_map, sizeLine_eq]
            omega, ?_⟩
          refine ⟨upd B' gv (.lst ((acc ++ toldN (MovesNeutral.told (LmCalls.step st cl).2)).map V.int)), (LmCalls.step st cl).1, o', acc ++ toldN (MovesNeutral.told (LmCalls.step st cl).2), rest', rfl, ?_, ?_, ?_, ?_, upd_same, hrest, ?_⟩
          · intro a u h
            by_cases z : a = gv
            · rw [z, upd_same] at h ⊢
              rw [← h, List.map_append]
              rfl
            · rw [upd_ne z] at h ⊢
              exact eB9 _ _ h
          · intro a u h
            rw [upd_ne (ne_of_none h hgv0)]
            exact b2 _ _ (eH _ _ h) (ne_of_none h hcr0)
          · refine Sit.off eB9 gv7 (by intro xs z; cases z) (fun a u h n => (upd_ne n).trans h) (fun a u h b => ?_) (S8.mono e9)
            rw [upd_ne (fun z => by rw [z, gv7] at b; cases b), b] at h
            cases h
          · exact (upd_ne ncg).trans (b1.trans c7)
          · rw [List.append_assoc]
            exact happ
    · intro hc H6 e6
      rw [Bool.not_eq_false', decide_eq_true_eq] at hc
      cases pl with
      | done =>
        rw [List.append_nil] at happ
        subst happ
        exact s_ret (ev_var rfl) fun H7 e7 => q gv H7 hgv0 ((eH.trans eB).trans (e6.trans e7)) ((eB.trans (e6.trans e7)) _ _ gB)
      | call tk =>
        have := tk.at_
        rw [hc, List.getElem?_eq_none (Nat.le_refl _)] at this
        cases this
theorem fn_answers (T : Env K mg) {f : Addr} {fd : FuncData} (F : FunD K "answers" "answers" (defArgs s_answers) (defBody s_answers) (defScope s_answers) [] [] f fd) : FnOk P w K mg base CX0 11 f fd ["calls"] (sp_answers K) :=
  F.ok sc_answers (fun vs H Q E h => by
    obtain ⟨lc, l, n, out, rfl, _⟩ := h
    rfl) fun cdv A outer s H vs Q E hr hs => body_answers T f cdv A outer s H vs Q E hr hs
end
end Es
end

section
set_option Elab.async false
set_option linter.all false
set_option maxRecDepth 100000
set_option maxHeartbeats 4000000
namespace Es
open PySem PySem.Spec PyProof.Rows L2 Evl
theorem ecB_ok {K : Fr} {C : Addr} (h : ecB K C = true) : EC K C := by
  simp only [ecB, Bool.and_eq_true, decide_eq_true_eq] at h
  obtain ⟨h1, h2, h3, h4, h5, h6, h7, h8⟩ := h
  exact ⟨h1, h2, h3, He.eqO_ok h4, He.eqO_ok h5, h6, h7, h8⟩
theorem rcB_ok {K : Fr} {C : Addr} (h : rcB K C = true) : RC K C := by
  simp only [rcB, Bool.and_eq_true, decide_eq_true_eq] at h
  exact ⟨h.1, xfB_ok h.2.1, He.eqO_ok h.2.2⟩
theorem erB_ok {K : Fr} {C : Addr} {qual : Str} {st : Stmt} (h : erB K C = true) (d : ∃ fd, FunD K "__init__" qual (defArgs st) (defBody st) (defScope st) [] [] (He.ma K C "__init__") fd) : ErrAt K C qual st := by
  simp only [erB, Bool.and_eq_true, decide_eq_true_eq] at h
  obtain ⟨fd, d⟩ := d
  exact ⟨_, fd, He.eqO_ok h.1, h.2, d⟩
theorem offB_ok {K : Fr} {C : Addr} {m qual : Str} {st : Stmt} (h : offB K C m = true) (d : ∃ fd, FunD K m qual (defArgs st) (defBody st) (defScope st) [] [] (He.ma K C m) fd) : OffAt K C m qual st := by
  unfold offB at h
  rw [Bool.and_eq_true, Bool.and_eq_true] at h
  obtain ⟨h1, h2, h3⟩ := h
  obtain ⟨fd, d⟩ := d
  refine ⟨_, fd, ⟨h1, He.eqO_ok h2⟩, ?_, d⟩
  split at h3
  · rename_i u hu
    rw [decide_eq_true_eq] at h3
    subst h3
    exact ⟨hu, rfl⟩
  · cases h3
theorem tupAt_ok {K : Fr} {t : Addr} {vs : List Int} (h : tupAt K t vs = true) (H : Hp) : SqT K H t (vs.map V.int) := by
  unfold tupAt at h
  cases hl : K.lookup t with
  | none => rw [hl] at h; cases h
  | some o =>
    rw [hl] at h
    obtain ⟨oc, od, dt, osl⟩ := o
    dsimp only at h
    split at h
    · rename_i its n
      simp only [Bool.and_eq_true, decide_eq_true_eq] at h
      obtain ⟨h1, h2, h3⟩ := h
      exact .inr ⟨_, its, n, hl, h1, rfl, h2, He.relAll_ok h3⟩
    · cases h
theorem formsB_ok {K : Fr} {x : Str} {l : List (Int × List Int)} (h : formsB K x l = true) : ∀ p ∈ l, ∃ t, KDi K (CA K x) p.1 (.ref t) ∧ ∀ H, SqT K H t (p.2.map V.int) := fun p hp => by
  have h := List.all_eq_true.mp h p hp
  split at h
  · rename_i t ht
    exact ⟨t, kdAt_ok ht rfl, tupAt_ok h⟩
  · cases h
theorem tellB_ok {K : Fr} {h : Heap} {mg : Str → Option Value} (X : K.In h) (G : h.Ns mainGlobals mg) {x : Str} {l : List (Int × Str)} (hh : tellB K x l = true) : ∀ p ∈ l, ∃ f, mg p.2 = some (.ref f) ∧ KDi K (CA K x) p.1 (.ref f) := fun p hp => by
  have hh := List.all_eq_true.mp hh p hp
  rw [Bool.and_eq_true] at hh
  refine ⟨_, He.glo_ok X G hh.2, ?_⟩
  have h1 := hh.1
  split at h1
  · rename_i t ht
    rw [decide_eq_true_eq] at h1
    subst h1
    exact kdAt_ok ht rfl
  · cases h1
theorem env_of {K : Fr} {h : Heap} {mg : Str → Option Value} (X : K.In h) (G : h.Ns mainGlobals mg) (c : He.SaysD fa fn K) (cx : exB K = true) : Env K mg := by
  have e : ∀ (i : Nat) {f : Fr → Bool}, exL[i]? = some f → f K = true := fun i f hf => List.all_eq_true.mp cx f (List.mem_of_getElem? hf)
  exact {
    f_len := He.free_ok X G (c.fact 0)
    f_set := He.free_ok X G (c.fact 1)
    f_abs := He.free_ok X G (c.fact 2)
    f_list := He.free_ok X G (c.fact 3)
    f_range := He.free_ok X G (c.fact 4)
    f_enumerate := He.free_ok X G (c.fact 5)
    f_max := He.free_ok X G (c.fact 6)
    f_min := He.free_ok X G (c.fact 7)
    f_sum := He.free_ok X G (c.fact 8)
    v_OFF := (let ⟨t, z⟩ := He.int_ok X G (c.fact 9); ⟨_, z, ⟨t, rfl⟩⟩)
    v_PASS := (let ⟨t, z⟩ := He.int_ok X G (c.fact 10); ⟨_, z, ⟨t, rfl⟩⟩)
    v_DRAW := (let ⟨t, z⟩ := He.int_ok X G (c.fact 11); ⟨_, z, ⟨t, rfl⟩⟩)
    v_WIN := (let ⟨t, z⟩ := He.int_ok X G (c.fact 12); ⟨_, z, ⟨t, rfl⟩⟩)
    v_LOSS := (let ⟨t, z⟩ := He.int_ok X G (c.fact 13); ⟨_, z, ⟨t, rfl⟩⟩)
    v_STUCK_OUTCOMES := ⟨_, He.glo_ok X G (c.fact 14), rfl⟩
    t_STUCK_OUTCOMES := fun H => He.tupB_ok (vs := [.int 2, .int 0, .int 1]) (e 0 rfl) H
    v_NO_REPLY := (let ⟨t, z⟩ := He.int_ok X G (c.fact 15); ⟨_, z, ⟨t, rfl⟩⟩)
    v_MOST_NUMBERS := (let ⟨t, z⟩ := He.int_ok X G (c.fact 16); ⟨_, z, ⟨t, rfl⟩⟩)
    v_NO_POSITION := (let ⟨t, z⟩ := He.int_ok X G (c.fact 17); ⟨_, z, ⟨t, rfl⟩⟩)
    v_PER_BYTE := (let ⟨t, z⟩ := He.int_ok X G (c.fact 18); ⟨_, z, ⟨t, rfl⟩⟩)
    v_TURN_COUNT := (let ⟨t, z⟩ := He.int_ok X G (c.fact 19); ⟨_, z, ⟨t, rfl⟩⟩)
    v_LAST := (let ⟨t, z⟩ := He.int_ok X G (c.fact 20); ⟨_, z, ⟨t, rfl⟩⟩)
    v_GAME := (let ⟨t, z⟩ := He.int_ok X G (c.fact 21); ⟨_, z, ⟨t, rfl⟩⟩)
    v_CALL_FORMS := ⟨_, He.glo_ok X G (c.fact 22), rfl⟩
    k_CALL_FORMS := formsB_ok (e 1 rfl)
    v_TELLERS := ⟨_, He.glo_ok X G (c.fact 23), rfl⟩
    k_TELLERS := tellB_ok X G (e 2 rfl)
    g_Pattern := He.glo_ok X G (c.fact 24)
    c_Pattern := He.cls_ok (c.fact 25)
    k_Pattern := ⟨_, (c.def_ 0).choose, He.mkr_ok (c.fact 26), (c.def_ 0).choose_spec⟩
    n_Pattern_df := He.noat_ok (c.fact 27)
    n_Pattern_dr := He.noat_ok (c.fact 28)
    n_Pattern_reach := He.noat_ok (c.fact 29)
    n_Pattern_how := He.noat_ok (c.fact 30)
    g_Kind := He.glo_ok X G (c.fact 31)
    c_Kind := He.cls_ok (c.fact 32)
    k_Kind := ⟨_, (c.def_ 1).choose, He.mkr_ok (c.fact 33), (c.def_ 1).choose_spec⟩
    n_Kind_royal := He.noat_ok (c.fact 34)
    n_Kind_goals := He.noat_ok (c.fact 35)
    n_Kind_patterns := He.noat_ok (c.fact 36)
    g_Piece := He.glo_ok X G (c.fact 37)
    c_Piece := He.cls_ok (c.fact 38)
    k_Piece := ⟨_, (c.def_ 2).choose, He.mkr_ok (c.fact 39), (c.def_ 2).choose_spec⟩
    n_Piece_kind := He.noat_ok (c.fact 40)
    n_Piece_side := He.noat_ok (c.fact 41)
    g_Way := He.glo_ok X G (c.fact 42)
    c_Way := He.cls_ok (c.fact 43)
    k_Way := ⟨_, (c.def_ 3).choose, He.mkr_ok (c.fact 44), (c.def_ 3).choose_spec⟩
    n_Way_how := He.noat_ok (c.fact 45)
    n_Way_squares := He.noat_ok (c.fact 46)
    g_Game := He.glo_ok X G (c.fact 47)
    c_Game := He.cls_ok (c.fact 48)
    k_Game := ⟨_, (c.def_ 4).choose, He.mkr_ok (c.fact 49), (c.def_ 4).choose_spec⟩
    n_Game_stuck := He.noat_ok (c.fact 50)
    n_Game_passing := He.noat_ok (c.fact 51)
    n_Game_board := He.noat_ok (c.fact 52)
    n_Game_kinds := He.noat_ok (c.fact 53)
    n_Game_pieces := He.noat_ok (c.fact 54)
    n_Game_squares := He.noat_ok (c.fact 55)
    n_Game_places := He.noat_ok (c.fact 56)
    n_Game_total := He.noat_ok (c.fact 57)
    n_Game_ways := He.noat_ok (c.fact 58)
    g_Refusal := He.glo_ok X G (c.fact 59)
    e_Refusal := ecB_ok (e 3 rfl)
    r_Refusal := rcB_ok (e 4 rfl)
    i_Refusal := erB_ok (e 5 rfl) (c.def_ 5)
    o_Refusal := offB_ok (e 6 rfl) (c.def_ 5)
    g_NoGame := He.glo_ok X G (c.fact 60)
    e_NoGame := ecB_ok (e 7 rfl)
    r_NoGame := rcB_ok (e 8 rfl)
    i_NoGame := erB_ok (e 9 rfl) (c.def_ 6)
    g_Fault := He.glo_ok X G (c.fact 61)
    e_Fault := ecB_ok (e 10 rfl)
    r_Fault := rcB_ok (e 11 rfl)
    i_Fault := erB_ok (e 12 rfl) (c.def_ 7)
    g_TooLarge := He.glo_ok X G (c.fact 62)
    e_TooLarge := ecB_ok (e 13 rfl)
    r_TooLarge := rcB_ok (e 14 rfl)
    i_TooLarge := erB_ok (e 15 rfl) (c.def_ 8)
    g_NotRight := He.glo_ok X G (c.fact 63)
    e_NotRight := ecB_ok (e 16 rfl)
    r_NotRight := rcB_ok (e 17 rfl)
    i_NotRight := erB_ok (e 18 rfl) (c.def_ 9)
    g_NoOutcome := He.glo_ok X G (c.fact 64)
    e_NoOutcome := ecB_ok (e 19 rfl)
    r_NoOutcome := rcB_ok (e 20 rfl)
    i_NoOutcome := erB_ok (e 21 rfl) (c.def_ 10)
    g_NoSide := He.glo_ok X G (c.fact 65)
    e_NoSide := ecB_ok (e 22 rfl)
    r_NoSide := rcB_ok (e 23 rfl)
    i_NoSide := erB_ok (e 24 rfl) (c.def_ 11)
    g_NotKnown := He.glo_ok X G (c.fact 66)
    e_NotKnown := ecB_ok (e 25 rfl)
    r_NotKnown := rcB_ok (e 26 rfl)
    i_NotKnown := erB_ok (e 27 rfl) (c.def_ 12)
    g_NotSolved := He.glo_ok X G (c.fact 67)
    e_NotSolved := ecB_ok (e 28 rfl)
    r_NotSolved := rcB_ok (e 29 rfl)
    i_NotSolved := erB_ok (e 30 rfl) (c.def_ 13)
    g_NotFound := He.glo_ok X G (c.fact 68)
    e_NotFound := ecB_ok (e 31 rfl)
    r_NotFound := rcB_ok (e 32 rfl)
    i_NotFound := erB_ok (e 33 rfl) (c.def_ 14)
    g_OtherLength := He.glo_ok X G (c.fact 69)
    e_OtherLength := ecB_ok (e 34 rfl)
    r_OtherLength := rcB_ok (e 35 rfl)
    i_OtherLength := erB_ok (e 36 rfl) (c.def_ 15)
    g_NoMove := He.glo_ok X G (c.fact 70)
    e_NoMove := ecB_ok (e 37 rfl)
    r_NoMove := rcB_ok (e 38 rfl)
    i_NoMove := erB_ok (e 39 rfl) (c.def_ 16)
    g_AtEnd := He.glo_ok X G (c.fact 71)
    e_AtEnd := ecB_ok (e 40 rfl)
    r_AtEnd := rcB_ok (e 41 rfl)
    i_AtEnd := erB_ok (e 42 rfl) (c.def_ 17)
    g_Drawn := He.glo_ok X G (c.fact 72)
    e_Drawn := ecB_ok (e 43 rfl)
    r_Drawn := rcB_ok (e 44 rfl)
    i_Drawn := erB_ok (e 45 rfl) (c.def_ 18)
    g_Solving := He.glo_ok X G (c.fact 73)
    c_Solving := He.cls_ok (c.fact 74)
    k_Solving := ⟨_, (c.def_ 19).choose, He.mkr_ok (c.fact 75), (c.def_ 19).choose_spec⟩
    n_Solving_game := He.noat_ok (c.fact 76)
    n_Solving_known := He.noat_ok (c.fact 77)
    n_Solving_leads := He.noat_ok (c.fact 78)
    n_Solving_rounds := He.noat_ok (c.fact 79)
    n_Solving_solved := He.noat_ok (c.fact 80)
    g_Match := He.glo_ok X G (c.fact 81)
    c_Match := He.cls_ok (c.fact 82)
    k_Match := ⟨_, (c.def_ 20).choose, He.mkr_ok (c.fact 83), (c.def_ 20).choose_spec⟩
    n_Match_side := He.noat_ok (c.fact 84)
    n_Match_row := He.noat_ok (c.fact 85)
    n_Match_replies := He.noat_ok (c.fact 86)
    n_Match_made := He.noat_ok (c.fact 87)
    n_Match_replied := He.noat_ok (c.fact 88)
    n_Match_result := He.noat_ok (c.fact 89)
    g_ByteReader := He.glo_ok X G (c.fact 90)
    c_ByteReader := He.cls_ok (c.fact 91)
    k_ByteReader := ⟨_, (c.def_ 21).choose, He.mkr_ok (c.fact 92), (c.def_ 21).choose_spec⟩
    m_ByteReader_need := ⟨_, (c.def_ 22).choose, He.meth_ok (c.fact 93), (c.def_ 22).choose_spec⟩
    m_ByteReader_byte := ⟨_, (c.def_ 23).choose, He.meth_ok (c.fact 94), (c.def_ 23).choose_spec⟩
    m_ByteReader_step := ⟨_, (c.def_ 24).choose, He.meth_ok (c.fact 95), (c.def_ 24).choose_spec⟩
    m_ByteReader_square_set := ⟨_, (c.def_ 25).choose, He.meth_ok (c.fact 96), (c.def_ 25).choose_spec⟩
    m_ByteReader_finish := ⟨_, (c.def_ 26).choose, He.meth_ok (c.fact 97), (c.def_ 26).choose_spec⟩
    n_ByteReader_numbers := He.noat_ok (c.fact 98)
    n_ByteReader_place := He.noat_ok (c.fact 99)
    g_Call := He.glo_ok X G (c.fact 100)
    c_Call := He.cls_ok (c.fact 101)
    k_Call := ⟨_, (c.def_ 27).choose, He.mkr_ok (c.fact 102), (c.def_ 27).choose_spec⟩
    n_Call_number := He.noat_ok (c.fact 103)
    n_Call_numbers := He.noat_ok (c.fact 104)
    n_Call_rows := He.noat_ok (c.fact 105)
    g_CallReader := He.glo_ok X G (c.fact 106)
    c_CallReader := He.cls_ok (c.fact 107)
    k_CallReader := ⟨_, (c.def_ 28).choose, He.mkr_ok (c.fact 108), (c.def_ 28).choose_spec⟩
    m_CallReader_at_end := ⟨_, (c.def_ 29).choose, He.meth_ok (c.fact 109), (c.def_ 29).choose_spec⟩
    m_CallReader_take := ⟨_, (c.def_ 30).choose, He.meth_ok (c.fact 110), (c.def_ 30).choose_spec⟩
    m_CallReader_take_call := ⟨_, (c.def_ 31).choose, He.meth_ok (c.fact 111), (c.def_ 31).choose_spec⟩
    n_CallReader_calls := He.noat_ok (c.fact 112)
    n_CallReader_place := He.noat_ok (c.fact 113)
    g_Desk := He.glo_ok X G (c.fact 114)
    c_Desk := He.cls_ok (c.fact 115)
    k_Desk := ⟨_, (c.def_ 32).choose, He.mkr_ok (c.fact 116), (c.def_ 32).choose_spec⟩
    n_Desk_solving := He.noat_ok (c.fact 117)
    d_has_square := ⟨_, (c.def_ 33).choose, He.glo_ok X G (c.fact 118), (c.def_ 33).choose_spec⟩
    d_squares_of := ⟨_, (c.def_ 34).choose, He.glo_ok X G (c.fact 119), (c.def_ 34).choose_spec⟩
    d_places_of := ⟨_, (c.def_ 35).choose, He.glo_ok X G (c.fact 120), (c.def_ 35).choose_spec⟩
    d_count_numbers := ⟨_, (c.def_ 36).choose, He.glo_ok X G (c.fact 121), (c.def_ 36).choose_spec⟩
    d_ways_of_kind := ⟨_, (c.def_ 37).choose, He.glo_ok X G (c.fact 122), (c.def_ 37).choose_spec⟩
    d_squares_along := ⟨_, (c.def_ 38).choose, He.glo_ok X G (c.fact 123), (c.def_ 38).choose_spec⟩
    d_is_on_board := ⟨_, (c.def_ 39).choose, He.glo_ok X G (c.fact 124), (c.def_ 39).choose_spec⟩
    d_has_lost := ⟨_, (c.def_ 40).choose, He.glo_ok X G (c.fact 125), (c.def_ 40).choose_spec⟩
    d_holders_of := ⟨_, (c.def_ 41).choose, He.glo_ok X G (c.fact 126), (c.def_ 41).choose_spec⟩
    d_targets_of := ⟨_, (c.def_ 42).choose, He.glo_ok X G (c.fact 127), (c.def_ 42).choose_spec⟩
    d_moves_of := ⟨_, (c.def_ 43).choose, He.glo_ok X G (c.fact 128), (c.def_ 43).choose_spec⟩
    d_row_after := ⟨_, (c.def_ 44).choose, He.glo_ok X G (c.fact 129), (c.def_ 44).choose_spec⟩
    d_end_outcome := ⟨_, (c.def_ 45).choose, He.glo_ok X G (c.fact 130), (c.def_ 45).choose_spec⟩
    d_is_right := ⟨_, (c.def_ 46).choose, He.glo_ok X G (c.fact 131), (c.def_ 46).choose_spec⟩
    d_check_right := ⟨_, (c.def_ 47).choose, He.glo_ok X G (c.fact 132), (c.def_ 47).choose_spec⟩
    d_number_of := ⟨_, (c.def_ 48).choose, He.glo_ok X G (c.fact 133), (c.def_ 48).choose_spec⟩
    d_row_of := ⟨_, (c.def_ 49).choose, He.glo_ok X G (c.fact 134), (c.def_ 49).choose_spec⟩
    d_right_row_of := ⟨_, (c.def_ 50).choose, He.glo_ok X G (c.fact 135), (c.def_ 50).choose_spec⟩
    d_right_numbers := ⟨_, (c.def_ 51).choose, He.glo_ok X G (c.fact 136), (c.def_ 51).choose_spec⟩
    d_do_rounds := ⟨_, (c.def_ 52).choose, He.glo_ok X G (c.fact 137), (c.def_ 52).choose_spec⟩
    d_do_round := ⟨_, (c.def_ 53).choose, He.glo_ok X G (c.fact 138), (c.def_ 53).choose_spec⟩
    d_find_ends := ⟨_, (c.def_ 54).choose, He.glo_ok X G (c.fact 139), (c.def_ 54).choose_spec⟩
    d_find_by_leads := ⟨_, (c.def_ 55).choose, He.glo_ok X G (c.fact 140), (c.def_ 55).choose_spec⟩
    d_outcome_by_leads := ⟨_, (c.def_ 56).choose, He.glo_ok X G (c.fact 141), (c.def_ 56).choose_spec⟩
    d_value_of := ⟨_, (c.def_ 57).choose, He.glo_ok X G (c.fact 142), (c.def_ 57).choose_spec⟩
    d_value_at := ⟨_, (c.def_ 58).choose, He.glo_ok X G (c.fact 143), (c.def_ 58).choose_spec⟩
    d_check_solved := ⟨_, (c.def_ 59).choose, He.glo_ok X G (c.fact 144), (c.def_ 59).choose_spec⟩
    d_numbers_with := ⟨_, (c.def_ 60).choose, He.glo_ok X G (c.fact 145), (c.def_ 60).choose_spec⟩
    d_first_with := ⟨_, (c.def_ 61).choose, He.glo_ok X G (c.fact 146), (c.def_ 61).choose_spec⟩
    d_longest_of := ⟨_, (c.def_ 62).choose, He.glo_ok X G (c.fact 147), (c.def_ 62).choose_spec⟩
    d_best_move := ⟨_, (c.def_ 63).choose, He.glo_ok X G (c.fact 148), (c.def_ 63).choose_spec⟩
    d_value_to_reach := ⟨_, (c.def_ 64).choose, He.glo_ok X G (c.fact 149), (c.def_ 64).choose_spec⟩
    d_best_line := ⟨_, (c.def_ 65).choose, He.glo_ok X G (c.fact 150), (c.def_ 65).choose_spec⟩
    d_play_match := ⟨_, (c.def_ 66).choose, He.glo_ok X G (c.fact 151), (c.def_ 66).choose_spec⟩
    d_take_reply := ⟨_, (c.def_ 67).choose, He.glo_ok X G (c.fact 152), (c.def_ 67).choose_spec⟩
    d_result_at_end := ⟨_, (c.def_ 68).choose, He.glo_ok X G (c.fact 153), (c.def_ 68).choose_spec⟩
    d_read_game := ⟨_, (c.def_ 69).choose, He.glo_ok X G (c.fact 154), (c.def_ 69).choose_spec⟩
    d_read_board := ⟨_, (c.def_ 70).choose, He.glo_ok X G (c.fact 155), (c.def_ 70).choose_spec⟩
    d_read_kind := ⟨_, (c.def_ 71).choose, He.glo_ok X G (c.fact 156), (c.def_ 71).choose_spec⟩
    d_read_goals := ⟨_, (c.def_ 72).choose, He.glo_ok X G (c.fact 157), (c.def_ 72).choose_spec⟩
    d_read_pattern := ⟨_, (c.def_ 73).choose, He.glo_ok X G (c.fact 158), (c.def_ 73).choose_spec⟩
    d_read_piece := ⟨_, (c.def_ 74).choose, He.glo_ok X G (c.fact 159), (c.def_ 74).choose_spec⟩
    d_table_of := ⟨_, (c.def_ 75).choose, He.glo_ok X G (c.fact 160), (c.def_ 75).choose_spec⟩
    d_codes_of := ⟨_, (c.def_ 76).choose, He.glo_ok X G (c.fact 161), (c.def_ 76).choose_spec⟩
    d_shift_of := ⟨_, (c.def_ 77).choose, He.glo_ok X G (c.fact 162), (c.def_ 77).choose_spec⟩
    d_code_in := ⟨_, (c.def_ 78).choose, He.glo_ok X G (c.fact 163), (c.def_ 78).choose_spec⟩
    d_first_wrong := ⟨_, (c.def_ 79).choose, He.glo_ok X G (c.fact 164), (c.def_ 79).choose_spec⟩
    d_turned_pair := ⟨_, (c.def_ 80).choose, He.glo_ok X G (c.fact 165), (c.def_ 80).choose_spec⟩
    d_mirrored_pair := ⟨_, (c.def_ 81).choose, He.glo_ok X G (c.fact 166), (c.def_ 81).choose_spec⟩
    d_turned_square := ⟨_, (c.def_ 82).choose, He.glo_ok X G (c.fact 167), (c.def_ 82).choose_spec⟩
    d_turned_set := ⟨_, (c.def_ 83).choose, He.glo_ok X G (c.fact 168), (c.def_ 83).choose_spec⟩
    d_turned_patterns := ⟨_, (c.def_ 84).choose, He.glo_ok X G (c.fact 169), (c.def_ 84).choose_spec⟩
    d_turned_row := ⟨_, (c.def_ 85).choose, He.glo_ok X G (c.fact 170), (c.def_ 85).choose_spec⟩
    d_keeps_kind := ⟨_, (c.def_ 86).choose, He.glo_ok X G (c.fact 171), (c.def_ 86).choose_spec⟩
    d_keeps_game := ⟨_, (c.def_ 87).choose, He.glo_ok X G (c.fact 172), (c.def_ 87).choose_spec⟩
    d_keeping_turns := ⟨_, (c.def_ 88).choose, He.glo_ok X G (c.fact 173), (c.def_ 88).choose_spec⟩
    d_turns_sum := ⟨_, (c.def_ 89).choose, He.glo_ok X G (c.fact 174), (c.def_ 89).choose_spec⟩
    d_least_turn := ⟨_, (c.def_ 90).choose, He.glo_ok X G (c.fact 175), (c.def_ 90).choose_spec⟩
    d_tell_game := ⟨_, (c.def_ 91).choose, He.glo_ok X G (c.fact 176), (c.def_ 91).choose_spec⟩
    d_tell_solve := ⟨_, (c.def_ 92).choose, He.glo_ok X G (c.fact 177), (c.def_ 92).choose_spec⟩
    d_tell_index := ⟨_, (c.def_ 93).choose, He.glo_ok X G (c.fact 178), (c.def_ 93).choose_spec⟩
    d_tell_pos := ⟨_, (c.def_ 94).choose, He.glo_ok X G (c.fact 179), (c.def_ 94).choose_spec⟩
    d_tell_value := ⟨_, (c.def_ 95).choose, He.glo_ok X G (c.fact 180), (c.def_ 95).choose_spec⟩
    d_tell_moves := ⟨_, (c.def_ 96).choose, He.glo_ok X G (c.fact 181), (c.def_ 96).choose_spec⟩
    d_tell_play := ⟨_, (c.def_ 97).choose, He.glo_ok X G (c.fact 182), (c.def_ 97).choose_spec⟩
    d_tell_best := ⟨_, (c.def_ 98).choose, He.glo_ok X G (c.fact 183), (c.def_ 98).choose_spec⟩
    d_tell_line := ⟨_, (c.def_ 99).choose, He.glo_ok X G (c.fact 184), (c.def_ 99).choose_spec⟩
    d_tell_many := ⟨_, (c.def_ 100).choose, He.glo_ok X G (c.fact 185), (c.def_ 100).choose_spec⟩
    d_tell_next := ⟨_, (c.def_ 101).choose, He.glo_ok X G (c.fact 186), (c.def_ 101).choose_spec⟩
    d_tell_longest := ⟨_, (c.def_ 102).choose, He.glo_ok X G (c.fact 187), (c.def_ 102).choose_spec⟩
    d_tell_turns := ⟨_, (c.def_ 103).choose, He.glo_ok X G (c.fact 188), (c.def_ 103).choose_spec⟩
    d_tell_least := ⟨_, (c.def_ 104).choose, He.glo_ok X G (c.fact 189), (c.def_ 104).choose_spec⟩
    d_tell_table := ⟨_, (c.def_ 105).choose, He.glo_ok X G (c.fact 190), (c.def_ 105).choose_spec⟩
    d_tell_judge := ⟨_, (c.def_ 106).choose, He.glo_ok X G (c.fact 191), (c.def_ 106).choose_spec⟩
    d_tell_match := ⟨_, (c.def_ 107).choose, He.glo_ok X G (c.fact 192), (c.def_ 107).choose_spec⟩
    d_right_row := ⟨_, (c.def_ 108).choose, He.glo_ok X G (c.fact 193), (c.def_ 108).choose_spec⟩
    d_check_outcome := ⟨_, (c.def_ 109).choose, He.glo_ok X G (c.fact 194), (c.def_ 109).choose_spec⟩
    d_counted := ⟨_, (c.def_ 110).choose, He.glo_ok X G (c.fact 195), (c.def_ 110).choose_spec⟩
    d_answer_of := ⟨_, (c.def_ 111).choose, He.glo_ok X G (c.fact 196), (c.def_ 111).choose_spec⟩
    d_answers := ⟨_, (c.def_ 112).choose, He.glo_ok X G (c.fact 197), (c.def_ 112).choose_spec⟩ }
def obsE (g : Addr → Option Obj) : He.AlD × Bool := (He.obsD fa fn (frE g), exB (frE g))
def HK : PySem.W.Hook where
  α := He.AlD × Bool
  obs := fun s => obsE s.heap.get?
  val := fun _ => (He.valD fn, true)
  says := fun _ h => ∃ K : Fr, K.In h ∧ He.SaysD fa fn K ∧ exB K = true
  of := fun _ _ z => ⟨_, He.frT_in, congrArg Prod.fst z, congrArg Prod.snd z⟩
  keeps := fun _ _ _ ⟨K, hK, c⟩ k => ⟨K, PySem.W.Frag.In.keeps hK k, c⟩
def OB (s : PySem.W.SharedT) : He.AlD × Bool := obsE (HandSHeadRun.getT s)
theorem ob_eq (s : PySem.W.SharedT) : OB s = HK.obs s.abs := by
  have z : HandSHeadRun.getT s = s.abs.heap.get? := funext (HandSHeadRun.getT_eq s)
  unfold OB
  rw [z]
  rfl
end Es
end

section
set_option Elab.async false
set_option linter.all false
set_option maxRecDepth 100000
set_option maxHeartbeats 4000000
namespace Es
open PySem PySem.Spec PyProof.Rows L2 Evl
theorem run_w {w : World} (hL : ∀ os, (EndW w os).map (lookL w) = some (true, PySem.W.openGood QV names)) (hA : ∀ os, (EndW w os).map lookA = some (true, true)) (hN : ∀ os, (EndW w os).map lookN = some (He.valD fn)) : HandSHeadRun.RunEqS RW QV HK OB 12000 names w := by
  intro os
  show (EndW w os).map (fun s => ((lookL w s).1, (lookL w s).2, OB s)) = some (true, PySem.W.openGood QV names, HK.val w)
  have l := hL os
  have a := hA os
  have n := hN os
  generalize EndW w os = z at l a n
  cases z with
  | none => cases l
  | some s =>
    have l : lookL w s = (true, PySem.W.openGood QV names) := Option.some.inj l
    have a : lookA s = (true, true) := Option.some.inj a
    have n : lookN s = He.valD fn := Option.some.inj n
    have o : OB s = HK.val w := by
      show (((lookA s).1 && (lookN s).1, (lookN s).2), (lookA s).2) = (He.valD fn, true)
      rw [a, n]
      rfl
    show some ((lookL w s).1, (lookL w s).2, OB s) = _
    rw [l, o]
    rfl
theorem run_top (w : World) : HandSHeadRun.RunEqS RW QV HK OB 12000 names w := PySem.W.byRow2 "special-get-raises" (P := fun w => HandSHeadRun.RunEqS RW QV HK OB 12000 names w) (fun w => run_w (runL_f w) (runA_f w) (runN_f w)) (fun w => run_w (runL_t w) (runA_t w) (runN_t w)) w
end Es
end

section
set_option Elab.async false
set_option linter.all false
set_option maxRecDepth 100000
set_option maxHeartbeats 4000000
namespace Es
open PySem PySem.Spec PyProof.Rows L2 Evl
/-- a Spec row over a head by facts: the written part, the function object and the promise come out of the head -/
theorem walk_specE {r : PySem.W.OpenSpec} {k : Nat} {q : Program} {loose : List Str} {XP : (Str → Option Value) → Heap → Prop} {YP : World → Heap → Prop} {d : DefRec} {CX : CXT} {ps : List Str} (hw : r.wellSaid = true) (hdf : d.params.defaults = []) (hl : r.args.length = ps.length) (hr : Room k callerA)
    (F : ∀ (w : World) (mg : Str → Option Value) (fa : Addr) (h : Heap), YP w h → h.Ns mainGlobals mg → mg d.name = some (.ref fa) → ∃ (K : Fr) (fd : FuncData) (sp : Sp), K.In h ∧ (∀ (s : Shared) (us : List Value), us.length = ps.length → BindsTo s fd ⟨us, []⟩ (ps.zip us)) ∧
      (∀ base : Heap, K.In base → base.Ns mainGlobals mg → FnOk r.prog w K mg base CX k fa fd ps sp) ∧
      ∀ (H : Hp) (xs : List V) (a : PySem.W.Codec.denoteAll r.args), OnlyF H → PySem.W.Codec.withinAll r.args a = true → PySem.W.Codec.app r.args r.asked a = true → DwAll K H xs (PySem.W.Codec.encAll r.args a) → sp xs H (fun v H' => Dw K H' v (r.ret.enc (PySem.W.Codec.app r.args r.f a))) fun _ _ _ => False)
    (hCX : ∀ (H : Hp) (s : Shared) (e : Value) (s' : Shared), CX [] H s (fun _ _ _ => False) e s' → False) : PySem.W.WalkOS q loose XP YP r d [] (fun f vs => PySem.call f vs) := by
  intro w s0 s1 mg mb G Y fa o pm cd doc dV kV ho hd hcd hD hmg hg args vals as hpre hlay hrd hwl hlo
  obtain ⟨a, d1, asked⟩ := PySem.W.os_pre_some hpre
  obtain ⟨rfl, inside⟩ := PySem.W.Codec.encAll_of_decAll r.args args a d1
  obtain ⟨K, fd, sp, KX, bind, ok, keeps⟩ := F w mg fa _ Y G.T.g hmg
  have ran := spec_call (R := []) (cl := classAt s0.heap) (d0 := r.ret.enc (PySem.W.Codec.app r.args r.f a)) KX G.T.g G.T.b G.T.builtins G.T.nolimit hg hwl (pl_encAll _ _) (layable_weight hlay) hr ok bind ((encAll_len _ _).trans hl) (fun H xs only data => keeps H xs a only inside asked data) fun H e s' => hCX H s1 e s'
  refine PySem.W.enter_call (codeAny_mono ran ?_)
  rintro r' s' ⟨u, as', rfl, x1, x2, x3, x4⟩
  refine ⟨.inl ⟨u, _, as', rfl, fun _ => rfl, x1, ?_, fun z => by cases z⟩, x2, x3, x4⟩
  exact (PySem.W.OpenSpec.post_iff hw inside _ _).mpr rfl
end Es
end

section
set_option Elab.async false
set_option linter.all false
set_option maxRecDepth 100000
set_option maxHeartbeats 4000000
namespace Es
open PySem PySem.Spec PyProof.Rows L2 Evl
theorem said : RW.wellSaid = true := by decide +kernel
/-- a list of whole numbers handed in -/
theorem one_list {K : Fr} {H : Hp} {xs : List V} {ns : List Int} (h : DwAll K H xs [.list (ns.map PySem.W.WData.int)]) : ∃ lc, xs = [.ref lc] ∧ SqL K H lc (ns.map V.int) := by
  cases h with
  | cons h t =>
    cases t
    cases h with
    | lst s d =>
      refine ⟨_, rfl, ?_⟩
      have key : ∀ (ns : List Int) (ys : List V), DwAll K H ys (ns.map PySem.W.WData.int) → ys = ns.map V.int := by
        intro ns
        induction ns with
        | nil => intro ys d; cases d; rfl
        | cons n r ih =>
          intro ys d
          cases d with
          | cons a b =>
            cases a
            rw [ih _ b]
            rfl
      rw [← key _ _ d]
      exact s
theorem holds_of (plays : ∀ ns : List Int, (∀ x ∈ ns, 0 ≤ x ∧ x ≤ 4294967295) → PyYqlmva.answers_asked ns = true → ∃ (l : List Nat) (n : Nat), ns = MovesNeutral.ints l ∧ Plays d_CALL_FORMS l n 0 none (PyYqlmva.answers ns) ∧ (PyYqlmva.answers ns).length ≤ 10000000) : RW.Holds := by
  refine HandSHeadRun.head_spec (r := RW) (q := QV) (H := HK) (ob := OB) (M := 12000) (loose := names) (d := TOP) (kwd := []) ob_eq (by kernel_rfl) (fun s => by kernel_rfl) run_top (by kernel_rfl) (by kernel_rfl) (by kernel_rfl) PySem.W.os_shapes said (by decide +kernel) ⟨rfl, rfl, rfl, rfl, rfl, by decide +kernel⟩ ⟨[.list [.int 13]], by decide +kernel, by decide +kernel⟩ ?_
  refine walk_specE (ps := ["calls"]) (k := 11) (CX := CX0) said (by kernel_rfl) rfl ⟨rfl, by decide, by decide⟩ ?_ (fun _ _ _ _ z => z)
  intro w mg fa h Y G hmg0
  obtain ⟨K, KX, c, cx⟩ := Y
  have T := env_of KX G c cx
  have hmg : mg ("answers" : Str) = some (.ref fa) := by
    have z : TOP.name = ("answers" : Str) := by kernel_rfl
    rw [← z]
    exact hmg0
  obtain ⟨f, fd, hf, FD⟩ := T.d_answers.ex
  rw [hmg] at hf
  injection hf with hf
  injection hf with hf
  subst hf
  have b := FunD.bindsA (ps := ["calls"]) FD fun _ _ _ _ _ _ us hl => match us, hl with | [_], _ => rfl
  refine ⟨K, fd, sp_answers K, KX, fun s us hl => b s us hl, fun base _ _ => fn_answers T FD, fun H xs a _ hin hask hd => ?_⟩
  obtain ⟨ns, u⟩ := a
  obtain ⟨lc, rfl, hs⟩ := one_list (ns := ns) hd
  have hin : ∀ x ∈ ns, 0 ≤ x ∧ x ≤ 4294967295 := fun x hx => by
    have h1 : PySem.W.Codec.inPair (PySem.W.Codec.inList 0 31000 (PySem.W.Codec.inInt 0 4294967295)) (fun _ => true) (ns, u) = true := hin
    have h2 := (Bool.and_eq_true_iff.mp h1).1
    have h3 := (Bool.and_eq_true_iff.mp h2).2
    have h4 := List.all_eq_true.mp h3 x hx
    have h5 := Bool.and_eq_true_iff.mp h4
    exact ⟨of_decide_eq_true h5.1, of_decide_eq_true h5.2⟩
  obtain ⟨l, n, rfl, pl, hl⟩ := plays ns hin hask
  refine ⟨lc, l, n, _, rfl, ?_, pl, hl, fun t H' ht e' h' => ?_⟩
  · rw [← ints_IL]
    exact hs
  · exact .lst (sq_of h') (dw_ints _)
end Es
end

section
set_option Elab.async false
set_option linter.all false
set_option maxRecDepth 100000
set_option maxHeartbeats 4000000
namespace Es
theorem ite_some {p i : Int} {a b : Option (Nat × Nat)} {x : Nat × Nat} (h : (if p = i then a else b) = some x) : (p = i ∧ a = some x) ∨ b = some x := by
  by_cases c : p = i
  · rw [if_pos c] at h
    exact Or.inl ⟨c, h⟩
  · rw [if_neg c] at h
    exact Or.inr h
/-- the program's table of forms has every call -/
theorem forms_all (p : Int) (n k : Nat) (h : PyYqlmva.shape p = some (n, k)) : (p, [(n : Int), (k : Int)]) ∈ d_CALL_FORMS := by
  unfold PyYqlmva.shape at h
  iterate 17
    rcases ite_some h with ⟨rfl, h⟩ | h
    · cases h
      decide
  cases h
end Es
set_option maxRecDepth 100000 in
theorem PySem.Challenge.cw_endsolver_s01_answers_holds : PySem.Challenge.rw_endsolver_s01_answers.Holds :=
  Es.holds_of fun ns h0 ha => Es.plays_of Es.forms_all ns h0 ha
end
