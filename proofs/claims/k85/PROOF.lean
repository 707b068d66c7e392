import PyProof.Rows.All
import Wide.All
import OpenK.AllK
import Wide.FinOn
import KE.KStateDown
import HandS.Base
import HandS.Call
import HandS.Ends
import HandS.More
import HandS.Words
import HandS.WordsExc
import HandS.Defaults
import HandS.EndTab
import HandS.Head0
import HandS.Head1
import HandS.Head2
import HandS.HeadEnd
import HandS.HeadHook1
import HandS.HeadHook2
import HandS.HeadHook3
import HandS.HeadHook4
import HandS.HeadWalk
import HandS.ForMost
import HandS.Exc
import HandS.TryOnly
import HandS.ExcOwn
import HandS.ExcSuper
import HandS.Lambda
import HandS.IsInst
import HandS.Wide
import HandS.Flow
import HandS.Codes
import HandS.TupAny
import HandS.TupMul
import HandS.OwnEq
import HandS.Style
import HandS.Deep
import HandS.Walk
import HandS.ExcIs
import HandS.ExcField
import HandS.ExcValue
import KE.KExcIs
import HandS.HeadNt
import HandS.MakeKwOnly
import HandS.Zip
import KE.KDictDisplayH
import KE.GoesMore
import HandS.NoneIn
import HandS.Small
import HandS.Gcd
import KE.KMathG
import KE.KMathGC
import PyProof.ReprRoads
import PyProof.ReprLen
import PyProof.FitsInt
import HandS.TupSets
import HandS.Rev
import HandS.RevTup
import HandS.Conv
import PyProof.ListRange
import OpenK.KWalk
import OpenK.KMake
import PyProof.InstEq
import HandS.SortRule
import KE.SortData
import HandS.NestedK
import HandS.ExcBuiltin
import HandS.Head3
import HandS.DictComp
import HandS.WordsDict
import HandS.Strs
import PySem.Challenge.RW_pulledrooms_k85_changes_and_what_comes_o

set_option Elab.async false
set_option linter.all false
set_option maxRecDepth 100000
set_option maxHeartbeats 0
set_option Elab.async false
set_option linter.all false
set_option maxRecDepth 100000
/-! a hook that looks at addresses that are told: no search for them at the head's run -/
namespace DL
open PySem
section
variable {as : List Addr} {fa : List He.Fa} {fn : List He.DefD} {tf : List He.Defn} {ex : PySem.W.Frag → Bool}
def obsA (as : List Addr) (fa : List He.Fa) (fn : List He.DefD) (tf : List He.Defn) (ex : PySem.W.Frag → Bool) (g : Addr → Option Obj) : He.AlX := (He.obsT fa fn [] (He.frT g as), ex (He.frT g as) && He.tabsB g tf (He.frT g as))
theorem saysA {w : World} {h : Heap} (e : obsA as fa fn tf ex h.get? = He.valX fn [] w) : He.SaysX fa fn [] tf ex w h (He.frT h.get? as) := by
  have both := Bool.and_eq_true_iff.mp (show (ex (He.frT h.get? as) && He.tabsB h.get? tf (He.frT h.get? as)) = true from congrArg Prod.snd e)
  have tab : ∀ p ∈ tf, PySem.W.codeHdIn (He.frT h.get? as) (He.cT (He.frT h.get? as) p).1 (He.cT (He.frT h.get? as) p).2 = true ∧ ∃ o, h.get? (He.cT (He.frT h.get? as) p).2 = some o ∧ He.emptyTab o = true := by
    intro p hp
    have one := Bool.and_eq_true_iff.mp (List.all_eq_true.mp both.2 p hp)
    refine ⟨one.1, ?_⟩
    have two := one.2
    cases c : h.get? (He.cT (He.frT h.get? as) p).2 with
    | none => rw [c] at two; exact absurd two (by decide)
    | some o => rw [c] at two; exact ⟨o, rfl, two⟩
  refine ⟨congrArg Prod.fst e, both.1, fun p hp => (tab p hp).1, fun p hp => ?_, fun p hp => ?_⟩
  · obtain ⟨o, c, z⟩ := (tab p hp).2
    exact He.frT_none c z
  · obtain ⟨o, c, z⟩ := (tab p hp).2
    rw [c, He.emptyTab_eq z]
def hookA (as : List Addr) (fa : List He.Fa) (fn : List He.DefD) (tf : List He.Defn) (ex : PySem.W.Frag → Bool) : PySem.W.Hook where
  α := He.AlX
  obs := fun s => obsA as fa fn tf ex s.heap.get?
  val := fun w => He.valX fn [] w
  says := (He.hookX 5 fa fn [] tf ex).says
  of := fun w s e => ⟨He.frT s.heap.get? as, He.frT_in, saysA e⟩
  keeps := (He.hookX 5 fa fn [] tf ex).keeps
theorem obsA_eq {g : Addr → Option Obj} {s : Shared} (h : ∀ a, g a = s.heap.get? a) : obsA as fa fn tf ex g = (hookA as fa fn tf ex).obs s := by
  have : g = s.heap.get? := funext h
  subst this
  rfl
end
end DL

namespace DL
open PySem L2
def objB (K : PySem.W.Frag) (C : Addr) : Bool := He.eqO (PySem.W.findIn K (.ref C) "__class__") (some (some (.builtin "object.__class__"))) && (decide (PySem.W.mroIn K C (.type "object") = some true) && (He.eqO (PySem.W.specialIn K (.builtin "object.__class__") "__get__") (some (some (.builtin "getset_descriptor.__get__"))) && decide (PySem.W.takesIn K (.builtin "object.__class__") = some true)))
def excB (K : PySem.W.Frag) (C : Addr) : Bool := (PySem.W.clsIn K C).isSome && (He.eqO (PySem.W.findIn K (.ref C) "__getattribute__") (some (some (.builtin "BaseException.__getattribute__"))) && (He.eqO (PySem.W.findIn K (.ref C) "__getattr__") (some none) && (decide (PySem.W.subIn K (.ref C) (.type "BaseException") = some true) && objB K C)))
def kitsB (K : PySem.W.Frag) (cn : Str) (os es : List (Str × Bool)) : Bool := (["NoneType", "bool", "int", "str", "tuple", "list", "dict"].all fun n => decide (PySem.W.kitOne K (.type n) (.ref (He.ga K cn)) = some false)) && ((os ++ es).all fun p => decide (PySem.W.kitOne K (.ref (He.ga K p.1)) (.ref (He.ga K cn)) = some p.2))
def kitVB (K : PySem.W.Frag) (es : List (Str × Bool)) : Bool := es.all fun p => decide (PySem.W.kitOne K (.ref (He.ga K p.1)) (.type "ValueError") = some p.2)
def ownB (K : PySem.W.Frag) (C : Addr) : Bool := He.eqO (PySem.W.findIn K (.ref C) "__eq__") (some (some (.ref (He.ma K C "__eq__")))) && (PySem.W.isFn K (.ref (He.ma K C "__eq__")) && (He.eqO (PySem.W.findIn K (.ref C) "__ne__") (some (some (.builtin "object.__ne__"))) && decide (PySem.W.subIn K (.ref C) (.type "object") = some true)))
end DL
set_option Elab.async false
set_option linter.all false
set_option maxRecDepth 100000
set_option maxHeartbeats 0
namespace Law
open PySem L2 DL
open PySem.Spec PyProof.Rows
def topS (i : Nat) : Stmt := PySem.Challenge.pw_pulledrooms_k85_changes_and_what_comes_o.main.body.getD i (.Pass ⟨0, 0, 0, 0⟩)
def h_is_number : He.DefD := ⟨("is_number", none), "is_number", "is_number", defArgs (topS 1), defBody (topS 1), defScope (topS 1), [], []⟩
def h_is_number_within : He.DefD := ⟨("is_number_within", none), "is_number_within", "is_number_within", defArgs (topS 2), defBody (topS 2), defScope (topS 2), [], []⟩
def h_is_tuple_of : He.DefD := ⟨("is_tuple_of", none), "is_tuple_of", "is_tuple_of", defArgs (topS 3), defBody (topS 3), defScope (topS 3), [], []⟩
def h_is_list : He.DefD := ⟨("is_list", none), "is_list", "is_list", defArgs (topS 4), defBody (topS 4), defScope (topS 4), [], []⟩
def h_can_be_folded : He.DefD := ⟨("can_be_folded", none), "can_be_folded", "can_be_folded", defArgs (topS 15), defBody (topS 15), defScope (topS 15), [], []⟩
def h_fold_of : He.DefD := ⟨("fold_of", none), "fold_of", "fold_of", defArgs (topS 16), defBody (topS 16), defScope (topS 16), [], []⟩
def h_doors_behind : He.DefD := ⟨("doors_behind", none), "doors_behind", "doors_behind", defArgs (topS 17), defBody (topS 17), defScope (topS 17), [], []⟩
def h_House___init__ : He.DefD := ⟨("House", some "__init__"), "__init__", "House.__init__", defArgs (inClass (topS 22) 0), defBody (inClass (topS 22) 0), defScope (inClass (topS 22) 0), [], []⟩
def h_House___eq__ : He.DefD := ⟨("House", some "__eq__"), "__eq__", "House.__eq__", defArgs (inClass (topS 22) 1), defBody (inClass (topS 22) 1), defScope (inClass (topS 22) 1), [], []⟩
def h_is_room_count : He.DefD := ⟨("is_room_count", none), "is_room_count", "is_room_count", defArgs (topS 23), defBody (topS 23), defScope (topS 23), [], []⟩
def h_is_door : He.DefD := ⟨("is_door", none), "is_door", "is_door", defArgs (topS 24), defBody (topS 24), defScope (topS 24), [], []⟩
def h_is_door_number_houses : He.DefD := ⟨("is_door_number_houses", none), "_is_door_number", "_is_door_number", defArgs (topS 25), defBody (topS 25), defScope (topS 25), [], []⟩
def h_are_doors : He.DefD := ⟨("are_doors", none), "are_doors", "are_doors", defArgs (topS 27), defBody (topS 27), defScope (topS 27), [], []⟩
def h__least_apart : He.DefD := ⟨("_least_apart", none), "_least_apart", "_least_apart", defArgs (topS 28), defBody (topS 28), defScope (topS 28), [], []⟩
def h_need_house : He.DefD := ⟨("need_house", none), "need_house", "need_house", defArgs (topS 29), defBody (topS 29), defScope (topS 29), [], []⟩
def h_is_room : He.DefD := ⟨("is_room", none), "is_room", "is_room", defArgs (topS 30), defBody (topS 30), defScope (topS 30), [], []⟩
def h_need_room : He.DefD := ⟨("need_room", none), "need_room", "need_room", defArgs (topS 31), defBody (topS 31), defScope (topS 31), [], []⟩
def h_is_pass : He.DefD := ⟨("is_pass", none), "is_pass", "is_pass", defArgs (topS 32), defBody (topS 32), defScope (topS 32), [], []⟩
def h_ends_of : He.DefD := ⟨("ends_of", none), "ends_of", "ends_of", defArgs (topS 33), defBody (topS 33), defScope (topS 33), [], []⟩
def h_is_change : He.DefD := ⟨("is_change", none), "is_change", "is_change", defArgs (topS 36), defBody (topS 36), defScope (topS 36), [], []⟩
def h_changed : He.DefD := ⟨("changed", none), "changed", "changed", defArgs (topS 37), defBody (topS 37), defScope (topS 37), [], []⟩
def h_room_along : He.DefD := ⟨("room_along", none), "room_along", "room_along", defArgs (topS 38), defBody (topS 38), defScope (topS 38), [], []⟩
def h_changed_by : He.DefD := ⟨("changed_by", none), "changed_by", "changed_by", defArgs (topS 39), defBody (topS 39), defScope (topS 39), [], []⟩
def h__houses_met : He.DefD := ⟨("_houses_met", none), "_houses_met", "_houses_met", defArgs (topS 40), defBody (topS 40), defScope (topS 40), [], []⟩
def h__outcome : He.DefD := ⟨("_outcome", none), "_outcome", "_outcome", defArgs (topS 41), defBody (topS 41), defScope (topS 41), [], []⟩
def h__told : He.DefD := ⟨("_told", none), "_told", "_told", defArgs (topS 42), defBody (topS 42), defScope (topS 42), [], []⟩
def h_is_door_number_changing : He.DefD := ⟨("is_door_number_changing", none), "_is_door_number", "_is_door_number", defArgs (topS 43), defBody (topS 43), defScope (topS 43), [], []⟩
def h__folded : He.DefD := ⟨("_folded", none), "_folded", "_folded", defArgs (topS 45), defBody (topS 45), defScope (topS 45), [], []⟩
def h__turned : He.DefD := ⟨("_turned", none), "_turned", "_turned", defArgs (topS 46), defBody (topS 46), defScope (topS 46), [], []⟩
def h__swapped : He.DefD := ⟨("_swapped", none), "_swapped", "_swapped", defArgs (topS 47), defBody (topS 47), defScope (topS 47), [], []⟩
def h__slid : He.DefD := ⟨("_slid", none), "_slid", "_slid", defArgs (topS 48), defBody (topS 48), defScope (topS 48), [], []⟩
def h__lowered : He.DefD := ⟨("_lowered", none), "_lowered", "_lowered", defArgs (topS 49), defBody (topS 49), defScope (topS 49), [], []⟩
def h__room_along : He.DefD := ⟨("_room_along", none), "_room_along", "_room_along", defArgs (topS 50), defBody (topS 50), defScope (topS 50), [], []⟩
def h__law_begun : He.DefD := ⟨("_law_begun", none), "_law_begun", "_law_begun", defArgs (topS 52), defBody (topS 52), defScope (topS 52), [], []⟩
def h__law_blended : He.DefD := ⟨("_law_blended", none), "_law_blended", "_law_blended", defArgs (topS 53), defBody (topS 53), defScope (topS 53), [], []⟩
def h__law_draw : He.DefD := ⟨("_law_draw", none), "_law_draw", "_law_draw", defArgs (topS 54), defBody (topS 54), defScope (topS 54), [], []⟩
def h__law_pick : He.DefD := ⟨("_law_pick", none), "_law_pick", "_law_pick", defArgs (topS 55), defBody (topS 55), defScope (topS 55), [], []⟩
def h__law_mixed : He.DefD := ⟨("_law_mixed", none), "_law_mixed", "_law_mixed", defArgs (topS 56), defBody (topS 56), defScope (topS 56), [], []⟩
def h__law_caught : He.DefD := ⟨("_law_caught", none), "_law_caught", "_law_caught", defArgs (topS 57), defBody (topS 57), defScope (topS 57), [], []⟩
def h__law_is_truth : He.DefD := ⟨("_law_is_truth", none), "_law_is_truth", "_law_is_truth", defArgs (topS 58), defBody (topS 58), defScope (topS 58), [], []⟩
def h__law_is_whole : He.DefD := ⟨("_law_is_whole", none), "_law_is_whole", "_law_is_whole", defArgs (topS 59), defBody (topS 59), defScope (topS 59), [], []⟩
def h__law_size : He.DefD := ⟨("_law_size", none), "_law_size", "_law_size", defArgs (topS 60), defBody (topS 60), defScope (topS 60), [], []⟩
def h__law_doors : He.DefD := ⟨("_law_doors", none), "_law_doors", "_law_doors", defArgs (topS 61), defBody (topS 61), defScope (topS 61), [], []⟩
def h__law_gate : He.DefD := ⟨("_law_gate", none), "_law_gate", "_law_gate", defArgs (topS 62), defBody (topS 62), defScope (topS 62), [], []⟩
def h__law_sides : He.DefD := ⟨("_law_sides", none), "_law_sides", "_law_sides", defArgs (topS 63), defBody (topS 63), defScope (topS 63), [], []⟩
def h__law_ch_house : He.DefD := ⟨("_law_ch_house", none), "_law_ch_house", "_law_ch_house", defArgs (topS 64), defBody (topS 64), defScope (topS 64), [], []⟩
def h__law_ch_is_door : He.DefD := ⟨("_law_ch_is_door", none), "_law_ch_is_door", "_law_ch_is_door", defArgs (topS 65), defBody (topS 65), defScope (topS 65), [], []⟩
def h__law_ch_is_step : He.DefD := ⟨("_law_ch_is_step", none), "_law_ch_is_step", "_law_ch_is_step", defArgs (topS 66), defBody (topS 66), defScope (topS 66), [], []⟩
def h__law_ch_fold : He.DefD := ⟨("_law_ch_fold", none), "_law_ch_fold", "_law_ch_fold", defArgs (topS 67), defBody (topS 67), defScope (topS 67), [], []⟩
def h__law_ch_less : He.DefD := ⟨("_law_ch_less", none), "_law_ch_less", "_law_ch_less", defArgs (topS 68), defBody (topS 68), defScope (topS 68), [], []⟩
def h__law_ch_folded : He.DefD := ⟨("_law_ch_folded", none), "_law_ch_folded", "_law_ch_folded", defArgs (topS 69), defBody (topS 69), defScope (topS 69), [], []⟩
def h__law_ch_slid : He.DefD := ⟨("_law_ch_slid", none), "_law_ch_slid", "_law_ch_slid", defArgs (topS 70), defBody (topS 70), defScope (topS 70), [], []⟩
def h__law_ch_raw : He.DefD := ⟨("_law_ch_raw", none), "_law_ch_raw", "_law_ch_raw", defArgs (topS 71), defBody (topS 71), defScope (topS 71), [], []⟩
def h__law_ch_behind : He.DefD := ⟨("_law_ch_behind", none), "_law_ch_behind", "_law_ch_behind", defArgs (topS 72), defBody (topS 72), defScope (topS 72), [], []⟩
def h__law_ch_slides : He.DefD := ⟨("_law_ch_slides", none), "_law_ch_slides", "_law_ch_slides", defArgs (topS 73), defBody (topS 73), defScope (topS 73), [], []⟩
def h__law_ch_change : He.DefD := ⟨("_law_ch_change", none), "_law_ch_change", "_law_ch_change", defArgs (topS 74), defBody (topS 74), defScope (topS 74), [], []⟩
def h__law_ch_room : He.DefD := ⟨("_law_ch_room", none), "_law_ch_room", "_law_ch_room", defArgs (topS 75), defBody (topS 75), defScope (topS 75), [], []⟩
def h__law_ch_run : He.DefD := ⟨("_law_ch_run", none), "_law_ch_run", "_law_ch_run", defArgs (topS 76), defBody (topS 76), defScope (topS 76), [], []⟩
def h__law_ch_odd : He.DefD := ⟨("_law_ch_odd", none), "_law_ch_odd", "_law_ch_odd", defArgs (topS 77), defBody (topS 77), defScope (topS 77), [], []⟩
def h__law_near_changes : He.DefD := ⟨("_law_near_changes", none), "_law_near_changes", "_law_near_changes", defArgs (topS 78), defBody (topS 78), defScope (topS 78), [], []⟩
def h__law_judged : He.DefD := ⟨("_law_judged", none), "_law_judged", "_law_judged", defArgs (topS 79), defBody (topS 79), defScope (topS 79), [], []⟩
def h__law_runs : He.DefD := ⟨("_law_runs", none), "_law_runs", "_law_runs", defArgs (topS 80), defBody (topS 80), defScope (topS 80), [], []⟩
def h_law : He.DefD := ⟨("law", none), "law", "law", defArgs (topS 81), defBody (topS 81), defScope (topS 81), [], []⟩
def fn : List He.DefD := ([h_is_number, h_is_number_within, h_is_tuple_of, h_is_list, h_can_be_folded, h_fold_of, h_doors_behind, h_House___init__, h_House___eq__, h_is_room_count, h_is_door, h_is_door_number_houses, h_are_doors, h__least_apart, h_need_house, h_is_room, h_need_room, h_is_pass, h_ends_of, h_is_change, h_changed, h_room_along, h_changed_by, h__houses_met, h__outcome, h__told, h_is_door_number_changing, h__folded, h__turned, h__swapped] : List He.DefD) ++ ([h__slid, h__lowered, h__room_along, h__law_begun, h__law_blended, h__law_draw, h__law_pick, h__law_mixed, h__law_caught, h__law_is_truth, h__law_is_whole, h__law_size, h__law_doors, h__law_gate, h__law_sides, h__law_ch_house, h__law_ch_is_door, h__law_ch_is_step, h__law_ch_fold, h__law_ch_less, h__law_ch_folded, h__law_ch_slid, h__law_ch_raw, h__law_ch_behind, h__law_ch_slides, h__law_ch_change, h__law_ch_room, h__law_ch_run, h__law_ch_odd, h__law_near_changes] : List He.DefD) ++ ([h__law_judged, h__law_runs, h_law] : List He.DefD)
def fa : List He.Fa := ([.glo "is_number", .glo "is_number_within", .glo "is_tuple_of", .glo "is_list", .glo "PullError", .glo "Apart", .glo "BadChange", .glo "BadChanges", .glo "BadDoors", .glo "BadHouse", .glo "BadRoom", .glo "BadRooms", .glo "can_be_folded", .glo "fold_of", .glo "doors_behind", .int "MOST_ROOMS" 12, .int "MOST_DOORS" 20, .int "GREATEST" 999, .glo "House", .glo "is_room_count", .glo "is_door", .glo "is_door_number_houses", .glo "are_doors", .glo "_least_apart", .glo "need_house", .glo "is_room", .glo "need_room", .glo "is_pass", .glo "ends_of", .int "MOST_CHANGES" 30] : List He.Fa) ++ ([.glo "is_change", .glo "changed", .glo "room_along", .glo "changed_by", .glo "_houses_met", .glo "_outcome", .glo "_told", .glo "is_door_number_changing", .glo "_folded", .glo "_turned", .glo "_swapped", .glo "_slid", .glo "_lowered", .glo "_room_along", .glo "_law_begun", .glo "_law_blended", .glo "_law_draw", .glo "_law_pick", .glo "_law_mixed", .glo "_law_caught", .glo "_law_is_truth", .glo "_law_is_whole", .glo "_law_size", .glo "_law_doors", .glo "_law_gate", .glo "_law_sides", .glo "_law_ch_house", .glo "_law_ch_is_door", .glo "_law_ch_is_step", .glo "_law_ch_fold"] : List He.Fa) ++ ([.glo "_law_ch_less", .glo "_law_ch_folded", .glo "_law_ch_slid", .glo "_law_ch_raw", .glo "_law_ch_behind", .glo "_law_ch_slides", .glo "_law_ch_change", .glo "_law_ch_room", .glo "_law_ch_run", .glo "_law_ch_odd", .glo "_law_near_changes", .glo "_law_judged", .glo "_law_runs", .glo "law", .free "ValueError", .free "abs", .free "all", .free "bool", .free "enumerate", .free "int", .free "isinstance", .free "len", .free "list", .free "min", .free "range", .free "str", .free "super", .free "tuple", .free "zip", .exc "BadChange"] : List He.Fa) ++ ([.exc "BadChanges", .exc "BadDoors", .exc "BadHouse", .exc "BadRoom", .exc "BadRooms", .exm "PullError" "PullError" true, .exm "Apart" "PullError" true, .exm "BadChange" "PullError" true, .exm "BadChanges" "PullError" true, .exm "BadDoors" "PullError" true, .exm "BadHouse" "PullError" true, .exm "BadRoom" "PullError" true, .exm "BadRooms" "PullError" true, .cls "House", .mkr "House", .noat "House" "rooms", .noat "House" "doors"] : List He.Fa)
def tf : List He.Defn := [("_law_judged", none), ("_law_runs", none), ("law", none)]
def exs (K : PySem.W.Frag) : List Bool := [true, objB K (He.ga K "House"), kitsB K "House" [("House", true)] [], excB K (He.ga K "PullError"), excB K (He.ga K "Apart"), excB K (He.ga K "BadChange"), excB K (He.ga K "BadChanges"), excB K (He.ga K "BadDoors"), excB K (He.ga K "BadHouse"), excB K (He.ga K "BadRoom"), excB K (He.ga K "BadRooms"), ownB K (He.ga K "House"), kitsB K "BadChange" [] [("Apart", false), ("BadChange", true), ("BadChanges", false), ("BadDoors", false), ("BadHouse", false), ("BadRoom", false), ("BadRooms", false)], kitsB K "BadChanges" [] [("Apart", false), ("BadChange", false), ("BadChanges", true), ("BadDoors", false), ("BadHouse", false), ("BadRoom", false), ("BadRooms", false)], kitsB K "BadHouse" [] [("Apart", false), ("BadChange", false), ("BadChanges", false), ("BadDoors", false), ("BadHouse", true), ("BadRoom", false), ("BadRooms", false)], kitsB K "BadRoom" [] [("Apart", false), ("BadChange", false), ("BadChanges", false), ("BadDoors", false), ("BadHouse", false), ("BadRoom", true), ("BadRooms", false)], decide ((tf.map fun p => (He.cT K p).2).Nodup)]
def ex (K : PySem.W.Frag) : Bool := (exs K).all id
def names : List Str := (["__name__", "is_number", "is_number_within", "is_tuple_of", "is_list", "PullError", "Apart", "BadChange", "BadChanges", "BadDoors", "BadHouse", "BadRoom", "BadRooms", "can_be_folded", "fold_of", "doors_behind", "MOST_ROOMS", "MOST_DOORS", "GREATEST", "House", "is_room_count", "is_door", "_is_door_number", "is_door_number_houses", "are_doors", "_least_apart", "need_house", "is_room", "need_room", "is_pass"] : List Str) ++ (["ends_of", "MOST_CHANGES", "is_change", "changed", "room_along", "changed_by", "_houses_met", "_outcome", "_told", "is_door_number_changing", "_folded", "_turned", "_swapped", "_slid", "_lowered", "_room_along", "_law_begun", "_law_blended", "_law_draw", "_law_pick", "_law_mixed", "_law_caught", "_law_is_truth", "_law_is_whole", "_law_size", "_law_doors", "_law_gate", "_law_sides", "_law_ch_house", "_law_ch_is_door"] : List Str) ++ (["_law_ch_is_step", "_law_ch_fold", "_law_ch_less", "_law_ch_folded", "_law_ch_slid", "_law_ch_raw", "_law_ch_behind", "_law_ch_slides", "_law_ch_change", "_law_ch_room", "_law_ch_run", "_law_ch_odd", "_law_near_changes", "_law_judged", "_law_runs"] : List Str)
abbrev R : PySem.W.OpenRow := PySem.W.OpenLaw.row PySem.Challenge.rw_pulledrooms_k85_changes_and_what_comes_o
def adrs : List PySem.Addr := [3, 6, 4, 21, 28, 35, 42, 52, 74, 86, 98, 110, 122, 134, 146, 155, 162, 169, 193, 204, 211, 319, 218, 223, 228, 235, 242, 249, 256, 263, 270, 277, 284, 291, 298, 305, 312, 324, 329, 336, 343, 350, 357, 362, 369, 376, 383, 390, 397, 404, 411, 418, 423, 430, 437, 444, 449, 456, 463, 470, 477, 484, 489, 494, 501, 506, 513, 520, 527, 534, 541, 548, 553, 0, 20, 27, 34, 41, 51, 73, 85, 97, 109, 121, 133, 145, 154, 161, 168, 192, 203, 210, 318, 217, 222, 227, 234, 241, 248, 255, 262, 269, 276, 283, 290, 297, 304, 311, 323, 328, 335, 342, 349, 356, 361, 368, 375, 382, 389, 396, 403, 410, 417, 422, 429, 436, 443, 448, 455, 462, 469, 476, 483, 488, 493, 500, 505, 512, 519, 526, 533, 540, 547, 552, 15, 16, 17, 18, 19, 22, 23, 24, 25, 26, 29, 30, 31, 32, 33, 36, 37, 38, 39, 40, 50, 53, 71, 72, 84, 96, 108, 120, 132, 144, 149, 150, 151, 152, 153, 156, 157, 158, 159, 160, 163, 164, 165, 166, 167, 183, 190, 191, 194, 195, 198, 199, 200, 201, 202, 205, 206, 207, 208, 209, 313, 314, 315, 316, 317, 212, 213, 214, 215, 216, 219, 220, 221, 224, 225, 226, 229, 230, 231, 232, 233, 236, 237, 238, 239, 240, 243, 244, 245, 246, 247, 250, 251, 252, 253, 254, 257, 258, 259, 260, 261, 264, 265, 266, 267, 268, 271, 272, 273, 274, 275, 278, 279, 280, 281, 282, 285, 286, 287, 288, 289, 292, 293, 294, 295, 296, 299, 300, 301, 302, 303, 306, 307, 308, 309, 310, 320, 321, 322, 325, 326, 327, 330, 331, 332, 333, 334, 337, 338, 339, 340, 341, 344, 345, 346, 347, 348, 351, 352, 353, 354, 355, 358, 359, 360, 363, 364, 365, 366, 367, 370, 371, 372, 373, 374, 377, 378, 379, 380, 381, 384, 385, 386, 387, 388, 391, 392, 393, 394, 395, 398, 399, 400, 401, 402, 405, 406, 407, 408, 409, 412, 413, 414, 415, 416, 419, 420, 421, 424, 425, 426, 427, 428, 431, 432, 433, 434, 435, 438, 439, 440, 441, 442, 445, 446, 447, 450, 451, 452, 453, 454, 457, 458, 459, 460, 461, 464, 465, 466, 467, 468, 471, 472, 473, 474, 475, 478, 479, 480, 481, 482, 485, 486, 487, 490, 491, 492, 495, 496, 497, 498, 499, 502, 503, 504, 507, 508, 509, 510, 511, 514, 515, 516, 517, 518, 521, 522, 523, 524, 525, 528, 529, 530, 531, 532, 535, 536, 537, 538, 539, 542, 543, 544, 545, 546, 549, 550, 551, 70, 59, 182, 189, 65, 66, 67, 68, 69, 177, 178, 179, 180, 181, 184, 185, 186, 187, 188]
abbrev hk : PySem.W.Hook := DL.hookA adrs fa fn tf ex
def ob (s : PySem.W.SharedT) : He.AlX := DL.obsA adrs fa fn tf ex (HandSHeadRun.getT s)
theorem ob_eq (s : PySem.W.SharedT) : ob s = hk.obs s.abs := DL.obsA_eq (HandSHeadRun.getT_eq s)
theorem run (w : World) : HandSHeadRun.RunEq R (PySem.W.view R.prog [81]) hk ob 9000 names w := by
  intro os
  kernel_rfl
end Law

set_option Elab.async false
set_option linter.all false
set_option maxRecDepth 100000
set_option maxHeartbeats 4000000
/-! ## DL: programs over plain data. Values as data (D), the heap below it (Rep), what a def has made of its own (At), readings over data. -/
namespace DL
open PySem L2
inductive D where
  | non | bl (b : Bool) | int (i : Int) | str (x : Str)
  | tup (xs : List D) | lst (xs : List D) | dic (kvs : List (Key × D))
  | obj (c : Str) (fs : List (Str × D)) | exc (c : Str) (fs : List (Str × D))
  | st | scr (ns : List Int) | dtp (ks : List (List Int)) | fn (x : Str)
/-- the tables of code objects: one list for a whole proof -/
class Tb where
  tb : List (Addr × Str)
/-- what a law keeps through its run: the draws' state, its two lists -/
structure Dr where
  dr : Option (Addr × Addr × Addr)
structure Ct where
  K : PySem.W.Frag
  mg : Str → Option Value
  q : Dr
def Ct.drs (c : Ct) : List Addr := match c.q.dr with
  | some (a, g, l) => [a, g, l]
  | none => []
/-- a caught error's object at a -/
def ExcO (a : Addr) (cls : Value) (d : Option Addr) : HO := .ext fun h => ∃ oe vs, h.get? a = some oe ∧ Zc cls d oe ∧ oe.data = .fields vs
mutual
def Rep (c : Ct) (H : Hp) : D → V → Prop
  | .non, v => v = .non
  | .bl b, v => v = .bl b
  | .int i, v => v = .int i
  | .str x, v => v = .str x
  | .tup ds, v => ∃ a xs, v = .ref a ∧ H a = some (.tup xs) ∧ RepL c H ds xs
  | .lst ds, v => ∃ a xs, v = .ref a ∧ H a = some (.lst xs) ∧ RepL c H ds xs
  | .dic kvs, v => ∃ a xs, v = .ref a ∧ Rd H a (.dK xs) ∧ RepK c H kvs xs
  | .obj n fs, v => ∃ a C dx xs, v = .ref a ∧ c.mg n = some (.ref C) ∧ H a = some (.ins C dx xs) ∧ RepF c H fs xs
  | .exc n fs, v => ∃ a C dd xs, v = .ref a ∧ c.mg n = some (.ref C) ∧ H a = some (ExcO a (.ref C) dd) ∧ (match dd with | some d => H d = some (.xd xs) | none => xs = []) ∧ RepF c H fs xs
  | .st, v => ∃ a g l, c.q.dr = some (a, g, l) ∧ v = .ref a
  | .scr ns, v => ∃ a, v = .ref a ∧ SqL c.K H a (ns.map V.int)
  | .dtp ks, v => ∃ a kvs, v = .ref a ∧ H a = some (.dT kvs) ∧ kvs.map (·.1) = ks.map fun k => k.map Sum.inl
  | .fn x, v => ∃ a, v = .ref a ∧ c.mg x = some (.ref a)
def RepL (c : Ct) (H : Hp) : List D → List V → Prop
  | [], xs => xs = []
  | d :: ds, xs => ∃ x xr, xs = x :: xr ∧ Rep c H d x ∧ RepL c H ds xr
def RepK (c : Ct) (H : Hp) : List (Key × D) → List (Key × V) → Prop
  | [], xs => xs = []
  | (k, d) :: ds, xs => ∃ x xr, xs = (k, x) :: xr ∧ Rep c H d x ∧ RepK c H ds xr
def RepF (c : Ct) (H : Hp) : List (Str × D) → List (Str × V) → Prop
  | [], xs => xs = []
  | (k, d) :: ds, xs => ∃ x xr, xs = (k, x) :: xr ∧ Rep c H d x ∧ RepF c H ds xr
end
def Le (B B' : Hp) : Prop := ∀ a o, B a = some o → B' a = some o
theorem Le.refl (B : Hp) : Le B B := fun _ _ h => h
theorem Le.trans {A B C : Hp} (h : Le A B) (g : Le B C) : Le A C := fun a o e => g a o (h a o e)
theorem Le.sqT {K : PySem.W.Frag} {H H' : Hp} {a : Addr} {xs : List V} (e : Le H H') (h : SqT K H a xs) : SqT K H' a xs := by
  rcases h with (h | ⟨o, h⟩) | h
  · exact .inl (.inl (e _ _ h))
  · exact .inl (.inr ⟨o, e _ _ h⟩)
  · exact .inr h
theorem Le.sqL {K : PySem.W.Frag} {H H' : Hp} {a : Addr} {xs : List V} (e : Le H H') (h : SqL K H a xs) : SqL K H' a xs := Same.seq e h
mutual
theorem Rep.mono {c : Ct} {H H' : Hp} (e : Le H H') : ∀ {d : D} {v : V}, Rep c H d v → Rep c H' d v
  | .non, _, h => by unfold Rep at h ⊢; exact h
  | .bl b, _, h => by unfold Rep at h ⊢; exact h
  | .int i, _, h => by unfold Rep at h ⊢; exact h
  | .str x, _, h => by unfold Rep at h ⊢; exact h
  | .tup ds, _, h => by
    unfold Rep at h ⊢
    obtain ⟨a, xs, e1, h1, h2⟩ := h
    exact ⟨a, xs, e1, e _ _ h1, RepL.mono e h2⟩
  | .lst ds, _, h => by
    unfold Rep at h ⊢
    obtain ⟨a, xs, e1, h1, h2⟩ := h
    exact ⟨a, xs, e1, e _ _ h1, RepL.mono e h2⟩
  | .dic kvs, _, h => by
    unfold Rep at h ⊢
    obtain ⟨a, xs, e1, h1, h2⟩ := h
    exact ⟨a, xs, e1, h1.imp (e _ _) (fun ⟨o, h⟩ => ⟨o, e _ _ h⟩), RepK.mono e h2⟩
  | .obj n fs, _, h => by
    unfold Rep at h ⊢
    obtain ⟨a, C, dx, xs, e1, m, h1, h2⟩ := h
    exact ⟨a, C, dx, xs, e1, m, e _ _ h1, RepF.mono e h2⟩
  | .exc n fs, _, h => by
    unfold Rep at h ⊢
    obtain ⟨a, C, dd, xs, e1, m, h1, h3, h2⟩ := h
    refine ⟨a, C, dd, xs, e1, m, e _ _ h1, ?_, RepF.mono e h2⟩
    cases dd with
    | some d => exact e _ _ h3
    | none => exact h3
  | .st, _, h => by unfold Rep at h ⊢; exact h
  | .scr ns, _, h => by
    unfold Rep at h ⊢
    obtain ⟨a, e1, h1⟩ := h
    exact ⟨a, e1, e.sqL h1⟩
  | .dtp ks, _, h => by
    unfold Rep at h ⊢
    obtain ⟨a, kvs, e1, h1, h2⟩ := h
    exact ⟨a, kvs, e1, e _ _ h1, h2⟩
  | .fn x, _, h => by unfold Rep at h ⊢; exact h
theorem RepL.mono {c : Ct} {H H' : Hp} (e : Le H H') : ∀ {ds : List D} {vs : List V}, RepL c H ds vs → RepL c H' ds vs
  | [], _, h => by unfold RepL at h ⊢; exact h
  | d :: ds, _, h => by
    unfold RepL at h ⊢
    obtain ⟨x, xr, e1, h1, h2⟩ := h
    exact ⟨x, xr, e1, Rep.mono e h1, RepL.mono e h2⟩
theorem RepK.mono {c : Ct} {H H' : Hp} (e : Le H H') : ∀ {ds : List (Key × D)} {vs : List (Key × V)}, RepK c H ds vs → RepK c H' ds vs
  | [], _, h => by unfold RepK at h ⊢; exact h
  | (k, d) :: ds, _, h => by
    unfold RepK at h ⊢
    obtain ⟨x, xr, e1, h1, h2⟩ := h
    exact ⟨x, xr, e1, Rep.mono e h1, RepK.mono e h2⟩
theorem RepF.mono {c : Ct} {H H' : Hp} (e : Le H H') : ∀ {ds : List (Str × D)} {vs : List (Str × V)}, RepF c H ds vs → RepF c H' ds vs
  | [], _, h => by unfold RepF at h ⊢; exact h
  | (k, d) :: ds, _, h => by
    unfold RepF at h ⊢
    obtain ⟨x, xr, e1, h1, h2⟩ := h
    exact ⟨x, xr, e1, Rep.mono e h1, RepF.mono e h2⟩
end
/-- the content of an object that a def owns: a list, a dict -/
def RepO (c : Ct) (B : Hp) : D → HO → Prop
  | .dtp ks, o => ∃ kvs, o = .dT kvs ∧ kvs.map (·.1) = ks.map fun k => k.map Sum.inl
  | .lst ds, o => ∃ xs, o = .lst xs ∧ RepL c B ds xs
  | .dic ds, o => ∃ xs, o = .dK xs ∧ RepK c B ds xs
  | .obj n fs, o => ∃ C dx xs, o = .ins C dx xs ∧ c.mg n = some (.ref C) ∧ RepF c B fs xs
  | _, _ => False
theorem RepO.mono {c : Ct} {H H' : Hp} (e : Le H H') : ∀ {d : D} {o : HO}, RepO c H d o → RepO c H' d o
  | .dtp ks, _, h => h
  | .lst ds, _, ⟨xs, e1, h⟩ => ⟨xs, e1, h.mono e⟩
  | .dic ds, _, ⟨xs, e1, h⟩ => ⟨xs, e1, h.mono e⟩
  | .obj n fs, _, ⟨C, dx, xs, e1, m, h⟩ => ⟨C, dx, xs, e1, m, h.mono e⟩
theorem RepO.rep {c : Ct} {B : Hp} {p : Addr} {o : HO} : ∀ {d : D}, RepO c B d o → B p = some o → Rep c B d (.ref p)
  | .dtp ks, ⟨xs, e1, h⟩, hp => by
    unfold Rep
    exact ⟨p, xs, rfl, by rw [hp, e1], h⟩
  | .lst ds, ⟨xs, e1, h⟩, hp => by
    unfold Rep
    exact ⟨p, xs, rfl, by rw [hp, e1], h⟩
  | .dic ds, ⟨xs, e1, h⟩, hp => by
    unfold Rep
    exact ⟨p, xs, rfl, .inl (by rw [hp, e1]), h⟩
  | .obj n fs, ⟨C, dx, xs, e1, m, h⟩, hp => by
    unfold Rep
    exact ⟨p, C, dx, xs, rfl, m, by rw [hp, e1], h⟩
theorem RepO.ntb {c : Ct} {B : Hp} {o : HO} : ∀ {d : D}, RepO c B d o → ∀ ps, o ≠ .tbl ps
  | .dtp ks, ⟨xs, e1, h⟩, ps, z => by rw [e1] at z; cases z
  | .lst ds, ⟨xs, e1, h⟩, ps, z => by rw [e1] at z; cases z
  | .dic ds, ⟨xs, e1, h⟩, ps, z => by rw [e1] at z; cases z
  | .obj n fs, ⟨C, dx, xs, e1, m, h⟩, ps, z => by rw [e1] at z; cases z
theorem RepO.ntup {c : Ct} {B : Hp} {o : HO} : ∀ {d : D}, RepO c B d o → ∀ xs, o ≠ .tup xs
  | .dtp ks, ⟨xs, e1, h⟩, ps, z => by rw [e1] at z; cases z
  | .lst ds, ⟨xs, e1, h⟩, ps, z => by rw [e1] at z; cases z
  | .dic ds, ⟨xs, e1, h⟩, ps, z => by rw [e1] at z; cases z
  | .obj n fs, ⟨C, dx, xs, e1, m, h⟩, ps, z => by rw [e1] at z; cases z
theorem RepO.nco {c : Ct} {B : Hp} {o : HO} : ∀ {d : D}, RepO c B d o → ∀ a q, o ≠ LamX.CodeO a q
  | .dtp ks, ⟨xs, e1, h⟩, a, q, z => by rw [e1] at z; unfold LamX.CodeO at z; cases z
  | .lst ds, ⟨xs, e1, h⟩, a, q, z => by rw [e1] at z; unfold LamX.CodeO at z; cases z
  | .dic ds, ⟨xs, e1, h⟩, a, q, z => by rw [e1] at z; unfold LamX.CodeO at z; cases z
  | .obj n fs, ⟨C, dx, xs, e1, m, h⟩, a, q, z => by rw [e1] at z; unfold LamX.CodeO at z; cases z
/-! ### the draws' state -/
def stH (g l : Addr) (left turn : Int) : HO := .dK [(.inr "great", .ref g), (.inr "cells", .ref l), (.inr "left", .int left), (.inr "turn", .int turn)]
def DrawR (c : Ct) (H : Hp) (T : Nat) : Prop := match c.q.dr with
  | none => True
  | some (a, g, l) => a ≠ g ∧ a ≠ l ∧ g ≠ l ∧ ∃ (gs ls : List Int) (left turn : Int), H a = some (stH g l left turn) ∧ H g = some (.lst (gs.map V.int)) ∧ H l = some (.lst (ls.map V.int)) ∧
      (∀ x ∈ gs, 0 ≤ x) ∧ gs.length ≤ 63 ∧ (∀ x ∈ ls, 0 ≤ x) ∧ ls.length ≤ 63 ∧ 0 ≤ left ∧ 0 ≤ turn ∧ turn ≤ T
/-- nothing stood there, or a table -/
def Fr (H : Hp) (p : Addr) : Prop := ∀ o, H p = some o → ∃ ps, o = HO.tbl ps
theorem Fr.of {H : Hp} {p : Addr} (h : H p = none) : Fr H p := fun o e => by rw [h] at e; cases e
theorem Fr.ne {H : Hp} {p a : Addr} {o : HO} (f : Fr H p) (h : H a = some o) (n : ∀ ps, o ≠ .tbl ps) : a ≠ p := fun z => by
  rw [z] at h
  obtain ⟨ps, e⟩ := f o h
  exact n ps e
variable [Tb]
/-- free, a table, or a tuple -/
def FrT (H : Hp) (a : Addr) : Prop := Fr H a ∨ ∃ xs, H a = some (.tup xs)
/-- no table, no tuple -/
def NT (o : HO) : Prop := (∀ ps, o ≠ .tbl ps) ∧ ∀ xs, o ≠ .tup xs
/-- from the entry (heap H0, its frozen part B0) to here (H, B) -/
structure Bs (c : Ct) (H0 B0 H B : Hp) (T : Nat) : Prop where
  leB : Le B0 B
  new : ∀ a, B0 a = none → B a ≠ none → FrT H0 a
  frame : ∀ a o, H0 a = some o → a ∉ c.drs → (∀ ps, o ≠ .tbl ps) → H a = some o
  leH : Le B H
  avoid : ∀ a ∈ c.drs, B a = none
  ntb : ∀ a ps, B a ≠ some (.tbl ps)
  dr0 : ∀ a ∈ c.drs, ¬ Fr H0 a
  some0 : ∀ a, ¬ Fr H0 a → ¬ Fr H a
  draw : DrawR c H T
  tabs : LamX.Tabs Tb.tb H
theorem Bs.drH {c : Ct} {H0 B0 H B : Hp} {T : Nat} (b : Bs c H0 B0 H B T) : ∀ a ∈ c.drs, ¬ Fr H a := fun a h => b.some0 a (b.dr0 a h)
theorem nFr {H : Hp} {p : Addr} {o : HO} (h : H p = some o) (n : ∀ ps, o ≠ .tbl ps) : ¬ Fr H p := fun f => by
  obtain ⟨ps, e⟩ := f o h
  exact n ps e
theorem nFr.upd {H : Hp} {a p : Addr} {o : HO} (h : ¬ Fr H a) (ne : a ≠ p) : ¬ Fr (upd H p o) a := fun f => h fun u e => f u (by rw [upd_ne ne]; exact e)
theorem nFr.some {H : Hp} {a : Addr} (h : ¬ Fr H a) : H a ≠ none := fun z => h (Fr.of z)
inductive Sl where
  | fz (d : D) | ow (d : D)
def Sl.d : Sl → D
  | .fz d => d
  | .ow d => d
structure DS where
  sl : List (Option Sl)
  T : Nat
def DS.put (s : DS) (i : Nat) (x : Sl) : DS := ⟨s.sl.set i (some x), s.T⟩
def DS.tick (s : DS) (T : Nat) : DS := ⟨s.sl, T⟩
structure At (c : Ct) (L : List (Addr × HO)) (H0 B0 : Hp) (σ : L2.St) (H : Hp) (s : DS) (B : Hp) : Prop where
  bs : Bs c H0 B0 H B s.T
  len : s.sl.length ≤ σ.length
  fz : ∀ (i : Nat) (d : D), s.sl[i]? = some (some (Sl.fz d)) → ∃ v, σ[i]? = some (some v) ∧ Rep c B d v
  ow : ∀ (i : Nat) (d : D), s.sl[i]? = some (some (Sl.ow d)) → ∃ (p : Addr) (o : HO), σ[i]? = some (some (V.ref p)) ∧ Fr H0 p ∧ B p = none ∧ H p = some o ∧ RepO c B d o
  inj : ∀ (i j : Nat) (d e : D) (p : Addr), s.sl[i]? = some (some (Sl.ow d)) → s.sl[j]? = some (some (Sl.ow e)) → σ[i]? = some (some (V.ref p)) → σ[j]? = some (some (V.ref p)) → i = j
  hold : ∀ x ∈ L, H x.1 = some x.2 ∧ Fr H0 x.1 ∧ B x.1 = none ∧ NT x.2 ∧ ∀ (i : Nat) (d : D), s.sl[i]? = some (some (Sl.ow d)) → σ[i]? ≠ some (some (V.ref x.1))
/-! ### moves of At -/
section
variable {c : Ct} {L : List (Addr × HO)} {H0 B0 H B : Hp} {σ : L2.St} {s : DS} {T : Nat}
theorem Bs.fresh (b : Bs c H0 B0 H B T) {p : Addr} (hp : H p = none) : Fr H0 p := Classical.byContradiction fun z => b.some0 p z (Fr.of hp)
theorem Bs.nB (b : Bs c H0 B0 H B T) {p : Addr} (hp : H p = none) : B p = none := by
  cases e : B p with
  | none => rfl
  | some o => rw [b.leH _ _ e] at hp; cases hp
theorem Le.upd {B : Hp} {p : Addr} {o : HO} (h : B p = none) : Le B (upd B p o) := fun a u e => by
  rw [upd_ne (ne_of_none e h)]
  exact e
theorem DrawR.keep {H' : Hp} {T' : Nat} (d : DrawR c H T) (h : ∀ a ∈ c.drs, H' a = H a) (ht : T ≤ T') : DrawR c H' T' := by
  unfold DrawR at d ⊢
  unfold Ct.drs at h
  cases e : c.q.dr with
  | none => trivial
  | some x =>
    obtain ⟨a, g, l⟩ := x
    rw [e] at d h
    obtain ⟨h1, h2, h3, gs, ls, le, tu, q1, q2, q3, q4, q5, q6, q7, q8, q9, q10⟩ := d
    refine ⟨h1, h2, h3, gs, ls, le, tu, ?_, ?_, ?_, q4, q5, q6, q7, q8, q9, Int.le_trans q10 (by omega)⟩
    · rw [h a (by simp)]; exact q1
    · rw [h g (by simp)]; exact q2
    · rw [h l (by simp)]; exact q3
theorem Bs.tickUp (b : Bs c H0 B0 H B T) {T' : Nat} (h : T ≤ T') : Bs c H0 B0 H B T' := { b with draw := b.draw.keep (fun _ _ => rfl) h }
theorem Bs.nd (b : Bs c H0 B0 H B T) {p : Addr} (hp : Fr H p) : p ∉ c.drs := fun z => b.drH p z hp
theorem Bs.nd0 (b : Bs c H0 B0 H B T) {p : Addr} (hp : Fr H0 p) : p ∉ c.drs := fun z => b.dr0 p z hp
/-- a new object of the frozen part -/
theorem Bs.alloc (b : Bs c H0 B0 H B T) {p : Addr} {o : HO} (hp : H p = none) (nt : ∀ ps, o ≠ .tbl ps) : Bs c H0 B0 (upd H p o) (upd B p o) T := by
  have hB := b.nB hp
  have nd : p ∉ c.drs := b.nd (Fr.of hp)
  refine ⟨b.leB.trans (Le.upd hB), fun a h1 h2 => ?_, fun a u h1 h2 h3 => ?_, fun a u e => ?_, fun a h => ?_, fun a ps e => ?_, b.dr0, fun a h => ?_, b.draw.keep (fun a h => upd_ne fun z => nd (by rw [← z]; exact h)) (Nat.le_refl _), b.tabs.ext fun a u e => ?_⟩
  · by_cases z : a = p
    · rw [z]; exact .inl (b.fresh hp)
    · rw [upd_ne z] at h2; exact b.new a h1 h2
  · have q := b.frame a u h1 h2 h3
    rw [upd_ne (ne_of_none q hp)]; exact q
  · by_cases z : a = p
    · rw [z, upd_same] at e; rw [z, upd_same]; exact e
    · rw [upd_ne z] at e ⊢; exact b.leH a u e
  · rw [upd_ne fun z => nd (by rw [← z]; exact h)]; exact b.avoid a h
  · by_cases z : a = p
    · rw [z, upd_same] at e; exact nt ps (Option.some.inj e)
    · rw [upd_ne z] at e; exact b.ntb a ps e
  · exact nFr.upd (b.some0 a h) fun z => b.some0 a h (by rw [z]; exact Fr.of hp)
  · rw [upd_ne (ne_of_none e hp)]; exact e
/-- a new object that is not frozen -/
theorem Bs.own (b : Bs c H0 B0 H B T) {p : Addr} {o : HO} (hp : H p = none) : Bs c H0 B0 (upd H p o) B T := by
  have hB := b.nB hp
  have nd : p ∉ c.drs := b.nd (Fr.of hp)
  refine ⟨b.leB, b.new, fun a u h1 h2 h3 => ?_, fun a u e => ?_, b.avoid, b.ntb, b.dr0, fun a h => ?_, b.draw.keep (fun a h => upd_ne fun z => nd (by rw [← z]; exact h)) (Nat.le_refl _), b.tabs.ext fun a u e => ?_⟩
  · have q := b.frame a u h1 h2 h3
    rw [upd_ne (ne_of_none q hp)]; exact q
  · rw [upd_ne (ne_of_none e hB)]; exact b.leH a u e
  · exact nFr.upd (b.some0 a h) fun z => b.some0 a h (by rw [z]; exact Fr.of hp)
  · rw [upd_ne (ne_of_none e hp)]; exact e
theorem At.alloc (t : At c L H0 B0 σ H s B) {p : Addr} {o : HO} (hp : H p = none) (nt : ∀ ps, o ≠ .tbl ps) : At c L H0 B0 σ (upd H p o) s (upd B p o) := by
  have hB := t.bs.nB hp
  refine ⟨t.bs.alloc hp nt, t.len, fun i d h => ?_, fun i d h => ?_, t.inj, fun x hx => ?_⟩
  · obtain ⟨v, h1, h2⟩ := t.fz i d h
    exact ⟨v, h1, h2.mono (Le.upd hB)⟩
  · obtain ⟨q, u, h1, h2, h3, h4, h5⟩ := t.ow i d h
    have nq : q ≠ p := ne_of_none h4 hp
    exact ⟨q, u, h1, h2, by rw [upd_ne nq]; exact h3, by rw [upd_ne nq]; exact h4, h5.mono (Le.upd hB)⟩
  · obtain ⟨h1, h2, h3, h4, h5⟩ := t.hold x hx
    have nq : x.1 ≠ p := ne_of_none h1 hp
    exact ⟨by rw [upd_ne nq]; exact h1, h2, by rw [upd_ne nq]; exact h3, h4, h5⟩
/-- a new object held aside -/
theorem At.holdNew (t : At c L H0 B0 σ H s B) {p : Addr} {o : HO} (hp : H p = none) (nt : ∀ ps, o ≠ .tbl ps) (nt2 : ∀ xs, o ≠ .tup xs := by intro _ z; cases z) : At c ((p, o) :: L) H0 B0 σ (upd H p o) s B := by
  have hB := t.bs.nB hp
  have ne : ∀ {a u}, H a = some u → a ≠ p := fun e => ne_of_none e hp
  refine ⟨t.bs.own hp, t.len, t.fz, fun i d h => ?_, t.inj, fun x hx => ?_⟩
  · obtain ⟨q, u, h1, h2, h3, h4, h5⟩ := t.ow i d h
    exact ⟨q, u, h1, h2, h3, by rw [upd_ne (ne h4)]; exact h4, h5⟩
  · rcases List.mem_cons.mp hx with rfl | hx
    · refine ⟨upd_same, t.bs.fresh hp, hB, ⟨nt, nt2⟩, fun i d h z => ?_⟩
      obtain ⟨q, u, h1, h2, h3, h4, h5⟩ := t.ow i d h
      rw [h1] at z
      cases z
      exact ne h4 rfl
    · obtain ⟨h1, h2, h3, h4, h5⟩ := t.hold x hx
      exact ⟨by rw [upd_ne (ne h1)]; exact h1, h2, h3, h4, h5⟩
theorem At.tick (t : At c L H0 B0 σ H s B) {T' : Nat} (h : s.T ≤ T') : At c L H0 B0 σ H (s.tick T') B := ⟨t.bs.tickUp h, t.len, t.fz, t.ow, t.inj, t.hold⟩
theorem get_set {α : Type} {l : List (Option α)} {i j : Nat} {x y : Option α} (h : (l.set i x)[j]? = some y) : (i = j ∧ y = x) ∨ (i ≠ j ∧ l[j]? = some y) := by
  by_cases e : i = j
  · subst e
    left
    rw [List.getElem?_set_self'] at h
    refine ⟨rfl, ?_⟩
    cases q : l[i]? with
    | none => rw [q] at h; cases h
    | some z => rw [q] at h; exact (Option.some.inj h).symm
  · right
    rw [List.getElem?_set_ne e] at h
    exact ⟨e, h⟩
/-- slot i takes a frozen value -/
theorem At.setFz (t : At c L H0 B0 σ H s B) {i : Nat} {d : D} {v : V} (r : Rep c B d v) : At c L H0 B0 (σ.set i (some v)) H (s.put i (.fz d)) B := by
  refine ⟨t.bs, by simp only [DS.put, List.length_set]; exact t.len, fun j e h => ?_, fun j e h => ?_, fun j k e f p h1 h2 h3 h4 => ?_, fun x hx => ?_⟩
  · have hl := (List.getElem?_eq_some_iff.mp h).1
    rcases get_set h with ⟨rfl, q⟩ | ⟨n, q⟩
    · cases q
      refine ⟨v, ?_, r⟩
      rw [List.getElem?_set_self (by have := t.len; simp only [DS.put, List.length_set] at hl; omega)]
    · obtain ⟨w, w1, w2⟩ := t.fz j e q
      exact ⟨w, by rw [List.getElem?_set_ne n]; exact w1, w2⟩
  · rcases get_set h with ⟨rfl, q⟩ | ⟨n, q⟩
    · cases q
    · obtain ⟨p, o, w1, w2⟩ := t.ow j e q
      exact ⟨p, o, by rw [List.getElem?_set_ne n]; exact w1, w2⟩
  · rcases get_set h1 with ⟨rfl, q⟩ | ⟨n, q⟩
    · cases q
    · rcases get_set h2 with ⟨rfl, q2⟩ | ⟨n2, q2⟩
      · cases q2
      · rw [List.getElem?_set_ne n] at h3
        rw [List.getElem?_set_ne n2] at h4
        exact t.inj j k e f p q q2 h3 h4
  · obtain ⟨h1, h2, h3, h4, h5⟩ := t.hold x hx
    refine ⟨h1, h2, h3, h4, fun j e q z => ?_⟩
    rcases get_set q with ⟨rfl, q1⟩ | ⟨n, q1⟩
    · cases q1
    · rw [List.getElem?_set_ne n] at z
      exact h5 j e q1 z
/-- slot i takes a new object of the def's own -/
theorem At.setOw (t : At c L H0 B0 σ H s B) {i : Nat} {p : Addr} {d : D} {o : HO} (hp : H p = none) (r : RepO c B d o) : At c L H0 B0 (σ.set i (some (.ref p))) (upd H p o) (s.put i (.ow d)) B := by
  refine ⟨t.bs.own hp, by simp only [DS.put, List.length_set]; exact t.len, fun j e h => ?_, fun j e h => ?_, fun j k e f q h1 h2 h3 h4 => ?_, fun x hx => ?_⟩
  · rcases get_set h with ⟨rfl, q⟩ | ⟨n, q⟩
    · cases q
    · obtain ⟨w, w1, w2⟩ := t.fz j e q
      exact ⟨w, by rw [List.getElem?_set_ne n]; exact w1, w2⟩
  · have hl := (List.getElem?_eq_some_iff.mp h).1
    rcases get_set h with ⟨rfl, q⟩ | ⟨n, q⟩
    · cases q
      refine ⟨p, o, ?_, t.bs.fresh hp, t.bs.nB hp, upd_same, r⟩
      rw [List.getElem?_set_self (by have := t.len; simp only [DS.put, List.length_set] at hl; omega)]
    · obtain ⟨p', o', w1, w2, w3, w4, w5⟩ := t.ow j e q
      exact ⟨p', o', by rw [List.getElem?_set_ne n]; exact w1, w2, w3, by rw [upd_ne (ne_of_none w4 hp)]; exact w4, w5⟩
  · have old : ∀ {j : Nat} {e : D} {q : Addr}, s.sl[j]? = some (some (Sl.ow e)) → σ[j]? = some (some (V.ref q)) → q ≠ p := fun {j e q} a b => by
      obtain ⟨p', o', w1, w2, w3, w4, w5⟩ := t.ow j e a
      rw [b] at w1
      cases w1
      exact ne_of_none w4 hp
    rcases get_set h1 with ⟨rfl, q1⟩ | ⟨n, q1⟩
    · rcases get_set h2 with ⟨rfl, q2⟩ | ⟨n2, q2⟩
      · rfl
      · rw [List.getElem?_set_ne n2] at h4
        have hl := (List.getElem?_eq_some_iff.mp h3).1
        rw [List.length_set] at hl
        rw [List.getElem?_set_self hl] at h3
        cases h3
        exact absurd rfl (old q2 h4)
    · rw [List.getElem?_set_ne n] at h3
      rcases get_set h2 with ⟨rfl, q2⟩ | ⟨n2, q2⟩
      · have hl := (List.getElem?_eq_some_iff.mp h4).1
        rw [List.length_set] at hl
        rw [List.getElem?_set_self hl] at h4
        cases h4
        exact absurd rfl (old q1 h3)
      · rw [List.getElem?_set_ne n2] at h4
        exact t.inj j k e f q q1 q2 h3 h4
  · obtain ⟨h1, h2, h3, h4, h5⟩ := t.hold x hx
    have nq : x.1 ≠ p := ne_of_none h1 hp
    refine ⟨by rw [upd_ne nq]; exact h1, h2, h3, h4, fun j e q z => ?_⟩
    rcases get_set q with ⟨rfl, q1⟩ | ⟨n, q1⟩
    · have hl := (List.getElem?_eq_some_iff.mp z).1
      rw [List.length_set] at hl
      rw [List.getElem?_set_self hl] at z
      cases z
      exact nq rfl
    · rw [List.getElem?_set_ne n] at z
      exact h5 j e q1 z
/-- what slot i owns is frozen -/
theorem At.freeze (t : At c L H0 B0 σ H s B) {i : Nat} {d : D} (h : s.sl[i]? = some (some (.ow d))) : ∃ p B', σ[i]? = some (some (.ref p)) ∧ Le B B' ∧ Rep c B' d (.ref p) ∧ At c L H0 B0 σ H (s.put i (.fz d)) B' := by
  obtain ⟨p, o, h1, h2, h3, h4, h5⟩ := t.ow i d h
  have le : Le B (upd B p o) := Le.upd h3
  have nd : p ∉ c.drs := t.bs.nd0 h2
  have r : Rep c (upd B p o) d (.ref p) := (h5.mono le).rep upd_same
  refine ⟨p, upd B p o, h1, le, r, ⟨⟨t.bs.leB.trans le, fun a q1 q2 => ?_, t.bs.frame, fun a u e => ?_, fun a q => ?_, fun a ps e => ?_, t.bs.dr0, t.bs.some0, t.bs.draw, t.bs.tabs⟩, by simp only [DS.put, List.length_set]; exact t.len, fun j e q => ?_, fun j e q => ?_, fun j k e f q g1 g2 g3 g4 => ?_, fun x hx => ?_⟩⟩
  · by_cases z : a = p
    · rw [z]; exact .inl h2
    · rw [upd_ne z] at q2; exact t.bs.new a q1 q2
  · by_cases z : a = p
    · rw [z, upd_same] at e; cases e; rw [z]; exact h4
    · rw [upd_ne z] at e; exact t.bs.leH a u e
  · rw [upd_ne fun z => nd (by rw [← z]; exact q)]; exact t.bs.avoid a q
  · by_cases z : a = p
    · rw [z, upd_same] at e; exact h5.ntb ps (Option.some.inj e)
    · rw [upd_ne z] at e; exact t.bs.ntb a ps e
  · rcases get_set q with ⟨rfl, qq⟩ | ⟨n, qq⟩
    · cases qq
      exact ⟨_, h1, r⟩
    · obtain ⟨w, w1, w2⟩ := t.fz j e qq
      exact ⟨w, w1, w2.mono le⟩
  · rcases get_set q with ⟨rfl, qq⟩ | ⟨n, qq⟩
    · cases qq
    · obtain ⟨p', o', w1, w2, w3, w4, w5⟩ := t.ow j e qq
      have np : p' ≠ p := fun z => n (t.inj i j d e p h qq h1 (by rw [← z]; exact w1))
      exact ⟨p', o', w1, w2, by rw [upd_ne np]; exact w3, w4, w5.mono le⟩
  · rcases get_set g1 with ⟨rfl, q1⟩ | ⟨n, q1⟩
    · cases q1
    · rcases get_set g2 with ⟨rfl, q2⟩ | ⟨n2, q2⟩
      · cases q2
      · exact t.inj j k e f q q1 q2 g3 g4
  · obtain ⟨w1, w2, w3, w4, w5⟩ := t.hold x hx
    have nq : x.1 ≠ p := fun z => w5 i d h (by rw [h1, z])
    refine ⟨w1, w2, by rw [upd_ne nq]; exact w3, w4, fun j e q z => ?_⟩
    rcases get_set q with ⟨rfl, q1⟩ | ⟨n, q1⟩
    · cases q1
    · exact w5 j e q1 z
/-- what slot i owns is changed -/
theorem At.change (t : At c L H0 B0 σ H s B) {i : Nat} {d d' : D} {p : Addr} {o' : HO} (h : s.sl[i]? = some (some (.ow d))) (hp : σ[i]? = some (some (V.ref p))) (r : RepO c B d' o') : At c L H0 B0 σ (upd H p o') (s.put i (.ow d')) B := by
  obtain ⟨p0, o, h1, h2, h3, h4, h5⟩ := t.ow i d h
  rw [hp] at h1
  cases h1
  have nd : p ∉ c.drs := t.bs.nd0 h2
  refine ⟨⟨t.bs.leB, t.bs.new, fun a u q1 q2 q3 => ?_, fun a u e => ?_, t.bs.avoid, t.bs.ntb, t.bs.dr0, fun a q => ?_, t.bs.draw.keep (fun a q => upd_ne fun z => nd (by rw [← z]; exact q)) (Nat.le_refl _), ?_⟩, by simp only [DS.put, List.length_set]; exact t.len, fun j e q => ?_, fun j e q => ?_, fun j k e f q g1 g2 g3 g4 => ?_, fun x hx => ?_⟩
  · rw [upd_ne (h2.ne q1 q3)]; exact t.bs.frame a u q1 q2 q3
  · rw [upd_ne (ne_of_none e h3)]; exact t.bs.leH a u e
  · exact nFr.upd (t.bs.some0 a q) fun z => q (by rw [z]; exact h2)
  · intro x hx
    obtain ⟨ps, e1, e2, e3⟩ := t.bs.tabs x hx
    have n1 : x.1 ≠ p := fun z => by
      rw [z, h4] at e1
      exact h5.ntb ps (Option.some.inj e1)
    refine ⟨ps, by rw [upd_ne n1]; exact e1, e2, fun pos cv hc => ?_⟩
    obtain ⟨cc, q1, q2⟩ := e3 pos cv hc
    have n2 : cc ≠ p := fun z => by
      rw [z, h4] at q2
      exact h5.nco p _ (Option.some.inj q2)
    exact ⟨cc, q1, by rw [upd_ne n2]; exact q2⟩
  · rcases get_set q with ⟨rfl, qq⟩ | ⟨n, qq⟩
    · cases qq
    · exact t.fz j e qq
  · rcases get_set q with ⟨rfl, qq⟩ | ⟨n, qq⟩
    · cases qq
      exact ⟨p, o', hp, h2, h3, upd_same, r⟩
    · obtain ⟨p', u', w1, w2, w3, w4, w5⟩ := t.ow j e qq
      have np : p' ≠ p := fun z => n (t.inj i j d e p h qq hp (by rw [← z]; exact w1))
      exact ⟨p', u', w1, w2, w3, by rw [upd_ne np]; exact w4, w5⟩
  · rcases get_set g1 with ⟨rfl, q1⟩ | ⟨n, q1⟩
    · rcases get_set g2 with ⟨rfl, q2⟩ | ⟨n2, q2⟩
      · rfl
      · exact t.inj i k d f q h q2 g3 g4
    · rcases get_set g2 with ⟨rfl, q2⟩ | ⟨n2, q2⟩
      · exact t.inj j i e d q q1 h g3 g4
      · exact t.inj j k e f q q1 q2 g3 g4
  · obtain ⟨w1, w2, w3, w4, w5⟩ := t.hold x hx
    have nq : x.1 ≠ p := fun z => w5 i d h (by rw [hp, z])
    refine ⟨by rw [upd_ne nq]; exact w1, w2, w3, w4, fun j e q z => ?_⟩
    rcases get_set q with ⟨rfl, q1⟩ | ⟨n, q1⟩
    · exact w5 i d h z
    · exact w5 j e q1 z
/-! ### an object of one's own leaves -/
def Hp.less (H : Hp) (p : Addr) : Hp := fun a => if a = p then none else H a
theorem less_same {H : Hp} {p : Addr} : Hp.less H p p = none := by unfold Hp.less; rw [if_pos rfl]
theorem less_ne {H : Hp} {p a : Addr} (h : a ≠ p) : Hp.less H p a = H a := by unfold Hp.less; rw [if_neg h]
theorem upd_less {H : Hp} {p : Addr} {o : HO} (h : H p = some o) : upd (Hp.less H p) p o = H := by
  funext a
  by_cases z : a = p
  · rw [z, upd_same, h]
  · rw [upd_ne z, less_ne z]
theorem Bs.less (b : Bs c H0 B0 H B T) {p : Addr} (h0 : Fr H0 p) (hB : B p = none) {o : HO} (ho : H p = some o) (nt : ∀ ps, o ≠ .tbl ps) (nc : ∀ q, o ≠ LamX.CodeO p q) : Bs c H0 B0 (Hp.less H p) B T := by
  have nd : p ∉ c.drs := b.nd0 h0
  refine ⟨b.leB, b.new, fun a u h1 h2 h3 => ?_, fun a u e => ?_, b.avoid, b.ntb, b.dr0, fun a h => ?_, b.draw.keep (fun a h => less_ne fun z => nd (by rw [← z]; exact h)) (Nat.le_refl _), fun x hx => ?_⟩
  · rw [less_ne (h0.ne h1 h3)]; exact b.frame a u h1 h2 h3
  · rw [less_ne (ne_of_none e hB)]; exact b.leH a u e
  · exact fun f => b.some0 a h fun u e => f u (by rw [less_ne fun z => h (by rw [z]; exact h0)]; exact e)
  · obtain ⟨ps, e1, e2, e3⟩ := b.tabs x hx
    have n1 : x.1 ≠ p := fun z => by rw [z, ho] at e1; exact nt ps (Option.some.inj e1)
    refine ⟨ps, by rw [less_ne n1]; exact e1, e2, fun pos cv hc => ?_⟩
    obtain ⟨cc, q1, q2⟩ := e3 pos cv hc
    have n2 : cc ≠ p := fun z => by rw [z, ho] at q2; exact nc _ (Option.some.inj q2)
    exact ⟨cc, q1, by rw [less_ne n2]; exact q2⟩
def DS.drop (s : DS) (i : Nat) : DS := ⟨s.sl.set i none, s.T⟩
/-- what slot i owns is handed out: the slot is empty, the object stands alone -/
theorem At.take (t : At c L H0 B0 σ H s B) {i : Nat} {d : D} (h : s.sl[i]? = some (some (.ow d))) : ∃ p o, σ[i]? = some (some (.ref p)) ∧ Hp.less H p p = none ∧ H = upd (Hp.less H p) p o ∧ RepO c B d o ∧ At c L H0 B0 σ (Hp.less H p) (s.drop i) B := by
  obtain ⟨p, o, h1, h2, h3, h4, h5⟩ := t.ow i d h
  refine ⟨p, o, h1, less_same, (upd_less h4).symm, h5, ⟨t.bs.less h2 h3 h4 h5.ntb (fun q => h5.nco p q), by simp only [DS.drop, List.length_set]; exact t.len, fun j e q => ?_, fun j e q => ?_, fun j k e f q g1 g2 g3 g4 => ?_, fun x hx => ?_⟩⟩
  · rcases get_set q with ⟨rfl, q1⟩ | ⟨n, q1⟩
    · cases q1
    · exact t.fz j e q1
  · rcases get_set q with ⟨rfl, q1⟩ | ⟨n, q1⟩
    · cases q1
    · obtain ⟨p', o', w1, w2, w3, w4, w5⟩ := t.ow j e q1
      have np : p' ≠ p := fun z => n (t.inj i j d e p h q1 h1 (by rw [← z]; exact w1))
      exact ⟨p', o', w1, w2, w3, by rw [less_ne np]; exact w4, w5⟩
  · rcases get_set g1 with ⟨rfl, q1⟩ | ⟨n, q1⟩
    · cases q1
    · rcases get_set g2 with ⟨rfl, q2⟩ | ⟨n2, q2⟩
      · cases q2
      · exact t.inj j k e f q q1 q2 g3 g4
  · obtain ⟨w1, w2, w3, w4, w5⟩ := t.hold x hx
    have nq : x.1 ≠ p := fun z => w5 i d h (by rw [h1, z])
    refine ⟨by rw [less_ne nq]; exact w1, w2, w3, w4, fun j e q z => ?_⟩
    rcases get_set q with ⟨rfl, q1⟩ | ⟨n, q1⟩
    · cases q1
    · exact w5 j e q1 z
/-- what is held aside is handed out -/
theorem At.let (t : At c ((p, o) :: L) H0 B0 σ H s B) (nc : ∀ q, o ≠ LamX.CodeO p q) (nL : ∀ x ∈ L, x.1 ≠ p) : Hp.less H p p = none ∧ H = upd (Hp.less H p) p o ∧ At c L H0 B0 σ (Hp.less H p) s B := by
  obtain ⟨h1, h2, h3, h4, h5⟩ := t.hold (p, o) List.mem_cons_self
  refine ⟨less_same, (upd_less h1).symm, ⟨t.bs.less h2 h3 h1 h4.1 nc, t.len, t.fz, fun i d h => ?_, t.inj, fun x hx => ?_⟩⟩
  · obtain ⟨q, u, w1, w2, w3, w4, w5⟩ := t.ow i d h
    have nq : q ≠ p := fun z => h5 i d h (by rw [w1, z])
    exact ⟨q, u, w1, w2, w3, by rw [less_ne nq]; exact w4, w5⟩
  · obtain ⟨w1, w2, w3, w4, w5⟩ := t.hold x (List.mem_cons_of_mem _ hx)
    exact ⟨by rw [less_ne (nL x hx)]; exact w1, w2, w3, w4, w5⟩
/-! ### calls -/
theorem Bs.tup_nd (b : Bs c H0 B0 H B T) {a : Addr} {xs : List V} (h : H a = some (.tup xs)) : a ∉ c.drs := fun z => by
  have d := b.draw
  unfold DrawR at d
  unfold Ct.drs at z
  cases e : c.q.dr with
  | none => rw [e] at z; cases z
  | some x =>
    obtain ⟨a', g, l⟩ := x
    rw [e] at d z
    obtain ⟨h1, h2, h3, gs, ls, le, tu, q1, q2, q3, _⟩ := d
    simp only [List.mem_cons, List.not_mem_nil, or_false] at z
    rcases z with z | z | z
    · rw [z, q1] at h; cases h
    · rw [z, q2] at h; cases h
    · rw [z, q3] at h; cases h
theorem Bs.self (b : Bs c H0 B0 H B T) : Bs c H B H B T := ⟨Le.refl B, fun a h1 h2 => absurd h1 h2, fun a o h _ _ => h, b.leH, b.avoid, b.ntb, b.drH, fun a h => h, b.draw, b.tabs⟩
theorem Bs.trans {H' B' : Hp} {T' : Nat} (b : Bs c H0 B0 H B T) (b' : Bs c H B H' B' T') : Bs c H0 B0 H' B' T' := by
  refine ⟨b.leB.trans b'.leB, fun a h1 h2 => ?_, fun a o h1 h2 h3 => b'.frame a o (b.frame a o h1 h2 h3) h2 h3, b'.leH, b'.avoid, b'.ntb, b.dr0, fun a h => b'.some0 a (b.some0 a h), b'.draw, b'.tabs⟩
  by_cases z : B a = none
  · refine Classical.byContradiction fun y => ?_
    rcases b'.new a z h2 with f | ⟨xs, f⟩
    · exact b.some0 a (fun q => y (.inl q)) f
    · refine y (.inl fun u hu => Classical.byContradiction fun n => ?_)
      have k := b.frame a u hu (b.tup_nd f) fun ps q => n ⟨ps, q⟩
      rw [f] at k
      exact y (.inr ⟨xs, by rw [hu, ← k]⟩)
  · exact b.new a h1 z
theorem At.call {H' B' : Hp} {T' : Nat} (t : At c L H0 B0 σ H s B) (b : Bs c H B H' B' T') : At c L H0 B0 σ H' (s.tick T') B' := by
  have nB : ∀ {p o}, H p = some o → NT o → B p = none → B' p = none := fun {p o} e n h => by
    cases q : B' p with
    | none => rfl
    | some u =>
      rcases b.new p h (by rw [q]; simp) with f | ⟨xs, f⟩
      · obtain ⟨ps, z⟩ := f o e
        exact (n.1 ps z).elim
      · rw [e] at f
        exact (n.2 xs (Option.some.inj f)).elim
  refine ⟨t.bs.trans b, t.len, fun i d h => ?_, fun i d h => ?_, t.inj, fun x hx => ?_⟩
  · obtain ⟨v, h1, h2⟩ := t.fz i d h
    exact ⟨v, h1, h2.mono b.leB⟩
  · obtain ⟨p, o, h1, h2, h3, h4, h5⟩ := t.ow i d h
    exact ⟨p, o, h1, h2, nB h4 ⟨h5.ntb, h5.ntup⟩ h3, b.frame p o h4 (t.bs.nd0 h2) h5.ntb, h5.mono b.leB⟩
  · obtain ⟨h1, h2, h3, h4, h5⟩ := t.hold x hx
    exact ⟨b.frame _ _ h1 (t.bs.nd0 h2) h4.1, h2, nB h1 h4 h3, h4, h5⟩
end
end DL


set_option Elab.async false
set_option linter.all false
set_option maxRecDepth 100000
set_option maxHeartbeats 4000000
namespace DL
open PySem L2
variable [Tb]
abbrev XD := Str → List (Str × D) → DS → Prop
abbrev DF := DS → (D → DS → Prop) → XD → Prop
abbrev DFA := DS → (List D → DS → Prop) → XD → Prop
abbrev DFT := DS → (Bool → DS → Prop) → XD → Prop
abbrev cx (X : Cx) (q : Dr) : Ct := ⟨X.K, X.mg, q⟩
/-- an exception's class, its own dict, by data -/
def ExcR (c : Ct) (B : Hp) (n : Str) (fs : List (Str × D)) (cls : Value) (dd : Option Addr) : Prop :=
  ∃ C xs, cls = .ref C ∧ c.mg n = some (.ref C) ∧ (match dd with | some d => B d = some (.xd xs) | none => xs = []) ∧ RepF c B fs xs
def Ret (c : Ct) (L : List (Addr × HO)) (H0 B0 : Hp) (σ : L2.St) (B : Hp) (P : D → DS → Prop) (Q : VK) : Prop := ∀ v H' d s' B', At c L H0 B0 σ H' s' B' → Le B B' → Rep c B' d v → P d s' → Q v H'
def RetO (c : Ct) (L : List (Addr × HO)) (H0 B0 : Hp) (σ : L2.St) (B : Hp) (P : D → DS → Prop) (Q : VK) : Prop := ∀ p o H' d s' B', At c L H0 B0 σ H' s' B' → Le B B' → H' p = none → RepO c B' d o → P d s' → Q (.ref p) (upd H' p o)
def RetA (c : Ct) (L : List (Addr × HO)) (H0 B0 : Hp) (σ : L2.St) (B : Hp) (P : List D → DS → Prop) (Q : List V → Hp → Prop) : Prop := ∀ vs H' ds s' B', At c L H0 B0 σ H' s' B' → Le B B' → RepL c B' ds vs → P ds s' → Q vs H'
def RetT (c : Ct) (L : List (Addr × HO)) (H0 B0 : Hp) (σ : L2.St) (B : Hp) (P : Bool → DS → Prop) (Q : Bool → Hp → Prop) : Prop := ∀ b H' s' B', At c L H0 B0 σ H' s' B' → Le B B' → P b s' → Q b H'
def Exs (c : Ct) (L : List (Addr × HO)) (H0 B0 : Hp) (σ : L2.St) (B : Hp) (ex : XD) (W : WX) : Prop := ∀ n fs s' H' B' cls dd, At c L H0 B0 σ H' s' B' → Le B B' → ExcR c B' n fs cls dd → ex n fs s' → W cls dd σ H'
section
variable {c : Ct} {L : List (Addr × HO)} {H0 B0 B B' : Hp} {σ : L2.St} {Q : VK} {W : WX} {ex : XD}
theorem Ret.le {P : D → DS → Prop} (e : Le B B') (h : Ret c L H0 B0 σ B P Q) : Ret c L H0 B0 σ B' P Q := fun v H' d s' C t l => h v H' d s' C t (e.trans l)
theorem RetO.le {P : D → DS → Prop} (e : Le B B') (h : RetO c L H0 B0 σ B P Q) : RetO c L H0 B0 σ B' P Q := fun p o H' d s' C t l => h p o H' d s' C t (e.trans l)
theorem RetA.le {P : List D → DS → Prop} {Q : List V → Hp → Prop} (e : Le B B') (h : RetA c L H0 B0 σ B P Q) : RetA c L H0 B0 σ B' P Q := fun v H' d s' C t l => h v H' d s' C t (e.trans l)
theorem RetT.le {P : Bool → DS → Prop} {Q : Bool → Hp → Prop} (e : Le B B') (h : RetT c L H0 B0 σ B P Q) : RetT c L H0 B0 σ B' P Q := fun b H' s' C t l => h b H' s' C t (e.trans l)
theorem Exs.le (e : Le B B') (h : Exs c L H0 B0 σ B ex W) : Exs c L H0 B0 σ B' ex W := fun n fs s' H' C cls dd t l => h n fs s' H' C cls dd t (e.trans l)
end
/-- a reading over data, as a reading over the heap -/
def LftE (X : Cx) (W : WX) (F : DF) : TE := fun σ H Q => ∃ q L H0 B0 s B P ex, At (cx X q) L H0 B0 σ H s B ∧ F s P ex ∧ Ret (cx X q) L H0 B0 σ B P Q ∧ Exs (cx X q) L H0 B0 σ B ex W
def LftO (X : Cx) (W : WX) (F : DF) : TE := fun σ H Q => ∃ q L H0 B0 s B P ex, At (cx X q) L H0 B0 σ H s B ∧ F s P ex ∧ RetO (cx X q) L H0 B0 σ B P Q ∧ Exs (cx X q) L H0 B0 σ B ex W
def LftA (X : Cx) (W : WX) (F : DFA) : TA := fun σ H Q => ∃ q L H0 B0 s B P ex, At (cx X q) L H0 B0 σ H s B ∧ F s P ex ∧ RetA (cx X q) L H0 B0 σ B P Q ∧ Exs (cx X q) L H0 B0 σ B ex W
def LftT (X : Cx) (W : WX) (F : DFT) : TT := fun σ H Q => ∃ q L H0 B0 s B P ex, At (cx X q) L H0 B0 σ H s B ∧ F s P ex ∧ RetT (cx X q) L H0 B0 σ B P Q ∧ Exs (cx X q) L H0 B0 σ B ex W
structure DPE (X : Cx) (W : WX) (e : Expr) (F : DF) : Prop where pe : PE X e (LftE X W F)
structure DPO (X : Cx) (W : WX) (e : Expr) (F : DF) : Prop where pe : PE X e (LftO X W F)
structure DPA (X : Cx) (W : WX) (es : List Expr) (F : DFA) : Prop where pa : PA X es (LftA X W F)
structure DPT (X : Cx) (W : WX) (e : Expr) (F : DFT) : Prop where pt : PT X e (LftT X W F)
section
variable {X : Cx}
theorem pe_mono {e : Expr} {t t' : TE} (h : ∀ σ H Q, t' σ H Q → t σ H Q) (p : PE X e t) : PE X e t' := ⟨fun pins s σ H Q I q => p.run pins s σ H Q I (h σ H Q q)⟩
theorem pa_mono {e : List Expr} {t t' : TA} (h : ∀ σ H Q, t' σ H Q → t σ H Q) (p : PA X e t) : PA X e t' := ⟨fun pos pins s σ H Q I q => p.run pos pins s σ H Q I (h σ H Q q)⟩
theorem pt_mono {e : Expr} {t t' : TT} (h : ∀ σ H Q, t' σ H Q → t σ H Q) (p : PT X e t) : PT X e t' := ⟨fun pins s σ H Q I q => p.run pins s σ H Q I (h σ H Q q)⟩
theorem ps_mono {e : Stmt} {t t' : TS} (h : ∀ D σ H, t' D σ H → t D σ H) (p : PS X e t) : PS X e t' := ⟨fun pins s σ H D I q => p.run pins s σ H D I (h D σ H q)⟩
theorem pss_mono {e : List Stmt} {t t' : TS} (h : ∀ D σ H, t' D σ H → t D σ H) (p : PSs X e t) : PSs X e t' := ⟨fun pins s σ H D I q => p.run pins s σ H D I (h D σ H q)⟩
variable {W : WX} {a b : Expr} {Fa Fb : DF} {pos : Pos}
/-! ### names, constants -/
def dC (d : D) : DF := fun s P _ => P d s
/-- the name at slot i: what it owns is frozen from then on -/
def dVar (i : Nat) : DF := fun s P _ => match s.sl[i]? with
  | some (some (.fz d)) => P d s
  | some (some (.ow d)) => P d (s.put i (.fz d))
  | _ => False
theorem lft_c {d : D} {v : V} (h : ∀ q B, Rep (cx X q) B d v) : ∀ σ H Q, LftE X W (dC d) σ H Q → tC v σ H Q := fun σ H Q ⟨q, L, H0, B0, s, B, P, ex, t, f, r, _⟩ => r v H d s B t (Le.refl B) (h q B) f
theorem d_int {i : Int} {j : Nat} : DPE X W (.Constant (.int i) j pos) (dC (.int i)) := ⟨pe_mono (lft_c fun _ _ => by unfold Rep; rfl) pe_int⟩
theorem d_bl {i : Bool} {j : Nat} : DPE X W (.Constant (.bool i) j pos) (dC (.bl i)) := ⟨pe_mono (lft_c fun _ _ => by unfold Rep; rfl) pe_bl⟩
theorem d_non {j : Nat} : DPE X W (.Constant .none j pos) (dC .non) := ⟨pe_mono (lft_c fun _ _ => by unfold Rep; rfl) pe_non⟩
theorem d_str {i : Str} {j : Nat} : DPE X W (.Constant (.str i) j pos) (dC (.str i)) := ⟨pe_mono (lft_c fun _ _ => by unfold Rep; rfl) pe_str⟩
theorem d_glob {x : Str} {u : Value} {d : D} {v : V} (h : ∀ q B, Rep (cx X q) B d v) (hg : Gl X x) (hm : X.mg x = some u) (r : RelV v u) (hd : (x == ("__debug__" : Str)) = false := by decide) : DPE X W (.Name x pos) (dC d) := ⟨pe_mono (lft_c h) (pe_glob hg hm r hd)⟩
theorem dv (i : Nat) {x : Str} (hN : X.N[i]? = some x := by rfl) (hv : Vis X.env.scope x := by first | exact Or.inl rfl | exact Or.inr (Or.inl rfl) | exact Or.inr (Or.inr rfl)) (hd : (x == ("__debug__" : Str)) = false := by decide)
    (hcd : (x == ("__classdict__" : Str)) = false := by decide) : DPE X W (.Name x pos) (dVar i) := ⟨pe_mono (fun σ H Q ⟨q, L, H0, B0, s, B, P, ex, t, f, r, _⟩ => by
  unfold dVar at f
  split at f
  · rename_i d h
    obtain ⟨v, h1, h2⟩ := t.fz i d h
    exact ⟨v, h1, r v H d s B t (Le.refl B) h2 f⟩
  · rename_i d h
    obtain ⟨p, B', h1, h2, h3, h4⟩ := t.freeze h
    exact ⟨.ref p, h1, r _ H d _ B' h4 h2 h3 f⟩
  · exact f.elim) (pe_var hN hv hd hcd)⟩
/-- a new object as a value -/
theorem d_ofO (h : DPO X W a Fa) : DPE X W a Fa := ⟨pe_mono (fun σ H Q ⟨q, L, H0, B0, s, B, P, ex, t, f, r, x⟩ => ⟨q, L, H0, B0, s, B, P, ex, t, f, fun p o H' d s' B' t' l hp ro pp =>
  r (.ref p) (upd H' p o) d s' (upd B' p o) (t'.alloc hp ro.ntb) (l.trans (Le.upd (t'.bs.nB hp))) ((ro.mono (Le.upd (t'.bs.nB hp))).rep upd_same) pp, x⟩) h.pe⟩
/-! ### operators -/
structure OpD (X : Cx) (f : Value → Value → PySem.Sem Value) (R : D → D → (D → Prop) → Prop) : Prop where
  ex : ∃ r : R2, OpR X f r ∧ ∀ q L H0 B0 σ H s B x y v u P Q, At (cx X q) L H0 B0 σ H s B → Rep (cx X q) B x v → Rep (cx X q) B y u → R x y P → Ret (cx X q) L H0 B0 σ B (fun d s' => s' = s ∧ P d) Q → r v u H Q
def dOp (R : D → D → (D → Prop) → Prop) (Fa Fb : DF) : DF := fun s P ex => Fa s (fun x s1 => Fb s1 (fun y s2 => R x y fun z => P z s2) ex) ex
theorem lft_op {r : R2} {R : D → D → (D → Prop) → Prop} (h : ∀ q L H0 B0 σ H s B x y v u P Q, At (cx X q) L H0 B0 σ H s B → Rep (cx X q) B x v → Rep (cx X q) B y u → R x y P → Ret (cx X q) L H0 B0 σ B (fun d s' => s' = s ∧ P d) Q → r v u H Q) :
    ∀ σ H Q, LftE X W (dOp R Fa Fb) σ H Q → tOp r (LftE X W Fa) (LftE X W Fb) σ H Q := fun σ H Q ⟨q, L, H0, B0, s, B, P, ex, t, f, rt, e⟩ =>
  ⟨q, L, H0, B0, s, B, _, ex, t, f, fun v H1 x s1 B1 t1 l1 r1 p1 => ⟨q, L, H0, B0, s1, B1, _, ex, t1, p1, fun u H2 y s2 B2 t2 l2 r2 p2 =>
    h q L H0 B0 σ H2 s2 B2 x y v u _ Q t2 (r1.mono l2) r2 p2 (fun w H3 d s3 B3 t3 l3 r3 ⟨es, p3⟩ => rt w H3 d s3 B3 t3 ((l1.trans l2).trans l3) r3 (by rw [es]; exact p3)), e.le l1⟩, e⟩
theorem d_op {op : Operator} {R : D → D → (D → Prop) → Prop} (ho : OpD X (binaryOp op) R) (ha : DPE X W a Fa) (hb : DPE X W b Fb) : DPE X W (.BinOp a op b pos) (dOp R Fa Fb) := by
  obtain ⟨r, h1, h2⟩ := ho.ex
  exact ⟨pe_mono (lft_op h2) (pe_op h1 ha.pe hb.pe)⟩
theorem d_cmp {op : CmpOp} {R : D → D → (D → Prop) → Prop} (ho : OpD X (compareOp op) R) (ha : DPE X W a Fa) (hb : DPE X W b Fb) (hm : behindInMarks op b = false) : DPE X W (.Compare a [op] [b] pos) (dOp R Fa Fb) := by
  obtain ⟨r, h1, h2⟩ := ho.ex
  exact ⟨pe_mono (lft_op h2) (pe_cmpR h1 ha.pe hb.pe hm)⟩
theorem rep_int {c : Ct} {B : Hp} {i : Int} {v : V} (h : Rep c B (.int i) v) : v = .int i := by unfold Rep at h; exact h
theorem rep_bl {c : Ct} {B : Hp} {i : Bool} {v : V} (h : Rep c B (.bl i) v) : v = .bl i := by unfold Rep at h; exact h
theorem rep_str {c : Ct} {B : Hp} {i : Str} {v : V} (h : Rep c B (.str i) v) : v = .str i := by unfold Rep at h; exact h
theorem rep_non {c : Ct} {B : Hp} {v : V} (h : Rep c B .non v) : v = .non := by unfold Rep at h; exact h
theorem rep_tup {c : Ct} {B : Hp} {ds : List D} {v : V} (h : Rep c B (.tup ds) v) : ∃ a xs, v = .ref a ∧ SqT c.K B a xs ∧ RepL c B ds xs := by
  unfold Rep at h
  obtain ⟨a, xs, e, h1, h2⟩ := h
  exact ⟨a, xs, e, .inl (.inl h1), h2⟩
theorem rep_lst {c : Ct} {B : Hp} {ds : List D} {v : V} (h : Rep c B (.lst ds) v) : ∃ a xs, v = .ref a ∧ B a = some (.lst xs) ∧ RepL c B ds xs := by unfold Rep at h; exact h
theorem int_rep {c : Ct} {B : Hp} {i : Int} : Rep c B (.int i) (.int i) := by unfold Rep; rfl
theorem bl_rep {c : Ct} {B : Hp} {i : Bool} : Rep c B (.bl i) (.bl i) := by unfold Rep; rfl
theorem str_rep {c : Ct} {B : Hp} {i : Str} : Rep c B (.str i) (.str i) := by unfold Rep; rfl
theorem non_rep {c : Ct} {B : Hp} : Rep c B .non .non := by unfold Rep; rfl
theorem tup_rep {c : Ct} {B : Hp} {ds : List D} {a : Addr} {xs : List V} (h : B a = some (.tup xs)) (r : RepL c B ds xs) : Rep c B (.tup ds) (.ref a) := by unfold Rep; exact ⟨a, xs, rfl, h, r⟩
theorem lst_rep {c : Ct} {B : Hp} {ds : List D} {a : Addr} {xs : List V} (h : B a = some (.lst xs)) (r : RepL c B ds xs) : Rep c B (.lst ds) (.ref a) := by unfold Rep; exact ⟨a, xs, rfl, h, r⟩
theorem repL_len {c : Ct} {B : Hp} : ∀ {ds : List D} {xs : List V}, RepL c B ds xs → xs.length = ds.length
  | [], _, h => by unfold RepL at h; rw [h]; rfl
  | d :: ds, _, h => by
    unfold RepL at h
    obtain ⟨x, xr, rfl, _, h2⟩ := h
    rw [List.length_cons, List.length_cons, repL_len h2]
theorem repL_nil {c : Ct} {B : Hp} : RepL c B [] [] := by unfold RepL; rfl
theorem repL_cons {c : Ct} {B : Hp} {d : D} {ds : List D} {x : V} {xs : List V} (h : Rep c B d x) (r : RepL c B ds xs) : RepL c B (d :: ds) (x :: xs) := by unfold RepL; exact ⟨x, xs, rfl, h, r⟩
theorem repL_app {c : Ct} {B : Hp} {es : List D} {ys : List V} (hy : RepL c B es ys) : ∀ {ds : List D} {xs : List V}, RepL c B ds xs → RepL c B (ds ++ es) (xs ++ ys)
  | [], _, h => by unfold RepL at h; rw [h]; exact hy
  | d :: ds, _, h => by
    unfold RepL at h
    obtain ⟨x, xr, rfl, h1, h2⟩ := h
    exact repL_cons h1 (repL_app hy h2)
theorem repL_get {c : Ct} {B : Hp} : ∀ {ds : List D} {xs : List V} {i : Nat} {d : D}, RepL c B ds xs → ds[i]? = some d → ∃ x, xs[i]? = some x ∧ Rep c B d x
  | [], _, i, d, _, h => by simp at h
  | e :: ds, _, 0, d, r, h => by
    unfold RepL at r
    obtain ⟨x, xr, rfl, h1, h2⟩ := r
    cases h
    exact ⟨x, rfl, h1⟩
  | e :: ds, _, i + 1, d, r, h => by
    unfold RepL at r
    obtain ⟨x, xr, rfl, h1, h2⟩ := r
    obtain ⟨y, h3, h4⟩ := repL_get h2 (i := i) (d := d) h
    exact ⟨y, h3, h4⟩
theorem repL_gets {c : Ct} {B : Hp} : ∀ {ds : List D} {xs : List V} {i : Nat} {x : V}, RepL c B ds xs → xs[i]? = some x → ∃ d, ds[i]? = some d ∧ Rep c B d x := fun {ds xs i x} r h => by
  have hl := (List.getElem?_eq_some_iff.mp h).1
  rw [repL_len r] at hl
  obtain ⟨y, h1, h2⟩ := repL_get r (List.getElem?_eq_getElem hl)
  rw [h] at h1
  cases h1
  exact ⟨_, List.getElem?_eq_getElem hl, h2⟩
theorem repL_take {c : Ct} {B : Hp} : ∀ {ds : List D} {xs : List V} (n : Nat), RepL c B ds xs → RepL c B (ds.take n) (xs.take n)
  | [], _, n, h => by unfold RepL at h; rw [h]; simp only [List.take_nil]; exact repL_nil
  | d :: ds, _, 0, h => repL_nil
  | d :: ds, _, n + 1, h => by
    unfold RepL at h
    obtain ⟨x, xr, rfl, h1, h2⟩ := h
    exact repL_cons h1 (repL_take n h2)
theorem repL_drop {c : Ct} {B : Hp} : ∀ {ds : List D} {xs : List V} (n : Nat), RepL c B ds xs → RepL c B (ds.drop n) (xs.drop n)
  | [], _, n, h => by unfold RepL at h; rw [h]; simp only [List.drop_nil]; exact repL_nil
  | d :: ds, _, 0, h => h
  | d :: ds, _, n + 1, h => by
    unfold RepL at h
    obtain ⟨x, xr, rfl, h1, h2⟩ := h
    exact repL_drop n h2
theorem repL_set {c : Ct} {B : Hp} : ∀ {ds : List D} {xs : List V} {n : Nat} {d : D} {x : V}, RepL c B ds xs → Rep c B d x → RepL c B (ds.set n d) (xs.set n x)
  | [], _, n, _, _, h, _ => by unfold RepL at h; rw [h]; exact repL_nil
  | e :: ds, _, 0, _, _, h, r => by
    unfold RepL at h
    obtain ⟨x, xr, rfl, h1, h2⟩ := h
    exact repL_cons r h2
  | e :: ds, _, n + 1, _, _, h, r => by
    unfold RepL at h
    obtain ⟨x, xr, rfl, h1, h2⟩ := h
    exact repL_cons h1 (repL_set h2 r)
theorem repL_era {c : Ct} {B : Hp} : ∀ {ds : List D} {xs : List V} {n : Nat}, RepL c B ds xs → RepL c B (ds.eraseIdx n) (xs.eraseIdx n)
  | [], _, n, h => by unfold RepL at h; rw [h]; exact repL_nil
  | e :: ds, _, 0, h => by
    unfold RepL at h
    obtain ⟨x, xr, rfl, h1, h2⟩ := h
    exact h2
  | e :: ds, _, n + 1, h => by
    unfold RepL at h
    obtain ⟨x, xr, rfl, h1, h2⟩ := h
    exact repL_cons h1 (repL_era h2)
end
end DL


set_option Elab.async false
set_option linter.all false
set_option maxRecDepth 100000
set_option maxHeartbeats 4000000
namespace DL
open PySem L2
variable [Tb]
theorem sz {n : Nat} (h : n ≤ 100000) : n ≤ sizeLine := Nat.le_trans h (by decide)
theorem szl {n : Nat} (h : n < 100000) : n < sizeLine := Nat.lt_of_lt_of_le h (by decide)
section
variable {X : Cx} {W : WX} {a b e : Expr} {Fa Fb : DF} {pos : Pos}
/-! ### what an operator makes -/
section
variable {c : Ct} {L : List (Addr × HO)} {H0 B0 H B : Hp} {σ : L2.St} {s : DS} {P : D → Prop} {Q : VK}
abbrev R1 (c : Ct) (L : List (Addr × HO)) (H0 B0 : Hp) (σ : L2.St) (B : Hp) (s : DS) (P : D → Prop) (Q : VK) : Prop := Ret c L H0 B0 σ B (fun d s' => s' = s ∧ P d) Q
theorem R1.val (r : R1 c L H0 B0 σ B s P Q) (t : At c L H0 B0 σ H s B) {d : D} {v : V} (h : Rep c B d v) (p : P d) : Q v H := r v H d s B t (Le.refl B) h ⟨rfl, p⟩
theorem R1.new (r : R1 c L H0 B0 σ B s P Q) (t : At c L H0 B0 σ H s B) {d : D} {p : Addr} {o : HO} (hp : H p = none) (nt : ∀ ps, o ≠ .tbl ps) (h : Rep c (upd B p o) d (.ref p)) (pp : P d) : Q (.ref p) (upd H p o) :=
  r _ _ d s _ (t.alloc hp nt) (Le.upd (t.bs.nB hp)) h ⟨rfl, pp⟩
end
/-! ### arithmetic -/
def dAdd : D → D → (D → Prop) → Prop
  | .int i, .int j, P => P (.int (i + j))
  | .tup xs, .tup ys, P => xs.length + ys.length ≤ 100000 ∧ P (.tup (xs ++ ys))
  | .lst xs, .lst ys, P => xs.length + ys.length ≤ 100000 ∧ P (.lst (xs ++ ys))
  | .str x, .str y, P => x.length + y.length ≤ 100000 ∧ P (.str (x ++ y))
  | _, _, _ => False
theorem o_add : OpD X (binaryOp .Add) dAdd := by
  refine ⟨_, op_add.or (op_catA.or (op_cat.or op_add_str)), fun q L H0 B0 σ H s B x y v u P Q t rx ry h r => ?_⟩
  unfold dAdd at h
  split at h
  · rw [rep_int rx, rep_int ry]
    exact .inl ⟨_, _, rfl, rfl, R1.val r t int_rep h⟩
  · obtain ⟨hz, h⟩ := h
    obtain ⟨a, xs, rfl, ha, hx⟩ := rep_tup rx
    obtain ⟨b, ys, rfl, hb, hy⟩ := rep_tup ry
    refine .inr (.inl ⟨a, b, xs, ys, rfl, rfl, t.bs.leH.sqT ha, t.bs.leH.sqT hb, by rw [repL_len hx, repL_len hy]; exact sz hz, fun e => ?_, fun _ e => ?_, fun _ _ p hp => ?_⟩)
    · subst e
      cases (show _ = [] from List.eq_nil_of_length_eq_zero (repL_len hx).symm)
      exact R1.val r t ry h
    · subst e
      cases (show _ = [] from List.eq_nil_of_length_eq_zero (repL_len hy).symm)
      rw [List.append_nil] at h
      exact R1.val r t rx h
    · have le := Le.upd (o := HO.tup (xs ++ ys)) (t.bs.nB hp)
      exact R1.new r t hp (fun _ z => by cases z) (tup_rep upd_same (repL_app (hy.mono le) (hx.mono le))) h
  · obtain ⟨hz, h⟩ := h
    obtain ⟨a, xs, rfl, ha, hx⟩ := rep_lst rx
    obtain ⟨b, ys, rfl, hb, hy⟩ := rep_lst ry
    refine .inr (.inr (.inl ⟨a, b, xs, ys, rfl, rfl, t.bs.leH _ _ ha, t.bs.leH _ _ hb, by rw [repL_len hx, repL_len hy]; exact sz hz, fun p hp => ?_⟩))
    have le := Le.upd (o := HO.lst (xs ++ ys)) (t.bs.nB hp)
    exact R1.new r t hp (fun _ z => by cases z) (lst_rep upd_same (repL_app (hy.mono le) (hx.mono le))) h
  · obtain ⟨hz, h⟩ := h
    rw [rep_str rx, rep_str ry]
    exact .inr (.inr (.inr ⟨_, _, rfl, rfl, sz hz, R1.val r t str_rep h⟩))
  · exact h.elim
def dSub : D → D → (D → Prop) → Prop
  | .int i, .int j, P => P (.int (i - j))
  | _, _, _ => False
theorem o_sub : OpD X (binaryOp .Sub) dSub := by
  refine ⟨_, op_sub, fun q L H0 B0 σ H s B x y v u P Q t rx ry h r => ?_⟩
  unfold dSub at h
  split at h
  · rw [rep_int rx, rep_int ry]
    exact ⟨_, _, rfl, rfl, R1.val r t int_rep h⟩
  · exact h.elim
def dMul : D → D → (D → Prop) → Prop
  | .int i, .int j, P => CMul i j ∧ P (.int (i * j))
  | .tup xs, .int k, P => xs ≠ [] ∧ 2 ≤ k ∧ k ≤ 1000 ∧ xs.length ≤ 100 ∧ P (.tup (List.replicate k.toNat xs).flatten)
  | .lst xs, .int k, P => k ≤ 1000 ∧ -1000 ≤ k ∧ xs.length ≤ 100 ∧ P (.lst (List.replicate k.toNat xs).flatten)
  | _, _, _ => False
theorem repL_rep {c : Ct} {B : Hp} {ds : List D} {xs : List V} (h : RepL c B ds xs) : ∀ n : Nat, RepL c B (List.replicate n ds).flatten (List.replicate n xs).flatten
  | 0 => repL_nil
  | n + 1 => by
    rw [List.replicate_succ, List.replicate_succ, List.flatten_cons, List.flatten_cons]
    exact repL_app (repL_rep h n) h
theorem o_mul : OpD X (binaryOp .Mult) dMul := by
  refine ⟨_, op_mul.or (op_repT.or op_rep), fun q L H0 B0 σ H s B x y v u P Q t rx ry h r => ?_⟩
  unfold dMul at h
  split at h
  · rw [rep_int rx, rep_int ry]
    exact .inl ⟨_, _, rfl, rfl, h.1, R1.val r t int_rep h.2⟩
  · obtain ⟨h1, h2, h3, h4, h⟩ := h
    obtain ⟨a, xs, rfl, ha, hx⟩ := rep_tup rx
    rw [rep_int ry]
    refine .inr (.inl ⟨a, _, xs, rfl, rfl, t.bs.leH.sqT ha, fun z => h1 ?_, h2, h3, by rw [repL_len hx]; omega, fun p hp => ?_⟩)
    · rw [z] at hx
      exact List.eq_nil_of_length_eq_zero (repL_len hx).symm
    · exact R1.new r t hp (fun _ z => by cases z) (tup_rep upd_same (repL_rep (hx.mono (Le.upd (t.bs.nB hp))) _)) h
  · rename_i xs0 k
    obtain ⟨h1, h2, h3, h⟩ := h
    obtain ⟨a, xs, rfl, ha, hx⟩ := rep_lst rx
    rw [rep_int ry]
    refine .inr (.inr ⟨a, _, xs, rfl, rfl, t.bs.leH _ _ ha, by omega, by omega, ?_, fun p hp => ?_⟩)
    · rw [repL_len hx]
      exact sz (Nat.le_trans (Nat.mul_le_mul h3 (by omega : k.toNat ≤ 1000)) (by decide))
    · exact R1.new r t hp (fun _ z => by cases z) (lst_rep upd_same (repL_rep (hx.mono (Le.upd (t.bs.nB hp))) _)) h
  · exact h.elim
def dFdiv : D → D → (D → Prop) → Prop
  | .int i, .int j, P => CDivN i j ∧ P (.int (i.fdiv j))
  | _, _, _ => False
theorem o_fdiv : OpD X (binaryOp .FloorDiv) dFdiv := by
  refine ⟨_, op_fdivN, fun q L H0 B0 σ H s B x y v u P Q t rx ry h r => ?_⟩
  unfold dFdiv at h
  split at h
  · rw [rep_int rx, rep_int ry]
    exact ⟨_, _, rfl, rfl, h.1, R1.val r t int_rep h.2⟩
  · exact h.elim
def dMod : D → D → (D → Prop) → Prop
  | .int i, .int j, P => j ≠ 0 ∧ P (.int (i.fmod j))
  | _, _, _ => False
theorem o_mod : OpD X (binaryOp .Mod) dMod := by
  refine ⟨_, op_modN, fun q L H0 B0 σ H s B x y v u P Q t rx ry h r => ?_⟩
  unfold dMod at h
  split at h
  · rw [rep_int rx, rep_int ry]
    exact ⟨_, _, rfl, rfl, h.1, R1.val r t int_rep h.2⟩
  · exact h.elim
def dPow : D → D → (D → Prop) → Prop
  | .int i, .int j, P => CPow i j ∧ P (.int (i ^ j.toNat))
  | _, _, _ => False
theorem o_pow : OpD X (binaryOp .Pow) dPow := by
  refine ⟨_, op_pow, fun q L H0 B0 σ H s B x y v u P Q t rx ry h r => ?_⟩
  unfold dPow at h
  split at h
  · rw [rep_int rx, rep_int ry]
    exact ⟨_, _, rfl, rfl, h.1, R1.val r t int_rep h.2⟩
  · exact h.elim
def dNeg (F : DF) : DF := fun s P ex => F s (fun d s1 => match d with | .int i => P (.int (-i)) s1 | _ => False) ex
theorem d_neg (ha : DPE X W a Fa) : DPE X W (.UnaryOp .USub a pos) (dNeg Fa) := ⟨pe_mono (fun σ H Q ⟨q, L, H0, B0, s, B, P, ex, t, f, r, x⟩ => ⟨q, L, H0, B0, s, B, _, ex, t, f, fun v H' d s' B' t' l rd p => by
  try dsimp only at p
  split at p
  · rw [rep_int rd]
    exact ⟨_, rfl, r _ _ _ _ _ t' l int_rep p⟩
  · exact p.elim, x⟩) (pe_un un_neg ha.pe)⟩
/-! ### comparisons -/
def dCmpI (p : Int → Int → Bool) : D → D → (D → Prop) → Prop
  | .int i, .int j, P => P (.bl (p i j))
  | _, _, _ => False
theorem o_cmpI {op : CmpOp} {p : Int → Int → Bool} (h0 : OpR X (compareOp op) (rI0 fun i j => .bl (p i j))) : OpD X (compareOp op) (dCmpI p) := by
  refine ⟨_, h0, fun q L H0 B0 σ H s B x y v u P Q t rx ry h r => ?_⟩
  unfold dCmpI at h
  split at h
  · rw [rep_int rx, rep_int ry]
    exact ⟨_, _, rfl, rfl, R1.val r t bl_rep h⟩
  · exact h.elim
theorem o_lt : OpD X (compareOp .Lt) (dCmpI fun i j => decide (i < j)) := o_cmpI op_lt
theorem o_le : OpD X (compareOp .LtE) (dCmpI fun i j => decide (i ≤ j)) := o_cmpI op_le
theorem o_gt : OpD X (compareOp .Gt) (dCmpI fun i j => decide (j < i)) := o_cmpI op_gt
theorem o_ge : OpD X (compareOp .GtE) (dCmpI fun i j => decide (j ≤ i)) := o_cmpI op_ge
mutual
def py : D → PyData
  | .non => .none | .bl b => .bool b | .int i => .int i | .str x => .str x
  | .tup ds => .tuple (pyL ds) | .lst ds => .list (pyL ds) | _ => .none
def pyL : List D → List PyData
  | [] => []
  | d :: ds => py d :: pyL ds
end
mutual
def flatD : D → Bool
  | .non => true | .bl _ => true | .int _ => true | .str _ => true
  | .tup ds => flatDs ds | .lst ds => flatDs ds | _ => false
def flatDs : List D → Bool
  | [] => true
  | d :: ds => flatD d && flatDs ds
end
def okD (d : D) : Bool := flatD d && SeqAt.shaped (py d)
mutual
theorem rep_dp {c : Ct} {B : Hp} : ∀ {d : D} {v : V}, flatD d = true → Rep c B d v → Dp c.K B v (py d)
  | .non, v, _, h => by rw [rep_non h]; unfold py; exact .non
  | .bl b, v, _, h => by rw [rep_bl h]; unfold py; exact .bl b
  | .int i, v, _, h => by rw [rep_int h]; unfold py; exact .int i
  | .str x, v, _, h => by rw [rep_str h]; unfold py; exact .str x
  | .tup ds, v, f, h => by
    obtain ⟨a, xs, rfl, h1, h2⟩ := rep_tup h
    unfold flatD at f
    unfold py
    exact .tup h1 (repL_dp f h2)
  | .lst ds, v, f, h => by
    obtain ⟨a, xs, rfl, h1, h2⟩ := rep_lst h
    unfold flatD at f
    unfold py
    exact .lst (SqL.of h1) (repL_dp f h2)
  | .dic _, _, f, _ => by unfold flatD at f; cases f
  | .obj _ _, _, f, _ => by unfold flatD at f; cases f
  | .exc _ _, _, f, _ => by unfold flatD at f; cases f
  | .st, _, f, _ => by unfold flatD at f; cases f
  | .scr _, _, f, _ => by unfold flatD at f; cases f
  | .dtp _, _, f, _ => by unfold flatD at f; cases f
  | .fn _, _, f, _ => by unfold flatD at f; cases f
theorem repL_dp {c : Ct} {B : Hp} : ∀ {ds : List D} {vs : List V}, flatDs ds = true → RepL c B ds vs → DpAll c.K B vs (pyL ds)
  | [], _, _, h => by unfold RepL at h; rw [h]; unfold pyL; exact .nil
  | d :: ds, _, f, h => by
    unfold RepL at h
    obtain ⟨x, xr, rfl, h1, h2⟩ := h
    unfold flatDs at f
    obtain ⟨f1, f2⟩ := Bool.and_eq_true_iff.mp f
    unfold pyL
    exact .cons (rep_dp f1 h1) (repL_dp f2 h2)
end
def dEq : D → D → (D → Prop) → Prop := fun x y P => okD x = true ∧ okD y = true ∧ P (.bl (PyData.eqv (py x) (py y)))
def dNe : D → D → (D → Prop) → Prop := fun x y P => okD x = true ∧ okD y = true ∧ P (.bl (!PyData.eqv (py x) (py y)))
theorem o_eq (hu : X.A.units + 64 < cLine) : OpD X (compareOp .Eq) dEq := by
  refine ⟨_, op_eqD hu, fun q L H0 B0 σ H s B x y v u P Q t rx ry h r => ?_⟩
  obtain ⟨h1, h2, h⟩ := h
  obtain ⟨f1, g1⟩ := Bool.and_eq_true_iff.mp h1
  obtain ⟨f2, g2⟩ := Bool.and_eq_true_iff.mp h2
  exact ⟨py x, py y, rep_dp f1 (rx.mono t.bs.leH), rep_dp f2 (ry.mono t.bs.leH), g1, g2, R1.val r t bl_rep h⟩
theorem o_ne (hu : X.A.units + 64 < cLine) : OpD X (compareOp .NotEq) dNe := by
  refine ⟨_, op_neD hu, fun q L H0 B0 σ H s B x y v u P Q t rx ry h r => ?_⟩
  obtain ⟨h1, h2, h⟩ := h
  obtain ⟨f1, g1⟩ := Bool.and_eq_true_iff.mp h1
  obtain ⟨f2, g2⟩ := Bool.and_eq_true_iff.mp h2
  exact ⟨py x, py y, rep_dp f1 (rx.mono t.bs.leH), rep_dp f2 (ry.mono t.bs.leH), g1, g2, R1.val r t bl_rep h⟩
def isNon : D → Bool
  | .non => true
  | _ => false
theorem rep_isNon {c : Ct} {B : Hp} : ∀ {d : D} {v : V}, Rep c B d v → decide (v = .non) = isNon d
  | .non, v, h => by rw [rep_non h]; rfl
  | .bl b, v, h => by rw [rep_bl h]; rfl
  | .int i, v, h => by rw [rep_int h]; rfl
  | .str x, v, h => by rw [rep_str h]; rfl
  | .tup ds, v, h => by obtain ⟨a, xs, rfl, _⟩ := rep_tup h; rfl
  | .lst ds, v, h => by obtain ⟨a, xs, rfl, _⟩ := rep_lst h; rfl
  | .dic _, _, h => by unfold Rep at h; obtain ⟨a, xs, rfl, _⟩ := h; rfl
  | .obj _ _, _, h => by unfold Rep at h; obtain ⟨a, C, dx, xs, rfl, _⟩ := h; rfl
  | .exc _ _, _, h => by unfold Rep at h; obtain ⟨a, C, dx, xs, rfl, _⟩ := h; rfl
  | .st, _, h => by unfold Rep at h; obtain ⟨a, g, l, _, rfl⟩ := h; rfl
  | .scr _, _, h => by unfold Rep at h; obtain ⟨a, rfl, _⟩ := h; rfl
  | .dtp _, _, h => by unfold Rep at h; obtain ⟨a, kvs, rfl, _⟩ := h; rfl
  | .fn _, _, h => by unfold Rep at h; obtain ⟨a, rfl, _⟩ := h; rfl
def dIsN : D → D → (D → Prop) → Prop := fun x y P => match y with
  | .non => P (.bl (isNon x))
  | _ => False
def dNotN : D → D → (D → Prop) → Prop := fun x y P => match y with
  | .non => P (.bl (!isNon x))
  | _ => False
theorem o_isN : OpD X (compareOp .Is) dIsN := by
  refine ⟨_, op_isN, fun q L H0 B0 σ H s B x y v u P Q t rx ry h r => ?_⟩
  unfold dIsN at h
  split at h
  · rw [rep_non ry]
    exact ⟨rfl, by rw [rep_isNon rx]; exact R1.val r t bl_rep h⟩
  · exact h.elim
theorem o_notN : OpD X (compareOp .IsNot) dNotN := by
  refine ⟨_, op_notN, fun q L H0 B0 σ H s B x y v u P Q t rx ry h r => ?_⟩
  unfold dNotN at h
  split at h
  · rw [rep_non ry]
    exact ⟨rfl, by rw [rep_isNon rx]; exact R1.val r t bl_rep h⟩
  · exact h.elim
def dIsB : D → D → (D → Prop) → Prop
  | .bl a, .bl b, P => P (.bl (decide (a = b)))
  | _, _, _ => False
theorem o_isB : OpD X (compareOp .Is) dIsB := by
  refine ⟨_, op_isBl, fun q L H0 B0 σ H s B x y v u P Q t rx ry h r => ?_⟩
  unfold dIsB at h
  split at h
  · rw [rep_bl rx, rep_bl ry]
    exact ⟨_, _, rfl, rfl, R1.val r t bl_rep h⟩
  · exact h.elim
/-- x in a list of data -/
def dIn (neg : Bool) : D → D → (D → Prop) → Prop := fun x y P => match y with
  | .lst ds => okD x = true ∧ okD (.lst ds) = true ∧ P (.bl (if neg then !ds.any fun z => PyData.eqv (py z) (py x) else ds.any fun z => PyData.eqv (py z) (py x)))
  | .tup ds => okD x = true ∧ okD (.tup ds) = true ∧ P (.bl (if neg then !ds.any fun z => PyData.eqv (py z) (py x) else ds.any fun z => PyData.eqv (py z) (py x)))
  | _ => False
/-- in, of a list or a tuple -/
def rInLT (K : PySem.W.Frag) (neg : Bool) : R2 := fun x y H Q => ∃ d ds, Dp K H x d ∧ ((Dp K H y (.list ds) ∧ SeqAt.shaped (.list ds) = true) ∨ (Dp K H y (.tuple ds) ∧ SeqAt.shaped (.tuple ds) = true)) ∧ SeqAt.shaped d = true ∧ Q (.bl (if neg then !ds.any fun z => PyData.eqv z d else ds.any fun z => PyData.eqv z d)) H
theorem op_inLT {X : Cx} (hu : X.A.units + 65 < cLine) : OpR X (compareOp .In) (rInLT X.K false) := by
  intro pins s σ H x y v u Q I rx ry h
  obtain ⟨d, ds, hd, he, sd, q⟩ := h
  obtain ⟨as, r1⟩ := Dp.reads I d x v hd rx
  rcases he with ⟨he, se⟩ | ⟨he, se⟩
  · obtain ⟨bs, r2⟩ := Dp.reads I (.list ds) y u he ry
    exact SeqAt.in_list_reads r2 r1 (SeqAt.canLay_of_shaped se) (SeqAt.canLay_of_shaped sd) (PyProof.Rows.room_in_shaped sd hu) ⟨.bl _, H, I, rfl, q⟩
  · obtain ⟨bs, r2⟩ := Dp.reads I (.tuple ds) y u he ry
    exact SeqAt.in_tuple_reads r2 r1 (SeqAt.canLay_of_shaped se) (SeqAt.canLay_of_shaped sd) (PyProof.Rows.room_in_shaped sd hu) ⟨.bl _, H, I, rfl, q⟩
theorem pyL_map : ∀ ds : List D, pyL ds = ds.map py
  | [] => by unfold pyL; rfl
  | d :: ds => by unfold pyL; rw [pyL_map ds]; rfl
theorem any_pyL (ds : List D) (p : PyData → Bool) : (pyL ds).any p = ds.any fun z => p (py z) := by
  rw [pyL_map, List.any_map]; rfl
theorem o_in (hu : X.A.units + 65 < cLine) : OpD X (compareOp .In) (dIn false) := by
  refine ⟨_, op_inLT hu, fun q L H0 B0 σ H s B x y v u P Q t rx ry h r => ?_⟩
  unfold dIn at h
  split at h
  · obtain ⟨h1, h2, h⟩ := h
    obtain ⟨f1, g1⟩ := Bool.and_eq_true_iff.mp h1
    obtain ⟨f2, g2⟩ := Bool.and_eq_true_iff.mp h2
    have q2 := rep_dp f2 (ry.mono t.bs.leH)
    have e2 : ∀ ds, py (.lst ds) = .list (pyL ds) := fun ds => by unfold py; rfl
    rw [e2] at q2 g2
    exact ⟨py x, _, rep_dp f1 (rx.mono t.bs.leH), .inl ⟨q2, g2⟩, g1, by rw [any_pyL]; exact R1.val r t bl_rep h⟩
  · obtain ⟨h1, h2, h⟩ := h
    obtain ⟨f1, g1⟩ := Bool.and_eq_true_iff.mp h1
    obtain ⟨f2, g2⟩ := Bool.and_eq_true_iff.mp h2
    have q2 := rep_dp f2 (ry.mono t.bs.leH)
    have e2 : ∀ ds, py (.tup ds) = .tuple (pyL ds) := fun ds => by unfold py; rfl
    rw [e2] at q2 g2
    exact ⟨py x, _, rep_dp f1 (rx.mono t.bs.leH), .inr ⟨q2, g2⟩, g1, by rw [any_pyL]; exact R1.val r t bl_rep h⟩
  · exact h.elim
/-- a < b < c -/
def dChain (R R' : D → D → (D → Prop) → Prop) (Fa Fb Fc : DF) : DF := fun s P ex => Fa s (fun x s1 => Fb s1 (fun y s2 => R x y fun z => match z with
  | .bl true => Fc s2 (fun w s3 => R' y w fun z' => P z' s3) ex
  | .bl false => P (.bl false) s2
  | _ => False) ex) ex
theorem d_chain {c : Expr} {Fc : DF} {op op' : CmpOp} {R R' : D → D → (D → Prop) → Prop} (ho : OpD X (compareOp op) R) (ho' : OpD X (compareOp op') R') (ha : DPE X W a Fa) (hb : DPE X W b Fb) (hc : DPE X W c Fc)
    (hm : lastMarks [op, op'] [b, c] = false := by with_unfolding_all rfl) : DPE X W (.Compare a [op, op'] [b, c] pos) (dChain R R' Fa Fb Fc) := by
  obtain ⟨r, h1, h2⟩ := ho.ex
  obtain ⟨r', h1', h2'⟩ := ho'.ex
  refine ⟨pe_mono (fun σ H Q ⟨q, L, H0, B0, s, B, P, ex, t, f, rt, e⟩ => ?_) (pe_chain h1 h1' ha.pe hb.pe hc.pe hm)⟩
  refine ⟨q, L, H0, B0, s, B, _, ex, t, f, fun v H1 x s1 B1 t1 l1 r1 p1 => ⟨q, L, H0, B0, s1, B1, _, ex, t1, p1, fun u H2 y s2 B2 t2 l2 r2 p2 => ?_, e.le l1⟩, e⟩
  refine h2 q L H0 B0 σ H2 s2 B2 x y v u _ _ t2 (r1.mono l2) r2 p2 (fun z H3 d s3 B3 t3 l3 r3 ⟨es, p3⟩ => ?_)
  subst es
  try dsimp only at p3
  split at p3
  · rw [rep_bl r3]
    refine ⟨true, rfl, ?_⟩
    refine iteT ⟨q, L, H0, B0, s3, B3, _, ex, t3, p3, fun w H4 dw s4 B4 t4 l4 r4 p4 => ?_, e.le ((l1.trans l2).trans l3)⟩
    exact h2' q L H0 B0 σ H4 s4 B4 y dw u w _ Q t4 (r2.mono (l3.trans l4)) r4 p4 (fun w H5 d5 s5 B5 t5 l5 r5 ⟨es, p5⟩ => rt w H5 d5 s5 B5 t5 (l1.trans (l2.trans (l3.trans (l4.trans l5)))) r5 (by rw [es]; exact p5))
  · rw [rep_bl r3]
    refine ⟨false, rfl, ?_⟩
    exact iteF (rt _ _ _ _ _ t3 ((l1.trans l2).trans l3) bl_rep p3)
  · exact p3.elim
/-! ### and, or, not as values of truth; tests -/
def dAnd (Fa Fb : DF) : DF := fun s P ex => Fa s (fun x s1 => match x with
  | .bl true => Fb s1 P ex
  | .bl false => P (.bl false) s1
  | _ => False) ex
def dOr (Fa Fb : DF) : DF := fun s P ex => Fa s (fun x s1 => match x with
  | .bl true => P (.bl true) s1
  | .bl false => Fb s1 P ex
  | _ => False) ex
def dNot (Fa : DF) : DF := fun s P ex => Fa s (fun x s1 => match x with
  | .bl k => P (.bl (!k)) s1
  | _ => False) ex
theorem d_one {op} (h : DPE X W a Fa) : DPE X W (.BoolOp op [a] pos) Fa := ⟨pe_one h.pe⟩
theorem d_and {rest : List Expr} (ha : DPE X W a Fa) (hb : DPE X W (.BoolOp .And (b :: rest) pos) Fb) : DPE X W (.BoolOp .And (a :: b :: rest) pos) (dAnd Fa Fb) := by
  refine ⟨pe_mono (fun σ H Q ⟨q, L, H0, B0, s, B, P, ex, t, f, rt, e⟩ => ⟨q, L, H0, B0, s, B, _, ex, t, f, fun v H1 x s1 B1 t1 l1 r1 p1 => ?_, e⟩) (pe_and ha.pe hb.pe)⟩
  try dsimp only at p1
  split at p1
  · rw [rep_bl r1]
    exact ⟨true, rfl, iteT ⟨q, L, H0, B0, s1, B1, P, ex, t1, p1, rt.le l1, e.le l1⟩⟩
  · rw [rep_bl r1]
    exact ⟨false, rfl, iteF (rt _ _ _ _ _ t1 l1 bl_rep p1)⟩
  · exact p1.elim
theorem d_or {rest : List Expr} (ha : DPE X W a Fa) (hb : DPE X W (.BoolOp .Or (b :: rest) pos) Fb) : DPE X W (.BoolOp .Or (a :: b :: rest) pos) (dOr Fa Fb) := by
  refine ⟨pe_mono (fun σ H Q ⟨q, L, H0, B0, s, B, P, ex, t, f, rt, e⟩ => ⟨q, L, H0, B0, s, B, _, ex, t, f, fun v H1 x s1 B1 t1 l1 r1 p1 => ?_, e⟩) (pe_or ha.pe hb.pe)⟩
  try dsimp only at p1
  split at p1
  · rw [rep_bl r1]
    exact ⟨true, rfl, iteT (rt _ _ _ _ _ t1 l1 bl_rep p1)⟩
  · rw [rep_bl r1]
    exact ⟨false, rfl, iteF ⟨q, L, H0, B0, s1, B1, P, ex, t1, p1, rt.le l1, e.le l1⟩⟩
  · exact p1.elim
theorem d_not (ha : DPE X W a Fa) : DPE X W (.UnaryOp .Not a pos) (dNot Fa) := by
  refine ⟨pe_mono (fun σ H Q ⟨q, L, H0, B0, s, B, P, ex, t, f, rt, e⟩ => ⟨q, L, H0, B0, s, B, _, ex, t, f, fun v H1 x s1 B1 t1 l1 r1 p1 => ?_, e⟩) (pe_not ha.pe)⟩
  try dsimp only at p1
  split at p1
  · rw [rep_bl r1]
    exact ⟨_, rfl, rt _ _ _ _ _ t1 l1 bl_rep p1⟩
  · exact p1.elim
/-- a value as a test -/
def dTest (F : DF) : DFT := fun s P ex => F s (fun x s1 => match x with
  | .bl k => P k s1
  | _ => False) ex
theorem d_test (ha : DPE X W a Fa) (he : ∀ whole, isTrue a X.env whole = (do let v ← whole; standAt a.pos; holding [v] (truthy v)) := by intro _; rfl) : DPT X W a (dTest Fa) := by
  refine ⟨pt_mono (fun σ H Q ⟨q, L, H0, B0, s, B, P, ex, t, f, rt, e⟩ => ⟨q, L, H0, B0, s, B, _, ex, t, f, fun v H1 x s1 B1 t1 l1 r1 p1 => ?_, e⟩) (pt_val ha.pe he)⟩
  try dsimp only at p1
  split at p1
  · rw [rep_bl r1]
    exact ⟨_, rfl, rt _ _ _ _ t1 l1 p1⟩
  · exact p1.elim
theorem d_cmpT {op : CmpOp} {R : D → D → (D → Prop) → Prop} (ho : OpD X (compareOp op) R) (ha : DPE X W a Fa) (hb : DPE X W b Fb) (hm : behindInMarks op b = false) : DPT X W (.Compare a [op] [b] pos) (dTest (dOp R Fa Fb)) := by
  obtain ⟨r, h1, h2⟩ := ho.ex
  refine ⟨pt_mono (fun σ H Q ⟨q, L, H0, B0, s, B, P, ex, t, f, rt, e⟩ => ?_) (pt_cmpR h1 ha.pe hb.pe hm)⟩
  refine lft_op (W := W) h2 σ H _ ⟨q, L, H0, B0, s, B, _, ex, t, f, fun v H1 x s1 B1 t1 l1 r1 p1 => ?_, e⟩
  try dsimp only at p1
  split at p1
  · rw [rep_bl r1]
    exact ⟨_, rfl, rt _ _ _ _ t1 l1 p1⟩
  · exact p1.elim
def tAndD (Fa Fb : DFT) : DFT := fun s P ex => Fa s (fun k s1 => if k = true then Fb s1 P ex else P false s1) ex
def tOrD (Fa Fb : DFT) : DFT := fun s P ex => Fa s (fun k s1 => if k = true then P true s1 else Fb s1 P ex) ex
def tNotD (Fa : DFT) : DFT := fun s P ex => Fa s (fun k s1 => P (!k) s1) ex
theorem d_tnot {F : DFT} (ha : DPT X W a F) : DPT X W (.UnaryOp .Not a pos) (tNotD F) :=
  ⟨pt_mono (fun σ H Q ⟨q, L, H0, B0, s, B, P, ex, t, f, rt, e⟩ => ⟨q, L, H0, B0, s, B, _, ex, t, f, fun k H1 s1 B1 t1 l1 p1 => rt _ _ _ _ t1 l1 p1, e⟩) (pt_not ha.pt)⟩
structure DPW (X : Cx) (W : WX) (e : Expr) (F : DFT) : Prop where pw : PW X e (LftT X W F)
theorem DPW.pt {F : DFT} (h : DPW X W e F) : DPT X W e F := ⟨h.pw.pt⟩
theorem pw_mono {e : Expr} {t t' : TT} (h : ∀ σ H Q, t' σ H Q → t σ H Q) (p : PW X e t) : PW X e t' := ⟨fun wh pins s σ H Q I q => p.run wh pins s σ H Q I (h σ H Q q)⟩
theorem d_tand1 {F : DFT} (h : DPT X W a F) : DPW X W (.BoolOp .And [a] pos) F := ⟨pw_and1 h.pt⟩
theorem d_tor1 {F : DFT} (h : DPT X W a F) : DPW X W (.BoolOp .Or [a] pos) F := ⟨pw_or1 h.pt⟩
theorem d_tand {Ga Gb : DFT} {rest : List Expr} (ha : DPT X W a Ga) (hb : DPW X W (.BoolOp .And (b :: rest) pos) Gb) : DPW X W (.BoolOp .And (a :: b :: rest) pos) (tAndD Ga Gb) := by
  refine ⟨pw_mono (fun σ H Q ⟨q, L, H0, B0, s, B, P, ex, t, f, rt, e⟩ => ⟨q, L, H0, B0, s, B, _, ex, t, f, fun k H1 s1 B1 t1 l1 p1 => ?_, e⟩) (pw_and ha.pt hb.pw)⟩
  cases k with
  | true => exact iteT ⟨q, L, H0, B0, s1, B1, P, ex, t1, p1, rt.le l1, e.le l1⟩
  | false => exact iteF (rt _ _ _ _ t1 l1 p1)
theorem d_tor {Ga Gb : DFT} {rest : List Expr} (ha : DPT X W a Ga) (hb : DPW X W (.BoolOp .Or (b :: rest) pos) Gb) : DPW X W (.BoolOp .Or (a :: b :: rest) pos) (tOrD Ga Gb) := by
  refine ⟨pw_mono (fun σ H Q ⟨q, L, H0, B0, s, B, P, ex, t, f, rt, e⟩ => ⟨q, L, H0, B0, s, B, _, ex, t, f, fun k H1 s1 B1 t1 l1 p1 => ?_, e⟩) (pw_or ha.pt hb.pw)⟩
  cases k with
  | true => exact iteT (rt _ _ _ _ t1 l1 p1)
  | false => exact iteF ⟨q, L, H0, B0, s1, B1, P, ex, t1, p1, rt.le l1, e.le l1⟩
def dIfE (Ft : DFT) (Fa Fb : DF) : DF := fun s P ex => Ft s (fun k s1 => if k = true then Fa s1 P ex else Fb s1 P ex) ex
theorem d_ifE {c : Expr} {Ft : DFT} (hc : DPT X W c Ft) (ha : DPE X W a Fa) (hb : DPE X W b Fb) : DPE X W (.IfExp c a b pos) (dIfE Ft Fa Fb) := by
  refine ⟨pe_mono (fun σ H Q ⟨q, L, H0, B0, s, B, P, ex, t, f, rt, e⟩ => ⟨q, L, H0, B0, s, B, _, ex, t, f, fun k H1 s1 B1 t1 l1 p1 => ?_, e⟩) (pe_ifExp hc.pt ha.pe hb.pe)⟩
  cases k with
  | true => exact iteT ⟨q, L, H0, B0, s1, B1, P, ex, t1, p1, rt.le l1, e.le l1⟩
  | false => exact iteF ⟨q, L, H0, B0, s1, B1, P, ex, t1, p1, rt.le l1, e.le l1⟩
/-! ### arguments, displays -/
def aNil : DFA := fun s P _ => P [] s
def aCons (F : DF) (G : DFA) : DFA := fun s P ex => F s (fun d s1 => G s1 (fun ds s2 => P (d :: ds) s2) ex) ex
theorem d_nil : DPA X W [] aNil := ⟨pa_mono (fun σ H Q ⟨q, L, H0, B0, s, B, P, ex, t, f, rt, e⟩ => rt [] H [] s B t (Le.refl B) repL_nil f) pa_nil⟩
theorem d_cons {es : List Expr} {G : DFA} (ha : DPE X W e Fa) (hr : DPA X W es G) (hs : starEach (e :: es) X.env = (false, eval e X.env) :: starEach es X.env := by rfl) : DPA X W (e :: es) (aCons Fa G) :=
  ⟨pa_mono (fun σ H Q ⟨q, L, H0, B0, s, B, P, ex, t, f, rt, e⟩ => ⟨q, L, H0, B0, s, B, _, ex, t, f, fun v H1 x s1 B1 t1 l1 r1 p1 => ⟨q, L, H0, B0, s1, B1, _, ex, t1, p1, fun vs H2 ds s2 B2 t2 l2 r2 p2 =>
    rt _ _ _ _ _ t2 (l1.trans l2) (repL_cons (r1.mono l2) r2) p2, e.le l1⟩, e⟩) (pa_cons ha.pe hr.pa hs)⟩
def dTup (G : DFA) : DF := fun s P ex => G s (fun ds s1 => ds.length ≤ 100000 ∧ P (.tup ds) s1) ex
def dLst (G : DFA) : DF := fun s P ex => G s (fun ds s1 => ds.length ≤ 100000 ∧ P (.lst ds) s1) ex
theorem d_tup {x1} {es : List Expr} {G : DFA} (h : DPA X W es G) : DPE X W (.Tuple es x1 pos) (dTup G) :=
  ⟨pe_mono (fun σ H Q ⟨q, L, H0, B0, s, B, P, ex, t, f, rt, e⟩ => ⟨q, L, H0, B0, s, B, _, ex, t, f, fun vs H1 ds s1 B1 t1 l1 r1 p1 => ⟨by rw [repL_len r1]; exact sz p1.1, fun p hp =>
    rt _ _ _ _ _ (t1.alloc hp (fun _ z => by cases z)) (l1.trans (Le.upd (t1.bs.nB hp))) (tup_rep upd_same (r1.mono (Le.upd (t1.bs.nB hp)))) p1.2⟩, e⟩) (pe_tup h.pa)⟩
theorem d_lst {es : List Expr} {G : DFA} (h : DPA X W es G) : DPO X W (.List es pos) (dLst G) :=
  ⟨pe_mono (fun σ H Q ⟨q, L, H0, B0, s, B, P, ex, t, f, rt, e⟩ => ⟨q, L, H0, B0, s, B, _, ex, t, f, fun vs H1 ds s1 B1 t1 l1 r1 p1 => ⟨by rw [repL_len r1]; exact sz p1.1, fun p hp =>
    rt p (.lst vs) H1 (.lst ds) s1 B1 t1 l1 hp ⟨vs, rfl, r1⟩ p1.2⟩, e⟩) (pe_lst h.pa)⟩
/-! ### subscripts, slices -/
def dIx : D → D → (D → Prop) → Prop
  | .tup ds, .int i, P => ∃ d, atI ds i = some d ∧ P d
  | .lst ds, .int i, P => ∃ d, atI ds i = some d ∧ P d
  | _, _, _ => False
theorem repL_atI {c : Ct} {B : Hp} {ds : List D} {xs : List V} {i : Int} {d : D} (r : RepL c B ds xs) (h : atI ds i = some d) : ∃ x, atI xs i = some x ∧ Rep c B d x := by
  unfold atI at h ⊢
  rw [repL_len r]
  cases e : ixN ds.length i with
  | none => rw [e] at h; cases h
  | some j =>
    rw [e] at h
    exact repL_get r h
theorem d_ix (ha : DPE X W a Fa) (hb : DPE X W b Fb) (hs : PlainIx b := by intro _ _; rfl) : DPE X W (.Subscript a b pos) (dOp dIx Fa Fb) := by
  refine ⟨pe_mono (lft_op fun q L H0 B0 σ H s B x y v u P Q t rx ry h r => ?_) (pe_ix ix_seq ha.pe hb.pe hs)⟩
  unfold dIx at h
  split at h
  · obtain ⟨d, h1, h⟩ := h
    obtain ⟨p, xs, rfl, ha, hx⟩ := rep_tup rx
    obtain ⟨z, h2, h3⟩ := repL_atI hx h1
    rw [rep_int ry]
    exact .inr (.inl ⟨p, xs, _, z, rfl, rfl, t.bs.leH.sqT ha, h2, R1.val r t h3 h⟩)
  · obtain ⟨d, h1, h⟩ := h
    obtain ⟨p, xs, rfl, ha, hx⟩ := rep_lst rx
    obtain ⟨z, h2, h3⟩ := repL_atI hx h1
    rw [rep_int ry]
    exact .inl ⟨p, xs, _, z, rfl, rfl, SqL.of (t.bs.leH _ _ ha), h2, R1.val r t h3 h⟩
  · exact h.elim
end
end DL


set_option Elab.async false
set_option linter.all false
set_option maxRecDepth 100000
set_option maxHeartbeats 4000000
namespace DL
open PySem L2
variable [Tb]
section
variable {X : Cx} {W : WX} {a b e : Expr} {es : List Expr} {Fa Fb : DF} {G : DFA} {pos p : Pos}
def hasSl (s : DS) (i : Nat) : Prop := match s.sl[i]? with
  | some (some _) => True
  | _ => False
theorem At.slot {c : Ct} {L : List (Addr × HO)} {H0 B0 H B : Hp} {σ : L2.St} {s : DS} (t : At c L H0 B0 σ H s B) {i : Nat} (h : hasSl s i) : ∃ v, σ[i]? = some (some v) := by
  unfold hasSl at h
  split at h
  · rename_i x e
    cases x with
    | fz d => obtain ⟨v, h1, _⟩ := t.fz i d e; exact ⟨v, h1⟩
    | ow d => obtain ⟨q, o, h1, _⟩ := t.ow i d e; exact ⟨_, h1⟩
  · exact h.elim
/-- the list that slot i owns, at its address -/
theorem At.ownL {c : Ct} {L : List (Addr × HO)} {H0 B0 H B : Hp} {σ : L2.St} {s : DS} (t : At c L H0 B0 σ H s B) {i : Nat} {ds : List D} (h : s.sl[i]? = some (some (.ow (.lst ds)))) :
    ∃ p xs, σ[i]? = some (some (V.ref p)) ∧ H p = some (.lst xs) ∧ RepL c B ds xs := by
  obtain ⟨q, o, h1, h2, h3, h4, xs, e, h5⟩ := t.ow i _ h
  exact ⟨q, xs, h1, by rw [h4, e], h5⟩
/-- an item of what slot i owns (or holds), the slot looked up behind the index -/
def dIxV (i : Nat) (Fb : DF) : DF := fun s P ex => hasSl s i ∧ Fb s (fun k s1 => match s1.sl[i]? with
  | some (some (.ow (.lst ds))) => (match k with | .int z => ∃ d, atI ds z = some d ∧ P d s1 | _ => False)
  | some (some (.fz x)) => dIx x k fun d => P d s1
  | _ => False) ex
theorem d_ixV (i : Nat) {x : Str} (hb : DPE X W b Fb) (hN : X.N[i]? = some x := by rfl) (hv : Vis X.env.scope x := by first | exact Or.inl rfl | exact Or.inr (Or.inl rfl) | exact Or.inr (Or.inr rfl)) (hs : PlainIx b := by intro _ _; rfl) (hd : (x == ("__debug__" : Str)) = false := by decide)
    (hcd : (x == ("__classdict__" : Str)) = false := by decide) : DPE X W (.Subscript (.Name x p) b pos) (dIxV i Fb) := by
  refine ⟨pe_mono (fun σ H Q ⟨q, L, H0, B0, s, B, P, ex, t, f, rt, e⟩ => ?_) (pe_ix ix_seq (pe_var hN hv hd hcd) hb.pe hs)⟩
  obtain ⟨h0, f⟩ := f
  obtain ⟨v, hv⟩ := t.slot h0
  refine ⟨v, hv, q, L, H0, B0, s, B, _, ex, t, f, fun u H1 k s1 B1 t1 l1 r1 p1 => ?_, e⟩
  dsimp only at p1
  split at p1
  · rename_i ds e1
    split at p1
    · obtain ⟨d, h1, h⟩ := p1
      obtain ⟨pp, xs, g1, g2, g3⟩ := t1.ownL e1
      rw [hv] at g1
      cases g1
      obtain ⟨z, h2, h3⟩ := repL_atI g3 h1
      rw [rep_int r1]
      exact .inl ⟨pp, xs, _, z, rfl, rfl, SqL.of g2, h2, rt _ _ _ _ _ t1 l1 h3 h⟩
    · exact p1.elim
  · rename_i y e1
    obtain ⟨v', h1, h2⟩ := t1.fz i y e1
    rw [hv] at h1
    cases h1
    unfold dIx at p1
    split at p1
    · obtain ⟨d, h1, h⟩ := p1
      obtain ⟨pp, xs, rfl, ha, hx⟩ := rep_tup h2
      obtain ⟨z, h2, h3⟩ := repL_atI hx h1
      rw [rep_int r1]
      exact .inr (.inl ⟨pp, xs, _, z, rfl, rfl, t1.bs.leH.sqT ha, h2, rt _ _ _ _ _ t1 l1 h3 h⟩)
    · obtain ⟨d, h1, h⟩ := p1
      obtain ⟨pp, xs, rfl, ha, hx⟩ := rep_lst h2
      obtain ⟨z, h2, h3⟩ := repL_atI hx h1
      rw [rep_int r1]
      exact .inl ⟨pp, xs, _, z, rfl, rfl, SqL.of (t1.bs.leH _ _ ha), h2, rt _ _ _ _ _ t1 l1 h3 h⟩
    · exact p1.elim
  · exact p1.elim
/-! ### slices of tuples and lists -/
abbrev DFO := DS → (Option Int → DS → Prop) → XD → Prop
def RetP (c : Ct) (L : List (Addr × HO)) (H0 B0 : Hp) (σ : L2.St) (B : Hp) (P : Option Int → DS → Prop) (Q : Option Int → Hp → Prop) : Prop := ∀ b H' s' B', At c L H0 B0 σ H' s' B' → Le B B' → P b s' → Q b H'
def LftP (X : Cx) (W : WX) (F : DFO) : TO := fun σ H Q => ∃ q L H0 B0 s B P ex, At (cx X q) L H0 B0 σ H s B ∧ F s P ex ∧ RetP (cx X q) L H0 B0 σ B P Q ∧ Exs (cx X q) L H0 B0 σ B ex W
structure DPP (X : Cx) (W : WX) (e : Option Expr) (F : DFO) : Prop where po : PO X e (LftP X W F)
theorem po_mono {e : Option Expr} {t t' : TO} (h : ∀ σ H Q, t' σ H Q → t σ H Q) (p : PO X e t) : PO X e t' := ⟨fun pins s σ H Q I q => p.run pins s σ H Q I (h σ H Q q)⟩
def oNo : DFO := fun s P _ => P none s
def oAt (F : DF) : DFO := fun s P ex => F s (fun d s1 => match d with | .int i => P (some i) s1 | _ => False) ex
theorem d_oNo : DPP X W none oNo := ⟨po_mono (fun σ H Q ⟨q, L, H0, B0, s, B, P, ex, t, f, rt, e⟩ => rt none H s B t (Le.refl B) f) po_none⟩
theorem d_oAt (h : DPE X W a Fa) : DPP X W (some a) (oAt Fa) := ⟨po_mono (fun σ H Q ⟨q, L, H0, B0, s, B, P, ex, t, f, rt, e⟩ => ⟨q, L, H0, B0, s, B, _, ex, t, f, fun v H1 x s1 B1 t1 l1 r1 p1 => by
  dsimp only at p1
  split at p1
  · rw [rep_int r1]
    exact ⟨_, rfl, rt _ _ _ _ t1 l1 p1⟩
  · exact p1.elim, e⟩) (po_some h.pe)⟩
def cutD (xs : List D) (lo hi : Option Int) : List D := (xs.drop (HT.sIx xs.length 0 lo)).take (HT.sIx xs.length xs.length hi - HT.sIx xs.length 0 lo)
def dSl (F : DF) (Gl Gh : DFO) : DF := fun s P ex => F s (fun x s1 => Gl s1 (fun l s2 => Gh s2 (fun h s3 => match x with
  | .tup ds => P (.tup (cutD ds l h)) s3
  | .lst ds => P (.lst (cutD ds l h)) s3
  | _ => False) ex) ex) ex
theorem repL_cut {c : Ct} {B : Hp} {ds : List D} {xs : List V} (r : RepL c B ds xs) (l h : Option Int) : RepL c B (cutD ds l h) (cutV xs l h) := by
  unfold cutD cutV
  rw [repL_len r]
  exact repL_take _ (repL_drop _ r)
theorem cutD_all {ds : List D} {l h : Option Int} (e : HT.sIx ds.length 0 l = 0 ∧ HT.sIx ds.length ds.length h = ds.length) : cutD ds l h = ds := by
  unfold cutD
  rw [e.1, e.2, List.drop_zero, Nat.sub_zero, List.take_length]
theorem d_sl {lo hi : Option Expr} {Gl Gh : DFO} {p2 : Pos} (he : DPE X W e Fa) (hl : DPP X W lo Gl) (hh : DPP X W hi Gh) : DPE X W (.Subscript e (.Slice lo hi none p2) pos) (dSl Fa Gl Gh) := by
  refine ⟨pe_mono (fun σ H Q ⟨q, L, H0, B0, s, B, P, ex, t, f, rt, e⟩ => ?_) (pe_slice (sl_list.or sl_tupA) he.pe hl.po hh.po)⟩
  refine ⟨q, L, H0, B0, s, B, _, ex, t, f, fun v H1 x s1 B1 t1 l1 r1 p1 => ⟨q, L, H0, B0, s1, B1, _, ex, t1, p1, fun lo H2 s2 B2 t2 l2 p2 => ⟨q, L, H0, B0, s2, B2, _, ex, t2, p2, fun hi H3 s3 B3 t3 l3 p3 => ?_, e.le (l1.trans l2)⟩, e.le l1⟩, e⟩
  have l := l1.trans (l2.trans l3)
  have r := r1.mono (l2.trans l3)
  split at p3
  · obtain ⟨a, xs, rfl, ha, hx⟩ := rep_tup r
    rename_i ds
    refine .inr ⟨a, xs, rfl, t3.bs.leH.sqT ha, fun z => ?_, fun _ pp hp => ?_⟩
    · rw [repL_len hx] at z
      rw [cutD_all z] at p3
      exact rt _ _ _ _ _ t3 l r p3
    · exact rt _ _ _ _ _ (t3.alloc hp (fun _ z => by cases z)) (l.trans (Le.upd (t3.bs.nB hp))) (tup_rep upd_same (repL_cut (hx.mono (Le.upd (t3.bs.nB hp))) _ _)) p3
  · obtain ⟨a, xs, rfl, ha, hx⟩ := rep_lst r
    refine .inl ⟨a, xs, rfl, SqL.of (t3.bs.leH _ _ ha), fun pp hp => ?_⟩
    exact rt _ _ _ _ _ (t3.alloc hp (fun _ z => by cases z)) (l.trans (Le.upd (t3.bs.nB hp))) (lst_rep upd_same (repL_cut (hx.mono (Le.upd (t3.bs.nB hp))) _ _)) p3
  · exact p3.elim
/-! ### built-ins by name -/
structure CallD (X : Cx) (f : Value) (R : List D → (D → Prop) → Prop) : Prop where
  ex : ∃ r : List V → Hp → VK → Prop, CallR X f r ∧ ∀ q L H0 B0 σ H s B xs vs P Q, At (cx X q) L H0 B0 σ H s B → RepL (cx X q) B xs vs → R xs P → R1 (cx X q) L H0 B0 σ B s P Q → r vs H Q
def dCB (R : List D → (D → Prop) → Prop) (G : DFA) : DF := fun s P ex => G s (fun ds s1 => R ds fun d => P d s1) ex
theorem lft_cb {r : List V → Hp → VK → Prop} {R : List D → (D → Prop) → Prop} (h2 : ∀ q L H0 B0 σ H s B xs vs P Q, At (cx X q) L H0 B0 σ H s B → RepL (cx X q) B xs vs → R xs P → R1 (cx X q) L H0 B0 σ B s P Q → r vs H Q) :
    ∀ σ H Q, LftE X W (dCB R G) σ H Q → tCB r (LftA X W G) σ H Q := fun σ H Q ⟨q, L, H0, B0, s, B, P, ex, t, f, rt, e⟩ => ⟨q, L, H0, B0, s, B, _, ex, t, f, fun vs H1 ds s1 B1 t1 l1 r1 p1 =>
  h2 q L H0 B0 σ H1 s1 B1 ds vs _ Q t1 r1 p1 fun w H2 d s2 B2 t2 l2 r2 ⟨es, p2⟩ => rt w H2 d s2 B2 t2 (l1.trans l2) r2 (by rw [es]; exact p2), e⟩
theorem d_callB {id : String} {x : Str} {R : List D → (D → Prop) → Prop} (hc : CallD X (.builtin id) R) (hg : Gl X x) (hm : X.mg x = none) (hv : bootBuiltins x = some (.builtin id)) (ha : DPA X W (e :: es) G) (hn : x ≠ "__name__" := by decide) (hdb : (x == ("__debug__" : Str)) = false := by decide)
    (he : starEach (e :: es) X.env = (false, eval e X.env) :: starEach es X.env := by rfl) (hpl : (backTo pos (starEach es X.env)).any (·.1) = false := by rfl) : DPE X W (.Call (.Name x p) (e :: es) [] pos) (dCB R G) := by
  obtain ⟨r, h1, h2⟩ := hc.ex
  exact ⟨pe_mono (lft_cb h2) (pe_callB h1 hg hm hv ha.pa hn hdb he hpl)⟩
theorem d_callTy {T : String} {x : Str} {R : List D → (D → Prop) → Prop} (hc : CallD X (.type T) R) (hg : Gl X x) (hm : X.mg x = none) (hv : bootBuiltins x = some (.type T)) (ha : DPA X W (e :: es) G) (hn : x ≠ "__name__" := by decide) (hdb : (x == ("__debug__" : Str)) = false := by decide)
    (he : starEach (e :: es) X.env = (false, eval e X.env) :: starEach es X.env := by rfl) (hpl : (backTo pos (starEach es X.env)).any (·.1) = false := by rfl) : DPE X W (.Call (.Name x p) (e :: es) [] pos) (dCB R G) := by
  obtain ⟨r, h1, h2⟩ := hc.ex
  exact ⟨pe_mono (lft_cb h2) (pe_callTy h1 hg hm hv ha.pa hn hdb he hpl)⟩
theorem repL_1 {c : Ct} {B : Hp} {d : D} {vs : List V} (h : RepL c B [d] vs) : ∃ v, vs = [v] ∧ Rep c B d v := by
  unfold RepL at h
  obtain ⟨x, xr, rfl, h1, h2⟩ := h
  unfold RepL at h2
  subst h2
  exact ⟨x, rfl, h1⟩
theorem repL_2 {c : Ct} {B : Hp} {d d2 : D} {vs : List V} (h : RepL c B [d, d2] vs) : ∃ v v2, vs = [v, v2] ∧ Rep c B d v ∧ Rep c B d2 v2 := by
  unfold RepL at h
  obtain ⟨x, xr, rfl, h1, h2⟩ := h
  obtain ⟨y, rfl, h3⟩ := repL_1 h2
  exact ⟨x, y, rfl, h1, h3⟩
def cLen : List D → (D → Prop) → Prop
  | [.tup ds], P => P (.int ds.length)
  | [.lst ds], P => P (.int ds.length)
  | [.str x], P => x.length ≤ 100000 ∧ P (.int x.length)
  | [.scr ns], P => P (.int ns.length)
  | _, _ => False
theorem c_len : CallD X (.builtin "len") cLen := by
  refine ⟨_, call_len, fun q L H0 B0 σ H s B xs vs P Q t rx h r => ?_⟩
  unfold cLen at h
  split at h
  · obtain ⟨v, rfl, h1⟩ := repL_1 rx
    obtain ⟨a, xs, rfl, ha, hx⟩ := rep_tup h1
    exact ⟨_, xs.length, rfl, .inr ⟨xs, t.bs.leH.sqT ha, rfl⟩, by rw [repL_len hx]; exact R1.val r t int_rep h⟩
  · obtain ⟨v, rfl, h1⟩ := repL_1 rx
    obtain ⟨a, xs, rfl, ha, hx⟩ := rep_lst h1
    exact ⟨_, xs.length, rfl, .inl ⟨xs, SqL.of (t.bs.leH _ _ ha), rfl⟩, by rw [repL_len hx]; exact R1.val r t int_rep h⟩
  · obtain ⟨v, rfl, h1⟩ := repL_1 rx
    rw [rep_str h1]
    exact ⟨_, _, rfl, ⟨sz h.1, rfl⟩, R1.val r t int_rep h.2⟩
  · obtain ⟨v, rfl, h1⟩ := repL_1 rx
    unfold Rep at h1
    obtain ⟨a, rfl, h2⟩ := h1
    refine ⟨_, _, rfl, .inl ⟨_, t.bs.leH.sqL h2, rfl⟩, ?_⟩
    rw [List.length_map]
    exact R1.val r t int_rep h
  · exact h.elim
def cAbs : List D → (D → Prop) → Prop
  | [.int i], P => P (.int (if i < 0 then -i else i))
  | _, _ => False
theorem c_abs : CallD X (.builtin "abs") cAbs := by
  refine ⟨_, call_abs, fun q L H0 B0 σ H s B xs vs P Q t rx h r => ?_⟩
  unfold cAbs at h
  split at h
  · obtain ⟨v, rfl, h1⟩ := repL_1 rx
    rw [rep_int h1]
    exact ⟨_, rfl, R1.val r t int_rep h⟩
  · exact h.elim
def cMin2 : List D → (D → Prop) → Prop
  | [.int i, .int j], P => P (.int (if j < i then j else i))
  | _, _ => False
theorem c_min2 (hc : X.calm = true) : CallD X (.builtin "min") cMin2 := by
  refine ⟨_, call_min2 hc, fun q L H0 B0 σ H s B xs vs P Q t rx h r => ?_⟩
  unfold cMin2 at h
  split at h
  · obtain ⟨v, w, rfl, h1, h2⟩ := repL_2 rx
    rw [rep_int h1, rep_int h2]
    exact ⟨_, _, rfl, R1.val r t int_rep h⟩
  · exact h.elim
def cInt : List D → (D → Prop) → Prop
  | [.int i], P => P (.int i)
  | [.bl k], P => P (.int (if k then 1 else 0))
  | _, _ => False
theorem c_int : CallD X (.type "int") cInt := by
  refine ⟨_, call_int1, fun q L H0 B0 σ H s B xs vs P Q t rx h r => ?_⟩
  unfold cInt at h
  split at h
  · obtain ⟨v, rfl, h1⟩ := repL_1 rx
    rw [rep_int h1]
    exact .inl ⟨_, rfl, R1.val r t int_rep h⟩
  · obtain ⟨v, rfl, h1⟩ := repL_1 rx
    rw [rep_bl h1]
    exact .inr ⟨_, rfl, R1.val r t int_rep h⟩
  · exact h.elim
def cTuple : List D → (D → Prop) → Prop
  | [.tup ds], P => P (.tup ds)
  | [.lst ds], P => P (.tup ds)
  | _, _ => False
theorem c_tuple : CallD X (.type "tuple") cTuple := by
  refine ⟨_, call_tuple_of, fun q L H0 B0 σ H s B xs vs P Q t rx h r => ?_⟩
  unfold cTuple at h
  split at h
  · obtain ⟨v, rfl, h1⟩ := repL_1 rx
    obtain ⟨a, xs, rfl, ha, hx⟩ := rep_tup h1
    exact ⟨a, xs, rfl, .inr ⟨t.bs.leH.sqT ha, R1.val r t h1 h⟩⟩
  · obtain ⟨v, rfl, h1⟩ := repL_1 rx
    obtain ⟨a, xs, rfl, ha, hx⟩ := rep_lst h1
    exact ⟨a, xs, rfl, .inl ⟨SqL.of (t.bs.leH _ _ ha), fun l hl => R1.new r t hl (fun _ z => by cases z) (tup_rep upd_same (hx.mono (Le.upd (t.bs.nB hl)))) h⟩⟩
  · exact h.elim
/-- all(xs) of truths -/
def blsOf : List D → Option (List Bool)
  | [] => some []
  | .bl b :: r => (blsOf r).map (b :: ·)
  | _ :: _ => none
theorem repL_bls {c : Ct} {B : Hp} : ∀ {ds : List D} {xs : List V} {bs : List Bool}, blsOf ds = some bs → RepL c B ds xs → xs = bs.map V.bl
  | [], _, bs, e, h => by
    unfold blsOf at e
    cases e
    unfold RepL at h
    exact h
  | d :: ds, _, bs, e, h => by
    unfold RepL at h
    obtain ⟨x, xr, rfl, h1, h2⟩ := h
    unfold blsOf at e
    split at e
    · rename_i q; cases q
    · rename_i b r q
      cases q
      cases e2 : blsOf ds with
      | none => rw [e2] at e; cases e
      | some cs =>
        rw [e2] at e
        cases e
        rw [rep_bl h1, repL_bls e2 h2]
        rfl
    · cases e
def cAll : List D → (D → Prop) → Prop
  | [.lst ds], P => ∃ bs, blsOf ds = some bs ∧ P (.bl (bs.all id))
  | _, _ => False
theorem c_all (h0 : CallR X (.builtin "all") (rAll X.K)) : CallD X (.builtin "all") cAll := by
  refine ⟨_, h0, fun q L H0 B0 σ H s B xs vs P Q t rx h r => ?_⟩
  unfold cAll at h
  split at h
  · obtain ⟨bs, e, h⟩ := h
    obtain ⟨v, rfl, h1⟩ := repL_1 rx
    obtain ⟨a, xs, rfl, ha, hx⟩ := rep_lst h1
    exact ⟨a, bs, rfl, SqL.of (by rw [← repL_bls e hx]; exact t.bs.leH _ _ ha), R1.val r t bl_rep h⟩
  · exact h.elim
/-- list(x): a new list -/
def dListO (F : DF) : DF := fun s P ex => F s (fun d s1 => match d with
  | .tup ds => P (.lst ds) s1
  | .lst ds => P (.lst ds) s1
  | _ => False) ex
theorem d_listO (hm : X.mg "list" = none) (ha : DPE X W a Fa) (hg : Gl X "list" := by rfl) (he : starEach [a] X.env = (false, eval a X.env) :: starEach [] X.env := by rfl) : DPO X W (.Call (.Name "list" p) [a] [] pos) (dListO Fa) := by
  refine ⟨pe_mono (fun σ H Q ⟨q, L, H0, B0, s, B, P, ex, t, f, rt, e⟩ => ?_) (pe_callTy call_list_of hg hm PyProof.Rows.boot_list (pa_cons ha.pe pa_nil he) (by decide) (by decide) he (by rfl))⟩
  refine ⟨q, L, H0, B0, s, B, _, ex, t, f, fun v H1 x s1 B1 t1 l1 r1 p1 => ?_, e⟩
  dsimp only at p1
  split at p1
  · obtain ⟨a, xs, rfl, ha, hx⟩ := rep_tup r1
    exact ⟨a, xs, rfl, .inr (t1.bs.leH.sqT ha), fun l hl => rt l (.lst xs) H1 (.lst _) s1 B1 t1 l1 hl ⟨xs, rfl, hx⟩ p1⟩
  · obtain ⟨a, xs, rfl, ha, hx⟩ := rep_lst r1
    exact ⟨a, xs, rfl, .inl (SqL.of (t1.bs.leH _ _ ha)), fun l hl => rt l (.lst xs) H1 (.lst _) s1 B1 t1 l1 hl ⟨xs, rfl, hx⟩ p1⟩
  · exact p1.elim
/-- a + b of lists: a new list -/
def dCatO (Fa Fb : DF) : DF := fun s P ex => Fa s (fun x s1 => Fb s1 (fun y s2 => match x, y with
  | .lst ds, .lst es => ds.length + es.length ≤ 100000 ∧ P (.lst (ds ++ es)) s2
  | _, _ => False) ex) ex
theorem d_catO (ha : DPE X W a Fa) (hb : DPE X W b Fb) : DPO X W (.BinOp a .Add b pos) (dCatO Fa Fb) := by
  refine ⟨pe_mono (fun σ H Q ⟨q, L, H0, B0, s, B, P, ex, t, f, rt, e⟩ => ?_) (pe_op op_cat ha.pe hb.pe)⟩
  refine ⟨q, L, H0, B0, s, B, _, ex, t, f, fun v H1 x s1 B1 t1 l1 r1 p1 => ⟨q, L, H0, B0, s1, B1, _, ex, t1, p1, fun u H2 y s2 B2 t2 l2 r2 p2 => ?_, e.le l1⟩, e⟩
  dsimp only at p2
  split at p2
  · obtain ⟨a, xs, rfl, ha, hx⟩ := rep_lst (r1.mono l2)
    obtain ⟨b, ys, rfl, hb, hy⟩ := rep_lst r2
    exact ⟨a, b, xs, ys, rfl, rfl, t2.bs.leH _ _ ha, t2.bs.leH _ _ hb, by rw [repL_len hx, repL_len hy]; exact sz p2.1, fun pp hp => rt pp (.lst _) H2 (.lst _) s2 B2 t2 (l1.trans l2) hp ⟨_, rfl, repL_app hy hx⟩ p2.2⟩
  · exact p2.elim
/-! ### isinstance -/
def tyName : D → Option String
  | .non => some "NoneType" | .bl _ => some "bool" | .int _ => some "int" | .str _ => some "str"
  | .tup _ => some "tuple" | .lst _ => some "list" | .dic _ => some "dict" | .dtp _ => some "dict"
  | _ => none
theorem tyX_of {c : Ct} {B H : Hp} (le : Le B H) : ∀ {d : D} {v : V} {t : String}, tyName d = some t → Rep c B d v → TyX c.K H v (.type t)
  | .non, v, t, e, h => by cases e; rw [rep_non h]; exact .base .non
  | .bl b, v, t, e, h => by cases e; rw [rep_bl h]; exact .base (.bl _)
  | .int i, v, t, e, h => by cases e; rw [rep_int h]; exact .base (.int _)
  | .str x, v, t, e, h => by cases e; rw [rep_str h]; exact .base (.str _)
  | .tup ds, v, t, e, h => by
    cases e
    obtain ⟨a, xs, rfl, ha, hx⟩ := rep_tup h
    rcases le.sqT ha with (h | ⟨o, h⟩) | ⟨o, its, n, h1, h2, _⟩
    · exact .base (.tup h)
    · exact .fTuple h
    · exact .kTuple h1 h2
  | .lst ds, v, t, e, h => by
    cases e
    obtain ⟨a, xs, rfl, ha, hx⟩ := rep_lst h
    exact .base (.lst (le _ _ ha))
  | .dic _, v, t, e, h => by
    cases e
    unfold Rep at h
    obtain ⟨a, xs, rfl, ha, hx⟩ := h
    rcases ha with ha | ⟨o, ha⟩
    · exact .base (.dK (le _ _ ha))
    · exact .fDict (le _ _ ha)
  | .obj _ _, _, _, e, _ => by cases e
  | .exc _ _, _, _, e, _ => by cases e
  | .st, _, _, e, _ => by cases e
  | .scr _, _, _, e, _ => by cases e
  | .fn _, _, _, e, _ => by cases e
  | .dtp _, v, t, e, h => by
    cases e
    unfold Rep at h
    obtain ⟨a, xs, rfl, ha, _⟩ := h
    exact .base (.dT (le _ _ ha))
def dIsTy (n : String) (F : DF) : DF := fun s P ex => F s (fun d s1 => ∃ t r, tyName d = some t ∧ kitB t n = some r ∧ P (.bl r) s1) ex
theorem d_isTy {n : String} {x : Str} {p2 : Pos} (hm : X.mg "isinstance" = none) (hmx : X.mg x = none) (hv : bootBuiltins x = some (.type n)) (ha : DPE X W a Fa) (hg : Gl X "isinstance" := by rfl) (hgx : Gl X x := by rfl) (hn : x ≠ "__name__" := by decide) (hdb : (x == ("__debug__" : Str)) = false := by decide)
    (he : starEach [a, .Name x p2] X.env = (false, eval a X.env) :: starEach [.Name x p2] X.env := by rfl) (he2 : starEach [.Name x p2] X.env = (false, eval (.Name x p2) X.env) :: starEach [] X.env := by rfl) (hpl : (backTo pos (starEach [.Name x p2] X.env)).any (·.1) = false := by rfl) :
    DPE X W (.Call (.Name "isinstance" p) [a, .Name x p2] [] pos) (dIsTy n Fa) := by
  refine ⟨pe_mono (fun σ H Q ⟨q, L, H0, B0, s, B, P, ex, t, f, rt, e⟩ => ?_) (pe_callB call_isi hg hm (by decide +kernel) (pa_cons ha.pe (pa_cons (pe_bltn (v := .ty n) hgx hmx hv rfl hn hdb) pa_nil he2) he) (by decide) (by decide) he hpl)⟩
  refine ⟨q, L, H0, B0, s, B, _, ex, t, f, fun v H1 x s1 B1 t1 l1 r1 ⟨ty, r, h1, h2, p1⟩ => ?_, e⟩
  exact ⟨v, .ty n, .type ty, .type n, r, rfl, .ty n, tyX_of t1.bs.leH h1 r1, kit_ty h2, rt _ _ _ _ _ t1 l1 bl_rep p1⟩
end
/-! ### own defs: a promise over data -/
abbrev PF := List D → Nat → (Sl → Nat → Prop) → (Str → List (Str × D) → Nat → Prop) → Prop
def spD (K : PySem.W.Frag) (mg : Str → Option Value) (n : Nat) (S : PF) : Sp := fun vs H Q E => ∃ q B ds T post ex, vs.length = n ∧ Bs ⟨K, mg, q⟩ H B H B T ∧ RepL ⟨K, mg, q⟩ B ds vs ∧ S ds T post ex ∧
  (∀ v H' B' d T', Bs ⟨K, mg, q⟩ H B H' B' T' → Rep ⟨K, mg, q⟩ B' d v → post (.fz d) T' → Q v H') ∧
  (∀ p o H' B' d T', Bs ⟨K, mg, q⟩ H B H' B' T' → H' p = none → RepO ⟨K, mg, q⟩ B' d o → post (.ow d) T' → Q (.ref p) (upd H' p o)) ∧
  (∀ n fs cls dd H' B' T', Bs ⟨K, mg, q⟩ H B H' B' T' → ExcR ⟨K, mg, q⟩ B' n fs cls dd → ex n fs T' → E cls dd H')
/-- the def x keeps the promise S (by at most level k) -/
structure Kn (P : Program) (w : World) (K : PySem.W.Frag) (mg : Str → Option Value) (base : Heap) (CX : CXT) (k : Nat) (x : Str) (ps : List Str) (S : PF) : Prop where
  ex : ∃ f fd, FnOk P w K mg base CX k f fd ps (spD K mg ps.length S) ∧ mg x = some (.ref f) ∧ PySem.W.keepIn K (.ref f) = true ∧ Binds K fd ps []
section
variable {X : Cx} {W : WX} {a b e : Expr} {es : List Expr} {Fa Fb : DF} {G : DFA} {pos p : Pos}
abbrev noX : Str → List (Str × D) → Nat → Prop := fun _ _ _ => False
def dCall (S : PF) (n : Nat) (G : DFA) : DF := fun s P ex => G s (fun ds s1 => ds.length = n ∧ S ds s1.T (fun x T' => P x.d (s1.tick T')) noX) ex
/-- what a call hands on -/
theorem sp_of {q : Dr} {L : List (Addr × HO)} {H0 B0 H1 B1 : Hp} {σ : L2.St} {s1 : DS} {vs : List V} {ds : List D} {n : Nat} {S : PF} {Q : VK} {E : XK} {post : Sl → Nat → Prop} {ex : Str → List (Str × D) → Nat → Prop}
    (t : At (cx X q) L H0 B0 σ H1 s1 B1) (r : RepL (cx X q) B1 ds vs) (hl : ds.length = n) (h : S ds s1.T post ex)
    (h1 : ∀ v H' B' d T', At (cx X q) L H0 B0 σ H' (s1.tick T') B' → Le B1 B' → Rep (cx X q) B' d v → post (.fz d) T' → Q v H')
    (h2 : ∀ p o H' B' d T', At (cx X q) L H0 B0 σ H' (s1.tick T') B' → Le B1 B' → H' p = none → RepO (cx X q) B' d o → post (.ow d) T' → Q (.ref p) (upd H' p o))
    (h3 : ∀ m fs cls dd H' B' T', At (cx X q) L H0 B0 σ H' (s1.tick T') B' → Le B1 B' → ExcR (cx X q) B' m fs cls dd → ex m fs T' → E cls dd H') : spD X.K X.mg n S vs H1 Q E :=
  ⟨q, B1, ds, s1.T, post, ex, by rw [repL_len r, hl], t.bs.self, r, h, fun v H' B' d T' b => h1 v H' B' d T' (t.call b) b.leB, fun p o H' B' d T' b => h2 p o H' B' d T' (t.call b) b.leB, fun m fs cls dd H' B' T' b => h3 m fs cls dd H' B' T' (t.call b) b.leB⟩
theorem d_call {k n : Nat} {x : Str} {ps : List Str} {S : PF} (F : Kn X.prog X.w X.K X.mg X.base CX0 k x ps S) (hr : Room k X.A) (ha : DPA X W (e :: es) G) (hn : ps.length = n := by rfl) (hg : Gl X x := by rfl) (hdb : (x == ("__debug__" : Str)) = false := by decide)
    (he : starEach (e :: es) X.env = (false, eval e X.env) :: starEach es X.env := by rfl) (hpl : (backTo pos (starEach es X.env)).any (·.1) = false := by rfl) : DPE X W (.Call (.Name x p) (e :: es) [] pos) (dCall S n G) := by
  subst hn
  obtain ⟨f, fd, h1, h2, h3, h4⟩ := F.ex
  refine ⟨pe_mono (fun σ H Q ⟨q, L, H0, B0, s, B, P, ex, t, f, rt, e⟩ => ?_) (pe_call h1 hr hg h2 h3 h4 .nil pass0 ha.pa hdb he hpl)⟩
  refine ⟨q, L, H0, B0, s, B, _, ex, t, f, fun vs H1 ds s1 B1 t1 l1 r1 p1 => ?_, e⟩
  show spD X.K X.mg ps.length S (vs ++ []) H1 Q E0
  rw [List.append_nil]
  exact sp_of t1 r1 p1.1 p1.2 (fun v H' B' d T' t2 l2 r2 p2 => rt _ _ _ _ _ t2 (l1.trans l2) r2 p2)
    (fun p o H' B' d T' t2 l2 hp ro p2 => rt _ _ _ _ _ (t2.alloc hp ro.ntb) (l1.trans (l2.trans (Le.upd (t2.bs.nB hp)))) ((ro.mono (Le.upd (t2.bs.nB hp))).rep upd_same) p2) (fun _ _ _ _ _ _ _ _ _ _ z => z.elim)
end
end DL


set_option Elab.async false
set_option linter.all false
set_option maxRecDepth 100000
set_option maxHeartbeats 4000000
namespace DL
open PySem L2
variable [Tb]
structure DE where
  nx : DS → Prop
  rt : Sl → Nat → Prop
  bk : DS → Prop := fun _ => False
  ct : DS → Prop := fun _ => False
  ex : XD := fun _ _ _ => False
abbrev DG := DE → DS → Prop
/-- the ends over data are the ends over the heap -/
structure ER (c : Ct) (L : List (Addr × HO)) (H0 B0 A : Hp) (E : DE) (W : WX) (D : Ends) : Prop where
  nx : ∀ σ H s B, At c L H0 B0 σ H s B → Le A B → E.nx s → D.nx σ H
  bk : ∀ σ H s B, At c L H0 B0 σ H s B → Le A B → E.bk s → D.bk σ H
  ct : ∀ σ H s B, At c L H0 B0 σ H s B → Le A B → E.ct s → D.ct σ H
  rt : ∀ σ v H s B d, At c L H0 B0 σ H s B → Le A B → Rep c B d v → E.rt (.fz d) s.T → D.rt v H
  ro : ∀ σ p o H s B d, At c L H0 B0 σ H s B → Le A B → H p = none → RepO c B d o → E.rt (.ow d) s.T → D.rt (.ref p) (upd H p o)
  ex : ∀ σ n fs s H B cls dd, At c L H0 B0 σ H s B → Le A B → ExcR c B n fs cls dd → E.ex n fs s → W cls dd σ H
theorem ER.le {c : Ct} {L : List (Addr × HO)} {H0 B0 A A' : Hp} {E : DE} {W : WX} {D : Ends} (l : Le A A') (r : ER c L H0 B0 A E W D) : ER c L H0 B0 A' E W D :=
  ⟨fun σ H s B t k => r.nx σ H s B t (l.trans k), fun σ H s B t k => r.bk σ H s B t (l.trans k), fun σ H s B t k => r.ct σ H s B t (l.trans k), fun σ v H s B d t k => r.rt σ v H s B d t (l.trans k), fun σ p o H s B d t k => r.ro σ p o H s B d t (l.trans k), fun σ n fs s H B cls dd t k => r.ex σ n fs s H B cls dd t (l.trans k)⟩
def LftS (X : Cx) (W : WX) (G : DG) : TS := fun D σ H => ∃ q L H0 B0 s B E, At (cx X q) L H0 B0 σ H s B ∧ G E s ∧ ER (cx X q) L H0 B0 B E W D
structure DPS (X : Cx) (W : WX) (st : Stmt) (G : DG) : Prop where ps : PS X st (LftS X W G)
structure DPSs (X : Cx) (W : WX) (st : List Stmt) (G : DG) : Prop where ps : PSs X st (LftS X W G)
section
variable {X : Cx} {W : WX} {a b e : Expr} {es : List Expr} {Fa Fb : DF} {G G1 G2 : DG} {pos p : Pos} {st : Stmt} {rest : List Stmt}
/-- the wish of an expression is that of its statement -/
theorem ER.exs {c : Ct} {L : List (Addr × HO)} {H0 B0 B : Hp} {σ : L2.St} {E : DE} {D : Ends} (r : ER c L H0 B0 B E W D) : Exs c L H0 B0 σ B E.ex W := fun n fs s' H' B' cls dd t l x h => r.ex σ n fs s' H' B' cls dd t l x h
def gNil : DG := fun E s => E.nx s
def gSeq (G1 G2 : DG) : DG := fun E s => G1 { E with nx := G2 E } s
theorem g_nil : DPSs X W [] gNil := ⟨pss_mono (fun D σ H ⟨q, L, H0, B0, s, B, E, t, g, r⟩ => r.nx σ H s B t (Le.refl B) g) pss_nil⟩
theorem g_one (h : DPS X W st G) : DPSs X W [st] G := ⟨pss_one h.ps⟩
theorem g_cons (h1 : DPS X W st G1) (h2 : DPSs X W rest G2) : DPSs X W (st :: rest) (gSeq G1 G2) :=
  ⟨pss_mono (fun D σ H ⟨q, L, H0, B0, s, B, E, t, g, r⟩ => ⟨q, L, H0, B0, s, B, { E with nx := G2 E }, t, g, ⟨fun σ1 H1 s1 B1 t1 l1 g1 => ⟨q, L, H0, B0, s1, B1, E, t1, g1, r.le l1⟩, r.bk, r.ct, r.rt, r.ro, r.ex⟩⟩) (pss_cons h1.ps h2.ps)⟩
def gCont : DG := fun E s => E.ct s
theorem g_cont : DPS X W (.Continue pos) gCont := ⟨ps_mono (fun D σ H ⟨q, L, H0, B0, s, B, E, t, g, r⟩ => r.ct σ H s B t (Le.refl B) g) ps_continue⟩
/-- x = e -/
def gSet (i : Nat) (F : DF) : DG := fun E s => F s (fun d s1 => E.nx (s1.put i (.fz d))) E.ex
def gSetO (i : Nat) (F : DF) : DG := fun E s => F s (fun d s1 => E.nx (s1.put i (.ow d))) E.ex
theorem g_set {i : Nat} {x : Str} {pos' : Pos} (hN : X.N.Nodup) (he : DPE X W e Fa) (hi : X.N[i]? = some x := by rfl) (hx : Loc X.env.scope x := by first | exact Or.inl rfl | exact Or.inr rfl) (hs : swapsWith e (some (.Name x pos')) pos.line X.env = pure false := by rfl)
    (hf : X.fn x = true ∨ X.env.scope.names.lookup x = some .local := by first | exact .inl rfl | exact .inr rfl) (hw : swappedStores [.Name x pos'] e X.env = pure none := by rfl) : DPS X W (.Assign [.Name x pos'] e pos) (gSet i Fa) :=
  ⟨ps_mono (fun D σ H ⟨q, L, H0, B0, s, B, E, t, g, r⟩ => ⟨q, L, H0, B0, s, B, _, E.ex, t, g, fun v H1 d s1 B1 t1 l1 r1 p1 => r.nx _ _ _ _ (t1.setFz r1) l1 p1, r.exs⟩) (ps_asg he.pe (pg_name (i := i) hN hi hx hf) hs hw)⟩
theorem g_setO {i : Nat} {x : Str} {pos' : Pos} (hN : X.N.Nodup) (he : DPO X W e Fa) (hi : X.N[i]? = some x := by rfl) (hx : Loc X.env.scope x := by first | exact Or.inl rfl | exact Or.inr rfl) (hs : swapsWith e (some (.Name x pos')) pos.line X.env = pure false := by rfl)
    (hf : X.fn x = true ∨ X.env.scope.names.lookup x = some .local := by first | exact .inl rfl | exact .inr rfl) (hw : swappedStores [.Name x pos'] e X.env = pure none := by rfl) : DPS X W (.Assign [.Name x pos'] e pos) (gSetO i Fa) :=
  ⟨ps_mono (fun D σ H ⟨q, L, H0, B0, s, B, E, t, g, r⟩ => ⟨q, L, H0, B0, s, B, _, E.ex, t, g, fun pp o H1 d s1 B1 t1 l1 hp ro p1 => r.nx _ _ _ _ (t1.setOw hp ro) l1 p1, r.exs⟩) (ps_asg he.pe (pg_name (i := i) hN hi hx hf) hs hw)⟩
/-- e alone -/
def gDrop (F : DF) : DG := fun E s => F s (fun _ s1 => E.nx s1) E.ex
theorem g_drop (he : DPE X W e Fa) (hs : swapsWith e none pos.line X.env = pure false := by rfl) : DPS X W (.Expr e pos) (gDrop Fa) :=
  ⟨ps_mono (fun D σ H ⟨q, L, H0, B0, s, B, E, t, g, r⟩ => ⟨q, L, H0, B0, s, B, _, E.ex, t, g, fun v H1 d s1 B1 t1 l1 r1 p1 => r.nx _ _ _ _ t1 l1 p1, r.exs⟩) (ps_expr he.pe hs)⟩
/-- return e -/
def gRet (F : DF) : DG := fun E s => F s (fun d s1 => E.rt (.fz d) s1.T) E.ex
theorem g_ret (he : DPE X W e Fa) : DPS X W (.Return (some e) pos) (gRet Fa) :=
  ⟨ps_mono (fun D σ H ⟨q, L, H0, B0, s, B, E, t, g, r⟩ => ⟨q, L, H0, B0, s, B, _, E.ex, t, g, fun v H1 d s1 B1 t1 l1 r1 p1 => r.rt _ _ _ _ _ _ t1 l1 r1 p1, r.exs⟩) (ps_ret he.pe)⟩
/-- if -/
def gIf (F : DFT) (G1 G2 : DG) : DG := fun E s => F s (fun k s1 => if k = true then G1 E s1 else G2 E s1) E.ex
theorem g_if {c : Expr} {F : DFT} {xs ys : List Stmt} (hc : DPT X W c F) (ha : DPSs X W xs G1) (hb : DPSs X W ys G2) : DPS X W (.If c xs ys pos) (gIf F G1 G2) := by
  refine ⟨ps_mono (fun D σ H ⟨q, L, H0, B0, s, B, E, t, g, r⟩ => ⟨q, L, H0, B0, s, B, _, E.ex, t, g, fun k H1 s1 B1 t1 l1 p1 => ?_, r.exs⟩) (ps_if hc.pt ha.ps hb.ps)⟩
  cases k with
  | true => exact iteT ⟨q, L, H0, B0, s1, B1, E, t1, p1, r.le l1⟩
  | false => exact iteF ⟨q, L, H0, B0, s1, B1, E, t1, p1, r.le l1⟩
/-! ### targets -/
abbrev DTg := D → DS → (DS → Prop) → Prop
theorem wipe_len : ∀ (vs : List Nat) (σ : L2.St), (wipe σ vs).length = σ.length
  | [], _ => rfl
  | v :: vs, σ => by
    show ((wipe σ vs).set v none).length = σ.length
    rw [List.length_set, wipe_len vs σ]
theorem wipe_get : ∀ (vs : List Nat) (σ : L2.St) (j : Nat), (wipe σ vs)[j]? = if j ∈ vs then (σ[j]?).map (fun _ => none) else σ[j]?
  | [], σ, j => by simp [wipe]
  | v :: vs, σ, j => by
    show ((wipe σ vs).set v none)[j]? = _
    rw [List.getElem?_set, wipe_get vs σ j, wipe_len]
    by_cases h : v = j
    · subst h
      simp only [if_true, List.mem_cons, true_or]
      by_cases h2 : v < σ.length
      · simp [h2]
      · simp [h2]
    · rw [if_neg h]
      have h' : ¬ j = v := fun z => h z.symm
      simp only [List.mem_cons, h', false_or]
theorem wipe_ext {σ τ : L2.St} {vs : List Nat} (hl : σ.length = τ.length) (h : ∀ j, j ∉ vs → σ[j]? = τ[j]?) : wipe σ vs = wipe τ vs := by
  apply List.ext_getElem?
  intro j
  rw [wipe_get, wipe_get]
  by_cases m : j ∈ vs
  · rw [if_pos m, if_pos m]
    by_cases h2 : j < σ.length
    · have h3 : j < τ.length := by omega
      simp [h2, h3]
    · have h3 : ¬ j < τ.length := by omega
      simp [h2, h3]
  · rw [if_neg m, if_neg m]; exact h j m
theorem wipe_wipe {σ : L2.St} {vs : List Nat} : wipe (wipe σ vs) vs = wipe σ vs := wipe_ext (wipe_len _ _) fun j m => by rw [wipe_get, if_neg m]
theorem wipe_set {σ : L2.St} {vs : List Nat} {i : Nat} {x : Option V} (h : i ∈ vs) : wipe (σ.set i x) vs = wipe σ vs := wipe_ext (by rw [List.length_set]) fun j m => by
  rw [List.getElem?_set_ne]
  intro z
  exact m (z ▸ h)
/-- a target's reading: it stores in the slots vs alone -/
def LftG (X : Cx) (T : DTg) (vs : List Nat) : TG := fun v σ H Q => ∃ q L H0 B0 s B d K, At (cx X q) L H0 B0 σ H s B ∧ Rep (cx X q) B d v ∧ T d s K ∧ (∀ σ' s', At (cx X q) L H0 B0 σ' H s' B → wipe σ' vs = wipe σ vs → K s' → Q σ' H)
structure DPG (X : Cx) (tg : Expr) (T : DTg) (vs : List Nat) : Prop where pg : PG X tg (LftG X T vs)
abbrev DTgs := List D → DS → (DS → Prop) → Prop
def LftGs (X : Cx) (T : DTgs) (ws : List Nat) : TGs := fun v σ H Q => ∃ q L H0 B0 s B d K, At (cx X q) L H0 B0 σ H s B ∧ RepL (cx X q) B d v ∧ T d s K ∧ (∀ σ' s', At (cx X q) L H0 B0 σ' H s' B → wipe σ' ws = wipe σ ws → K s' → Q σ' H)
structure DPGs (X : Cx) (tg : List Expr) (T : DTgs) (vs : List Nat) : Prop where pg : PGs X tg (LftGs X T vs)
theorem pg_mono {tg : Expr} {t t' : TG} (h : ∀ v σ H Q, t' v σ H Q → t v σ H Q) (p : PG X tg t) : PG X tg t' := ⟨fun pins s σ H v u Q I r q => p.run pins s σ H v u Q I r (h v σ H Q q)⟩
theorem pgs_mono {tg : List Expr} {t t' : TGs} (h : ∀ v σ H Q, t' v σ H Q → t v σ H Q) (p : PGs X tg t) : PGs X tg t' := ⟨fun pins s σ H v u Q I r q => p.run pins s σ H v u Q I r (h v σ H Q q)⟩
def tgN (i : Nat) : DTg := fun d s K => K (s.put i (.fz d))
def tgNil : DTgs := fun ds s K => match ds with
  | [] => K s
  | _ => False
def tgCons (T : DTg) (U : DTgs) : DTgs := fun ds s K => match ds with
  | d :: r => T d s fun s1 => U r s1 K
  | _ => False
def tgTup (n : Nat) (U : DTgs) : DTg := fun d s K => match d with
  | .tup ds => ds.length = n ∧ U ds s K
  | _ => False
theorem t_name {vs : List Nat} {i : Nat} {x : Str} (hN : X.N.Nodup) (hm : i ∈ vs := by decide) (hi : X.N[i]? = some x := by rfl) (hx : Loc X.env.scope x := by first | exact Or.inl rfl | exact Or.inr rfl) (hf : X.fn x = true ∨ X.env.scope.names.lookup x = some .local := by first | exact .inl rfl | exact .inr rfl) : DPG X (.Name x pos) (tgN i) vs :=
  ⟨pg_mono (fun v σ H Q ⟨q, L, H0, B0, s, B, d, K, t, r, k, h⟩ => h _ _ (t.setFz r) (wipe_set hm) k) (pg_name (i := i) hN hi hx hf)⟩
theorem t_nil {vs : List Nat} : DPGs X [] tgNil vs := ⟨pgs_mono (fun v σ H Q ⟨q, L, H0, B0, s, B, d, K, t, r, k, h⟩ => by
  unfold tgNil at k
  split at k
  · unfold RepL at r
    exact ⟨r, h _ _ t rfl k⟩
  · exact k.elim) pgs_nil⟩
theorem t_cons {vs : List Nat} {T : DTg} {U : DTgs} (h1 : DPG X e T vs) (h2 : DPGs X es U vs) (hs : (assignEach (e :: es) X.env).map (·.2) = assign e X.env :: (assignEach es X.env).map (·.2) := by rfl) : DPGs X (e :: es) (tgCons T U) vs := by
  refine ⟨pgs_mono (fun v σ H Q ⟨q, L, H0, B0, s, B, d, K, t, r, k, h⟩ => ?_) (pgs_cons h1.pg h2.pg hs)⟩
  unfold tgCons at k
  split at k
  · unfold RepL at r
    obtain ⟨x, xr, rfl, r1, r2⟩ := r
    exact ⟨x, xr, rfl, q, L, H0, B0, s, B, _, _, t, r1, k, fun σ' s' t' w' k' => ⟨q, L, H0, B0, s', B, _, _, t', r2, k', fun σ4 s4 t4 w4 k4 => h σ4 s4 t4 (w4.trans w') k4⟩⟩
  · exact k.elim
theorem t_tup {vs : List Nat} {k0 n : Nat} {U : DTgs} (hc : X.calm = true) (h : DPGs X es U vs) (hn : (assignEach es X.env).length = n := by rfl) (hst : (assignEach es X.env).findIdx? (·.1) = none := by rfl) : DPG X (.Tuple es k0 pos) (tgTup n U) vs := by
  refine ⟨pg_mono (fun v σ H Q ⟨q, L, H0, B0, s, B, d, K, t, r, k, h⟩ => ?_) (pg_tup hc h.pg hn hst)⟩
  unfold tgTup at k
  split at k
  · obtain ⟨a, xs, rfl, ha, hx⟩ := rep_tup r
    exact ⟨a, xs, rfl, t.bs.leH.sqT ha, by rw [repL_len hx]; exact k.1, q, L, H0, B0, s, B, _, _, t, hx, k.2, h⟩
  · exact k.elim
/-- a, b = e -/
def gUnp (T : DTg) (F : DF) : DG := fun E s => F s (fun d s1 => T d s1 E.nx) E.ex
theorem g_unp {vs : List Nat} {tg : Expr} {T : DTg} (ht : DPG X tg T vs) (he : DPE X W e Fa) (hs : swapsWithSole [tg] e pos.line X.env = pure false := by rfl) (hw : swappedStores [tg] e X.env = pure none := by rfl) (h1 : (assignEach [tg] X.env).map (·.2) = [assign tg X.env] := by rfl) : DPS X W (.Assign [tg] e pos) (gUnp T Fa) :=
  ⟨ps_mono (fun D σ H ⟨q, L, H0, B0, s, B, E, t, g, r⟩ => ⟨q, L, H0, B0, s, B, _, E.ex, t, g, fun v H1 d s1 B1 t1 l1 r1 p1 => ⟨q, L, H0, B0, s1, B1, d, _, t1, r1, p1, fun σ' s' t' _ k' => r.nx _ _ _ _ t' l1 k'⟩, r.exs⟩) (ps_asg he.pe ht.pg hs hw h1)⟩
/-- a, b = x, y: no tuple is made -/
def gPar (i j : Nat) (G : DFA) : DG := fun E s => G s (fun ds s1 => match ds with
  | [d, d2] => E.nx ((s1.put i (.fz d)).put j (.fz d2))
  | _ => False) E.ex
theorem g_par {i j : Nat} {x y : Str} {G : DFA} {px py pt : Pos} {kt k2 pt2} (hc : X.calm = true) (hN : X.N.Nodup) (ha : DPA X W [a, b] G) (hij : i ≠ j := by decide) (hi : X.N[i]? = some x := by rfl) (hj : X.N[j]? = some y := by rfl)
    (hx : X.env.scope.names.lookup x = some .local := by rfl) (hy : X.env.scope.names.lookup y = some .local := by rfl)
    (hw : swappedStores [.Tuple [.Name x px, .Name y py] kt pt] (.Tuple [a, b] k2 pt2) X.env = pure (some [x, y]) := by rfl)
    (hs : swapsWithSole [.Tuple [.Name x px, .Name y py] kt pt] (.Tuple [a, b] k2 pt2) pos.line X.env = pure false := by rfl) : DPS X W (.Assign [.Tuple [.Name x px, .Name y py] kt pt] (.Tuple [a, b] k2 pt2) pos) (gPar i j G) := by
  refine ⟨ps_mono (fun D σ H ⟨q, L, H0, B0, s, B, E, t, g, r⟩ => ⟨q, L, H0, B0, s, B, _, E.ex, t, g, fun vs H1 ds s1 B1 t1 l1 r1 p1 => ?_, r.exs⟩) (ps_par hc hN hi hj hij hx hy ha.pa hw hs)⟩
  dsimp only at p1
  split at p1
  · obtain ⟨v, w, rfl, r2, r3⟩ := repL_2 r1
    exact ⟨v, w, rfl, r.nx _ _ _ _ ((t1.setFz r2).setFz r3) l1 p1⟩
  · exact p1.elim
/-! ### what slot i owns, changed -/
/-- x.append(e) -/
def gApp (i : Nat) (F : DF) : DG := fun E s => match s.sl[i]? with
  | some (some (.ow (.lst _))) => F s (fun d s1 => match s1.sl[i]? with
    | some (some (.ow (.lst ds))) => ds.length < 100000 ∧ E.nx (s1.put i (.ow (.lst (ds ++ [d]))))
    | _ => False) E.ex
  | _ => False
theorem g_app (i : Nat) {x : Str} {ap cp : Pos} (he : DPE X W e Fa) (hN : X.N[i]? = some x := by rfl) (hv : Vis X.env.scope x := by first | exact Or.inl rfl | exact Or.inr (Or.inl rfl) | exact Or.inr (Or.inr rfl))
    (hse : starEach [e] X.env = (false, eval e X.env) :: starEach [] X.env := by rfl) (hd : (x == ("__debug__" : Str)) = false := by decide) (hcd : (x == ("__classdict__" : Str)) = false := by decide)
    (hbase : attributeBase (.Name x p) "append" X.env (eval (.Name x p) X.env) = eval (.Name x p) X.env := by rfl)
    (hfew : ((backTo cp (starEach [e] X.env)).all (fun x => !x.1) && (backToKw cp (keywordEach [] X.env)).all (fun x => x.1.isSome) && decide (([e] : List Expr).length + ([] : List Keyword).length + (if ([] : List Keyword).isEmpty then 0 else 1) < 30)) = true := by rfl)
    (hline : (ap.endLine == cp.line) = true := by rfl)
    (hs : swapsWith (.Call (.Attribute (.Name x p) "append" ap) [e] [] cp) none pos.line X.env = pure false := by rfl) : DPS X W (.Expr (.Call (.Attribute (.Name x p) "append" ap) [e] [] cp) pos) (gApp i Fa) := by
  refine ⟨ps_mono (fun D σ H ⟨q, L, H0, B0, s, B, E, t, g, r⟩ => ?_) (ps_expr (pe_bm PySem.F.plainAttrs_list PySem.F.slot_list_append PySem.F.type_list_append mt_append (pe_var hN hv hd hcd) (pa_cons he.pe pa_nil hse) hbase hfew hline hse) hs)⟩
  unfold gApp at g
  split at g
  · rename_i ds0 e0
    obtain ⟨pp, xs, h1, h2, h3⟩ := t.ownL e0
    refine ⟨_, h1, .inl ⟨rfl, xs, SqL.of h2⟩, q, L, H0, B0, s, B, _, E.ex, t, g, fun v H1 d s1 B1 t1 l1 r1 p1 => ?_, r.exs⟩
    dsimp only at p1
    split at p1
    · rename_i ds e1
      obtain ⟨p2, ys, g1, g2, g3⟩ := t1.ownL e1
      rw [h1] at g1
      cases g1
      refine ⟨_, ys, v, rfl, rfl, g2, by rw [repL_len g3]; exact szl p1.1, ?_⟩
      exact r.nx _ _ _ _ (t1.change (d' := .lst _) e1 h1 ⟨_, rfl, repL_app (repL_cons r1 repL_nil) g3⟩) l1 p1.2
    · exact p1.elim
  · exact g.elim
/-- x.pop(e), 0 ≤ e -/
def dPopAt (i : Nat) (F : DF) : DF := fun s P ex => match s.sl[i]? with
  | some (some (.ow (.lst _))) => F s (fun d s1 => match s1.sl[i]?, d with
    | some (some (.ow (.lst ds))), .int z => 0 ≤ z ∧ z < ds.length ∧ ds.length ≤ 100000 ∧ ∀ y, ds[z.toNat]? = some y → P y (s1.put i (.ow (.lst (ds.eraseIdx z.toNat))))
    | _, _ => False) ex
  | _ => False
theorem d_popAt (i : Nat) {x : Str} {ap : Pos} (he : DPE X W e Fa) (hN : X.N[i]? = some x := by rfl) (hv : Vis X.env.scope x := by first | exact Or.inl rfl | exact Or.inr (Or.inl rfl) | exact Or.inr (Or.inr rfl))
    (hse : starEach [e] X.env = (false, eval e X.env) :: starEach [] X.env := by rfl) (hd : (x == ("__debug__" : Str)) = false := by decide) (hcd : (x == ("__classdict__" : Str)) = false := by decide)
    (hbase : attributeBase (.Name x p) "pop" X.env (eval (.Name x p) X.env) = eval (.Name x p) X.env := by rfl)
    (hfew : ((backTo pos (starEach [e] X.env)).all (fun x => !x.1) && (backToKw pos (keywordEach [] X.env)).all (fun x => x.1.isSome) && decide (([e] : List Expr).length + ([] : List Keyword).length + (if ([] : List Keyword).isEmpty then 0 else 1) < 30)) = true := by rfl)
    (hline : (ap.endLine == pos.line) = true := by rfl) : DPE X W (.Call (.Attribute (.Name x p) "pop" ap) [e] [] pos) (dPopAt i Fa) := by
  refine ⟨pe_mono (fun σ H Q ⟨q, L, H0, B0, s, B, P, ex, t, f, rt, e⟩ => ?_) (pe_bm PySem.F.plainAttrs_list PySem.F.slot_list_pop PySem.F.type_list_pop mt_popAt (pe_var hN hv hd hcd) (pa_cons he.pe pa_nil hse) hbase hfew hline hse)⟩
  unfold dPopAt at f
  split at f
  · rename_i ds0 e0
    obtain ⟨pp, xs, h1, h2, h3⟩ := t.ownL e0
    refine ⟨_, h1, .inl ⟨rfl, xs, SqL.of h2⟩, q, L, H0, B0, s, B, _, ex, t, f, fun v H1 d s1 B1 t1 l1 r1 p1 => ?_, e⟩
    dsimp only at p1
    split at p1
    · rename_i ds z e1
      obtain ⟨p2, ys, g1, g2, g3⟩ := t1.ownL e1
      rw [h1] at g1
      cases g1
      obtain ⟨k1, k2, k3, k4⟩ := p1
      have hlt : z.toNat < ds.length := by omega
      obtain ⟨w, w1, w2⟩ := repL_get g3 (List.getElem?_eq_getElem hlt)
      rw [rep_int r1]
      refine ⟨_, ys, z, z.toNat, w, rfl, rfl, g2, by omega, by omega, ?_, w1, ?_⟩
      · unfold seqIndex?
        rw [repL_len g3]
        have n1 : ¬ z < 0 := by omega
        simp only [n1, if_false]
        rw [if_pos (by simp only [Bool.and_eq_true, decide_eq_true_eq]; omega)]
      · exact rt w _ _ _ _ (t1.change (d' := .lst _) e1 h1 ⟨_, rfl, repL_era g3⟩) l1 w2 (k4 _ (List.getElem?_eq_getElem hlt))
    · exact p1.elim
  · exact f.elim
end
end DL


set_option Elab.async false
set_option linter.all false
set_option maxRecDepth 100000
set_option maxHeartbeats 4000000
namespace DL
open PySem L2 PyProof.Rows
variable [Tb]
/-! ### what a loop walks, by data -/
def IsIt (c : Ct) (J : It) (items : List D) (B : Hp) : Prop := ∃ (G : Hp → Prop) (Y : Nat → Hp → V → Hp → Prop), Walk J items.length G Y ∧ (∀ H B', Le B B' → Le B' H → G H) ∧
  ∀ i L H0 B0 σ s H B1 x H', At c L H0 B0 σ H s B1 → Le B B1 → i < items.length → Y i H x H' → ∃ d B2, items[i]? = some d ∧ Le B1 B2 ∧ Rep c B2 d x ∧ At c L H0 B0 σ H' s B2
def RetI (c : Ct) (L : List (Addr × HO)) (H0 B0 : Hp) (σ : L2.St) (B : Hp) (P : List D → DS → Prop) (R : It → Hp → Prop) : Prop := ∀ J items H' s' B', At c L H0 B0 σ H' s' B' → Le B B' → IsIt c J items B' → P items s' → R J H'
def LftI (X : Cx) (W : WX) (F : DFA) : TI := fun σ H R => ∃ q L H0 B0 s B P ex, At (cx X q) L H0 B0 σ H s B ∧ F s P ex ∧ RetI (cx X q) L H0 B0 σ B P R ∧ Exs (cx X q) L H0 B0 σ B ex W
structure DPI (X : Cx) (W : WX) (tg iter : Expr) (F : DFA) : Prop where pi : PI X tg iter (LftI X W F)
theorem pi_mono {X : Cx} {tg iter : Expr} {t t' : TI} (h : ∀ σ H Q, t' σ H Q → t σ H Q) (p : PI X tg iter t) : PI X tg iter t' := ⟨fun pins s σ H Q I q => p.run pins s σ H Q I (h σ H Q q)⟩
theorem isIt_list {c : Ct} {a : Addr} {xs : List V} {ds : List D} {B : Hp} (h : SqL c.K B a xs) (r : RepL c B ds xs) : IsIt c (Itl c.K a) ds B := by
  refine ⟨_, _, by rw [← repL_len r]; exact walk_list (xs := xs), fun H B' l1 l2 => (l1.trans l2).sqL h, fun i L H0 B0 σ s H B1 x H' t l hi y => ?_⟩
  obtain ⟨rfl, y⟩ := y
  obtain ⟨d, h1, h2⟩ := repL_gets r y
  exact ⟨d, B1, h1, Le.refl B1, h2.mono l, t⟩
theorem isIt_tup {c : Ct} {a : Addr} {xs : List V} {ds : List D} {B : Hp} (h : SqT c.K B a xs) (r : RepL c B ds xs) : IsIt c (Itt c.K a) ds B := by
  refine ⟨_, _, by rw [← repL_len r]; exact walk_tup (xs := xs), fun H B' l1 l2 => (l1.trans l2).sqT h, fun i L H0 B0 σ s H B1 x H' t l hi y => ?_⟩
  obtain ⟨rfl, y⟩ := y
  obtain ⟨d, h1, h2⟩ := repL_gets r y
  exact ⟨d, B1, h1, Le.refl B1, h2.mono l, t⟩
theorem repL_ints {c : Ct} {B : Hp} : ∀ ns : List Int, RepL c B (ns.map D.int) (ns.map V.int)
  | [] => repL_nil
  | n :: ns => repL_cons int_rep (repL_ints ns)
section
variable {X : Cx} {W : WX} {tg a b e : Expr} {es : List Expr} {Fa Fb : DF} {pos p : Pos}
def iSq (K : PySem.W.Frag) (tl : TE) : TI := fun σ H R => tl σ H fun x H1 => ∃ a, x = .ref a ∧ ((∃ xs, SqL K H1 a xs ∧ R (Itl K a) H1) ∨ ∃ xs, SqT K H1 a xs ∧ R (Itt K a) H1)
/-- any list or tuple -/
theorem pi_sq {l : Expr} {tl : TE} (hl : PE X l tl) : PI X tg l (iSq X.K tl) := by
  constructor
  intro pins s σ H R I h
  refine wpAny_mono (hl.run pins s σ H _ I h) (fun v s1 hv => ?_) (fun _ _ z => z)
  obtain ⟨x, H1, I1, r1, a, e, hh⟩ := hv
  subst e
  cases r1
  have nw : s1.heap.objs.size ≤ s1.heap.objs.size := Nat.le_refl _
  have fp : ∀ b ∈ [s1.heap.objs.size], FpOk X pins H1 b := fun b hb => by
    obtain rfl : b = s1.heap.objs.size := by simpa using hb
    exact I1.fpOk nw (I1.hok.fresh nw)
  rcases hh with ⟨xs, hq, q⟩ | ⟨xs, hq, q⟩
  · obtain ⟨its, rv, pl, hz⟩ := I1.list hq
    exact wpAny_pyIter_list pl.isList ⟨s1.heap.objs.size, [s1.heap.objs.size], _, _, H1, rfl, I1.kept (t' := s1.toks) fun b o e => Heap.get?_push_of_some _ e, turn_list a _, ⟨_, Heap.get?_push_size _ rfl, rfl, rfl⟩, fp, q⟩
  · obtain ⟨its, rv, pl, hz⟩ := I1.tuple hq
    exact wpAny_pyIter_tuple (show s1.heap.IsTuple a its.toArray from pl) ⟨s1.heap.objs.size, [s1.heap.objs.size], _, _, H1, rfl, I1.kept (t' := s1.toks) fun b o e => Heap.get?_push_of_some _ e, turn_tuple a _, ⟨_, Heap.get?_push_size _ rfl, rfl, rfl⟩, fp, q⟩
def itemsOf : D → Option (List D)
  | .tup ds => some ds
  | .lst ds => some ds
  | .scr ns => some (ns.map D.int)
  | _ => none
def iSeq (F : DF) : DFA := fun s P ex => F s (fun d s1 => ∃ ds, itemsOf d = some ds ∧ P ds s1) ex
theorem i_seq (h : DPE X W a Fa) : DPI X W tg a (iSeq Fa) := by
  refine ⟨pi_mono (fun σ H R ⟨q, L, H0, B0, s, B, P, ex, t, f, rt, e⟩ => ⟨q, L, H0, B0, s, B, _, ex, t, f, fun v H1 d s1 B1 t1 l1 r1 ⟨ds, h1, p1⟩ => ?_, e⟩) (pi_sq h.pe)⟩
  cases d with
  | tup es =>
    cases h1
    obtain ⟨a, xs, rfl, ha, hx⟩ := rep_tup r1
    exact ⟨a, rfl, .inr ⟨xs, t1.bs.leH.sqT ha, rt _ _ _ _ _ t1 l1 (isIt_tup ha hx) p1⟩⟩
  | lst es =>
    cases h1
    obtain ⟨a, xs, rfl, ha, hx⟩ := rep_lst r1
    exact ⟨a, rfl, .inl ⟨xs, SqL.of (t1.bs.leH _ _ ha), rt _ _ _ _ _ t1 l1 (isIt_list (SqL.of ha) hx) p1⟩⟩
  | scr ns =>
    cases h1
    unfold Rep at r1
    obtain ⟨a, rfl, h2⟩ := r1
    exact ⟨a, rfl, .inl ⟨_, t1.bs.leH.sqL h2, rt _ _ _ _ _ t1 l1 (isIt_list h2 (repL_ints ns)) p1⟩⟩
  | _ => cases h1
def rangeD (lo : Int) (n : Nat) : List D := (List.range n).map fun i => D.int (lo + (i : Nat))
theorem rangeD_len {lo : Int} {n : Nat} : (rangeD lo n).length = n := by unfold rangeD; rw [List.length_map, List.length_range]
theorem isIt_range {c : Ct} {lo : Int} {n : Nat} {B : Hp} : IsIt c (Itr lo n) (rangeD lo n) B := by
  refine ⟨_, _, by rw [rangeD_len]; exact walk_range, fun _ _ _ _ => trivial, fun i L H0 B0 σ s H B1 x H' t l hi y => ?_⟩
  obtain ⟨rfl, rfl⟩ := y
  rw [rangeD_len] at hi
  exact ⟨.int (lo + (i : Nat)), B1, by unfold rangeD; simp [hi], Le.refl B1, int_rep, t⟩
def iRng1D (F : DF) : DFA := fun s P ex => F s (fun d s1 => match d with
  | .int j => j < 4611686018427387904 ∧ -4611686018427387904 ≤ j ∧ P (rangeD 0 j.toNat) s1
  | _ => False) ex
theorem i_range1 (hm : X.mg "range" = none) (ha : DPE X W a Fa) (hg : Gl X "range" := by rfl) (hs : starEach [a] X.env = [(false, eval a X.env)] := by rfl) : DPI X W tg (.Call (.Name "range" p) [a] [] pos) (iRng1D Fa) := by
  refine ⟨pi_mono (fun σ H R ⟨q, L, H0, B0, s, B, P, ex, t, f, rt, e⟩ => ⟨q, L, H0, B0, s, B, _, ex, t, f, fun v H1 d s1 B1 t1 l1 r1 p1 => ?_, e⟩) (pi_range1 hg hm (pa_cons ha.pe pa_nil hs) hs)⟩
  dsimp only at p1
  split at p1
  · rw [rep_int r1]
    exact ⟨_, rfl, p1.2.1, p1.1, rt _ _ _ _ _ t1 l1 isIt_range p1.2.2⟩
  · exact p1.elim
def iRng2D (Fa Fb : DF) : DFA := fun s P ex => Fa s (fun d s1 => Fb s1 (fun d2 s2 => match d, d2 with
  | .int i, .int j => (i < 4611686018427387904 ∧ -4611686018427387904 ≤ i ∧ j < 4611686018427387904 ∧ -4611686018427387904 ≤ j) ∧ P (rangeD i (j - i).toNat) s2
  | _, _ => False) ex) ex
theorem i_range2 (hm : X.mg "range" = none) (ha : DPE X W a Fa) (hb : DPE X W b Fb) (hg : Gl X "range" := by rfl) (hs : starEach [a, b] X.env = [(false, eval a X.env), (false, eval b X.env)] := by rfl) (hs2 : starEach [b] X.env = [(false, eval b X.env)] := by rfl) :
    DPI X W tg (.Call (.Name "range" p) [a, b] [] pos) (iRng2D Fa Fb) := by
  refine ⟨pi_mono (fun σ H R ⟨q, L, H0, B0, s, B, P, ex, t, f, rt, e⟩ => ⟨q, L, H0, B0, s, B, _, ex, t, f, fun v H1 d s1 B1 t1 l1 r1 p1 => ⟨q, L, H0, B0, s1, B1, _, ex, t1, p1, fun v2 H2 d2 s2 B2 t2 l2 r2 p2 => ?_, e.le l1⟩, e⟩) (pi_range2 hg hm (pa_cons ha.pe (pa_cons hb.pe pa_nil (by rw [hs2]; rfl)) (by rw [hs, hs2])) hs hs2)⟩
  dsimp only at p2
  split at p2
  · obtain ⟨⟨h1, h2, h3, h4⟩, p2⟩ := p2
    rw [rep_int (r1.mono l2), rep_int r2]
    exact ⟨_, _, rfl, ⟨h2, h1, h4, h3⟩, rt _ _ _ _ _ t2 (l1.trans l2) isIt_range p2⟩
  · exact p2.elim
/-! ### for -/
def forD (T : DTg) (G : DG) : List D → DE → DS → Prop
  | [], E, s => E.nx s
  | d :: ds, E, s => T d s fun s1 => G { E with nx := forD T G ds E, ct := forD T G ds E, bk := E.nx } s1
def gFor (I : DFA) (T : DTg) (G : DG) : DG := fun E s => I s (fun ds s1 => forD T G ds E s1) E.ex
theorem drop_get {α : Type} {l : List α} {i : Nat} {x : α} (h : l[i]? = some x) : l.drop i = x :: l.drop (i + 1) := by
  obtain ⟨h1, h2⟩ := List.getElem?_eq_some_iff.mp h
  rw [List.drop_eq_getElem_cons h1, h2]
theorem g_for {vs : List Nat} {I : DFA} {T : DTg} {G : DG} {body : List Stmt} (hp : PassesOwn (model X.prog X.w) X.A X.env X.xe) (hc : X.calm = true) (hi : DPI X W tg a I) (ht : DPG X tg T vs) (hb : DPSs X W body G)
    (hs : ∀ x, foldedSetIterable a X.env x = pure x := by intro _; rfl) : DPS X W (.For tg a body [] pos) (gFor I T G) := by
  refine ⟨ps_mono (fun D σ H ⟨q, L, H0, B0, s, B, E, t, g, r⟩ => ⟨q, L, H0, B0, s, B, _, E.ex, t, g, fun J items H1 s1 B1 t1 l1 it pp => ?_, r.exs⟩) (ps_for hp hc hi.pi ht.pg hb.ps hs)⟩
  obtain ⟨Gi, Y, w, hG, hY⟩ := it
  refine for_it w (fun i σ H => ∃ s B, At (cx X q) L H0 B0 σ H s B ∧ Le B1 B ∧ forD T G (items.drop i) E s) ⟨s1, B1, t1, Le.refl B1, pp⟩ (fun i σ H _ ⟨s2, B2, t2, l2, _⟩ => hG H B2 l2 t2.bs.leH) (fun i x σ2 H2 H3 hi ⟨s2, B2, t2, l2, f2⟩ y => ?_) (fun σ H ⟨s2, B2, t2, l2, f2⟩ => ?_)
  · obtain ⟨d, B3, h1, l3, r3, t3⟩ := hY i L H0 B0 σ2 s2 H2 B2 x H3 t2 l2 hi y
    rw [drop_get h1] at f2
    refine ⟨q, L, H0, B0, s2, B3, d, _, t3, r3, f2, fun σ' s' t' _ g' => ?_⟩
    exact ⟨q, L, H0, B0, s', B3, _, t', g', ⟨fun σ4 H4 s4 B4 t4 l4 n4 => ⟨s4, B4, t4, (l2.trans l3).trans l4, n4⟩, fun σ4 H4 s4 B4 t4 l4 n4 => r.nx _ _ _ _ t4 (((l1.trans l2).trans l3).trans l4) n4, fun σ4 H4 s4 B4 t4 l4 n4 => ⟨s4, B4, t4, (l2.trans l3).trans l4, n4⟩,
      fun σ v H s B d t k => r.rt σ v H s B d t (((l1.trans l2).trans l3).trans k), fun σ p o H s B d t k => r.ro σ p o H s B d t (((l1.trans l2).trans l3).trans k), fun σ n fs s H B cls dd t k => r.ex σ n fs s H B cls dd t (((l1.trans l2).trans l3).trans k)⟩⟩
  · rw [List.drop_length] at f2
    exact r.nx _ _ _ _ t2 (l1.trans l2) f2
/-! ### while -/
def whileD (F : DFT) (G : DG) : Nat → DE → DS → Prop
  | 0, _, _ => False
  | n + 1, E, s => F s (fun k s1 => if k = true then G { E with nx := whileD F G n E, ct := whileD F G n E, bk := E.nx } s1 else E.nx s1) E.ex
def gWhile (F : DFT) (G : DG) : DG := fun E s => ∃ n, whileD F G n E s
theorem g_while {c : Expr} {F : DFT} {G : DG} {body : List Stmt} (hp : PassesOwn (model X.prog X.w) X.A X.env X.xe) (hc : DPT X W c F) (hb : DPSs X W body G) : DPS X W (.While c body [] pos) (gWhile F G) := by
  refine ⟨ps_mono (fun D σ H ⟨q, L, H0, B0, s, B, E, t, ⟨n, g⟩, r⟩ => ?_) (ps_while hp hc.pt hb.ps)⟩
  refine ⟨fun m σ H => ∃ s B', At (cx X q) L H0 B0 σ H s B' ∧ Le B B' ∧ whileD F G m E s, ⟨n, s, B, t, Le.refl B, g⟩, fun m σ H ⟨s1, B1, t1, l1, g1⟩ => ?_⟩
  cases m with
  | zero => exact g1.elim
  | succ m =>
    refine ⟨q, L, H0, B0, s1, B1, _, E.ex, t1, g1, fun k H2 s2 B2 t2 l2 p2 => ?_, r.exs.le l1⟩
    cases k with
    | true =>
      refine iteT ⟨fun σ H => ∃ s B', At (cx X q) L H0 B0 σ H s B' ∧ Le B B' ∧ whileD F G m E s, fun σ' H' z => ⟨m, Nat.lt_succ_self m, z⟩, q, L, H0, B0, s2, B2, _, t2, p2, ?_⟩
      have l := l1.trans l2
      exact ⟨fun σ4 H4 s4 B4 t4 l4 n4 => ⟨s4, B4, t4, l.trans l4, n4⟩, fun σ4 H4 s4 B4 t4 l4 n4 => r.nx _ _ _ _ t4 (l.trans l4) n4, fun σ4 H4 s4 B4 t4 l4 n4 => ⟨s4, B4, t4, l.trans l4, n4⟩,
        fun σ v H s B d t k => r.rt σ v H s B d t (l.trans k), fun σ p o H s B d t k => r.ro σ p o H s B d t (l.trans k), fun σ n fs s H B cls dd t k => r.ex σ n fs s H B cls dd t (l.trans k)⟩
    | false => exact iteF (r.nx _ _ _ _ t2 (l1.trans l2) p2)
end
end DL


set_option Elab.async false
set_option linter.all false
set_option maxRecDepth 100000
set_option maxHeartbeats 4000000
namespace DL
open PySem L2
variable [Tb]
/-! ### list comprehensions -/
def wipeD : List (Option Sl) → List Nat → List (Option Sl)
  | l, [] => l
  | l, v :: vs => (wipeD l vs).set v none
def DS.wipe (s : DS) (vs : List Nat) : DS := ⟨wipeD s.sl vs, s.T⟩
theorem wipeD_len : ∀ (vs : List Nat) (l : List (Option Sl)), (wipeD l vs).length = l.length
  | [], _ => rfl
  | v :: vs, l => by
    show ((wipeD l vs).set v none).length = l.length
    rw [List.length_set, wipeD_len vs l]
theorem wipeD_get : ∀ {vs : List Nat} {l : List (Option Sl)} {j : Nat} {x : Sl}, (wipeD l vs)[j]? = some (some x) → j ∉ vs ∧ l[j]? = some (some x)
  | [], _, _, _, h => ⟨by simp, h⟩
  | v :: vs, l, j, x, h => by
    have h' : ((wipeD l vs).set v none)[j]? = some (some x) := h
    rcases get_set h' with ⟨rfl, q⟩ | ⟨n, q⟩
    · cases q
    · obtain ⟨h1, h2⟩ := wipeD_get q
      exact ⟨fun m => (List.mem_cons.mp m).elim (fun z => n z.symm) h1, h2⟩
section
variable {c : Ct} {L : List (Addr × HO)} {H0 B0 H B : Hp} {σ τ : L2.St} {s : DS}
/-- slots vs forgotten; the slots may stand elsewhere in what is forgotten -/
theorem At.wiped (t : At c L H0 B0 σ H s B) {vs : List Nat} (hl : σ.length = τ.length) (h : ∀ j, j ∉ vs → τ[j]? = σ[j]?) : At c L H0 B0 τ H (s.wipe vs) B := by
  refine ⟨t.bs, by show (wipeD s.sl vs).length ≤ _; rw [wipeD_len, ← hl]; exact t.len, fun i d e => ?_, fun i d e => ?_, fun i j d f p e1 e2 e3 e4 => ?_, fun x hx => ?_⟩
  · obtain ⟨m, e⟩ := wipeD_get e
    obtain ⟨v, h1, h2⟩ := t.fz i d e
    exact ⟨v, (h i m).trans h1, h2⟩
  · obtain ⟨m, e⟩ := wipeD_get e
    obtain ⟨p, o, h1, h2⟩ := t.ow i d e
    exact ⟨p, o, (h i m).trans h1, h2⟩
  · obtain ⟨m1, e1⟩ := wipeD_get e1
    obtain ⟨m2, e2⟩ := wipeD_get e2
    rw [h i m1] at e3
    rw [h j m2] at e4
    exact t.inj i j d f p e1 e2 e3 e4
  · obtain ⟨h1, h2, h3, h4, h5⟩ := t.hold x hx
    refine ⟨h1, h2, h3, h4, fun i d e z => ?_⟩
    obtain ⟨m, e⟩ := wipeD_get e
    rw [h i m] at z
    exact h5 i d e z
theorem At.wipe (t : At c L H0 B0 σ H s B) (vs : List Nat) : At c L H0 B0 (L2.wipe σ vs) H (s.wipe vs) B := t.wiped (wipe_len vs σ).symm fun j m => by rw [wipe_get, if_neg m]
theorem At.unwipe {vs : List Nat} (t : At c L H0 B0 (L2.wipe σ vs) H s B) : At c L H0 B0 σ H (s.wipe vs) B := t.wiped (wipe_len vs σ) fun j m => by rw [wipe_get, if_neg m]
theorem At.holdSet {p : Addr} {o o' : HO} (t : At c ((p, o) :: L) H0 B0 σ H s B) (nc : ∀ q, o ≠ LamX.CodeO p q) (nt : ∀ ps, o' ≠ .tbl ps) (nL : ∀ x ∈ L, x.1 ≠ p) (nt2 : ∀ xs, o' ≠ .tup xs := by intro _ z; cases z) : At c ((p, o') :: L) H0 B0 σ (upd H p o') s B := by
  obtain ⟨h1, h2, t2⟩ := t.let nc nL
  have t3 := t2.holdNew h1 nt nt2
  rw [show upd (Hp.less H p) p o' = upd H p o' from by rw [h2, upd_upd, ← h2]] at t3
  exact t3
end
/-- one turn after another: acc is made so far -/
def lcD (vs : List Nat) (T : DTg) (Ft : DFT) (Fe : DF) : List D → List D → DS → (List D → DS → Prop) → Prop
  | [], acc, s, P => P acc (s.wipe vs)
  | d :: ds, acc, s, P => T d s fun s1 => Ft s1 (fun k s2 => if k = true then Fe s2 (fun y s3 => acc.length < 100000 ∧ lcD vs T Ft Fe ds (acc ++ [y]) (s3.wipe vs) P) (fun _ _ _ => False) else lcD vs T Ft Fe ds acc (s2.wipe vs) P) (fun _ _ _ => False)
def dLc (vs : List Nat) (I : DFA) (T : DTg) (Ft : DFT) (Fe : DF) : DF := fun s P ex => I s (fun ds s1 => lcD vs T Ft Fe ds [] (s1.wipe vs) fun ys s2 => P (.lst ys) s2) ex
abbrev W0 : WX := fun _ _ _ _ => False
structure DPTs (X : Cx) (ifs : List Expr) (F : DFT) : Prop where pts : PTs X ifs (LftT X W0 F)
def tAll : DFT := fun s P _ => P true s
theorem ts_nil {X : Cx} : DPTs X [] tAll := ⟨⟨fun pins s σ H Q I ⟨q, L, H0, B0, s1, B, P, ex, t, f, rt, e⟩ => pts_nil.run pins s σ H Q I (rt true H s1 B t (Le.refl B) f)⟩⟩
theorem ts_one {X : Cx} {e : Expr} {F : DFT} (h : DPT X W0 e F) : DPTs X [e] F := ⟨pts_one h.pt⟩
section
variable {X : Cx} {W : WX} {elt tg iter : Expr} {ifs : List Expr} {scope : Scope} {own : List (Str × Nat)} {pos spos py : Pos} {I : DFA} {T : DTg} {Ft : DFT} {Fe : DF}
theorem lft_lc {vs : List Nat} : ∀ σ H Q, LftO X W (dLc vs I T Ft Fe) σ H Q → tLc (LftI X W I) (LftG X T vs) (LftT X W0 Ft) (LftE X W0 Fe) vs σ H Q := by
  rintro σ H Q ⟨q, L, H0, B0, s, B, P, ex, t, f, rt, e⟩
  refine ⟨q, L, H0, B0, s, B, _, ex, t, f, fun J items H1 s1 B1 t1 l1 it pp => ?_, e⟩
  intro D hD
  obtain ⟨Gi, Y, w, hG, hY⟩ := it
  have nL : ∀ x ∈ L, x.1 ≠ D := fun x hx z => by
    obtain ⟨h1, _⟩ := t1.hold x hx
    rw [z, hD] at h1
    cases h1
  refine lc_it w (fun i H => ∃ s B acc ds, At (cx X q) ((D, .lst acc) :: L) H0 B0 (L2.wipe σ vs) H s B ∧ Le B1 B ∧ RepL (cx X q) B ds acc ∧ lcD vs T Ft Fe (items.drop i) ds s fun ys s2 => P (.lst ys) s2)
    ⟨s1.wipe vs, B1, [], [], (t1.wipe vs).holdNew hD (fun _ z => by cases z), Le.refl B1, repL_nil, pp⟩ (fun i H _ ⟨s2, B2, acc, ds, t2, l2, _⟩ => hG H B2 l2 t2.bs.leH) (fun i x H2 H3 hi ⟨s2, B2, acc, ds, t2, l2, ra, f2⟩ y => ?_) (fun H ⟨s2, B2, acc, ds, t2, l2, ra, f2⟩ => ?_)
  · obtain ⟨d, B3, h1, l3, r3, t3⟩ := hY i _ H0 B0 _ s2 H2 B2 x H3 t2 l2 hi y
    rw [drop_get h1] at f2
    refine ⟨q, _, H0, B0, s2, B3, d, _, t3, r3, f2, fun σ4 s4 t4 w4 f4 => ⟨w4.trans wipe_wipe, q, _, H0, B0, s4, B3, _, _, t4, f4, fun k H5 s5 B5 t5 l5 f5 => ?_, fun _ _ _ _ _ _ _ _ _ _ z => z.elim⟩⟩
    have we : L2.wipe σ4 vs = L2.wipe σ vs := w4.trans wipe_wipe
    cases k with
    | false =>
      refine iteF ⟨s5.wipe vs, B5, acc, ds, ?_, (l2.trans l3).trans l5, ra.mono (l3.trans l5), f5⟩
      rw [← we]
      exact t5.wipe vs
    | true =>
      refine iteT ⟨q, _, H0, B0, s5, B5, _, _, t5, f5, fun v H6 y s6 B6 t6 l6 r6 ⟨hz, f6⟩ => ?_, fun _ _ _ _ _ _ _ _ _ _ z => z.elim⟩
      obtain ⟨g1, _⟩ := t6.hold (D, .lst acc) List.mem_cons_self
      have ra6 := ra.mono ((l3.trans l5).trans l6)
      refine ⟨acc, g1, by rw [repL_len ra6]; exact szl hz, s6.wipe vs, B6, acc ++ [v], ds ++ [y], ?_, ((l2.trans l3).trans l5).trans l6, repL_app (repL_cons r6 repL_nil) ra6, f6⟩
      rw [← we]
      exact (t6.holdSet (fun q z => by unfold LamX.CodeO at z; cases z) (fun _ z => by cases z) nL).wipe vs
  · rw [List.drop_length] at f2
    obtain ⟨h1, h2, t3⟩ := t2.let (fun q z => by unfold LamX.CodeO at z; cases z) nL
    rw [h2]
    exact rt D (.lst acc) _ (.lst ds) (s2.wipe vs) B2 t3.unwipe (l1.trans l2) h1 ⟨acc, rfl, ra⟩ f2
theorem d_lc {vs : List Nat} (hc : X.calm = true) (hN : X.N.Nodup) (hi : DPI X W tg iter I) (ok : BlkOk X.N X.env.scope scope own)
    (hg : ∀ (s : Shared) (H : Hp) (C : Addr) (cl : List (Str × Addr)) (fp : List Addr), DPG (X.blk s H scope (compEnvC scope cl C X.env) fp) tg T vs)
    (ht : ∀ (s : Shared) (H : Hp) (C : Addr) (cl : List (Str × Addr)) (fp : List Addr), DPTs (X.blk s H scope (compEnvC scope cl C X.env) fp) ifs Ft)
    (he : ∀ (s : Shared) (H : Hp) (C : Addr) (cl : List (Str × Addr)) (fp : List Addr), DPE (X.blk s H scope (compEnvC scope cl C X.env) fp) W0 elt Fe) (hs : ∀ x, foldedSetIterable iter X.env x = pure x := by intro _; rfl) (hvs : own.map (·.2) = vs := by rfl) :
    DPO X W (.ListComp elt [⟨tg, iter, ifs, 0⟩] scope pos) (dLc vs I T Ft Fe) := by
  subst hvs
  exact ⟨pe_mono lft_lc (pe_lc hc hN hi.pi ok (fun s H C cl fp => (hg s H C cl fp).pg) (fun s H C cl fp => (ht s H C cl fp).pts) (fun s H C cl fp => (he s H C cl fp).pe) hs)⟩
/-- x = [..] -/
theorem g_setLc {vs : List Nat} {i : Nat} {y : Str} (hc : X.calm = true) (hN : X.N.Nodup) (hi : DPI X W tg iter I) (ok : BlkOk X.N X.env.scope scope own)
    (hg : ∀ (s : Shared) (H : Hp) (C : Addr) (cl : List (Str × Addr)) (fp : List Addr), DPG (X.blk s H scope (compEnvC scope cl C X.env) fp) tg T vs)
    (ht : ∀ (s : Shared) (H : Hp) (C : Addr) (cl : List (Str × Addr)) (fp : List Addr), DPTs (X.blk s H scope (compEnvC scope cl C X.env) fp) ifs Ft)
    (he : ∀ (s : Shared) (H : Hp) (C : Addr) (cl : List (Str × Addr)) (fp : List Addr), DPE (X.blk s H scope (compEnvC scope cl C X.env) fp) W0 elt Fe)
    (hsw : swapsWith (.ListComp elt [⟨tg, iter, ifs, 0⟩] scope pos) (some (.Name y py)) spos.line X.env = pure true) (hy : X.N[i]? = some y := by rfl) (hyl : X.env.scope.names.lookup y = some .local := by rfl) (hs : ∀ x, foldedSetIterable iter X.env x = pure x := by intro _; rfl) (hvs : own.map (·.2) = vs := by rfl) :
    DPS X W (.Assign [.Name y py] (.ListComp elt [⟨tg, iter, ifs, 0⟩] scope pos) spos) (gSetO i (dLc vs I T Ft Fe)) := by
  subst hvs
  exact ⟨ps_mono (fun D σ H ⟨q, L, H0, B0, s, B, E, t, g, r⟩ => lft_lc (W := W) σ H _ ⟨q, L, H0, B0, s, B, _, E.ex, t, g, fun pp o H1 d s1 B1 t1 l1 hp ro p1 => r.nx _ _ _ _ (t1.setOw hp ro) l1 p1, r.exs⟩)
    (ps_setLc hc hN hy hyl hsw hi.pi ok (fun s H C cl fp => (hg s H C cl fp).pg) (fun s H C cl fp => (ht s H C cl fp).pts) (fun s H C cl fp => (he s H C cl fp).pe) hs)⟩
end
/-! ### a def keeps its promise -/
section
variable {P : Program} {w : World} {K : PySem.W.Frag} {mg : Str → Option Value} {base : Heap}
def startD (n : Nat) (ds : List D) (T : Nat) : DS := ⟨(ds.map fun d => some (Sl.fz d)) ++ List.replicate (n - ds.length) none, T⟩
theorem start_at {c : Ct} {H B : Hp} {T : Nat} {N : List Str} {vs : List V} {ds : List D} (b : Bs c H B H B T) (r : RepL c B ds vs) : At c [] H B (L2.start N vs) H (startD N.length ds T) B := by
  have hl := repL_len r
  have get : ∀ i x, (startD N.length ds T).sl[i]? = some (some x) → ∃ (d : D) (v : V), x = Sl.fz d ∧ (L2.start N vs)[i]? = some (some v) ∧ Rep c B d v := fun i x h => by
    unfold startD at h
    dsimp only at h
    by_cases hi : i < ds.length
    · rw [List.getElem?_append_left (by simpa using hi), List.getElem?_map, List.getElem?_eq_getElem hi] at h
      cases h
      obtain ⟨v, h1, h2⟩ := repL_get r (List.getElem?_eq_getElem hi)
      refine ⟨_, v, rfl, ?_, h2⟩
      unfold L2.start
      rw [List.getElem?_append_left (by simp only [List.length_map]; omega), List.getElem?_map, h1]
      rfl
    · rw [List.getElem?_append_right (by simpa using hi), List.getElem?_replicate] at h
      split at h
      · cases h
      · cases h
  refine ⟨b, ?_, fun i d h => ?_, fun i d h => ?_, fun i j d e p h => ?_, fun x hx => absurd hx (by simp)⟩
  · unfold startD L2.start
    simp only [List.length_append, List.length_map, List.length_replicate]
    omega
  · obtain ⟨d', v, e, h1, h2⟩ := get i _ h
    cases e
    exact ⟨v, h1, h2⟩
  · obtain ⟨d', v, e, _⟩ := get i _ h
    cases e
  · obtain ⟨d', v, e, _⟩ := get i _ h
    cases e
/-- what is wanted behind a body -/
def endsOf (post : Sl → Nat → Prop) (ex : Str → List (Str × D) → Nat → Prop) : DE := { nx := fun s => post (.fz .non) s.T, rt := post, ex := fun n fs s => ex n fs s.T }
theorem fn_ok {x qual : Str} {st : Stmt} {f : Addr} {fd : FuncData} {N ps : List Str} {k : Nat} {S : PF} {G : DG} (F : Fun K x qual st f fd) (Sc : FnScope N ps (defScope st))
    (hbody : ∀ (cdv : Value) (A : Around) (outer : List Env) (s : Shared) (H : Hp) (E : XK), Room k (A.deeper (PyProof.Rows.envOfC qual (defScope st) s.heap.objs.size f cdv)) → DPSs (cxOf CX0 P w K mg base N qual (defScope st) f cdv A outer s H E).nox W0 (defBody st) G)
    (hG : ∀ ds T post ex, ds.length = ps.length → S ds T post ex → G (endsOf post (fun _ _ _ => False)) (startD N.length ds T)) : FnOk P w K mg base CX0 (k + 1) f fd ps (spD K mg ps.length S) := by
  refine F.ok Sc (fun vs H Q E h => ?_) (fun cdv A outer s H vs Q E hr h => ⟨_, (hbody cdv A outer s H E hr).ps, ?_⟩)
  · obtain ⟨q, B, ds, T, post, ex, h1, _⟩ := h
    exact h1
  · obtain ⟨q, B, ds, T, post, ex, h1, b, r, hS, c1, c2, c3⟩ := h
    refine ⟨q, [], H, B, _, B, _, start_at b r, hG ds T post ex (by rw [← repL_len r, h1]) hS, ⟨fun σ H s B t l n => c1 _ _ _ _ _ t.bs non_rep n, fun _ _ _ _ _ _ z => z.elim, fun _ _ _ _ _ _ z => z.elim, fun σ v H s B d t l r n => c1 _ _ _ _ _ t.bs r n, fun σ p o H s B d t l hp ro n => c2 _ _ _ _ _ _ t.bs hp ro n, fun _ _ _ _ _ _ _ _ _ _ _ z => z.elim⟩⟩
end
end DL


set_option Elab.async false
set_option linter.all false
set_option maxRecDepth 100000
set_option maxHeartbeats 4000000
theorem L2.Room.units65 {k : Nat} {A : PySem.Around} (r : L2.Room k A) : A.units + 65 < PySem.cLine := by have := r.un; omega
namespace DL
open PySem L2
variable [Tb]
section
variable {X : Cx} {W : WX} {a b e : Expr} {es : List Expr} {Fa Fb Fc : DF} {G G1 G2 : DG} {pos p : Pos}
theorem d_gint {x : Str} {i : Int} (h : ∃ t, X.mg x = some (.int i t)) (hg : Gl X x := by rfl) (hd : (x == ("__debug__" : Str)) = false := by decide) : DPE X W (.Name x pos) (dC (.int i)) := by
  obtain ⟨t, h⟩ := h
  exact d_glob (v := .int i) (fun _ _ => int_rep) hg h ⟨t, rfl⟩ hd
/-- len(x), x what slot i owns -/
def dLenV (i : Nat) : DF := fun s P _ => match s.sl[i]? with
  | some (some (.ow (.lst ds))) => P (.int ds.length) s
  | some (some (.fz (.lst ds))) => P (.int ds.length) s
  | some (some (.fz (.tup ds))) => P (.int ds.length) s
  | _ => False
theorem d_lenV (i : Nat) {x : Str} (hm : X.mg "len" = none) (hg : Gl X "len" := by rfl) (hN : X.N[i]? = some x := by rfl) (hv : Vis X.env.scope x := by first | exact Or.inl rfl | exact Or.inr (Or.inl rfl) | exact Or.inr (Or.inr rfl))
    (hse : starEach [.Name x p] X.env = (false, eval (.Name x p) X.env) :: starEach [] X.env := by rfl) (hpl : (backTo pos (starEach [] X.env)).any (·.1) = false := by rfl) (hd : (x == ("__debug__" : Str)) = false := by decide)
    (hcd : (x == ("__classdict__" : Str)) = false := by decide) {p2 : Pos} : DPE X W (.Call (.Name "len" p2) [.Name x p] [] pos) (dLenV i) := by
  refine ⟨pe_mono (fun σ H Q ⟨q, L, H0, B0, s, B, P, ex, t, f, rt, e⟩ => ?_) (pe_callB call_len_seq hg hm PySem.boot_len (pa_cons (pe_var hN hv hd hcd) pa_nil hse) (by decide) (by decide) hse hpl)⟩
  unfold dLenV at f
  split at f
  · rename_i ds e1
    obtain ⟨pp, xs, h1, h2, h3⟩ := t.ownL e1
    refine ⟨_, h1, pp, xs, rfl, .inl (SqL.of h2), ?_⟩
    rw [repL_len h3]
    exact rt _ _ _ _ _ t (Le.refl B) int_rep f
  · rename_i ds e1
    obtain ⟨v, h1, h2⟩ := t.fz i _ e1
    obtain ⟨a, xs, rfl, ha, hx⟩ := rep_lst h2
    refine ⟨_, h1, a, xs, rfl, .inl (SqL.of (t.bs.leH _ _ ha)), ?_⟩
    rw [repL_len hx]
    exact rt _ _ _ _ _ t (Le.refl B) int_rep f
  · rename_i ds e1
    obtain ⟨v, h1, h2⟩ := t.fz i _ e1
    obtain ⟨a, xs, rfl, ha, hx⟩ := rep_tup h2
    refine ⟨_, h1, a, xs, rfl, .inr (t.bs.leH.sqT ha), ?_⟩
    rw [repL_len hx]
    exact rt _ _ _ _ _ t (Le.refl B) int_rep f
  · exact f.elim
/-- x == [], x != [], x what slot i owns -/
def dEmptyT (i : Nat) (neg : Bool) : DFT := fun s P _ => match s.sl[i]? with
  | some (some (.ow (.lst ds))) => okD (.lst ds) = true ∧ P (if neg then !ds.isEmpty else ds.isEmpty) s
  | _ => False
theorem own_dp {c : Ct} {L : List (Addr × HO)} {H0 B0 H B : Hp} {σ : L2.St} {s : DS} (t : At c L H0 B0 σ H s B) {i : Nat} {ds : List D} (h : s.sl[i]? = some (some (.ow (.lst ds)))) (ok : okD (.lst ds) = true) :
    ∃ p, σ[i]? = some (some (V.ref p)) ∧ Dp c.K H (.ref p) (.list (pyL ds)) ∧ SeqAt.shaped (.list (pyL ds)) = true := by
  obtain ⟨f1, g1⟩ := Bool.and_eq_true_iff.mp ok
  obtain ⟨pp, xs, h1, h2, h3⟩ := t.ownL h
  have e2 : py (.lst ds) = .list (pyL ds) := by unfold py; rfl
  rw [e2] at g1
  unfold flatD at f1
  exact ⟨pp, h1, .lst (SqL.of h2) (repL_dp f1 (h3.mono t.bs.leH)), g1⟩
theorem nil_dp {K : PySem.W.Frag} {H : Hp} {p : Addr} (h : H p = some (.lst [])) : Dp K H (.ref p) (.list []) := .lst (SqL.of h) .nil
theorem eqv_nil (ds : List D) : PyData.eqv (.list (pyL ds)) (.list []) = ds.isEmpty := by
  cases ds with
  | nil => rfl
  | cons d ds => unfold pyL; rfl
theorem Dp.more {K : PySem.W.Frag} {H : Hp} {p : Addr} {o : HO} {ds : List PyData} {v : V} (hp : H p = none) (h : Dp K H v (.list ds)) (hs : DpAll K H [] [] → True) : True := trivial
theorem d_emptyNe (i : Nat) {x : Str} {p1 : Pos} (hu : X.A.units + 64 < cLine) (hN : X.N[i]? = some x := by rfl) (hv : Vis X.env.scope x := by first | exact Or.inl rfl | exact Or.inr (Or.inl rfl) | exact Or.inr (Or.inr rfl)) (hm : behindInMarks .NotEq (.List [] p1) = false := by rfl)
    (hd : (x == ("__debug__" : Str)) = false := by decide) (hcd : (x == ("__classdict__" : Str)) = false := by decide) : DPT X W (.Compare (.Name x p) [.NotEq] [.List [] p1] pos) (dEmptyT i true) := by
  refine ⟨pt_mono (fun σ H Q ⟨q, L, H0, B0, s, B, P, ex, t, f, rt, e⟩ => ?_) (pt_cmpR (op_neD hu) (pe_var hN hv hd hcd) (pe_lst pa_nil) hm)⟩
  unfold dEmptyT at f
  split at f
  · rename_i ds e1
    obtain ⟨ok, f⟩ := f
    obtain ⟨pp, h1, _⟩ := own_dp t e1 ok
    refine ⟨_, h1, by show 0 ≤ sizeLine; decide, fun p2 hp => ?_⟩
    have t2 := t.alloc (o := .lst []) hp (fun _ z => by cases z)
    obtain ⟨pp', h1', h2, h3⟩ := own_dp t2 e1 ok
    rw [h1] at h1'
    cases h1'
    refine ⟨_, _, h2, nil_dp upd_same, h3, by decide +kernel, _, rfl, ?_⟩
    rw [eqv_nil]
    exact rt _ _ _ _ t2 (Le.upd (t.bs.nB hp)) f
  · exact f.elim
/-- x = [..], x frozen -/
theorem g_setLcF {vs : List Nat} {elt tg iter : Expr} {ifs : List Expr} {scope : Scope} {own : List (Str × Nat)} {spos py : Pos} {I : DFA} {T : DTg} {Ft : DFT} {Fe : DF} {i : Nat} {y : Str} (hc : X.calm = true) (hN : X.N.Nodup) (hi : DPI X W tg iter I) (ok : BlkOk X.N X.env.scope scope own)
    (hg : ∀ (s : Shared) (H : Hp) (C : Addr) (cl : List (Str × Addr)) (fp : List Addr), DPG (X.blk s H scope (compEnvC scope cl C X.env) fp) tg T vs)
    (ht : ∀ (s : Shared) (H : Hp) (C : Addr) (cl : List (Str × Addr)) (fp : List Addr), DPTs (X.blk s H scope (compEnvC scope cl C X.env) fp) ifs Ft)
    (he : ∀ (s : Shared) (H : Hp) (C : Addr) (cl : List (Str × Addr)) (fp : List Addr), DPE (X.blk s H scope (compEnvC scope cl C X.env) fp) W0 elt Fe)
    (hsw : swapsWith (.ListComp elt [⟨tg, iter, ifs, 0⟩] scope pos) (some (.Name y py)) spos.line X.env = pure true) (hy : X.N[i]? = some y := by rfl) (hyl : X.env.scope.names.lookup y = some .local := by rfl) (hs : ∀ x, foldedSetIterable iter X.env x = pure x := by intro _; rfl) (hvs : own.map (·.2) = vs := by rfl) :
    DPS X W (.Assign [.Name y py] (.ListComp elt [⟨tg, iter, ifs, 0⟩] scope pos) spos) (gSet i (dLc vs I T Ft Fe)) := by
  subst hvs
  exact ⟨ps_mono (fun D σ H ⟨q, L, H0, B0, s, B, E, t, g, r⟩ => lft_lc (W := W) σ H _ ⟨q, L, H0, B0, s, B, _, E.ex, t, g, fun pp o H1 d s1 B1 t1 l1 hp ro p1 =>
    r.nx _ _ _ _ ((t1.alloc hp ro.ntb).setFz ((ro.mono (Le.upd (t1.bs.nB hp))).rep upd_same)) (l1.trans (Le.upd (t1.bs.nB hp))) p1, r.exs⟩)
    (ps_setLc hc hN hy hyl hsw hi.pi ok (fun s H C cl fp => (hg s H C cl fp).pg) (fun s H C cl fp => (ht s H C cl fp).pts) (fun s H C cl fp => (he s H C cl fp).pe) hs)⟩
/-! ### two names at once, one or both of them own what they get -/
theorem At.held {c : Ct} {L : List (Addr × HO)} {H0 B0 H B : Hp} {σ : L2.St} {s : DS} {p : Addr} {o : HO} (t : At c ((p, o) :: L) H0 B0 σ H s B) : H p = some o := (t.hold _ List.mem_cons_self).1
section
variable {x y : Str} {px py pt : Pos} {kt k2 : Nat} {pt2 : Pos} {i j : Nat}
def gParOO (i j : Nat) (Fa Fb : DF) : DG := fun E s => Fa s (fun d s1 => Fb s1 (fun d2 s2 => E.nx ((s2.put i (.ow d)).put j (.ow d2))) (fun _ _ _ => False)) (fun _ _ _ => False)
def gParOF (i j : Nat) (Fa Fb : DF) : DG := fun E s => Fa s (fun d s1 => Fb s1 (fun d2 s2 => E.nx ((s2.put i (.ow d)).put j (.fz d2))) (fun _ _ _ => False)) (fun _ _ _ => False)
theorem noE {c : Ct} {L : List (Addr × HO)} {H0 B0 B : Hp} {σ : L2.St} {W : WX} : Exs c L H0 B0 σ B (fun _ _ _ => False) W := fun _ _ _ _ _ _ _ _ _ _ z => z.elim
theorem At.useHeld {c : Ct} {L : List (Addr × HO)} {H0 B0 H B : Hp} {σ : L2.St} {s : DS} {p : Addr} {o : HO} {d : D} (t : At c ((p, o) :: L) H0 B0 σ H s B) (ro : RepO c B d o) (nL : ∀ x ∈ L, x.1 ≠ p) (i : Nat) : At c L H0 B0 (σ.set i (some (.ref p))) H (s.put i (.ow d)) B := by
  obtain ⟨h1, h2, t2⟩ := t.let (fun q => ro.nco p q) nL
  have t3 := t2.setOw (i := i) h1 ro
  rw [← h2] at t3
  exact t3
theorem nL_of {c : Ct} {L : List (Addr × HO)} {H0 B0 H B : Hp} {σ : L2.St} {s : DS} (t : At c L H0 B0 σ H s B) {p : Addr} (hp : H p = none) : ∀ x ∈ L, x.1 ≠ p := fun x hx z => by
  obtain ⟨h1, _⟩ := t.hold x hx
  rw [z, hp] at h1
  cases h1
theorem g_parOO (hc : X.calm = true) (hN : X.N.Nodup) (ha : DPO X W a Fa) (hb : DPO X W b Fb) (hij : i ≠ j := by decide) (hi : X.N[i]? = some x := by rfl) (hj : X.N[j]? = some y := by rfl)
    (hx : X.env.scope.names.lookup x = some .local := by rfl) (hy : X.env.scope.names.lookup y = some .local := by rfl)
    (hw : swappedStores [.Tuple [.Name x px, .Name y py] kt pt] (.Tuple [a, b] k2 pt2) X.env = pure (some [x, y]) := by rfl)
    (hs : swapsWithSole [.Tuple [.Name x px, .Name y py] kt pt] (.Tuple [a, b] k2 pt2) pos.line X.env = pure false := by rfl) (hs1 : starEach [a, b] X.env = (false, eval a X.env) :: starEach [b] X.env := by rfl) (hs2 : starEach [b] X.env = (false, eval b X.env) :: starEach [] X.env := by rfl) :
    DPS X W (.Assign [.Tuple [.Name x px, .Name y py] kt pt] (.Tuple [a, b] k2 pt2) pos) (gParOO i j Fa Fb) := by
  refine ⟨ps_mono (fun D σ H ⟨q, L, H0, B0, s, B, E, t, g, r⟩ => ⟨q, L, H0, B0, s, B, _, _, t, g, fun p1 o1 H1 d s1 B1 t1 l1 hp1 ro1 f1 => ?_, noE⟩) (ps_par hc hN hi hj hij hx hy (pa_cons ha.pe (pa_cons hb.pe pa_nil hs2) hs1) hw hs)⟩
  refine ⟨q, (p1, o1) :: L, H0, B0, s1, B1, _, _, t1.holdNew hp1 ro1.ntb ro1.ntup, f1, fun p2 o2 H2 d2 s2 B2 t2 l2 hp2 ro2 f2 => ?_, noE⟩
  exact ⟨_, _, rfl, r.nx _ _ _ _ ((t2.useHeld (ro1.mono l2) (nL_of t1 hp1) i).setOw hp2 ro2) (l1.trans l2) f2⟩
theorem g_parOF (hc : X.calm = true) (hN : X.N.Nodup) (ha : DPO X W a Fa) (hb : DPE X W b Fb) (hij : i ≠ j := by decide) (hi : X.N[i]? = some x := by rfl) (hj : X.N[j]? = some y := by rfl)
    (hx : X.env.scope.names.lookup x = some .local := by rfl) (hy : X.env.scope.names.lookup y = some .local := by rfl)
    (hw : swappedStores [.Tuple [.Name x px, .Name y py] kt pt] (.Tuple [a, b] k2 pt2) X.env = pure (some [x, y]) := by rfl)
    (hs : swapsWithSole [.Tuple [.Name x px, .Name y py] kt pt] (.Tuple [a, b] k2 pt2) pos.line X.env = pure false := by rfl) (hs1 : starEach [a, b] X.env = (false, eval a X.env) :: starEach [b] X.env := by rfl) (hs2 : starEach [b] X.env = (false, eval b X.env) :: starEach [] X.env := by rfl) :
    DPS X W (.Assign [.Tuple [.Name x px, .Name y py] kt pt] (.Tuple [a, b] k2 pt2) pos) (gParOF i j Fa Fb) := by
  refine ⟨ps_mono (fun D σ H ⟨q, L, H0, B0, s, B, E, t, g, r⟩ => ⟨q, L, H0, B0, s, B, _, _, t, g, fun p1 o1 H1 d s1 B1 t1 l1 hp1 ro1 f1 => ?_, noE⟩) (ps_par hc hN hi hj hij hx hy (pa_cons ha.pe (pa_cons hb.pe pa_nil hs2) hs1) hw hs)⟩
  refine ⟨q, (p1, o1) :: L, H0, B0, s1, B1, _, _, t1.holdNew hp1 ro1.ntb ro1.ntup, f1, fun v2 H2 d2 s2 B2 t2 l2 r2 f2 => ?_, noE⟩
  exact ⟨_, _, rfl, r.nx _ _ _ _ ((t2.useHeld (ro1.mono l2) (nL_of t1 hp1) i).setFz r2) (l1.trans l2) f2⟩
end
/-! ### .. where a name is captured: a tuple is made on the way -/
section
variable {x y : Str} {px py pt : Pos} {kt : Nat} {pt2 : Pos} {k2 : Nat} {i j : Nat}
end
/-! ### x[i] = v, x what a slot owns -/
def putAt (s : DS) (i : Nat) (k : D) (d : D) (K : DS → Prop) : Prop := match s.sl[i]?, k with
  | some (some (.ow (.lst ds))), .int z => 0 ≤ z ∧ z < ds.length ∧ K (s.put i (.ow (.lst (ds.set z.toNat d))))
  | _, _ => False
def gPut2 (i j : Nat) (F Fk Fl : DF) : DG := fun E s => F s (fun d s1 => hasSl s1 i ∧ Fk s1 (fun k s2 => putAt s2 i k d fun s3 => hasSl s3 j ∧ Fl s3 (fun l s4 => putAt s4 j l d E.nx) E.ex) E.ex) E.ex
theorem ixN_of {n : Nat} {z : Int} (h0 : 0 ≤ z) (h : z < n) : ixN n z = some z.toNat := by
  unfold ixN
  rw [if_pos h0, if_pos h]
/-- one such store, from the index's reading on -/
theorem put_run {q : Dr} {L : List (Addr × HO)} {H0 B0 H B : Hp} {σ : L2.St} {s : DS} {i : Nat} {o : V} {v u : V} {k d : D} {K : DS → Prop} {Q : Hp → Prop} (t : At (cx X q) L H0 B0 σ H s B) (ho : σ[i]? = some (some o)) (rk : Rep (cx X q) B k u) (rd : Rep (cx X q) B d v) (h : putAt s i k d K)
    (hQ : ∀ H' s', At (cx X q) L H0 B0 σ H' s' B → K s' → Q H') : rSetL o u v H Q := by
  unfold putAt at h
  split at h
  · rename_i ds z e1
    obtain ⟨h0, h1, h2⟩ := h
    obtain ⟨pp, xs, g1, g2, g3⟩ := t.ownL e1
    rw [ho] at g1
    cases g1
    rw [rep_int rk]
    exact ⟨pp, xs, z, z.toNat, rfl, rfl, g2, by rw [repL_len g3]; exact ixN_of h0 h1, hQ _ _ (t.change (d' := .lst _) e1 ho ⟨_, rfl, repL_set g3 rd⟩) h2⟩
  · exact h.elim
theorem g_put2 (i j : Nat) {x y : Str} {c : Expr} {p1 p2 p3 p4 : Pos} (he : DPE X W e Fa) (hk : DPE X W b Fb) (hl : DPE X W c Fc) (hN : X.N[i]? = some x := by rfl) (hM : X.N[j]? = some y := by rfl) (hv : Vis X.env.scope x := by first | exact Or.inl rfl | exact Or.inr (Or.inl rfl) | exact Or.inr (Or.inr rfl)) (hv2 : Vis X.env.scope y := by first | exact Or.inl rfl | exact Or.inr (Or.inl rfl) | exact Or.inr (Or.inr rfl))
    (hw : swappedStores [.Subscript (.Name x p1) b p2, .Subscript (.Name y p3) c p4] e X.env = pure none := by rfl) (h1 : (assignEach [.Subscript (.Name x p1) b p2, .Subscript (.Name y p3) c p4] X.env).map (·.2) = [assign (.Subscript (.Name x p1) b p2) X.env, assign (.Subscript (.Name y p3) c p4) X.env] := by rfl)
    (ha : ∀ v, assign (.Subscript (.Name x p1) b p2) X.env v = (do
      let ov ← holding [v] (eval (.Name x p1) X.env)
      let iv ← holding [v, ov] (eval b X.env)
      standAt p2
      holding [v, ov, iv] (setItem ov iv v)
      release [v, ov, iv] []) := by intro _; rfl)
    (ha2 : ∀ v, assign (.Subscript (.Name y p3) c p4) X.env v = (do
      let ov ← holding [v] (eval (.Name y p3) X.env)
      let iv ← holding [v, ov] (eval c X.env)
      standAt p4
      holding [v, ov, iv] (setItem ov iv v)
      release [v, ov, iv] []) := by intro _; rfl)
    (hd : (x == ("__debug__" : Str)) = false := by decide) (hcd : (x == ("__classdict__" : Str)) = false := by decide) (hd2 : (y == ("__debug__" : Str)) = false := by decide) (hcd2 : (y == ("__classdict__" : Str)) = false := by decide) :
    DPS X W (.Assign [.Subscript (.Name x p1) b p2, .Subscript (.Name y p3) c p4] e pos) (gPut2 i j Fa Fb Fc) := by
  refine ⟨ps_mono (fun D σ H ⟨q, L, H0, B0, s, B, E, t, g, r⟩ => ⟨q, L, H0, B0, s, B, _, E.ex, t, g, fun v H1 d s1 B1 t1 l1 r1 ⟨h0, f1⟩ => ?_, r.exs⟩) (ps_asg2 he.pe (pg_sub (pe_var hN hv hd hcd) hk.pe set_list ha) (pg_sub (pe_var hM hv2 hd2 hcd2) hl.pe set_list ha2) h1 hw)⟩
  obtain ⟨o, ho⟩ := t1.slot h0
  refine ⟨o, ho, q, L, H0, B0, s1, B1, _, E.ex, t1, f1, fun u H2 k s2 B2 t2 l2 r2 f2 => ?_, r.exs.le l1⟩
  refine put_run t2 ho r2 (r1.mono l2) f2 fun H3 s3 t3 ⟨h3, f3⟩ => ?_
  obtain ⟨o2, ho2⟩ := t3.slot h3
  refine ⟨o2, ho2, q, L, H0, B0, s3, B2, _, E.ex, t3, f3, fun u H4 k s4 B4 t4 l4 r4 f4 => ?_, r.exs.le (l1.trans l2)⟩
  exact put_run t4 ho2 r4 (r1.mono (l2.trans l4)) f4 fun H' s' t' n => r.nx _ _ _ _ t' ((l1.trans l2).trans l4) n
/-! ### x.index(e) of truths, numbers, texts -/
def flatB : D → Bool
  | .non => true | .bl _ => true | .int _ => true | .str _ => true
  | _ => false
def eqB : D → D → Bool := fun x y => PyData.eqv (py x) (py y)
def toV : D → V
  | .non => .non | .bl b => .bl b | .int i => .int i | .str x => .str x
  | _ => .non
theorem rep_toV {c : Ct} {B : Hp} : ∀ {d : D} {v : V}, flatB d = true → Rep c B d v → v = toV d
  | .non, _, _, h => rep_non h
  | .bl b, _, _, h => rep_bl h
  | .int i, _, _, h => rep_int h
  | .str x, _, _, h => rep_str h
  | .tup _, _, f, _ => by cases f
  | .lst _, _, f, _ => by cases f
  | .dic _, _, f, _ => by cases f
  | .obj _ _, _, f, _ => by cases f
  | .exc _ _, _, f, _ => by cases f
  | .st, _, f, _ => by cases f
  | .scr _, _, f, _ => by cases f
  | .dtp _, _, f, _ => by cases f
  | .fn _, _, f, _ => by cases f
theorem repL_toV {c : Ct} {B : Hp} : ∀ {ds : List D} {vs : List V}, ds.all flatB = true → RepL c B ds vs → vs = ds.map toV
  | [], _, _, h => by unfold RepL at h; exact h
  | d :: ds, _, f, h => by
    unfold RepL at h
    obtain ⟨x, xr, rfl, h1, h2⟩ := h
    rw [List.all_cons, Bool.and_eq_true] at f
    rw [rep_toV f.1 h1, repL_toV f.2 h2]
    rfl
theorem flat_toV {d : D} (h : flatB d = true) : flatV (toV d) = true := by cases d <;> first | rfl | cases h
theorem eqV_toV {x y : D} (h1 : flatB x = true) (h2 : flatB y = true) : eqV (toV x) (toV y) = eqB x y := by
  cases x <;> first | (exfalso; cases h1; done) | (cases y <;> first | (exfalso; cases h2; done) | rfl | (unfold eqB py PyData.eqv toV eqV; first | rfl | (simp)))
/-- the list at slot i, owned or not -/
def lstAt (s : DS) (i : Nat) : Option (List D) := match s.sl[i]? with
  | some (some (.ow (.lst ds))) => some ds
  | some (some (.fz (.lst ds))) => some ds
  | _ => none
theorem At.lstAt {c : Ct} {L : List (Addr × HO)} {H0 B0 H B : Hp} {σ : L2.St} {s : DS} (t : At c L H0 B0 σ H s B) {i : Nat} {ds : List D} (h : DL.lstAt s i = some ds) : ∃ p xs, σ[i]? = some (some (V.ref p)) ∧ H p = some (.lst xs) ∧ RepL c B ds xs := by
  unfold DL.lstAt at h
  split at h
  · rename_i e
    cases h
    exact t.ownL e
  · rename_i e
    cases h
    obtain ⟨v, h1, h2⟩ := t.fz i _ e
    obtain ⟨a, xs, rfl, ha, hx⟩ := rep_lst h2
    exact ⟨a, xs, h1, t.bs.leH _ _ ha, hx⟩
  · cases h
def dIndex (i : Nat) (F : DF) : DF := fun s P ex => (lstAt s i).isSome = true ∧ F s (fun d s1 => ∃ ds, lstAt s1 i = some ds ∧ flatB d = true ∧ ds.all flatB = true ∧ ∃ (j : Nat) (z : D), ds[j]? = some z ∧ eqB z d = true ∧ (∀ (m : Nat) (z' : D), m < j → ds[m]? = some z' → eqB z' d = false) ∧ P (.int (j : Nat)) s1) ex
theorem d_index (i : Nat) {x : Str} {ap : Pos} (he : DPE X W e Fa) (hN : X.N[i]? = some x := by rfl) (hv : Vis X.env.scope x := by first | exact Or.inl rfl | exact Or.inr (Or.inl rfl) | exact Or.inr (Or.inr rfl))
    (hse : starEach [e] X.env = (false, eval e X.env) :: starEach [] X.env := by rfl) (hd : (x == ("__debug__" : Str)) = false := by decide) (hcd : (x == ("__classdict__" : Str)) = false := by decide)
    (hbase : attributeBase (.Name x p) "index" X.env (eval (.Name x p) X.env) = eval (.Name x p) X.env := by rfl)
    (hfew : ((backTo pos (starEach [e] X.env)).all (fun x => !x.1) && (backToKw pos (keywordEach [] X.env)).all (fun x => x.1.isSome) && decide (([e] : List Expr).length + ([] : List Keyword).length + (if ([] : List Keyword).isEmpty then 0 else 1) < 30)) = true := by rfl)
    (hline : (ap.endLine == pos.line) = true := by rfl) : DPE X W (.Call (.Attribute (.Name x p) "index" ap) [e] [] pos) (dIndex i Fa) := by
  refine ⟨pe_mono (fun σ H Q ⟨q, L, H0, B0, s, B, P, ex, t, f, rt, e⟩ => ?_) (pe_bm PySem.F.plainAttrs_list PySem.F.slot_list_index PySem.F.type_list_index mt_index (pe_var hN hv hd hcd) (pa_cons he.pe pa_nil hse) hbase hfew hline hse)⟩
  obtain ⟨f0, f⟩ := f
  obtain ⟨ds0, e0⟩ := Option.isSome_iff_exists.mp f0
  obtain ⟨pp, xs, h1, h2, h3⟩ := t.lstAt e0
  refine ⟨_, h1, .inl ⟨rfl, xs, SqL.of h2⟩, q, L, H0, B0, s, B, _, ex, t, f, fun v H1 d s1 B1 t1 l1 r1 p1 => ?_, e⟩
  obtain ⟨ds, e1, k1, k2, j, z, k3, k4, k5, k6⟩ := p1
  obtain ⟨p2, ys, g1, g2, g3⟩ := t1.lstAt e1
  rw [h1] at g1
  cases g1
  have hz : flatB z = true := List.all_eq_true.mp k2 z (List.mem_of_getElem? k3)
  rw [rep_toV k1 r1]
  rw [repL_toV k2 g3] at g2
  refine ⟨pp, ds.map toV, toV d, j, toV z, rfl, rfl, SqL.of g2, flat_toV k1, ?_, by rw [List.getElem?_map, k3]; rfl, by rw [eqV_toV hz k1]; exact k4, fun m z' hm hz' => ?_, rt _ _ _ _ _ t1 l1 int_rep k6⟩
  · rw [List.all_map, List.all_eq_true]
    exact fun y hy => flat_toV (List.all_eq_true.mp k2 y hy)
  · rw [List.getElem?_map] at hz'
    cases q3 : ds[m]? with
    | none => rw [q3] at hz'; cases hz'
    | some w =>
      rw [q3] at hz'
      cases hz'
      rw [eqV_toV (List.all_eq_true.mp k2 w (List.mem_of_getElem? q3)) k1]
      exact k5 m w hm q3
end
end DL


set_option Elab.async false
set_option linter.all false
set_option maxRecDepth 100000
set_option maxHeartbeats 4000000
namespace DL
open PySem L2
variable [Tb]
/-! ### the draws' state: what its dict holds -/
abbrev kS (x : Str) : Key := .inr x
abbrev stK (g l : Addr) (left turn : Int) : List (Key × V) := [(.inr "great", .ref g), (.inr "cells", .ref l), (.inr "left", .int left), (.inr "turn", .int turn)]
section
variable {g l : Addr} {left turn z : Int}
theorem st_great : valV (stK g l left turn) (kS "great") = some (.ref g) := by simp [valV, stK, kS, List.find?]
theorem st_cells : valV (stK g l left turn) (kS "cells") = some (.ref l) := by
  have h1 : ¬ ("great" : Str) = "cells" := by decide +kernel
  simp [valV, stK, kS, List.find?, h1]
theorem st_left : valV (stK g l left turn) (kS "left") = some (.int left) := by
  have h1 : ¬ ("great" : Str) = "left" := by decide +kernel
  have h2 : ¬ ("cells" : Str) = "left" := by decide +kernel
  simp [valV, stK, kS, List.find?, h1, h2]
theorem st_turn : valV (stK g l left turn) (kS "turn") = some (.int turn) := by
  have h1 : ¬ ("great" : Str) = "turn" := by decide +kernel
  have h2 : ¬ ("cells" : Str) = "turn" := by decide +kernel
  have h3 : ¬ ("left" : Str) = "turn" := by decide +kernel
  simp [valV, stK, kS, List.find?, h1, h2, h3]
theorem st_putTurn : putK (stK g l left turn) (kS "turn") (.int z) = stK g l left z := by
  have h1 : ¬ ("great" : Str) = "turn" := by decide +kernel
  have h2 : ¬ ("cells" : Str) = "turn" := by decide +kernel
  have h3 : ¬ ("left" : Str) = "turn" := by decide +kernel
  simp [putK, stK, kS, h1, h2, h3]
theorem st_putLeft : putK (stK g l left turn) (kS "left") (.int z) = stK g l z turn := by
  have h1 : ¬ ("great" : Str) = "left" := by decide +kernel
  have h2 : ¬ ("cells" : Str) = "left" := by decide +kernel
  have h4 : ¬ ("turn" : Str) = "left" := by decide +kernel
  simp [putK, stK, kS, h1, h2, h4]
end
/-- the state stands at a -/
structure StAt (H : Hp) (a g l : Addr) (gs ls : List Int) (left turn : Int) : Prop where
  ag : a ≠ g
  al : a ≠ l
  gl : g ≠ l
  st : H a = some (.dK (stK g l left turn))
  gr : H g = some (.lst (gs.map V.int))
  ce : H l = some (.lst (ls.map V.int))
  g0 : ∀ x ∈ gs, 0 ≤ x
  gn : gs.length ≤ 63
  l0 : ∀ x ∈ ls, 0 ≤ x
  ln : ls.length ≤ 63
  left0 : 0 ≤ left
  turn0 : 0 ≤ turn
theorem small_k {n : Nat} (h : n ≤ 1000) : n < sizeLine := Nat.lt_of_le_of_lt h (by decide)
section
variable {H : Hp} {a g l : Addr} {left turn z : Int}
theorem get_great (h : H a = some (.dK (stK g l left turn))) : DGet H a (.str "great") (some (.ref g)) := by
  have q := DGet.k (k := kS "great") h
  rw [st_great] at q
  exact q
theorem get_cells (h : H a = some (.dK (stK g l left turn))) : DGet H a (.str "cells") (some (.ref l)) := by
  have q := DGet.k (k := kS "cells") h
  rw [st_cells] at q
  exact q
theorem get_left (h : H a = some (.dK (stK g l left turn))) : DGet H a (.str "left") (some (.int left)) := by
  have q := DGet.k (k := kS "left") h
  rw [st_left] at q
  exact q
theorem get_turn (h : H a = some (.dK (stK g l left turn))) : DGet H a (.str "turn") (some (.int turn)) := by
  have q := DGet.k (k := kS "turn") h
  rw [st_turn] at q
  exact q
theorem put_turn (h : H a = some (.dK (stK g l left turn))) : DPut H a (.str "turn") (.int z) (upd H a (.dK (stK g l left z))) := by
  have q := DPut.k (k := kS "turn") (v := .int z) h (small_k (by simp [stK]))
  rw [st_putTurn] at q
  exact q
theorem put_left (h : H a = some (.dK (stK g l left turn))) : DPut H a (.str "left") (.int z) (upd H a (.dK (stK g l z turn))) := by
  have q := DPut.k (k := kS "left") (v := .int z) h (small_k (by simp [stK]))
  rw [st_putLeft] at q
  exact q
end
/-- _law_blended: a number that is not negative; the turn goes on -/
def spBlend : Sp := fun vs H Q _ => ∃ a g l gs ls left turn, vs = [.ref a] ∧ StAt H a g l gs ls left turn ∧ turn < 1099511627776 ∧
  ∀ r H', 0 ≤ r → H' a = some (.dK (stK g l left (turn + 1))) → (∀ b o, b ≠ a → H b = some o → H' b = some o) → Q (.int r) H'
theorem blend_next {b c t p : Int} (hp : 0 < p) : 0 ≤ (b * 69621 + c + t).fmod p ∧ (b * 69621 + c + t).fmod p < p := by
  rw [Int.fmod_eq_emod_of_nonneg _ (Int.le_of_lt hp)]
  exact ⟨Int.emod_nonneg _ (by omega), Int.emod_lt_of_pos _ hp⟩
theorem at_map {ns : List Int} {i : Nat} {x : V} (h : (ns.map V.int)[i]? = some x) : ∃ z, x = .int z ∧ z ∈ ns := by
  rw [List.getElem?_map] at h
  cases e : ns[i]? with
  | none => rw [e] at h; cases h
  | some z => rw [e] at h; cases h; exact ⟨z, rfl, List.mem_of_getElem? e⟩
section
variable {c : Ct} {H H' B : Hp} {T T' : Nat} {a g l : Addr} {gs ls gs' ls' : List Int} {left turn left' turn' : Int}
theorem stAt_of (hq : c.q.dr = some (a, g, l)) (d : DrawR c H T) : ∃ gs ls left turn, StAt H a g l gs ls left turn ∧ turn ≤ T := by
  unfold DrawR at d
  rw [hq] at d
  obtain ⟨h1, h2, h3, gs, ls, le, tu, q1, q2, q3, q4, q5, q6, q7, q8, q9, q10⟩ := d
  exact ⟨gs, ls, le, tu, ⟨h1, h2, h3, q1, q2, q3, q4, q5, q6, q7, q8, q9⟩, q10⟩
theorem Bs.moved (b : Bs c H B H B T) (hq : c.q.dr = some (a, g, l)) (S : StAt H a g l gs ls left turn) (S' : StAt H' a g l gs' ls' left' turn') (ht : turn' ≤ T') (keep : ∀ b o, b ≠ a → b ≠ g → H b = some o → H' b = some o) : Bs c H B H' B T' := by
  have dr : c.drs = [a, g, l] := by unfold Ct.drs; rw [hq]
  have na : ∀ {b}, b ∉ c.drs → b ≠ a ∧ b ≠ g := fun {b} h => by
    rw [dr] at h
    simp only [List.mem_cons, List.not_mem_nil, or_false, not_or] at h
    exact ⟨h.1, h.2.1⟩
  refine ⟨Le.refl B, fun a h1 h2 => absurd h1 h2, fun b o h1 h2 _ => keep b o (na h2).1 (na h2).2 h1, fun b o e => ?_, b.avoid, b.ntb, b.dr0, fun b h => ?_, ?_, fun x hx => ?_⟩
  · have nb : b ∉ c.drs := fun z => by rw [‹Bs c H B H B T›.avoid b z] at e; cases e
    exact keep b o (na nb).1 (na nb).2 (‹Bs c H B H B T›.leH b o e)
  · by_cases z1 : b = a
    · rw [z1]; exact nFr S'.st (fun _ z => by cases z)
    · by_cases z2 : b = g
      · rw [z2]; exact nFr S'.gr (fun _ z => by cases z)
      · exact fun f => h fun u e => f u (keep b u z1 z2 e)
  · unfold DrawR
    rw [hq]
    exact ⟨S'.ag, S'.al, S'.gl, _, _, _, _, S'.st, S'.gr, S'.ce, S'.g0, S'.gn, S'.l0, S'.ln, S'.left0, S'.turn0, ht⟩
  · obtain ⟨ps, e1, e2, e3⟩ := b.tabs x hx
    have ne : ∀ {b : Addr} {o : HO}, H b = some o → (∀ xs, o ≠ .lst xs) → (∀ xs, o ≠ .dK xs) → H' b = some o := fun {b o} e n1 n2 => keep b o (fun z => by
      rw [z, S.st] at e
      exact n2 _ (Option.some.inj e).symm) (fun z => by
      rw [z, S.gr] at e
      exact n1 _ (Option.some.inj e).symm) e
    refine ⟨ps, ne e1 (fun _ z => by cases z) (fun _ z => by cases z), e2, fun pos cv hc => ?_⟩
    obtain ⟨cc, q1, q2⟩ := e3 pos cv hc
    exact ⟨cc, q1, ne q2 (fun _ z => by unfold LamX.CodeO at z; cases z) (fun _ z => by unfold LamX.CodeO at z; cases z)⟩
end
/-- a drawn number; what it costs -/
def S__law_draw : PF := fun ds T post _ => ∃ n, ds = [.st, .int n] ∧ 0 < n ∧ n < 35074662110434038747627587960280857993524015880330828824075798024790963850563322203657080886584969261653150406795437517399294548941469959754171038918004700847889956485329097264486802711583462946536682184340138629451355458264946342525383619389314960644665052551751442335509249173361130355796109709885580674313954210217657847432626760733004753275317192133674703563372783297041993227052663333668509952000175053355529058880434182538386715523683713208549376 ∧ T < 1099511627776 ∧ ∀ r, 0 ≤ r → r < n → post (.fz (.int r)) (T + 1)
theorem shaped_ints (gs : List Int) : SeqAt.shaped (.list (gs.map PyData.int)) = true := by
  have h1 : ∀ gs : List Int, PyData.canLayAll0 (gs.map PyData.int) = true := fun gs => by
    induction gs with
    | nil => simp [PyData.canLayAll0]
    | cons z zs ih => simp [PyData.canLayAll0, PyData.canLay0, ih]
  have h2 : ∀ gs : List Int, PyData.depthAll (gs.map PyData.int) = 0 := fun gs => by
    induction gs with
    | nil => simp [PyData.depthAll]
    | cons z zs ih => simp [PyData.depthAll, PyData.depth, ih]
  unfold SeqAt.shaped
  simp [PyData.canLay0, PyData.depth, h1, h2]
theorem dp_ints {K : PySem.W.Frag} {H : Hp} : ∀ gs : List Int, DpAll K H (gs.map V.int) (gs.map PyData.int)
  | [] => .nil
  | z :: zs => .cons (.int z) (dp_ints zs)
theorem eqv_ints (gs : List Int) : PyData.eqv (.list (gs.map PyData.int)) (.list []) = gs.isEmpty := by cases gs <;> rfl
end DL


set_option Elab.async false
set_option linter.all false
set_option maxRecDepth 100000
set_option maxHeartbeats 4000000
namespace DL
open PySem L2 PySem.Spec PyProof.Rows
variable [Tb]
/-! ### a caught error that stays -/
section
variable {X : Cx} {pins : List (Addr × Obj)} {σ : L2.St} {H : Hp} {s : Shared}
theorem HOk.track {P : Program} {w : World} {h : Heap} {a : Addr} {o : HO} (x : HOk P w H h) (hn : H a = none) (new : ObjOk P w (upd H a o) h a o) : HOk P w (upd H a o) h := fun b u e => by
  by_cases z : b = a
  · rw [z, upd_same] at e
    cases e
    rw [z]
    exact new
  · rw [upd_ne z] at e
    exact (x b u e).stay (fun c v _ q => q) (fun c q => by rw [upd_ne (ne_of_none q hn)]; exact q) fun c xs q => by rw [upd_ne (ne_of_none q hn)]; exact q
/-- an object that was not there at the entry is known from now on -/
theorem Inv.track (I : Inv X pins σ H s) {a : Addr} {o : HO} (n0 : X.s_0.heap.get? a = none) (hn : H a = none) (nl : a ≠ X.env.locals) (nc : ∀ x c, X.env.cells.lookup x = some c → c ≠ a) (np : ∀ p ∈ X.pn ++ pins, p.1 ≠ a)
    (new : ObjOk X.prog X.w (upd H a o) s.heap a o) : Inv X pins σ (upd H a o) s := by
  refine ⟨I.ok, I.os, I.bare, ⟨fun b u e q => I.base.keep b u e q, fun b u e q => I.base.slot b u e q, fun b u e q r => ?_, I.base.there, fun b xs e => ?_, fun b u v e => ?_, fun b ps e => ?_⟩, I.loc, I.cell, ?_, fun x c e => ?_, fun p hp => ?_, HOk.track I.hok hn new, I.len⟩
  · rw [upd_ne fun z => by rw [z, n0] at e; cases e]; exact I.base.free b u e q r
  · have q := I.base.tups b xs e
    rw [upd_ne (ne_of_none q hn)]; exact q
  · have q := I.base.frzs b u v e
    rw [upd_ne (ne_of_none q hn)]; exact q
  · obtain ⟨m, q⟩ := I.base.tbls b ps e
    exact ⟨m, by rw [upd_ne (ne_of_none q hn)]; exact q⟩
  · rw [upd_ne nl.symm]; exact I.free
  · rw [upd_ne (nc x c e)]; exact I.freeC x c e
  · obtain ⟨h1, h2, h3⟩ := I.pin p hp
    exact ⟨h1, by rw [upd_ne (np p hp)]; exact h2, h3⟩
end
/-- what the clause «except x as n: y = n» leaves: y holds the error, which is known -/
def wHold (K : PySem.W.Frag) (c : Value) (i j ln : Nat) (D : Ends) : WX := fun cls d σ H =>
  PySem.W.exmOne K cls c = some true ∧ (σ.length = ln → ∀ a, H a = none → D.nx ((((σ.set i (some (.ref a))).set j (some (.ref a))).set i none)) (upd H a (ExcO a cls d)))
section
variable {X : Cx} {body : List Stmt} {x n y : Str} {np nn py ap pos' pos : Pos} {i j : Nat} {c : Value} {tb : WX → TS}
theorem ps_try_hold (hs : X.stack = X.env :: X.outer) (hf : X.env.frame = some X.env.locals) (hN : X.N.Nodup) (hi : X.N[i]? = some n) (hln : X.env.kindOf n = some .local) (hj : X.N[j]? = some y) (hly : X.env.kindOf y = some .local) (hc : Names X x c) (hx0 : X.ex = []) (hij : X.N[i]? = some n) (hsw : swapsWithSole [.Name y py] (.Name n nn) ap.line X.env = pure false) (hsto : swappedStores [.Name y py] (.Name n nn) X.env = pure none) (hd : (n == ("__debug__" : Str)) = false) (hcd : (n == ("__classdict__" : Str)) = false)
    (h1 : (assignEach [.Name y py] X.env).map (·.2) = [assign (.Name y py) X.env])
    (hb : ∀ (W : WX) (pn : List (Addr × Obj)) (xe : Value → Shared → Prop), Takes (X.tr pn xe) W → PassesOwn (model X.prog X.w) X.A X.env xe → PSs (X.tr pn xe) body (tb W)) :
    PS X (.Try body [.ExceptHandler (some (.Name x np)) (some n) [.Assign [.Name y py] (.Name n nn) ap] pos'] [] [] pos) (fun D σ H => tb (wHold X.K c i j X.N.length D) D σ H) := by
  constructor
  intro pins s σ H D I h
  have ok := I.ok
  have hfr : X.A.frames = some (X.env :: X.outer) := by rw [ok.frames, hs]
  apply wpAny_Try_except
  let catch' : Value → Shared → Prop := fun e s₁ => wpAny (model X.prog X.w) X.A (noteFrame e X.env) (fun _ s₂ => wpAny (model X.prog X.w) X.A (setFlight e none) (fun _ s₃ =>
    wpAny (model X.prog X.w) X.A (handleBy e X.env [.ExceptHandler (some (.Name x np)) (some n) [.Assign [.Name y py] (.Name n nn) ap] pos']) (SP X pins D) X.xe s₃) X.xe s₂) X.xe s₁
  have tk : Takes (X.tr (X.pn ++ pins) catch') (wHold X.K c i j X.N.length D) := by
    intro u s' xx
    obtain ⟨a, B, sI, pins', σ', H', cls, d, rfl, J', nb, up, sky, na, os, ag, hb1, hyes⟩ := xx
    have J : Inv X pins σ' H' sI := J'.ofTry ok
    have sky' : Sky B (X.env :: X.outer) a (Zc cls d) X.env.locals s'.heap := by rw [← hs]; exact sky
    refine Sky.land Zc.steady hfr hf sky' fun h3 fl3 up3 => ?_
    have J3 : Inv X pins σ' H' { s' with heap := h3 } := J.landed nb fl3.1 (up.trans up3) os ag
    obtain ⟨oe3, vs3, he3, hz3, hd3⟩ := fl3.there
    have notFr : ∀ {h : Heap} {o : Obj} {vs : Array Value}, h.FunFrames B (X.env :: X.outer) → h.get? a = some o → o.data = .fields vs → a ∉ frs (X.env :: X.outer) := by
      intro h o vs ff e dd hm
      obtain ⟨_, o', e', hnf⟩ := ff.mem hm
      rw [e] at e'
      cases e'
      exact hnf _ dd
    have nfr := notFr fl3.2.2.1 he3 hd3
    have nL : a ≠ X.env.locals := fun z => nfr (List.mem_filterMap.mpr ⟨X.env, List.mem_cons_self, by rw [hf, z]⟩)
    have nF : a ∉ X.fs := fun hm => by
      obtain ⟨e, he, q⟩ := List.mem_filterMap.mp hm
      exact nfr (List.mem_filterMap.mpr ⟨e, List.mem_cons_of_mem _ he, q⟩)
    have nI : sI.heap.get? a = none := by
      cases e : sI.heap.get? a with
      | none => rfl
      | some o =>
        have q := nb a o e (by rw [hs]; exact nfr)
        rw [fl3.2.1] at q
        cases q
    have S3 := J3.suite he3 hd3 na nL nF
    refine wpAny_handleBy_cons (codeAny_handlers_test ?_) (by intro q; cases q)
    have LT : PySem.W.Looks (model X.prog X.w) h3 (typeOf (.ref a)) cls := fun A Q E s k q => wpAny_typeOf_ref (k _ _ he3) (by rw [hz3.1]; exact q)
    have LM := PySem.W.exm_one (M := model X.prog X.w) J3.kIn LT hb1
    have test : ∀ {Q : Value → Shared → Prop} {E : Value → Shared → Prop}, Q c { s' with heap := h3 } → wpAny (model X.prog X.w) (X.A.mark (some (.ref a))) (eval (.Name x np) X.env) Q E { s' with heap := h3 } := by
      intro Q E q
      obtain ⟨hg, hdbg, hm | ⟨hm, hv, hnn⟩⟩ := hc
      · exact ld_glob (X := X.suite a ((a, oe3) :: (X.pn ++ pins))) S3 hg hm q hdbg
      · exact ld_blt (X := X.suite a ((a, oe3) :: (X.pn ++ pins))) S3 hg hm hv q hnn hdbg
    refine test (LM.here (codeAny_handlers_suite_as (HandSPX.lands_againZ fl3 fun h4 fl4 up4 => ?_)))
    have J4 : Inv X pins σ' H' { s' with heap := h4 } := J.landed nb fl4.1 ((up.trans up3).trans up4) os ag
    obtain ⟨oe4, vs4, he4, hz4, hd4⟩ := fl4.there
    have S4 := J4.suite he4 hd4 na nL nF
    refine store_ok (X := X.suite a ((a, oe4) :: (X.pn ++ pins))) (v := .ref a) S4 hN hi (.inl hln) rfl (fun s5 S5 => ?_) (.inr hln)
    have hsu : PSs (X.suite a ((a, oe4) :: (X.pn ++ pins))) [.Assign [.Name y py] (.Name n nn) ap] (tAsg (tVar i) (gName j)) :=
      pss_one (ps_asg (X := X.suite a ((a, oe4) :: (X.pn ++ pins))) (pe_var (X := X.suite a ((a, oe4) :: (X.pn ++ pins))) hi (.inl hln) hd hcd) (pg_name (X := X.suite a ((a, oe4) :: (X.pn ++ pins))) (i := j) hN hj (.inl hly) (.inr hly)) hsw hsto h1)
    have hlen : i < (σ'.set i (some (V.ref a))).length := by
      rw [List.length_set, J.len]
      exact (List.getElem?_eq_some_iff.mp hi).1
    refine wpAny_mono (hsu.run [] s5 (σ'.set i (some (.ref a))) H' { nx := fun σ6 H6 => σ6 = (σ'.set i (some (.ref a))).set j (some (.ref a)) ∧ H6 = H', rt := fun _ _ => False } S5 ⟨.ref a, by rw [List.getElem?_set_self (by rw [List.length_set] at hlen; exact hlen)], rfl, rfl⟩) (fun f s6 hsp => ?_) (fun _ _ z => False.elim z)
    cases f with
    | next =>
      obtain ⟨σ6, H6, S6, e6, eH⟩ := hsp
      subst e6 eH
      have I6 : Inv X ((a, oe4) :: pins) ((σ'.set i (some (.ref a))).set j (some (.ref a))) H6 s6 := (S6.unsuite ok).pins_of fun p hp => by
        rcases List.mem_cons.mp hp with e | hp
        · exact S6.pin p (List.mem_append_left _ (by rw [e]; exact List.mem_cons_self))
        · exact S6.pin p (List.mem_append_left _ (List.mem_cons_of_mem _ (List.mem_append_right _ hp)))
      refine gone_ok I6 hN hi hln fun s7 I7 => ?_
      obtain ⟨g1, g2, g3, g4, g5⟩ := I7.pin (a, oe4) (List.mem_append_right _ List.mem_cons_self)
      have n0 : X.s_0.heap.get? a = none := by
        cases e : X.s_0.heap.get? a with
        | none => rfl
        | some o =>
          obtain ⟨o', q⟩ := J.base.there a o e (by rw [hx0]; simp)
          rw [nI] at q
          cases q
      have ncl : ∀ x c, X.env.cells.lookup x = some c → c ≠ a := fun x c e z => by
        obtain ⟨v, o, q, _⟩ := J.cell x c e
        rw [z, nI] at q
        cases q
      have npn : ∀ p ∈ X.pn ++ pins, p.1 ≠ a := fun p hp z => by
        obtain ⟨q, _⟩ := J.pin p hp
        rw [z, nI] at q
        cases q
      have I8 : Inv X pins (((σ'.set i (some (.ref a))).set j (some (.ref a))).set i none) H6 s7 := I7.pins_of fun p hp => I7.pin p (List.mem_append_right _ (List.mem_cons_of_mem _ hp))
      have new : ObjOk X.prog X.w (upd H6 a (ExcO a cls d)) s7.heap a (ExcO a cls d) := ⟨⟨oe4, vs4, g1, hz4, hd4⟩, ⟨oe4, g1⟩, fun h1 h2 ⟨o, v, q1, q2⟩ st => ⟨o, v, st o q1, q2⟩⟩
      exact ⟨_, _, Inv.track I8 n0 g2 g3 ncl npn new, hyes J.len a na⟩
    | brk => obtain ⟨_, _, _, z⟩ := hsp; exact z.elim
    | cont => obtain ⟨_, _, _, z⟩ := hsp; exact z.elim
    | ret u => obtain ⟨_, _, _, _, _, z⟩ := hsp; exact z.elim
  refine wpAny_mono ((hb (wHold X.K c i j X.N.length D) (X.pn ++ pins) catch' tk PassesOwn.looking).run [] s σ H D (I.toTry _) h) (fun f s1 hsp => ?_) (fun e s1 he => he)
  cases f with
  | next =>
    obtain ⟨σ', H', J', q⟩ := hsp
    exact wpAny_execs_nil ⟨σ', H', J'.ofTry ok, q⟩
  | brk =>
    obtain ⟨σ', H', J', q⟩ := hsp
    exact ⟨σ', H', J'.ofTry ok, q⟩
  | cont =>
    obtain ⟨σ', H', J', q⟩ := hsp
    exact ⟨σ', H', J'.ofTry ok, q⟩
  | ret u =>
    obtain ⟨v, σ', H', J', r, q⟩ := hsp
    exact ⟨v, σ', H', J'.ofTry ok, r, q⟩
end
end DL


set_option Elab.async false
set_option linter.all false
set_option maxRecDepth 100000
set_option maxHeartbeats 4000000
namespace DL
open PySem L2
variable [Tb]
/-! ### defs that may raise -/
section
variable {P : Program} {w : World} {K : PySem.W.Frag} {mg : Str → Option Value} {base : Heap}
theorem fn_okX {x qual : Str} {st : Stmt} {f : Addr} {fd : FuncData} {N ps : List Str} {k : Nat} {S : PF} {G : DG} (F : Fun K x qual st f fd) (Sc : FnScope N ps (defScope st))
    (hbody : ∀ (cdv : Value) (A : Around) (outer : List Env) (s : Shared) (H : Hp) (E : XK), Room k (A.deeper (PyProof.Rows.envOfC qual (defScope st) s.heap.objs.size f cdv)) → DPSs (cxOf (L2.CX P w) P w K mg base N qual (defScope st) f cdv A outer s H E) (fun cls d _ H' => E cls d H') (defBody st) G)
    (hG : ∀ ds T post ex, ds.length = ps.length → S ds T post ex → G (endsOf post ex) (startD N.length ds T)) : FnOk P w K mg base (L2.CX P w) (k + 1) f fd ps (spD K mg ps.length S) := by
  refine F.okX Sc (fun vs H Q E h => ?_) (fun cdv A outer s H vs Q E hr h => ⟨_, (hbody cdv A outer s H E hr).ps, ?_⟩)
  · obtain ⟨q, B, ds, T, post, ex, h1, _⟩ := h
    exact h1
  · obtain ⟨q, B, ds, T, post, ex, h1, b, r, hS, c1, c2, c3⟩ := h
    refine ⟨q, [], H, B, _, B, _, start_at b r, hG ds T post ex (by rw [← repL_len r, h1]) hS, ⟨fun σ H s B t l n => c1 _ _ _ _ _ t.bs non_rep n, fun _ _ _ _ _ _ z => z.elim, fun _ _ _ _ _ _ z => z.elim, fun σ v H s B d t l r n => c1 _ _ _ _ _ t.bs r n, fun σ p o H s B d t l hp ro n => c2 _ _ _ _ _ _ t.bs hp ro n, fun σ n fs s H B cls dd t l x n' => c3 _ _ _ _ _ _ _ t.bs x n'⟩⟩
end
/-- an own error class without __init__ -/
structure ExcT (K : PySem.W.Frag) (mg : Str → Option Value) (n : Str) : Prop where
  ex : ∃ C, mg n = some (.ref C) ∧ PySem.W.excIn K C [.type "ValueError", .type "Exception", .type "BaseException", .type "object"] "ValueError.__new__" = true ∧ PySem.W.keepIn K (.ref C) = true ∧ PySem.W.subIn K (.ref C) (.type "BaseException") = some true ∧ PySem.W.typeIn K (.ref C) = some (.type "type")
section
variable {X : Cx} {W : WX} {a b e : Expr} {es : List Expr} {Fa Fb : DF} {G : DFA} {pos p : Pos} {st : Stmt}
def gRaise (n : Str) : DG := fun E s => E.ex n [] s
theorem g_raise {n m : Str} {j : Nat} {p2 p3 : Pos} (hc : X.calm = true) (tk : Takes X W) (T : ExcT X.K X.mg n) (hg : Gl X n := by rfl) (hdb : (n == ("__debug__" : Str)) = false := by decide) :
    DPS X W (.Raise (some (.Call (.Name n p) [.Constant (.str m) j p2] [] p3)) none pos) (gRaise n) := by
  obtain ⟨C, h1, h2, h3, h4, h5⟩ := T.ex
  refine ⟨ps_mono (fun D σ H ⟨q, L, H0, B0, s, B, E, t, g, r⟩ => ?_) (ps_raise hc tk (pmk_own PySem.F.excBase_ValueError h2 h1 h3 (raises_own h4 h5) hg hdb))⟩
  exact r.ex σ n [] s H B _ _ t (Le.refl B) ⟨C, [], rfl, h1, rfl, by unfold RepF; rfl⟩ g
/-! ### calls of defs that may raise; new instances -/
abbrev wE (E : XK) : WX := fun cls d _ H => E cls d H
/-- in a place where nothing is raised -/
theorem d_callX0 {k n : Nat} {x : Str} {ps : List Str} {S : PF} (F : Kn X.prog X.w X.K X.mg X.base (L2.CX X.prog X.w) k x ps S) (hr : Room k X.A) (ha : DPA X W (e :: es) G) (hn : ps.length = n := by rfl) (hg : Gl X x := by rfl) (hdb : (x == ("__debug__" : Str)) = false := by decide)
    (he : starEach (e :: es) X.env = (false, eval e X.env) :: starEach es X.env := by rfl) (hpl : (backTo pos (starEach es X.env)).any (·.1) = false := by rfl) : DPE X W (.Call (.Name x p) (e :: es) [] pos) (dCall S n G) := by
  subst hn
  obtain ⟨f, fd, h1, h2, h3, h4⟩ := F.ex
  refine ⟨pe_mono (fun σ H Q ⟨q, L, H0, B0, s, B, P, ex, t, f, rt, e⟩ => ?_) (pe_call h1 hr hg h2 h3 h4 .nil passL ha.pa hdb he hpl)⟩
  refine ⟨q, L, H0, B0, s, B, _, ex, t, f, fun vs H1 ds s1 B1 t1 l1 r1 p1 => ?_, e⟩
  show spD X.K X.mg ps.length S (vs ++ []) H1 Q E0
  rw [List.append_nil]
  exact sp_of t1 r1 p1.1 p1.2 (fun v H' B' d T' t2 l2 r2 p2 => rt _ _ _ _ _ t2 (l1.trans l2) r2 p2)
    (fun p o H' B' d T' t2 l2 hp ro p2 => rt _ _ _ _ _ (t2.alloc hp ro.ntb) (l1.trans (l2.trans (Le.upd (t2.bs.nB hp)))) ((ro.mono (Le.upd (t2.bs.nB hp))).rep upd_same) p2) (fun _ _ _ _ _ _ _ _ _ _ z => z.elim)
def dCallX (S : PF) (n : Nat) (G : DFA) : DF := fun s P ex => G s (fun ds s1 => ds.length = n ∧ S ds s1.T (fun x T' => P x.d (s1.tick T')) (fun m fs T' => ex m fs (s1.tick T'))) ex
theorem d_callX {E : XK} {k n : Nat} {x : Str} {ps : List Str} {S : PF} (tk : Takes X (wE E)) (F : Kn X.prog X.w X.K X.mg X.base (L2.CX X.prog X.w) k x ps S) (hr : Room k X.A) (ha : DPA X (wE E) (e :: es) G) (hn : ps.length = n := by rfl) (hg : Gl X x := by rfl) (hdb : (x == ("__debug__" : Str)) = false := by decide)
    (he : starEach (e :: es) X.env = (false, eval e X.env) :: starEach es X.env := by rfl) (hpl : (backTo pos (starEach es X.env)).any (·.1) = false := by rfl) : DPE X (wE E) (.Call (.Name x p) (e :: es) [] pos) (dCallX S n G) := by
  subst hn
  obtain ⟨f, fd, h1, h2, h3, h4⟩ := F.ex
  refine ⟨pe_mono (fun σ H Q ⟨q, L, H0, B0, s, B, P, ex, t, f, rt, e⟩ => ?_) (pe_call h1 hr hg h2 h3 h4 .nil (passes_call tk fun _ _ _ _ z => z) ha.pa hdb he hpl)⟩
  refine ⟨q, L, H0, B0, s, B, _, ex, t, f, fun vs H1 ds s1 B1 t1 l1 r1 p1 => ?_, e⟩
  show spD X.K X.mg ps.length S (vs ++ []) H1 Q E
  rw [List.append_nil]
  exact sp_of t1 r1 p1.1 p1.2 (fun v H' B' d T' t2 l2 r2 p2 => rt _ _ _ _ _ t2 (l1.trans l2) r2 p2)
    (fun p o H' B' d T' t2 l2 hp ro p2 => rt _ _ _ _ _ (t2.alloc hp ro.ntb) (l1.trans (l2.trans (Le.upd (t2.bs.nB hp)))) ((ro.mono (Le.upd (t2.bs.nB hp))).rep upd_same) p2)
    (fun m fs cls dd H' B' T' t2 l2 x z => e m fs _ H' B' cls dd t2 (l1.trans l2) x z)
end
/-- what __init__ promises: the instance that it was handed is filled -/
def spI (K : PySem.W.Frag) (mg : Str → Option Value) (cn : Str) (n : Nat) (S : PF) : Sp := fun vs H Q E => ∃ q B x C dx ds T post ex vs', vs = .ref x :: vs' ∧ vs'.length = n ∧ mg cn = some (.ref C) ∧ H x = some (.ins C dx []) ∧ Bs ⟨K, mg, q⟩ (Hp.less H x) B (Hp.less H x) B T ∧ RepL ⟨K, mg, q⟩ B ds vs' ∧ S ds T post ex ∧
  (∀ o H' B' d T', Bs ⟨K, mg, q⟩ (Hp.less H x) B H' B' T' → H' x = none → RepO ⟨K, mg, q⟩ B' d o → post (.ow d) T' → Q .non (upd H' x o)) ∧
  (∀ m fs cls dd H' B' T', Bs ⟨K, mg, q⟩ (Hp.less H x) B H' B' T' → ExcR ⟨K, mg, q⟩ B' m fs cls dd → ex m fs T' → E cls dd H')
structure KnI (P : Program) (w : World) (K : PySem.W.Frag) (mg : Str → Option Value) (base : Heap) (CX : CXT) (k : Nat) (x : Str) (ps : List Str) (S : PF) : Prop where
  ex : ∃ C f fd, Mk K C f ∧ FnOk P w K mg base CX k f fd ("self" :: ps) (spI K mg x ps.length S) ∧ mg x = some (.ref C) ∧ Binds K fd ("self" :: ps) []
section
variable {X : Cx} {W : WX} {a b e : Expr} {es : List Expr} {Fa Fb : DF} {G : DFA} {pos p : Pos} {st : Stmt}
theorem less_new {H : Hp} {x dx C : Addr} (nx : H x = none) (ne : dx ≠ x) : Hp.less (upd (upd H dx (.own x)) x (.ins C dx [])) x = upd H dx (.own x) := by
  funext a
  by_cases z : a = x
  · rw [z, less_same, upd_ne ne.symm, nx]
  · rw [less_ne z, upd_ne z]
/-- a new instance, from its arguments on -/
theorem spI_of {q : Dr} {L : List (Addr × HO)} {H0 B0 H1 B1 : Hp} {σ : L2.St} {s1 : DS} {vs : List V} {ds : List D} {n : Nat} {S : PF} {Q : VK} {E : XK} {P : D → DS → Prop} {ex : XD} {cn : Str} {C x dx : Addr}
    (t : At (cx X q) L H0 B0 σ H1 s1 B1) (r : RepL (cx X q) B1 ds vs) (hl : ds.length = n) (hm : X.mg cn = some (.ref C)) (nx : H1 x = none) (ndx : H1 dx = none) (ne : dx ≠ x) (h : S ds s1.T (fun y T' => match y with | .ow d => P d (s1.tick T') | _ => False) (fun m fs T' => ex m fs (s1.tick T')))
    (h2 : ∀ o H' B' d T', At (cx X q) L H0 B0 σ H' (s1.tick T') B' → Le B1 B' → H' x = none → RepO (cx X q) B' d o → P d (s1.tick T') → Q (.ref x) (upd H' x o))
    (h3 : ∀ m fs cls dd H' B' T', At (cx X q) L H0 B0 σ H' (s1.tick T') B' → Le B1 B' → ExcR (cx X q) B' m fs cls dd → ex m fs (s1.tick T') → E cls dd H') :
    spI X.K X.mg cn n S (.ref x :: vs) (upd (upd H1 dx (.own x)) x (.ins C dx [])) (fun v H2 => v = .non ∧ Q (.ref x) H2) E := by
  have b0 : Bs (cx X q) H0 B0 (upd H1 dx (.own x)) B1 s1.T := t.bs.own ndx
  have keep : ∀ {b o}, H1 b = some o → (upd H1 dx (.own x)) b = some o := fun {b o} e => by rw [upd_ne (ne_of_none e ndx)]; exact e
  have t0 : At (cx X q) L H0 B0 σ (upd H1 dx (.own x)) s1 B1 := by
    refine ⟨b0, t.len, t.fz, fun i d h => ?_, t.inj, fun y hy => ?_⟩
    · obtain ⟨p, o, g1, g2, g3, g4, g5⟩ := t.ow i d h
      exact ⟨p, o, g1, g2, g3, keep g4, g5⟩
    · obtain ⟨g1, g2, g3, g4, g5⟩ := t.hold y hy
      exact ⟨keep g1, g2, g3, g4, g5⟩
  refine ⟨q, B1, x, C, dx, ds, s1.T, _, _, vs, rfl, by rw [repL_len r, hl], hm, upd_same, ?_, r, h, fun o H' B' d T' b hx ro pp => ⟨rfl, ?_⟩, fun m fs cls dd H' B' T' b xr z => ?_⟩
  · rw [less_new nx ne]
    exact b0.self
  · rw [less_new nx ne] at b
    exact h2 o H' B' d T' (t0.call b) b.leB hx ro pp
  · rw [less_new nx ne] at b
    exact h3 m fs cls dd H' B' T' (t0.call b) b.leB xr z
/-- .. where nothing is raised -/
def dMake0 (S : PF) (n : Nat) (G : DFA) : DF := fun s P ex => G s (fun ds s1 => ds.length = n ∧ S ds s1.T (fun y T' => match y with | .ow d => P d (s1.tick T') | _ => False) noX) ex
theorem d_make0 {k n : Nat} {x : Str} {ps : List Str} {S : PF} (F : KnI X.prog X.w X.K X.mg X.base (L2.CX X.prog X.w) k x ps S) (hr : Room (k + 1) X.A) (ha : DPA X W (e :: es) G) (hn : ps.length = n := by rfl) (hg : Gl X x := by rfl) (hdb : (x == ("__debug__" : Str)) = false := by decide)
    (he : starEach (e :: es) X.env = (false, eval e X.env) :: starEach es X.env := by rfl) (hpl : (backTo pos (starEach es X.env)).any (·.1) = false := by rfl) : DPO X W (.Call (.Name x p) (e :: es) [] pos) (dMake0 S n G) := by
  subst hn
  obtain ⟨C, f, fd, M, h1, h2, h4⟩ := F.ex
  refine ⟨pe_mono (fun σ H Q ⟨q, L, H0, B0, s, B, P, ex, t, f, rt, e⟩ => ?_) (pe_make M h1 hr hg h2 h4 .nil passL ha.pa hdb he hpl)⟩
  refine ⟨q, L, H0, B0, s, B, _, ex, t, f, fun vs H1 ds s1 B1 t1 l1 r1 p1 => fun x dx nx ndx ne => ?_, e⟩
  rw [List.append_nil]
  exact spI_of (ex := fun _ _ _ => False) t1 r1 p1.1 h2 nx ndx ne p1.2 (fun o H' B' d T' t2 l2 hx ro pp => rt _ _ _ _ _ _ t2 (l1.trans l2) hx ro pp) (fun m fs cls dd H' B' T' t2 l2 xr z => z.elim)
/-! ### an attribute of an instance -/
def dFld (cn f : Str) (F : DF) : DF := fun s P ex => F s (fun d s1 => match d with
  | .obj n fs => n = cn ∧ ∃ v, fs.lookup f = some v ∧ P v s1
  | _ => False) ex
theorem repF_look {c : Ct} {B : Hp} : ∀ {fs : List (Str × D)} {xs : List (Str × V)} {f : Str} {d : D}, RepF c B fs xs → fs.lookup f = some d → ∃ v, xs.lookup f = some v ∧ Rep c B d v
  | [], _, f, d, _, h => by simp at h
  | (g, e) :: fs, _, f, d, r, h => by
    unfold RepF at r
    obtain ⟨x, xr, rfl, h1, h2⟩ := r
    rw [List.lookup_cons] at h ⊢
    cases q : f == g with
    | true => rw [q] at h; cases h; exact ⟨x, rfl, h1⟩
    | false => rw [q] at h; exact repF_look h2 h
theorem d_fld {cn f : Str} (T : ∃ C, X.mg cn = some (.ref C) ∧ Cls X.K C ∧ NoAttr X.K C f) (ha : DPE X W a Fa) (hb : attributeBase a f X.env (eval a X.env) = eval a X.env := by rfl) : DPE X W (.Attribute a f pos) (dFld cn f Fa) := by
  refine ⟨pe_mono (fun σ H Q ⟨q, L, H0, B0, s, B, P, ex, t, f', rt, e⟩ => ⟨q, L, H0, B0, s, B, _, ex, t, f', fun v H1 x s1 B1 t1 l1 r1 p1 => ?_, e⟩) (pe_fld ha.pe hb)⟩
  dsimp only at p1
  split at p1
  · obtain ⟨rfl, y, h1, p1⟩ := p1
    unfold Rep at r1
    obtain ⟨a, C, dx, xs, rfl, m, hH, hF⟩ := r1
    obtain ⟨v, h2, h3⟩ := repF_look hF h1
    obtain ⟨C', m', c1, c2⟩ := T
    have e : C = C' := by
      have z := m.symm.trans m'
      cases z
      rfl
    subst e
    exact ⟨a, C, dx, xs, v, rfl, t1.bs.leH _ _ hH, c1, c2, h2, rt _ _ _ _ _ t1 l1 h3 p1⟩
  · exact p1.elim
end
end DL


set_option Elab.async false
set_option linter.all false
set_option maxRecDepth 100000
set_option maxHeartbeats 4000000
namespace DL
open PySem L2
variable [Tb]
/-! ### _law_caught: what a call raises, as a value -/
def TCaught (K : PySem.W.Frag) (CP : Addr) : (XK → Hp → VK → Prop) → Hp → VK → Prop := fun tl H Q =>
  tl (fun cls d H' => PySem.W.exmOne K cls (.ref CP) = some true ∧ ∀ a, H' a = none → Q (.ref a) (upd H' a (ExcO a cls d))) H (fun _ H' => ∃ v, (some (some V.non) : Option (Option V)) = some (some v) ∧ Q v H')
theorem nd0 : (["work", "caught", "error"] : List Str).Nodup := by decide +kernel
section
variable {X : Cx}
theorem caught_gives {q : Str} {sg : Scope} {g CP : Addr} {cdg : Value} {j : Nat} {p1 p2 p3 p4 p5 p6 p7 p8 p9 p10 p11 p12 p13 p14 : Pos} (h1 : sg.names.lookup ("caught" : Str) = some .local) (h2 : sg.names.lookup ("error" : Str) = some .local) (hge : sg.names.lookup ("PullError" : Str) = some .globalImplicit) (hme : X.mg "PullError" = some (.ref CP)) :
    LamX.GivesTo X ["work", "caught", "error"] "_law_caught" sg g cdg
      [.Assign [.Name "caught" p1] (.Constant .none j p2) p3, .Try [.Expr (.Call (.Name "work" p4) [] [] p5) p6] [.ExceptHandler (some (.Name "PullError" p7)) (some "error") [.Assign [.Name "caught" p8] (.Name "error" p9) p10] p11] [] [] p12, .Return (some (.Name "caught" p13)) p14]
      "work" q (TCaught X.K CP) := by
  intro f c' s H Q tl act hc h
  let Y : Cx := (cxOf C8.CX0 X.prog X.w X.K X.mg X.base ["work", "caught", "error"] "_law_caught" sg g cdg X.A X.stack s H C8.E0).nox
  have nd : Y.N.Nodup := nd0
  have hgl : Gl Y "PullError" := hge
  have e1 : Loc Y.env.scope "caught" := .inl h1
  refine ⟨_, pss_cons (X := Y) (ps_set (i := 1) nd rfl e1 pe_non) (pss_cons (ps_try_hold (X := Y) (i := 2) (j := 1) (c := .ref CP)
    (tb := fun W D σ H => ∃ Ech : XK, (∀ cls d σ' H', Ech cls d H' → W cls d σ' H') ∧ σ[0]? = some (some (.ref f)) ∧ H c' = some (LamX.CodeO c' q) ∧ tl Ech H (fun _ H' => D.nx σ H'))
    rfl rfl nd rfl h2 rfl h1 ⟨hgl, by decide, .inl hme⟩ rfl rfl (by rfl) (by rfl) (by decide) (by decide) (by rfl) (fun W pn xe tk _ => ?_)) (pss_one (ps_ret (pe_var (i := 1) rfl (.inl h1) (by decide) (by decide))))), ?_⟩
  · constructor
    intro pins s' σ H' D I h'
    obtain ⟨Ech, hW, g1, g2, g3⟩ := h'
    have hp := act W pn xe Ech p4 p5 tk hW
    have hq := pss_one (ps_expr (pos := p6) hp)
    exact hq.run pins s' σ H' D I ⟨g1, g2, g3⟩
  · refine ⟨fun cls d H' => PySem.W.exmOne X.K cls (.ref CP) = some true ∧ ∀ a, H' a = none → Q (.ref a) (upd H' a (ExcO a cls d)), fun cls d σ' H' ⟨e1, e2⟩ => ⟨e1, fun hl a ha => ⟨_, ?_, e2 a ha⟩⟩, rfl, hc, ?_⟩
    · have hl : σ'.length = 3 := hl
      rw [List.getElem?_set_ne (by decide), List.getElem?_set_self (by rw [List.length_set, hl]; decide)]
    · exact h
end
end DL


set_option Elab.async false
set_option linter.all false
set_option maxRecDepth 100000
set_option maxHeartbeats 4000000
namespace DL
open PySem L2
variable [Tb]
/-! ### a lambda handed to _law_caught -/
theorem ntb_code {a : Addr} {q : Str} : ∀ ps, LamX.CodeO a q ≠ .tbl ps := fun ps z => by unfold LamX.CodeO at z; cases z
theorem ntb_exc {a : Addr} {cls : Value} {d : Option Addr} : ∀ ps, ExcO a cls d ≠ .tbl ps := fun ps z => by unfold ExcO at z; cases z
section
variable {c : Ct} {L : List (Addr × HO)} {H0 B0 H B H1 : Hp} {σ : L2.St} {s : DS} {T : Nat}
theorem Fr.ofExt {p : Addr} (e : LamX.ExtN H H1) (h : Fr H1 p) : Fr H p := fun o ho => Classical.byContradiction fun n => by
  have q := e p o ho fun ps z => n ⟨ps, z⟩
  obtain ⟨ps, z⟩ := h o q
  exact n ⟨ps, z⟩
theorem DrawR.ext (d : DrawR c H T) (e : LamX.ExtN H H1) : DrawR c H1 T := by
  unfold DrawR at d ⊢
  cases q : c.q.dr with
  | none => trivial
  | some x =>
    obtain ⟨a, g, l⟩ := x
    rw [q] at d
    obtain ⟨h1, h2, h3, gs, ls, le, tu, q1, q2, q3, qr⟩ := d
    exact ⟨h1, h2, h3, gs, ls, le, tu, e _ _ q1 (fun ps z => by unfold stH at z; cases z), e _ _ q2 (fun ps z => by cases z), e _ _ q3 (fun ps z => by cases z), qr⟩
theorem Bs.ext (b : Bs c H0 B0 H B T) (e : LamX.ExtN H H1) (t : LamX.Tabs Tb.tb H1) : Bs c H0 B0 H1 B T :=
  ⟨b.leB, b.new, fun a o h1 h2 h3 => e _ _ (b.frame a o h1 h2 h3) h3, fun a o h => e _ _ (b.leH a o h) fun ps z => b.ntb a ps (by rw [h, z]), b.avoid, b.ntb, b.dr0, fun a h f => b.some0 a h (f.ofExt e), b.draw.ext e, t⟩
theorem At.ext (t : At c L H0 B0 σ H s B) (e : LamX.ExtN H H1) (ts : LamX.Tabs Tb.tb H1) : At c L H0 B0 σ H1 s B :=
  ⟨t.bs.ext e ts, t.len, t.fz, fun i d h => by
    obtain ⟨p, o, g1, g2, g3, g4, g5⟩ := t.ow i d h
    exact ⟨p, o, g1, g2, g3, e _ _ g4 g5.ntb, g5⟩, t.inj, fun x hx => by
    obtain ⟨g1, g2, g3, g4, g5⟩ := t.hold x hx
    exact ⟨e _ _ g1 g4.1, g2, g3, g4, g5⟩⟩
end
/-- the def _law_caught of a law: it calls what it gets, and hands back a PullError that comes out -/
structure KnC (K : PySem.W.Frag) (mg : Str → Option Value) (CP : Addr) : Prop where
  ex : ∃ g st fd, Fun K "_law_caught" "_law_caught" st g fd ∧ mg "_law_caught" = some (.ref g) ∧ PySem.W.keepIn K (.ref g) = true ∧ Binds K fd ["work"] [] ∧ FnScope ["work", "caught", "error"] ["work"] (defScope st) ∧ Vis (defScope st) "work" ∧
    ∀ (X : Cx) (cdv : Value) (q : Str), X.mg = mg → LamX.GivesTo X ["work", "caught", "error"] "_law_caught" (defScope st) g cdv (defBody st) "work" q (TCaught X.K CP)
/-- where a lambda may stand: the maker's code object, its table -/
structure LamIn (X : Cx) : Prop where
  ex : ∃ c P, X.env.code = .ref c ∧ LamX.TabB X.base X.mg c P ∧ (P, X.env.qual ++ "<lambda>") ∈ Tb.tb ∧ ∀ p ∈ Tb.tb, p.1 = P → p.2 = X.env.qual ++ "<lambda>"
def dCaught (ms : List Str) (F : DF) : DF := fun s P _ => F s (fun _ s1 => P .non s1) (fun m fs s1 => m ∈ ms ∧ P (.exc m fs) s1)
section
variable {X : Cx} {W : WX}
theorem d_caught {CP : Addr} {ms : List Str} {k : Nat} {params : Arguments} {body : Expr} {scope : Scope} {F : DF} {p lpos pos : Pos} (C : KnC X.K X.mg CP) (hms : ∀ m ∈ ms, ∀ C, X.mg m = some (.ref C) → PySem.W.exmOne X.K (.ref C) (.ref CP) = some true) (I : LamIn X) (hr : Room (k + 2) X.A) (L : LamX.LamS X.env.scope scope)
    (hbody : ∀ (A : Around) (outer : List Env) (s : Shared) (H : Hp) (E : XK) (f c' : Addr), Room k (A.deeper (LamX.lamEnv X scope s.heap.objs.size f c')) → DPE (LamX.lamCx X A outer s H E scope f c') (wE E) body F)
    (hg : Gl X "_law_caught" := by rfl) (hdef : defaultsOf params X.env = ([], []) := by rfl)
    (hbind : ∀ (q : Str) (cl : List (Str × Addr)) (pm cv ctv : Value), bindArgs (PySem.W.kla_fn "<lambda>" q params body scope cl pm cv ctv) ⟨[], []⟩ = pure [] := by intros; rfl) :
    DPE X W (.Call (.Name "_law_caught" p) [.Lambda params body scope lpos] [] pos) (dCaught ms F) := by
  obtain ⟨g, st, fd, Fn, mg, kg, hb, Sg, hva, gives⟩ := C.ex
  obtain ⟨oc, od, kV, doc, pm, an, cdv, ct, osl, rfl, lk, hcd⟩ := Fn.ex
  obtain ⟨c, Pt, hcode, TB, hmT, hu⟩ := I.ex
  refine ⟨pe_mono (fun σ H Q ⟨q, L, H0, B0, s, B, P, ex, t, f, rt, e⟩ => ?_) (LamX.pe_lamcall (X := X) (T := Tb.tb) (t := fun E => LftE X (wE E) F) hg mg kg lk hcd hb Sg rfl hva (gives X cdv _ rfl) TB hcode hmT hu hr L hdef hbind (fun A outer s H E f c' hr' => (hbody A outer s H E f c' hr').pe))⟩
  refine ⟨t.bs.tabs, fun H1 eN T1 => ⟨q, L, H0, B0, s, B, _, _, t.ext eN T1, f, fun v H2 d s2 B2 t2 l2 r2 p2 => ⟨.non, rfl, ?_⟩, fun n fs s2 H2 B2 cls dd t2 l2 x z => ?_⟩⟩
  · exact rt _ _ _ _ _ t2 l2 (by unfold Rep; rfl) p2
  · obtain ⟨hm, hp⟩ := z
    obtain ⟨C, xs, rfl, hmC, hdd, hF⟩ := x
    refine ⟨hms n hm C hmC, fun a ha => ?_⟩
    have hB := t2.bs.nB ha
    refine rt _ _ _ _ _ (t2.alloc ha ntb_exc) (l2.trans (Le.upd hB)) ?_ hp
    unfold Rep
    refine ⟨a, C, dd, xs, rfl, hmC, upd_same, ?_, hF.mono (Le.upd hB)⟩
    cases dd with
    | some d => exact Le.upd hB _ _ hdd
    | none => exact hdd
end
/-- a def that makes lambdas: its code object is known -/
structure FunL (K : PySem.W.Frag) (x qual : Str) (st : Stmt) (f : Addr) (fd : FuncData) (c : Addr) : Prop where
  ex : ∃ (oc : Value) (od : Option Addr) (kV doc pm : Value) (an : Option Addr) (ct : Value) (osl : Array (Option Value)),
    fd = PySem.W.fnOf x qual (defArgs st) (defBody st) (defScope st) .none kV doc pm an (.ref c) ct ∧ K.lookup f = some ⟨oc, od, .func fd, osl⟩ ∧ PySem.W.codeIn K (.ref c) qual = true
section
variable {P : Program} {w : World} {K : PySem.W.Frag} {mg : Str → Option Value} {base : Heap}
/-- THE RULE for such a def: no error leaves it -/
theorem fn_okL {x qual : Str} {st : Stmt} {f c : Addr} {fd : FuncData} {N ps : List Str} {k : Nat} {S : PF} {G : DG} (F : FunL K x qual st f fd c) (Sc : FnScope N ps (defScope st))
    (hbody : ∀ (A : Around) (outer : List Env) (s : Shared) (H : Hp) (E : XK), Room k (A.deeper (PyProof.Rows.envOfC qual (defScope st) s.heap.objs.size f (.ref c))) → DPSs (cxOf CX0 P w K mg base N qual (defScope st) f (.ref c) A outer s H E).nox W0 (defBody st) G)
    (hG : ∀ ds T post ex, ds.length = ps.length → S ds T post ex → G (endsOf post (fun _ _ _ => False)) (startD N.length ds T)) : FnOk P w K mg base CX0 (k + 1) f fd ps (spD K mg ps.length S) := by
  obtain ⟨oc, od, kV, doc, pm, an, ct, osl, rfl, lk, hcd⟩ := F.ex
  refine fn_of lk hcd Sc (fun vs H Q E h => ?_) (fun A outer s H vs Q E hr h => ⟨_, (hbody A outer s H E hr).ps.nox, ?_⟩)
  · obtain ⟨q, B, ds, T, post, ex, h1, _⟩ := h
    exact h1
  · obtain ⟨q, B, ds, T, post, ex, h1, b, r, hS, c1, c2, c3⟩ := h
    refine ⟨q, [], H, B, _, B, _, start_at b r, hG ds T post ex (by rw [← repL_len r, h1]) hS, ⟨fun σ H s B t l n => c1 _ _ _ _ _ t.bs non_rep n, fun _ _ _ _ _ _ z => z.elim, fun _ _ _ _ _ _ z => z.elim, fun σ v H s B d t l r n => c1 _ _ _ _ _ t.bs r n, fun σ p o H s B d t l hp ro n => c2 _ _ _ _ _ _ t.bs hp ro n, fun _ _ _ _ _ _ _ _ _ _ _ z => z.elim⟩⟩
end
end DL


set_option Elab.async false
set_option linter.all false
set_option maxRecDepth 100000
set_option maxHeartbeats 4000000
namespace DL
open PySem L2 PyProof.Rows
variable [Tb]
/-! ### isinstance with an own class -/
/-- what an exception class must say for isinstance -/
structure ExcI (K : PySem.W.Frag) (D : Addr) : Prop where
  hc : (PySem.W.clsIn K D).isSome = true
  hg : PySem.W.findIn K (.ref D) "__getattribute__" = some (some (.builtin "BaseException.__getattribute__"))
  hk : PySem.W.findIn K (.ref D) "__getattr__" = some none
  hs : PySem.W.subIn K (.ref D) (.type "BaseException") = some true
  ha : PySem.W.findIn K (.ref D) "__class__" = some (some (.builtin "object.__class__"))
  hn : PySem.W.specialIn K (.builtin "object.__class__") "__get__" = some (some (.builtin "getset_descriptor.__get__"))
  ht : PySem.W.takesIn K (.builtin "object.__class__") = some true
  hm : PySem.W.mroIn K D (.type "object") = some true
theorem exc_inst {P : Program} {w : World} {H : Hp} {s : Shared} {a C : Addr} {d : Option Addr} (hok : HOk P w H s.heap) (ha : H a = some (ExcO a (.ref C) d)) (hd : ∀ dd, d = some dd → ∃ xs, H dd = some (.xd xs)) : ∃ oe od, PySem.W.InstAt s.heap a oe C od := by
  obtain ⟨⟨oe, vs, h1, hz, hdt⟩, _⟩ := (show ObjOk P w H s.heap a (ExcO a (.ref C) d) from hok a _ ha)
  cases d with
  | none => exact ⟨oe, none, h1, hz.1, by unfold PySem.W.notCls; rw [hdt] <;> rfl, by rw [hz.2]; trivial⟩
  | some dd =>
    obtain ⟨xs, hx⟩ := hd dd rfl
    obtain ⟨mA, hns, _⟩ := (show ObjOk P w H s.heap dd (.xd xs) from hok dd _ hx)
    obtain ⟨od, ho, _⟩ := lookIn_ns hns
    exact ⟨oe, some od, h1, hz.1, by unfold PySem.W.notCls; rw [hdt] <;> rfl, by rw [hz.2]; exact ho⟩
def rIsOwn (K : PySem.W.Frag) : List V → Hp → VK → Prop := fun xs H Q => ∃ (x : V) (C : Addr) (t : Value) (b : Bool), xs = [x, .ref C] ∧ PySem.W.kitOne K t (.ref C) = some b ∧
  (TyX K H x t ∨ ∃ a Ce d, x = .ref a ∧ t = .ref Ce ∧ H a = some (ExcO a (.ref Ce) d) ∧ (∀ dd, d = some dd → ∃ xs, H dd = some (.xd xs)) ∧ ExcI K Ce) ∧ Q (.bl b) H
theorem call_isOwn {X : Cx} : CallR X (.builtin "isinstance") (rIsOwn X.K) := by
  intro pins s σ H xs us Q I r h
  obtain ⟨x, C, t, b, rfl, e, ty | ⟨a, Ce, d, rfl, rfl, ha, hd, ei⟩, q⟩ := h
  · obtain ⟨u1, u2, rfl, r1, r2⟩ := vals2 r
    cases (show u2 = Value.ref C from r2)
    obtain ⟨P, Z, p, hx⟩ := kit_of I r1 ty
    exact PySem.W.kia_one Z I.kIn p e hx fun tk => ⟨.bl b, H, I.tok tk, rfl, q⟩
  · obtain ⟨u1, u2, rfl, r1, r2⟩ := vals2 r
    cases (show u2 = Value.ref C from r2)
    cases (show u1 = Value.ref a from r1)
    obtain ⟨oe, od, J⟩ := exc_inst I.hok ha hd
    exact PySem.W.kia_one (PySem.W.kitx_exc ei.hc ei.hg ei.hk ei.hs ei.ha ei.hn ei.ht ei.hm) I.kIn J e (fun z => nomatch z) fun tk => ⟨.bl b, H, I.tok tk, rfl, q⟩
/-- the facts of a class that isinstance asks about: of own instances (os), of own errors (es) -/
structure IsO (K : PySem.W.Frag) (mg : Str → Option Value) (cn : Str) (os es : List (Str × Bool)) : Prop where
  ex : ∃ C, mg cn = some (.ref C) ∧ (∀ n ∈ ["NoneType", "bool", "int", "str", "tuple", "list", "dict"], PySem.W.kitOne K (.type n) (.ref C) = some false) ∧
    (∀ n b, os.lookup n = some b → ∃ Cn, mg n = some (.ref Cn) ∧ C8.InsC K Cn ∧ PySem.W.kitOne K (.ref Cn) (.ref C) = some b) ∧
    (∀ n b, es.lookup n = some b → ∃ Cn, mg n = some (.ref Cn) ∧ ExcI K Cn ∧ PySem.W.kitOne K (.ref Cn) (.ref C) = some b)
def isO (os es : List (Str × Bool)) : D → Option Bool
  | .obj n _ => os.lookup n
  | .exc n _ => es.lookup n
  | d => (tyName d).map fun _ => false
def dIsO (os es : List (Str × Bool)) (F : DF) : DF := fun s P ex => F s (fun d s1 => ∃ b, isO os es d = some b ∧ P (.bl b) s1) ex
theorem tyName_in {d : D} {t : String} (h : tyName d = some t) : t ∈ ["NoneType", "bool", "int", "str", "tuple", "list", "dict"] := by
  cases d <;> cases h <;> decide
section
variable {X : Cx} {W : WX} {a : Expr} {Fa : DF} {pos p : Pos}
theorem d_isO {x : Str} {os es : List (Str × Bool)} {p2 : Pos} (hm : X.mg "isinstance" = none) (T : IsO X.K X.mg x os es) (ha : DPE X W a Fa) (hg : Gl X "isinstance" := by rfl) (hgx : Gl X x := by rfl) (hdb : (x == ("__debug__" : Str)) = false := by decide)
    (he : starEach [a, .Name x p2] X.env = (false, eval a X.env) :: starEach [.Name x p2] X.env := by rfl) (he2 : starEach [.Name x p2] X.env = (false, eval (.Name x p2) X.env) :: starEach [] X.env := by rfl) (hpl : (backTo pos (starEach [.Name x p2] X.env)).any (·.1) = false := by rfl) :
    DPE X W (.Call (.Name "isinstance" p) [a, .Name x p2] [] pos) (dIsO os es Fa) := by
  obtain ⟨C, hC, hb, ho, hx⟩ := T.ex
  refine ⟨pe_mono (fun σ H Q ⟨q, L, H0, B0, s, B, P, ex, t, f, rt, e⟩ => ?_) (pe_callB call_isOwn hg hm (by decide +kernel) (pa_cons ha.pe (pa_cons (pe_glob (v := .ref C) hgx hC rfl hdb) pa_nil he2) he) (by decide) (by decide) he hpl)⟩
  refine ⟨q, L, H0, B0, s, B, _, ex, t, f, fun v H1 x s1 B1 t1 l1 r1 ⟨b, h1, p1⟩ => ?_, e⟩
  have base : ∀ ty, tyName x = some ty → b = false → rIsOwn X.K [v, .ref C] H1 Q := fun ty h2 h3 => by
    subst h3
    exact ⟨v, C, .type ty, false, rfl, hb ty (tyName_in h2), .inl (tyX_of t1.bs.leH h2 r1), rt _ _ _ _ _ t1 l1 bl_rep p1⟩
  show rIsOwn X.K [v, .ref C] H1 Q
  cases x with
  | obj n fs =>
    obtain ⟨Cn, m1, c1, k1⟩ := ho n b h1
    unfold Rep at r1
    obtain ⟨a, C2, dx, xs, rfl, m2, hH, hF⟩ := r1
    have e : C2 = Cn := by
      have z := m2.symm.trans m1
      cases z
      rfl
    subst e
    exact ⟨.ref a, C, .ref C2, b, rfl, k1, .inl (.base (.ins (t1.bs.leH _ _ hH) c1.cl c1.ha c1.hn c1.htk c1.hm)), rt _ _ _ _ _ t1 l1 bl_rep p1⟩
  | exc n fs =>
    obtain ⟨Cn, m1, c1, k1⟩ := hx n b h1
    unfold Rep at r1
    obtain ⟨a, C2, dd, xs, rfl, m2, hH, hd, hF⟩ := r1
    have e : C2 = Cn := by
      have z := m2.symm.trans m1
      cases z
      rfl
    subst e
    refine ⟨.ref a, C, .ref C2, b, rfl, k1, .inr ⟨a, C2, dd, rfl, rfl, t1.bs.leH _ _ hH, fun d e => ?_, c1⟩, rt _ _ _ _ _ t1 l1 bl_rep p1⟩
    subst e
    exact ⟨xs, t1.bs.leH _ _ hd⟩
  | st => cases h1
  | scr ns => cases h1
  | fn _ => cases h1
  | _ => exact base _ rfl (by cases h1; rfl)
/-! ### an attribute of a caught error -/
end
end DL


set_option Elab.async false
set_option linter.all false
set_option maxRecDepth 100000
set_option maxHeartbeats 4000000
namespace DL
open PySem L2
/-! ### the end: from the head's facts to the law's promise -/
/-- the tables' names: one for each def that makes lambdas (its name, its qual) -/
def tbOf (K : PySem.W.Frag) (tf : List He.Defn) : List (Addr × Str) := tf.map fun p => ((He.cT K p).2, p.1 ++ (".<locals>." : Str) ++ ("<lambda>" : Str))
/-- the law's own promise -/
def spLaw [Tb] (K : PySem.W.Frag) : Sp := fun vs H Q _ => ∃ (a : Addr) (ns : List Int), vs = [.ref a] ∧ SqL K H a (ns.map V.int) ∧ ns.length ≤ 63 ∧ LamX.Tabs Tb.tb H ∧ ∀ H', Q (.bl true) H'
end DL


set_option Elab.async false
set_option linter.all false
set_option maxRecDepth 100000
set_option maxHeartbeats 4000000
namespace Law
open PySem L2 DL
/-! ### what the shared defs promise -/
def plainD (d : D) : Bool := (tyName d).isSome
def plainDs : D → Bool
  | .tup xs => xs.all plainD
  | d => plainD d
def isInt : D → Bool
  | .int _ => true
  | _ => false
def within : D → Int → Int → Bool
  | .int i, lo, hi => decide (lo ≤ i) && decide (i ≤ hi)
  | _, _, _ => false
def isTup (n : Nat) : D → Bool
  | .tup xs => decide (xs.length = n)
  | _ => false
def doorNum : D → Bool
  | .int i => (decide (-999 ≤ i) && decide (i ≤ 999)) && decide (i ≠ 0)
  | _ => false
def isDoor (r : Int) : D → Bool
  | .tup [a, x, b, y] => (within a 0 (r - 1) && within b 0 (r - 1)) && (doorNum x && doorNum y)
  | _ => false
def areDoors (r : Int) : D → Bool
  | .tup xs => decide (xs.length ≤ 20) && xs.all (isDoor r)
  | _ => false
def S_is_number : PF := fun ds T post _ => ∃ d, ds = [d] ∧ plainD d = true ∧ post (.fz (.bl (isInt d))) T
def S_is_number_within : PF := fun ds T post _ => ∃ d lo hi, ds = [d, .int lo, .int hi] ∧ plainD d = true ∧ post (.fz (.bl (within d lo hi))) T
def S_is_tuple_of : PF := fun ds T post _ => ∃ d n, ds = [d, .int (n : Nat)] ∧ plainD d = true ∧ post (.fz (.bl (isTup n d))) T
def S_is_room_count : PF := fun ds T post _ => ∃ d, ds = [d] ∧ plainD d = true ∧ post (.fz (.bl (within d 1 12))) T
def S__is_door_number : PF := fun ds T post _ => ∃ d, ds = [d] ∧ plainD d = true ∧ post (.fz (.bl (doorNum d))) T
def S_is_door : PF := fun ds T post _ => ∃ r d, ds = [.int r, d] ∧ plainD d = true ∧ plainDs d = true ∧ post (.fz (.bl (isDoor r d))) T
def S_are_doors : PF := fun ds T post _ => ∃ r d, ds = [.int r, d] ∧ plainD d = true ∧ (∀ xs, d = .tup xs → ∀ x ∈ xs, plainD x = true ∧ plainDs x = true) ∧ post (.fz (.bl (areDoors r d))) T
end Law


set_option Elab.async false
set_option linter.all false
set_option maxRecDepth 100000
set_option maxHeartbeats 4000000
namespace DL
open PySem L2
/-! ### loops by an invariant -/
theorem forD_inv {T : DTg} {G : DG} {E : DE} (I : Nat → DS → Prop) : ∀ (items : List D) (k : Nat) (s : DS), (∀ i d s, items[i]? = some d → I (k + i) s → ∀ R : DS → Prop, (∀ s', I (k + i + 1) s' → R s') → T d s fun s1 => G { E with nx := R, ct := R, bk := E.nx } s1) → I k s →
    (∀ s, I (k + items.length) s → E.nx s) → forD T G items E s
  | [], k, s, _, h, e => e s h
  | d :: ds, k, s, st, h, e => by
    refine st 0 d s rfl h _ fun s' h' => ?_
    refine forD_inv I ds (k + 1) s' (fun i d' s2 hi hI R hR => ?_) h' (fun s2 h2 => e s2 ?_)
    · refine st (i + 1) d' s2 hi ?_ R fun s3 h3 => hR s3 ?_
      · rw [show k + (i + 1) = k + 1 + i from by omega]; exact hI
      · rw [show k + 1 + i + 1 = k + (i + 1) + 1 from by omega]; exact h3
    · rw [show k + (d :: ds).length = k + 1 + ds.length from by simp only [List.length_cons]; omega]; exact h2
theorem gFor_inv {F : DFA} {T : DTg} {G : DG} {E : DE} {s : DS} (I : Nat → DS → Prop) (items : List D) (hF : ∀ P : List D → DS → Prop, (∀ s1, I 0 s1 → P items s1) → F s P E.ex)
    (st : ∀ i d s, items[i]? = some d → I i s → ∀ R : DS → Prop, (∀ s', I (i + 1) s' → R s') → T d s fun s1 => G { E with nx := R, ct := R, bk := E.nx } s1) (e : ∀ s, I items.length s → E.nx s) : gFor F T G E s :=
  hF _ fun s1 h1 => forD_inv I items 0 s1 (fun i d s hi hI R hR => st i d s hi (by rwa [Nat.zero_add] at hI) R fun s' h' => hR s' (by rwa [Nat.zero_add])) h1 fun s h => e s (by rwa [Nat.zero_add] at h)
theorem whileD_inv {F : DFT} {G : DG} {E : DE} (I : Nat → DS → Prop) (st : ∀ m s, I m s → ∀ R : DS → Prop, (∀ m' s', m' < m → I m' s' → R s') → F s (fun k s1 => if k = true then G { E with nx := R, ct := R, bk := E.nx } s1 else E.nx s1) E.ex) :
    ∀ (n m : Nat) (s : DS), m < n → I m s → whileD F G n E s
  | 0, m, s, h, _ => absurd h (Nat.not_lt_zero m)
  | n + 1, m, s, h, hI => st m s hI _ fun m' s' hm h' => whileD_inv I st n m' s' (by omega) h'
theorem gWhile_inv {F : DFT} {G : DG} {E : DE} {s : DS} {m : Nat} (I : Nat → DS → Prop) (hI : I m s) (st : ∀ m s, I m s → ∀ R : DS → Prop, (∀ m' s', m' < m → I m' s' → R s') → F s (fun k s1 => if k = true then G { E with nx := R, ct := R, bk := E.nx } s1 else E.nx s1) E.ex) : gWhile F G E s :=
  ⟨m + 1, whileD_inv I st (m + 1) m s (Nat.lt_succ_self m) hI⟩
theorem lcD_inv {vs : List Nat} {T : DTg} {Ft : DFT} {Fe : DF} (I : Nat → List D → DS → Prop) : ∀ (items : List D) (k : Nat) (acc : List D) (s : DS) (P : List D → DS → Prop),
    (∀ i d acc s, items[i]? = some d → I (k + i) acc s → ∀ R : List D → DS → Prop, (∀ acc' s', I (k + i + 1) acc' s' → R acc' s') → T d s fun s1 => Ft s1 (fun q s2 => if q = true then Fe s2 (fun y s3 => acc.length < 100000 ∧ R (acc ++ [y]) (s3.wipe vs)) (fun _ _ _ => False) else R acc (s2.wipe vs)) (fun _ _ _ => False)) → I k acc s →
    (∀ acc s, I (k + items.length) acc s → P acc (s.wipe vs)) → lcD vs T Ft Fe items acc s P
  | [], k, acc, s, P, _, h, e => e acc s h
  | d :: ds, k, acc, s, P, st, h, e => by
    refine st 0 d acc s rfl h (fun acc' s' => lcD vs T Ft Fe ds acc' s' P) fun acc' s' h' => ?_
    refine lcD_inv I ds (k + 1) acc' s' P (fun i d' a2 s2 hi hI R hR => ?_) h' (fun a2 s2 h2 => e a2 s2 ?_)
    · refine st (i + 1) d' a2 s2 hi ?_ R fun a3 s3 h3 => hR a3 s3 ?_
      · rw [show k + (i + 1) = k + 1 + i from by omega]; exact hI
      · rw [show k + 1 + i + 1 = k + (i + 1) + 1 from by omega]; exact h3
    · rw [show k + (d :: ds).length = k + 1 + ds.length from by simp only [List.length_cons]; omega]; exact h2
theorem dLc_inv {vs : List Nat} {Fi : DFA} {T : DTg} {Ft : DFT} {Fe : DF} {s : DS} {P : D → DS → Prop} {ex : XD} (I : Nat → List D → DS → Prop) (items : List D) (hF : ∀ Q : List D → DS → Prop, (∀ s1, I 0 [] (s1.wipe vs) → Q items s1) → Fi s Q ex)
    (st : ∀ i d acc s, items[i]? = some d → I i acc s → ∀ R : List D → DS → Prop, (∀ acc' s', I (i + 1) acc' s' → R acc' s') → T d s fun s1 => Ft s1 (fun q s2 => if q = true then Fe s2 (fun y s3 => acc.length < 100000 ∧ R (acc ++ [y]) (s3.wipe vs)) (fun _ _ _ => False) else R acc (s2.wipe vs)) (fun _ _ _ => False))
    (e : ∀ acc s, I items.length acc s → P (.lst acc) (s.wipe vs)) : dLc vs Fi T Ft Fe s P ex :=
  hF _ fun s1 h1 => lcD_inv I items 0 [] (s1.wipe vs) _ (fun i d a s hi hI R hR => st i d a s hi (by rwa [Nat.zero_add] at hI) R fun a' s' h' => hR a' s' (by rwa [Nat.zero_add])) h1 fun a s h => e a s (by rwa [Nat.zero_add] at h)
theorem take_succ_get {α : Type} {l : List α} {i : Nat} {x : α} (h : l[i]? = some x) : l.take (i + 1) = l.take i ++ [x] := by
  rw [List.take_add_one, h]
  rfl
theorem get_lt {α : Type} {l : List α} {i : Nat} {x : α} (h : l[i]? = some x) : i < l.length := (List.getElem?_eq_some_iff.mp h).1
theorem get_mem {α : Type} {l : List α} {i : Nat} {x : α} (h : l[i]? = some x) : x ∈ l := List.mem_of_getElem? h
/-- [f(x) for x in items], the slots fixed -/
theorem lc_map {vs : List Nat} {Fi : DFA} {T : DTg} {Fe : DF} {s s0 : DS} {P : D → DS → Prop} {ex : XD} (g : D → D) (items : List D) (hz : items.length ≤ 100000) (hF : ∀ Q : List D → DS → Prop, (∀ s1, s1.wipe vs = s0 → Q items s1) → Fi s Q ex) (h0 : s0.wipe vs = s0)
    (st : ∀ d ∈ items, ∀ R : D → DS → Prop, (∀ s3 : DS, s3.wipe vs = s0 → R (g d) s3) → T d s0 fun s1 => Fe s1 R (fun _ _ _ => False)) (e : P (.lst (items.map g)) s0) : dLc vs Fi T tAll Fe s P ex := by
  refine dLc_inv (fun i acc s => acc = (items.take i).map g ∧ s = s0) items (fun Q hQ => hF Q fun s1 h1 => hQ s1 ⟨rfl, h1⟩) (fun i d acc s hi ⟨ha, hs⟩ R hR => ?_) (fun acc s ⟨ha, hs⟩ => ?_)
  · subst hs
    have hl := get_lt hi
    show T d s fun s1 => if (true : Bool) = true then Fe s1 (fun y s3 => acc.length < 100000 ∧ R (acc ++ [y]) (s3.wipe vs)) (fun _ _ _ => False) else R acc (s1.wipe vs)
    simp only [if_true]
    refine st d (get_mem hi) _ fun s3 h3 => ⟨?_, hR _ _ ⟨?_, h3⟩⟩
    · rw [ha, List.length_map, List.length_take]; omega
    · rw [ha, take_succ_get hi, List.map_append]; rfl
  · subst hs
    rw [ha, List.take_length, h0]
    exact e
end DL


set_option Elab.async false
set_option linter.all false
set_option maxRecDepth 100000
set_option maxHeartbeats 4000000
namespace Law
open PySem L2 DL
def G_is_number : DG := (gRet (dAnd (dIsTy "int" (dVar 0)) (dNot (dIsTy "bool" (dVar 0)))))
def G_is_number_within : DG := (gRet (dAnd (dCall S_is_number 1 (aCons (dVar 0) aNil)) (dChain (dCmpI fun i j => decide (i ≤ j)) (dCmpI fun i j => decide (i ≤ j)) (dVar 1) (dVar 0) (dVar 2))))
def G_is_tuple_of : DG := (gRet (dAnd (dIsTy "tuple" (dVar 0)) (dOp dEq (dCB cLen (aCons (dVar 0) aNil)) (dVar 1))))
def G_is_room_count : DG := (gRet (dCall S_is_number_within 3 (aCons (dVar 0) (aCons (dC (.int 1)) (aCons (dC (.int 12)) aNil)))))
def G__is_door_number : DG := (gRet (dAnd (dCall S_is_number_within 3 (aCons (dVar 0) (aCons (dNeg (dC (.int 999))) (aCons (dC (.int 999)) aNil)))) (dOp dNe (dVar 0) (dC (.int 0)))))
def G_is_door : DG := (gSeq (gIf (tNotD (dTest (dCall S_is_tuple_of 2 (aCons (dVar 1) (aCons (dC (.int 4)) aNil))))) (gRet (dC (.bl false))) gNil)
    (gSeq (gUnp (tgTup 4 (tgCons (tgN 2) (tgCons (tgN 3) (tgCons (tgN 4) (tgCons (tgN 5) tgNil))))) (dVar 1))
    (gSeq (gSet 6 (dAnd (dCall S_is_number_within 3 (aCons (dVar 2) (aCons (dC (.int 0)) (aCons (dOp dSub (dVar 0) (dC (.int 1))) aNil)))) (dCall S_is_number_within 3 (aCons (dVar 4) (aCons (dC (.int 0)) (aCons (dOp dSub (dVar 0) (dC (.int 1))) aNil))))))
    (gRet (dAnd (dVar 6) (dAnd (dCall S__is_door_number 1 (aCons (dVar 3) aNil)) (dCall S__is_door_number 1 (aCons (dVar 5) aNil))))))))
def G_are_doors : DG := (gSeq (gIf (tOrD (tNotD (dTest (dIsTy "tuple" (dVar 1)))) (dTest (dOp (dCmpI fun i j => decide (j < i)) (dCB cLen (aCons (dVar 1) aNil)) (dC (.int 20))))) (gRet (dC (.bl false))) gNil)
    (gRet (dCB cAll (aCons (dLc [2] (iSeq (dVar 1)) (tgN 2) tAll (dCall S_is_door 2 (aCons (dVar 0) (aCons (dVar 2) aNil)))) aNil))))
theorem m_is_number : ∀ (ds : List D) T post ex, ds.length = 1 → S_is_number ds T post ex → G_is_number (endsOf post ex) (startD 1 ds T) := by
  rintro ds T post ex _ ⟨d, rfl, hd, hp⟩
  cases d with
  | int i => exact ⟨"int", true, rfl, by decide +kernel, "int", false, rfl, by decide +kernel, hp⟩
  | bl b => exact ⟨"bool", true, rfl, by decide +kernel, "bool", true, rfl, by decide +kernel, hp⟩
  | non => exact ⟨_, false, rfl, by decide +kernel, hp⟩
  | str x => exact ⟨_, false, rfl, by decide +kernel, hp⟩
  | tup x => exact ⟨_, false, rfl, by decide +kernel, hp⟩
  | lst x => exact ⟨_, false, rfl, by decide +kernel, hp⟩
  | dic x => exact ⟨_, false, rfl, by decide +kernel, hp⟩
  | dtp => exact ⟨_, false, rfl, by decide +kernel, hp⟩
  | obj _ _ => cases hd
  | exc _ _ => cases hd
  | st => cases hd
  | scr _ => cases hd
  | fn _ => cases hd
theorem m_is_number_within : ∀ (ds : List D) T post ex, ds.length = 3 → S_is_number_within ds T post ex → G_is_number_within (endsOf post ex) (startD 3 ds T) := by
  rintro ds T post ex _ ⟨d, lo, hi, rfl, hd, hp⟩
  refine ⟨rfl, d, rfl, hd, ?_⟩
  cases d with
  | int i =>
    show (match D.bl (decide (lo ≤ i)) with | .bl true => post (.fz (.bl (decide (i ≤ hi)))) T | .bl false => post (.fz (.bl false)) T | _ => False)
    have hp : post (.fz (.bl (decide (lo ≤ i) && decide (i ≤ hi)))) T := hp
    cases e : decide (lo ≤ i) <;> rw [e] at hp <;> exact hp
  | obj _ _ => cases hd
  | exc _ _ => cases hd
  | st => cases hd
  | scr _ => cases hd
  | fn _ => cases hd
  | _ => exact hp
theorem eqv_int (i j : Int) : PyData.eqv (py (.int i)) (py (.int j)) = decide (i = j) := by
  show (i == j) = decide (i = j)
  by_cases h : i = j
  · simp [h]
  · simp [h]
theorem m_is_tuple_of : ∀ (ds : List D) T post ex, ds.length = 2 → S_is_tuple_of ds T post ex → G_is_tuple_of (endsOf post ex) (startD 2 ds T) := by
  rintro ds T post ex _ ⟨d, n, rfl, hd, hp⟩
  cases d with
  | tup xs =>
    refine ⟨"tuple", true, rfl, by decide +kernel, ?_⟩
    refine ⟨rfl, rfl, ?_⟩
    rw [eqv_int]
    have hp : post (.fz (.bl (decide (xs.length = n)))) T := hp
    have e : decide ((xs.length : Int) = (n : Int)) = decide (xs.length = n) := decide_eq_decide.mpr (by omega)
    rw [e]
    exact hp
  | obj _ _ => cases hd
  | exc _ _ => cases hd
  | st => cases hd
  | scr _ => cases hd
  | fn _ => cases hd
  | _ => exact ⟨_, false, rfl, by decide +kernel, hp⟩
theorem m_is_room_count : ∀ (ds : List D) T post ex, ds.length = 1 → S_is_room_count ds T post ex → G_is_room_count (endsOf post ex) (startD 1 ds T) := by
  rintro ds T post ex _ ⟨d, rfl, hd, hp⟩
  exact ⟨rfl, d, 1, 12, rfl, hd, hp⟩
theorem m__is_door_number : ∀ (ds : List D) T post ex, ds.length = 1 → S__is_door_number ds T post ex → G__is_door_number (endsOf post ex) (startD 1 ds T) := by
  rintro ds T post ex _ ⟨d, rfl, hd, hp⟩
  refine ⟨rfl, d, -999, 999, rfl, hd, ?_⟩
  cases d with
  | int i =>
    show (match D.bl (decide (-999 ≤ i) && decide (i ≤ 999)) with | .bl true => (okD (.int i) = true ∧ okD (.int 0) = true ∧ post (.fz (.bl (!PyData.eqv (py (.int i)) (py (.int 0))))) T) | .bl false => post (.fz (.bl false)) T | _ => False)
    rw [eqv_int]
    have hp : post (.fz (.bl ((decide (-999 ≤ i) && decide (i ≤ 999)) && decide (i ≠ 0)))) T := hp
    cases e : (decide (-999 ≤ i) && decide (i ≤ 999)) <;> rw [e] at hp
    · exact hp
    · refine ⟨rfl, rfl, ?_⟩
      have e2 : (!decide (i = 0)) = (true && decide (i ≠ 0)) := by simp
      rw [e2]
      exact hp
  | obj _ _ => cases hd
  | exc _ _ => cases hd
  | st => cases hd
  | scr _ => cases hd
  | fn _ => cases hd
  | _ => exact hp
theorem m_is_door : ∀ (ds : List D) T post ex, ds.length = 2 → S_is_door ds T post ex → G_is_door (endsOf post ex) (startD 7 ds T) := by
  rintro ds T post ex _ ⟨r, d, rfl, hd, hd2, hp⟩
  refine ⟨rfl, d, 4, rfl, hd, ?_⟩
  cases e : isTup 4 d with
  | false =>
    have e2 : isDoor r d = false := by
      unfold isDoor
      split
      · simp [isTup] at e
      · rfl
    rw [e2] at hp
    exact hp
  | true =>
    obtain ⟨a, x, b, y, rfl⟩ : ∃ a x b y, d = .tup [a, x, b, y] := by
      cases d with
      | tup xs =>
        have : xs.length = 4 := by simpa [isTup] using e
        match xs, this with
        | [a, x, b, y], _ => exact ⟨a, x, b, y, rfl⟩
      | _ => cases e
    have hd2 : ([a, x, b, y].all plainD) = true := hd2
    simp only [List.all_cons, List.all_nil, Bool.and_eq_true, Bool.and_true] at hd2
    obtain ⟨pa, px, pb, py'⟩ := hd2
    refine ⟨rfl, rfl, a, 0, r - 1, rfl, pa, ?_⟩
    have hp : post (.fz (.bl ((within a 0 (r - 1) && within b 0 (r - 1)) && (doorNum x && doorNum y)))) T := hp
    cases e1 : within a 0 (r - 1) with
    | false =>
      rw [e1] at hp
      exact hp
    | true =>
      rw [e1] at hp
      refine ⟨rfl, b, 0, r - 1, rfl, pb, ?_⟩
      cases e2 : within b 0 (r - 1) with
      | false =>
        rw [e2] at hp
        exact hp
      | true =>
        rw [e2] at hp
        refine ⟨rfl, x, rfl, px, ?_⟩
        cases e3 : doorNum x with
        | false =>
          rw [e3] at hp
          exact hp
        | true =>
          rw [e3] at hp
          exact ⟨rfl, y, rfl, py', hp⟩

theorem bls_map (g : D → Bool) : ∀ xs : List D, blsOf (xs.map fun x => .bl (g x)) = some (xs.map g)
  | [] => rfl
  | x :: xs => by
    show (blsOf (xs.map fun x => .bl (g x))).map (g x :: ·) = _
    rw [bls_map g xs]
    rfl
theorem m_are_doors : ∀ (ds : List D) T post ex, ds.length = 2 → S_are_doors ds T post ex → G_are_doors (endsOf post ex) (startD 3 ds T) := by
  rintro ds T post ex _ ⟨r, d, rfl, hd, hd2, hp⟩
  cases d with
  | tup xs =>
    refine ⟨"tuple", true, rfl, by decide +kernel, ?_⟩
    have hp : post (.fz (.bl (decide (xs.length ≤ 20) && xs.all (isDoor r)))) T := hp
    by_cases hl : xs.length ≤ 20
    · have e1 : decide ((20 : Int) < (xs.length : Int)) = false := by simp; omega
      rw [decide_eq_true hl, Bool.true_and] at hp
      show (match D.bl (decide ((20 : Int) < (xs.length : Int))) with | .bl k => if k = true then post (.fz (.bl false)) T else gRet (dCB cAll (aCons (dLc [2] (iSeq (dVar 1)) (tgN 2) tAll (dCall S_is_door 2 (aCons (dVar 0) (aCons (dVar 2) aNil)))) aNil)) (endsOf post ex) (startD 3 [.int r, .tup xs] T) | _ => False)
      rw [e1]
      show gRet (dCB cAll (aCons (dLc [2] (iSeq (dVar 1)) (tgN 2) tAll (dCall S_is_door 2 (aCons (dVar 0) (aCons (dVar 2) aNil)))) aNil)) (endsOf post ex) (startD 3 [.int r, .tup xs] T)
      have key : dLc [2] (iSeq (dVar 1)) (tgN 2) tAll (dCall S_is_door 2 (aCons (dVar 0) (aCons (dVar 2) aNil))) (startD 3 [.int r, .tup xs] T) (fun d s1 => cAll [d] fun z => post (.fz z) s1.T) (endsOf post ex).ex := by
        refine lc_map (s0 := startD 3 [.int r, .tup xs] T) (fun x => .bl (isDoor r x)) xs (by omega) (fun Q h => ⟨xs, rfl, h _ rfl⟩) rfl (fun d hd R hR => ?_) ?_
        · obtain ⟨p1, p2⟩ := hd2 xs rfl d hd
          exact ⟨rfl, r, d, rfl, p1, p2, hR _ rfl⟩
        · refine ⟨xs.map (isDoor r), bls_map _ xs, ?_⟩
          rw [show (xs.map (isDoor r)).all id = xs.all (isDoor r) from by simp [List.all_map, Function.comp_def]]
          exact hp
      exact key
    · have e1 : decide ((20 : Int) < (xs.length : Int)) = true := by simp; omega
      rw [decide_eq_false hl, Bool.false_and] at hp
      show (match D.bl (decide ((20 : Int) < (xs.length : Int))) with | .bl k => if k = true then post (.fz (.bl false)) T else gRet (dCB cAll (aCons (dLc [2] (iSeq (dVar 1)) (tgN 2) tAll (dCall S_is_door 2 (aCons (dVar 0) (aCons (dVar 2) aNil)))) aNil)) (endsOf post ex) (startD 3 [.int r, .tup xs] T) | _ => False)
      rw [e1]
      exact hp
  | obj _ _ => cases hd
  | exc _ _ => cases hd
  | st => cases hd
  | scr _ => cases hd
  | fn _ => cases hd
  | _ => exact ⟨_, false, rfl, by decide +kernel, hp⟩
end Law


set_option linter.all false
namespace Law
/-! ### rooms that doors lead to from room 0 -/
inductive Reach (es : List (Nat × Nat)) : Nat → Prop
  | zero : Reach es 0
  | fwd {a b : Nat} (h : (a, b) ∈ es) (r : Reach es a) : Reach es b
  | bwd {a b : Nat} (h : (a, b) ∈ es) (r : Reach es b) : Reach es a
def setB (bs : List Bool) (e : Nat × Nat) : List Bool := if (bs.getD e.1 false || bs.getD e.2 false) = true then (bs.set e.1 true).set e.2 true else bs
def passB (es : List (Nat × Nat)) (bs : List Bool) : List Bool := es.foldl setB bs
def iterB (es : List (Nat × Nat)) : Nat → List Bool → List Bool
  | 0, bs => bs
  | k + 1, bs => passB es (iterB es k bs)
def LeB (bs cs : List Bool) : Prop := bs.length = cs.length ∧ ∀ i, bs.getD i false = true → cs.getD i false = true
theorem LeB.refl (bs : List Bool) : LeB bs bs := ⟨rfl, fun _ h => h⟩
theorem LeB.trans {a b c : List Bool} (h : LeB a b) (g : LeB b c) : LeB a c := ⟨h.1.trans g.1, fun i q => g.2 i (h.2 i q)⟩
theorem getD_set {bs : List Bool} {i j : Nat} : (bs.set i true).getD j false = if i = j ∧ j < bs.length then true else bs.getD j false := by
  simp only [List.getD_eq_getElem?_getD, List.getElem?_set]
  by_cases h : i = j
  · subst h
    by_cases l : i < bs.length
    · simp [l]
    · simp [l]
  · simp [h]
theorem setB_len (bs : List Bool) (e : Nat × Nat) : (setB bs e).length = bs.length := by
  unfold setB
  split <;> simp
theorem setB_le (bs : List Bool) (e : Nat × Nat) : LeB bs (setB bs e) := by
  refine ⟨(setB_len bs e).symm, fun i h => ?_⟩
  unfold setB
  split
  · rw [getD_set, getD_set]
    split
    · rfl
    · split
      · rfl
      · exact h
  · exact h
theorem passB_le (es : List (Nat × Nat)) : ∀ bs, LeB bs (passB es bs) := by
  induction es with
  | nil => exact fun bs => LeB.refl bs
  | cons e es ih => exact fun bs => (setB_le bs e).trans (ih (setB bs e))
theorem LeB.anti {a b : List Bool} (h : LeB a b) (g : LeB b a) : a = b := by
  apply List.ext_getElem h.1
  intro i h1 h2
  have e1 : a.getD i false = a[i] := by simp [List.getD_eq_getElem?_getD, h1]
  have e2 : b.getD i false = b[i] := by simp [List.getD_eq_getElem?_getD, h2]
  rw [← e1, ← e2]
  cases q : a.getD i false with
  | true => exact (h.2 i q).symm
  | false =>
    cases q2 : b.getD i false with
    | false => rfl
    | true => rw [g.2 i q2] at q; cases q
def cnt : List Bool → Nat
  | [] => 0
  | b :: bs => (if b = true then 1 else 0) + cnt bs
theorem cnt_le_len : ∀ bs : List Bool, cnt bs ≤ bs.length
  | [] => Nat.le_refl _
  | b :: bs => by
    have := cnt_le_len bs
    simp only [cnt, List.length_cons]
    split <;> omega
theorem cnt_le : ∀ (a b : List Bool), LeB a b → cnt a ≤ cnt b ∧ (cnt a = cnt b → a = b)
  | [], [], _ => ⟨Nat.le_refl _, fun _ => rfl⟩
  | [], _ :: _, h => by have := h.1; simp at this
  | _ :: _, [], h => by have := h.1; simp at this
  | x :: a, y :: b, h => by
    have hl : LeB a b := ⟨by have := h.1; simpa using this, fun i q => by have := h.2 (i + 1); simpa using this (by simpa using q)⟩
    have h0 : x = true → y = true := by have := h.2 0; simpa using this
    obtain ⟨i1, i2⟩ := cnt_le a b hl
    cases x <;> cases y
    · exact ⟨by simp [cnt]; exact i1, fun e => by rw [i2 (by simpa [cnt] using e)]⟩
    · refine ⟨by simp [cnt]; omega, fun e => ?_⟩
      simp [cnt] at e
      omega
    · exact absurd (h0 rfl) (by simp)
    · exact ⟨by simp [cnt]; exact i1, fun e => by rw [i2 (by simpa [cnt] using e)]⟩
theorem iterB_len (es : List (Nat × Nat)) (bs : List Bool) : ∀ k, (iterB es k bs).length = bs.length
  | 0 => rfl
  | k + 1 => (passB_le es _).1.symm.trans (iterB_len es bs k)
theorem iterB_grow (es : List (Nat × Nat)) (bs : List Bool) (h0 : 1 ≤ cnt bs) : ∀ k, passB es (iterB es k bs) = iterB es k bs ∨ k + 1 ≤ cnt (iterB es k bs)
  | 0 => .inr h0
  | k + 1 => by
    rcases iterB_grow es bs h0 k with h | h
    · left
      show passB es (passB es (iterB es k bs)) = passB es (iterB es k bs)
      rw [h, h]
    · obtain ⟨c1, c2⟩ := cnt_le _ _ (passB_le es (iterB es k bs))
      by_cases e : cnt (iterB es k bs) = cnt (passB es (iterB es k bs))
      · left
        have := c2 e
        show passB es (passB es (iterB es k bs)) = passB es (iterB es k bs)
        rw [← this, ← this]
      · right
        show k + 1 + 1 ≤ cnt (passB es (iterB es k bs))
        omega
theorem iterB_fix (es : List (Nat × Nat)) (bs : List Bool) (h0 : 1 ≤ cnt bs) : passB es (iterB es bs.length bs) = iterB es bs.length bs := by
  rcases iterB_grow es bs h0 bs.length with h | h
  · exact h
  · have := cnt_le_len (iterB es bs.length bs)
    rw [iterB_len] at this
    omega
theorem passB_fix : ∀ (es : List (Nat × Nat)) (bs : List Bool), passB es bs = bs → ∀ e ∈ es, setB bs e = bs
  | [], _, _, e, he => absurd he (by simp)
  | d :: es, bs, h, e, he => by
    have h1 := setB_le bs d
    have h2 := passB_le es (setB bs d)
    have h3 : passB es (setB bs d) = bs := h
    rw [h3] at h2
    have e1 : setB bs d = bs := (h1.anti h2).symm
    rw [e1] at h3
    rcases List.mem_cons.mp he with rfl | he
    · exact e1
    · exact passB_fix es bs h3 e he
theorem closed_of {bs : List Bool} {e : Nat × Nat} (h : setB bs e = bs) (h1 : e.1 < bs.length) (h2 : e.2 < bs.length) : bs.getD e.1 false = true ↔ bs.getD e.2 false = true := by
  unfold setB at h
  split at h
  · have a1 : ((bs.set e.1 true).set e.2 true).getD e.1 false = true := by
      rw [getD_set, getD_set]
      split
      · rfl
      · rw [if_pos ⟨rfl, h1⟩]
    have a2 : ((bs.set e.1 true).set e.2 true).getD e.2 false = true := by
      rw [getD_set, if_pos ⟨rfl, by simpa using h2⟩]
    rw [h] at a1 a2
    exact ⟨fun _ => a2, fun _ => a1⟩
  · rename_i q
    simp only [Bool.or_eq_true, not_or] at q
    exact ⟨fun z => absurd z q.1, fun z => absurd z q.2⟩
theorem reach_closed {es : List (Nat × Nat)} {bs : List Bool} (h0 : bs.getD 0 false = true) (h : passB es bs = bs) (hl : ∀ e ∈ es, e.1 < bs.length ∧ e.2 < bs.length) : ∀ {i : Nat}, Reach es i → bs.getD i false = true := by
  intro i r
  induction r with
  | zero => exact h0
  | fwd m r ih => exact (closed_of (passB_fix es bs h _ m) (hl _ m).1 (hl _ m).2).mp ih
  | bwd m r ih => exact (closed_of (passB_fix es bs h _ m) (hl _ m).1 (hl _ m).2).mpr ih
theorem setB_sound {es : List (Nat × Nat)} {bs : List Bool} {e : Nat × Nat} (he : e ∈ es) (h : ∀ i, bs.getD i false = true → Reach es i) : ∀ i, (setB bs e).getD i false = true → Reach es i := by
  intro i q
  unfold setB at q
  split at q
  · rename_i c
    have r : Reach es e.1 ∧ Reach es e.2 := by
      rw [Bool.or_eq_true] at c
      rcases c with c | c
      · have := h _ c
        exact ⟨this, .fwd (a := e.1) (b := e.2) he this⟩
      · have := h _ c
        exact ⟨.bwd (a := e.1) (b := e.2) he this, this⟩
    rw [getD_set, getD_set] at q
    split at q
    · rename_i z; rw [← z.1]; exact r.2
    · split at q
      · rename_i z; rw [← z.1]; exact r.1
      · exact h i q
  · exact h i q
theorem passB_sound {es : List (Nat × Nat)} : ∀ (ds : List (Nat × Nat)) (bs : List Bool), (∀ e ∈ ds, e ∈ es) → (∀ i, bs.getD i false = true → Reach es i) → ∀ i, (passB ds bs).getD i false = true → Reach es i
  | [], _, _, h => h
  | d :: ds, bs, hs, h => passB_sound ds (setB bs d) (fun e he => hs e (List.mem_cons_of_mem _ he)) (setB_sound (hs d (List.mem_cons_self ..)) h)
theorem iterB_sound {es : List (Nat × Nat)} {bs : List Bool} (h : ∀ i, bs.getD i false = true → Reach es i) : ∀ k i, (iterB es k bs).getD i false = true → Reach es i
  | 0 => h
  | k + 1 => passB_sound es _ (fun _ he => he) (iterB_sound h k)
theorem iterB_le (es : List (Nat × Nat)) (bs : List Bool) : ∀ k, LeB bs (iterB es k bs)
  | 0 => LeB.refl bs
  | k + 1 => (iterB_le es bs k).trans (passB_le es _)
/-- the start: room 0 alone -/
def startB (n : Nat) : List Bool := (List.range n).map fun i => decide (i = 0)
theorem startB_len (n : Nat) : (startB n).length = n := by simp [startB]
theorem startB_get (n i : Nat) : (startB n).getD i false = true ↔ i = 0 ∧ 0 < n := by
  unfold startB
  rw [List.getD_eq_getElem?_getD, List.getElem?_map]
  by_cases h : i < n
  · simp [h]; omega
  · simp [h]; omega
theorem startB_cnt (n : Nat) (h : 1 ≤ n) : 1 ≤ cnt (startB n) := by
  cases n with
  | zero => omega
  | succ n =>
    unfold startB
    rw [List.range_succ_eq_map]
    simp only [List.map_cons, cnt]
    simp
/-- what the rounds leave: true where doors lead -/
theorem reached {es : List (Nat × Nat)} {n : Nat} (hn : 1 ≤ n) (hl : ∀ e ∈ es, e.1 < n ∧ e.2 < n) : ∀ i, (iterB es n (startB n)).getD i false = true ↔ (Reach es i ∧ i < n) := by
  intro i
  have hf : passB es (iterB es n (startB n)) = iterB es n (startB n) := by
    have := iterB_fix es (startB n) (startB_cnt n hn)
    rwa [startB_len] at this
  have hlen : (iterB es n (startB n)).length = n := by rw [iterB_len, startB_len]
  constructor
  · intro h
    refine ⟨iterB_sound (fun j q => ?_) n i h, ?_⟩
    · rw [((startB_get n j).mp q).1]; exact .zero
    · refine Classical.byContradiction fun z => ?_
      rw [List.getD_eq_getElem?_getD, List.getElem?_eq_none (by rw [hlen]; omega)] at h
      cases h
  · intro ⟨r, _⟩
    exact reach_closed ((iterB_le es (startB n) n).2 0 ((startB_get n 0).mpr ⟨rfl, hn⟩)) hf (fun e he => by rw [hlen]; exact hl e he) r
/-- the least room that no doors lead to -/
def ApartIs (es : List (Nat × Nat)) (n : Nat) : Option Nat → Prop
  | none => ∀ i, i < n → Reach es i
  | some k => k < n ∧ ¬ Reach es k ∧ ∀ i, i < k → Reach es i
end Law


set_option Elab.async false
set_option linter.all false
set_option maxRecDepth 100000
set_option maxHeartbeats 4000000
namespace Law
open PySem L2 DL
variable [Tb]
/-! ### _least_apart -/
def intOf : D → Nat
  | .int i => i.toNat
  | _ => 0
/-- a door's two rooms -/
def endsD : D → Nat × Nat
  | .tup (a :: _ :: b :: _) => (intOf a, intOf b)
  | _ => (0, 0)
/-- a door of n rooms -/
structure DoorOf (n : Nat) (d : D) : Prop where
  ex : ∃ (a b : Nat) (x y : D), d = .tup [.int a, x, .int b, y] ∧ a < n ∧ b < n
def apD : Option Nat → D
  | none => .non
  | some k => .int k
def S__least_apart : PF := fun ds T post _ => ∃ (n : Nat) (xs : List D) (o : Option Nat), ds = [.int n, .tup xs] ∧ 1 ≤ n ∧ n ≤ 12 ∧ xs.length ≤ 1000 ∧ (∀ d ∈ xs, DoorOf n d) ∧ ApartIs (xs.map endsD) n o ∧ post (.fz (apD o)) T
def G__least_apart : DG := (gSeq (gSetO 2 (dLc [6] (iRng1D (dVar 0)) (tgN 6) tAll (dOp dEq (dVar 6) (dC (.int 0)))))
    (gSeq (gFor (iRng1D (dVar 0)) (tgN 3) (gFor (iSeq (dVar 1)) (tgTup 4 (tgCons (tgN 4) (tgCons (tgN 3) (tgCons (tgN 5) (tgCons (tgN 3) tgNil))))) (gIf (tOrD (dTest (dIxV 2 (dVar 4))) (dTest (dIxV 2 (dVar 5)))) (gPut2 2 2 (dC (.bl true)) (dVar 4) (dVar 5)) gNil)))
    (gSeq (gIf (dTest (dCB cAll (aCons (dVar 2) aNil))) (gRet (dC .non)) gNil)
    (gRet (dIndex 2 (dC (.bl false)))))))
def G_la2 : DG := (gSeq (gFor (iRng1D (dVar 0)) (tgN 3) (gFor (iSeq (dVar 1)) (tgTup 4 (tgCons (tgN 4) (tgCons (tgN 3) (tgCons (tgN 5) (tgCons (tgN 3) tgNil))))) (gIf (tOrD (dTest (dIxV 2 (dVar 4))) (dTest (dIxV 2 (dVar 5)))) (gPut2 2 2 (dC (.bl true)) (dVar 4) (dVar 5)) gNil)))
    (gSeq (gIf (dTest (dCB cAll (aCons (dVar 2) aNil))) (gRet (dC .non)) gNil)
    (gRet (dIndex 2 (dC (.bl false))))))
theorem rangeD_get {lo : Int} {n i : Nat} {d : D} (h : (rangeD lo n)[i]? = some d) : d = .int (lo + (i : Nat)) ∧ i < n := by
  unfold rangeD at h
  rw [List.getElem?_map] at h
  cases q : (List.range n)[i]? with
  | none => rw [q] at h; cases h
  | some j =>
    rw [q] at h
    cases h
    have := List.getElem?_eq_some_iff.mp q
    obtain ⟨h1, h2⟩ := this
    simp at h1 h2
    subst h2
    exact ⟨rfl, h1⟩
abbrev blsD (bs : List Bool) : List D := bs.map D.bl
theorem atI_bls {bs : List Bool} {a : Nat} (h : a < bs.length) : atI (blsD bs) (a : Int) = some (.bl (bs.getD a false)) := by
  unfold atI
  rw [ixN_of (by omega) (by simp [blsD]; omega)]
  show (blsD bs)[a]? = some (.bl (bs.getD a false))
  unfold blsD
  rw [List.getElem?_map, List.getD_eq_getElem?_getD, List.getElem?_eq_getElem h]
  rfl
def laSt (n : Nat) (xs : List D) (T : Nat) (bs : List Bool) (v3 v4 v5 v6 : Option Sl) : DS := ⟨[some (.fz (.int n)), some (.fz (.tup xs)), some (.ow (.lst (blsD bs))), v3, v4, v5, v6], T⟩
theorem set_bls (bs : List Bool) (a : Nat) : (blsD bs).set a (.bl true) = blsD (bs.set a true) := by
  simp [blsD, List.map_set]
def laG : D → D
  | .int i => .bl (decide (i = 0))
  | d => d
theorem laG_map (n : Nat) : (rangeD 0 n).map laG = blsD (startB n) := by
  unfold rangeD blsD startB
  rw [List.map_map, List.map_map]
  apply List.map_congr_left
  intro i _
  show D.bl (decide ((0 : Int) + (i : Int) = 0)) = D.bl (decide (i = 0))
  congr 1
  exact decide_eq_decide.mpr (by omega)
theorem bls_map' (bs : List Bool) : blsOf (blsD bs) = some bs := by
  have := bls_map (fun d => match d with | .bl b => b | _ => false) (bs.map D.bl)
  rw [List.map_map, List.map_map] at this
  simpa [Function.comp_def] using this
theorem la_step {n : Nat} {xs : List D} {T : Nat} {bs : List Bool} {a b : Nat} {v3 v6 : Option Sl} {E : DE} (hl : bs.length = n) (ha : a < n) (hb : b < n) (hR : ∀ v3 v4 v5 v6, E.nx (laSt n xs T (setB bs (a, b)) v3 v4 v5 v6)) :
    gIf (tOrD (dTest (dIxV 2 (dVar 4))) (dTest (dIxV 2 (dVar 5)))) (gPut2 2 2 (dC (D.bl true)) (dVar 4) (dVar 5)) gNil E (laSt n xs T bs v3 (some (.fz (.int a))) (some (.fz (.int b))) v6) := by
  have put : (bs.getD a false || bs.getD b false) = true → gPut2 2 2 (dC (D.bl true)) (dVar 4) (dVar 5) E (laSt n xs T bs v3 (some (.fz (.int a))) (some (.fz (.int b))) v6) := fun q => by
    refine ⟨trivial, (show (0 : Int) ≤ (a : Int) from by omega), (show (a : Int) < ((blsD bs).length : Int) from by simp [blsD]; omega), trivial, (show (0 : Int) ≤ (b : Int) from by omega), (show (b : Int) < (((blsD bs).set a (.bl true)).length : Int) from by simp [blsD]; omega), ?_⟩
    have h := hR v3 (some (.fz (.int a))) (some (.fz (.int b))) v6
    unfold setB at h
    rw [if_pos q] at h
    show E.nx ⟨[some (.fz (.int n)), some (.fz (.tup xs)), some (.ow (.lst (((blsD bs).set a (.bl true)).set b (.bl true)))), v3, some (.fz (.int a)), some (.fz (.int b)), v6], T⟩
    rw [set_bls, set_bls]
    exact h
  refine ⟨trivial, _, atI_bls (by omega), ?_⟩
  cases q : bs.getD a false with
  | true => exact put (by rw [q]; rfl)
  | false =>
    refine ⟨trivial, _, atI_bls (by omega), ?_⟩
    cases q2 : bs.getD b false with
    | true => exact put (by rw [q, q2]; rfl)
    | false =>
      have h := hR v3 (some (.fz (.int a))) (some (.fz (.int b))) v6
      unfold setB at h
      rw [q, q2] at h
      exact h
theorem m_la2 {n : Nat} {xs : List D} {o : Option Nat} {T : Nat} {post : Sl → Nat → Prop} {ex : Str → List (Str × D) → Nat → Prop} (h1 : 1 ≤ n) (h12 : n ≤ 12) (hx : xs.length ≤ 1000) (hd : ∀ d ∈ xs, DoorOf n d) (hl : ∀ e ∈ xs.map endsD, e.1 < n ∧ e.2 < n)
    (ha : ApartIs (xs.map endsD) n o) (hp : post (.fz (apD o)) T) : G_la2 (endsOf post ex) (laSt n xs T (startB n) none none none none) := by
  have hlen : ∀ k, (iterB (xs.map endsD) k (startB n)).length = n := fun k => by rw [iterB_len, startB_len]
  refine gFor_inv (fun i s => ∃ v3 v4 v5 v6, s = laSt n xs T (iterB (xs.map endsD) i (startB n)) v3 v4 v5 v6) (rangeD 0 n) (fun P h => ⟨by omega, by omega, h _ ⟨_, _, _, _, rfl⟩⟩) ?_ ?_
  · rintro i d s hi ⟨v3, v4, v5, v6, rfl⟩ R hR
    show gFor _ _ _ _ (laSt n xs T (iterB (xs.map endsD) i (startB n)) (some (.fz d)) v4 v5 v6)
    refine gFor_inv (fun j s => ∃ v3 v4 v5 v6, s = laSt n xs T (passB ((xs.map endsD).take j) (iterB (xs.map endsD) i (startB n))) v3 v4 v5 v6) xs (fun P h => ⟨xs, rfl, h _ ⟨_, _, _, _, rfl⟩⟩) ?_ ?_
    · rintro j d s hj ⟨v3, v4, v5, v6, rfl⟩ R2 hR2
      obtain ⟨a, b, x, y, rfl, la, lb⟩ := (hd d (get_mem hj)).ex
      have hnext : passB ((xs.map endsD).take (j + 1)) (iterB (xs.map endsD) i (startB n)) = setB (passB ((xs.map endsD).take j) (iterB (xs.map endsD) i (startB n))) (a, b) := by
        have : (xs.map endsD)[j]? = some (a, b) := by rw [List.getElem?_map, hj]; rfl
        rw [take_succ_get this, passB, List.foldl_append]
        rfl
      have hbl : (passB ((xs.map endsD).take j) (iterB (xs.map endsD) i (startB n))).length = n := by rw [← (passB_le _ _).1, hlen]
      have hR3 : ∀ v3 v4 v5 v6, R2 (laSt n xs T (setB (passB ((xs.map endsD).take j) (iterB (xs.map endsD) i (startB n))) (a, b)) v3 v4 v5 v6) := fun v3 v4 v5 v6 => hR2 _ ⟨v3, v4, v5, v6, by rw [hnext]⟩
      exact ⟨rfl, la_step hbl la lb hR3⟩
    · rintro s ⟨v3, v4, v5, v6, rfl⟩
      refine hR _ ⟨v3, v4, v5, v6, ?_⟩
      rw [show ((xs.map endsD).take xs.length) = xs.map endsD from by rw [← List.length_map (f := endsD), List.take_length]]
      rfl
  · rintro s ⟨v3, v4, v5, v6, rfl⟩
    rw [rangeD_len]
    have hr := reached (es := xs.map endsD) h1 hl
    have hln := hlen n
    generalize iterB (xs.map endsD) n (startB n) = bs at hr hln ⊢
    refine ⟨bs, bls_map' bs, ?_⟩
    cases q : bs.all id with
    | true =>
      cases o with
      | none => exact hp
      | some k =>
        refine absurd ((hr k).mp ?_).1 ha.2.1
        rw [List.getD_eq_getElem?_getD, List.getElem?_eq_getElem (by rw [hln]; exact ha.1)]
        exact List.all_eq_true.mp q _ (List.getElem_mem _)
    | false =>
      have ex1 : ∃ k, k < n ∧ bs.getD k false = false := by
        obtain ⟨b, hb, e⟩ := List.all_eq_false.mp q
        obtain ⟨k, hk, e2⟩ := List.mem_iff_getElem.mp hb
        refine ⟨k, by rw [← hln]; exact hk, ?_⟩
        rw [List.getD_eq_getElem?_getD, List.getElem?_eq_getElem hk, e2]
        simpa using e
      cases o with
      | none =>
        obtain ⟨k, hk, e⟩ := ex1
        have := (hr k).mpr ⟨ha k hk, hk⟩
        rw [e] at this
        cases this
      | some k =>
        have hk : k < bs.length := by rw [hln]; exact ha.1
        have ek : bs.getD k false = false := by
          cases z : bs.getD k false with
          | false => rfl
          | true => exact absurd ((hr k).mp z).1 ha.2.1
        refine ⟨rfl, blsD bs, rfl, rfl, by simp [blsD, DL.flatB], k, .bl (bs.getD k false), ?_, by rw [ek]; rfl, fun m z' hm hz => ?_, hp⟩
        · unfold blsD
          rw [List.getElem?_map, List.getD_eq_getElem?_getD, List.getElem?_eq_getElem hk]
          rfl
        · unfold blsD at hz
          rw [List.getElem?_map, List.getElem?_eq_getElem (by omega)] at hz
          cases hz
          have := (hr m).mpr ⟨ha.2.2 m hm, by omega⟩
          rw [List.getD_eq_getElem?_getD, List.getElem?_eq_getElem (by omega)] at this
          rw [show bs[m] = true from this]
          rfl
theorem m__least_apart : ∀ (ds : List D) T post ex, ds.length = 2 → S__least_apart ds T post ex → G__least_apart (endsOf post ex) (startD 7 ds T) := by
  rintro ds T post ex _ ⟨n, xs, o, rfl, h1, h12, hx, hd, ha, hp⟩
  have hl : ∀ e ∈ xs.map endsD, e.1 < n ∧ e.2 < n := fun e he => by
    obtain ⟨d, hm, rfl⟩ := List.mem_map.mp he
    obtain ⟨a, b, x, y, rfl, ha, hb⟩ := (hd d hm).ex
    exact ⟨by simpa [endsD, intOf] using ha, by simpa [endsD, intOf] using hb⟩
  have key : dLc [6] (iRng1D (dVar 0)) (tgN 6) tAll (dOp dEq (dVar 6) (dC (.int 0))) (startD 7 [.int n, .tup xs] T) (fun d s1 => G_la2 (endsOf post ex) (s1.put 2 (.ow d))) (endsOf post ex).ex := by
    refine lc_map (s0 := startD 7 [.int n, .tup xs] T) laG (rangeD 0 n) (by rw [rangeD_len]; omega) (fun Q h => ⟨by omega, by omega, h _ rfl⟩) rfl (fun d hm R hR => ?_) ?_
    · obtain ⟨i, hi, e⟩ := List.mem_iff_getElem.mp hm
      obtain ⟨rfl, _⟩ := rangeD_get (by rw [List.getElem?_eq_getElem hi, e])
      refine ⟨rfl, rfl, ?_⟩
      rw [eqv_int]
      exact hR _ rfl
    · rw [laG_map]
      exact m_la2 h1 h12 hx hd hl ha hp
  exact key
end Law


set_option Elab.async false
set_option linter.all false
set_option maxRecDepth 100000
set_option maxHeartbeats 4000000
namespace DL
open PySem L2
/-! ### what may be compared: plain data of small depth -/
mutual
def okN : Nat → D → Bool
  | _, .non => true | _, .bl _ => true | _, .int _ => true | _, .str x => PyData.strOk x
  | n + 1, .tup ds => okNs n ds
  | n + 1, .lst ds => okNs n ds
  | _, _ => false
def okNs : Nat → List D → Bool
  | _, [] => true
  | n, d :: ds => okN n d && okNs n ds
end
theorem okNs_iff {n : Nat} : ∀ {ds : List D}, okNs n ds = true ↔ ∀ d ∈ ds, okN n d = true
  | [] => by simp [okNs]
  | d :: ds => by simp [okNs, okNs_iff (ds := ds)]
mutual
theorem okN_ok : ∀ {n : Nat} {d : D}, okN n d = true → flatD d = true ∧ PyData.canLay0 (py d) = true ∧ PyData.depth (py d) ≤ n
  | _, .non, _ => by simp [flatD, py, PyData.canLay0, PyData.depth]
  | _, .bl _, _ => by simp [flatD, py, PyData.canLay0, PyData.depth]
  | _, .int _, _ => by simp [flatD, py, PyData.canLay0, PyData.depth]
  | _, .str x, h => by
    unfold okN at h
    simp [flatD, py, PyData.canLay0, PyData.depth, h]
  | 0, .tup _, h => by unfold okN at h; cases h
  | 0, .lst _, h => by unfold okN at h; cases h
  | n + 1, .tup ds, h => by
    unfold okN at h
    obtain ⟨h1, h2, h3⟩ := okNs_ok h
    refine ⟨by unfold flatD; exact h1, by unfold py PyData.canLay0; exact h2, ?_⟩
    unfold py PyData.depth
    omega
  | n + 1, .lst ds, h => by
    unfold okN at h
    obtain ⟨h1, h2, h3⟩ := okNs_ok h
    refine ⟨by unfold flatD; exact h1, by unfold py PyData.canLay0; exact h2, ?_⟩
    unfold py PyData.depth
    omega
  | _, .dic _, h => by unfold okN at h; cases h
  | _, .obj _ _, h => by unfold okN at h; cases h
  | _, .exc _ _, h => by unfold okN at h; cases h
  | _, .st, h => by unfold okN at h; cases h
  | _, .scr _, h => by unfold okN at h; cases h
  | _, .dtp _, h => by unfold okN at h; cases h
  | _, .fn _, h => by unfold okN at h; cases h
theorem okNs_ok : ∀ {n : Nat} {ds : List D}, okNs n ds = true → flatDs ds = true ∧ PyData.canLayAll0 (pyL ds) = true ∧ PyData.depthAll (pyL ds) ≤ n
  | _, [], _ => by simp [flatDs, pyL, PyData.canLayAll0, PyData.depthAll]
  | n, d :: ds, h => by
    unfold okNs at h
    obtain ⟨a, b⟩ := Bool.and_eq_true_iff.mp h
    obtain ⟨h1, h2, h3⟩ := okN_ok a
    obtain ⟨g1, g2, g3⟩ := okNs_ok b
    refine ⟨by unfold flatDs; rw [h1, g1]; rfl, by unfold pyL PyData.canLayAll0; rw [h2, g2]; rfl, ?_⟩
    unfold pyL PyData.depthAll
    omega
end
theorem okD_of {n : Nat} {d : D} (h : okN n d = true) (hn : n ≤ 64 := by decide) : okD d = true := by
  obtain ⟨h1, h2, h3⟩ := okN_ok h
  unfold okD SeqAt.shaped
  rw [h1, h2, decide_eq_true (by omega)]
  rfl
end DL


set_option Elab.async false
set_option linter.all false
set_option maxRecDepth 100000
set_option maxHeartbeats 4000000
namespace Law
open PySem L2 DL
variable [Tb]
/-! ### drawing -/
abbrev TM : Nat := 1099511627776
def seqIs (d : D) (xs : List D) : Prop := d = .lst xs ∨ d = .tup xs
def S__law_pick : PF := fun ds T post _ => ∃ d xs, ds = [.st, d] ∧ seqIs d xs ∧ 0 < xs.length ∧ xs.length ≤ 100000 ∧ T < TM ∧ ∀ x ∈ xs, post (.fz x) (T + 1)
def sizeOk (z : Int) : Prop := z ≠ 0 ∧ -999 ≤ z ∧ z ≤ 999
def S__law_size : PF := fun ds T post _ => ds = [.st] ∧ T + 1 < TM ∧ ∀ z, sizeOk z → post (.fz (.int z)) (T + 2)
def S__law_mixed : PF := fun ds T post _ => ∃ xs, ds = [.st, .lst xs] ∧ xs.length ≤ 10000 ∧ (∀ x ∈ xs, okN 8 x = true) ∧ T + xs.length ≤ TM ∧ ∀ ys, ys.Perm xs → post (.fz (.lst ys)) (T + xs.length)
def G__law_pick : DG := (gRet (dIxV 1 (dCall S__law_draw 2 (aCons (dVar 0) (aCons (dCB cLen (aCons (dVar 1) aNil)) aNil)))))
def G__law_mixed : DG := (gSeq (gParOO 2 3 (dListO (dVar 1)) (dLst aNil))
    (gSeq (gWhile (dEmptyT 2 true) (gApp 3 (dPopAt 2 (dCall S__law_draw 2 (aCons (dVar 0) (aCons (dLenV 2) aNil))))))
    (gRet (dVar 3))))
def G__law_size : DG := (gSeq (gSet 1 (dCall S__law_pick 2 (aCons (dVar 0) (aCons (dLst (aCons (dC (.int 2)) (aCons (dC (.int 3)) (aCons (dC (.int 1)) (aCons (dC (.int 4)) (aCons (dC (.int 6)) (aCons (dC (.int 2)) (aCons (dC (.int 1)) (aCons (dC (.int 3)) (aCons (dC (.int 5)) (aCons (dC (.int 8)) (aCons (dC (.int 9)) (aCons (dC (.int 12)) aNil))))))))))))) aNil))))
    (gRet (dOp dMul (dVar 1) (dCall S__law_pick 2 (aCons (dVar 0) (aCons (dLst (aCons (dC (.int 1)) (aCons (dC (.int 1)) (aCons (dC (.int 1)) (aCons (dNeg (dC (.int 1))) aNil))))) aNil))))))
theorem atI_of {xs : List D} {r : Int} (h0 : 0 ≤ r) (h : r < xs.length) : ∃ d, atI xs r = some d ∧ d ∈ xs ∧ xs[r.toNat]? = some d := by
  have hl : r.toNat < xs.length := by omega
  refine ⟨xs[r.toNat], ?_, List.getElem_mem _, List.getElem?_eq_getElem hl⟩
  unfold atI
  rw [ixN_of h0 h]
  exact List.getElem?_eq_getElem hl
theorem m__law_pick : ∀ (ds : List D) T post ex, ds.length = 2 → S__law_pick ds T post ex → G__law_pick (endsOf post ex) (startD 2 ds T) := by
  rintro ds T post ex _ ⟨d, xs, rfl, hs, h0, hl, hT, hp⟩
  have fin : ∀ r : Int, 0 ≤ r → r < xs.length → ∃ d, atI xs r = some d ∧ post (.fz d) (T + 1) := fun r r0 r1 => by
    obtain ⟨d, e, m, _⟩ := atI_of r0 r1
    exact ⟨d, e, hp d m⟩
  rcases hs with rfl | rfl
  · exact ⟨trivial, rfl, xs.length, rfl, by omega, by omega, hT, fun r r0 r1 => fin r r0 r1⟩
  · exact ⟨trivial, rfl, xs.length, rfl, by omega, by omega, hT, fun r r0 r1 => fin r r0 r1⟩
theorem m__law_size : ∀ (ds : List D) T post ex, ds.length = 1 → S__law_size ds T post ex → G__law_size (endsOf post ex) (startD 2 ds T) := by
  rintro ds T post ex _ ⟨rfl, hT, hp⟩
  refine ⟨by decide, rfl, _, _, rfl, .inl rfl, by decide, by decide, (show T < TM from by omega), fun x hx => ?_⟩
  have hx : ∃ z : Int, x = .int z ∧ 1 ≤ z ∧ z ≤ 12 := by
    simp only [List.mem_cons, List.not_mem_nil, or_false] at hx
    rcases hx with rfl | rfl | rfl | rfl | rfl | rfl | rfl | rfl | rfl | rfl | rfl | rfl <;> exact ⟨_, rfl, by decide, by decide⟩
  obtain ⟨z, rfl, z1, z2⟩ := hx
  refine ⟨by decide, rfl, _, _, rfl, .inl rfl, by decide, by decide, (by show T + 1 < TM; omega), fun y hy => ?_⟩
  have hy : ∃ w : Int, y = .int w ∧ (w = 1 ∨ w = -1) := by
    simp only [List.mem_cons, List.not_mem_nil, or_false] at hy
    rcases hy with rfl | rfl | rfl | rfl
    · exact ⟨_, rfl, .inl rfl⟩
    · exact ⟨_, rfl, .inl rfl⟩
    · exact ⟨_, rfl, .inl rfl⟩
    · exact ⟨_, rfl, .inr rfl⟩
  obtain ⟨w, rfl, hw⟩ := hy
  refine ⟨.inl ⟨by omega, by omega⟩, hp (z * w) ?_⟩
  rcases hw with rfl | rfl
  · exact ⟨by omega, by omega, by omega⟩
  · exact ⟨by omega, by omega, by omega⟩
def mxSt (xs left found : List D) (T : Nat) : DS := ⟨[some (.fz .st), some (.fz (.lst xs)), some (.ow (.lst left)), some (.ow (.lst found))], T⟩
theorem perm_erase {α : Type} {l : List α} {i : Nat} {y : α} (h : l[i]? = some y) : (y :: l.eraseIdx i).Perm l := by
  induction l generalizing i with
  | nil => cases h
  | cons a l ih =>
    cases i with
    | zero => cases h; exact List.Perm.refl _
    | succ i => exact (List.Perm.swap _ _ _).trans ((ih h).cons a)
theorem m__law_mixed : ∀ (ds : List D) T post ex, ds.length = 2 → S__law_mixed ds T post ex → G__law_mixed (endsOf post ex) (startD 4 ds T) := by
  rintro ds T post ex _ ⟨xs, rfl, hl, hok, hT, hp⟩
  refine ⟨by decide, ?_⟩
  show gWhile _ _ _ (mxSt xs xs [] T)
  refine gWhile_inv (m := xs.length) (fun m s => ∃ left found, s = mxSt xs left found (T + found.length) ∧ left.length = m ∧ (found ++ left).Perm xs) ⟨xs, [], rfl, rfl, List.Perm.refl _⟩ ?_
  rintro m s ⟨left, found, rfl, rfl, hP⟩ R hR
  have hlen : found.length + left.length = xs.length := by rw [← hP.length_eq, List.length_append]
  have hokl : ∀ x ∈ left, okN 8 x = true := fun x hx => hok x (hP.mem_iff.mp (List.mem_append_right _ hx))
  refine ⟨okD_of (n := 9) (by unfold okN; exact okNs_iff.mpr hokl), ?_⟩
  cases left with
  | nil =>
    have h2 := hp found (by simpa using hP)
    have e : found.length = xs.length := by simpa using hlen
    show post (.fz (.lst found)) (T + found.length)
    rw [e]
    exact h2
  | cons a l =>
    have hz : (a :: l).length ≤ xs.length := by omega
    refine ⟨rfl, (a :: l).length, rfl, by simp, by omega, ?_, fun r r0 r1 => ⟨r0, r1, by omega, fun y hy => ⟨?_, hR ((a :: l).eraseIdx r.toNat).length _ ?_ ⟨(a :: l).eraseIdx r.toNat, found ++ [y], ?_, rfl, ?_⟩⟩⟩⟩
    · show T + found.length < 1099511627776
      have : (a :: l).length = l.length + 1 := rfl
      have e : TM = 1099511627776 := rfl
      omega
    · omega
    · have hr : r.toNat < (a :: l).length := by omega
      rw [List.length_eraseIdx_of_lt hr]
      have : (a :: l).length = l.length + 1 := rfl
      omega
    · show mxSt xs ((a :: l).eraseIdx r.toNat) (found ++ [y]) (T + found.length + 1) = _
      rw [List.length_append]
      rfl
    · have p1 := perm_erase hy
      have p2 : (found ++ [y] ++ (a :: l).eraseIdx r.toNat).Perm (found ++ (y :: (a :: l).eraseIdx r.toNat)) := by rw [List.append_assoc]; exact List.Perm.refl _
      exact (p2.trans (p1.append_left found)).trans hP
end Law


set_option Elab.async false
set_option linter.all false
set_option maxRecDepth 100000
set_option maxHeartbeats 4000000
namespace Law
open PySem L2 DL
variable [Tb]
/-! ### doors drawn -/
structure DoorIs (n : Nat) (d : D) : Prop where
  ex : ∃ (a b : Nat) (x y : Int), d = .tup [.int a, .int x, .int b, .int y] ∧ a < n ∧ b < n ∧ sizeOk x ∧ sizeOk y
theorem DoorIs.of {n : Nat} {d : D} (h : DoorIs n d) : DoorOf n d := by
  obtain ⟨a, b, x, y, e, ha, hb, _, _⟩ := h.ex
  exact ⟨a, b, .int x, .int y, e, ha, hb⟩
theorem DoorIs.ok {n : Nat} {d : D} (h : DoorIs n d) : okN 8 d = true := by
  obtain ⟨a, b, x, y, rfl, _⟩ := h.ex
  rfl
theorem Reach.mono {es fs : List (Nat × Nat)} (h : ∀ e ∈ es, e ∈ fs ∨ (e.2, e.1) ∈ fs) {i : Nat} (r : Reach es i) : Reach fs i := by
  induction r with
  | zero => exact .zero
  | fwd m _ ih =>
    rcases h _ m with q | q
    · exact .fwd q ih
    · exact .bwd q ih
  | bwd m _ ih =>
    rcases h _ m with q | q
    · exact .bwd q ih
    · exact .fwd q ih
def S__law_doors : PF := fun ds T post _ => ∃ n m : Nat, ds = [.st, .int n, .int m] ∧ 1 ≤ n ∧ n ≤ 1000 ∧ m ≤ 1000 ∧ T + 100000 ≤ TM ∧
  ∀ xs T', (∀ d ∈ xs, DoorIs n d) → xs.length ≤ n - 1 + m → (∀ i, i < n → Reach (xs.map endsD) i) → T ≤ T' → T' ≤ T + 20 * (n + m) → post (.fz (.tup xs)) T'
def G__law_doors : DG := (gSeq (gSetO 3 (dLst aNil))
    (gSeq (gFor (iRng2D (dC (.int 1)) (dVar 1)) (tgN 4) (gApp 3 (dTup (aCons (dCall S__law_draw 2 (aCons (dVar 0) (aCons (dVar 4) aNil))) (aCons (dCall S__law_size 1 (aCons (dVar 0) aNil)) (aCons (dVar 4) (aCons (dCall S__law_size 1 (aCons (dVar 0) aNil)) aNil)))))))
    (gSeq (gFor (iRng1D (dCall S__law_draw 2 (aCons (dVar 0) (aCons (dOp dAdd (dVar 2) (dC (.int 1))) aNil)))) (tgN 5) (gSeq (gPar 6 7 (aCons (dCall S__law_draw 2 (aCons (dVar 0) (aCons (dVar 1) aNil))) (aCons (dCall S__law_draw 2 (aCons (dVar 0) (aCons (dVar 1) aNil))) aNil)))
    (gApp 3 (dTup (aCons (dVar 6) (aCons (dCall S__law_size 1 (aCons (dVar 0) aNil)) (aCons (dVar 7) (aCons (dCall S__law_size 1 (aCons (dVar 0) aNil)) aNil))))))))
    (gSeq (gSetO 3 (dLc [8] (iSeq (dVar 3)) (tgN 8) tAll (dIfE (dTest (dOp dEq (dCall S__law_draw 2 (aCons (dVar 0) (aCons (dC (.int 2)) aNil))) (dC (.int 0)))) (dVar 8) (dTup (aCons (dIxV 8 (dC (.int 2))) (aCons (dIxV 8 (dC (.int 3))) (aCons (dIxV 8 (dC (.int 0))) (aCons (dIxV 8 (dC (.int 1))) aNil))))))))
    (gRet (dCB cTuple (aCons (dCall S__law_mixed 2 (aCons (dVar 0) (aCons (dVar 3) aNil))) aNil)))))))
def drSt (n m : Nat) (xs : List D) (v4 v5 v6 v7 : Option Sl) (T : Nat) : DS := ⟨[some (.fz .st), some (.fz (.int n)), some (.fz (.int m)), some (.ow (.lst xs)), v4, v5, v6, v7, none], T⟩
/-- the last two statements -/
def G_dr4 : DG := (gRet (dCB cTuple (aCons (dCall S__law_mixed 2 (aCons (dVar 0) (aCons (dVar 3) aNil))) aNil)))
def F_dr3 : DF := dIfE (dTest (dOp dEq (dCall S__law_draw 2 (aCons (dVar 0) (aCons (dC (.int 2)) aNil))) (dC (.int 0)))) (dVar 8) (dTup (aCons (dIxV 8 (dC (.int 2))) (aCons (dIxV 8 (dC (.int 3))) (aCons (dIxV 8 (dC (.int 0))) (aCons (dIxV 8 (dC (.int 1))) aNil)))))
def G_dr3 : DG := gSeq (gSetO 3 (dLc [8] (iSeq (dVar 3)) (tgN 8) tAll F_dr3)) G_dr4
theorem m_dr3 {n m : Nat} {xs : List D} {v4 v5 v6 v7 : Option Sl} {T1 : Nat} {post : Sl → Nat → Prop} {ex : Str → List (Str × D) → Nat → Prop} (hd : ∀ d ∈ xs, DoorIs n d) (hl : xs.length ≤ 2000) (hr : ∀ i, i < n → Reach (xs.map endsD) i) (hT : T1 + 2 * xs.length ≤ TM)
    (hp : ∀ ys T', (∀ d ∈ ys, DoorIs n d) → ys.length = xs.length → (∀ i, i < n → Reach (ys.map endsD) i) → T' = T1 + 2 * xs.length → post (.fz (.tup ys)) T') : G_dr3 (endsOf post ex) (drSt n m xs v4 v5 v6 v7 T1) := by
  have key : dLc [8] (iSeq (dVar 3)) (tgN 8) tAll F_dr3 (drSt n m xs v4 v5 v6 v7 T1) (fun d s1 => G_dr4 (endsOf post ex) (s1.put 3 (.ow d))) (endsOf post ex).ex := by
    refine dLc_inv (fun i acc s => s = ⟨[some (.fz .st), some (.fz (.int n)), some (.fz (.int m)), some (.fz (.lst xs)), v4, v5, v6, v7, none], T1 + i⟩ ∧ acc.length = i ∧ (∀ d ∈ acc, DoorIs n d) ∧ ∀ e ∈ (xs.take i).map endsD, e ∈ acc.map endsD ∨ (e.2, e.1) ∈ acc.map endsD) xs (fun Q h => ⟨xs, rfl, h _ ⟨rfl, rfl, fun d h => absurd h (by simp), fun e h => absurd h (by simp)⟩⟩) ?_ ?_
    · rintro i d acc s hi ⟨rfl, ha, hdd, he⟩ R hR
      obtain ⟨a, b, x, y, rfl, la, lb, sx, sy⟩ := (hd d (get_mem hi)).ex
      have hil := get_lt hi
      have e1 : endsD (.tup [.int a, .int x, .int b, .int y]) = (a, b) := rfl
      have e2 : endsD (.tup [.int b, .int y, .int a, .int x]) = (b, a) := rfl
      refine ⟨rfl, 2, rfl, by decide, by decide, (show T1 + i < TM from by omega), fun r r0 r1 => ⟨rfl, rfl, ?_⟩⟩
      show (if (PyData.eqv (py (.int r)) (py (.int 0))) = true then _ else _)
      rw [eqv_int]
      by_cases hr0 : r = 0
      · rw [decide_eq_true hr0, if_pos rfl]
        refine ⟨by omega, hR _ _ ⟨rfl, by rw [List.length_append, ha]; rfl, fun d h => ?_, fun e h => ?_⟩⟩
        · rcases List.mem_append.mp h with h | h
          · exact hdd d h
          · rw [List.mem_singleton.mp h]; exact ⟨a, b, x, y, rfl, la, lb, sx, sy⟩
        · rw [take_succ_get hi, List.map_append] at h
          rw [List.map_append]
          rcases List.mem_append.mp h with h | h
          · rcases he e h with q | q
            · exact .inl (List.mem_append_left _ q)
            · exact .inr (List.mem_append_left _ q)
          · exact .inl (List.mem_append_right _ h)
      · rw [decide_eq_false hr0, if_neg (by simp)]
        refine ⟨trivial, .int b, rfl, trivial, .int y, rfl, trivial, .int a, rfl, trivial, .int x, rfl, (by show 4 ≤ 100000; decide), by omega, hR _ _ ⟨rfl, by rw [List.length_append, ha]; rfl, fun d h => ?_, fun e h => ?_⟩⟩
        · rcases List.mem_append.mp h with h | h
          · exact hdd d h
          · rw [List.mem_singleton.mp h]; exact ⟨b, a, y, x, rfl, lb, la, sy, sx⟩
        · rw [take_succ_get hi, List.map_append] at h
          rw [List.map_append]
          rcases List.mem_append.mp h with h | h
          · rcases he e h with q | q
            · exact .inl (List.mem_append_left _ q)
            · exact .inr (List.mem_append_left _ q)
          · rw [List.map_singleton, List.mem_singleton] at h
            subst h
            exact .inr (List.mem_append_right _ (by simp [e1, e2]))
    · rintro acc s ⟨rfl, ha, hdd, he⟩
      refine ⟨rfl, acc, rfl, by omega, fun x hx => (hdd x hx).ok, (show T1 + xs.length + acc.length ≤ TM from by omega), fun ys hy => ?_⟩
      refine hp ys _ (fun d h => hdd d (hy.mem_iff.mp h)) (by rw [hy.length_eq, ha]) (fun i hi => ?_) (by show T1 + xs.length + acc.length = _; omega)
      refine Reach.mono (fun e h => ?_) (hr i hi)
      rw [List.take_length] at he
      have pm := hy.map endsD
      rcases he e h with q | q
      · exact .inl (pm.mem_iff.mpr q)
      · exact .inr (pm.mem_iff.mpr q)
  exact key

/-- one door more -/
theorem dr_app {n : Nat} {xs : List D} {a b : Nat} {x y : Int} (hd : ∀ d ∈ xs, DoorIs n d) (ha : a < n) (hb : b < n) (hx : sizeOk x) (hy : sizeOk y) : ∀ d ∈ xs ++ [D.tup [.int a, .int x, .int b, .int y]], DoorIs n d := fun d h => by
  rcases List.mem_append.mp h with h | h
  · exact hd d h
  · rw [List.mem_singleton.mp h]; exact ⟨a, b, x, y, rfl, ha, hb, hx, hy⟩
theorem reach_app {xs : List D} {d : D} {i : Nat} (r : Reach (xs.map endsD) i) : Reach ((xs ++ [d]).map endsD) i := r.mono fun e h => .inl (by rw [List.map_append]; exact List.mem_append_left _ h)
def G_dr2 : DG := gSeq (gFor (iRng1D (dCall S__law_draw 2 (aCons (dVar 0) (aCons (dOp dAdd (dVar 2) (dC (.int 1))) aNil)))) (tgN 5) (gSeq (gPar 6 7 (aCons (dCall S__law_draw 2 (aCons (dVar 0) (aCons (dVar 1) aNil))) (aCons (dCall S__law_draw 2 (aCons (dVar 0) (aCons (dVar 1) aNil))) aNil)))
    (gApp 3 (dTup (aCons (dVar 6) (aCons (dCall S__law_size 1 (aCons (dVar 0) aNil)) (aCons (dVar 7) (aCons (dCall S__law_size 1 (aCons (dVar 0) aNil)) aNil)))))))) G_dr3
theorem m_dr2 {n m : Nat} {xs : List D} {v4 v5 v6 v7 : Option Sl} {T T1 : Nat} {post : Sl → Nat → Prop} {ex : Str → List (Str × D) → Nat → Prop} (h1 : 1 ≤ n) (hn : n ≤ 1000) (hm : m ≤ 1000) (hd : ∀ d ∈ xs, DoorIs n d) (hl : xs.length = n - 1) (hr : ∀ i, i < n → Reach (xs.map endsD) i)
    (hT : T + 100000 ≤ TM) (hT1 : T1 = T + 5 * (n - 1)) (hp : ∀ ys T', (∀ d ∈ ys, DoorIs n d) → ys.length ≤ n - 1 + m → (∀ i, i < n → Reach (ys.map endsD) i) → T ≤ T' → T' ≤ T + 20 * (n + m) → post (.fz (.tup ys)) T') : G_dr2 (endsOf post ex) (drSt n m xs v4 v5 v6 v7 T1) := by
  refine ⟨rfl, m + 1, rfl, by omega, by omega, (show T1 < TM from by omega), fun r r0 r1 => ⟨by omega, by omega, ?_⟩⟩
  have hk : r.toNat ≤ m := by omega
  refine forD_inv (fun i s => ∃ ys v4 v5 v6 v7, s = drSt n m ys v4 v5 v6 v7 (T1 + 1 + 6 * i) ∧ (∀ d ∈ ys, DoorIs n d) ∧ ys.length = n - 1 + i ∧ ∀ j, j < n → Reach (ys.map endsD) j) (rangeD 0 r.toNat) 0 _ ?_ ⟨xs, v4, v5, v6, v7, rfl, hd, by omega, hr⟩ ?_
  · rintro i d s hi ⟨ys, v4, v5, v6, v7, rfl, hd, hl, hr⟩ R hR
    have hi2 := (rangeD_get hi).2
    rw [Nat.zero_add] at hl hR
    show gSeq _ _ _ (drSt n m ys v4 (some (.fz d)) v6 v7 (T1 + 1 + 6 * (0 + i)))
    rw [Nat.zero_add]
    refine ⟨rfl, n, rfl, by omega, by omega, (show T1 + 1 + 6 * i < TM from by omega), fun a a0 a1 => ?_⟩
    refine ⟨rfl, n, rfl, by omega, by omega, (show T1 + 1 + 6 * i + 1 < TM from by omega), fun b b0 b1 => ?_⟩
    refine ⟨rfl, rfl, (show T1 + 1 + 6 * i + 2 + 1 < TM from by omega), fun x hx => ?_⟩
    refine ⟨rfl, rfl, (show T1 + 1 + 6 * i + 4 + 1 < TM from by omega), fun y hy => ?_⟩
    refine ⟨by show 4 ≤ 100000; decide, (show ys.length < 100000 from by omega), ?_⟩
    obtain ⟨a, rfl⟩ := Int.eq_ofNat_of_zero_le a0
    obtain ⟨b, rfl⟩ := Int.eq_ofNat_of_zero_le b0
    exact hR _ ⟨ys ++ [.tup [.int a, .int x, .int b, .int y]], v4, some (.fz d), some (.fz (.int a)), some (.fz (.int b)), by rw [show T1 + 1 + 6 * (i + 1) = T1 + 1 + 6 * i + 2 + 2 + 2 from by omega]; rfl, dr_app hd (by omega) (by omega) hx hy, by rw [List.length_append, hl]; simp; omega, fun j hj => reach_app (hr j hj)⟩
  · rintro s ⟨ys, v4, v5, v6, v7, rfl, hd, hl, hr⟩
    rw [rangeD_len, Nat.zero_add] at hl
    rw [rangeD_len]
    refine m_dr3 hd (by omega) hr (by omega) fun zs T' q1 q2 q3 q4 => hp zs T' q1 (by omega) q3 (by omega) (by omega)
theorem m__law_doors : ∀ (ds : List D) T post ex, ds.length = 3 → S__law_doors ds T post ex → G__law_doors (endsOf post ex) (startD 9 ds T) := by
  rintro ds T post ex _ ⟨n, m, rfl, h1, hn, hm, hT, hp⟩
  refine ⟨by decide, ⟨by decide, by decide, by omega, by omega⟩, ?_⟩
  have e : ((n : Int) - 1).toNat = n - 1 := by omega
  have key : forD (tgN 4) (gApp 3 (dTup (aCons (dCall S__law_draw 2 (aCons (dVar 0) (aCons (dVar 4) aNil))) (aCons (dCall S__law_size 1 (aCons (dVar 0) aNil)) (aCons (dVar 4) (aCons (dCall S__law_size 1 (aCons (dVar 0) aNil)) aNil)))))) (rangeD 1 ((n : Int) - 1).toNat) { endsOf post ex with nx := G_dr2 (endsOf post ex) } (drSt n m [] none none none none T) := by
    rw [e]
    refine forD_inv (fun i s => ∃ ys v4 v5 v6 v7, s = drSt n m ys v4 v5 v6 v7 (T + 5 * i) ∧ (∀ d ∈ ys, DoorIs n d) ∧ ys.length = i ∧ ∀ j, j < i + 1 → Reach (ys.map endsD) j) (rangeD 1 (n - 1)) 0 _ ?_ ⟨[], _, _, _, _, rfl, fun d h => absurd h (by simp), rfl, fun j hj => by rw [show j = 0 from by omega]; exact .zero⟩ ?_
    · rintro i d s hi ⟨ys, v4, v5, v6, v7, rfl, hd, hl, hr⟩ R hR
      obtain ⟨rfl, hi2⟩ := rangeD_get hi
      rw [Nat.zero_add] at hl hR hr
      have hroom : (1 : Int) + (i : Int) = ((1 + i : Nat) : Int) := by omega
      rw [hroom]
      rw [Nat.zero_add]
      refine ⟨rfl, _, rfl, by omega, by omega, (show T + 5 * i < TM from by omega), fun a a0 a1 => ?_⟩
      refine ⟨rfl, rfl, (show T + 5 * i + 1 + 1 < TM from by omega), fun x hx => ?_⟩
      refine ⟨rfl, rfl, (show T + 5 * i + 3 + 1 < TM from by omega), fun y hy => ?_⟩
      refine ⟨by show 4 ≤ 100000; decide, (show ys.length < 100000 from by omega), ?_⟩
      obtain ⟨a, rfl⟩ := Int.eq_ofNat_of_zero_le a0
      refine hR _ ⟨ys ++ [.tup [.int a, .int x, .int ((1 + i : Nat) : Int), .int y]], _, v5, v6, v7, by rw [show T + 5 * (i + 1) = T + 5 * i + 1 + 2 + 2 from by omega]; rfl, dr_app hd (by omega) (by omega) hx hy, by rw [List.length_append, hl]; rfl, fun j hj => ?_⟩
      by_cases q : j < i + 1
      · exact reach_app (hr j q)
      · have ej : j = 1 + i := by omega
        subst ej
        refine .fwd (a := a) ?_ (reach_app (hr a (by omega)))
        rw [List.map_append]
        exact List.mem_append_right _ (by rw [List.map_singleton]; exact List.mem_singleton.mpr rfl)
    · rintro s ⟨ys, v4, v5, v6, v7, rfl, hd, hl, hr⟩
      rw [rangeD_len, Nat.zero_add] at hl hr
      rw [rangeD_len, Nat.zero_add]
      exact m_dr2 h1 hn hm hd hl (fun j hj => hr j (by omega)) hT rfl hp
  exact key
end Law


set_option Elab.async false
set_option linter.all false
set_option maxRecDepth 100000
set_option maxHeartbeats 4000000
namespace DL
open PySem L2
variable [Tb]
/-! ### the law's own frame -/
theorem scr_part {K : PySem.W.Frag} {H : Hp} {a : Addr} {xs : List V} (h : SqL K H a xs) : ∃ B : Hp, Le B H ∧ SqL K B a xs ∧ (∀ b ps, B b ≠ some (.tbl ps)) ∧ ∀ b, B b ≠ none → b = a := by
  rcases h with (h | ⟨o, h⟩) | h
  · refine ⟨fun b => if b = a then H a else none, fun b o e => ?_, .inl (.inl ?_), fun b ps e => ?_, fun b e => ?_⟩
    · dsimp only at e
      split at e
      · rename_i z; rw [z]; exact e
      · cases e
    · dsimp only; rw [if_pos rfl]; exact h
    · dsimp only at e
      split at e
      · rw [h] at e; cases e
      · cases e
    · refine Classical.byContradiction fun z => e ?_
      dsimp only
      rw [if_neg z]
  · refine ⟨fun b => if b = a then H a else none, fun b o e => ?_, .inl (.inr ⟨o, ?_⟩), fun b ps e => ?_, fun b e => ?_⟩
    · dsimp only at e
      split at e
      · rename_i z; rw [z]; exact e
      · cases e
    · dsimp only; rw [if_pos rfl]; exact h
    · dsimp only at e
      split at e
      · rw [h] at e; cases e
      · cases e
    · refine Classical.byContradiction fun z => e ?_
      dsimp only
      rw [if_neg z]
  · exact ⟨fun _ => none, fun b o e => (by cases e), .inr h, fun b ps e => (by cases e), fun b e => absurd rfl e⟩
theorem bs_none {K : PySem.W.Frag} {mg : Str → Option Value} {H B : Hp} {T : Nat} (le : Le B H) (nt : ∀ b ps, B b ≠ some (.tbl ps)) (ts : LamX.Tabs Tb.tb H) : Bs ⟨K, mg, ⟨none⟩⟩ H B H B T :=
  ⟨Le.refl B, fun a h1 h2 => absurd h1 h2, fun a o h _ _ => h, le, fun a h => absurd h (by simp [Ct.drs]), nt, fun a h => absurd h (by simp [Ct.drs]), fun a h => h, trivial, ts⟩
theorem bs_st {K : PySem.W.Frag} {mg : Str → Option Value} {H B : Hp} {T : Nat} {p g l : Addr} {gs ls : List Int} {left turn : Int} (S : StAt H p g l gs ls left turn) (hT : turn ≤ T) (le : Le B H) (hp : B p = none) (hg : B g = none) (hl : B l = none) (nt : ∀ b ps, B b ≠ some (.tbl ps)) (ts : LamX.Tabs Tb.tb H) :
    Bs ⟨K, mg, ⟨some (p, g, l)⟩⟩ H B H B T := by
  have dr : ∀ a ∈ (⟨K, mg, ⟨some (p, g, l)⟩⟩ : Ct).drs, a = p ∨ a = g ∨ a = l := fun a h => by simpa [Ct.drs] using h
  refine ⟨Le.refl B, fun a h1 h2 => absurd h1 h2, fun a o h _ _ => h, le, fun a h => ?_, nt, fun a h => ?_, fun a h => h, ?_, ts⟩
  · rcases dr a h with rfl | rfl | rfl
    · exact hp
    · exact hg
    · exact hl
  · rcases dr a h with rfl | rfl | rfl
    · exact nFr S.st fun ps z => by cases z
    · exact nFr S.gr fun ps z => by cases z
    · exact nFr S.ce fun ps z => by cases z
  · exact ⟨S.ag, S.al, S.gl, gs, ls, left, turn, S.st, S.gr, S.ce, S.g0, S.gn, S.l0, S.ln, S.left0, S.turn0, hT⟩
/-- what _law_begun promises -/
def spBegun (K : PySem.W.Frag) : Sp := fun vs H Q _ => ∃ (a : Addr) (ns : List Int), vs = [.ref a] ∧ SqL K H a (ns.map V.int) ∧ ns.length ≤ 63 ∧ LamX.Tabs Tb.tb H ∧
  ∀ (p g l : Addr) (gs ls : List Int) (H' : Hp), StAt H' p g l gs ls 0 0 → Fr H p → Fr H g → Fr H l → (∀ b o, H b = some o → (∀ ps, o ≠ .tbl ps) → H' b = some o) → LamX.Tabs Tb.tb H' → Q (.ref p) H'
section
variable {P : Program} {w : World} {K : PySem.W.Frag} {mg : Str → Option Value} {base : Heap}
end
end DL


set_option Elab.async false
set_option linter.all false
set_option maxRecDepth 100000
set_option maxHeartbeats 4000000
namespace DL
open PySem L2
/-! ### from the head's facts to known defs and classes -/
structure DefAt (K : PySem.W.Frag) (mg : Str → Option Value) (x : Str) (st : Stmt) (ps : List Str) : Prop where
  ex : ∃ f fd, Fun K x x st f fd ∧ mg x = some (.ref f) ∧ PySem.W.keepIn K (.ref f) = true ∧ Binds K fd ps []
section
variable {K : PySem.W.Frag} {h : Heap} {mg : Str → Option Value} {x : Str} {st : Stmt} {ps : List Str}
theorem defAt_of (X : K.In h) (G : h.Ns mainGlobals mg) (cg : (He.Fa.glo x).ok K = true) (Fd : ∃ fd, FunD K x x (defArgs st) (defBody st) (defScope st) [] [] (He.ga K x) fd)
    (hb : ∀ (kV doc pm : Value) (an : Option Addr) (cdv ct : Value) (us : List Value), us.length = ps.length → bindArgs (PySem.W.fnOf x x (defArgs st) (defBody st) (defScope st) .none kV doc pm an cdv ct) ⟨us, []⟩ = pure (ps.zip us)) : DefAt K mg x st ps := by
  obtain ⟨fd, F⟩ := Fd
  have F' := He5.fun_of F
  exact ⟨He.ga K x, fd, F', He.glo_ok X G cg, F'.kp, F'.binds hb⟩
variable {P : Program} {w : World} {base : Heap}
theorem DefAt.kn [Tb] {CX : CXT} {k : Nat} {S : PF} (D : DefAt K mg x st ps) (ok : ∀ f fd, Fun K x x st f fd → FnOk P w K mg base CX k f fd ps (spD K mg ps.length S)) : Kn P w K mg base CX k x ps S := by
  obtain ⟨f, fd, F, m, kp, b⟩ := D.ex
  exact ⟨f, fd, ok f fd F, m, kp, b⟩
/-! classes -/
theorem knI_of [Tb] {k : Nat} {S : PF} {q : Str} (X : K.In h) (G : h.Ns mainGlobals mg) (cg : (He.Fa.glo x).ok K = true) (cm : (He.Fa.mkr x).ok K = true) (Fd : ∃ fd, FunD K "__init__" q (defArgs st) (defBody st) (defScope st) [] [] (He.ma K (He.ga K x) "__init__") fd)
    (hb : ∀ (kV doc pm : Value) (an : Option Addr) (cdv ct : Value) (us : List Value), us.length = (("self" : Str) :: ps).length → bindArgs (PySem.W.fnOf "__init__" q (defArgs st) (defBody st) (defScope st) .none kV doc pm an cdv ct) ⟨us, []⟩ = pure ((("self" : Str) :: ps).zip us))
    (ok : ∀ f fd, Fun K "__init__" q st f fd → FnOk P w K mg base (L2.CX P w) k f fd (("self" : Str) :: ps) (spI K mg x ps.length S)) : KnI P w K mg base (L2.CX P w) k x ps S := by
  obtain ⟨fd, F⟩ := Fd
  have F' := He5.fun_of F
  exact ⟨He.ga K x, _, fd, He.mkr_ok cm, ok _ fd F', He.glo_ok X G cg, F'.binds hb⟩
theorem excT_of (X : K.In h) (G : h.Ns mainGlobals mg) (cg : (He.Fa.glo x).ok K = true) (ce : (He.Fa.exc x).ok K = true) : ExcT K mg x := by
  obtain ⟨h1, h2, h3, h4⟩ := He.exc_ok ce
  exact ⟨He.ga K x, He.glo_ok X G cg, h1, h2, h3, h4⟩
/-- what the head's one Bool asks of classes -/
theorem excB_ok {C : Addr} (c : excB K C = true) : ExcI K C := by
  obtain ⟨c1, c⟩ := He.ba c
  obtain ⟨c2, c⟩ := He.ba c
  obtain ⟨c3, c⟩ := He.ba c
  obtain ⟨c4, c⟩ := He.ba c
  obtain ⟨c5, c⟩ := He.ba c
  obtain ⟨c6, c⟩ := He.ba c
  obtain ⟨c7, c8⟩ := He.ba c
  exact ⟨c1, He.eqO_ok c2, He.eqO_ok c3, of_decide_eq_true c4, He.eqO_ok c5, He.eqO_ok c7, of_decide_eq_true c8, of_decide_eq_true c6⟩
theorem objB_ok {x : Str} (cc : (He.Fa.cls x).ok K = true) (c : objB K (He.ga K x) = true) (hk : PySem.W.kitOne K (.ref (He.ga K x)) (.ref (He.ga K x)) = some true) : C8.InsC K (He.ga K x) := by
  obtain ⟨c5, c⟩ := He.ba c
  obtain ⟨c6, c⟩ := He.ba c
  obtain ⟨c7, c8⟩ := He.ba c
  exact ⟨He.cls_ok cc, He.eqO_ok c5, He.eqO_ok c7, of_decide_eq_true c8, of_decide_eq_true c6, hk⟩
theorem lookup_in {l : List (Str × Bool)} {n : Str} {b : Bool} (h : l.lookup n = some b) : (n, b) ∈ l := PySem.mem_of_lookup h
theorem isO_of {cn : Str} {os es : List (Str × Bool)} (X : K.In h) (G : h.Ns mainGlobals mg) (cg : (He.Fa.glo cn).ok K = true) (ck : kitsB K cn os es = true) (co : ∀ p ∈ os, (He.Fa.glo p.1).ok K = true ∧ C8.InsC K (He.ga K p.1)) (ce : ∀ p ∈ es, (He.Fa.glo p.1).ok K = true ∧ ExcI K (He.ga K p.1)) : IsO K mg cn os es := by
  obtain ⟨c1, c2⟩ := He.ba ck
  refine ⟨He.ga K cn, He.glo_ok X G cg, fun n hn => of_decide_eq_true (List.all_eq_true.mp c1 n hn), fun n b hl => ?_, fun n b hl => ?_⟩
  · obtain ⟨g, i⟩ := co (n, b) (lookup_in hl)
    exact ⟨He.ga K n, He.glo_ok X G g, i, of_decide_eq_true (List.all_eq_true.mp c2 (n, b) (List.mem_append_left _ (lookup_in hl)))⟩
  · obtain ⟨g, i⟩ := ce (n, b) (lookup_in hl)
    exact ⟨He.ga K n, He.glo_ok X G g, i, of_decide_eq_true (List.all_eq_true.mp c2 (n, b) (List.mem_append_right _ (lookup_in hl)))⟩
theorem Kn.up [Tb] {CX : CXT} {k j : Nat} {S : PF} (h : Kn P w K mg base CX k x ps S) (hk : k ≤ j) : Kn P w K mg base CX j x ps S := by
  obtain ⟨f, fd, o, r⟩ := h.ex
  exact ⟨f, fd, o.mono hk, r⟩
end
end DL


set_option Elab.async false
set_option linter.all false
set_option maxRecDepth 100000
set_option maxHeartbeats 4000000
namespace Law
open PySem L2 DL
variable [Tb]
def F_abs : DF := dCB cAbs (aCons (dVar 2) aNil)
def F_big : DF := dOp dPow (dC (.int 10)) (dC (.int 18))
def F_great : DF := dLc [2] (iSeq (dVar 0)) (tgN 2) (dTest (dOp (dCmpI fun i j => decide (j ≤ i)) F_abs F_big)) (dOp dSub F_abs F_big)
def F_cells : DF := dLc [2] (iSeq (dVar 0)) (tgN 2) tAll F_abs
def absI (z : Int) : Int := if z < 0 then -z else z
theorem absI_0 (z : Int) : 0 ≤ absI z := by unfold absI; split <;> omega
def bigI : Int := 10 ^ (18 : Int).toNat
theorem map_get {ns : List Int} {i : Nat} {d : D} (hi : (ns.map D.int)[i]? = some d) : ∃ z, ns[i]? = some z ∧ D.int z = d := by
  rw [List.getElem?_map] at hi
  cases q : ns[i]? with
  | none => rw [q] at hi; cases hi
  | some z => rw [q] at hi; exact ⟨z, rfl, Option.some.inj hi⟩
theorem m_great (ns : List Int) (hl : ns.length ≤ 63) (T : Nat) (P : D → DS → Prop) (ex : XD) (h : ∀ gs : List Int, (∀ x ∈ gs, 0 ≤ x) → gs.length ≤ 63 → P (.lst (gs.map D.int)) (startD 3 [.scr ns] T)) : F_great (startD 3 [.scr ns] T) P ex := by
  refine dLc_inv (fun i acc s => s = startD 3 [.scr ns] T ∧ ∃ gs : List Int, acc = gs.map D.int ∧ (∀ x ∈ gs, 0 ≤ x) ∧ gs.length ≤ i) (ns.map D.int) (fun Q hQ => ⟨_, rfl, hQ _ ⟨rfl, [], rfl, fun x h => absurd h (by simp), Nat.le_refl _⟩⟩) ?_ ?_
  · rintro i d acc s hi ⟨rfl, gs, rfl, h0, hn⟩ R hR
    obtain ⟨z, hz, rfl⟩ := map_get hi
    have hil := get_lt hz
    have pw : CPow 10 18 := ⟨by decide, by decide, by decide⟩
    refine ⟨pw, ?_⟩
    show (match D.bl (decide (bigI ≤ absI z)) with | .bl k => (if k = true then dOp dSub F_abs F_big ((startD 3 [.scr ns] T).put 2 (.fz (.int z))) (fun y s3 => (gs.map D.int).length < 100000 ∧ R (gs.map D.int ++ [y]) (s3.wipe [2])) (fun _ _ _ => False) else R (gs.map D.int) (((startD 3 [.scr ns] T).put 2 (.fz (.int z))).wipe [2])) | _ => False)
    by_cases q : bigI ≤ absI z
    · rw [decide_eq_true q]
      refine ⟨pw, (by rw [List.length_map]; omega), hR _ _ ⟨rfl, gs ++ [absI z - bigI], by rw [List.map_append]; rfl, fun x hx => ?_, by rw [List.length_append]; simp; omega⟩⟩
      rcases List.mem_append.mp hx with hx | hx
      · exact h0 x hx
      · rw [List.mem_singleton.mp hx]; omega
    · rw [decide_eq_false q]
      exact hR _ _ ⟨rfl, gs, rfl, h0, by omega⟩
  · rintro acc s ⟨rfl, gs, rfl, h0, hn⟩
    rw [List.length_map] at hn
    exact h gs h0 (by omega)
theorem m_cells (ns : List Int) (hl : ns.length ≤ 63) (v1 : Option Sl) (T : Nat) (P : D → DS → Prop) (ex : XD) (h : ∀ ls : List Int, (∀ x ∈ ls, 0 ≤ x) → ls.length ≤ 63 → P (.lst (ls.map D.int)) ⟨[some (.fz (.scr ns)), v1, none], T⟩) : F_cells ⟨[some (.fz (.scr ns)), v1, none], T⟩ P ex := by
  refine lc_map (s0 := ⟨[some (.fz (.scr ns)), v1, none], T⟩) (fun d => match d with | .int z => .int (absI z) | d => d) (ns.map D.int) (by rw [List.length_map]; omega) (fun Q hQ => ⟨_, rfl, hQ _ rfl⟩) rfl (fun d hd R hR => ?_) ?_
  · obtain ⟨z, _, rfl⟩ := List.mem_map.mp hd
    exact hR _ rfl
  · rw [List.map_map]
    have e := h (ns.map absI) (fun x hx => by obtain ⟨z, _, rfl⟩ := List.mem_map.mp hx; exact absI_0 z) (by rw [List.length_map]; exact hl)
    rw [List.map_map] at e
    exact e
theorem repL_ints_eq {c : Ct} {B : Hp} : ∀ {ns : List Int} {xs : List V}, RepL c B (ns.map D.int) xs → xs = ns.map V.int
  | [], xs, h => by unfold RepL at h; exact h
  | n :: ns, xs, h => by
    obtain ⟨x, xr, rfl, h1, h2⟩ := (by unfold RepL at h; exact h)
    rw [rep_int h1, repL_ints_eq h2]
    rfl
theorem st_merge {g l : Addr} : mergeK [] (stK g l 0 0) = stK g l 0 0 := by
  have h1 : ¬ ("great" : Str) = "cells" := by decide +kernel
  have h2 : ¬ ("great" : Str) = "left" := by decide +kernel
  have h3 : ¬ ("cells" : Str) = "left" := by decide +kernel
  have h4 : ¬ ("great" : Str) = "turn" := by decide +kernel
  have h5 : ¬ ("cells" : Str) = "turn" := by decide +kernel
  have h6 : ¬ ("left" : Str) = "turn" := by decide +kernel
  simp [mergeK, putK, stK, h1, h2, h3, h4, h5, h6]
/-- what House makes of two values; where rooms are apart, nothing is said -/
def S_House : PF := fun ds T post ex => ∃ r d, ds = [r, d] ∧ plainD r = true ∧ plainD d = true ∧ (∀ xs, d = .tup xs → ∀ x ∈ xs, plainD x = true ∧ plainDs x = true) ∧
  (within r 1 12 = false → ex "BadRooms" [] T) ∧ (∀ n : Nat, r = .int n → within r 1 12 = true → (areDoors n d = false → ex "BadDoors" [] T) ∧ (areDoors n d = true → ∃ xs, d = .tup xs ∧ ApartIs (xs.map endsD) n none ∧ post (.ow (.obj "House" [("rooms", r), ("doors", d)])) T))
theorem doorOf_of {n : Nat} {d : D} (h : isDoor n d = true) : DoorOf n d := by
  unfold isDoor at h
  split at h
  · rename_i a x b y
    simp only [Bool.and_eq_true] at h
    obtain ⟨⟨h1, h2⟩, _⟩ := h
    have f : ∀ {z : D}, within z 0 ((n : Int) - 1) = true → ∃ m : Nat, z = .int m ∧ m < n := fun {z} h => by
      cases z with
      | int i =>
        have h : (decide (0 ≤ i) && decide (i ≤ (n : Int) - 1)) = true := h
        simp only [Bool.and_eq_true, decide_eq_true_eq] at h
        obtain ⟨m, rfl⟩ := Int.eq_ofNat_of_zero_le h.1
        exact ⟨m, rfl, by omega⟩
      | _ => cases h
    obtain ⟨m1, rfl, l1⟩ := f h1
    obtain ⟨m2, rfl, l2⟩ := f h2
    exact ⟨m1, m2, _, _, rfl, l1, l2⟩
  · cases h
end Law


set_option Elab.async false
set_option linter.all false
set_option maxRecDepth 100000
set_option maxHeartbeats 4000000
namespace Law
open PySem L2 DL
variable [Tb]
/-- is it this truth -/
def isTrue (d : D) (b : Bool) : Bool := match d with
  | .bl c => c == b
  | _ => false
def S__law_is_truth : PF := fun ds T post _ => ∃ c b : Bool, ds = [.bl c, .bl b] ∧ post (.fz (.bl (c == b))) T
def G__law_is_truth : DG := (gRet (dIfE (dTest (dVar 1)) (dOp dIsB (dVar 0) (dC (.bl true))) (dOp dIsB (dVar 0) (dC (.bl false)))))
theorem m__law_is_truth : ∀ (ds : List D) T post ex, ds.length = 2 → S__law_is_truth ds T post ex → G__law_is_truth (endsOf post ex) (startD 2 ds T) := by
  rintro ds T post ex _ ⟨c, b, rfl, hp⟩
  cases b <;> cases c <;> exact hp
end Law


set_option Elab.async false
set_option linter.all false
set_option maxRecDepth 100000
set_option maxHeartbeats 4000000
namespace DL
open PySem L2
variable [Tb]
/-! ### calls by keywords alone -/
structure DPK (X : Cx) (W : WX) (kws : List Keyword) (G : DFA) : Prop where pk : PK X kws (LftA X W G)
theorem pk_mono {X : Cx} {e : List Keyword} {t t' : TA} (h : ∀ σ H Q, t' σ H Q → t σ H Q) (p : PK X e t) : PK X e t' := ⟨fun pos pins s σ H Q I q => p.run pos pins s σ H Q I (h σ H Q q)⟩
section
variable {X : Cx} {W : WX} {e : Expr} {kws : List Keyword} {F : DF} {G : DFA} {kpos p pos : Pos} {nm : Option Str}
theorem k_nil : DPK X W [] aNil := ⟨pk_mono (fun σ H Q ⟨q, L, H0, B0, s, B, P, ex, t, f, rt, x⟩ => rt [] H [] s B t (Le.refl B) (by unfold RepL; rfl) f) pk_nil⟩
theorem k_cons (ha : DPE X W e F) (hr : DPK X W kws G) : DPK X W (⟨nm, e, kpos⟩ :: kws) (aCons F G) :=
  ⟨pk_mono (fun σ H Q ⟨q, L, H0, B0, s, B, P, ex, t, f, rt, x⟩ => ⟨q, L, H0, B0, s, B, _, ex, t, f, fun v H1 d s1 B1 t1 l1 r1 p1 => ⟨q, L, H0, B0, s1, B1, _, ex, t1, p1, fun vs H2 ds s2 B2 t2 l2 r2 p2 => rt _ _ _ _ _ t2 (l1.trans l2) (repL_cons (r1.mono l2) r2) p2, x.le l1⟩, x⟩) (pk_cons ha.pe hr.pk)⟩
/-- the values, in the order of the parameters -/
def pick {α : Type} (π : List Nat) (d : α) (us ws : List α) : List α := us ++ π.map fun i => ws.getD i d
theorem vals_getD : ∀ {zs : List V} {ws : List Value} (i : Nat), Vals zs ws → RelV (zs.getD i .non) (ws.getD i .none)
  | _, _, i, .nil => by
    have e1 : ([] : List V).getD i .non = .non := by simp
    have e2 : ([] : List Value).getD i .none = .none := by simp
    rw [e1, e2]
    rfl
  | _, _, 0, .cons h _ => h
  | _, _, i + 1, .cons _ r => vals_getD i r
theorem vals_app : ∀ {a b : List V} {c d : List Value}, Vals a c → Vals b d → Vals (a ++ b) (c ++ d)
  | _, _, _, _, .nil, r => r
  | _, _, _, _, .cons h t, r => .cons h (vals_app t r)
theorem vals_pick (π : List Nat) {vs zs : List V} {us ws : List Value} (r : Vals vs us) (q : Vals zs ws) : Vals (pick π .non vs zs) (pick π .none us ws) := by
  refine vals_app r ?_
  induction π with
  | nil => exact .nil
  | cons i π ih => exact .cons (vals_getD i q) ih
theorem repL_getD {c : Ct} {B : Hp} : ∀ {ds : List D} {vs : List V} (i : Nat), RepL c B ds vs → Rep c B (ds.getD i .non) (vs.getD i .non)
  | [], vs, i, h => by
    unfold RepL at h
    subst h
    have e1 : ([] : List D).getD i .non = .non := by simp
    have e2 : ([] : List V).getD i .non = .non := by simp
    rw [e1, e2]
    unfold Rep
    rfl
  | d :: ds, vs, i, h => by
    unfold RepL at h
    obtain ⟨x, xr, rfl, h1, h2⟩ := h
    cases i with
    | zero => exact h1
    | succ i => exact repL_getD i h2
theorem repL_pick {c : Ct} {B : Hp} (π : List Nat) {ds : List D} {vs : List V} (h : RepL c B ds vs) : RepL c B (pick π .non [] ds) (pick π .non [] vs) := by
  induction π with
  | nil => unfold pick RepL; rfl
  | cons i π ih => exact repL_cons (repL_getD i h) ih
/-- a def that is called by keywords -/
structure KnK (P : Program) (w : World) (K : PySem.W.Frag) (mg : Str → Option Value) (base : Heap) (CX : CXT) (k : Nat) (x : Str) (ps ks : List Str) (π : List Nat) (S : PF) : Prop where
  ex : ∃ f fd, FnOk P w K mg base CX k f fd ps (spD K mg ps.length S) ∧ mg x = some (.ref f) ∧ PySem.W.keepIn K (.ref f) = true ∧ KBn K fd ps 0 ks (pick π .none) (pick π .non)
/-- x(k = v, ..) -/
theorem pe_kw0 {CX : CXT} {k : Nat} {x : Str} {f : Addr} {fd : FuncData} {ps ks : List Str} {sp : Sp} {E : XK} {tk : TA} {g : List Value → List Value → List Value} {gV : List V → List V → List V} (F : FnOk X.prog X.w X.K X.mg X.base CX k f fd ps sp) (hr : Room k X.A) (hg : Gl X x) (hm : X.mg x = some (.ref f)) (hk : PySem.W.keepIn X.K (.ref f) = true)
    (hb : KBn X.K fd ps 0 ks g gV) (hx : Passes CX X E) (hkw : PK X kws tk) (h1 : (backToKw pos (keywordEach kws X.env)).all (·.1.isSome) = true := by rfl) (h2 : (backToKw pos (keywordEach kws X.env)).filterMap (·.1) = ks := by rfl)
    (hdb : (x == ("__debug__" : Str)) = false := by decide) (h3 : ((backTo pos (starEach [] X.env)).any (·.1) || (backToKw pos (keywordEach kws X.env)).any (·.1.isNone)) = false := by rfl) :
    PE X (.Call (.Name x p) [] kws pos) (fun σ H Q => tk σ H fun zs H2 => zs.length = ks.length ∧ sp (gV [] zs) H2 Q E) := by
  constructor
  intro pins s σ H Q I h
  refine wpAny_Call_Name_kw (ld_glob I hg hm (PySem.W.callWith_KW0 (h₀ := X.base) I.ok.mod.kin hk h1 (thn (hkw.run pos pins s σ H _ I h) fun ws s2 ⟨zs, H2, I2, rz, l2, q2⟩ => ⟨I2.kIn, ?_⟩) h3) hdb)
  rw [h2]
  exact run_fnN F hr hb hx I2 .nil rz rfl l2 q2
def dCallK (S : PF) (m : Nat) (π : List Nat) (G : DFA) : DF := fun s P ex => G s (fun ds s1 => ds.length = m ∧ S (pick π .non [] ds) s1.T (fun x T' => P x.d (s1.tick T')) noX) ex
/-- .. of a def that may raise, where nothing is raised -/
theorem d_callKX0 {k m : Nat} {x : Str} {ps ks : List Str} {π : List Nat} {S : PF} (F : KnK X.prog X.w X.K X.mg X.base (L2.CX X.prog X.w) k x ps ks π S) (hr : Room k X.A) (ha : DPK X W kws G) (hn : ks.length = m := by rfl) (hp : π.length = ps.length := by rfl) (hg : Gl X x := by rfl) (hdb : (x == ("__debug__" : Str)) = false := by decide)
    (h1 : (backToKw pos (keywordEach kws X.env)).all (·.1.isSome) = true := by rfl) (h2 : (backToKw pos (keywordEach kws X.env)).filterMap (·.1) = ks := by rfl) (h3 : ((backTo pos (starEach [] X.env)).any (·.1) || (backToKw pos (keywordEach kws X.env)).any (·.1.isNone)) = false := by rfl) :
    DPE X W (.Call (.Name x p) [] kws pos) (dCallK S m π G) := by
  subst hn
  obtain ⟨f, fd, f1, f2, f3, f4⟩ := F.ex
  refine ⟨pe_mono (fun σ H Q ⟨q, L, H0, B0, s, B, P, ex, t, f, rt, e⟩ => ?_) (pe_kw0 f1 hr hg f2 f3 f4 passL ha.pk h1 h2 hdb h3)⟩
  refine ⟨q, L, H0, B0, s, B, _, ex, t, f, fun vs H1 ds s1 B1 t1 l1 r1 p1 => ⟨by rw [repL_len r1]; exact p1.1, ?_⟩, e⟩
  exact sp_of t1 (repL_pick π r1) (by unfold pick; simp [hp]) p1.2 (fun v H' B' d T' t2 l2 r2 p2 => rt _ _ _ _ _ t2 (l1.trans l2) r2 p2)
    (fun p o H' B' d T' t2 l2 hp ro p2 => rt _ _ _ _ _ (t2.alloc hp ro.ntb) (l1.trans (l2.trans (Le.upd (t2.bs.nB hp)))) ((ro.mono (Le.upd (t2.bs.nB hp))).rep upd_same) p2) (fun _ _ _ _ _ _ _ _ _ _ z => z.elim)
/-- a class that is made by keywords -/
structure KnIK (P : Program) (w : World) (K : PySem.W.Frag) (mg : Str → Option Value) (base : Heap) (CX : CXT) (k : Nat) (x : Str) (ps ks : List Str) (π : List Nat) (S : PF) : Prop where
  ex : ∃ C f fd, Mk K C f ∧ FnOk P w K mg base CX k f fd (("self" : Str) :: ps) (spI K mg x ps.length S) ∧ mg x = some (.ref C) ∧ KBn K fd (("self" : Str) :: ps) 1 ks (pick π .none) (pick π .non)
end
end DL


set_option Elab.async false
set_option linter.all false
set_option maxRecDepth 100000
set_option maxHeartbeats 4000000
namespace DL
open PySem L2
variable [Tb]
/-! ### dicts of no pair, of one pair -/
section
variable {X : Cx} {W : WX} {e ke : Expr} {F : DF} {pos p : Pos}
theorem d_dict0 : DPO X W (.Dict [] [] pos) (dC (.dic [])) := ⟨pe_mono (fun σ H Q ⟨q, L, H0, B0, s, B, P, ex, t, f, rt, x⟩ => fun p hp => rt p _ H (.dic []) s B t (Le.refl B) hp ⟨[], rfl, by unfold RepK; rfl⟩ f) pe_dnewK⟩
end
end DL


set_option Elab.async false
set_option linter.all false
set_option maxRecDepth 100000
set_option maxHeartbeats 4000000
namespace DL
open PySem L2
/-! ### defs that make lambdas, from the head's facts -/
abbrev lamName (x : Str) : Str := x ++ (".<locals>." : Str) ++ ("<lambda>" : Str)
structure DefL [Tb] (K : PySem.W.Frag) (mg : Str → Option Value) (base : Heap) (x : Str) (st : Stmt) (ps : List Str) : Prop where
  ex : ∃ f fd c Pt, FunL K x x st f fd c ∧ mg x = some (.ref f) ∧ PySem.W.keepIn K (.ref f) = true ∧ Binds K fd ps [] ∧ LamX.TabB base mg c Pt ∧ (Pt, lamName x) ∈ Tb.tb ∧ ∀ p ∈ Tb.tb, p.1 = Pt → p.2 = lamName x
section
variable {K : PySem.W.Frag} {h base : Heap} {mg : Str → Option Value} {x : Str} {st : Stmt} {ps : List Str} {tf : List He.Defn}
theorem nodup_at {α β : Type} {f : α → β} : ∀ {l : List α}, (l.map f).Nodup → ∀ {a b : α}, a ∈ l → b ∈ l → f a = f b → a = b
  | [], _, _, _, h, _, _ => absurd h (by simp)
  | x :: l, nd, a, b, ha, hb, e => by
    rw [List.map_cons, List.nodup_cons] at nd
    rcases List.mem_cons.mp ha with rfl | ha1
    · rcases List.mem_cons.mp hb with rfl | hb1
      · rfl
      · exact absurd (by rw [e]; exact List.mem_map.mpr ⟨b, hb1, rfl⟩) nd.1
    · rcases List.mem_cons.mp hb with rfl | hb1
      · exact absurd (by rw [← e]; exact List.mem_map.mpr ⟨a, ha1, rfl⟩) nd.1
      · exact nodup_at nd.2 ha1 hb1 e
theorem defL_of (X : K.In h) (G : h.Ns mainGlobals mg) (cg : (He.Fa.glo x).ok K = true) (Fd : ∃ fd, FunD K x x (defArgs st) (defBody st) (defScope st) [] [] (He.ga K x) fd)
    (hb : ∀ (kV doc pm : Value) (an : Option Addr) (cdv ct : Value) (us : List Value), us.length = ps.length → bindArgs (PySem.W.fnOf x x (defArgs st) (defBody st) (defScope st) .none kV doc pm an cdv ct) ⟨us, []⟩ = pure (ps.zip us))
    (hp : (x, none) ∈ tf) (hT : ∀ p ∈ tf, LamX.TabB base mg (He.cT K p).1 (He.cT K p).2) (hn : (tf.map fun p => (He.cT K p).2).Nodup) : letI : Tb := ⟨tbOf K tf⟩; DefL K mg base x st ps := by
  letI : Tb := ⟨tbOf K tf⟩
  obtain ⟨fd, F⟩ := Fd
  have F' := He5.fun_of F
  have kp := F'.kp
  have bd := F'.binds hb
  obtain ⟨oc, od, kV, doc, pm, an, cdv, ct, osl, rfl, lk, hcd⟩ := F'.ex
  obtain ⟨c, rfl⟩ := He.codeIn_ref hcd
  have ec : He.codeOf K (x, none) = c := He.codeOf_eq lk rfl
  refine ⟨He.ga K x, _, c, (He.cT K (x, none)).2, ⟨oc, od, kV, doc, pm, an, ct, osl, rfl, lk, hcd⟩, He.glo_ok X G cg, kp, bd, ?_, List.mem_map.mpr ⟨(x, none), hp, rfl⟩, fun p hpm e => ?_⟩
  · have q := hT _ hp
    have e2 : (He.cT K (x, none)).1 = c := ec
    rw [e2] at q
    exact q
  · obtain ⟨z, hz, rfl⟩ := List.mem_map.mp hpm
    have := nodup_at hn hz hp e
    rw [this]
variable {P : Program} {w : World}
theorem DefL.kn [Tb] {k : Nat} {S : PF} {G : DG} {N : List Str} (D : DefL K mg base x st ps) (Sc : FnScope N ps (defScope st))
    (hbody : ∀ (f c : Addr) (A : Around) (outer : List Env) (s : Shared) (H : Hp) (E : XK), LamIn (cxOf CX0 P w K mg base N x (defScope st) f (.ref c) A outer s H E).nox → Room k (A.deeper (PyProof.Rows.envOfC x (defScope st) s.heap.objs.size f (.ref c))) → DPSs (cxOf CX0 P w K mg base N x (defScope st) f (.ref c) A outer s H E).nox W0 (defBody st) G)
    (hG : ∀ ds T post ex, ds.length = ps.length → S ds T post ex → G (endsOf post (fun _ _ _ => False)) (startD N.length ds T)) : Kn P w K mg base CX0 (k + 1) x ps S := by
  obtain ⟨f, fd, c, Pt, F, m, kp, b, tb, hm, hu⟩ := D.ex
  exact ⟨f, fd, fn_okL F Sc (fun A outer s H E hr => hbody f c A outer s H E ⟨c, Pt, rfl, tb, hm, hu⟩ hr) hG, m, kp, b⟩
end
end DL


set_option Elab.async false
set_option linter.all false
set_option maxRecDepth 100000
set_option maxHeartbeats 4000000
namespace DL
open PySem PySem.Spec PyProof.Rows PySem.Calls
/-! ### t[::-1], t a tuple -/
section
variable {prog : Program} {w : World} {A : Around} {E : Value → Shared → Prop} {s : Shared}
end
section
open L2
variable {X : Cx} {W : WX} {e : Expr} {k : Nat} {p1 p2 p3 pos : Pos}
variable [Tb]
end
/-! ### zip -/
section
open L2
variable [Tb]
def zipD (xs ys : List D) : List D := (xs.zip ys).map fun p => .tup [p.1, p.2]
theorem zipD_len (xs ys : List D) : (zipD xs ys).length = min xs.length ys.length := by unfold zipD; simp
theorem zipD_get {xs ys : List D} {i : Nat} {x y : D} (h1 : xs[i]? = some x) (h2 : ys[i]? = some y) : (zipD xs ys)[i]? = some (.tup [x, y]) := by
  unfold zipD
  rw [List.getElem?_map, (List.getElem?_zip_eq_some (z := (x, y))).mpr ⟨h1, h2⟩]
  rfl
theorem yields_pair {c : Ct} {B : Hp} {ds es : List D} {f g : Nat → Option V} (hf : ∀ i x, i < (zipD ds es).length → f i = some x → ∃ d, ds[i]? = some d ∧ Rep c B d x) (hg : ∀ i y, i < (zipD ds es).length → g i = some y → ∃ e, es[i]? = some e ∧ Rep c B e y) :
    ∀ i L H0 B0 σ s H B1 x H', At c L H0 B0 σ H s B1 → Le B B1 → i < (zipD ds es).length → YPair f g i H x H' → ∃ d B2, (zipD ds es)[i]? = some d ∧ Le B1 B2 ∧ Rep c B2 d x ∧ At c L H0 B0 σ H' s B2 := by
  intro i L H0 B0 σ s H B1 v H' t l hi y
  obtain ⟨T, x, y, rfl, nT, rfl, e1, e2⟩ := y
  obtain ⟨d, d1, r1⟩ := hf i x hi e1
  obtain ⟨e, d2, r2⟩ := hg i y hi e2
  have nB := t.bs.nB nT
  exact ⟨.tup [d, e], _, zipD_get d1 d2, Le.upd nB, tup_rep upd_same (repL_cons ((r1.mono l).mono (Le.upd nB)) (repL_cons ((r2.mono l).mono (Le.upd nB)) repL_nil)), t.alloc nT (fun _ z => by cases z)⟩
variable {X : Cx} {W : WX} {tg a b e : Expr} {Fa Fb : DF} {pos p tpos : Pos} {elts : List Expr} {kk : Nat}
/-! ### enumerate, of a list -/
end
end DL


set_option Elab.async false
set_option linter.all false
set_option maxRecDepth 100000
set_option maxHeartbeats 4000000
namespace DL
open PySem L2
variable [Tb]
/-! ### x.pop(), x what slot i owns -/
section
variable {X : Cx} {W : WX} {p pos ap : Pos}
end
end DL


set_option Elab.async false
set_option linter.all false
set_option maxRecDepth 100000
set_option maxHeartbeats 4000000
namespace DL
open PySem L2
variable [Tb]
/-! ### three names at once -/
section
variable {X : Cx} {W : WX} {a b d : Expr} {Fa Fb Fd : DF} {G : DFA} {x y z : Str} {px py pz pt pos : Pos} {kt k2 : Nat} {pt2 : Pos} {i j l : Nat}
end
/-! ### a chained comparison as a test -/
section
variable {X : Cx} {W : WX} {a b c : Expr} {Fa Fb Fc : DF} {pos : Pos}
theorem lft_chain {R R' : D → D → (D → Prop) → Prop} {r r' : R2} (h2 : ∀ q L H0 B0 σ H s B x y v u P Q, At (cx X q) L H0 B0 σ H s B → Rep (cx X q) B x v → Rep (cx X q) B y u → R x y P → Ret (cx X q) L H0 B0 σ B (fun d s' => s' = s ∧ P d) Q → r v u H Q)
    (h2' : ∀ q L H0 B0 σ H s B x y v u P Q, At (cx X q) L H0 B0 σ H s B → Rep (cx X q) B x v → Rep (cx X q) B y u → R' x y P → Ret (cx X q) L H0 B0 σ B (fun d s' => s' = s ∧ P d) Q → r' v u H Q) :
    ∀ σ H Q, LftE X W (dChain R R' Fa Fb Fc) σ H Q → tChain r r' (LftE X W Fa) (LftE X W Fb) (LftE X W Fc) σ H Q := by
  rintro σ H Q ⟨q, L, H0, B0, s, B, P, ex, t, f, rt, e⟩
  refine ⟨q, L, H0, B0, s, B, _, ex, t, f, fun v H1 x s1 B1 t1 l1 r1 p1 => ⟨q, L, H0, B0, s1, B1, _, ex, t1, p1, fun u H2 y s2 B2 t2 l2 r2 p2 => ?_, e.le l1⟩, e⟩
  refine h2 q L H0 B0 σ H2 s2 B2 x y v u _ _ t2 (r1.mono l2) r2 p2 (fun z H3 d s3 B3 t3 l3 r3 ⟨es, p3⟩ => ?_)
  subst es
  try dsimp only at p3
  split at p3
  · rw [rep_bl r3]
    refine ⟨true, rfl, ?_⟩
    refine iteT ⟨q, L, H0, B0, s3, B3, _, ex, t3, p3, fun w H4 dw s4 B4 t4 l4 r4 p4 => ?_, e.le ((l1.trans l2).trans l3)⟩
    exact h2' q L H0 B0 σ H4 s4 B4 y dw u w _ Q t4 (r2.mono (l3.trans l4)) r4 p4 (fun w H5 d5 s5 B5 t5 l5 r5 ⟨es, p5⟩ => rt w H5 d5 s5 B5 t5 (l1.trans (l2.trans (l3.trans (l4.trans l5)))) r5 (by rw [es]; exact p5))
  · rw [rep_bl r3]
    refine ⟨false, rfl, ?_⟩
    exact iteF (rt _ _ _ _ _ t3 ((l1.trans l2).trans l3) bl_rep p3)
  · exact p3.elim
theorem d_chainT {op op' : CmpOp} {R R' : D → D → (D → Prop) → Prop} (ho : OpD X (compareOp op) R) (ho' : OpD X (compareOp op') R') (ha : DPE X W a Fa) (hb : DPE X W b Fb) (hc : DPE X W c Fc)
    (hm : lastMarks [op, op'] [b, c] = false := by with_unfolding_all rfl) : DPT X W (.Compare a [op, op'] [b, c] pos) (dTest (dChain R R' Fa Fb Fc)) := by
  obtain ⟨r, h1, h2⟩ := ho.ex
  obtain ⟨r', h1', h2'⟩ := ho'.ex
  refine ⟨pt_mono (fun σ H Q ⟨q, L, H0, B0, s, B, P, ex, t, f, rt, e⟩ => ?_) (pt_chain h1 h1' ha.pe hb.pe hc.pe hm)⟩
  refine lft_chain (W := W) h2 h2' σ H _ ⟨q, L, H0, B0, s, B, _, ex, t, f, fun v H1 x s1 B1 t1 l1 r1 p1 => ?_, e⟩
  try dsimp only at p1
  split at p1
  · rw [rep_bl r1]
    exact ⟨_, rfl, rt _ _ _ _ t1 l1 p1⟩
  · exact p1.elim
end
end DL


set_option Elab.async false
set_option linter.all false
set_option maxRecDepth 100000
set_option maxHeartbeats 4000000
namespace Law
open PySem L2 DL
variable [Tb]
/-! ### passes of a house -/
def houseD (n : Nat) (xs : List D) : D := .obj "House" [("rooms", .int n), ("doors", .tup xs)]
def S_need_house : PF := fun ds T post ex => ∃ d b, ds = [d] ∧ isO [("House", true)] [] d = some b ∧ (b = true → post (.fz .non) T) ∧ (b = false → ex "BadHouse" [] T)
def G_need_house : DG := (gIf (tNotD (dTest (dIsO [("House", true)] [] (dVar 0)))) (gRaise "BadHouse") gNil)
theorem m_need_house : ∀ (ds : List D) T post ex, ds.length = 1 → S_need_house ds T post ex → G_need_house (endsOf post ex) (startD 1 ds T) := by
  rintro ds T post ex _ ⟨d, b, rfl, h, h1, h2⟩
  refine ⟨b, h, ?_⟩
  cases b with
  | true => exact h1 rfl
  | false => exact h2 rfl
theorem ne_rd : (("doors" : Str) == ("rooms" : Str)) = false := by decide +kernel
theorem look_rooms {n : Nat} {xs : List D} : ([("rooms", .int n), ("doors", .tup xs)] : List (Str × D)).lookup ("rooms" : Str) = some (.int n) := by simp [List.lookup]
theorem look_doors {n : Nat} {xs : List D} : ([("rooms", .int n), ("doors", .tup xs)] : List (Str × D)).lookup ("doors" : Str) = some (.tup xs) := by
  rw [List.lookup_cons, ne_rd]
  simp [List.lookup]
def S_is_room : PF := fun ds T post _ => ∃ n xs d, ds = [houseD n xs, d] ∧ plainD d = true ∧ post (.fz (.bl (within d 0 ((n : Int) - 1)))) T
def G_is_room : DG := (gRet (dCall S_is_number_within 3 (aCons (dVar 1) (aCons (dC (.int 0)) (aCons (dOp dSub (dFld "House" "rooms" (dVar 0)) (dC (.int 1))) aNil)))))
theorem m_is_room : ∀ (ds : List D) T post ex, ds.length = 2 → S_is_room ds T post ex → G_is_room (endsOf post ex) (startD 2 ds T) := by
  rintro ds T post ex _ ⟨n, xs, d, rfl, hd, hp⟩
  exact ⟨rfl, _, look_rooms, rfl, d, 0, (n : Int) - 1, rfl, hd, hp⟩
def isPass (m : Nat) : D → Bool
  | .tup [a, b] => within a 0 ((m : Int) - 1) && within b 0 1
  | _ => false
def S_is_pass : PF := fun ds T post _ => ∃ n xs d, ds = [houseD n xs, d] ∧ plainD d = true ∧ plainDs d = true ∧ post (.fz (.bl (isPass xs.length d))) T
def G_is_pass : DG := (gSeq (gIf (tNotD (dTest (dCall S_is_tuple_of 2 (aCons (dVar 1) (aCons (dC (.int 2)) aNil))))) (gRet (dC (.bl false))) gNil)
    (gSeq (gUnp (tgTup 2 (tgCons (tgN 2) (tgCons (tgN 3) tgNil))) (dVar 1))
    (gRet (dAnd (dCall S_is_number_within 3 (aCons (dVar 2) (aCons (dC (.int 0)) (aCons (dOp dSub (dCB cLen (aCons (dFld "House" "doors" (dVar 0)) aNil)) (dC (.int 1))) aNil)))) (dCall S_is_number_within 3 (aCons (dVar 3) (aCons (dC (.int 0)) (aCons (dC (.int 1)) aNil))))))))
theorem m_is_pass : ∀ (ds : List D) T post ex, ds.length = 2 → S_is_pass ds T post ex → G_is_pass (endsOf post ex) (startD 4 ds T) := by
  rintro ds T post ex _ ⟨n, xs, d, rfl, hd, hd2, hp⟩
  refine ⟨rfl, d, 2, rfl, hd, ?_⟩
  cases e : isTup 2 d with
  | false =>
    have e2 : isPass xs.length d = false := by
      unfold isPass
      split
      · simp [isTup] at e
      · rfl
    rw [e2] at hp
    exact hp
  | true =>
    obtain ⟨a, b, rfl⟩ : ∃ a b, d = .tup [a, b] := by
      cases d with
      | tup ys =>
        have : ys.length = 2 := by simpa [isTup] using e
        match ys, this with
        | [a, b], _ => exact ⟨a, b, rfl⟩
      | _ => cases e
    have hd2 : ([a, b].all plainD) = true := hd2
    simp only [List.all_cons, List.all_nil, Bool.and_eq_true, Bool.and_true] at hd2
    refine ⟨rfl, rfl, _, look_doors, rfl, a, 0, (xs.length : Int) - 1, rfl, hd2.1, ?_⟩
    have hp : post (.fz (.bl (within a 0 ((xs.length : Int) - 1) && within b 0 1))) T := hp
    cases e1 : within a 0 ((xs.length : Int) - 1) with
    | false =>
      rw [e1] at hp
      exact hp
    | true =>
      rw [e1] at hp
      exact ⟨rfl, b, 0, 1, rfl, hd2.2, hp⟩
/-- a door seen from the side s -/
def gate (s : Int) (a x b y : D) : List D := if s = 0 then [a, x, b, y] else [b, y, a, x]
def S_ends_of : PF := fun ds T post _ => ∃ (n i : Nat) (s : Int) (xs : List D) (a x b y : D), ds = [houseD n xs, .tup [.int i, .int s]] ∧ xs[i]? = some (.tup [a, x, b, y]) ∧ post (.fz (.tup (gate s a x b y))) T
def G_ends_of : DG := (gSeq (gUnp (tgTup 2 (tgCons (tgN 2) (tgCons (tgN 3) tgNil))) (dVar 1))
    (gSeq (gUnp (tgTup 4 (tgCons (tgN 4) (tgCons (tgN 5) (tgCons (tgN 6) (tgCons (tgN 7) tgNil))))) (dOp dIx (dFld "House" "doors" (dVar 0)) (dVar 2)))
    (gSeq (gIf (dTest (dOp dEq (dVar 3) (dC (.int 0)))) (gRet (dTup (aCons (dVar 4) (aCons (dVar 5) (aCons (dVar 6) (aCons (dVar 7) aNil)))))) gNil)
    (gRet (dTup (aCons (dVar 6) (aCons (dVar 7) (aCons (dVar 4) (aCons (dVar 5) aNil)))))))))
theorem atI_nat {xs : List D} {i : Nat} {d : D} (h : xs[i]? = some d) : atI xs (i : Int) = some d := by
  unfold atI
  rw [ixN_of (by omega) (by have := get_lt h; omega)]
  exact h
theorem m_ends_of : ∀ (ds : List D) T post ex, ds.length = 2 → S_ends_of ds T post ex → G_ends_of (endsOf post ex) (startD 8 ds T) := by
  rintro ds T post ex _ ⟨n, i, s, xs, a, x, b, y, rfl, hi, hp⟩
  refine ⟨rfl, rfl, _, look_doors, _, atI_nat hi, rfl, rfl, rfl, ?_⟩
  rw [eqv_int]
  unfold gate at hp
  by_cases z : s = 0
  · rw [if_pos z] at hp
    rw [decide_eq_true z]
    exact ⟨by show 4 ≤ 100000; decide, hp⟩
  · rw [if_neg z] at hp
    rw [decide_eq_false z]
    exact ⟨by show 4 ≤ 100000; decide, hp⟩
def S__law_gate : PF := fun ds T post _ => ∃ (i : Nat) (s : Int) (xs : List D) (a x b y : D), ds = [.tup xs, .tup [.int i, .int s]] ∧ xs[i]? = some (.tup [a, x, b, y]) ∧ post (.fz (.tup (gate s a x b y))) T
def G__law_gate : DG := (gSeq (gUnp (tgTup 4 (tgCons (tgN 2) (tgCons (tgN 3) (tgCons (tgN 4) (tgCons (tgN 5) tgNil))))) (dIxV 0 (dIxV 1 (dC (.int 0)))))
    (gRet (dIfE (dTest (dOp dEq (dIxV 1 (dC (.int 1))) (dC (.int 0)))) (dTup (aCons (dVar 2) (aCons (dVar 3) (aCons (dVar 4) (aCons (dVar 5) aNil))))) (dTup (aCons (dVar 4) (aCons (dVar 5) (aCons (dVar 2) (aCons (dVar 3) aNil))))))))
theorem m__law_gate : ∀ (ds : List D) T post ex, ds.length = 2 → S__law_gate ds T post ex → G__law_gate (endsOf post ex) (startD 6 ds T) := by
  rintro ds T post ex _ ⟨i, s, xs, a, x, b, y, rfl, hi, hp⟩
  refine ⟨trivial, trivial, .int i, rfl, _, atI_nat hi, rfl, trivial, .int s, rfl, rfl, rfl, ?_⟩
  rw [eqv_int]
  unfold gate at hp
  by_cases z : s = 0
  · rw [if_pos z] at hp
    rw [decide_eq_true z]
    exact ⟨by show 4 ≤ 100000; decide, hp⟩
  · rw [if_neg z] at hp
    rw [decide_eq_false z]
    exact ⟨by show 4 ≤ 100000; decide, hp⟩
def sides (m : Nat) : List D := (List.range m).flatMap fun i => [.tup [.int (i : Nat), .int 0], .tup [.int (i : Nat), .int 1]]
def S__law_sides : PF := fun ds T post _ => ∃ m : Nat, ds = [.int m] ∧ m ≤ 1000 ∧ post (.fz (.lst (sides m))) T
def G__law_sides : DG := (gSeq (gSet 1 (dLst aNil))
    (gSeq (gFor (iRng1D (dVar 0)) (tgN 2) (gSet 1 (dOp dAdd (dVar 1) (dLst (aCons (dTup (aCons (dVar 2) (aCons (dC (.int 0)) aNil))) (aCons (dTup (aCons (dVar 2) (aCons (dC (.int 1)) aNil))) aNil))))))
    (gRet (dVar 1))))
theorem sides_len (m : Nat) : (sides m).length = 2 * m := by
  unfold sides
  induction m with
  | zero => rfl
  | succ m ih => rw [List.range_succ, List.flatMap_append, List.length_append, ih]; simp; omega
theorem m__law_sides : ∀ (ds : List D) T post ex, ds.length = 1 → S__law_sides ds T post ex → G__law_sides (endsOf post ex) (startD 3 ds T) := by
  rintro ds T post ex _ ⟨m, rfl, hm, hp⟩
  refine ⟨by decide, ?_⟩
  have key : gFor (iRng1D (dVar 0)) (tgN 2) (gSet 1 (dOp dAdd (dVar 1) (dLst (aCons (dTup (aCons (dVar 2) (aCons (dC (.int 0)) aNil))) (aCons (dTup (aCons (dVar 2) (aCons (dC (.int 1)) aNil))) aNil))))) { endsOf post ex with nx := gRet (dVar 1) (endsOf post ex) } ⟨[some (.fz (.int m)), some (.fz (.lst [])), none], T⟩ := by
    refine gFor_inv (fun i s => ∃ v, s = ⟨[some (.fz (.int m)), some (.fz (.lst (sides i))), v], T⟩) (rangeD 0 m) (fun P h => ⟨by omega, by omega, h _ ⟨_, rfl⟩⟩) ?_ ?_
    · rintro i d s hi ⟨v, rfl⟩ R hR
      obtain ⟨rfl, hi2⟩ := rangeD_get hi
      have hl := sides_len i
      refine ⟨(by show 2 ≤ 100000; decide), (by show 2 ≤ 100000; decide), (by show 2 ≤ 100000; decide), (show (sides i).length + 2 ≤ 100000 by omega), hR _ ⟨some (.fz (.int ((0 : Int) + (i : Nat)))), ?_⟩⟩
      have e : sides (i + 1) = sides i ++ [.tup [.int ((0 : Int) + (i : Nat)), .int 0], .tup [.int ((0 : Int) + (i : Nat)), .int 1]] := by
        unfold sides
        rw [List.range_succ, List.flatMap_append, Int.zero_add]
        simp
      rw [e]
      rfl
    · rintro s ⟨v, rfl⟩
      rw [rangeD_len]
      exact hp
  exact key
theorem mem_sides {m : Nat} {d : D} (h : d ∈ sides m) : ∃ (i : Nat) (s : Int), i < m ∧ (s = 0 ∨ s = 1) ∧ d = .tup [.int i, .int s] := by
  unfold sides at h
  obtain ⟨i, hi, hd⟩ := List.mem_flatMap.mp h
  have hi := List.mem_range.mp hi
  simp only [List.mem_cons, List.not_mem_nil, or_false] at hd
  rcases hd with rfl | rfl
  · exact ⟨i, 0, hi, .inl rfl, rfl⟩
  · exact ⟨i, 1, hi, .inr rfl, rfl⟩
end Law


set_option Elab.async false
set_option linter.all false
set_option maxRecDepth 100000
set_option maxHeartbeats 4000000
namespace Law
open PySem L2 DL
variable [Tb]
/-! ### walks judged -/
/-- a pass's two rooms -/
def roomsOf (xs : List D) : D → Option (Int × Int)
  | .tup [.int i, .int s] => (match xs[i.toNat]? with
    | some (.tup [.int a, _, .int b, _]) => some (if s = 0 then (a, b) else (b, a))
    | _ => none)
  | _ => none
def hangs (xs : List D) : Int → List D → Bool
  | _, [] => true
  | r, st :: rest => match roomsOf xs st with
    | some (a, b) => if a = r then hangs xs b rest else false
    | none => false
theorem pass_is {m : Nat} {d : D} (h : isPass m d = true) : ∃ (i : Nat) (s : Int), i < m ∧ (s = 0 ∨ s = 1) ∧ d = .tup [.int i, .int s] := by
  unfold isPass at h
  split at h
  · rename_i a b
    simp only [Bool.and_eq_true] at h
    obtain ⟨h1, h2⟩ := h
    cases a with
    | int i =>
      cases b with
      | int s =>
        have h1 : (decide (0 ≤ i) && decide (i ≤ (m : Int) - 1)) = true := h1
        have h2 : (decide (0 ≤ s) && decide (s ≤ 1)) = true := h2
        simp only [Bool.and_eq_true, decide_eq_true_eq] at h1 h2
        obtain ⟨j, rfl⟩ := Int.eq_ofNat_of_zero_le h1.1
        exact ⟨j, s, by omega, by omega, rfl⟩
      | _ => cases h2
    | _ => cases h1
  · cases h
def S__hang_together : PF := fun ds T post _ => ∃ (n : Nat) (xs : List D) (r : Int) (ss : List D), ds = [houseD n xs, .int r, .tup ss] ∧ (∀ d ∈ xs, DoorOf n d) ∧ (∀ st ∈ ss, isPass xs.length st = true) ∧ post (.fz (.bl (hangs xs r ss))) T
def intIn : D → Int
  | .int i => i
  | _ => 0
def isWalk (n : Nat) (xs : List D) : D → Bool
  | .tup [r, .tup ps, .tup ss] => within r 0 ((n : Int) - 1) && (decide (ps.length = ss.length + 1) && ps.all isInt) && (ss.all (isPass xs.length) && hangs xs (intIn r) ss)
  | _ => false
def allPlain : D → Bool
  | .tup ps => ps.all plainD
  | _ => true
def allSteps : D → Bool
  | .tup ss => ss.all fun x => plainD x && plainDs x
  | _ => true
/-- what is_walk may be asked about -/
def askable : D → Bool
  | .tup [r, p, s] => plainD r && plainD p && plainD s && allPlain p && allSteps s
  | d => plainD d
def G_is_frame3 : DG := (gRet (dAnd (dCB cAll (aCons (dLc [5] (iSeq (dVar 4)) (tgN 5) tAll (dCall S_is_pass 2 (aCons (dVar 0) (aCons (dVar 5) aNil)))) aNil)) (dCall S__hang_together 3 (aCons (dVar 0) (aCons (dVar 2) (aCons (dVar 4) aNil))))))
theorem w3 {n : Nat} {xs ss : List D} {d p : D} {r : Int} {T : Nat} {post : Sl → Nat → Prop} {ex : Str → List (Str × D) → Nat → Prop} (hd : ∀ d ∈ xs, DoorOf n d) (hl : ss.length ≤ 10000) (hs : ∀ x ∈ ss, plainD x = true ∧ plainDs x = true)
    (hp : post (.fz (.bl (ss.all (isPass xs.length) && hangs xs r ss))) T) : G_is_frame3 (endsOf post ex) ⟨[some (.fz (houseD n xs)), some (.fz d), some (.fz (.int r)), some (.fz p), some (.fz (.tup ss)), none], T⟩ := by
  have key : dLc [5] (iSeq (dVar 4)) (tgN 5) tAll (dCall S_is_pass 2 (aCons (dVar 0) (aCons (dVar 5) aNil))) ⟨[some (.fz (houseD n xs)), some (.fz d), some (.fz (.int r)), some (.fz p), some (.fz (.tup ss)), none], T⟩
      (fun d s1 => cAll [d] fun z => match z with | .bl true => dCall S__hang_together 3 (aCons (dVar 0) (aCons (dVar 2) (aCons (dVar 4) aNil))) s1 (fun d s1 => post (.fz d) s1.T) (endsOf post ex).ex | .bl false => post (.fz (.bl false)) s1.T | _ => False) (endsOf post ex).ex := by
    refine lc_map (s0 := ⟨[some (.fz (houseD n xs)), some (.fz d), some (.fz (.int r)), some (.fz p), some (.fz (.tup ss)), none], T⟩) (fun x => .bl (isPass xs.length x)) ss (by omega) (fun Q h => ⟨ss, rfl, h _ rfl⟩) rfl (fun x hx R hR => ?_) ?_
    · obtain ⟨p1, p2⟩ := hs x hx
      exact ⟨rfl, n, xs, x, rfl, p1, p2, hR _ rfl⟩
    · refine ⟨ss.map (isPass xs.length), bls_map _ ss, ?_⟩
      rw [show (ss.map (isPass xs.length)).all id = ss.all (isPass xs.length) from by simp [List.all_map, Function.comp_def]]
      cases z : ss.all (isPass xs.length) with
      | false =>
        rw [z] at hp
        exact hp
      | true =>
        rw [z, Bool.true_and] at hp
        exact ⟨rfl, n, xs, r, ss, rfl, hd, fun st hst => List.all_eq_true.mp z st hst, hp⟩
  exact key
end Law


set_option Elab.async false
set_option linter.all false
set_option maxRecDepth 100000
set_option maxHeartbeats 4000000
namespace Law
open PySem L2 DL
variable [Tb]
def S__law_is_whole : PF := S_is_number
def G__law_is_whole : DG := (gRet (dAnd (dIsTy "int" (dVar 0)) (dNot (dIsTy "bool" (dVar 0)))))
theorem m__law_is_whole : ∀ (ds : List D) T post ex, ds.length = 1 → S__law_is_whole ds T post ex → G__law_is_whole (endsOf post ex) (startD 1 ds T) := m_is_number
/-- where passes lead -/
def goes (xs : List D) : Int → List D → Option Int
  | r, [] => some r
  | r, st :: rest => match roomsOf xs st with
    | some (a, b) => if a = r then goes xs b rest else none
    | none => none
theorem hangs_goes {xs : List D} : ∀ (ss : List D) (r : Int), hangs xs r ss = (goes xs r ss).isSome
  | [], r => rfl
  | st :: rest, r => by
    unfold hangs goes
    cases roomsOf xs st with
    | none => rfl
    | some p =>
      obtain ⟨a, b⟩ := p
      by_cases z : a = r
      · simp only [if_pos z]
        exact hangs_goes rest b
      · simp only [if_neg z]
        rfl
theorem goes_app {xs : List D} : ∀ (ss ts : List D) (r e : Int), goes xs r ss = some e → goes xs r (ss ++ ts) = goes xs e ts
  | [], ts, r, e, h => by
    cases h
    rfl
  | st :: rest, ts, r, e, h => by
    unfold goes at h
    rw [List.cons_append]
    conv => lhs; unfold goes
    cases q : roomsOf xs st with
    | none => rw [q] at h; cases h
    | some p =>
      obtain ⟨a, b⟩ := p
      rw [q] at h
      by_cases z : a = r
      · simp only [if_pos z] at h ⊢
        exact goes_app rest ts b e h
      · simp only [if_neg z] at h
        cases h
/-- a pass of good doors, seen -/
theorem pass_see {n : Nat} {xs : List D} (hd : ∀ d ∈ xs, DoorIs n d) {st : D} (h : isPass xs.length st = true) : ∃ (i : Nat) (s : Int) (a b : Nat) (x y : Int), st = .tup [.int i, .int s] ∧ (s = 0 ∨ s = 1) ∧ i < xs.length ∧ xs[i]? = some (.tup [.int a, .int x, .int b, .int y]) ∧ a < n ∧ b < n ∧ sizeOk x ∧ sizeOk y := by
  obtain ⟨i, s, hi, hs, rfl⟩ := pass_is h
  obtain ⟨a, b, x, y, ed, la, lb, sx, sy⟩ := (hd xs[i] (List.getElem_mem _)).ex
  exact ⟨i, s, a, b, x, y, rfl, hs, hi, by rw [List.getElem?_eq_getElem hi, ed], la, lb, sx, sy⟩
def pullOk (d : D) : Prop := ∃ z : Int, d = .int z ∧ -10000 ≤ z ∧ z ≤ 10000
end Law


set_option Elab.async false
set_option linter.all false
set_option maxRecDepth 100000
set_option maxHeartbeats 4000000
namespace Law
open PySem L2 DL
variable [Tb]
/-! ### walks drawn -/
structure Stroll (n : Nat) (xs : List D) (r : Int) (ps ss : List D) (e : Int) : Prop where
  pu : ∀ d ∈ ps, pullOk d
  st : ∀ d ∈ ss, isPass xs.length d = true
  go : goes xs r ss = some e
  en : ∃ k : Nat, e = k ∧ k < n
/-- one pass more -/
theorem Stroll.more {n : Nat} {xs ps ss : List D} {r e : Int} (h : Stroll n xs r ps ss e) (hd : ∀ d ∈ xs, DoorIs n d) {p st : D} (hp : pullOk p) (hs : isPass xs.length st = true) (ha : ∃ b, roomsOf xs st = some (e, b)) : ∃ b, roomsOf xs st = some (e, b) ∧ Stroll n xs r (ps ++ [p]) (ss ++ [st]) b := by
  obtain ⟨b, hb⟩ := ha
  refine ⟨b, hb, fun d hd => ?_, fun d hd => ?_, ?_, ?_⟩
  · rcases List.mem_append.mp hd with q | q
    · exact h.pu d q
    · rw [List.mem_singleton.mp q]; exact hp
  · rcases List.mem_append.mp hd with q | q
    · exact h.st d q
    · rw [List.mem_singleton.mp q]; exact hs
  · rw [goes_app ss [st] r e h.go]
    unfold goes
    rw [hb]
    simp [goes]
  · obtain ⟨i, s, a, c, x, y, rfl, hs', hi, ej, la, lc, _, _⟩ := pass_see hd hs
    unfold roomsOf at hb
    simp [ej] at hb
    by_cases z : s = 0
    · rw [if_pos z] at hb
      cases hb
      exact ⟨c, rfl, lc⟩
    · rw [if_neg z] at hb
      cases hb
      exact ⟨a, rfl, la⟩
theorem room_seen {xs : List D} {i : Nat} {s : Int} {a b : Nat} {x y : D} (ej : xs[i]? = some (.tup [.int a, x, .int b, y])) : roomsOf xs (.tup [.int i, .int s]) = some (if s = 0 then ((a : Int), (b : Int)) else ((b : Int), (a : Int))) := by
  unfold roomsOf
  simp [ej]
theorem atI_last {l : D} (init : List D) : atI (init ++ [l]) (-1) = some l := by
  unfold atI ixN
  have e : (-1 + (((init ++ [l]).length : Nat) : Int)).toNat = init.length := by simp; omega
  have e2 : -(((init ++ [l]).length : Nat) : Int) ≤ -1 := by simp; omega
  rw [if_neg (by omega), if_pos e2, e]
  simp
theorem eqv_nil (ds : List D) : PyData.eqv (py (.lst ds)) (py (.lst [])) = ds.isEmpty := by
  cases ds <;> simp [py, pyL, PyData.eqv, PyData.eqvAll]
end Law


set_option Elab.async false
set_option linter.all false
set_option maxRecDepth 100000
set_option maxHeartbeats 4000000
namespace Law
open PySem L2 DL
variable [Tb]
/-! ### ends of walks -/
end Law


set_option Elab.async false
set_option linter.all false
set_option maxRecDepth 100000
set_option maxHeartbeats 4000000
namespace Law
open PySem L2 DL
variable [Tb]
/-! ### walks backwards -/
def walkD (r : Int) (ps ss : List D) : D := .tup [.int r, .tup ps, .tup ss]
/-- a walk of a good house -/
structure WalkOf (n : Nat) (xs : List D) (r : Int) (ps ss : List D) (e : Int) : Prop where
  pu : ∀ d ∈ ps, ∃ z : Int, d = .int z
  st : ∀ d ∈ ss, isPass xs.length d = true
  go : goes xs r ss = some e
  ln : ps.length = ss.length + 1
  mx : ss.length ≤ 9000
end Law


set_option Elab.async false
set_option linter.all false
set_option maxRecDepth 100000
set_option maxHeartbeats 4000000
namespace Law
open PySem L2 DL
variable [Tb]
/-! ### rooms of a walk, and the program's own walk backwards -/
end Law


set_option Elab.async false
set_option linter.all false
set_option maxRecDepth 100000
set_option maxHeartbeats 4000000
namespace Law
open PySem L2 DL
variable [Tb]
/-! ### back, and rooms asked for -/
theorem isWalk_of {n : Nat} {xs ps ss : List D} {r e : Int} (hw : WalkOf n xs r ps ss e) (h0 : 0 ≤ r) (h1 : r < n) : isWalk n xs (walkD r ps ss) = true := by
  have a1 : within (.int r) 0 ((n : Int) - 1) = true := by
    simp [within]
    omega
  have a2 : ps.all isInt = true := List.all_eq_true.mpr fun d hd => by
    obtain ⟨z, rfl⟩ := hw.pu d hd
    rfl
  have a3 : ss.all (isPass xs.length) = true := List.all_eq_true.mpr hw.st
  have a4 : hangs xs r ss = true := by
    rw [hangs_goes, hw.go]
    rfl
  show (within (.int r) 0 ((n : Int) - 1) && (decide (ps.length = ss.length + 1) && ps.all isInt) && (ss.all (isPass xs.length) && hangs xs r ss)) = true
  rw [a1, a2, a3, a4, decide_eq_true hw.ln]
  rfl
def S_need_room : PF := fun ds T post ex => ∃ n xs d, ds = [houseD n xs, d] ∧ plainD d = true ∧ (within d 0 ((n : Int) - 1) = true → post (.fz .non) T) ∧ (within d 0 ((n : Int) - 1) = false → ex "BadRoom" [] T)
def G_need_room : DG := (gIf (tNotD (dTest (dCall S_is_room 2 (aCons (dVar 0) (aCons (dVar 1) aNil))))) (gRaise "BadRoom") gNil)
theorem m_need_room : ∀ (ds : List D) T post ex, ds.length = 2 → S_need_room ds T post ex → G_need_room (endsOf post ex) (startD 2 ds T) := by
  rintro ds T post ex _ ⟨n, xs, d, rfl, hd, h1, h2⟩
  refine ⟨rfl, n, xs, d, rfl, hd, ?_⟩
  cases e : within d 0 ((n : Int) - 1) with
  | true => exact h1 e
  | false => exact h2 e
end Law


set_option Elab.async false
set_option linter.all false
set_option maxRecDepth 100000
set_option maxHeartbeats 4000000
namespace Law
open PySem L2 DL
variable [Tb]
/-! ### walks joined -/
end Law


set_option Elab.async false
set_option linter.all false
set_option maxRecDepth 100000
set_option maxHeartbeats 4000000
namespace Law
open PySem L2 DL
variable [Tb]
/-! ### three walks, one after another -/
theorem Stroll.walk {n : Nat} {xs ps ss : List D} {r e : Int} (h : Stroll n xs r ps ss e) (hl : ps.length = ss.length + 1) (hm : ss.length ≤ 9000) : WalkOf n xs r ps ss e :=
  ⟨fun d hd => by
    obtain ⟨z, rfl, _⟩ := h.pu d hd
    exact ⟨z, rfl⟩, h.st, h.go, hl, hm⟩
end Law


set_option Elab.async false
set_option linter.all false
set_option maxRecDepth 100000
set_option maxHeartbeats 4000000
namespace DL
open PySem L2
variable [Tb]
/-! ### any, is not True, isinstance of two types -/
section
variable {X : Cx} {W : WX} {a : Expr} {Fa : DF} {pos p : Pos}
def dNotB : D → D → (D → Prop) → Prop
  | .bl a, .bl b, P => P (.bl (!decide (a = b)))
  | _, _, _ => False
theorem o_notB : OpD X (compareOp .IsNot) dNotB := by
  refine ⟨_, op_notBl, fun q L H0 B0 σ H s B x y v u P Q t rx ry h r => ?_⟩
  unfold dNotB at h
  split at h
  · rw [rep_bl rx, rep_bl ry]
    exact ⟨_, _, rfl, rfl, R1.val r t bl_rep h⟩
  · exact h.elim
def kitB2 (t n m : String) : Option Bool := match kitB t n with
  | some true => some true
  | some false => kitB t m
  | none => none
theorem kit_two {K : PySem.W.Frag} {t n m : String} {r : Bool} (h : kitB2 t n m = some r) : PySem.W.kitAny K (.type t) [.type n, .type m] = some r := by
  unfold kitB2 at h
  split at h
  · rename_i e
    cases h
    unfold PySem.W.kitAny
    rw [kit_ty e]
  · rename_i e
    unfold PySem.W.kitAny
    rw [kit_ty e]
    dsimp only
    unfold PySem.W.kitAny
    rw [kit_ty h]
    cases r <;> rfl
  · cases h
def dIsTy2 (n m : String) (F : DF) : DF := fun s P ex => F s (fun d s1 => ∃ t r, tyName d = some t ∧ kitB2 t n m = some r ∧ P (.bl r) s1) ex
theorem d_isTy2 {n m : String} {x y : Str} {p2 p3 tp : Pos} {x1} (hm : X.mg "isinstance" = none) (hmx : X.mg x = none) (hmy : X.mg y = none) (hv : bootBuiltins x = some (.type n)) (hw : bootBuiltins y = some (.type m)) (ha : DPE X W a Fa) (hg : Gl X "isinstance" := by rfl) (hgx : Gl X x := by rfl) (hgy : Gl X y := by rfl) (hn : x ≠ "__name__" := by decide) (hny : y ≠ "__name__" := by decide)
    (hdb : (x == ("__debug__" : Str)) = false := by decide) (hdy : (y == ("__debug__" : Str)) = false := by decide)
    (he : starEach [a, .Tuple [.Name x p2, .Name y p3] x1 tp] X.env = (false, eval a X.env) :: starEach [.Tuple [.Name x p2, .Name y p3] x1 tp] X.env := by rfl)
    (he2 : starEach [.Tuple [.Name x p2, .Name y p3] x1 tp] X.env = (false, eval (.Tuple [.Name x p2, .Name y p3] x1 tp) X.env) :: starEach [] X.env := by rfl)
    (he3 : starEach [.Name x p2, .Name y p3] X.env = (false, eval (.Name x p2) X.env) :: starEach [.Name y p3] X.env := by rfl) (he4 : starEach [.Name y p3] X.env = (false, eval (.Name y p3) X.env) :: starEach [] X.env := by rfl)
    (hpl : (backTo pos (starEach [.Tuple [.Name x p2, .Name y p3] x1 tp] X.env)).any (·.1) = false := by rfl) :
    DPE X W (.Call (.Name "isinstance" p) [a, .Tuple [.Name x p2, .Name y p3] x1 tp] [] pos) (dIsTy2 n m Fa) := by
  refine ⟨pe_mono (fun σ H Q ⟨q, L, H0, B0, s, B, P, ex, t, f, rt, e⟩ => ?_) (pe_callB call_isiT hg hm (by decide +kernel) (pa_cons ha.pe (pa_cons (pe_tup (pa_cons (pe_bltn (v := .ty n) hgx hmx hv rfl hn hdb) (pa_cons (pe_bltn (v := .ty m) hgy hmy hw rfl hny hdy) pa_nil he4) he3)) pa_nil he2) he) (by decide) (by decide) he hpl)⟩
  refine ⟨q, L, H0, B0, s, B, _, ex, t, f, fun v H1 x s1 B1 t1 l1 r1 ⟨ty, r, h1, h2, p1⟩ => ?_, e⟩
  refine ⟨(by decide : 2 ≤ sizeLine), fun tp hp => ?_⟩
  have hB := t1.bs.nB hp
  have t2 := t1.alloc (o := HO.tup [.ty n, .ty m]) hp (fun _ z => by cases z)
  exact ⟨v, tp, [.ty n, .ty m], .type ty, [.type n, .type m], r, rfl, upd_same, .cons (.ty n) (.cons (.ty m) .nil), tyX_of t2.bs.leH h1 (r1.mono (Le.upd hB)), kit_two h2, rt _ _ _ _ _ t2 (l1.trans (Le.upd hB)) bl_rep p1⟩
end
/-! ### a dict of one pair, its key a tuple -/
section
variable {X : Cx} {W : WX} {es : List Expr} {ve : Expr} {G : DFA} {F : DF} {pos kp : Pos}
end
end DL


set_option Elab.async false
set_option linter.all false
set_option maxRecDepth 100000
set_option maxHeartbeats 4000000
namespace DL
open PySem L2
/-! ### defs called by keywords, from the head's facts -/
section
variable {P : Program} {w : World} {K : PySem.W.Frag} {mg : Str → Option Value} {base : Heap} {x : Str} {st : Stmt} {ps ks : List Str} {π : List Nat}
theorem knK_of [Tb] {CX : CXT} {k : Nat} {S : PF} (D : DefAt K mg x st ps)
    (hb : ∀ (kV doc pm : Value) (an : Option Addr) (cdv ct : Value) (ws : List Value), ws.length = ks.length → bindArgs (PySem.W.fnOf x x (defArgs st) (defBody st) (defScope st) .none kV doc pm an cdv ct) ⟨[], ks.zip ws⟩ = pure (ps.zip (pick π .none [] ws)))
    (ok : ∀ f fd, Fun K x x st f fd → FnOk P w K mg base CX k f fd ps (spD K mg ps.length S)) : KnK P w K mg base CX k x ps ks π S := by
  obtain ⟨f, fd, F, m, kp, b⟩ := D.ex
  refine ⟨f, fd, ok f fd F, m, kp, ⟨fun s us ws _ h1 h2 => ?_, fun r q => vals_pick π r q⟩⟩
  cases us with
  | cons a r => cases h1
  | nil =>
    obtain ⟨oc, od, kV, doc, pm, an, cdv, ct, osl, rfl, lk, hcd⟩ := F.ex
    exact .of_eq (hb kV doc pm an cdv ct ws h2)
theorem KnK.up [Tb] {CX : CXT} {k j : Nat} {S : PF} (h : KnK P w K mg base CX k x ps ks π S) (hk : k ≤ j) : KnK P w K mg base CX j x ps ks π S := by
  obtain ⟨f, fd, o, r⟩ := h.ex
  exact ⟨f, fd, o.mono hk, r⟩
end
theorem KnI.up [Tb] {P : Program} {w : World} {K : PySem.W.Frag} {mg : Str → Option Value} {base : Heap} {CX : CXT} {x : Str} {ps : List Str} {k j : Nat} {S : PF} (h : KnI P w K mg base CX k x ps S) (hk : k ≤ j) : KnI P w K mg base CX j x ps S := by
  obtain ⟨C, f, fd, m, o, r⟩ := h.ex
  exact ⟨C, f, fd, m, o.mono hk, r⟩
theorem divW {i n : Int} (h0 : 0 < n) (h1 : n < 35074662110434038747627587960280857993524015880330828824075798024790963850563322203657080886584969261653150406795437517399294548941469959754171038918004700847889956485329097264486802711583462946536682184340138629451355458264946342525383619389314960644665052551751442335509249173361130355796109709885580674313954210217657847432626760733004753275317192133674703563372783297041993227052663333668509952000175053355529058880434182538386715523683713208549376) : CDivW i n := by
  refine wide_div (b := 1500) h0 ?_ (by decide) (by decide)
  have e : (2 : Nat) ^ 1500 = 35074662110434038747627587960280857993524015880330828824075798024790963850563322203657080886584969261653150406795437517399294548941469959754171038918004700847889956485329097264486802711583462946536682184340138629451355458264946342525383619389314960644665052551751442335509249173361130355796109709885580674313954210217657847432626760733004753275317192133674703563372783297041993227052663333668509952000175053355529058880434182538386715523683713208549376 := by decide +kernel
  rw [e]
  omega
/-! ### the law, where it makes lambdas itself -/
section
variable [Tb] {P : Program} {w : World} {K : PySem.W.Frag} {mg : Str → Option Value} {base : Heap}
end
end DL


set_option Elab.async false
set_option linter.all false
set_option maxRecDepth 100000
set_option maxHeartbeats 4000000
namespace DL
open PySem
open AutoSeq1 (wpAny_loadPart')
/-! ### enumerate, of a tuple -/
abbrev tupIt (l : Addr) : Obj := { cls := .type "tuple_iterator", data := .fields #[.ref l, .int 0 0] }
abbrev enumOf (it : Addr) : Obj := { cls := .type "enumerate", data := .fields #[.none, .bool false, .ref it, rawInt 0, .none, .none] }
theorem enum_newT (l : Addr) (its : Array Value) (n : Nat) (dct : Option Addr) (sl : Array (Option Value)) :
    Meets (Builtin.«enumerate.__new__» ⟨[.type "enumerate", .ref l], []⟩) (fun _ R s => s.heap.get? l = some { cls := .type "tuple", dict := dct, data := .seq its n, slots := sl } ∧ R (.ok (.ret (.ref (s.heap.push (tupIt l)).objs.size))) { s with heap := (s.heap.push (tupIt l)).push (enumOf s.heap.objs.size) }) :=
  .of_wp fun pg w A R s h => by
    obtain ⟨hp, g, d, tk, os⟩ := s; obtain ⟨hl, h⟩ := h
    have hsub := sub_enumerate; have hT : Heap.IsTuple (Shared.heap ⟨hp, g, d, tk, os⟩) l its := ⟨_, hl, rfl, n, rfl⟩
    wp_walk using wpAny_loadPart' hl
    refine wpAny_stack_any fun st => wpAny_pure ?_
    split
    · rename_i c _ _ _ _ _
      cases (c == Value.type "enumerate") <;> (wp_walk using wpAny_loadPart' hl, wpAny_pyIter_tuple hT) <;> exact ⟨_, rfl, h⟩
    · wp_walk using wpAny_loadPart' hl, wpAny_pyIter_tuple hT
      exact ⟨_, rfl, h⟩
theorem call_enumT {prog : Program} {w : World} {A : Around} {E Q : Value → Shared → Prop} {s : Shared} {l : Addr} {its : Array Value} (hT : s.heap.IsTuple l its)
    (h : ∀ h', IsEnum h' (s.heap.objs.size + 1) s.heap.objs.size 0 .none → h'.IsTupleIter s.heap.objs.size l 0 → h'.objs.size = s.heap.objs.size + 2 → (∀ b o, s.heap.get? b = some o → h'.get? b = some o) → Q (.ref (s.heap.objs.size + 1)) { s with heap := h' }) : wpAny (model prog w) A (call (.type "enumerate") [.ref l]) Q E s := by
  obtain ⟨⟨c, dct, dt, sl⟩, hl, hc, n, hd⟩ := hT
  simp only at hc hd
  subst hc hd
  refine callType_new F.called_enumerate (by decide) (F.typeCall_enumerate_1 _) (F.newCall_enumerate_1 _) (fun ob => F.args_object_init_2 ob _) F.entry_enumerate_new (enum_newT l its n dct sl) ⟨hl, ?_⟩
  have hz : (s.heap.push (tupIt l)).objs.size = s.heap.objs.size + 1 := Heap.size_push ..
  show _ ∧ _
  rw [hz]
  have he : IsEnum ((s.heap.push (tupIt l)).push (enumOf s.heap.objs.size)) (s.heap.objs.size + 1) s.heap.objs.size 0 .none := by
    have q := Heap.get?_push_size (s.heap.push (tupIt l)) (o := enumOf s.heap.objs.size) rfl
    rw [hz] at q
    exact q
  refine ⟨⟨_, he, rfl⟩, h _ he ⟨_, Heap.get?_push_of_some _ (Heap.get?_push_size _ rfl), rfl, rfl⟩ (by rw [Heap.size_push, hz]) fun b o x => Heap.get?_push_of_some _ (Heap.get?_push_of_some _ x)⟩
end DL


set_option Elab.async false
set_option linter.all false
set_option maxRecDepth 100000
set_option maxHeartbeats 4000000
namespace DL
open PySem L2 PySem.Spec PyProof.Rows
/-- the tuple at a as it stands at each turn, each item in a new pair -/
def IteT (K : PySem.W.Frag) (a : Addr) : It :=
  ⟨fun i H => ∃ (xs : List V) (x : V), SqT K H a xs ∧ xs[i]? = some x, fun i H v H' => ∃ (T : Addr) (x : V), v = .ref T ∧ H T = none ∧ H' = upd H T (.tup [.int (i : Nat), x]) ∧ (∀ xs, SqT K H a xs → xs[i]? = some x), fun i H => ∃ xs : List V, SqT K H a xs ∧ xs.length = i⟩
theorem turn_enT {P : Program} {w : World} {K : PySem.W.Frag} {elts : List Expr} {kk : Nat} {tpos : Pos} (a e it : Addr) (hne : a ≠ it) (hae : a ≠ e) :
    Turn P w K (.Tuple elts kk tpos) (IteT K a) [e, it] e (fun i h => ((∃ old, IsEnum h e it ((i : Nat) : Int) old) ∧ h.IsTupleIter it a i) ∧ e ≠ it) where
  mem := by simp
  obj := fun i h st b hb => by
    obtain ⟨⟨⟨old, he⟩, ⟨o, ho, hc, hd⟩⟩, _⟩ := st
    have e' : b = e ∨ b = it := by simpa using hb
    rcases e' with z | z <;> rw [z]
    · exact ⟨_, he, fun v q => nomatch q⟩
    · exact ⟨o, ho, fun v q => by rw [hd] at q; cases q⟩
  keep := fun i h h' st k => let ⟨⟨⟨old, he⟩, hi⟩, hn⟩ := st; ⟨⟨⟨old, k e (by simp) _ he⟩, hi.at fun o q => k it (by simp) o q⟩, hn⟩
  item := by
    intro X hP hw hK hc i pins s σ H E I hf st hg
    subst hP hw hK
    obtain ⟨⟨⟨old, he⟩, hit⟩, hn⟩ := st
    obtain ⟨xs, x, hq, hx⟩ := hg
    obtain ⟨its, rv, p, hz⟩ := I.tuple hq
    obtain ⟨u, hu, ru⟩ := rv.get hx
    have hel : e < s.heap.objs.size := Heap.lt_size he
    have hil : it < s.heap.objs.size := by obtain ⟨_, q, _⟩ := hit; exact Heap.lt_size q
    have hli : i < its.toArray.size := by
      have := List.getElem?_eq_some_iff.mp hu
      simpa using this.1
    have D := Draws.tuple (prog := X.prog) (w := X.w) (A := X.A.in1) (I.ok.hd hc) it a hne its.toArray
    refine wpAny_pyNext_enum_itemD (i := i) D he ⟨hit, p⟩ hli hn (by simp [hn, Ne.symm hae]) fun y h' tk hP ho hs' hT hsz hk => ?_
    have ey : y = u := by
      have h2 : its.toArray[i]? = some u := by simpa using hu
      rw [h2] at hP
      exact (Option.some.inj hP).symm
    subst ey
    refine ⟨_, rfl, wpAny_letOwnedTupleGo_enum (s := { s with heap := h', toks := tk + 1 }) ho fun h'' he' sb => ?_⟩
    have hT2 : h''.get? s.heap.objs.size = some { cls := .type "tuple", data := .seq #[.int i tk, y] } := (sb.2 _ (Nat.ne_of_gt hel)).trans hT
    have new : ObjOk X.prog X.w (upd H s.heap.objs.size (.tup [.int (i : Nat), x])) h'' s.heap.objs.size (.tup [.int (i : Nat), x]) := ⟨by show 2 ≤ sizeLine; decide, [.int i tk, y], .cons ⟨_, rfl⟩ (.cons ru .nil), ⟨_, hT2, rfl, _, rfl⟩⟩
    have I1 : Inv X pins σ (upd H s.heap.objs.size (.tup [.int (i : Nat), x])) { s with heap := h'', toks := tk + 1 } := I.turnedNew (ch := [e, it]) (fun b ob hb q => (sb.2 b (fun z => hb (by simp [z]))).trans (hk b ob (fun z => hb (by simp [z])) (fun z => hb (by simp [z])) q)) hf (Nat.le_refl _) new
    refine ⟨.ref s.heap.objs.size, _, I1, rfl, ⟨_, x, rfl, I.hok.fresh (Nat.le_refl _), rfl, fun ys hy => by rw [I.tuple_inj hy hq]; exact hx⟩, ⟨⟨⟨y, ?_⟩, hs'.1.at fun o q => (sb.2 it (Ne.symm hn)).trans q⟩, hn⟩, fun b hb => ?_⟩
    · rw [show ((i + 1 : Nat) : Int) = (i : Int) + 1 from by omega]; exact he'
    · have hb' : b < s.heap.objs.size := by
        have e' : b = e ∨ b = it := by simpa using hb
        rcases e' with z | z <;> rw [z]
        · exact hel
        · exact hil
      rw [upd_ne (Nat.ne_of_lt hb')]
      exact (hf b hb).1
  done := by
    intro X hP hw hK hc i pins s σ H E I hf st hg
    subst hP hw hK
    obtain ⟨⟨⟨old, he⟩, hit⟩, hn⟩ := st
    obtain ⟨xs, hq, hx⟩ := hg
    obtain ⟨its, rv, p, hz⟩ := I.tuple hq
    obtain ⟨f0, f1, f2, f3, f4, f5⟩ := hf it (by simp)
    have hl := rv.length
    have D := Draws.tuple (prog := X.prog) (w := X.w) (A := X.A.in1) (I.ok.hd hc) it a hne its.toArray
    have ei : i = its.toArray.size := by simp; omega
    subst ei
    exact wpAny_pyNext_enum_endD D he ⟨hit, p⟩ fun h' eb => ⟨rfl, I.turned (t' := s.toks) (fun b o hb q => eb b o hb q) f0 f1 f3 f4 f5⟩
  self := fun A i s Q E st h => let ⟨⟨⟨_, he⟩, _⟩, _⟩ := st; wpAny_pyIter_enum he h
theorem walk_enT {K : PySem.W.Frag} {a : Addr} {xs : List V} : Walk (IteT K a) xs.length (fun H => SqT K H a xs) (YPair (fun i => some (.int (i : Nat))) (fun i => xs[i]?)) := by
  refine ⟨fun i _ hi q => ⟨xs, xs[i], q, by simp [hi]⟩, fun _ q => ⟨xs, q, rfl⟩, fun i H v H' _ q y => ?_⟩
  obtain ⟨T, x, h1, h2, h3, h4⟩ := y
  exact ⟨T, .int (i : Nat), x, h1, h2, h3, rfl, h4 xs q⟩
def iEnT (K : PySem.W.Frag) (ta : TA) : TI := fun σ H R => ta σ H fun vs H1 => ∃ a xs, vs = [.ref a] ∧ SqT K H1 a xs ∧ R (IteT K a) H1
theorem pi_enT {X : Cx} {e : Expr} {ta : TA} {p pos tpos : Pos} {elts : List Expr} {kk : Nat} (hg : Gl X "enumerate") (hm : X.mg "enumerate" = none) (ha : PA X [e] ta) (hs : starEach [e] X.env = [(false, eval e X.env)] := by rfl) : PI X (.Tuple elts kk tpos) (.Call (.Name "enumerate" p) [e] [] pos) (iEnT X.K ta) := by
  refine ⟨fun pins s σ H R I h => Call_ (ld_blt I hg hm boot_enumerate (PyProof.Rows.callWith_type1 (thn (ha.run pos pins s σ H _ I h) fun us s1 ⟨vs, H1, I1, r1, q1⟩ => ?_) hs rfl))⟩
  obtain ⟨a, xs, ex, hq, q⟩ := q1
  subst ex
  cases r1 with
  | cons r rr =>
    cases rr
    cases r
    obtain ⟨its, rv, p', hz⟩ := I1.tuple hq
    have ha' : a < s1.heap.objs.size := by obtain ⟨_, q, _⟩ := p'; exact Heap.lt_size q
    refine call_enumT p' fun h' he hit hsz hk => wpAny_pyIter_enum he ?_
    have I2 : Inv X pins σ H1 { s1 with heap := h' } := I1.kept (t' := s1.toks) hk
    refine ⟨s1.heap.objs.size + 1, [s1.heap.objs.size + 1, s1.heap.objs.size], _, _, H1, rfl, I2, turn_enT a (s1.heap.objs.size + 1) s1.heap.objs.size (Nat.ne_of_lt ha') (Nat.ne_of_lt (Nat.lt_succ_of_lt ha')), ⟨⟨⟨.none, he⟩, hit⟩, Nat.succ_ne_self _⟩, fun b hb => ?_, q⟩
    have hle : s1.heap.objs.size ≤ b := by
      have e' : b = s1.heap.objs.size + 1 ∨ b = s1.heap.objs.size := by simpa using hb
      rcases e' with z | z <;> rw [z]
      · exact Nat.le_add_right _ _
      · exact Nat.le_refl _
    exact I1.fpOk hle (I1.hok.fresh hle)
section
variable [Tb] {X : Cx} {W : WX} {a : Expr} {Fa : DF} {pos p tpos : Pos} {elts : List Expr} {kk : Nat}
def iEnumT (Fa : DF) : DFA := fun s P ex => Fa s (fun d s1 => match d with
  | .tup xs => P (zipD (rangeD 0 xs.length) xs) s1
  | _ => False) ex
theorem i_enumT (hm : X.mg "enumerate" = none) (ha : DPE X W a Fa) (hg : Gl X "enumerate" := by rfl) (hs : starEach [a] X.env = [(false, eval a X.env)] := by rfl) : DPI X W (.Tuple elts kk tpos) (.Call (.Name "enumerate" p) [a] [] pos) (iEnumT Fa) := by
  refine ⟨pi_mono (fun σ H R ⟨q, L, H0, B0, s, B, P, ex, t, f, rt, x⟩ => ⟨q, L, H0, B0, s, B, _, ex, t, f, fun v H1 d s1 B1 t1 l1 r1 p1 => ?_, x⟩) (pi_enT hg hm (pa_cons ha.pe pa_nil hs) hs)⟩
  dsimp only at p1
  split at p1
  · rename_i xs
    obtain ⟨u, us, rfl, h1, g1⟩ := rep_tup r1
    have hl : (zipD (rangeD 0 xs.length) xs).length = us.length := by rw [zipD_len, rangeD_len, Nat.min_self, repL_len g1]
    refine ⟨u, us, rfl, t1.bs.leH.sqT h1, rt _ _ _ _ _ t1 l1 ?_ p1⟩
    exact ⟨_, _, by rw [hl]; exact walk_enT (xs := us), fun H B' k1 k2 => (k1.trans k2).sqT h1, yields_pair (fun i x hi e => by
      cases e
      refine ⟨.int ((0 : Int) + (i : Nat)), ?_, by rw [Int.zero_add]; exact int_rep⟩
      rw [zipD_len, rangeD_len, Nat.min_self] at hi
      unfold rangeD
      simp [hi]) (fun i y _ e => repL_gets g1 e)⟩
  · exact p1.elim
end
end DL


set_option Elab.async false
set_option linter.all false
set_option maxRecDepth 100000
set_option maxHeartbeats 4000000
namespace DL
open PySem L2
variable [Tb]
section
variable {X : Cx} {W : WX} {a b d e : Expr} {Fa Fb Fd : DF} {x y z : Str} {px py pz pt pos p : Pos} {kt k2 : Nat} {pt2 : Pos} {i j l : Nat}
/-! ### three new lists at once -/
/-! ### x[e] = v, any index -/
def putN (s : DS) (i : Nat) (k : D) (d : D) (K : DS → Prop) : Prop := match s.sl[i]?, k with
  | some (some (.ow (.lst ds))), .int z => ∃ j, ixN ds.length z = some j ∧ K (s.put i (.ow (.lst (ds.set j d))))
  | _, _ => False
def gPutN (i : Nat) (F Fk : DF) : DG := fun E s => F s (fun d s1 => hasSl s1 i ∧ Fk s1 (fun k s2 => putN s2 i k d E.nx) E.ex) E.ex
theorem g_putN (i : Nat) {x : Str} {p1 p2 : Pos} (he : DPE X W e Fa) (hk : DPE X W b Fb) (hN : X.N[i]? = some x := by rfl) (hv : Vis X.env.scope x := by first | exact Or.inl rfl | exact Or.inr (Or.inl rfl) | exact Or.inr (Or.inr rfl))
    (hs : swapsWithSole [.Subscript (.Name x p1) b p2] e pos.line X.env = pure false := by rfl) (hw : swappedStores [.Subscript (.Name x p1) b p2] e X.env = pure none := by rfl) (h1 : (assignEach [.Subscript (.Name x p1) b p2] X.env).map (·.2) = [assign (.Subscript (.Name x p1) b p2) X.env] := by rfl)
    (ha : ∀ v, assign (.Subscript (.Name x p1) b p2) X.env v = (do
      let ov ← holding [v] (eval (.Name x p1) X.env)
      let iv ← holding [v, ov] (eval b X.env)
      standAt p2
      holding [v, ov, iv] (setItem ov iv v)
      release [v, ov, iv] []) := by intro _; rfl)
    (hd : (x == ("__debug__" : Str)) = false := by decide) (hcd : (x == ("__classdict__" : Str)) = false := by decide) : DPS X W (.Assign [.Subscript (.Name x p1) b p2] e pos) (gPutN i Fa Fb) := by
  refine ⟨ps_mono (fun D σ H ⟨q, L, H0, B0, s, B, E, t, g, r⟩ => ⟨q, L, H0, B0, s, B, _, E.ex, t, g, fun v H1 d s1 B1 t1 l1 r1 ⟨h0, f1⟩ => ?_, r.exs⟩) (ps_asg he.pe (pg_sub (pe_var hN hv hd hcd) hk.pe set_list ha) hs hw h1)⟩
  obtain ⟨o, ho⟩ := t1.slot h0
  refine ⟨o, ho, q, L, H0, B0, s1, B1, _, E.ex, t1, f1, fun u H2 k s2 B2 t2 l2 r2 f2 => ?_, r.exs.le l1⟩
  unfold putN at f2
  dsimp only at f2
  split at f2
  · rename_i ds z e1
    obtain ⟨j, h0, h2⟩ := f2
    obtain ⟨pp, xs, g1, g2, g3⟩ := t2.ownL e1
    rw [ho] at g1
    cases g1
    rw [rep_int r2]
    exact ⟨pp, xs, z, j, rfl, rfl, g2, by rw [repL_len g3]; exact h0, r.nx _ _ _ _ (t2.change (d' := .lst _) e1 ho ⟨_, rfl, repL_set g3 (r1.mono l2)⟩) (l1.trans l2) h2⟩
  · exact f2.elim
/-! ### an own list as a test -/
end
end DL


set_option Elab.async false
set_option linter.all false
set_option maxRecDepth 100000
set_option maxHeartbeats 4000000
namespace Law
open PySem L2 DL
variable [Tb]
/-! ### passes as pairs; plain forms -/
abbrev P2 := Nat × Int
def stD (q : P2) : D := .tup [.int q.1, .int q.2]
def turn (q : P2) : P2 := (q.1, 1 - q.2)
def lvN (xs : List D) (q : P2) : Int := match xs[q.1]? with
  | some (.tup [_, .int x, _, .int y]) => if q.2 = 0 then x else y
  | _ => 1
def arN (xs : List D) (q : P2) : Int := match xs[q.1]? with
  | some (.tup [_, .int x, _, .int y]) => if q.2 = 0 then y else x
  | _ => 1
def mag (i : Int) : Int := if i < 0 then -i else i
theorem mag_pos {i : Int} (h : i ≠ 0) : 0 < mag i := by unfold mag; split <;> omega
theorem turn_turn (q : P2) : turn (turn q) = q := by
  obtain ⟨i, s⟩ := q
  show (i, 1 - (1 - s)) = (i, s)
  rw [show (1 : Int) - (1 - s) = s from by omega]
/-- a pass of a good house -/
structure Pas (n : Nat) (xs : List D) (q : P2) : Prop where
  sd : q.2 = 0 ∨ q.2 = 1
  ex : ∃ (a b : Nat) (x y : Int), xs[q.1]? = some (.tup [.int a, .int x, .int b, .int y]) ∧ a < n ∧ b < n ∧ sizeOk x ∧ sizeOk y
theorem Pas.turn {n : Nat} {xs : List D} {q : P2} (h : Pas n xs q) : Pas n xs (turn q) := ⟨by
  rcases h.sd with e | e
  · right; show 1 - q.2 = 1; omega
  · left; show 1 - q.2 = 0; omega, h.ex⟩
theorem lv_turn {n : Nat} {xs : List D} {q : P2} (h : Pas n xs q) : lvN xs (turn q) = arN xs q := by
  obtain ⟨a, b, x, y, e, _⟩ := h.ex
  unfold lvN arN
  rw [show (turn q).1 = q.1 from rfl, e]
  show (if 1 - q.2 = 0 then x else y) = (if q.2 = 0 then y else x)
  rcases h.sd with z | z <;> rw [z] <;> rfl
theorem ar_turn {n : Nat} {xs : List D} {q : P2} (h : Pas n xs q) : arN xs (turn q) = lvN xs q := by
  have := lv_turn h.turn
  rw [turn_turn] at this
  exact this.symm
theorem Pas.size {n : Nat} {xs : List D} {q : P2} (h : Pas n xs q) : sizeOk (lvN xs q) ∧ sizeOk (arN xs q) := by
  obtain ⟨a, b, x, y, e, _, _, sx, sy⟩ := h.ex
  unfold lvN arN
  rw [e]
  show sizeOk (if q.2 = 0 then x else y) ∧ sizeOk (if q.2 = 0 then y else x)
  split <;> exact ⟨‹_›, ‹_›⟩
theorem rooms_ex {n : Nat} {xs : List D} {q : P2} (h : Pas n xs q) : ∃ a b : Nat, roomsOf xs (stD q) = some ((a : Int), (b : Int)) ∧ a < n ∧ b < n := by
  obtain ⟨c, d, x, y, ed, lc, ld, _⟩ := h.ex
  have e1 : roomsOf xs (stD q) = _ := room_seen (s := q.2) ed
  by_cases z : q.2 = 0
  · exact ⟨c, d, by rw [e1, if_pos z], lc, ld⟩
  · exact ⟨d, c, by rw [e1, if_neg z], ld, lc⟩
abbrev RZ3 := List P2 × List Int × Int
def redS (xs : List D) (z : RZ3) (w : P2 × Int) : RZ3 :=
  if z.2.2.fmod (mag (lvN xs w.1)) = 0 ∧ z.1.getLast? = some (turn w.1) then (z.1.dropLast, z.2.1.dropLast, z.2.1.getLastD 0 + (w.2 + arN xs w.1 * ((z.2.2 - z.2.2.fmod (mag (lvN xs w.1))).fdiv (lvN xs w.1))))
  else (z.1 ++ [w.1], z.2.1 ++ [z.2.2.fmod (mag (lvN xs w.1))], w.2 + arN xs w.1 * ((z.2.2 - z.2.2.fmod (mag (lvN xs w.1))).fdiv (lvN xs w.1)))
def Rng (xs : List D) (zs : List Int) (q : P2) (i : Nat) : Prop := 0 ≤ zs.getD i 0 ∧ zs.getD i 0 < mag (lvN xs q)
def Spot (xs : List D) (zs : List Int) (qs : List P2) (q : P2) (i : Nat) : Prop := qs[i + 1]? = some (turn q) ∧ (zs.getD (i + 1) 0).fmod (mag (arN xs q)) = 0
def Plain (xs : List D) (zs : List Int) (qs : List P2) : Prop := ∀ i q, qs[i]? = some q → Rng xs zs q i ∧ ¬ Spot xs zs qs q i
theorem getD_app {zs : List Int} {z : Int} {i : Nat} (h : i < zs.length) : (zs ++ [z]).getD i 0 = zs.getD i 0 := by
  rw [List.getD_eq_getElem?_getD, List.getD_eq_getElem?_getD, List.getElem?_append_left h]
theorem getD_last {zs : List Int} {z : Int} : (zs ++ [z]).getD zs.length 0 = z := by
  rw [List.getD_eq_getElem?_getD, List.getElem?_append_right (Nat.le_refl _)]
  simp
theorem getD_dropLast {zs : List Int} {i : Nat} (h : i < zs.length - 1) : zs.dropLast.getD i 0 = zs.getD i 0 := by
  rw [List.getD_eq_getElem?_getD, List.getD_eq_getElem?_getD, List.getElem?_dropLast, if_pos h]
theorem fmod_rng {h m : Int} (hm : 0 < m) : 0 ≤ h.fmod m ∧ h.fmod m < m := by
  rw [Int.fmod_eq_emod_of_nonneg _ (by omega)]
  exact ⟨Int.emod_nonneg _ (by omega), Int.emod_lt_of_pos _ hm⟩
theorem fmod_self {h m : Int} (h0 : 0 ≤ h) (h1 : h < m) : h.fmod m = h := by
  rw [Int.fmod_eq_emod_of_nonneg _ (by omega)]
  exact Int.emod_eq_of_lt h0 h1
/-- what the passes gone through have come to is plain -/
theorem red_plain {n : Nat} {xs : List D} {K : List P2} {A : List Int} {h : Int} {w : P2 × Int} (hl : A.length = K.length) (hP : Plain xs A K) (hK : ∀ q ∈ K, Pas n xs q) (hw : Pas n xs w.1) : (redS xs (K, A, h) w).2.1.length = (redS xs (K, A, h) w).1.length ∧ Plain xs (redS xs (K, A, h) w).2.1 (redS xs (K, A, h) w).1 := by
  unfold redS
  have hm := mag_pos hw.size.1.1
  obtain ⟨g0, g1⟩ := fmod_rng (h := h) hm
  dsimp only
  split
  · refine ⟨by simp [hl], fun i q e => ?_⟩
    rw [List.getElem?_dropLast] at e
    split at e
    · rename_i hi
      obtain ⟨r, ns⟩ := hP i q e
      refine ⟨?_, fun sp => ns ?_⟩
      · unfold Rng at r ⊢
        rw [getD_dropLast (by rw [hl]; exact hi)]
        exact r
      · obtain ⟨s1, s2⟩ := sp
        rw [List.getElem?_dropLast] at s1
        split at s1
        · rename_i hi2
          exact ⟨s1, by rw [getD_dropLast (by rw [hl]; exact hi2)] at s2; exact s2⟩
        · cases s1
    · cases e
  · rename_i nc
    refine ⟨by simp [hl], fun i q e => ?_⟩
    by_cases hi : i < K.length
    · rw [List.getElem?_append_left hi] at e
      obtain ⟨r, ns⟩ := hP i q e
      refine ⟨?_, fun sp => ?_⟩
      · unfold Rng at r ⊢
        rw [getD_app (by rw [hl]; exact hi)]
        exact r
      · obtain ⟨s1, s2⟩ := sp
        by_cases hi2 : i + 1 < K.length
        · rw [List.getElem?_append_left hi2] at s1
          rw [getD_app (by rw [hl]; exact hi2)] at s2
          exact ns ⟨s1, s2⟩
        · have ei : i + 1 = K.length := by omega
          rw [List.getElem?_append_right (by omega), ei, Nat.sub_self] at s1
          have es : w.1 = turn q := by simpa using s1
          rw [ei, ← hl, getD_last] at s2
          have eq2 : K.getLast? = some q := by
            rw [List.getLast?_eq_getElem?, show K.length - 1 = i from by omega]
            exact e
          have pq : Pas n xs q := hK q (List.mem_of_getElem? e)
          have el : lvN xs w.1 = arN xs q := by rw [es]; exact lv_turn pq
          rw [← el] at s2
          rw [fmod_self g0 g1] at s2
          exact nc ⟨s2, by rw [eq2, es, turn_turn]⟩
    · have hlt := (List.getElem?_eq_some_iff.mp e).1
      rw [List.length_append] at hlt
      have ei : i = K.length := by simp at hlt; omega
      subst ei
      rw [List.getElem?_append_right (Nat.le_refl _), Nat.sub_self] at e
      have eq2 : w.1 = q := by simpa using e
      subst eq2
      refine ⟨?_, fun sp => ?_⟩
      · unfold Rng
        rw [← hl, getD_last]
        exact ⟨g0, g1⟩
      · obtain ⟨s1, _⟩ := sp
        rw [List.getElem?_append_right (by omega)] at s1
        simp at s1
theorem red_mem {xs : List D} {z : RZ3} {w : P2 × Int} {p : P2} (h : p ∈ (redS xs z w).1) : p ∈ z.1 ∨ p = w.1 := by
  unfold redS at h
  split at h
  · exact .inl ((List.dropLast_sublist _).subset h)
  · rcases List.mem_append.mp h with h | h
    · exact .inl h
    · exact .inr (by simpa using h)
theorem goes_split {xs : List D} : ∀ (ss ts : List D) (r e : Int), goes xs r (ss ++ ts) = some e → ∃ m, goes xs r ss = some m ∧ goes xs m ts = some e
  | [], ts, r, e, h => ⟨r, rfl, h⟩
  | st :: rest, ts, r, e, h => by
    rw [List.cons_append] at h
    unfold goes at h
    cases q : roomsOf xs st with
    | none => rw [q] at h; cases h
    | some p =>
      obtain ⟨a, b⟩ := p
      rw [q] at h
      by_cases z : a = r
      · simp only [if_pos z] at h
        obtain ⟨m, h1, h2⟩ := goes_split rest ts b e h
        refine ⟨m, ?_, h2⟩
        unfold goes
        rw [q]
        simp only [if_pos z]
        exact h1
      · simp only [if_neg z] at h
        cases h
theorem goes_one {xs : List D} {m e : Int} {t : D} (h : goes xs m [t] = some e) : roomsOf xs t = some (m, e) := by
  unfold goes at h
  cases q : roomsOf xs t with
  | none => rw [q] at h; cases h
  | some p =>
    obtain ⟨a, b⟩ := p
    rw [q] at h
    by_cases z : a = m
    · simp only [if_pos z] at h
      unfold goes at h
      cases h
      rw [z]
    · simp only [if_neg z] at h
      cases h
theorem one_goes {xs : List D} {m e : Int} {t : D} (h : roomsOf xs t = some (m, e)) : goes xs m [t] = some e := by
  unfold goes
  rw [h]
  show (if m = m then goes xs e [] else none) = _
  rw [if_pos rfl]
  rfl
end Law


set_option Elab.async false
set_option linter.all false
set_option maxRecDepth 100000
set_option maxHeartbeats 4000000
namespace Law
open PySem L2 DL
variable [Tb]
/-! ### walks of pairs -/
def wkD (r : Int) (zs : List Int) (qs : List P2) : D := walkD r (zs.map D.int) (qs.map stD)
structure Wk (n : Nat) (xs : List D) (r : Int) (zs : List Int) (qs : List P2) (e : Int) : Prop where
  pa : ∀ q ∈ qs, Pas n xs q
  go : goes xs r (qs.map stD) = some e
  ln : zs.length = qs.length + 1
  mx : qs.length ≤ 1000
  r0 : 0 ≤ r
  rn : r < n
theorem Pas.pass {n : Nat} {xs : List D} {q : P2} (h : Pas n xs q) : isPass xs.length (stD q) = true := by
  obtain ⟨a, b, x, y, e, _⟩ := h.ex
  have hl := (List.getElem?_eq_some_iff.mp e).1
  show ((decide ((0 : Int) ≤ (q.1 : Int)) && decide ((q.1 : Int) ≤ (xs.length : Int) - 1)) && (decide (0 ≤ q.2) && decide (q.2 ≤ 1))) = true
  have h1 := h.sd
  simp only [Bool.and_eq_true, decide_eq_true_eq]
  refine ⟨⟨by omega, by omega⟩, by omega, by omega⟩
theorem Wk.of {n : Nat} {xs : List D} {r : Int} {zs : List Int} {qs : List P2} {e : Int} (h : Wk n xs r zs qs e) : WalkOf n xs r (zs.map D.int) (qs.map stD) e :=
  ⟨fun d hd => by
    obtain ⟨z, _, rfl⟩ := List.mem_map.mp hd
    exact ⟨z, rfl⟩, fun d hd => by
    obtain ⟨q, hq, rfl⟩ := List.mem_map.mp hd
    exact (h.pa q hq).pass, h.go, by rw [List.length_map, List.length_map]; exact h.ln, by rw [List.length_map]; have := h.mx; omega⟩
theorem int_at {zs : List Int} {i : Nat} (h : i < zs.length) : atI (zs.map D.int) (i : Int) = some (.int (zs.getD i 0)) := atI_nat (by rw [List.getElem?_map, List.getD_eq_getElem?_getD, List.getElem?_eq_getElem h]; rfl)
/-! ### _turns_back, _can_shorten -/
end Law


set_option Elab.async false
set_option linter.all false
set_option maxRecDepth 100000
set_option maxHeartbeats 4000000
namespace Law
open PySem L2 DL
variable [Tb]
/-! ### is_plain -/
section
end
section
end
end Law


set_option Elab.async false
set_option linter.all false
set_option maxRecDepth 100000
set_option maxHeartbeats 4000000
namespace Law
open PySem L2 DL
variable [Tb]
/-! ### _reduced: the mathematics -/
end Law


set_option Elab.async false
set_option linter.all false
set_option maxRecDepth 100000
set_option maxHeartbeats 4000000
namespace Law
open PySem L2 DL
variable [Tb]
/-! ### reduction as an action: pulls are added, a pass acts -/
def addZ (Z : RZ3) (z : Int) : RZ3 := (Z.1, Z.2.1, Z.2.2 + z)
def actZ (xs : List D) (Z : RZ3) (q : P2) : RZ3 := redS xs Z (q, 0)
def Z0 : RZ3 := ([], [], 0)
theorem addZ_addZ (Z : RZ3) (a b : Int) : addZ (addZ Z a) b = addZ Z (a + b) := by
  unfold addZ
  simp only [Prod.mk.injEq, true_and]
  omega
theorem addZ_zero (Z : RZ3) : addZ Z 0 = Z := by
  unfold addZ
  rw [Int.add_zero]
/-- a good state -/
structure Gd (n : Nat) (xs : List D) (Z : RZ3) : Prop where
  ln : Z.2.1.length = Z.1.length
  pl : Plain xs Z.2.1 Z.1
  pa : ∀ q ∈ Z.1, Pas n xs q
theorem Gd.zero (n : Nat) (xs : List D) : Gd n xs Z0 := ⟨rfl, fun i q h => (by cases h), fun q h => (by cases h)⟩
theorem Gd.add {n : Nat} {xs : List D} {Z : RZ3} (h : Gd n xs Z) (z : Int) : Gd n xs (addZ Z z) := ⟨h.ln, h.pl, h.pa⟩
theorem Gd.act {n : Nat} {xs : List D} {Z : RZ3} {q : P2} (h : Gd n xs Z) (pq : Pas n xs q) : Gd n xs (actZ xs Z q) := by
  obtain ⟨K, A, t⟩ := Z
  obtain ⟨r1, r2⟩ := red_plain (w := (q, 0)) (h := t) h.ln h.pl h.pa pq
  refine ⟨r1, r2, fun p hp => ?_⟩
  rcases red_mem hp with z | z
  · exact h.pa p z
  · rw [z]; exact pq
theorem fmod_shift {h b t : Int} (hb : b ≠ 0) : (h + b * t).fmod (mag b) = h.fmod (mag b) := by
  unfold mag
  split
  · rw [show h + b * t = h + (-b) * (-t) from by rw [Int.neg_mul_neg]]
    rw [Int.add_mul_fmod_self_left]
  · rw [Int.add_mul_fmod_self_left]
theorem fmod_split {h b : Int} (hb : b ≠ 0) : b * ((h - h.fmod (mag b)).fdiv b) = h - h.fmod (mag b) := by
  have h1 : mag b ∣ h - h.fmod (mag b) := Int.dvd_self_sub_fmod
  have h2 : b ∣ h - h.fmod (mag b) := by
    unfold mag at h1 ⊢
    split at h1
    · rename_i z
      rw [if_pos z]
      exact Int.neg_dvd.mp h1
    · rename_i z
      rw [if_neg z]
      exact h1
  exact Int.mul_fdiv_cancel' h2
theorem drop_last {α : Type} {l : List α} {a : α} (h : l.getLast? = some a) : l.dropLast ++ [a] = l := by
  have hn : l ≠ [] := by rintro rfl; simp at h
  rw [List.getLast?_eq_some_getLast hn] at h
  cases h
  exact List.dropLast_concat_getLast hn
/-- a pass and its back change nothing -/
theorem act_back {n : Nat} {xs : List D} {Z : RZ3} {q : P2} (g : Gd n xs Z) (pq : Pas n xs q) : actZ xs (actZ xs Z q) (turn q) = Z := by
  obtain ⟨K, A, h⟩ := Z
  obtain ⟨ln, pl, pa⟩ := g
  dsimp only at ln pl pa
  have b0 := pq.size.1.1
  have a0 := pq.size.2.1
  have ma := mag_pos a0
  by_cases c : h.fmod (mag (lvN xs q)) = 0 ∧ K.getLast? = some (turn q)
  · obtain ⟨c1, c2⟩ := c
    have e1 : actZ xs (K, A, h) q = (K.dropLast, A.dropLast, A.getLastD 0 + (0 + arN xs q * ((h - h.fmod (mag (lvN xs q))).fdiv (lvN xs q)))) := by
      unfold actZ redS
      rw [if_pos ⟨c1, c2⟩]
    have hb : lvN xs q * (h - h.fmod (mag (lvN xs q))).fdiv (lvN xs q) = h := by rw [fmod_split b0, c1]; omega
    have kn : K ≠ [] := by
      rintro rfl
      simp at c2
    have eK : K = K.dropLast ++ [turn q] := by
      have := drop_last c2
      exact this.symm
    have an : A ≠ [] := by
      rintro rfl
      rw [eK] at ln
      simp at ln
    have eA : A = A.dropLast ++ [A.getLastD 0] := by
      cases z : A.getLast? with
      | none => exact absurd (List.getLast?_eq_none_iff.mp z) an
      | some p =>
        have h1 := drop_last z
        have h2 : A.getLastD 0 = p := by
          rw [List.getLastD_eq_getLast?, z]
          rfl
        rw [h2]
        exact h1.symm
    generalize hK' : K.dropLast = K' at *
    generalize hA' : A.dropLast = A' at *
    generalize hp : A.getLastD 0 = p at *
    have lk : A'.length = K'.length := by
      rw [eK, eA] at ln
      simpa using ln
    have at1 : K[K'.length]? = some (turn q) := by
      rw [eK]
      simp
    obtain ⟨⟨r0, r1⟩, _⟩ := pl K'.length (turn q) at1
    have gp : A.getD K'.length 0 = p := by rw [eA, ← lk, getD_last]
    rw [gp, lv_turn pq] at r1
    rw [gp] at r0
    rw [e1]
    generalize ht : (h - h.fmod (mag (lvN xs q))).fdiv (lvN xs q) = t at *
    have hm : (p + (0 + arN xs q * t)).fmod (mag (lvN xs (turn q))) = p := by
      rw [lv_turn pq, Int.zero_add, fmod_shift a0]
      exact fmod_self r0 r1
    unfold actZ redS
    dsimp only
    rw [hm, lv_turn pq, ar_turn pq, turn_turn]
    have hd : (p + (0 + arN xs q * t) - p).fdiv (arN xs q) = t := by
      rw [show p + (0 + arN xs q * t) - p = arN xs q * t from by omega]
      exact Int.mul_fdiv_cancel_left _ a0
    rw [hd, hb, if_neg]
    · rw [← eK, ← eA, Int.zero_add]
    · rintro ⟨p0, z⟩
      have hk : 0 < K'.length := by
        cases K' with
        | nil => simp at z
        | cons x xs => simp
      have at2 : K[K'.length - 1]? = some q := by
        rw [eK, List.getElem?_append_left (by omega)]
        rw [← List.getLast?_eq_getElem?]
        exact z
      obtain ⟨_, ns⟩ := pl (K'.length - 1) q at2
      refine ns ⟨?_, ?_⟩
      · rw [show K'.length - 1 + 1 = K'.length from by omega]
        exact at1
      · rw [show K'.length - 1 + 1 = K'.length from by omega, gp, p0]
        exact Int.zero_fmod _
  · have e1 : actZ xs (K, A, h) q = (K ++ [q], A ++ [h.fmod (mag (lvN xs q))], 0 + arN xs q * ((h - h.fmod (mag (lvN xs q))).fdiv (lvN xs q))) := by
      unfold actZ redS
      rw [if_neg c]
    have hb := fmod_split (h := h) b0
    rw [e1]
    generalize ht : (h - h.fmod (mag (lvN xs q))).fdiv (lvN xs q) = t at *
    have hm : (0 + arN xs q * t).fmod (mag (lvN xs (turn q))) = 0 := by
      rw [lv_turn pq, fmod_shift a0]
      exact Int.zero_fmod _
    unfold actZ redS
    dsimp only
    rw [hm, lv_turn pq, ar_turn pq, turn_turn, if_pos ⟨rfl, by simp⟩]
    have hd : (0 + arN xs q * t - 0).fdiv (arN xs q) = t := by
      rw [show 0 + arN xs q * t - 0 = arN xs q * t from by omega]
      exact Int.mul_fdiv_cancel_left _ a0
    rw [hd, hb]
    simp only [List.dropLast_concat, Prod.mk.injEq, true_and]
    rw [List.getLastD_eq_getLast?, List.getLast?_concat]
    show h.fmod (mag (lvN xs q)) + (0 + (h - h.fmod (mag (lvN xs q)))) = h
    omega
end Law


set_option Elab.async false
set_option linter.all false
set_option maxRecDepth 100000
set_option maxHeartbeats 4000000
namespace Law
open PySem L2 DL
variable [Tb]
/-- pulls and passes, one after another, act upon what has come so far -/
def runZ (xs : List D) : RZ3 → List Int → List P2 → RZ3
  | Z, zs, [] => addZ Z (zs.headD 0)
  | Z, zs, q :: qs => runZ xs (actZ xs (addZ Z (zs.headD 0)) q) zs.tail qs
theorem run_add (xs : List D) (Z : RZ3) (z y : Int) (ys : List Int) (qs : List P2) : runZ xs (addZ Z z) (y :: ys) qs = runZ xs Z ((z + y) :: ys) qs := by
  cases qs with
  | nil =>
    show addZ (addZ Z z) y = addZ Z (z + y)
    exact addZ_addZ _ _ _
  | cons q qs =>
    show runZ xs (actZ xs (addZ (addZ Z z) y) q) ys qs = runZ xs (actZ xs (addZ Z (z + y)) q) ys qs
    rw [addZ_addZ]
theorem run_join (xs : List D) (z y : Int) (B : List Int) (L : List P2) : ∀ (K : List P2) (A : List Int) (Z : RZ3), A.length = K.length → runZ xs Z (A ++ (z + y) :: B) (K ++ L) = runZ xs (runZ xs Z (A ++ [z]) K) (y :: B) L
  | [], [], Z, _ => (run_add xs Z z y B L).symm
  | [], a :: A, Z, h => by simp at h
  | q :: K, [], Z, h => by simp at h
  | q :: K, a :: A, Z, h => run_join xs z y B L K A (actZ xs (addZ Z a) q) (by simpa using h)
theorem Gd.run {n : Nat} {xs : List D} : ∀ (qs : List P2) (zs : List Int) (Z : RZ3), Gd n xs Z → (∀ q ∈ qs, Pas n xs q) → Gd n xs (runZ xs Z zs qs)
  | [], zs, Z, g, _ => g.add _
  | q :: qs, zs, Z, g, h => Gd.run qs zs.tail _ ((g.add _).act (h q List.mem_cons_self)) fun p hp => h p (List.mem_cons_of_mem _ hp)
theorem run_cancel {n : Nat} {xs : List D} {q : P2} {Z : RZ3} (g : Gd n xs Z) (pq : Pas n xs q) (x y : Int) (B : List Int) (L : List P2) : runZ xs Z (x :: 0 :: y :: B) (q :: turn q :: L) = runZ xs Z ((x + y) :: B) L := by
  show runZ xs (actZ xs (addZ (actZ xs (addZ Z x) q) 0) (turn q)) (y :: B) L = _
  rw [addZ_zero, act_back (g.add x) pq, run_add]
/-- what has come so far, as a walk -/
def word (xs : List D) (Y : RZ3) (Z : RZ3) : RZ3 := runZ xs Z (Y.2.1 ++ [Y.2.2]) Y.1
def backZ (zs : List Int) : List Int := zs.reverse.map fun z => -z
def backQ (qs : List P2) : List P2 := qs.reverse.map turn
end Law


set_option Elab.async false
set_option linter.all false
set_option maxRecDepth 100000
set_option maxHeartbeats 4000000
namespace Law
open PySem L2 DL
variable [Tb]
/-! ### _reduced: its reading -/
end Law


set_option Elab.async false
set_option linter.all false
set_option maxRecDepth 100000
set_option maxHeartbeats 4000000
namespace Law
open PySem L2 DL
variable [Tb]
/-! ### _reduced, plain_form -/
section
end
end Law


set_option Elab.async false
set_option linter.all false
set_option maxRecDepth 100000
set_option maxHeartbeats 4000000
namespace Law
open PySem L2 DL
variable [Tb]
/-! ### _law_plain -/
section
end
end Law


set_option Elab.async false
set_option linter.all false
set_option maxRecDepth 100000
set_option maxHeartbeats 4000000
namespace Law
open PySem L2 DL
variable [Tb]
/-! ### what the law says of plain walks -/
section
end
end Law


set_option Elab.async false
set_option linter.all false
set_option maxRecDepth 100000
set_option maxHeartbeats 4000000
namespace Law
open PySem L2 DL
variable [Tb]
/-! ### _law_pf_is_plain -/
section
end
end Law


set_option Elab.async false
set_option linter.all false
set_option maxRecDepth 100000
set_option maxHeartbeats 4000000
namespace Law
open PySem L2 DL
variable [Tb]
/-! ### _law_pf_room, _law_pf_put, _law_pf_doors -/
theorem Wk.room {n : Nat} {xs : List D} {r e : Int} {zs : List Int} {qs : List P2} (hw : Wk n xs r zs qs e) (i : Nat) (hi : i < qs.length) : ∃ m b, goes xs r ((qs.take i).map stD) = some m ∧ roomsOf xs (stD qs[i]) = some (m, b) ∧ goes xs r ((qs.take (i + 1)).map stD) = some b := by
  have eq1 : qs[i]? = some qs[i] := List.getElem?_eq_getElem hi
  have et : (qs.take (i + 1)).map stD = (qs.take i).map stD ++ [stD qs[i]] := by rw [List.take_add_one, eq1, List.map_append]; rfl
  have g3 : goes xs r (((qs.take (i + 1)).map stD) ++ (qs.drop (i + 1)).map stD) = some e := by rw [← List.map_append, List.take_append_drop]; exact hw.go
  obtain ⟨b, g4, _⟩ := goes_split _ _ _ _ g3
  have g5 := g4
  rw [et] at g5
  obtain ⟨m, g6, g7⟩ := goes_split _ _ _ _ g5
  exact ⟨m, b, g6, goes_one g7, g4⟩
def putZ (zs : List Int) (i : Nat) (a : Int) : List Int := zs.take i ++ [a, 0, zs.getD i 0 - a] ++ zs.drop (i + 1)
def putQ (qs : List P2) (i : Nat) (q : P2) : List P2 := qs.take i ++ [q, turn q] ++ qs.drop i
end Law


set_option Elab.async false
set_option linter.all false
set_option maxRecDepth 100000
set_option maxHeartbeats 4000000
namespace Law
open PySem L2 DL
variable [Tb]
theorem nle {n m : Nat} (h : Nat.ble n m = true) : n ≤ m := Nat.le_of_ble_eq_true h
/-! ### _law_pf_doors -/
/-! ### _law_near_plain -/
end Law


set_option Elab.async false
set_option linter.all false
set_option maxRecDepth 100000
set_option maxHeartbeats 4000000
namespace Law
open PySem L2 DL
variable [Tb]
section
end
section
end
end Law


set_option Elab.async false
set_option linter.all false
set_option maxRecDepth 100000
set_option maxHeartbeats 4000000
namespace Law
open PySem L2 DL
variable [Tb]
/-! ### _law_pf_near: what is no walk -/
structure Odd (n : Nat) (xs : List D) (d : D) : Prop where
  ask : askable d = true
  ln : ∀ r ps ss, d = .tup [r, .tup ps, .tup ss] → ps.length ≤ 10000 ∧ ss.length ≤ 10000
  no : isWalk n xs d = false
  b : ∀ a ps c, d = .tup [a, .tup ps, c] → ps.length ≤ 10000
end Law


set_option Elab.async false
set_option linter.all false
set_option maxRecDepth 100000
set_option maxHeartbeats 4000000
namespace Law
open PySem L2 DL
variable [Tb]
section
end
section
end
section
end
section
end
end Law


set_option Elab.async false
set_option linter.all false
set_option maxRecDepth 100000
set_option maxHeartbeats 4000000
namespace Law
open PySem L2 DL
variable [Tb]
theorem eqv_intsT : ∀ zs ys : List Int, PyData.eqv (py (.tup (zs.map D.int))) (py (.tup (ys.map D.int))) = true → zs = ys
  | [], [], _ => rfl
  | [], y :: ys, h => by simp [py, pyL, PyData.eqv, PyData.eqvAll] at h
  | z :: zs, [], h => by simp [py, pyL, PyData.eqv, PyData.eqvAll] at h
  | z :: zs, y :: ys, h => by
    have h2 : (PyData.eqv (py (.int z)) (py (.int y)) && PyData.eqv (py (.tup (zs.map D.int))) (py (.tup (ys.map D.int)))) = true := by
      simp only [py, pyL, PyData.eqv, PyData.eqvAll, List.map_cons] at h ⊢
      exact h
    obtain ⟨a, b⟩ := Bool.and_eq_true_iff.mp h2
    rw [eqv_int] at a
    rw [of_decide_eq_true a, eqv_intsT zs ys b]
abbrev OS := Option Sl
theorem door_is {n : Nat} {d : D} (h : DoorIs n d) : isDoor n d = true ∧ plainD d = true ∧ plainDs d = true := by
  obtain ⟨a, b, x, y, rfl, ha, hb, sx, sy⟩ := h.ex
  refine ⟨?_, rfl, rfl⟩
  obtain ⟨x0, x1, x2⟩ := sx
  obtain ⟨y0, y1, y2⟩ := sy
  show (((decide ((0 : Int) ≤ (a : Int)) && decide ((a : Int) ≤ (n : Int) - 1)) && (decide ((0 : Int) ≤ (b : Int)) && decide ((b : Int) ≤ (n : Int) - 1))) && (((decide (-999 ≤ x) && decide (x ≤ 999)) && decide (x ≠ 0)) && ((decide (-999 ≤ y) && decide (y ≤ 999)) && decide (y ≠ 0)))) = true
  simp only [Bool.and_eq_true, decide_eq_true_eq]
  refine ⟨⟨⟨by omega, by omega⟩, by omega, by omega⟩, ⟨⟨by omega, by omega⟩, x0⟩, ⟨by omega, by omega⟩, y0⟩
end Law


set_option Elab.async false
set_option linter.all false
set_option maxRecDepth 100000
set_option maxHeartbeats 4000000
namespace Law
open PySem L2 DL
variable [Tb]
/-! ### moves of a walk -/
theorem drop_get {zs : List Int} {i : Nat} (h : i < zs.length) : zs.drop i = zs.getD i 0 :: zs.drop (i + 1) := by
  rw [List.drop_eq_getElem_cons h, List.getD_eq_getElem?_getD, List.getElem?_eq_getElem h]
  rfl
/-! a pass, an index -/
theorem in01 (z : Int) : ([D.int 0, D.int 1].any fun d => PyData.eqv (py d) (py (.int z))) = within (.int z) 0 1 := by
  show (PyData.eqv (py (.int 0)) (py (.int z)) || (PyData.eqv (py (.int 1)) (py (.int z)) || false)) = (decide (0 ≤ z) && decide (z ≤ 1))
  rw [eqv_int, eqv_int, Bool.or_false]
  by_cases h0 : z = 0
  · subst h0; rfl
  · by_cases h1 : z = 1
    · subst h1; rfl
    · rw [decide_eq_false (by omega), decide_eq_false (by omega)]
      by_cases h2 : 0 ≤ z
      · rw [decide_eq_true h2, decide_eq_false (by omega)]; rfl
      · rw [decide_eq_false h2]; rfl
def T_is1 : DFT := (tOrD (tNotD (dTest (dCall S__law_is_whole 1 (aCons (dIxV 1 (dC (.int 0))) aNil)))) (tNotD (dTest (dCall S__law_is_whole 1 (aCons (dIxV 1 (dC (.int 1))) aNil)))))
def T_is2 : DFT := (tOrD (dTest (dOp dNe (dCB cLen (aCons (dVar 1) aNil)) (dC (.int 2)))) T_is1)
def G_is0 : DG := (gRet (dAnd (dChain (dCmpI fun i j => decide (i ≤ j)) (dCmpI fun i j => decide (i < j)) (dC (.int 0)) (dIxV 1 (dC (.int 0))) (dCB cLen (aCons (dVar 0) aNil))) (dOp (dIn false) (dIxV 1 (dC (.int 1))) (dTup (aCons (dC (.int 0)) (aCons (dC (.int 1)) aNil))))))
theorem is0 {xs : List D} {a b : Int} {T : Nat} {post : Sl → Nat → Prop} {ex : Str → List (Str × D) → Nat → Prop} (hp : post (.fz (.bl (isPass xs.length (.tup [.int a, .int b])))) T) : G_is0 (endsOf post ex) ⟨[some (.fz (.tup xs)), some (.fz (.tup [.int a, .int b]))], T⟩ := by
  have hp : post (.fz (.bl ((decide (0 ≤ a) && decide (a ≤ (xs.length : Int) - 1)) && within (.int b) 0 1))) T := hp
  refine ⟨trivial, _, rfl, ?_⟩
  show (match D.bl (decide (0 ≤ a)) with | .bl true => (match D.bl (decide (a < (xs.length : Int))) with | .bl true => (dOp (dIn false) (dIxV 1 (dC (.int 1))) (dTup (aCons (dC (.int 0)) (aCons (dC (.int 1)) aNil)))) ⟨[some (.fz (.tup xs)), some (.fz (.tup [.int a, .int b]))], T⟩ (fun z s => post (.fz z) s.T) (endsOf post ex).ex | .bl false => post (.fz (.bl false)) T | _ => False) | .bl false => post (.fz (.bl false)) T | _ => False)
  by_cases c : 0 ≤ a
  · rw [decide_eq_true c] at hp ⊢
    by_cases c2 : a < (xs.length : Int)
    · rw [decide_eq_true (show a ≤ (xs.length : Int) - 1 from by omega)] at hp
      rw [decide_eq_true c2]
      refine ⟨trivial, _, rfl, (show (2 : Nat) ≤ 100000 from by decide), rfl, rfl, ?_⟩
      show post (.fz (.bl ([D.int 0, D.int 1].any fun d => PyData.eqv (py d) (py (.int b))))) T
      rw [in01]
      exact hp
    · rw [decide_eq_false (show ¬ a ≤ (xs.length : Int) - 1 from by omega)] at hp
      rw [decide_eq_false c2]
      exact hp
  · rw [decide_eq_false c] at hp ⊢
    exact hp
theorem is2 {xs : List D} {ds : List D} {T : Nat} {post : Sl → Nat → Prop} {ex : Str → List (Str × D) → Nat → Prop} (pd : ∀ d ∈ ds, plainD d = true) (hp : post (.fz (.bl (isPass xs.length (.tup ds)))) T) : T_is2 ⟨[some (.fz (.tup xs)), some (.fz (.tup ds))], T⟩ (fun k s1 => if k = true then post (.fz (.bl false)) s1.T else G_is0 (endsOf post ex) s1) (endsOf post ex).ex := by
  refine ⟨rfl, rfl, ?_⟩
  rw [eqv_int]
  by_cases h : ds.length = 2
  · rw [decide_eq_true (show ((ds.length : Nat) : Int) = 2 from by omega)]
    match ds, h, pd with
    | [a, b], _, pd =>
      have pa := pd a (by simp)
      have pb := pd b (by simp)
      refine ⟨trivial, _, rfl, rfl, a, rfl, pa, ?_⟩
      cases a with
      | int z =>
        refine ⟨trivial, _, rfl, rfl, b, rfl, pb, ?_⟩
        cases b with
        | int y => exact is0 hp
        | _ =>
          have hp : post (.fz (.bl ((decide (0 ≤ z) && decide (z ≤ (xs.length : Int) - 1)) && false))) T := hp
          rw [Bool.and_false] at hp
          exact hp
      | _ => exact hp
  · rw [decide_eq_false (show ¬ ((ds.length : Nat) : Int) = 2 from by omega)]
    have e : isPass xs.length (.tup ds) = false := by
      unfold isPass
      split
      · rename_i z
        cases z
        exact absurd rfl h
      · rfl
    rw [e] at hp
    exact hp
end Law


set_option Elab.async false
set_option linter.all false
set_option maxRecDepth 100000
set_option maxHeartbeats 4000000
namespace Law
open PySem L2 DL
variable [Tb]
/-! ### moves change nothing of the plain form -/
theorem run_at (xs : List D) (Z : RZ3) (y : Int) (B : List Int) (L K : List P2) (A : List Int) (h : A.length = K.length) : runZ xs Z (A ++ y :: B) (K ++ L) = runZ xs (runZ xs Z (A ++ [0]) K) (y :: B) L := by
  have := run_join xs 0 y B L K A Z h
  rw [Int.zero_add] at this
  exact this
theorem put_run {n : Nat} {xs : List D} {r e : Int} {zs : List Int} {qs : List P2} {i : Nat} {q : P2} {Z : RZ3} (hw : Wk n xs r zs qs e) (hi : i ≤ qs.length) (pq : Pas n xs q) (a : Int) (g : Gd n xs Z) : runZ xs Z (putZ zs i a) (putQ qs i q) = runZ xs Z zs qs := by
  have hl := hw.ln
  have la : (zs.take i).length = (qs.take i).length := by rw [List.length_take, List.length_take]; omega
  have gY : Gd n xs (runZ xs Z (zs.take i ++ [0]) (qs.take i)) := Gd.run _ _ _ g fun p hp => hw.pa p (List.mem_of_mem_take hp)
  have h1 : runZ xs Z (putZ zs i a) (putQ qs i q) = runZ xs (runZ xs Z (zs.take i ++ [0]) (qs.take i)) (a :: 0 :: (zs.getD i 0 - a) :: zs.drop (i + 1)) (q :: turn q :: qs.drop i) := by
    have e3 : putZ zs i a = zs.take i ++ a :: 0 :: (zs.getD i 0 - a) :: zs.drop (i + 1) := by
      unfold putZ
      simp
    have e4 : putQ qs i q = qs.take i ++ q :: turn q :: qs.drop i := by
      unfold putQ
      simp
    rw [e3, e4]
    exact run_at xs Z _ _ _ _ _ la
  have h2 : runZ xs Z zs qs = runZ xs (runZ xs Z (zs.take i ++ [0]) (qs.take i)) (zs.getD i 0 :: zs.drop (i + 1)) (qs.drop i) := by
    conv => lhs; rw [← List.take_append_drop i zs, ← List.take_append_drop i qs, drop_get (i := i) (by omega)]
    exact run_at xs Z _ _ _ _ _ la
  rw [h1, h2, run_cancel gY pq, show a + (zs.getD i 0 - a) = zs.getD i 0 from by omega]
/-- walks that moves lead to one another -/
structure Led (n : Nat) (xs : List D) (r e : Int) (zs : List Int) (qs : List P2) (zs' : List Int) (qs' : List P2) : Prop where
  wk : Wk n xs r zs' qs' e
  run : ∀ Z, Gd n xs Z → runZ xs Z zs' qs' = runZ xs Z zs qs
theorem Led.refl {n : Nat} {xs : List D} {r e : Int} {zs : List Int} {qs : List P2} (h : Wk n xs r zs qs e) : Led n xs r e zs qs zs qs := ⟨h, fun _ _ => rfl⟩
theorem Led.trans {n : Nat} {xs : List D} {r e : Int} {zs zs' zs2 : List Int} {qs qs' qs2 : List P2} (h : Led n xs r e zs qs zs' qs') (k : Led n xs r e zs' qs' zs2 qs2) : Led n xs r e zs qs zs2 qs2 := ⟨k.wk, fun Z g => (k.run Z g).trans (h.run Z g)⟩
end Law


set_option Elab.async false
set_option linter.all false
set_option maxRecDepth 100000
set_option maxHeartbeats 4000000
namespace Law
open PySem L2 DL
variable [Tb]
/-! ### the walk behind a move -/
theorem at0 {d : D} {ds : List D} : atI (d :: ds) 0 = some d := atI_nat (i := 0) rfl
end Law


set_option Elab.async false
set_option linter.all false
set_option maxRecDepth 100000
set_option maxHeartbeats 4000000
namespace Law
open PySem L2 DL
variable [Tb]
/-! ### moves drawn -/
/-! places where a pass and its back can be cancelled -/
/-! moves one after another -/
end Law


set_option Elab.async false
set_option linter.all false
set_option maxRecDepth 100000
set_option maxHeartbeats 4000000
namespace Law
open PySem L2 DL
variable [Tb]
/-! ### walks joined, backwards -/
theorem Wk.ne {n : Nat} {xs : List D} {r e : Int} {zs : List Int} {qs : List P2} (h : Wk n xs r zs qs e) : zs ≠ [] := by
  rintro rfl
  have := h.ln
  simp at this
theorem Wk.en {n : Nat} {xs : List D} {r e : Int} {zs : List Int} {qs : List P2} (hw : Wk n xs r zs qs e) : 0 ≤ e ∧ e < n := by
  have g := hw.go
  have key : ∀ (qs : List P2) (r : Int), (∀ q ∈ qs, Pas n xs q) → 0 ≤ r → r < n → goes xs r (qs.map stD) = some e → 0 ≤ e ∧ e < n := by
    intro qs
    induction qs with
    | nil =>
      intro r _ h0 h1 g
      cases g
      exact ⟨h0, h1⟩
    | cons q qs ih =>
      intro r hp h0 h1 g
      obtain ⟨b, g1, g2⟩ := goes_split [stD q] _ _ _ (show goes xs r ([stD q] ++ qs.map stD) = some e from g)
      have pq := hp q List.mem_cons_self
      obtain ⟨c, d, e1, _, ld⟩ := rooms_ex pq
      have := goes_one g1
      rw [e1] at this
      cases this
      exact ih d (fun p h => hp p (List.mem_cons_of_mem _ h)) (by omega) (by omega) g2
  exact key qs r hw.pa hw.r0 hw.rn g
/-! ### are_one, is_nothing -/
theorem eqv_intsB (zs ys : List Int) : PyData.eqv (py (.tup (zs.map D.int))) (py (.tup (ys.map D.int))) = decide (zs = ys) := by
  cases h : PyData.eqv (py (.tup (zs.map D.int))) (py (.tup (ys.map D.int))) with
  | true => rw [decide_eq_true (eqv_intsT zs ys h)]
  | false =>
    rw [decide_eq_false]
    rintro rfl
    have : PyData.eqv (py (.tup (zs.map D.int))) (py (.tup (zs.map D.int))) = true := SeqAt.eqv_refl _ (okN_ok (n := 9) (by
      unfold okN
      refine okNs_iff.mpr fun d hd => ?_
      obtain ⟨z, _, rfl⟩ := List.mem_map.mp hd
      rfl)).2.1
    rw [this] at h
    cases h
structure AskW (d : D) : Prop where
  ask : askable d = true
  ln : ∀ r ps ss, d = .tup [r, .tup ps, .tup ss] → ps.length ≤ 10000 ∧ ss.length ≤ 10000
theorem Wk.is {n : Nat} {xs : List D} {r e : Int} {zs : List Int} {qs : List P2} (h : Wk n xs r zs qs e) : isWalk n xs (wkD r zs qs) = true := isWalk_of h.of h.r0 h.rn
end Law


set_option Elab.async false
set_option linter.all false
set_option maxRecDepth 100000
set_option maxHeartbeats 4000000
namespace Law
open PySem L2 DL
variable [Tb]
/-! ### k11: no walk drawn, pairs of walks -/
theorem Odd.w {n : Nat} {xs : List D} {d : D} (h : Odd n xs d) : AskW d := ⟨h.ask, h.ln⟩
end Law


set_option Elab.async false
set_option linter.all false
set_option maxRecDepth 100000
set_option maxHeartbeats 4000000
namespace Law
open PySem L2 DL
variable [Tb]
/-! ### carried, shortened -/
end Law


set_option Elab.async false
set_option linter.all false
set_option maxRecDepth 100000
set_option maxHeartbeats 4000000
namespace Law
open PySem L2 DL
variable [Tb]
/-! ### _law_is_walk, of any value -/
end Law


set_option Elab.async false
set_option linter.all false
set_option maxRecDepth 100000
set_option maxHeartbeats 4000000
namespace DL
open PySem L2
/-! ### a list unpacked -/
variable [Tb]
section
variable {X : Cx} {W : WX} {pos : Pos} {es : List Expr}
end
end DL


set_option Elab.async false
set_option linter.all false
set_option maxRecDepth 100000
set_option maxHeartbeats 4000000
namespace DL
open PySem L2
/-! ### dicts whose keys are numbers, kept in a variable -/
variable [Tb]
section
variable {X : Cx} {W : WX} {a b ke e : Expr} {Fa Fb Fk F : DF} {pos p : Pos}
end
section
variable {X : Cx} {W : WX} {a b d : Expr} {Fa Fb Fd : DF} {x y z : Str} {px py pz pt pos : Pos} {kt k2 : Nat} {pt2 : Pos} {i j l : Nat}
end
end DL


set_option Elab.async false
set_option linter.all false
set_option maxRecDepth 100000
set_option maxHeartbeats 4000000
namespace Law
open PySem L2 DL
variable [Tb]
/-! ### _law_way: from room to room, all rooms being joined -/
abbrev WL := List (Nat × List P2)
def kn (W : WL) : List (Key × D) := W.map fun w => (.inl (w.1 : Int), .tup (w.2.map stD))
structure WOk (n : Nat) (xs : List D) (a : Int) (W : WL) : Prop where
  nd : (W.map (·.1)).Nodup
  lt : ∀ w ∈ W, w.1 < n
  pa : ∀ w ∈ W, ∀ q ∈ w.2, Pas n xs q
  go : ∀ w ∈ W, goes xs a (w.2.map stD) = some (w.1 : Int)
  ln : ∀ w ∈ W, w.2.length ≤ W.length
theorem nodup_len : ∀ (n : Nat) (l : List Nat), l.Nodup → (∀ x ∈ l, x < n) → l.length ≤ n
  | 0, [], _, _ => Nat.le_refl _
  | 0, x :: _, _, h => absurd (h x List.mem_cons_self) (Nat.not_lt_zero x)
  | n + 1, l, nd, h => by
    by_cases z : n ∈ l
    · have h1 := List.length_erase_of_mem z
      have h2 := nodup_len n (l.erase n) (nd.erase n) fun x hx => by
        have h3 := h x (List.mem_of_mem_erase hx)
        have h4 : x ≠ n := fun e => by
          rw [e] at hx
          exact (List.Nodup.not_mem_erase nd) hx
        omega
      omega
    · have := nodup_len n l nd fun x hx => by
        have h3 := h x hx
        have h4 : x ≠ n := fun e => z (by rw [← e]; exact hx)
        omega
      omega
theorem WOk.len {n : Nat} {xs : List D} {a : Int} {W : WL} (h : WOk n xs a W) : W.length ≤ n := by
  have := nodup_len n (W.map (·.1)) h.nd fun x hx => by
    obtain ⟨w, hw, rfl⟩ := List.mem_map.mp hx
    exact h.lt w hw
  rw [List.length_map] at this
  exact this
theorem WOk.add {n : Nat} {xs : List D} {a : Int} {W : WL} {u v : Nat} {p : List P2} {q : P2} (h : WOk n xs a W) (hu : (u, p) ∈ W) (pq : Pas n xs q) (hr : roomsOf xs (stD q) = some ((u : Int), (v : Int))) (hv : v < n) (no : ∀ w ∈ W, w.1 ≠ v) : WOk n xs a (W ++ [(v, p ++ [q])]) := by
  refine ⟨?_, fun w hw => ?_, fun w hw => ?_, fun w hw => ?_, fun w hw => ?_⟩
  · rw [List.map_append]
    refine List.nodup_append.mpr ⟨h.nd, by simp, fun x hx y hy => ?_⟩
    obtain ⟨w, hw, rfl⟩ := List.mem_map.mp hx
    have : y = v := by simpa using hy
    rw [this]
    exact no w hw
  · rcases List.mem_append.mp hw with z | z
    · exact h.lt w z
    · rw [List.mem_singleton.mp z]
      exact hv
  · rcases List.mem_append.mp hw with z | z
    · exact h.pa w z
    · rw [List.mem_singleton.mp z]
      intro x hx
      rcases List.mem_append.mp hx with y | y
      · exact h.pa _ hu x y
      · rw [List.mem_singleton.mp y]
        exact pq
  · rcases List.mem_append.mp hw with z | z
    · exact h.go w z
    · rw [List.mem_singleton.mp z]
      show goes xs a ((p ++ [q]).map stD) = some (v : Int)
      rw [List.map_append, goes_app _ _ _ _ (h.go _ hu)]
      exact one_goes hr
  · rw [List.length_append, List.length_singleton]
    rcases List.mem_append.mp hw with z | z
    · have := h.ln w z
      omega
    · rw [List.mem_singleton.mp z]
      have := h.ln _ hu
      show (p ++ [q]).length ≤ _
      rw [List.length_append, List.length_singleton]
      show p.length + 1 ≤ _
      have e : p.length ≤ W.length := this
      omega
end Law


set_option Elab.async false
set_option linter.all false
set_option maxRecDepth 100000
set_option maxHeartbeats 4000000
namespace Law
open PySem L2 DL
variable [Tb]
end Law


set_option Elab.async false
set_option linter.all false
set_option maxRecDepth 100000
set_option maxHeartbeats 4000000
namespace Law
open PySem L2 DL
variable [Tb]
theorem truth {a b : Bool} {T : Nat} {post : Sl → Nat → Prop} {ex : Str → List (Str × D) → Nat → Prop} (e : a = b) (hp : post (.fz (.bl true)) T) : S__law_is_truth [.bl a, .bl b] T post ex := by
  subst e
  refine ⟨a, a, rfl, ?_⟩
  rw [beq_self_eq_true]
  exact hp
end Law


set_option Elab.async false
set_option linter.all false
set_option maxRecDepth 100000
set_option maxHeartbeats 4000000
namespace Law
open PySem L2 DL
variable [Tb]
/-! ### k16: three walks -/
/-! the mathematics -/
end Law


set_option Elab.async false
set_option linter.all false
set_option maxRecDepth 100000
set_option maxHeartbeats 4000000
namespace DL
open PySem L2 PySem.Spec PyProof.Rows
/-! ### a tuple, once: itself -/
section
variable [Tb] {X : Cx}
end
end DL


set_option Elab.async false
set_option linter.all false
set_option maxRecDepth 100000
set_option maxHeartbeats 4000000
namespace Law
open PySem L2 DL
variable [Tb]
/-! ### walks home, powers -/
end Law


set_option Elab.async false
set_option linter.all false
set_option maxRecDepth 100000
set_option maxHeartbeats 4000000
namespace Law
open PySem L2 DL
variable [Tb]
/-! ### walks home drawn; a walk told otherwise -/
def zerosZ (k : Nat) : List Int := List.replicate k 0
end Law


set_option Elab.async false
set_option linter.all false
set_option maxRecDepth 100000
set_option maxHeartbeats 4000000
namespace Law
open PySem L2 DL
variable [Tb]
/-! ### a walk carried along, a pass there and back put in -/
end Law


set_option Elab.async false
set_option linter.all false
set_option maxRecDepth 100000
set_option maxHeartbeats 4000000
namespace Law
open PySem L2 DL
variable [Tb]
/-! ### a walk home drawn -/
end Law


set_option Elab.async false
set_option linter.all false
set_option maxRecDepth 100000
set_option maxHeartbeats 4000000
namespace Law
open PySem L2 DL
variable [Tb]
/-! ### rooms that are none -/
/-! ### no houses -/
end Law


set_option Elab.async false
set_option linter.all false
set_option maxRecDepth 100000
set_option maxHeartbeats 4000000


namespace Law
open PySem L2 DL
variable [Tb]
/-! ### no walks, of k04 -/
end Law


set_option Elab.async false
set_option linter.all false
set_option maxRecDepth 100000
set_option maxHeartbeats 4000000
namespace Law
open PySem L2 DL
variable [Tb]
/-! ### powers -/
structure Lap (n : Nat) (xs : List D) (zs : List Int) (qs : List P2) : Prop where
  ln : zs.length = qs.length + 1
  pa : ∀ q ∈ qs, Pas n xs q
theorem Lap.ne {n : Nat} {xs : List D} {zs : List Int} {qs : List P2} (h : Lap n xs zs qs) : zs ≠ [] := by
  have := h.ln
  rintro rfl
  simp at this
theorem Lap.back {n : Nat} {xs : List D} {zs : List Int} {qs : List P2} (h : Lap n xs zs qs) : Lap n xs (backZ zs) (backQ qs) := ⟨by unfold backZ backQ; simp [h.ln], fun p hp => by
  unfold backQ at hp
  obtain ⟨q, hq, rfl⟩ := List.mem_map.mp hp
  exact (h.pa q (List.mem_reverse.mp hq)).turn⟩
end Law


set_option Elab.async false
set_option linter.all false
set_option maxRecDepth 100000
set_option maxHeartbeats 4000000
namespace Law
open PySem L2 DL
variable [Tb]
/-! ### the law's power, refusals -/
end Law


set_option Elab.async false
set_option linter.all false
set_option maxRecDepth 100000
set_option maxHeartbeats 4000000
/-! ### lambdas in a list that a loop walks: for work in [lambda: .., ..]: if not isinstance(_law_caught(work), E): return False -/
namespace DL
open PySem PySem.Spec PyProof.Rows L2
/-- the object of a lambda, known -/
def LamO (f c' : Addr) (q : Str) (params : Arguments) (body : Expr) (scope : Scope) (cl : List (Str × Addr)) : HO := .ext fun h => ∃ pm ctv, h.get? f = some (PySem.W.kla_obj "<lambda>" q params body scope cl pm c' ctv)
theorem ntb_lam {f c' : Addr} {q : Str} {params : Arguments} {body : Expr} {scope : Scope} {cl : List (Str × Addr)} : ∀ ps, LamO f c' q params body scope cl ≠ .tbl ps := fun ps z => by unfold LamO at z; cases z
abbrev lamQ (X : Cx) : Str := X.env.qual ++ "<lambda>"
abbrev lamAt (X : Cx) (f c' : Addr) (params : Arguments) (body : Expr) (scope : Scope) : HO := LamO f c' (lamQ X) params body scope (cloFrom X.env.cells scope.names [])
section
variable {X : Cx} {pins : List (Addr × Obj)} {σ : L2.St} {H : Hp} {s : Shared}
end
end DL


set_option Elab.async false
set_option linter.all false
set_option maxRecDepth 100000
set_option maxHeartbeats 4000000
namespace DL
open PySem L2 PyProof.Rows
variable [Tb]
section
variable {c : Ct} {L L' : List (Addr × HO)} {H0 B0 H B : Hp} {σ : L2.St} {s : DS}
theorem At.sub (t : At c L' H0 B0 σ H s B) (h : ∀ x ∈ L, x ∈ L') : At c L H0 B0 σ H s B := ⟨t.bs, t.len, t.fz, t.ow, t.inj, fun x hx => t.hold x (h x hx)⟩
theorem nd_code {T : Nat} (b : DrawR c H T) {p : Addr} {q : Str} (h : H p = some (LamX.CodeO p q)) : p ∉ c.drs := by
  unfold DrawR at b
  unfold Ct.drs
  cases e : c.q.dr with
  | none => simp
  | some x =>
    obtain ⟨a, g, l⟩ := x
    rw [e] at b
    obtain ⟨_, _, _, gs, ls, le, tu, q1, q2, q3, _⟩ := b
    intro hm
    simp only [List.mem_cons, List.not_mem_nil, or_false] at hm
    unfold LamX.CodeO at h
    rcases hm with rfl | rfl | rfl
    · rw [q1] at h; unfold stH at h; cases h
    · rw [q2] at h; cases h
    · rw [q3] at h; cases h
/-- a code object that is known stays known: held aside if it is neither old nor frozen -/
theorem At.code (t : At c L H0 B0 σ H s B) {p : Addr} {q : Str} (h : H p = some (LamX.CodeO p q)) : ∃ L', (∀ x ∈ L, x ∈ L') ∧ At c L' H0 B0 σ H s B ∧ ∀ σ' H' s' B', At c L' H0 B0 σ' H' s' B' → Le B B' → H' p = some (LamX.CodeO p q) := by
  by_cases f0 : Fr H0 p
  · cases eB : B p with
    | some o =>
      have eo : o = LamX.CodeO p q := Option.some.inj ((t.bs.leH _ _ eB).symm.trans h)
      subst eo
      exact ⟨L, fun _ h => h, t, fun σ' H' s' B' t' l => t'.bs.leH _ _ (l _ _ eB)⟩
    | none =>
      refine ⟨(p, LamX.CodeO p q) :: L, fun x hx => List.mem_cons_of_mem _ hx, ⟨t.bs, t.len, t.fz, t.ow, t.inj, fun x hx => ?_⟩, fun σ' H' s' B' t' l => (t'.hold _ List.mem_cons_self).1⟩
      rcases List.mem_cons.mp hx with rfl | hx
      · refine ⟨h, f0, eB, ⟨ntb_code, fun xs z => (by unfold LamX.CodeO at z; cases z)⟩, fun i d hs z => ?_⟩
        obtain ⟨p', o, g1, g2, g3, g4, g5⟩ := t.ow i d hs
        rw [g1] at z
        cases z
        rw [g4] at h
        exact g5.nco _ _ (Option.some.inj h)
      · exact t.hold x hx
  · have : ∃ o, H0 p = some o ∧ ∀ ps, o ≠ .tbl ps := by
      refine Classical.byContradiction fun z => f0 fun o ho => Classical.byContradiction fun y => z ⟨o, ho, fun ps e => y ⟨ps, e⟩⟩
    obtain ⟨o, ho, nt⟩ := this
    have nd := nd_code t.bs.draw h
    have eo : o = LamX.CodeO p q := Option.some.inj ((t.bs.frame p o ho nd nt).symm.trans h)
    subst eo
    exact ⟨L, fun _ h => h, t, fun σ' H' s' B' t' l => t'.bs.frame p _ ho nd nt⟩
end
abbrev Lam := Arguments × Expr × Scope × Pos
section
variable {X : Cx} {W : WX} {k : Nat}
/-- v is the lambda l, whatever happens to what is held -/
def Known1 (X : Cx) (q : Dr) (L : List (Addr × HO)) (H0 B0 B : Hp) (l : Lam) (v : V) : Prop := ∃ f c', v = .ref f ∧ ∀ σ H s B', At (cx X q) L H0 B0 σ H s B' → Le B B' → H f = some (lamAt X f c' l.1 l.2.1 l.2.2.1) ∧ H c' = some (LamX.CodeO c' (lamQ X))
theorem Known1.sub {q : Dr} {L L' : List (Addr × HO)} {H0 B0 B : Hp} {l : Lam} {v : V} (h : Known1 X q L H0 B0 B l v) (hs : ∀ x ∈ L, x ∈ L') : Known1 X q L' H0 B0 B l v := by
  obtain ⟨f, c', e, h⟩ := h
  exact ⟨f, c', e, fun σ H s B' t l => h σ H s B' (t.sub hs) l⟩
end
/-! ### readings under a condition on the state -/
section
variable {X : Cx} {W : WX} {C : L2.St → Hp → Prop} {a : Expr} {Fa : DF} {F : DFT} {pos p : Pos}
end
/-! ### the loop -/
section
variable {X : Cx} {W : WX}
end
end DL


set_option Elab.async false
set_option linter.all false
set_option maxRecDepth 100000
set_option maxHeartbeats 4000000
namespace Law
open PySem L2 DL
variable [Tb]
/-! ### walks joined, backwards, rooms: the refusals too -/
abbrev oneH : List (Str × Bool) := [("House", true)]
/-! ### houses of any size that laws draw -/
structure HsG (n : Nat) (xs : List D) : Prop where
  n1 : 1 ≤ n
  n12 : n ≤ 12
  hd : ∀ d ∈ xs, DoorIs n d
  hx : xs.length ≤ 20
  re : ∀ i, i < n → Reach (xs.map endsD) i
theorem HsG.x {n : Nat} {xs : List D} (H : HsG n xs) : xs.length ≤ 1000 := Nat.le_trans H.hx (by decide)
theorem s_HouseG {n : Nat} {xs : List D} {T : Nat} {post : Sl → Nat → Prop} {ex : Str → List (Str × D) → Nat → Prop} (H : HsG n xs) (hp : post (.ow (houseD n xs)) T) : S_House [.int n, .tup xs] T post ex := by
  have n1 := H.n1
  have n3 := H.n12
  have hx := H.hx
  have hb : within (.int (n : Int)) 1 12 = true := by
    show (decide ((1 : Int) ≤ (n : Int)) && decide ((n : Int) ≤ 12)) = true
    rw [decide_eq_true (by omega), decide_eq_true (by omega)]
    rfl
  have ha : areDoors n (.tup xs) = true := by
    show (decide (xs.length ≤ 20) && xs.all (isDoor n)) = true
    rw [decide_eq_true (by omega), Bool.true_and]
    exact List.all_eq_true.mpr fun d h => (door_is (H.hd d h)).1
  refine ⟨.int n, .tup xs, rfl, rfl, rfl, fun ys h d hdd => ?_, fun z => ?_, fun m em _ => ?_⟩
  · cases h
    exact (door_is (H.hd d hdd)).2
  · rw [hb] at z; cases z
  have en : m = n := by
    injection em with em
    omega
  subst en
  refine ⟨fun z => ?_, fun _ => ⟨xs, rfl, H.re, hp⟩⟩
  rw [ha] at z
  cases z
end Law


set_option Elab.async false
set_option linter.all false
set_option maxRecDepth 100000
set_option maxHeartbeats 4000000
namespace DL
open PySem L2 PyProof.Rows
/-! ### texts of data: repr, where no built-in that watches for itself runs below -/
/-! ### math.gcd, math.lcm -/
section
variable [Tb] {X : Cx} {W : WX} {p pos : Pos} {e : Expr} {es : List Expr} {G : DFA}
end
end DL


set_option Elab.async false
set_option linter.all false
set_option maxRecDepth 100000
set_option maxHeartbeats 4000000
namespace DL
open PySem PySem.Spec PyProof.Rows L2
/-! ### the law's run with what watches for itself told: nothing of it runs below -/
structure FnOkG (P : Program) (w : World) (K : PySem.W.Frag) (mg : Str → Option Value) (base : Heap) (k : Nat) (f : Addr) (fd : FuncData) (ps : List Str) (sp : Sp) : Prop where
  go : ∀ (A : Around) (outer : List Env) (s : Shared) (H : Hp) (args : Args) (us : List Value) (vs : List V) (Q : VK) (E : XK), A.guards = some [] → Room k A → Env0 P w K mg base A outer s H →
    BindsTo s fd args (ps.zip us) → Vals vs us → sp vs H Q E → codeAny (model P w) A (.call (.ref f) args) (CR CX0 outer P w H s Q E) s
/-- a def's body, run where nothing watches below -/
theorem fnG_of {P : Program} {w : World} {K : PySem.W.Frag} {mg : Str → Option Value} {base : Heap} {k : Nat} {f : Addr} {x qual : Str} {st : Stmt} {kV doc pm cdv ct oc : Value} {an od : Option Addr} {osl : Array (Option Value)} {N ps : List Str} {sp : Sp}
    (lk : K.lookup f = some ⟨oc, od, .func (PySem.W.fnOf x qual (defArgs st) (defBody st) (defScope st) .none kV doc pm an cdv ct), osl⟩) (cdK : PySem.W.codeIn K cdv qual = true) (Sc : FnScope N ps (defScope st)) (lenP : ∀ vs H Q E, sp vs H Q E → vs.length = ps.length)
    (body : ∀ (A : Around) (outer : List Env) (s : Shared) (H : Hp) (vs : List V) (Q : VK) (E : XK), A.guards = some [] → Room k (A.deeper (envOfC qual (defScope st) s.heap.objs.size f cdv)) → sp vs H Q E →
      ∃ t, PSs (cxOf CX0 P w K mg base N qual (defScope st) f cdv A outer s H E) (defBody st) t ∧ t { nx := fun _ H' => Q .non H', rt := Q } (L2.start N vs) H) :
    FnOkG P w K mg base (k + 1) f (PySem.W.fnOf x qual (defArgs st) (defBody st) (defScope st) .none kV doc pm an cdv ct) ps sp := by
  constructor
  intro A outer s H args us vs Q E hgd room e0 binds rv hs
  have inK : K.In s.heap := e0.mod.kin.keeps fun b o z => (e0.bs b o z).1
  have nolim : s.heap.NoLimit := e0.mod.nolimit.keeps fun b o z => (e0.bs b o z).1
  have kinds : ∀ y ∈ ps.zip us, (defScope st).names.lookup y.1 = some .local ∨ ((defScope st).names.lookup y.1 = some .cell ∧ ((cellsFrom (s.heap.objs.size + 1) (defScope st).names []).lookup y.1).isSome = true) := by
    rintro ⟨n, v⟩ hy
    cases Sc.par n (List.of_mem_zip hy).1 with
    | inl q => exact .inl q
    | inr q => exact .inr ⟨q, PySem.W.cellsFrom_some _ _ _ (.inl q)⟩
  have entered := inK _ _ lk
  have code := PySem.W.codeRec_of inK cdK
  refine codeAny_call_function room.depth entered rfl Sc.co Sc.gen rfl code (binds _ _ _ _ ?_)
  refine wpAny_newFunctionEnv_cells Sc.kind kinds ?_
  intro env he s1 x
  subst he
  obtain ⟨t, ht, hq⟩ := body A outer s H vs Q E hgd (room.deeper _) hs
  have I := inv_start (CX := CX0) (P := P) (w := w) (K := K) (mg := mg) (base := base) (N := N) (E := E) Sc room.hd e0 (lenP _ _ _ _ hs) rv x
  have ran := ht.run [] s1 (L2.start N vs) H _ I hq
  refine ⟨nolim.keeps x.toInCall.keep, codeAny_func (wpAny_mono ran (fun fl s' hs => ?_) fun e s' hs => hs)⟩
  match fl, hs with
  | .ret u, ⟨v, σ', H', J, r, q⟩ => exact ⟨v, H', J.os, J.bare, J.base, J.hok, r, q⟩
  | .next, ⟨σ', H', J, q⟩ => exact ⟨.non, H', J.os, J.bare, J.base, J.hok, rfl, q⟩
  | .brk, ⟨_, _, _, q⟩ => exact q.elim
  | .cont, ⟨_, _, _, q⟩ => exact q.elim
/-! ### the heap at the law's start -/
/-- what is tracked there: the tables, the script (if the head does not hold it) -/
def begH (K : PySem.W.Frag) (ts : List Addr) (a : Addr) (o : Obj) (ns : List Int) : Hp := fun b =>
  if b ∈ ts then some (.tbl #[]) else if b = a ∧ K.lookup a = none then some (.frz o (.lst (ns.map V.int))) else none
theorem begH_tbl {K : PySem.W.Frag} {ts : List Addr} {a : Addr} {o : Obj} {ns : List Int} {b : Addr} (h : b ∈ ts) : begH K ts a o ns b = some (.tbl #[]) := if_pos h
theorem begH_some {K : PySem.W.Frag} {ts : List Addr} {a : Addr} {o : Obj} {ns : List Int} {b : Addr} {u : HO} (h : begH K ts a o ns b = some u) : (b ∈ ts ∧ u = .tbl #[]) ∨ (b ∉ ts ∧ b = a ∧ K.lookup a = none ∧ u = .frz o (.lst (ns.map V.int))) := by
  unfold begH at h
  by_cases h1 : b ∈ ts
  · rw [if_pos h1] at h
    exact .inl ⟨h1, (Option.some.inj h).symm⟩
  · rw [if_neg h1] at h
    by_cases h2 : b = a ∧ K.lookup a = none
    · rw [if_pos h2] at h
      exact .inr ⟨h1, h2.1, h2.2, (Option.some.inj h).symm⟩
    · rw [if_neg h2] at h
      cases h
/-- what a law's text proves of its own defs, over any base, where nothing watches below -/
def LawFnG (l : PySem.W.OpenLaw) (fa : List He.Fa) (fn : List He.DefD) (tf : List He.Defn) (ex : PySem.W.Frag → Bool) (k : Nat) : Prop :=
  ∀ (w : World) (K : PySem.W.Frag) (h : Heap) (mg : Str → Option Value) (f : Addr), K.In h → h.Ns mainGlobals mg → mg ("law" : Str) = some (.ref f) → He.SaysX fa fn [] tf ex w h K →
    ∃ fd : FuncData, (∀ (s : Shared) (v : Value), BindsTo s fd ⟨[v], []⟩ [("script", v)]) ∧ ∀ base : Heap, K.In base → base.Ns mainGlobals mg → (∀ p ∈ tf, LamX.TabB base mg (He.cT K p).1 (He.cT K p).2) → (letI : Tb := ⟨tbOf K tf⟩; FnOkG l.prog w K mg base k f fd ["script"] (spLaw K))
theorem law_walkG {l : PySem.W.OpenLaw} {q : Program} {loose : List Str} {XP : (Str → Option Value) → Heap → Prop} {n : Nat} {fa : List He.Fa} {fn : List He.DefD} {tf : List He.Defn} {ex : PySem.W.Frag → Bool} {d : DefRec} {k : Nat} (hn : l.most = some 63) (hdf : d.params.defaults = []) (hr : Room k callerA) (hd : d.name = ("law" : Str)) (F : LawFnG l fa fn tf ex k) :
    PySem.W.WalkO q loose XP (He.hookX n fa fn [] tf ex).says l.row.toRowW d [] (fun f vs => PySem.call f vs) := by
  refine Att.attach_callB hn hdf ?_
  intro w s₀ s mg mb f fo pm cd doc a vs ns G Y _ _ _ hmg hobj hints hlen _ hgens
  obtain ⟨K, KX, c⟩ := Y
  rw [hd] at hmg
  obtain ⟨fd, hb, hF⟩ := F w K s.heap mg f KX G.T.g hmg c
  letI : Tb := ⟨tbOf K tf⟩
  let ts := tf.map fun p => (He.cT K p).2
  have empty : ∀ b ∈ ts, s.heap.get? b = some { cls := .none, data := .fields #[] } := fun b hb => by
    obtain ⟨p, hp, rfl⟩ := List.mem_map.mp hb
    exact c.empty p hp
  have out : ∀ b ∈ ts, K.lookup b = none := fun b hb => by
    obtain ⟨p, hp, rfl⟩ := List.mem_map.mp hb
    exact c.out p hp
  have code : ∀ p ∈ tf, PySem.W.CodeHd s.heap (He.cT K p).1 (He.cT K p).2 := fun p hp => PySem.W.codeHd_of_K KX (c.hd p hp)
  have aT : a ∉ ts := fun z => by
    have z1 := hobj.symm.trans (empty a z)
    have z2 : Data.seq vs.toArray _ = Data.fields #[] := congrArg Obj.data (Option.some.inj z1)
    cases z2
  have rvs := vals_ints hints
  have few : ns.length ≤ sizeLine := Nat.le_trans hlen (by decide)
  generalize hH : begH K ts a { cls := .type "list", data := .seq vs.toArray } ns = H
  have tbl : ∀ b ∈ ts, H b = some (.tbl #[]) := fun b hb => by rw [← hH]; exact begH_tbl hb
  have only : ∀ b u, H b = some u → (b ∈ ts ∧ u = .tbl #[]) ∨ (b ∉ ts ∧ b = a ∧ K.lookup a = none ∧ u = .frz { cls := .type "list", data := .seq vs.toArray } (.lst (ns.map V.int))) := fun b u z => by
    rw [← hH] at z
    exact begH_some z
  have seen : SqL K H a (ns.map V.int) := by
    cases z : K.lookup a with
    | none =>
      left
      right
      refine ⟨{ cls := .type "list", data := .seq vs.toArray }, ?_⟩
      rw [← hH]
      unfold begH
      rw [if_neg aT, if_pos ⟨rfl, z⟩]
    | some o =>
      have e := KX a o z
      rw [hobj] at e
      cases e
      right
      exact ⟨_, vs.toArray, _, z, rfl, rfl, rfl, by rw [List.size_toArray, hints.length]; exact few, by simpa using rvs⟩
  have held : HOk l.prog w H s.heap := fun b u z => by
    rcases only b u z with ⟨h1, rfl⟩ | ⟨_, rfl, _, rfl⟩
    · exact empty b h1
    · exact ⟨hobj, by rw [List.length_map]; exact few, vs, _, rvs, hobj⟩
  have free : ∀ {b : Addr} {o : Obj}, s.heap.get? b = some o → o.cls ≠ .type "list" → o.data ≠ .fields #[] → H b = none := fun {b o} e n1 n2 => by
    cases z : H b with
    | none => rfl
    | some u =>
      rcases only b u z with ⟨h1, _⟩ | ⟨_, h1, _, _⟩
      · rw [empty b h1] at e
        cases e
        exact absurd rfl n2
      · rw [h1, hobj] at e
        cases e
        exact absurd rfl n1
  have freeD : ∀ {b : Addr} {o : Obj} {es : Array DictEntry} {ep : Nat}, s.heap.get? b = some o → o.data = .dict es ep → H b = none := fun {b o es ep} e ed => by
    cases z : H b with
    | none => rfl
    | some u =>
      rcases only b u z with ⟨h1, _⟩ | ⟨_, h1, _, _⟩
      · rw [empty b h1] at e
        cases e
        cases ed
      · rw [h1, hobj] at e
        cases e
        cases ed
  have nsB : ∀ {b : Addr} {m : Str → Option Value}, s.heap.Ns b m → (hidT s.heap H).Ns b m := by
    rintro b m ⟨o, es, ep, e1, e2, e3⟩
    exact ⟨o, es, ep, hidT_get e1 (freeD e1 e2), e2, e3⟩
  have kB : K.In (hidT s.heap H) := fun b o e => by
    refine hidT_get (KX b o e) ?_
    cases z : H b with
    | none => rfl
    | some u =>
      rcases only b u z with ⟨h1, _⟩ | ⟨_, h1, h2, _⟩
      · rw [out b h1] at e; cases e
      · rw [h1, h2] at e; cases e
  have modB : L2.Mod K mg (hidT s.heap H) := by
    obtain ⟨mc, l1, l2⟩ := G.T.nolimit
    exact ⟨kB, nsB G.T.g, ⟨mb, nsB G.T.b, G.T.builtins⟩, mc, nsB l1, l2⟩
  have tabsB : ∀ p ∈ tf, LamX.TabB (hidT s.heap H) mg (He.cT K p).1 (He.cT K p).2 := fun p hp => by
    have inT : (He.cT K p).2 ∈ ts := List.mem_map.mpr ⟨p, hp, rfl⟩
    refine ⟨?_, ?_, fun z => ?_⟩
    · obtain ⟨o, us, file, tk, flags, tg, inF, text, tt, e1, r1, r2, r3, rest⟩ := code p hp
      refine ⟨o, us, file, tk, flags, tg, inF, text, tt, hidT_get e1 (free e1 (fun z => ?_) fun z => ?_), r1, r2, r3, rest⟩
      · rw [r1] at z; injection z with z; exact absurd z (by decide)
      · rw [r2] at z; cases z; simp at r3
    · obtain ⟨bm, ob, b1, b2, b3, b4, b5, b6⟩ := G.T.bmain
      refine ⟨bm, ob, b1, b2, fun z => ?_, fun z => ?_, hidT_get b3 (free b3 (fun z => ?_) fun z => ?_), b4, b5, b6⟩
      · obtain ⟨o, es, ep, e, ed, _⟩ := G.T.g
        rw [z, e] at b3
        cases b3
        rw [ed] at b6
        cases b6
      · rw [z, empty _ inT] at b3
        cases b3
        cases b6
      · rw [b4] at z; injection z with z; exact absurd z (by decide)
      · rw [b6] at z; cases z
    · obtain ⟨o, es, ep, e, ed, _⟩ := G.T.g
      rw [z, empty _ inT] at e
      cases e
      cases ed
  have e0 : Env0 l.prog w K mg (hidT s.heap H) callerA [] s H := by
    refine ⟨rfl, modB, fun b o e => of_hidT e, Nat.le_of_eq (hidT_size _ _), trivial, ?_, held, .of_eq hgens⟩
    intro b z
    exact absurd (show b ∈ ([] : List Addr) from z) (by simp)
  have run := (hF _ kB (nsB G.T.g) tabsB).go callerA [] s H ⟨[.ref a], []⟩ [.ref a] [.ref a] (fun v _ => v = .bl true) (fun _ _ _ => False) rfl hr e0 (hb s (.ref a)) (.cons rfl .nil)
    ⟨a, ns, rfl, seen, hlen, fun p hp => (by
      obtain ⟨q, hq, rfl⟩ := List.mem_map.mp hp
      exact LamX.TabS.nil (tbl _ (List.mem_map.mpr ⟨q, hq, rfl⟩))), fun _ => rfl⟩
  refine codeAny_mono run fun r s' h => ?_
  match r, h with
  | .error _, h => exact h.elim
  | .ok .next, h => exact False.elim h
  | .ok .brk, h => exact False.elim h
  | .ok .cont, h => exact False.elim h
  | .ok (.ret u), ⟨v, H', os, bare, un, held', rv, ev⟩ =>
    have ev : v = .bl true := ev
    subst ev
    obtain rfl : u = Value.bool true := rv
    have stays : ∀ b o, b ∉ ts → s.heap.get? b = some o → s'.heap.get? b = some o := fun b o nb e => by
      cases z : H b with
      | none => exact un.keep b o e z (fun y => absurd (show b ∈ ([] : List Addr) from y) (by simp)) (by simp)
      | some u =>
        rcases only b u z with ⟨h1, _⟩ | ⟨_, h1, _, rfl⟩
        · exact absurd h1 nb
        · have z2 := (held' b _ (un.frzs b _ _ z)).1
          rw [h1, hobj] at e
          cases e
          exact z2
    have grown : ∀ b ∈ ts, ∃ more : Array Value, s'.heap.get? b = some { cls := .none, data := .fields more } := fun b hb => by
      obtain ⟨more, z⟩ := un.tbls b #[] (tbl b hb)
      exact ⟨_, held' b _ z⟩
    refine ⟨rfl, ⟨fun b o e => ?_, fun b o e => ?_⟩, os, bare⟩
    · by_cases inT : b ∈ ts
      · obtain ⟨p, hp, rfl⟩ := List.mem_map.mp inT
        obtain ⟨more, hm⟩ := grown _ inT
        rw [empty _ inT] at e
        cases e
        exact .inr (.inl ⟨((code p hp).tab (empty _ inT)).isCodeTable, rfl, #[], more, rfl, by rw [Array.empty_append]; exact hm⟩)
      · exact .inl (stays b o inT e)
    · by_cases inT : b ∈ ts
      · obtain ⟨more, hm⟩ := grown b inT
        exact ⟨_, hm⟩
      · exact ⟨o, stays b o inT e⟩
/-! ### the law with and without lambdas -/
section
variable [Tb] {P : Program} {w : World} {K : PySem.W.Frag} {mg : Str → Option Value} {base : Heap}
/-- the state behind the law's first statement -/
theorem law_begins {X : Cx} {N : List Str} {fB : Addr} {fdB : FuncData} {G : DG} {rest : List Stmt} {p1 p2 p3 p4 p5 : Pos} {k : Nat} {Q : VK} {a : Addr} {ns : List Int} {H : Hp} (hXN : X.N = N) (hN : N = ("script" : Str) :: ("state" : Str) :: N.drop 2) (nd : N.Nodup)
    (hl0 : Vis X.env.scope "script") (hl1 : Loc X.env.scope "state") (hfn : X.fn "state" = true) (hgl : Gl X "_law_begun") (hr : Room k X.A)
    (GB : FnOk X.prog X.w X.K X.mg X.base CX0 k fB fdB ["script"] (spBegun X.K)) (mB : X.mg "_law_begun" = some (.ref fB)) (kB : PySem.W.keepIn X.K (.ref fB) = true) (bB : Binds X.K fdB ["script"] [])
    (hrest : DPSs X W0 rest G) (hS : SqL X.K H a (ns.map V.int)) (hl : ns.length ≤ 63) (hT : LamX.Tabs Tb.tb H) (hQ : ∀ H', Q (.bl true) H')
    (hG : G (endsOf (fun x _ => x = .fz (.bl true)) (fun _ _ _ => False)) ⟨some (.fz (.scr ns)) :: some (.fz .st) :: List.replicate (N.length - 2) none, 0⟩) :
    ∃ t, PSs X (.Assign [.Name "state" p1] (.Call (.Name "_law_begun" p2) [.Name "script" p3] [] p4) p5 :: rest) t ∧ t { nx := fun _ H' => Q .non H', rt := Q } (L2.start N [.ref a]) H := by
  subst hXN
  generalize hM : X.N.drop 2 = N' at hN
  clear hM
  have h0 : X.N[0]? = some ("script" : Str) := by rw [hN]; rfl
  have h1 : X.N[1]? = some ("state" : Str) := by rw [hN]; rfl
  have hlen : X.N.length = N'.length + 2 := by rw [hN]; rfl
  refine ⟨_, pss_cons (ps_set (i := 1) nd h1 hl1 (pe_call GB hr hgl mB kB bB .nil pass0 (pa_cons (pe_var (i := 0) h0 hl0 (by decide) (by decide)) pa_nil)) (hf := Or.inl hfn)) hrest.ps, ?_⟩
  refine ⟨.ref a, ?_, a, ns, rfl, hS, hl, hT, fun p g l gs ls H' S np ng nl kp T' => ?_⟩
  · rw [hN]; rfl
  obtain ⟨B, le, hB, nt, only⟩ := scr_part hS
  have bn : ∀ {b}, Fr H b → B b = none := fun {b} e => by
    cases q : B b with
    | none => rfl
    | some o =>
      obtain ⟨ps, z⟩ := e o (le b o q)
      exact absurd (by rw [q, z]) (nt b ps)
  have b := bs_st (K := X.K) (mg := X.mg) (T := 0) S (Int.le_refl 0) (fun b o e => kp b o (le b o e) fun ps z => nt b ps (by rw [e, z])) (bn np) (bn ng) (bn nl) nt T'
  have none_at : ∀ (i : Nat) (y : Sl), (List.replicate (X.N.length - 2) (none : Option Sl))[i]? ≠ some (some y) := fun i y e => by
    rw [List.getElem?_replicate] at e
    split at e <;> cases e
  refine ⟨⟨some (p, g, l)⟩, [], H', B, ⟨some (.fz (.scr ns)) :: some (.fz .st) :: List.replicate (X.N.length - 2) none, 0⟩, B, endsOf (fun x _ => x = .fz (.bl true)) (fun _ _ _ => False), ⟨b, ?_, fun i d e => ?_, fun i d e => ?_, fun i j d e q h => ?_, fun x hx => absurd hx (by simp)⟩, hG, ⟨fun _ _ _ _ _ _ z => (by cases z), fun _ _ _ _ _ _ z => z.elim, fun _ _ _ _ _ _ z => z.elim, fun σ v H s B d t l r n => ?_, fun σ p o H s B d t l hp ro n => (by cases n), fun _ _ _ _ _ _ _ _ _ _ _ z => z.elim⟩⟩
  · show _ ≤ ((L2.start X.N [.ref a]).set 1 (some (.ref p))).length
    rw [List.length_set]
    simp [L2.start, hlen]
  · match i, e with
    | 0, e => cases e; exact ⟨.ref a, by rw [hN]; rfl, by unfold Rep; exact ⟨a, rfl, hB⟩⟩
    | 1, e => cases e; exact ⟨.ref p, by rw [hN]; rfl, by unfold Rep; exact ⟨p, g, l, rfl, rfl⟩⟩
    | i + 2, e => exact absurd e (none_at i _)
  · match i, e with
    | 0, e => cases e
    | 1, e => cases e
    | i + 2, e => exact absurd e (none_at i _)
  · match i, h with
    | 0, e => cases e
    | 1, e => cases e
    | i + 2, e => exact absurd e (none_at i _)
  · cases n
    rw [rep_bl r]
    exact hQ _
theorem law_okLG {st : Stmt} {f fB c : Addr} {fd fdB : FuncData} {N : List Str} {k : Nat} {G : DG} {rest : List Stmt} {p1 p2 p3 p4 p5 : Pos} (F : FunL K "law" "law" st f fd c) (Sc : FnScope N ["script"] (defScope st)) (hbd : defBody st = .Assign [.Name "state" p1] (.Call (.Name "_law_begun" p2) [.Name "script" p3] [] p4) p5 :: rest) (hN : N = ("script" : Str) :: ("state" : Str) :: N.drop 2)
    (hl0 : Vis (defScope st) "script") (hl1 : Loc (defScope st) "state") (hgl : (defScope st).names.lookup ("_law_begun" : Str) = some .globalImplicit)
    (GB : FnOk P w K mg base CX0 k fB fdB ["script"] (spBegun K)) (mB : mg "_law_begun" = some (.ref fB)) (kB : PySem.W.keepIn K (.ref fB) = true) (bB : Binds K fdB ["script"] [])
    (hrest : ∀ (A : Around) (outer : List Env) (s : Shared) (H : Hp) (E : XK), A.guards = some [] → Room k (A.deeper (PyProof.Rows.envOfC "law" (defScope st) s.heap.objs.size f (.ref c))) → DPSs (cxOf CX0 P w K mg base N "law" (defScope st) f (.ref c) A outer s H E).nox W0 rest G)
    (hG : ∀ ns : List Int, ns.length ≤ 63 → G (endsOf (fun x _ => x = .fz (.bl true)) (fun _ _ _ => False)) ⟨some (.fz (.scr ns)) :: some (.fz .st) :: List.replicate (N.length - 2) none, 0⟩) : FnOkG P w K mg base (k + 1) f fd ["script"] (spLaw K) := by
  obtain ⟨oc, od, kV, doc, pm, an, ct, osl, rfl, lk, hcd⟩ := F.ex
  refine fnG_of lk hcd Sc (fun vs H Q E h => ?_) (fun A outer s H vs Q E gd hr h => ?_)
  · obtain ⟨a, ns, rfl, _⟩ := h
    rfl
  · obtain ⟨a, ns, rfl, hS, hl, hT, hQ⟩ := h
    rw [hbd]
    obtain ⟨t, h1, h2⟩ := law_begins (X := (cxOf CX0 P w K mg base N "law" (defScope st) f (.ref c) A outer s H E).nox) (Q := Q) (p1 := p1) (p2 := p2) (p3 := p3) (p4 := p4) (p5 := p5) rfl hN Sc.nd hl0 hl1 rfl hgl hr GB mB kB bB (hrest A outer s H E gd hr) hS hl hT hQ (hG ns hl)
    exact ⟨t, h1.nox, h2⟩
end
end DL


set_option Elab.async false
set_option linter.all false
set_option maxRecDepth 100000
set_option maxHeartbeats 4000000
namespace DL
open PySem PySem.Spec PyProof.Rows L2
/-! ### any of whole numbers -/
variable [Tb]
end DL


set_option Elab.async false
set_option linter.all false
set_option maxRecDepth 100000
set_option maxHeartbeats 4000000
namespace DL
open PySem PySem.Spec PyProof.Rows L2
/-! ### wide division, x = y = e, math.lcm -/
variable [Tb]
section
variable {X : Cx} {W : WX} {p pos : Pos} {e : Expr} {Fa : DF}
end
end DL


set_option Elab.async false
set_option linter.all false
set_option maxRecDepth 100000
set_option maxHeartbeats 4000000
namespace Law
open PySem L2 DL
variable [Tb]
/-! ### common divisors and multiples (k17 to k24) -/
def lcmL (ns : List Int) : Nat := ns.foldl (fun f z => Nat.lcm f z.natAbs) 1
def S__law_multiple : PF := fun ds T post _ => ∃ ns : List Int, ds = [.lst (ns.map D.int)] ∧ ns.length ≤ 1000 ∧ (∀ z ∈ ns, z ≠ 0 ∧ z.natAbs < 2 ^ 400) ∧ post (.fz (.int (lcmL ns))) T
/-! ### houses, carried numbers -/
end Law


set_option Elab.async false
set_option linter.all false
set_option maxRecDepth 100000
set_option maxHeartbeats 4000000
namespace Law
open PySem L2 DL
variable [Tb]
/-! ### doors that fit lengths (k17 to k24) -/
def prD (p : Nat × Nat) : D := .tup [.int p.1, .int p.2]
def fdSt (n m : Nat) (v3 v4 v5 v6 v7 v8 v9 v10 v11 v12 : OS) (T : Nat) : DS := ⟨[some (.fz .st), some (.fz (.int n)), some (.fz (.int m)), v3, v4, v5, v6, v7, v8, v9, v10, v11, v12], T⟩
def G_fd0 : DG := (gRet (dTup (aCons (dCB cTuple (aCons (dVar 6) aNil)) (aCons (dCB cTuple (aCons (dVar 3) aNil)) aNil))))
def G_fd1i : DG := (gSeq (gSet 9 (dOp dMul (dCall S__law_multiple 1 (aCons (dLst (aCons (dIxV 3 (dVar 7)) (aCons (dIxV 3 (dVar 8)) aNil))) aNil)) (dCall S__law_pick 2 (aCons (dVar 0) (aCons (dLst (aCons (dC (.int 1)) (aCons (dC (.int 2)) (aCons (dC (.int 3)) (aCons (dC (.int 1)) (aCons (dC (.int 5)) aNil)))))) aNil)))))
    (gSeq (gSet 10 (dOp dMul (dOp dFdiv (dVar 9) (dIxV 3 (dVar 7))) (dCall S__law_pick 2 (aCons (dVar 0) (aCons (dLst (aCons (dC (.int 1)) (aCons (dC (.int 1)) (aCons (dNeg (dC (.int 1))) aNil)))) aNil)))))
    (gSeq (gSet 11 (dOp dMul (dOp dFdiv (dVar 9) (dIxV 3 (dVar 8))) (dCall S__law_pick 2 (aCons (dVar 0) (aCons (dLst (aCons (dC (.int 1)) (aCons (dC (.int 1)) (aCons (dNeg (dC (.int 1))) aNil)))) aNil)))))
    (gApp 6 (dTup (aCons (dVar 7) (aCons (dVar 10) (aCons (dVar 8) (aCons (dVar 11) aNil)))))))))
def G_fd1 : DG := (gSeq (gSetO 6 (dLst aNil))
    (gSeq (gFor (iSeq (dCall S__law_mixed 2 (aCons (dVar 0) (aCons (dVar 4) aNil)))) (tgTup 2 (tgCons (tgN 7) (tgCons (tgN 8) tgNil))) G_fd1i)
    G_fd0))
def G_fd2 : DG := (gSeq (gFor (iRng1D (dCall S__law_draw 2 (aCons (dVar 0) (aCons (dOp dAdd (dVar 2) (dC (.int 1))) aNil)))) (tgN 5) (gApp 4 (dTup (aCons (dCall S__law_draw 2 (aCons (dVar 0) (aCons (dVar 1) aNil))) (aCons (dCall S__law_draw 2 (aCons (dVar 0) (aCons (dVar 1) aNil))) aNil)))))
    G_fd1)
theorem lcm_two {a b : Int} (ha : 1 ≤ a ∧ a ≤ 6) (hb : 1 ≤ b ∧ b ≤ 6) : 1 ≤ lcmL [a, b] ∧ lcmL [a, b] ≤ 36 ∧ a.natAbs ≤ lcmL [a, b] ∧ b.natAbs ≤ lcmL [a, b] := by
  have e : lcmL [a, b] = Nat.lcm a.natAbs b.natAbs := by
    show Nat.lcm (Nat.lcm 1 a.natAbs) b.natAbs = _
    rw [Nat.lcm_one_left]
  rw [e]
  have p := Nat.lcm_pos (m := a.natAbs) (n := b.natAbs) (by omega) (by omega)
  have h1 := Nat.le_of_dvd p (Nat.dvd_lcm_left a.natAbs b.natAbs)
  have h2 := Nat.le_of_dvd p (Nat.dvd_lcm_right a.natAbs b.natAbs)
  have h3 : Nat.lcm a.natAbs b.natAbs ≤ a.natAbs * b.natAbs := Nat.div_le_self _ _
  have h4 : a.natAbs * b.natAbs ≤ 6 * 6 := Nat.mul_le_mul (by omega) (by omega)
  exact ⟨p, by omega, h1, h2⟩
theorem part_ok {w a s : Int} (ha : 1 ≤ a) (h : a ≤ w) (hw : w ≤ 200) (hs : s = 1 ∨ s = -1) : sizeOk (w.fdiv a * s) := by
  rw [Int.fdiv_eq_ediv_of_nonneg _ (by omega)]
  have h1 : 1 ≤ w / a := (Int.le_ediv_iff_mul_le (by omega)).mpr (by omega)
  have h2 : w / a ≤ w := Int.ediv_le_self _ (by omega)
  rcases hs with rfl | rfl
  · rw [Int.mul_one]; exact ⟨by omega, by omega, by omega⟩
  · exact ⟨by omega, by omega, by omega⟩
theorem l2' : 2 ≤ 100000 := by decide
theorem perm_map_inv {α β : Type} {f : α → β} {ys xs : List β} (h : ys.Perm xs) : ∀ {ps : List α}, xs = ps.map f → ∃ qs : List α, qs.Perm ps ∧ ys = qs.map f := by
  induction h with
  | nil =>
    intro ps e
    exact ⟨ps, .refl _, e⟩
  | cons x h ih =>
    intro ps e
    cases ps with
    | nil => cases e
    | cons p ps =>
      cases e
      obtain ⟨qs, h1, h2⟩ := ih rfl
      exact ⟨p :: qs, h1.cons p, by rw [h2]; rfl⟩
  | swap x y l =>
    intro ps e
    match ps, e with
    | p :: q :: ps, e =>
      cases e
      exact ⟨q :: p :: ps, List.Perm.swap _ _ _, rfl⟩
  | trans h1 h2 ih1 ih2 =>
    intro ps e
    obtain ⟨qs, a1, a2⟩ := ih2 e
    obtain ⟨rs, b1, b2⟩ := ih1 a2
    exact ⟨rs, b1.trans a1, b2⟩
theorem fd1 {n m : Nat} {ls : List Int} {ps : List (Nat × Nat)} {v5 : OS} {T : Nat} {post : Sl → Nat → Prop} {ex : Str → List (Str × D) → Nat → Prop} (hl : ls.length = n) (hz : ∀ z ∈ ls, 1 ≤ z ∧ z ≤ 6) (hp : ∀ p ∈ ps, p.1 < n ∧ p.2 < n) (hr : ∀ i, i < n → Reach ps i) (lp : ps.length ≤ 300) (hT : T + 5000 ≤ TM)
    (h : ∀ xs, (∀ d ∈ xs, DoorIs n d) → xs.length = ps.length → (∀ i, i < n → Reach (xs.map endsD) i) → post (.fz (.tup [.tup xs, .tup (ls.map D.int)])) (T + ps.length + 3 * ps.length)) :
    G_fd1 (endsOf post ex) (fdSt n m (some (.fz (.lst (ls.map D.int)))) (some (.ow (.lst (ps.map prD)))) v5 none none none none none none none T) := by
  refine ⟨(show 0 ≤ 100000 by decide), rfl, _, rfl, (show (ps.map prD).length ≤ 10000 by rw [List.length_map]; omega), fun d hd => ?_, (show T + (ps.map prD).length ≤ TM by rw [List.length_map]; omega), fun ys hy => ?_⟩
  · obtain ⟨p, _, rfl⟩ := List.mem_map.mp hd
    rfl
  obtain ⟨qs, hqs, rfl⟩ := perm_map_inv hy rfl
  have lq : qs.length = ps.length := hqs.length_eq
  have hq : ∀ p ∈ qs, p.1 < n ∧ p.2 < n := fun p m => hp p (hqs.subset m)
  have hrq : ∀ i, i < n → Reach qs i := fun i hi => (hr i hi).mono fun e he => .inl (hqs.symm.subset he)
  have loop : forD (tgTup 2 (tgCons (tgN 7) (tgCons (tgN 8) tgNil))) G_fd1i (qs.map prD) { endsOf post ex with nx := G_fd0 (endsOf post ex) } (fdSt n m (some (.fz (.lst (ls.map D.int)))) (some (.fz (.lst (ps.map prD)))) v5 (some (.ow (.lst []))) none none none none none none (T + ps.length)) := by
    refine forD_inv (fun i s => ∃ xs v7 v8 v9 v10 v11, s = fdSt n m (some (.fz (.lst (ls.map D.int)))) (some (.fz (.lst (ps.map prD)))) v5 (some (.ow (.lst xs))) v7 v8 v9 v10 v11 none (T + ps.length + 3 * i) ∧ (∀ d ∈ xs, DoorIs n d) ∧ xs.length = i ∧ xs.map endsD = qs.take i) (qs.map prD) 0 _ ?_ ⟨[], _, _, _, _, _, rfl, fun d h => absurd h (by simp), rfl, rfl⟩ ?_
    · rintro i d s hi ⟨xs, v7, v8, v9, v10, v11, rfl, hx, lx, ex2⟩ R hR
      rw [Nat.zero_add] at hR lx ex2
      rw [List.getElem?_map] at hi
      cases e : qs[i]? with
      | none => rw [e] at hi; cases hi
      | some p =>
        rw [e] at hi
        cases hi
        obtain ⟨a, b⟩ := p
        have il := (List.getElem?_eq_some_iff.mp e).1
        obtain ⟨ha, hb⟩ := hq (a, b) (List.mem_of_getElem? e)
        have ha : a < n := ha
        have hb : b < n := hb
        have za := hz (ls.getD a 0) (by rw [List.getD_eq_getElem?_getD, List.getElem?_eq_getElem (show a < ls.length by omega)]; exact List.getElem_mem _)
        have zb := hz (ls.getD b 0) (by rw [List.getD_eq_getElem?_getD, List.getElem?_eq_getElem (show b < ls.length by omega)]; exact List.getElem_mem _)
        obtain ⟨w1, w2, w3, w4⟩ := lcm_two za zb
        have l2 : 2 ≤ 100000 := by decide
        have l3 : 3 ≤ 100000 := by decide
        have l4 : 4 ≤ 100000 := by decide
        have l5 : 5 ≤ 100000 := by decide
        have big : (2 : Int) ^ 64 = 18446744073709551616 := by decide
        rw [Nat.zero_add]
        refine ⟨rfl, trivial, _, int_at (i := a) (by omega), trivial, _, int_at (i := b) (by omega), l2, rfl, [ls.getD a 0, ls.getD b 0], rfl, (show 2 ≤ 1000 by decide), fun z hz => ?_, l5, rfl, _, [.int 1, .int 2, .int 3, .int 1, .int 5], rfl, .inl rfl, (show 0 < 5 by decide), l5, (show T + ps.length + 3 * i < TM from by omega), fun x hx5 => ?_⟩
        · simp only [List.mem_cons, List.not_mem_nil, or_false] at hz
          rcases hz with rfl | rfl
          · exact ⟨by omega, Nat.lt_of_le_of_lt (show _ ≤ 6 by omega) (by decide +kernel)⟩
          · exact ⟨by omega, Nat.lt_of_le_of_lt (show _ ≤ 6 by omega) (by decide +kernel)⟩
        obtain ⟨k, rfl, k1, k2⟩ : ∃ k : Int, x = .int k ∧ 1 ≤ k ∧ k ≤ 5 := by
          simp only [List.mem_cons, List.not_mem_nil, or_false] at hx5
          rcases hx5 with rfl | rfl | rfl | rfl | rfl <;> exact ⟨_, rfl, by decide, by decide⟩
        have sg : ∀ y : D, y ∈ ([.int 1, .int 1, .int (-1)] : List D) → ∃ s : Int, y = .int s ∧ (s = 1 ∨ s = -1) := fun y hy => by
          simp only [List.mem_cons, List.not_mem_nil, or_false] at hy
          rcases hy with rfl | rfl | rfl
          · exact ⟨1, rfl, .inl rfl⟩
          · exact ⟨1, rfl, .inl rfl⟩
          · exact ⟨-1, rfl, .inr rfl⟩
        have wl : 1 ≤ ((lcmL [ls.getD a 0, ls.getD b 0] : Nat) : Int) * k ∧ ((lcmL [ls.getD a 0, ls.getD b 0] : Nat) : Int) * k ≤ 200 ∧ ls.getD a 0 ≤ ((lcmL [ls.getD a 0, ls.getD b 0] : Nat) : Int) * k ∧ ls.getD b 0 ≤ ((lcmL [ls.getD a 0, ls.getD b 0] : Nat) : Int) * k := by
          have hk : k = 1 ∨ k = 2 ∨ k = 3 ∨ k = 4 ∨ k = 5 := by omega
          rcases hk with rfl | rfl | rfl | rfl | rfl <;> exact ⟨by omega, by omega, by omega, by omega⟩
        refine ⟨.inr ⟨by omega, by omega⟩, ?_⟩
        refine ⟨trivial, _, int_at (i := a) (by omega), ⟨by omega, by omega⟩, l3, rfl, _, [.int 1, .int 1, .int (-1)], rfl, .inl rfl, (show 0 < 3 by decide), l3, (show T + ps.length + 3 * i + 1 < TM from by omega), fun y hy => ?_⟩
        obtain ⟨s, rfl, hs⟩ := sg y hy
        refine ⟨.inr ⟨by omega, by omega⟩, ?_⟩
        refine ⟨trivial, _, int_at (i := b) (by omega), ⟨by omega, by omega⟩, l3, rfl, _, [.int 1, .int 1, .int (-1)], rfl, .inl rfl, (show 0 < 3 by decide), l3, (show T + ps.length + 3 * i + 1 + 1 < TM from by omega), fun y2 hy2 => ?_⟩
        obtain ⟨s2, rfl, hs2⟩ := sg y2 hy2
        refine ⟨.inr ⟨by omega, by omega⟩, l4, (show xs.length < 100000 by omega), ?_⟩
        refine hR _ ⟨xs ++ [.tup [.int a, .int _, .int b, .int _]], _, _, _, _, _, rfl, dr_app hx ha hb (part_ok za.1 wl.2.2.1 wl.2.1 hs) (part_ok zb.1 wl.2.2.2 wl.2.1 hs2), by rw [List.length_append, lx]; rfl, ?_⟩
        rw [List.map_append, ex2, take_succ_get e]
        rfl
    · rintro s ⟨xs, v7, v8, v9, v10, v11, rfl, hx, lx, ex2⟩
      rw [Nat.zero_add, List.length_map] at lx ex2
      rw [List.take_length] at ex2
      rw [Nat.zero_add, List.length_map, lq]
      refine ⟨l2', h xs hx (by omega) (fun i hi => ?_)⟩
      rw [ex2]
      exact hrq i hi
  have e5 : T + (ps.map prD).length = T + ps.length := by rw [List.length_map]
  rw [← e5] at loop
  exact ⟨_, rfl, loop⟩
theorem fd2 {n m : Nat} {ls : List Int} {ps : List (Nat × Nat)} {T : Nat} {post : Sl → Nat → Prop} {ex : Str → List (Str × D) → Nat → Prop} (h1 : 1 ≤ n) (hn : n ≤ 100) (hm : m ≤ 100) (hl : ls.length = n) (hz : ∀ z ∈ ls, 1 ≤ z ∧ z ≤ 6) (hp : ∀ p ∈ ps, p.1 < n ∧ p.2 < n) (hr : ∀ i, i < n → Reach ps i) (lp : ps.length = n - 1) (hT : T + 8000 ≤ TM)
    (h : ∀ xs T', (∀ d ∈ xs, DoorIs n d) → xs.length ≤ n - 1 + m → (∀ i, i < n → Reach (xs.map endsD) i) → T ≤ T' → T' ≤ T + 1 + 2 * m + 4 * (n + m) → post (.fz (.tup [.tup xs, .tup (ls.map D.int)])) T') :
    G_fd2 (endsOf post ex) (fdSt n m (some (.fz (.lst (ls.map D.int)))) (some (.ow (.lst (ps.map prD)))) none none none none none none none none T) := by
  refine ⟨rfl, m + 1, rfl, by omega, by omega, (show T < TM from by omega), fun r r0 r1 => ⟨by omega, by omega, ?_⟩⟩
  have hk : r.toNat ≤ m := by omega
  refine forD_inv (fun i s => ∃ qs v5, s = fdSt n m (some (.fz (.lst (ls.map D.int)))) (some (.ow (.lst (qs.map prD)))) v5 none none none none none none none (T + 1 + 2 * i) ∧ (∀ p ∈ qs, p.1 < n ∧ p.2 < n) ∧ (∀ i, i < n → Reach qs i) ∧ qs.length = n - 1 + i) (rangeD 0 r.toNat) 0 _ ?_ ⟨ps, _, rfl, hp, hr, by omega⟩ ?_
  · rintro i d s hi ⟨qs, v5, rfl, hq, hrq, lq⟩ R hR
    obtain ⟨rfl, hi2⟩ := rangeD_get hi
    rw [Nat.zero_add] at lq hR
    rw [Nat.zero_add]
    refine ⟨rfl, n, rfl, by omega, by omega, (show T + 1 + 2 * i < TM from by omega), fun a a0 a1 => ?_⟩
    refine ⟨rfl, n, rfl, by omega, by omega, (show T + 1 + 2 * i + 1 < TM from by omega), fun b b0 b1 => ?_⟩
    obtain ⟨a, rfl⟩ := Int.eq_ofNat_of_zero_le a0
    obtain ⟨b, rfl⟩ := Int.eq_ofNat_of_zero_le b0
    refine ⟨l2', (show (qs.map prD).length < 100000 by rw [List.length_map]; omega), hR _ ⟨qs ++ [(a, b)], some (.fz (.int ((0 : Int) + (i : Nat)))), by rw [List.map_append, show T + 1 + 2 * (i + 1) = T + 1 + 2 * i + 1 + 1 from by omega]; rfl, fun p hp => ?_, fun j hj => (hrq j hj).mono fun e he => .inl (List.mem_append_left _ he), by rw [List.length_append, lq]; rfl⟩⟩
    rcases List.mem_append.mp hp with h | h
    · exact hq p h
    · rw [List.mem_singleton.mp h]
      exact ⟨by show a < n; omega, by show b < n; omega⟩
  · rintro s ⟨qs, v5, rfl, hq, hrq, lq⟩
    rw [rangeD_len, Nat.zero_add] at lq
    rw [rangeD_len, Nat.zero_add]
    exact fd1 hl hz hq hrq (by omega) (by omega) fun xs hx lx hrx => h xs _ hx (by omega) hrx (by omega) (by omega)
end Law


set_option Elab.async false
set_option linter.all false
set_option maxRecDepth 100000
set_option maxHeartbeats 4000000
namespace Law
open PySem L2 DL
variable [Tb]
/-! ### bare walks, pulls carried along (k20, k21) -/
theorem big64 : (2 : Int) ^ 64 = 18446744073709551616 := by decide
/-! ### what is no walk -/
end Law


set_option Elab.async false
set_option linter.all false
set_option maxRecDepth 100000
set_option maxHeartbeats 4000000
namespace Law
open PySem L2 DL
variable [Tb]
/-! ### ratios in lowest terms -/
def sgG (a b : Int) : Int := if b < 0 then -((Nat.gcd a.natAbs b.natAbs : Nat) : Int) else ((Nat.gcd a.natAbs b.natAbs : Nat) : Int)
def lowI (a b : Int) : Int × Int := (a.fdiv (sgG a b), b.fdiv (sgG a b))
theorem sgG_ne {a b : Int} (hb : b ≠ 0) : sgG a b ≠ 0 := by
  have : 0 < Nat.gcd a.natAbs b.natAbs := Nat.gcd_pos_of_pos_right _ (by omega)
  unfold sgG
  split <;> omega
theorem sgG_dvd {a b : Int} : sgG a b ∣ a ∧ sgG a b ∣ b := by
  have h1 : ((Nat.gcd a.natAbs b.natAbs : Nat) : Int) ∣ a := Int.natAbs_dvd_natAbs.mp (by rw [Int.natAbs_natCast]; exact Nat.gcd_dvd_left ..)
  have h2 : ((Nat.gcd a.natAbs b.natAbs : Nat) : Int) ∣ b := Int.natAbs_dvd_natAbs.mp (by rw [Int.natAbs_natCast]; exact Nat.gcd_dvd_right ..)
  unfold sgG
  split
  · exact ⟨Int.neg_dvd.mpr h1, Int.neg_dvd.mpr h2⟩
  · exact ⟨h1, h2⟩
structure IsLow (p q a b : Int) : Prop where
  pos : 0 < q
  co : Nat.gcd p.natAbs q.natAbs = 1
  eq : p * b = a * q
theorem low_is {a b : Int} (hb : b ≠ 0) : IsLow (lowI a b).1 (lowI a b).2 a b := by
  have g0 := sgG_ne (a := a) hb
  obtain ⟨d1, d2⟩ := sgG_dvd (a := a) (b := b)
  obtain ⟨x, hx⟩ := d1
  obtain ⟨y, hy⟩ := d2
  have e1 : (lowI a b).1 = x := by
    show a.fdiv (sgG a b) = x
    generalize sgG a b = g at hx g0 ⊢
    rw [hx]
    exact Int.mul_fdiv_cancel_left x g0
  have e2 : (lowI a b).2 = y := by
    show b.fdiv (sgG a b) = y
    generalize sgG a b = g at hy g0 ⊢
    rw [hy]
    exact Int.mul_fdiv_cancel_left y g0
  rw [e1, e2]
  have na : (sgG a b).natAbs = Nat.gcd a.natAbs b.natAbs := by unfold sgG; split <;> omega
  have gp : 0 < Nat.gcd a.natAbs b.natAbs := Nat.gcd_pos_of_pos_right _ (by omega)
  refine ⟨?_, ?_, ?_⟩
  · by_cases c : b < 0
    · have gn : sgG a b < 0 := by unfold sgG; rw [if_pos c]; omega
      by_cases z : 0 < y
      · exact z
      · exfalso
        have : 0 ≤ sgG a b * y := Int.mul_nonneg_of_nonpos_of_nonpos (by omega) (by omega)
        omega
    · have gn : 0 < sgG a b := by unfold sgG; rw [if_neg c]; omega
      by_cases z : 0 < y
      · exact z
      · exfalso
        have : sgG a b * y ≤ 0 := Int.mul_nonpos_of_nonneg_of_nonpos (by omega) (by omega)
        omega
  · have ha : a.natAbs = Nat.gcd a.natAbs b.natAbs * x.natAbs := by
      have := congrArg Int.natAbs hx
      rw [Int.natAbs_mul, na] at this
      exact this
    have hb2 : b.natAbs = Nat.gcd a.natAbs b.natAbs * y.natAbs := by
      have := congrArg Int.natAbs hy
      rw [Int.natAbs_mul, na] at this
      exact this
    have k : Nat.gcd a.natAbs b.natAbs = Nat.gcd a.natAbs b.natAbs * Nat.gcd x.natAbs y.natAbs := by
      rw [← Nat.gcd_mul_left, ← ha, ← hb2]
    exact Nat.eq_of_mul_eq_mul_left gp (by rw [Nat.mul_one]; exact k.symm)
  · generalize sgG a b = g at hx hy
    rw [hx, hy, ← Int.mul_assoc, Int.mul_comm x g]
def prA (xs : List D) : List P2 → Int
  | [] => 1
  | q :: qs => arN xs q * prA xs qs
def prL (xs : List D) : List P2 → Int
  | [] => 1
  | q :: qs => lvN xs q * prL xs qs
def ratQ (xs : List D) (qs : List P2) : Int × Int := lowI (prA xs qs) (prL xs qs)
theorem prL_ne {n : Nat} {xs : List D} : ∀ {qs : List P2}, (∀ q ∈ qs, Pas n xs q) → prL xs qs ≠ 0
  | [], _ => show (1 : Int) ≠ 0 by decide
  | q :: qs, h => Int.mul_ne_zero (h q (List.mem_cons_self ..)).size.1.1 (prL_ne fun p hp => h p (List.mem_cons_of_mem _ hp))
theorem prA_ne {n : Nat} {xs : List D} : ∀ {qs : List P2}, (∀ q ∈ qs, Pas n xs q) → prA xs qs ≠ 0
  | [], _ => show (1 : Int) ≠ 0 by decide
  | q :: qs, h => Int.mul_ne_zero (h q (List.mem_cons_self ..)).size.2.1 (prA_ne fun p hp => h p (List.mem_cons_of_mem _ hp))
theorem prL_le {n : Nat} {xs : List D} : ∀ {qs : List P2}, (∀ q ∈ qs, Pas n xs q) → (prL xs qs).natAbs ≤ 999 ^ qs.length
  | [], _ => show (1 : Int).natAbs ≤ 1 by decide
  | q :: qs, h => by
    have h1 := prL_le (qs := qs) fun p hp => h p (List.mem_cons_of_mem _ hp)
    have h2 := (h q (List.mem_cons_self ..)).size.1
    have b1 := h2.2.1
    have b2 := h2.2.2
    show (lvN xs q * prL xs qs).natAbs ≤ _
    rw [Int.natAbs_mul, List.length_cons, Nat.pow_succ, Nat.mul_comm (999 ^ qs.length)]
    exact Nat.mul_le_mul (by omega) h1
theorem prA_le {n : Nat} {xs : List D} : ∀ {qs : List P2}, (∀ q ∈ qs, Pas n xs q) → (prA xs qs).natAbs ≤ 999 ^ qs.length
  | [], _ => show (1 : Int).natAbs ≤ 1 by decide
  | q :: qs, h => by
    have h1 := prA_le (qs := qs) fun p hp => h p (List.mem_cons_of_mem _ hp)
    have h2 := (h q (List.mem_cons_self ..)).size.2
    have b1 := h2.2.1
    have b2 := h2.2.2
    show (arN xs q * prA xs qs).natAbs ≤ _
    rw [Int.natAbs_mul, List.length_cons, Nat.pow_succ, Nat.mul_comm (999 ^ qs.length)]
    exact Nat.mul_le_mul (by omega) h1
theorem pow999 (k : Nat) : 999 ^ k < 2 ^ (10 * k + 1) := by
  have h1 : 999 ^ k ≤ 1024 ^ k := Nat.pow_le_pow_left (by decide) k
  have h2 : (1024 : Nat) ^ k = 2 ^ (10 * k) := by rw [Nat.pow_mul]
  rw [h2] at h1
  exact Nat.lt_of_le_of_lt h1 (Nat.pow_lt_pow_right (by decide) (by omega))
theorem fdiv_le {a g : Int} (hg : g ≠ 0) (hd : g ∣ a) : (a.fdiv g).natAbs ≤ a.natAbs := by
  obtain ⟨x, rfl⟩ := hd
  rw [Int.mul_fdiv_cancel_left x hg, Int.natAbs_mul]
  exact Nat.le_mul_of_pos_left _ (by omega)
theorem rat_le {n : Nat} {xs : List D} {qs : List P2} (h : ∀ q ∈ qs, Pas n xs q) : (ratQ xs qs).1.natAbs ≤ 999 ^ qs.length ∧ (ratQ xs qs).2.natAbs ≤ 999 ^ qs.length := by
  have hb := prL_ne h
  have g0 := sgG_ne (a := prA xs qs) hb
  obtain ⟨d1, d2⟩ := sgG_dvd (a := prA xs qs) (b := prL xs qs)
  exact ⟨Nat.le_trans (fdiv_le g0 d1) (prA_le h), Nat.le_trans (fdiv_le g0 d2) (prL_le h)⟩
end Law


set_option Elab.async false
set_option linter.all false
set_option maxRecDepth 100000
set_option maxHeartbeats 4000000
namespace DL
open PySem L2
theorem bls_map (f : D → Bool) (ds : List D) : blsOf (ds.map fun d => .bl (f d)) = some (ds.map f) := by
  induction ds with
  | nil => rfl
  | cons d ds ih =>
    show (blsOf (ds.map fun d => .bl (f d))).map (f d :: ·) = _
    rw [ih]
    rfl
end DL
namespace Law
open PySem L2 DL
variable [Tb]
/-! ### lengths judged -/
end Law


set_option Elab.async false
set_option linter.all false
set_option maxRecDepth 100000
set_option maxHeartbeats 4000000
namespace Law
open PySem L2 DL
variable [Tb]
/-! ### the law's own lengths -/
/-- a ratio in lowest terms of passes -/
structure RatOk (r : Int × Int) : Prop where
  n1 : r.1 ≠ 0
  p2 : 0 < r.2
  l1 : r.1.natAbs < 2 ^ 400
  l2 : r.2.natAbs < 2 ^ 400
theorem low1_ne {a b : Int} (ha : a ≠ 0) (hb : b ≠ 0) : (lowI a b).1 ≠ 0 := fun z => by
  have h := low_is (a := a) hb
  have e := h.eq
  rw [z, Int.zero_mul] at e
  have p := h.pos
  rcases Int.mul_eq_zero.mp e.symm with h | h
  · exact ha h
  · omega
theorem rat_ok {n : Nat} {xs : List D} {qs : List P2} (h : ∀ q ∈ qs, Pas n xs q) (hl : qs.length ≤ 30) : RatOk (ratQ xs qs) := by
  have hb := prL_ne h
  have hs := low_is (a := prA xs qs) hb
  have l := rat_le h
  have p : 999 ^ qs.length < 2 ^ 400 := Nat.lt_of_lt_of_le (pow999 _) (Nat.pow_le_pow_right (by decide) (by omega))
  exact ⟨low1_ne (prA_ne h) hb, hs.pos, Nat.lt_of_le_of_lt l.1 p, Nat.lt_of_le_of_lt l.2 p⟩
/-- a way from room 0 -/
structure WayTo (n : Nat) (xs : List D) (i : Nat) (qs : List P2) : Prop where
  pa : ∀ q ∈ qs, Pas n xs q
  go : goes xs 0 (qs.map stD) = some (i : Int)
  ln : qs.length ≤ 12
  lnn : qs.length ≤ n
section
variable {n : Nat} {xs : List D} {rs : List (Int × Int)} {T : Nat} {post : Sl → Nat → Prop} {ex : Str → List (Str × D) → Nat → Prop}
end
end Law


set_option Elab.async false
set_option linter.all false
set_option maxRecDepth 100000
set_option maxHeartbeats 4000000
namespace DL
open PySem L2
variable [Tb]
section
variable {X : Cx} {W : WX} {b : Expr} {Fb : DF} {p pos : Pos}
/-! ### k not in d, as a test -/
end
end DL


set_option Elab.async false
set_option linter.all false
set_option maxRecDepth 100000
set_option maxHeartbeats 4000000
namespace DL
open PySem L2
variable [Tb]
/-! ### what a slot owns is read and stays its own -/
section
variable {c : Ct} {L : List (Addr × HO)} {H0 B0 H H1 B B1 : Hp} {σ : L2.St} {s s1 : DS}
end
section
variable {X : Cx} {W : WX} {a b e : Expr} {es : List Expr} {Fa Fb : DF} {Ft : DFT} {G : DFA} {pos p : Pos}
/-! ### sorted of pairs of small numbers -/
end
end DL


set_option Elab.async false
set_option linter.all false
set_option maxRecDepth 100000
set_option maxHeartbeats 4000000
namespace DL
open PySem L2
variable [Tb]
/-! ### list comprehensions of two fors -/
section
variable {X : Cx} {W : WX} {elt tg iter tg1 iter1 : Expr} {ifs ifs1 : List Expr} {scope : Scope} {own : List (Str × Nat)} {pos spos py : Pos} {I I1 : DFA} {T T1 : DTg} {Ft Ft1 : DFT} {Fe : DF}
end
end DL


set_option Elab.async false
set_option linter.all false
set_option maxRecDepth 100000
set_option maxHeartbeats 4000000
namespace DL
open PySem L2
end DL
namespace Law
open PySem L2 DL
variable [Tb]
/-! ### the passes from a room -/
end Law


set_option Elab.async false
set_option linter.all false
set_option maxRecDepth 100000
set_option maxHeartbeats 4000000
namespace DL
open PySem L2
variable [Tb]
section
variable {X : Cx} {W : WX} {a : Expr} {Fa : DF}
/-! ### a tuple as a test; max of two -/
end
end DL


set_option Elab.async false
set_option linter.all false
set_option maxRecDepth 100000
set_option maxHeartbeats 4000000
namespace DL
open PySem L2
variable [Tb]
section
variable {X : Cx} {W : WX} {a : Expr} {Fa : DF}
/-! ### a list as a test -/
end
end DL


set_option Elab.async false
set_option linter.all false
set_option maxRecDepth 100000
set_option maxHeartbeats 4000000
namespace Law
open PySem L2 DL
variable [Tb]
/-! ### the program's ways from room 0 (k18, k19, k21) -/
structure Ways (n : Nat) (xs : List D) (ws : List (List P2)) : Prop where
  ln : ws.length = n
  w : ∀ i, i < n → WayTo n xs i (ws.getD i [])
theorem Ways.at {n : Nat} {xs : List D} {ws : List (List P2)} {i : Nat} (h : Ways n xs ws) (hi : i < n) : ws[i]? = some (ws.getD i []) := by
  have := h.ln
  rw [List.getD_eq_getElem?_getD, List.getElem?_eq_getElem (by omega)]
  rfl
section
variable {n : Nat} {xs : List D} {T : Nat} {E : DE}
end
end Law


set_option Elab.async false
set_option linter.all false
set_option maxRecDepth 100000
set_option maxHeartbeats 4000000
namespace Law
open PySem L2 DL
variable [Tb]
/-! ### lengths that fit (k18, k21): the mathematics -/
/-! the vector of lengths by ways -/
end Law


set_option Elab.async false
set_option linter.all false
set_option maxRecDepth 100000
set_option maxHeartbeats 4000000
namespace Law
open PySem L2 DL
variable [Tb]
/-! ### the ways' lengths are the same by any ways -/
/-! lists of ratios -/
structure RatsOf (n : Nat) (xs : List D) (ws : List (List P2)) (rs : List (Int × Int)) : Prop where
  W : Ways n xs ws
  e : rs = ws.map (ratQ xs)
  n1 : 1 ≤ n
  n12 : n ≤ 12
theorem RatsOf.ok {n : Nat} {xs : List D} {ws : List (List P2)} {rs : List (Int × Int)} (h : RatsOf n xs ws rs) : ∀ r ∈ rs, RatOk r := fun r hr => by
  rw [h.e] at hr
  obtain ⟨qs, hm, rfl⟩ := List.mem_map.mp hr
  obtain ⟨j, hj, ej⟩ := List.getElem_of_mem hm
  have ln := h.W.ln
  have w := h.W.w j (by omega)
  rw [List.getD_eq_getElem?_getD, List.getElem?_eq_getElem hj] at w
  have w : WayTo n xs j ws[j] := w
  rw [ej] at w
  exact rat_ok w.pa (by have := w.ln; omega)
theorem RatsOf.len {n : Nat} {xs : List D} {ws : List (List P2)} {rs : List (Int × Int)} (h : RatsOf n xs ws rs) : rs.length = n := by rw [h.e, List.length_map, h.W.ln]
theorem RatsOf.ne {n : Nat} {xs : List D} {ws : List (List P2)} {rs : List (Int × Int)} (h : RatsOf n xs ws rs) : rs ≠ [] := fun z => by
  have := h.len
  have := h.n1
  rw [z] at *
  simp at *
  omega
theorem RatsOf.at {n : Nat} {xs : List D} {ws : List (List P2)} {rs : List (Int × Int)} (h : RatsOf n xs ws rs) {i : Nat} (hi : i < n) : rs[i]? = some (ratQ xs (ws.getD i [])) := by
  rw [h.e, List.getElem?_map, h.W.at hi]
  rfl
end Law


set_option Elab.async false
set_option linter.all false
set_option maxRecDepth 100000
set_option maxHeartbeats 4000000
namespace Law
open PySem L2 DL
variable [Tb]
abbrev sz (d : D) : OS := some (.fz d)
theorem Wk.bare {n : Nat} {xs : List D} {r e : Int} {zs : List Int} {qs : List P2} (h : Wk n xs r zs qs e) : Wk n xs r (zerosZ (qs.length + 1)) qs e := ⟨h.pa, h.go, by unfold zerosZ; rw [List.length_replicate], h.mx, h.r0, h.rn⟩
end Law


set_option Elab.async false
set_option linter.all false
set_option maxRecDepth 100000
set_option maxHeartbeats 4000000
namespace RT
open PySem PySem.Spec PyProof.Rows PySem.Calls
section
variable {prog : Program} {w : World} {A : Around} {E : Value → Shared → Prop} {s : Shared}
end
end RT
namespace DL
open PySem PySem.Spec PyProof.Rows PySem.Calls L2 RT
section
variable {X : Cx} {e : Expr} {te : TE} {p p2 pos pos2 : Pos}
end
/-! ### what slot i owns, in new lists and tuples -/
section
variable [Tb]
variable {X : Cx} {W : WX} {a b e : Expr} {Fa : DF} {pos p p2 pos2 : Pos}
def ownL (i : Nat) (s : DS) (P : List D → Prop) : Prop := match s.sl[i]? with
  | some (some (.ow (.lst ds))) => P ds
  | _ => False
end
end DL


set_option Elab.async false
set_option linter.all false
set_option maxRecDepth 100000
set_option maxHeartbeats 4000000
namespace Law
open PySem L2 DL
variable [Tb]
/-! ### lengths_of -/
structure HsW (n : Nat) (xs : List D) : Prop where
  n1 : 1 ≤ n
  n12 : n ≤ 12
  hd : ∀ d ∈ xs, DoorIs n d
  hx : xs.length ≤ 1000
  re : ∀ i, i < n → Reach (xs.map endsD) i
theorem HsG.w {n : Nat} {xs : List D} (H : HsG n xs) : HsW n xs := ⟨H.n1, H.n12, H.hd, H.x, H.re⟩
section
variable {n : Nat} {xs : List D} {ws : List (List P2)} {rs : List (Int × Int)} {T : Nat} {post : Sl → Nat → Prop} {ex : Str → List (Str × D) → Nat → Prop}
end
/-! ### round_walks, stretching_walk -/
end Law


set_option Elab.async false
set_option linter.all false
set_option maxRecDepth 100000
set_option maxHeartbeats 1000000
namespace DL
open PySem L2
variable [Tb]
variable {X : Cx} {W : WX} {e : Expr} {Fa : DF} {pos : Pos}
/-! ### name += e, of whole numbers -/
end DL


set_option Elab.async false
set_option linter.all false
set_option maxRecDepth 100000
set_option maxHeartbeats 1000000
namespace Law
open PySem L2 DL
variable [Tb]
/-! ### how often a prime goes into a number -/
def exF (p : Nat) : Nat → Nat → Nat
  | 0, _ => 0
  | f + 1, n => if n % p = 0 then exF p f (n / p) + 1 else 0
def exN (p n : Nat) : Nat := exF p n n
def exI (p : Nat) (z : Int) : Nat := exN p z.natAbs
/-! ### how much passes raise the exponents of primes -/
section
variable {n : Nat} {xs : List D} {ps : List Nat} {qs : List P2} {v3 v4 v5 v6 v7 v8 v9 v10 v11 : OS} {T : Nat} {P : D → DS → Prop} {ex : XD}
end
end Law


set_option Elab.async false
set_option linter.all false
set_option maxRecDepth 100000
set_option maxHeartbeats 1000000
namespace Law
open PySem L2 DL
variable [Tb]
/-! ### rows of rises, one for each door's round walk -/
/-! ### numbers that are powers of a prime -/
end Law


set_option Elab.async false
set_option linter.all false
set_option maxRecDepth 100000
set_option maxHeartbeats 1000000
namespace Law
open PySem L2 DL
variable [Tb]
/-! ### exponents that fit doors -/
def fitE (xs : List D) (p : Nat) (e : Nat → Nat) : Prop := ∀ (i a b : Nat) (x y : Int), xs[i]? = some (.tup [.int a, .int x, .int b, .int y]) → e a - exI p x = e b - exI p y
theorem fit_iff {a b f s : Nat} : (a - f = b - s) ↔ (a ≤ f + (b - s) ∧ b ≤ s + (a - f)) := by omega
end Law


set_option Elab.async false
set_option linter.all false
set_option maxRecDepth 100000
set_option maxHeartbeats 1000000
namespace Law
open PySem L2 DL
variable [Tb]
/-! ### primes -/
end Law


set_option Elab.async false
set_option linter.all false
set_option maxRecDepth 100000
set_option maxHeartbeats 1000000
namespace Law
open PySem L2 DL
variable [Tb]
/-! ### fitting numbers, powers of a prime -/
end Law


set_option Elab.async false
set_option linter.all false
set_option maxRecDepth 100000
set_option maxHeartbeats 1000000
namespace Law
open PySem L2 DL
variable [Tb]
/-! ### the greatest exponents that fit -/
structure IsG (xs : List D) (p n : Nat) (C : Nat → Nat) (es : List Nat) : Prop where
  ln : es.length = n
  fit : fitE xs p fun r => es.getD r 0
  le : ∀ r, r < n → es.getD r 0 ≤ C r
  up : ∀ e', fitE xs p e' → (∀ r, r < n → e' r ≤ C r) → ∀ r, r < n → e' r ≤ es.getD r 0
structure AboveG (xs : List D) (p n : Nat) (C : Nat → Nat) (es : List Nat) : Prop where
  ln : es.length = n
  le : ∀ r, r < n → es.getD r 0 ≤ C r
  up : ∀ e', fitE xs p e' → (∀ r, r < n → e' r ≤ C r) → ∀ r, r < n → e' r ≤ es.getD r 0
/-- a side of a door: leads from u to v -/
def SideIs (xs : List D) (u : Nat) (x : Int) (v : Nat) (y : Int) : Prop := ∃ i : Nat, xs[i]? = some (.tup [.int u, .int x, .int v, .int y]) ∨ xs[i]? = some (.tup [.int v, .int y, .int u, .int x])
theorem AboveG.done {xs : List D} {p n : Nat} {C : Nat → Nat} {es : List Nat} (h : AboveG xs p n C es) (hd : ∀ d ∈ xs, DoorIs n d) (sat : ∀ u x v y, SideIs xs u x v y → es.getD u 0 ≤ exI p x + (es.getD v 0 - exI p y)) : IsG xs p n C es :=
  ⟨h.ln, fun i a b x y e => fit_iff.mpr ⟨sat a x b y ⟨i, .inl e⟩, sat b y a x ⟨i, .inr e⟩⟩, h.le, h.up⟩
def sdD (t : Nat × Int × Nat × Int) : D := .tup [.int t.1, .int t.2.1, .int t.2.2.1, .int t.2.2.2]
/-! ### the program's greatest exponents -/
def eN (e : Nat) : D := .int (e : Nat)
section
variable {n : Nat} {xs : List D} {p : Nat} {v2 v3 v4 v5 v6 v7 v8 v9 : OS} {T : Nat}
end
end Law


set_option Elab.async false
set_option linter.all false
set_option maxRecDepth 100000
set_option maxHeartbeats 1000000
namespace Law
open PySem L2 DL
variable [Tb]
/-! ### the program's greatest power -/
end Law


set_option Elab.async false
set_option linter.all false
set_option maxRecDepth 100000
set_option maxHeartbeats 1000000
namespace Law
open PySem L2 DL
variable [Tb]
/-! ### exponents along ways and rounds -/
end Law


set_option Elab.async false
set_option linter.all false
set_option maxRecDepth 100000
set_option maxHeartbeats 1000000
namespace DL
open PySem L2
variable [Tb]
section
variable {X : Cx} {W : WX} {a b d : Expr} {Fa Fb Fd : DF} {x y z : Str} {p px py pz pt pos : Pos} {kt k2 : Nat} {pt2 : Pos} {i j l : Nat}
end
end DL


set_option Elab.async false
set_option linter.all false
set_option maxRecDepth 100000
set_option maxHeartbeats 1000000
namespace DL
open PySem L2
variable [Tb]
variable {X : Cx} {W : WX} {e b : Expr} {Fa Fb : DF} {pos : Pos}
/-! ### x[k], y = e -/
end DL


set_option Elab.async false
set_option linter.all false
set_option maxRecDepth 100000
set_option maxHeartbeats 1000000
namespace Law
open PySem L2 DL
variable [Tb]
/-! ### the law's sides, and its lowering -/
abbrev SdT := Nat × Int × Nat × Int
def swT (t : SdT) : SdT := (t.2.2.1, t.2.2.2, t.1, t.2.1)
structure SdOk (n : Nat) (t : SdT) : Prop where
  a : t.1 < n
  b : t.2.2.1 < n
  x : sizeOk t.2.1
  y : sizeOk t.2.2.2
theorem sds_of {n : Nat} : ∀ {xs : List D}, (∀ d ∈ xs, DoorIs n d) → ∃ ts : List SdT, xs = ts.map sdD ∧ ∀ t ∈ ts, SdOk n t
  | [], _ => ⟨[], rfl, fun t h => by cases h⟩
  | d :: xs, h => by
    obtain ⟨ts, e, ht⟩ := sds_of (xs := xs) fun d hd => h d (List.mem_cons_of_mem _ hd)
    obtain ⟨a, b, x, y, ed, la, lb, sx, sy⟩ := (h d (List.mem_cons_self ..)).ex
    refine ⟨(a, x, b, y) :: ts, by rw [e, ed]; rfl, fun t hm => ?_⟩
    rcases List.mem_cons.mp hm with rfl | hm
    · exact ⟨la, lb, sx, sy⟩
    · exact ht t hm
section
variable {xs : List D} {p : Nat} {cs : List Nat} {v3 v4 v5 v6 v7 v8 v9 v10 : OS} {T : Nat}
end
end Law


set_option Elab.async false
set_option linter.all false
set_option maxRecDepth 100000
set_option maxHeartbeats 2000000
namespace Law
open PySem L2 DL
variable [Tb]
/-! ### changes of houses -/
inductive ChT where
  | fold (i : Nat)
  | slide (e o : P2)
  | turn (r : Nat)
  | put (r : Nat) (f s : Int)
  | swap (i : Nat)
def chgD : ChT → D
  | .fold i => .tup [.str "fold", .int (i : Nat)]
  | .slide e o => .tup [.str "slide", stD e, stD o]
  | .turn r => .tup [.str "turn", .int (r : Nat)]
  | .put r f s => .tup [.str "put", .int (r : Nat), .int f, .int s]
  | .swap i => .tup [.str "swap", .int (i : Nat)]
/-- the gone room, the kept one, the factor -/
def foT (t : SdT) : Option (Nat × Nat × Int) := if t.1 = t.2.2.1 ∨ (t.2.1.natAbs ≠ 1 ∧ t.2.2.2.natAbs ≠ 1) then none else if t.2.2.2.natAbs = 1 then some (t.2.2.1, t.1, t.2.1 * t.2.2.2) else some (t.1, t.2.2.1, t.2.1 * t.2.2.2)
def lessN (r g : Nat) : Nat := if g < r then r - 1 else r
def enT (g k : Nat) (m : Int) (e : Nat × Int) : Nat × Int := if e.1 = g then (lessN k g, e.2 * m) else (lessN e.1 g, e.2)
def fdT (g k : Nat) (m : Int) (t : SdT) : SdT := ((enT g k m (t.1, t.2.1)).1, (enT g k m (t.1, t.2.1)).2, (enT g k m (t.2.2.1, t.2.2.2)).1, (enT g k m (t.2.2.1, t.2.2.2)).2)
def gtT (t : SdT) (s : Int) : SdT := if s = 0 then t else swT t
def pastT (b a x : Int) : Int := (x.fdiv b) * a
def ptT (old : SdT) (s : Int) (c : Nat) (y : Int) : SdT := if s = 0 then (c, y, old.2.2.1, old.2.2.2) else (old.1, old.2.1, c, y)
def slT (ts : List SdT) (e o : P2) : Option (List SdT) := match ts[e.1]?, ts[o.1]? with
  | some u, some v => if e.1 = o.1 ∨ (gtT u e.2).1 ≠ (gtT v o.2).1 ∨ (gtT u e.2).2.1.fmod (gtT v o.2).2.1.natAbs ≠ 0 then none else some (ts.set e.1 (ptT u e.2 (gtT v o.2).2.2.1 (pastT (gtT v o.2).2.1 (gtT v o.2).2.2.2 (gtT u e.2).2.1)))
  | _, _ => none
def sgT (b : Bool) : Int := if b then -1 else 1
def tuT (r : Nat) (t : SdT) : SdT := (t.1, t.2.1 * sgT (decide (t.1 = r)), t.2.2.1, t.2.2.2 * sgT (decide (t.2.2.1 = r)))
def rawT (n : Nat) (ts : List SdT) : ChT → Option (Nat × List SdT)
  | .fold i => match ts[i]? with
    | some t => (foT t).map fun z => (n - 1, (ts.eraseIdx i).map (fdT z.1 z.2.1 z.2.2))
    | none => none
  | .slide e o => (slT ts e o).map fun us => (n, us)
  | .turn r => if r < n then some (n, ts.map (tuT r)) else none
  | .put r f s => if r < n ∧ s.natAbs = 1 then some (n + 1, ts ++ [(r, f, n, s)]) else none
  | .swap i => match ts[i]? with
    | some t => some (n, ts.set i (swT t))
    | none => none
section
variable {T n : Nat} {ts : List SdT}
theorem sd_at {i : Nat} {t : SdT} (h : ts[i]? = some t) : (ts.map sdD)[i]? = some (sdD t) := by rw [List.getElem?_map, h]; rfl
/-! _law_ch_less, _law_ch_fold -/
def S__law_ch_less : PF := fun ds T post _ => ∃ r g : Nat, ds = [.int r, .int g] ∧ post (.fz (.int (lessN r g : Nat))) T
def G__law_ch_less : DG := (gRet (dOp dSub (dVar 0) (dCB cInt (aCons (dOp (dCmpI fun i j => decide (j < i)) (dVar 0) (dVar 1)) aNil))))
theorem m__law_ch_less : ∀ (ds : List D) T post ex, ds.length = 2 → S__law_ch_less ds T post ex → G__law_ch_less (endsOf post ex) (startD 2 ds T) := by
  rintro ds T post ex _ ⟨r, g, rfl, k⟩
  show post (.fz (.int ((r : Int) - (if decide ((g : Int) < (r : Int)) = true then 1 else 0)))) T
  unfold lessN at k
  by_cases c : g < r
  · rw [if_pos c] at k
    rw [decide_eq_true (by omega), if_pos rfl]
    rw [show ((r - 1 : Nat) : Int) = (r : Int) - 1 by omega] at k
    exact k
  · rw [if_neg c] at k
    rw [decide_eq_false (by omega), if_neg (by simp), Int.sub_zero]
    exact k
def fodD : Option (Nat × Nat × Int) → D
  | none => .non
  | some (g, k, m) => .tup [.int (g : Nat), .int (k : Nat), .int m]
def S__law_ch_fold : PF := fun ds T post _ => ∃ (n i : Nat) (ts : List SdT) (t : SdT), ds = [.tup (ts.map sdD), .int i] ∧ (∀ t ∈ ts, SdOk n t) ∧ ts[i]? = some t ∧ post (.fz (fodD (foT t))) T
def G_chf1 : DG := (gSeq (gIf (dTest (dOp dEq (dCB cAbs (aCons (dVar 5) aNil)) (dC (.int 1)))) (gRet (dTup (aCons (dVar 4) (aCons (dVar 2) (aCons (dOp dMul (dVar 3) (dVar 5)) aNil))))) gNil)
    (gRet (dTup (aCons (dVar 2) (aCons (dVar 4) (aCons (dOp dMul (dVar 3) (dVar 5)) aNil))))))
def G_chf2 : DG := (gSeq (gIf (tOrD (dTest (dOp dEq (dVar 2) (dVar 4))) (tAndD (dTest (dOp dNe (dCB cAbs (aCons (dVar 3) aNil)) (dC (.int 1)))) (dTest (dOp dNe (dCB cAbs (aCons (dVar 5) aNil)) (dC (.int 1)))))) (gRet (dC .non)) gNil)
    G_chf1)
def G__law_ch_fold : DG := (gSeq (gUnp (tgTup 4 (tgCons (tgN 2) (tgCons (tgN 3) (tgCons (tgN 4) (tgCons (tgN 5) tgNil))))) (dIxV 0 (dVar 1)))
    G_chf2)
theorem abs_int1 (x : Int) : decide ((if x < 0 then -x else x) = 1) = decide (x.natAbs = 1) := decide_eq_decide.mpr (by split <;> omega)
theorem m__law_ch_fold : ∀ (ds : List D) T post ex, ds.length = 2 → S__law_ch_fold ds T post ex → G__law_ch_fold (endsOf post ex) (startD 6 ds T) := by
  rintro ds T post ex _ ⟨n, i, ts, ⟨a, x, b, y⟩, rfl, ho, hi, k⟩
  have o := ho _ (List.mem_of_getElem? hi)
  have sx := o.x
  have sy := o.y
  have sx1 := sx.2.1
  have sx2 := sx.2.2
  have big := big64
  refine ⟨trivial, _, atI_nat (sd_at hi), rfl, ?_⟩
  have dup : ∀ (u v : Nat) (P : D → Prop), P (.tup [.int (u : Nat), .int (v : Nat), .int (x * y)]) → True := fun _ _ _ _ => trivial
  refine ⟨okD_of (n := 1) rfl, okD_of (n := 1) rfl, ?_⟩
  rw [eqv_int]
  unfold foT at k
  dsimp only at k sx1 sx2
  by_cases c : a = b
  · rw [decide_eq_true (show (a : Int) = (b : Int) by omega)]
    rw [if_pos (.inl c)] at k
    exact k
  · rw [decide_eq_false (show ¬ (a : Int) = (b : Int) by omega)]
    refine iteF ⟨okD_of (n := 1) rfl, okD_of (n := 1) rfl, ?_⟩
    show (if (!PyData.eqv (py (.int (if x < 0 then -x else x))) (py (.int 1))) = true then _ else _)
    rw [eqv_int, abs_int1]
    have last : x.natAbs = 1 ∨ y.natAbs = 1 → G_chf1 (endsOf post ex) ⟨[some (.fz (.tup (ts.map sdD))), some (.fz (.int i)), some (.fz (.int (a : Nat))), some (.fz (.int x)), some (.fz (.int (b : Nat))), some (.fz (.int y))], T⟩ := fun h => by
      rw [if_neg (by omega)] at k
      refine ⟨okD_of (n := 1) rfl, okD_of (n := 1) rfl, ?_⟩
      show (if PyData.eqv (py (.int (if y < 0 then -y else y))) (py (.int 1)) = true then _ else _)
      rw [eqv_int, abs_int1]
      by_cases c2 : y.natAbs = 1
      · rw [decide_eq_true c2]
        rw [if_pos c2] at k
        exact ⟨.inl ⟨by omega, by omega⟩, (show 3 ≤ 100000 by decide), k⟩
      · rw [decide_eq_false c2]
        rw [if_neg c2] at k
        exact ⟨.inl ⟨by omega, by omega⟩, (show 3 ≤ 100000 by decide), k⟩
    by_cases c1 : x.natAbs = 1
    · rw [decide_eq_true c1]
      exact last (.inl c1)
    · rw [decide_eq_false c1]
      refine iteT ⟨okD_of (n := 1) rfl, okD_of (n := 1) rfl, ?_⟩
      show (if (!PyData.eqv (py (.int (if y < 0 then -y else y))) (py (.int 1))) = true then _ else _)
      rw [eqv_int, abs_int1]
      by_cases c2 : y.natAbs = 1
      · rw [decide_eq_true c2]
        exact last (.inr c2)
      · rw [decide_eq_false c2]
        rw [if_pos (.inr ⟨c1, c2⟩)] at k
        exact k
end
end Law


set_option Elab.async false
set_option linter.all false
set_option maxRecDepth 100000
set_option maxHeartbeats 1000000
namespace Law
open DL
variable [Tb]
/-! ### arrangements -/
structure ArrS (m : Nat) (p : List Nat) : Prop where
  ln : p.length = m
  lt : ∀ x ∈ p, x < m
  nd : p.Nodup
def ap (p : List Nat) (s : Nat) : Nat := p.getD s 0
section
variable {m : Nat} {p q : List Nat} {s t : Nat}
theorem ArrS.at (h : ArrS m p) (hs : s < m) : p[s]? = some (ap p s) := by
  have := h.ln
  unfold ap
  rw [List.getD_eq_getElem?_getD, List.getElem?_eq_getElem (by omega)]
  rfl
theorem ArrS.ap_lt (h : ArrS m p) (hs : s < m) : ap p s < m := h.lt _ (List.mem_of_getElem? (h.at hs))
theorem ArrS.inj (h : ArrS m p) (hs : s < m) (ht : t < m) (e : ap p s = ap p t) : s = t := by
  have ln := h.ln
  exact (List.getElem?_inj (by omega) h.nd).mp (by rw [h.at hs, h.at ht, e])
/-- backwards -/
def ivA (p : List Nat) (s : Nat) : Nat := p.idxOf s
/-- done again and again -/
def itN (p : List Nat) : Nat → Nat → Nat
  | 0, s => s
  | k + 1, s => ap p (itN p k s)
def itI (p : List Nat) : Nat → Nat → Nat
  | 0, s => s
  | k + 1, s => itI p k (ivA p s)
/-- so many pulls, also backwards -/
def pw (p : List Nat) (t : Int) (s : Nat) : Nat := if 0 ≤ t then itN p t.toNat s else itI p (-t).toNat s
/-- one after another -/
def thA (p q : List Nat) : List Nat := p.map (ap q)
theorem ArrS.then (h : ArrS m p) (k : ArrS m q) : ArrS m (thA p q) := by
  refine ⟨by unfold thA; rw [List.length_map, h.ln], fun x hx => ?_, ?_⟩
  · obtain ⟨y, hy, rfl⟩ := List.mem_map.mp hx
    exact k.ap_lt (h.lt y hy)
  · refine List.Pairwise.map _ ?_ (List.Pairwise.and_mem.mp h.nd)
    rintro x y ⟨hx, hy, ne⟩ e
    exact ne (k.inj (h.lt x hx) (h.lt y hy) e)
end
end Law


set_option Elab.async false
set_option linter.all false
set_option maxRecDepth 100000
set_option maxHeartbeats 1000000
namespace Law
open DL
variable [Tb]
/-! ### rounds -/
def PerIs (p : List Nat) (s L : Nat) : Prop := 0 < L ∧ itN p L s = s ∧ ∀ i, 0 < i → i < L → itN p i s ≠ s
section
variable {m : Nat} {p q : List Nat} {s t c : Nat}
open Classical in
noncomputable def per (p : List Nat) (s : Nat) : Nat := if h : ∃ L, PerIs p s L then Classical.choose h else 1
def rdL (p : List Nat) (c L : Nat) : List Nat := (List.range L).map fun i => itN p i c
noncomputable def rd (p : List Nat) (c : Nat) : List Nat := rdL p c (per p c)
end
end Law


set_option Elab.async false
set_option linter.all false
set_option maxRecDepth 100000
set_option maxHeartbeats 4000000
namespace Law
open PySem L2 DL
variable [Tb]
/-! ### arrangements as data; then, turned, way_over, rounds_of, places_of, pulled -/
def sD (s : Nat) : D := .int s
theorem ixN_h {n u : Nat} (h : u < n) : ixN n (u : Int) = some u := by
  unfold ixN
  rw [if_pos (by omega), if_pos (by omega), Int.toNat_natCast]
theorem enum_get {ds : List D} {i : Nat} {d : D} (h : (zipD (rangeD 0 ds.length) ds)[i]? = some d) : ∃ e, ds[i]? = some e ∧ d = .tup [.int (i : Int), e] := by
  have il := get_lt h
  rw [zipD_len, rangeD_len, Nat.min_self] at il
  have h1 : (rangeD 0 ds.length)[i]? = some (.int ((i : Nat) : Int)) := by
    unfold rangeD
    rw [List.getElem?_map, List.getElem?_eq_getElem (by rw [List.length_range]; exact il), List.getElem_range]
    show some (D.int (0 + (i : Nat))) = _
    rw [Int.zero_add]
  have h2 : ds[i]? = some ds[i] := List.getElem?_eq_getElem il
  rw [zipD_get h1 h2] at h
  exact ⟨ds[i], h2, (Option.some.inj h).symm⟩
theorem enum_len {ds : List D} : (zipD (rangeD 0 ds.length) ds).length = ds.length := by rw [zipD_len, rangeD_len, Nat.min_self]
section
variable {m : Nat} {p q : List Nat} {T : Nat}
/-! turned -/
/-! way_over -/
end
end Law


set_option Elab.async false
set_option linter.all false
set_option maxRecDepth 100000
set_option maxHeartbeats 2000000
namespace Law
open PySem L2 DL
variable [Tb]
section
variable {T n : Nat} {ts : List SdT}
/-! _law_ch_folded -/
def S__law_ch_folded : PF := fun ds T post _ => ∃ (n i g k : Nat) (m : Int) (ts : List SdT) (t : SdT), ds = [.tup (ts.map sdD), .int i] ∧ (∀ t ∈ ts, SdOk n t) ∧ ts.length ≤ 1000 ∧ ts[i]? = some t ∧ foT t = some (g, k, m) ∧ post (.fz (.lst (((ts.eraseIdx i).map (fdT g k m)).map sdD))) T
def G_cf9 : DG := (gSeq (gPar 10 11 (aCons (dIxV 7 (dVar 9)) (aCons (dIxV 7 (dOp dAdd (dVar 9) (dC (.int 1)))) aNil)))
    (gSeq (gIf (dTest (dOp dEq (dVar 10) (dVar 2))) (gPar 10 11 (aCons (dVar 3) (aCons (dOp dMul (dVar 11) (dVar 4)) aNil))) gNil)
    (gSet 8 (dOp dAdd (dVar 8) (dLst (aCons (dCall S__law_ch_less 2 (aCons (dVar 10) (aCons (dVar 2) aNil))) (aCons (dVar 11) aNil)))))))
def G_cf8 : DG := (gSeq (gFor (iSeq (dTup (aCons (dC (.int 0)) (aCons (dC (.int 2)) aNil)))) (tgN 9) G_cf9)
    (gApp 5 (dCB cTuple (aCons (dVar 8) aNil))))
def G_cf7 : DG := (gIf (dTest (dOp dNe (dVar 6) (dVar 1))) (gSeq (gSet 8 (dLst aNil))
    G_cf8) gNil)
def G_cf6 : DG := (gSeq (gFor (iEnumT (dVar 0)) (tgTup 2 (tgCons (tgN 6) (tgCons (tgN 7) tgNil))) G_cf7)
    (gRet (dVar 5)))
def G__law_ch_folded : DG := (gSeq (gUnp (tgTup 3 (tgCons (tgN 2) (tgCons (tgN 3) (tgCons (tgN 4) tgNil)))) (dCall S__law_ch_fold 2 (aCons (dVar 0) (aCons (dVar 1) aNil))))
    (gSeq (gSetO 5 (dLst aNil))
    G_cf6))
def cfS (ts : List SdT) (i g k : Nat) (m : Int) (acc : List SdT) (v6 v7 v8 v9 v10 v11 : OS) (T : Nat) : DS := ⟨[some (.fz (.tup (ts.map sdD))), some (.fz (.int i)), some (.fz (.int g)), some (.fz (.int k)), some (.fz (.int m)), some (.ow (.lst (acc.map sdD))), v6, v7, v8, v9, v10, v11], T⟩
def dqL (t : SdT) : List D := [.int (t.1 : Nat), .int t.2.1, .int (t.2.2.1 : Nat), .int t.2.2.2]
theorem cf9 {i g k : Nat} {m : Int} {acc : List SdT} {t : SdT} {L : List D} {c r : Nat} {z : Int} {v6 v10 v11 : OS} {E : DE} (l2 : L.length ≤ 10) (h1 : atI (dqL t) (c : Int) = some (.int (r : Nat))) (h2 : atI (dqL t) ((c : Int) + 1) = some (.int z)) (sz : sizeOk z)
    (hn : ∀ v10 v11, E.nx (cfS ts i g k m acc v6 (some (.fz (sdD t))) (some (.fz (.lst (L ++ [.int ((enT g k m (r, z)).1 : Nat), .int (enT g k m (r, z)).2])))) (some (.fz (.int (c : Int)))) v10 v11 T)) :
    G_cf9 E (cfS ts i g k m acc v6 (some (.fz (sdD t))) (some (.fz (.lst L))) (some (.fz (.int (c : Int)))) v10 v11 T) := by
  have s1 := sz.2.1
  have s2 := sz.2.2
  have big := big64
  refine ⟨trivial, _, h1, trivial, _, h2, okD_of (n := 1) rfl, okD_of (n := 1) rfl, ?_⟩
  show (if PyData.eqv (py (.int (r : Int))) (py (.int (g : Int))) = true then _ else _)
  rw [eqv_int]
  unfold enT at hn
  dsimp only at hn
  by_cases e : r = g
  · rw [decide_eq_true (show (r : Int) = (g : Int) by omega)]
    rw [if_pos e] at hn
    refine ⟨.inl ⟨by omega, by omega⟩, ?_⟩
    refine ⟨rfl, k, g, rfl, (show 2 ≤ 100000 by decide), (show L.length + 2 ≤ 100000 by omega), ?_⟩
    exact hn _ _
  · rw [decide_eq_false (show ¬ (r : Int) = (g : Int) by omega)]
    rw [if_neg e] at hn
    refine ⟨rfl, r, g, rfl, (show 2 ≤ 100000 by decide), (show L.length + 2 ≤ 100000 by omega), ?_⟩
    exact hn _ _
theorem m__law_ch_folded : ∀ (ds : List D) T post ex, ds.length = 2 → S__law_ch_folded ds T post ex → G__law_ch_folded (endsOf post ex) (startD 12 ds T) := by
  rintro ds T post ex _ ⟨n, i, g, k, m, ts, t, rfl, ho, hl, hi, hf, kp⟩
  refine ⟨rfl, n, i, ts, t, rfl, ho, hi, ?_⟩
  rw [hf]
  refine ⟨rfl, Nat.zero_le _, ?_⟩
  have il := get_lt hi
  have main : G_cf6 (endsOf post ex) (cfS ts i g k m [] none none none none none none T) := by
    refine gFor_inv (fun j s => ∃ v6 v7 v8 v9 v10 v11, s = cfS ts i g k m (((ts.take j).eraseIdx i).map (fdT g k m)) v6 v7 v8 v9 v10 v11 T) (zipD (rangeD 0 (ts.map sdD).length) (ts.map sdD)) (fun P hP => hP _ ⟨none, none, none, none, none, none, by rw [List.take_zero]; rfl⟩) ?_ ?_
    · rintro j d s hj ⟨v6, v7, v8, v9, v10, v11, rfl⟩ R hR
      obtain ⟨e, he, rfl⟩ := enum_get hj
      rw [List.getElem?_map] at he
      obtain ⟨u, hu, rfl⟩ := Option.map_eq_some_iff.mp he
      have o := ho _ (List.mem_of_getElem? hu)
      have jl := get_lt hu
      refine ⟨rfl, okD_of (n := 1) rfl, okD_of (n := 1) rfl, ?_⟩
      show (if (!PyData.eqv (py (.int (j : Int))) (py (.int (i : Int)))) = true then _ else _)
      rw [eqv_int]
      by_cases c : j = i
      · rw [decide_eq_true (show (j : Int) = (i : Int) by omega)]
        refine hR _ ⟨some (.fz (.int (j : Int))), some (.fz (sdD u)), v8, v9, v10, v11, ?_⟩
        subst c
        have e : (ts.take (j + 1)).eraseIdx j = (ts.take j).eraseIdx j := by
          rw [take_succ_get hu, List.eraseIdx_append_of_length_le (by rw [List.length_take]; omega)]
          have l1 : (ts.take j).length = j := by rw [List.length_take]; omega
          rw [l1, Nat.sub_self]
          show ts.take j ++ [] = (ts.take j).eraseIdx j
          rw [List.append_nil, List.eraseIdx_of_length_le (Nat.le_of_eq l1)]
        rw [e]
        rfl
      · rw [decide_eq_false (show ¬ (j : Int) = (i : Int) by omega)]
        have go : G_cf8 { endsOf post ex with nx := R, ct := R, bk := fun s => gRet (dVar 5) (endsOf post ex) s } (cfS ts i g k m (((ts.take j).eraseIdx i).map (fdT g k m)) (some (.fz (.int (j : Int)))) (some (.fz (sdD u))) (some (.fz (.lst []))) v9 v10 v11 T) := by
          refine gFor_inv (fun c s => ∃ L v9 v10 v11, s = cfS ts i g k m (((ts.take j).eraseIdx i).map (fdT g k m)) (some (.fz (.int (j : Int)))) (some (.fz (sdD u))) (some (.fz (.lst L))) v9 v10 v11 T ∧ ((c = 0 ∧ L = []) ∨ (c = 1 ∧ L = [.int ((enT g k m (u.1, u.2.1)).1 : Nat), .int (enT g k m (u.1, u.2.1)).2]) ∨ (c = 2 ∧ L = [.int ((fdT g k m u).1 : Nat), .int (fdT g k m u).2.1, .int ((fdT g k m u).2.2.1 : Nat), .int (fdT g k m u).2.2.2]))) [.int 0, .int 2] (fun P hP => ⟨(show 2 ≤ 100000 by decide), _, rfl, hP _ ⟨[], v9, v10, v11, rfl, .inl ⟨rfl, rfl⟩⟩⟩) ?_ ?_
          · rintro c d s hc ⟨L, w9, w10, w11, rfl, hL⟩ Q hQ
            match c, hc with
            | 0, hc =>
              cases hc
              have hL : L = [] := by
                rcases hL with h | h | h
                · exact h.2
                · exact absurd h.1 (by decide)
                · exact absurd h.1 (by decide)
              subst hL
              exact cf9 (T := T) (c := 0) (r := u.1) (z := u.2.1) (Nat.zero_le _) rfl rfl o.x fun v10 v11 => hQ _ ⟨_, _, v10, v11, rfl, .inr (.inl ⟨rfl, rfl⟩)⟩
            | 1, hc =>
              cases hc
              have hL : L = [.int ((enT g k m (u.1, u.2.1)).1 : Nat), .int (enT g k m (u.1, u.2.1)).2] := by
                rcases hL with h | h | h
                · exact absurd h.1 (by decide)
                · exact h.2
                · exact absurd h.1 (by decide)
              subst hL
              exact cf9 (T := T) (c := 2) (r := u.2.2.1) (z := u.2.2.2) (show 2 ≤ 10 by decide) rfl rfl o.y fun v10 v11 => hQ _ ⟨_, _, v10, v11, rfl, .inr (.inr ⟨rfl, rfl⟩)⟩
            | c + 2, hc => cases hc
          · rintro s ⟨L, w9, w10, w11, rfl, hL⟩
            have hL : L = [.int ((fdT g k m u).1 : Nat), .int (fdT g k m u).2.1, .int ((fdT g k m u).2.2.1 : Nat), .int (fdT g k m u).2.2.2] := by
              rcases hL with h | h | h
              · exact absurd h.1 (by decide)
              · exact absurd h.1 (by decide)
              · exact h.2
            subst hL
            have k2 := hR (cfS ts i g k m (((ts.take (j + 1)).eraseIdx i).map (fdT g k m)) (some (.fz (.int (j : Int)))) (some (.fz (sdD u))) (some (.fz (.lst [.int ((fdT g k m u).1 : Nat), .int (fdT g k m u).2.1, .int ((fdT g k m u).2.2.1 : Nat), .int (fdT g k m u).2.2.2]))) w9 w10 w11 T) ⟨_, _, _, _, _, _, rfl⟩
            have e : (ts.take (j + 1)).eraseIdx i = (ts.take j).eraseIdx i ++ [u] := by
              rw [take_succ_get hu]
              by_cases c2 : i < j
              · rw [List.eraseIdx_append_of_lt_length (by rw [List.length_take]; omega)]
              · rw [List.eraseIdx_append_of_length_le (by rw [List.length_take]; omega), List.eraseIdx_of_length_le (l := ts.take j) (by rw [List.length_take]; omega), List.eraseIdx_of_length_le (by rw [List.length_take]; show 1 ≤ _; omega)]
            rw [e, List.map_append] at k2
            unfold cfS at k2
            rw [List.map_append] at k2
            exact ⟨(show ((((ts.take j).eraseIdx i).map (fdT g k m)).map sdD).length < 100000 by
              rw [List.length_map, List.length_map]
              have := List.length_eraseIdx_le (ts.take j) i
              rw [List.length_take] at this
              omega), k2⟩
        exact ⟨Nat.zero_le _, go⟩
    · rintro s ⟨v6, v7, v8, v9, v10, v11, rfl⟩
      rw [enum_len, List.length_map, List.take_length]
      exact kp
  exact main
end
end Law


set_option Elab.async false
set_option linter.all false
set_option maxRecDepth 100000
set_option maxHeartbeats 2000000
namespace Law
open PySem L2 DL
variable [Tb]
section
variable {T n : Nat} {ts : List SdT}
theorem gate_gt (t : SdT) (s : Int) : D.tup (gate s (.int (t.1 : Nat)) (.int t.2.1) (.int (t.2.2.1 : Nat)) (.int t.2.2.2)) = sdD (gtT t s) := by
  unfold gate gtT
  by_cases c : s = 0
  · rw [if_pos c, if_pos c]; rfl
  · rw [if_neg c, if_neg c]; rfl
theorem gt_ok {t : SdT} (o : SdOk n t) (s : Int) : SdOk n (gtT t s) := by
  unfold gtT
  split
  · exact o
  · exact ⟨o.b, o.a, o.y, o.x⟩
/-! _law_ch_slid -/
def slsD : Option (List SdT) → D
  | none => .non
  | some us => .lst (us.map sdD)
def S__law_ch_slid : PF := fun ds T post _ => ∃ (n : Nat) (ts : List SdT) (e o : P2), ds = [.tup (ts.map sdD), stD e, stD o] ∧ (∀ t ∈ ts, SdOk n t) ∧ ts.length ≤ 1000 ∧ e.1 < ts.length ∧ o.1 < ts.length ∧ post (.fz (slsD (slT ts e o))) T
def G_sl1 : DG := (gSeq (gPutN 5 (dIfE (dTest (dOp dEq (dIxV 1 (dC (.int 1))) (dC (.int 0)))) (dOp dAdd (dVar 7) (dSl (dVar 6) (oAt (dC (.int 2))) oNo)) (dOp dAdd (dSl (dVar 6) oNo (oAt (dC (.int 2)))) (dVar 7))) (dIxV 1 (dC (.int 0))))
    (gRet (dVar 5)))
def G_sl2 : DG := (gSeq (gSet 7 (dTup (aCons (dIxV 4 (dC (.int 2))) (aCons (dOp dMul (dOp dFdiv (dIxV 3 (dC (.int 1))) (dIxV 4 (dC (.int 1)))) (dIxV 4 (dC (.int 3)))) aNil))))
    G_sl1)
def G_sl3 : DG := (gSeq (gParOF 5 6 (dListO (dVar 0)) (dIxV 0 (dIxV 1 (dC (.int 0)))))
    G_sl2)
def T_sl4 : DFT := (tOrD (dTest (dOp dEq (dIxV 1 (dC (.int 0))) (dIxV 2 (dC (.int 0))))) (tOrD (dTest (dOp dNe (dIxV 3 (dC (.int 0))) (dIxV 4 (dC (.int 0))))) (dTest (dOp dNe (dOp dMod (dCB cInt (aCons (dIxV 3 (dC (.int 1))) aNil)) (dCB cAbs (aCons (dIxV 4 (dC (.int 1))) aNil))) (dC (.int 0))))))
def G_sl4 : DG := (gSeq (gIf T_sl4 (gRet (dC .non)) gNil)
    G_sl3)
def G__law_ch_slid : DG := (gSeq (gPar 3 4 (aCons (dCall S__law_gate 2 (aCons (dVar 0) (aCons (dVar 1) aNil))) (aCons (dCall S__law_gate 2 (aCons (dVar 0) (aCons (dVar 2) aNil))) aNil)))
    G_sl4)
def slS (ts : List SdT) (e o : P2) (a b : SdT) (v5 v6 v7 : OS) (T : Nat) : DS := ⟨[some (.fz (.tup (ts.map sdD))), some (.fz (stD e)), some (.fz (stD o)), some (.fz (sdD a)), some (.fz (sdD b)), v5, v6, v7], T⟩
theorem abs_nat2 (y : Int) : (if y < 0 then -y else y) = ((y.natAbs : Nat) : Int) := by split <;> omega
theorem m__law_ch_slid : ∀ (ds : List D) T post ex, ds.length = 3 → S__law_ch_slid ds T post ex → G__law_ch_slid (endsOf post ex) (startD 8 ds T) := by
  rintro ds T post ex _ ⟨n, ts, e, o, rfl, ho, hl, he, hoo, k⟩
  obtain ⟨u, hu⟩ : ∃ u, ts[e.1]? = some u := ⟨_, List.getElem?_eq_getElem he⟩
  obtain ⟨v, hv⟩ : ∃ v, ts[o.1]? = some v := ⟨_, List.getElem?_eq_getElem hoo⟩
  have ou := gt_ok (ho u (List.mem_of_getElem? hu)) e.2
  have ov := gt_ok (ho v (List.mem_of_getElem? hv)) o.2
  have big := big64
  unfold slT at k
  rw [hu, hv] at k
  dsimp only at k
  refine ⟨rfl, e.1, e.2, ts.map sdD, .int (u.1 : Nat), .int u.2.1, .int (u.2.2.1 : Nat), .int u.2.2.2, rfl, sd_at hu, ?_⟩
  rw [gate_gt]
  refine ⟨rfl, o.1, o.2, ts.map sdD, .int (v.1 : Nat), .int v.2.1, .int (v.2.2.1 : Nat), .int v.2.2.2, rfl, sd_at hv, ?_⟩
  rw [gate_gt]
  generalize gtT u e.2 = a at k ou
  generalize gtT v o.2 = b at k ov
  have a1 := ou.x.2.1
  have a2 := ou.x.2.2
  have b0 := ov.x.1
  have b1 := ov.x.2.1
  have b2 := ov.x.2.2
  have c1 := ov.y.2.1
  have c2 := ov.y.2.2
  have go3 : (slsD (some (ts.set e.1 (ptT u e.2 b.2.2.1 (pastT b.2.1 b.2.2.2 a.2.1)))) = slsD (some (ts.set e.1 (ptT u e.2 b.2.2.1 (pastT b.2.1 b.2.2.2 a.2.1))))) → post (.fz (slsD (some (ts.set e.1 (ptT u e.2 b.2.2.1 (pastT b.2.1 b.2.2.2 a.2.1)))))) T → G_sl3 (endsOf post ex) (slS ts e o a b none none none T) := fun _ k => by
    refine ⟨trivial, trivial, .int e.1, rfl, _, atI_nat (sd_at hu), ?_⟩
    refine ⟨trivial, _, rfl, trivial, _, rfl, trivial, _, rfl, ⟨b0, by omega⟩, trivial, _, rfl, .inr ⟨by omega, by omega⟩, (show 2 ≤ 100000 by decide), ?_⟩
    have put : ∀ d : D, d = sdD (ptT u e.2 b.2.2.1 (pastT b.2.1 b.2.2.2 a.2.1)) → post (.fz (.lst ((ts.map sdD).set e.1 d))) T := fun d hd => by
      rw [hd, ← List.map_set]
      exact k
    have lm : (ts.map sdD).length = ts.length := List.length_map ..
    refine ⟨trivial, .int e.2, rfl, okD_of (n := 1) rfl, okD_of (n := 1) rfl, ?_⟩
    show (if PyData.eqv (py (.int e.2)) (py (.int 0)) = true then _ else _)
    rw [eqv_int]
    by_cases c : e.2 = 0
    · rw [decide_eq_true c]
      refine ⟨(show 2 + 2 ≤ 100000 by decide), trivial, trivial, .int e.1, rfl, e.1, ixN_h (by rw [lm]; exact he), ?_⟩
      refine put _ ?_
      unfold ptT
      rw [if_pos c]
      rfl
    · rw [decide_eq_false c]
      refine ⟨(show 2 + 2 ≤ 100000 by decide), trivial, trivial, .int e.1, rfl, e.1, ixN_h (by rw [lm]; exact he), ?_⟩
      refine put _ ?_
      unfold ptT
      rw [if_neg c]
      rfl
  refine ⟨trivial, .int e.1, rfl, trivial, .int o.1, rfl, okD_of (n := 1) rfl, okD_of (n := 1) rfl, ?_⟩
  show (if PyData.eqv (py (.int (e.1 : Int))) (py (.int (o.1 : Int))) = true then _ else _)
  rw [eqv_int]
  by_cases h1 : e.1 = o.1
  · rw [if_pos (.inl h1)] at k
    rw [decide_eq_true (show (e.1 : Int) = (o.1 : Int) by omega)]
    exact k
  · rw [decide_eq_false (show ¬ (e.1 : Int) = (o.1 : Int) by omega)]
    refine iteF ⟨trivial, _, rfl, trivial, _, rfl, okD_of (n := 1) rfl, okD_of (n := 1) rfl, ?_⟩
    show (if (!PyData.eqv (py (.int (a.1 : Int))) (py (.int (b.1 : Int)))) = true then _ else _)
    rw [eqv_int]
    by_cases h2 : a.1 = b.1
    · rw [decide_eq_true (show (a.1 : Int) = (b.1 : Int) by omega)]
      refine iteF ⟨trivial, _, rfl, trivial, _, rfl, ?_⟩
      refine ⟨(show (if b.2.1 < 0 then -b.2.1 else b.2.1) ≠ 0 by split <;> omega), okD_of (n := 1) rfl, okD_of (n := 1) rfl, ?_⟩
      show (if (!PyData.eqv (py (.int (a.2.1.fmod (if b.2.1 < 0 then -b.2.1 else b.2.1)))) (py (.int 0))) = true then _ else _)
      rw [abs_nat2, eqv_int]
      by_cases h3 : a.2.1.fmod (b.2.1.natAbs : Int) = 0
      · rw [decide_eq_true h3]
        rw [if_neg (by
          rintro (z | z | z)
          · exact h1 z
          · exact z h2
          · exact z h3)] at k
        exact iteF (go3 rfl k)
      · rw [decide_eq_false h3]
        rw [if_pos (.inr (.inr h3))] at k
        exact k
    · rw [decide_eq_false (show ¬ (a.1 : Int) = (b.1 : Int) by omega)]
      rw [if_pos (.inr (.inl h2))] at k
      exact k
theorem chI {p p' : Int → Int → Bool} {i j k : Int} {Fa Fb Fc : DF} {s s1 s2 s3 : DS} {P : D → DS → Prop} {ex : XD} (ha : ∀ Q : D → DS → Prop, Q (.int i) s1 → Fa s Q ex) (hb : ∀ Q : D → DS → Prop, Q (.int j) s2 → Fb s1 Q ex) (hc : ∀ Q : D → DS → Prop, Q (.int k) s3 → Fc s2 Q ex)
    (h : p i j = true → P (.bl (p' j k)) s3) (h0 : p i j = false → P (.bl false) s2) : dChain (dCmpI p) (dCmpI p') Fa Fb Fc s P ex := by
  refine ha _ (hb _ ?_)
  have key : ∀ c : Bool, p i j = c → (match D.bl c with | .bl true => Fc s2 (fun w s3 => dCmpI p' (.int j) w fun z' => P z' s3) ex | .bl false => P (.bl false) s2 | _ => False) := by
    intro c hcc
    cases c with
    | true => exact hc _ (h hcc)
    | false => exact h0 hcc
  exact key _ rfl
/-! _law_ch_is_step, _law_ch_is_door -/
def S__law_ch_is_door : PF := fun ds T post _ => ∃ (t : SdT) (j : Nat), ds = [sdD t, .int j] ∧ ∀ b : Bool, (b = true ↔ SdOk j t) → post (.fz (.bl b)) T
def F_isd : DF := (dLc [2] (iSeq (dVar 0)) (tgN 2) (tNotD (dTest (dCall S__law_is_whole 1 (aCons (dVar 2) aNil)))) (dC (.int 1)))
def G_isd0 : DG := (gRet (dAnd (dChain (dCmpI fun i j => decide (i < j)) (dCmpI fun i j => decide (i < j)) (dC (.int 0)) (dCB cAbs (aCons (dIxV 0 (dC (.int 1))) aNil)) (dC (.int 1000))) (dChain (dCmpI fun i j => decide (i < j)) (dCmpI fun i j => decide (i < j)) (dC (.int 0)) (dCB cAbs (aCons (dIxV 0 (dC (.int 3))) aNil)) (dC (.int 1000)))))
def G_isd1 : DG := (gSeq (gIf (tOrD (tNotD (dTest (dChain (dCmpI fun i j => decide (i ≤ j)) (dCmpI fun i j => decide (i < j)) (dC (.int 0)) (dIxV 0 (dC (.int 0))) (dVar 1)))) (tNotD (dTest (dChain (dCmpI fun i j => decide (i ≤ j)) (dCmpI fun i j => decide (i < j)) (dC (.int 0)) (dIxV 0 (dC (.int 2))) (dVar 1))))) (gRet (dC (.bl false))) gNil)
    G_isd0)
def G_isd2 : DG := (gSeq (gIf (dTest (dOp dNe F_isd (dLst aNil))) (gRet (dC (.bl false))) gNil)
    G_isd1)
def G__law_ch_is_door : DG := (gSeq (gIf (tOrD (tNotD (dTest (dIsTy "tuple" (dVar 0)))) (dTest (dOp dNe (dCB cLen (aCons (dVar 0) aNil)) (dC (.int 4))))) (gRet (dC (.bl false))) gNil)
    G_isd2)
theorem m__law_ch_is_door : ∀ (ds : List D) T post ex, ds.length = 2 → S__law_ch_is_door ds T post ex → G__law_ch_is_door (endsOf post ex) (startD 3 ds T) := by
  rintro ds T post ex _ ⟨⟨a, x, b, y⟩, j, rfl, k⟩
  have no : ¬ SdOk j (a, x, b, y) → post (.fz (.bl false)) T := fun h => k false ⟨fun z => (by cases z), fun z => absurd z h⟩
  have go0 : a < j → b < j → G_isd0 (endsOf post ex) ⟨[some (.fz (sdD (a, x, b, y))), some (.fz (.int j)), none], T⟩ := fun la lb => by
    have fin : ∀ c : Bool, (c = true ↔ sizeOk y) → sizeOk x → post (.fz (.bl c)) T := fun c hc hx => k c ⟨fun z => ⟨la, lb, hx, hc.mp z⟩, fun z => hc.mpr z.y⟩
    have st : DS := ⟨[some (.fz (sdD (a, x, b, y))), some (.fz (.int j)), none], T⟩
    have two : sizeOk x → (dChain (dCmpI fun i j => decide (i < j)) (dCmpI fun i j => decide (i < j)) (dC (.int 0)) (dCB cAbs (aCons (dIxV 0 (dC (.int 3))) aNil)) (dC (.int 1000))) ⟨[some (.fz (sdD (a, x, b, y))), some (.fz (.int j)), none], T⟩ (fun d s1 => post (.fz d) s1.T) (fun n fs s => ex n fs s.T) := fun hx => by
      refine chI (i := 0) (j := if y < 0 then -y else y) (k := 1000) (fun Q h => h) (fun Q h => ⟨trivial, .int y, rfl, h⟩) (fun Q h => h) (fun h1 => ?_) fun h0 => ?_
      · have h1 := of_decide_eq_true h1
        refine fin _ ?_ hx
        rw [decide_eq_true_iff]
        rw [abs_nat2] at h1 ⊢
        unfold sizeOk
        omega
      · have h0 := of_decide_eq_false h0
        rw [abs_nat2] at h0
        exact fin false ⟨fun z => (by cases z), fun z => absurd z.1 (by omega)⟩ hx
    have one : ∀ c : Bool, (c = true ↔ sizeOk x) → (match D.bl c with | .bl true => (dChain (dCmpI fun i j => decide (i < j)) (dCmpI fun i j => decide (i < j)) (dC (.int 0)) (dCB cAbs (aCons (dIxV 0 (dC (.int 3))) aNil)) (dC (.int 1000))) ⟨[some (.fz (sdD (a, x, b, y))), some (.fz (.int j)), none], T⟩ (fun d s1 => (endsOf post ex).rt (.fz d) s1.T) (endsOf post ex).ex | .bl false => (endsOf post ex).rt (.fz (.bl false)) T | _ => False) := by
      intro c hc
      cases c with
      | true => exact two (hc.mp rfl)
      | false => exact no fun z => by have := hc.mpr z.x; cases this
    refine chI (i := 0) (j := if x < 0 then -x else x) (k := 1000) (fun Q h => h) (fun Q h => ⟨trivial, .int x, rfl, h⟩) (fun Q h => h) (fun h1 => one _ ?_) fun h0 => ?_
    · have h1 := of_decide_eq_true h1
      rw [decide_eq_true_iff]
      rw [abs_nat2] at h1 ⊢
      unfold sizeOk
      omega
    · have h0 := of_decide_eq_false h0
      rw [abs_nat2] at h0
      exact one false ⟨fun z => (by cases z), fun z => absurd z.1 (by omega)⟩
  have go1 : G_isd1 (endsOf post ex) ⟨[some (.fz (sdD (a, x, b, y))), some (.fz (.int j)), none], T⟩ := by
    have E1 : ∀ c : Bool, (c = true ↔ b < j) → a < j → (match D.bl c with | .bl k => (if (!k) = true then gRet (dC (.bl false)) { endsOf post ex with nx := G_isd0 (endsOf post ex) } ⟨[some (.fz (sdD (a, x, b, y))), some (.fz (.int j)), none], T⟩ else G_isd0 (endsOf post ex) ⟨[some (.fz (sdD (a, x, b, y))), some (.fz (.int j)), none], T⟩) | _ => False) := by
      intro c hc la
      cases c with
      | true => exact go0 la (hc.mp rfl)
      | false => exact no fun z => by have := hc.mpr z.b; cases this
    have E0 : ∀ c : Bool, (c = true ↔ a < j) → (match D.bl c with | .bl k => (if (!k) = true then gRet (dC (.bl false)) { endsOf post ex with nx := G_isd0 (endsOf post ex) } ⟨[some (.fz (sdD (a, x, b, y))), some (.fz (.int j)), none], T⟩ else (dChain (dCmpI fun i j => decide (i ≤ j)) (dCmpI fun i j => decide (i < j)) (dC (.int 0)) (dIxV 0 (dC (.int 2))) (dVar 1)) ⟨[some (.fz (sdD (a, x, b, y))), some (.fz (.int j)), none], T⟩ (fun d s1 => match d with | .bl k => (if (!k) = true then gRet (dC (.bl false)) { endsOf post ex with nx := G_isd0 (endsOf post ex) } s1 else G_isd0 (endsOf post ex) s1) | _ => False) (endsOf post ex).ex) | _ => False) := by
      intro c hc
      cases c with
      | false => exact no fun z => by have := hc.mpr z.a; cases this
      | true =>
        have key : (dChain (dCmpI fun i j => decide (i ≤ j)) (dCmpI fun i j => decide (i < j)) (dC (.int 0)) (dIxV 0 (dC (.int 2))) (dVar 1)) ⟨[some (.fz (sdD (a, x, b, y))), some (.fz (.int j)), none], T⟩ (fun d s1 => match d with | .bl k => (if (!k) = true then gRet (dC (.bl false)) { endsOf post ex with nx := G_isd0 (endsOf post ex) } s1 else G_isd0 (endsOf post ex) s1) | _ => False) (endsOf post ex).ex := by
          refine chI (i := 0) (j := (b : Int)) (k := (j : Int)) (s1 := ⟨[some (.fz (sdD (a, x, b, y))), some (.fz (.int j)), none], T⟩) (s2 := ⟨[some (.fz (sdD (a, x, b, y))), some (.fz (.int j)), none], T⟩) (s3 := ⟨[some (.fz (sdD (a, x, b, y))), some (.fz (.int j)), none], T⟩) (fun Q h => h) (fun Q h => ⟨trivial, _, rfl, h⟩) (fun Q h => h) (fun _ => E1 _ ?_ (hc.mp rfl)) fun h0 => absurd (of_decide_eq_false h0) (by omega)
          rw [decide_eq_true_iff]
          omega
        exact key
    refine chI (i := 0) (j := (a : Int)) (k := (j : Int)) (s1 := ⟨[some (.fz (sdD (a, x, b, y))), some (.fz (.int j)), none], T⟩) (s2 := ⟨[some (.fz (sdD (a, x, b, y))), some (.fz (.int j)), none], T⟩) (s3 := ⟨[some (.fz (sdD (a, x, b, y))), some (.fz (.int j)), none], T⟩) (fun Q h => h) (fun Q h => ⟨trivial, _, rfl, h⟩) (fun Q h => h) (fun _ => E0 _ ?_) fun h0 => absurd (of_decide_eq_false h0) (by omega)
    rw [decide_eq_true_iff]
    omega
  have go2 : G_isd2 (endsOf post ex) ⟨[some (.fz (sdD (a, x, b, y))), some (.fz (.int j)), none], T⟩ := by
    have key : F_isd ⟨[some (.fz (sdD (a, x, b, y))), some (.fz (.int j)), none], T⟩ (fun d s1 => (dLst aNil) s1 (fun z s2 => dNe d z fun w => match w with | .bl c => (if c = true then gRet (dC (.bl false)) { endsOf post ex with nx := G_isd1 (endsOf post ex) } s2 else G_isd1 (endsOf post ex) s2) | _ => False) (endsOf post ex).ex) (endsOf post ex).ex := by
      refine dLc_inv (fun i acc s => acc = [] ∧ s = ⟨[some (.fz (sdD (a, x, b, y))), some (.fz (.int j)), none], T⟩) [.int (a : Nat), .int x, .int (b : Nat), .int y] (fun Q hQ => ⟨_, rfl, hQ _ ⟨rfl, rfl⟩⟩) ?_ ?_
      · rintro i d acc s hi ⟨rfl, rfl⟩ Q hQ
        have hd : ∃ z : Int, d = .int z := by
          match i, hi with
          | 0, hi => cases hi; exact ⟨_, rfl⟩
          | 1, hi => cases hi; exact ⟨_, rfl⟩
          | 2, hi => cases hi; exact ⟨_, rfl⟩
          | 3, hi => cases hi; exact ⟨_, rfl⟩
          | i + 4, hi => cases hi
        obtain ⟨z, rfl⟩ := hd
        exact ⟨rfl, _, rfl, rfl, hQ _ _ ⟨rfl, rfl⟩⟩
      · rintro acc s ⟨rfl, rfl⟩
        exact ⟨Nat.zero_le _, rfl, rfl, go1⟩
    exact key
  exact ⟨_, true, rfl, by decide +kernel, okD_of (n := 1) rfl, okD_of (n := 1) rfl, go2⟩
end
end Law


set_option Elab.async false
set_option linter.all false
set_option maxRecDepth 100000
set_option maxHeartbeats 1000000
/-! zip of a list with a tuple -/
namespace DL
open PySem PySem.Spec PyProof.Rows L2 RZ
open PySem.Sem (wp)
section
variable {prog : Program} {w : World} {A : Around} {E : Value → Shared → Prop} {s : Shared} {zz ti tt ia ib la lb : Addr} {ka kb : Nat} {us ws : Array Value} {u v p q : Value}
/-- what a turn of the zip leaves as it was -/
def KeepZ (zz tt ia ib : Addr) (h h' : Heap) : Prop := ∀ c o, c ≠ zz → c ≠ tt → c ≠ ia → c ≠ ib → h.get? c = some o → h'.get? c = some o
end
/-! ### the new zip -/
section
variable {prog : Program} {w : World} {A : Around} {E : Value → Shared → Prop} {s : Shared}
end
theorem five {c a1 a2 a3 a4 a5 : Addr} (h : c ∈ [a1, a2, a3, a4, a5]) : c = a1 ∨ c = a2 ∨ c = a3 ∨ c = a4 ∨ c = a5 := by simpa using h
section
variable [Tb]
variable {X : Cx} {W : WX} {tg a b e : Expr} {Fa Fb : DF} {pos p tpos : Pos} {elts : List Expr} {kk : Nat}
end
end DL


set_option Elab.async false
set_option linter.all false
set_option maxRecDepth 100000
set_option maxHeartbeats 1000000
/-! zip of a tuple with a list -/
namespace DL
open PySem PySem.Spec PyProof.Rows L2 RZ
open PySem.Sem (wp)
section
variable {prog : Program} {w : World} {A : Around} {E : Value → Shared → Prop} {s : Shared} {zz ti tt ia ib la lb : Addr} {ka kb : Nat} {us ws : Array Value} {u v p q : Value}
theorem zn_item {Q : Value → Shared → Prop} (D : ZipApart zz ti tt ia ib la lb) (Z : IsZip s.heap zz ti tt .none) (PI : IsPair s.heap ti (.ref ia) (.ref ib)) (PO : IsPair s.heap tt p q)
    (Ia : s.heap.IsTupleIter ia la ka) (Ib : s.heap.IsListIter ib lb kb) (La : s.heap.IsTuple la us) (Lb : s.heap.IsList lb ws) (gu : us[ka]? = some u) (gv : ws[kb]? = some v)
    (R : ∀ h', IsZip h' zz ti tt (rawInt s.heap.objs.size) → IsPair h' tt u v → h'.IsTupleIter ia la (ka + 1) → h'.IsListIter ib lb (kb + 1) → IsPair h' s.heap.objs.size u v → h'.objs.size = s.heap.objs.size + 1 → KeepZ zz tt ia ib s.heap h' → Q (.ref s.heap.objs.size) { s with heap := h' }) :
    wpAny (model prog w) A (Builtin.«zip.__next__» ⟨[.ref zz], []⟩) (fun fin s' => ∃ r, fin = .done (.ret r) ∧ Q r s') E s := by
  show wpAny _ _ (field (.ref zz) 2 >>= _) _ _ _
  refine wpAny_bind (wpAny_field Z rfl (x := .bool false) rfl ?_)
  show wpAny _ _ (field (.ref zz) 3 >>= _) _ _ _
  refine wpAny_bind (wpAny_field Z rfl (x := .ref ti) rfl ?_)
  refine wpAny_bind (wpAny_seqItems PI rfl ?_)
  show wpAny _ _ (Builtin.SmallTypes.ownedTupleIsFree (.ref zz) >>= _) _ _ _
  refine wpAny_bind ?_
  unfold Builtin.SmallTypes.ownedTupleIsFree
  refine wpAny_bind (wpAny_field Z rfl (x := .none) rfl (wpAny_pure ?_))
  simp only [if_true]
  refine wpAny_bind (wpAny_rule ?_)
  refine wpAny_bind (wpAny_field Z rfl (x := .ref tt) rfl ?_)
  refine wpAny_bind (wpAny_setField_rec Z (by simp) fun hA zA sA => ?_)
  replace zA : IsZip hA zz ti tt .ellipsis := zA
  refine wpAny_bind ?_
  simp only [List.zipIdx_cons, List.zipIdx_nil, List.forIn_cons, List.forIn_nil]
  refine wpAny_bind (wpAny_bind (wpAny_onRaise ?_))
  show wpAny _ _ (Builtin.SmallTypes.nextOf (.ref ia) >>= _) _ _ _
  refine wpAny_bind (nextOf_tuple_item (Ia.extBut sA.extBut D.i1z) (La.extBut sA.extBut D.l1z) gu fun hB iB sB => wpAny_pure ?_)
  have oB : IsPair hB tt p q := sB.extBut _ _ D.TOi1 (sA.extBut _ _ D.TOz PO)
  refine wpAny_bind (wpAny_seqItems oB rfl ?_)
  refine wpAny_bind (wpAny_updateSeq_pair oB fun hC oC sC => ?_)
  replace oC : IsPair hC tt u q := oC
  refine wpAny_bind (wpAny_letGo (wpAny_pure ?_))
  refine wpAny_bind (wpAny_bind (wpAny_onRaise ?_))
  show wpAny _ _ (Builtin.SmallTypes.nextOf (.ref ib) >>= _) _ _ _
  have jC := ((Ib.extBut sA.extBut D.i2z).extBut sB.extBut D.i12.symm).extBut sC.extBut D.TOi2.symm
  have tC := ((Lb.extBut sA.extBut D.l2z).extBut sB.extBut D.l2i1).extBut sC.extBut D.l2TO
  refine wpAny_bind (wpAny_nextOf_list_item jC tC gv fun hD jD sD => wpAny_pure ?_)
  have oD : IsPair hD tt u q := sD.extBut _ _ D.TOi2 oC
  refine wpAny_bind (wpAny_seqItems oD rfl ?_)
  refine wpAny_bind (wpAny_updateSeq_pair oD fun hE oE sE => ?_)
  replace oE : IsPair hE tt u v := oE
  refine wpAny_bind (wpAny_letGo (wpAny_pure (wpAny_pure ?_)))
  refine wpAny_bind (wpAny_seqItems oE rfl ?_)
  refine wpAny_bind (wpAny_newTuple ?_)
  have zs : hE.objs.size = s.heap.objs.size := by rw [sE.1, sD.1, sC.1, sB.1, sA.1]
  have zE : IsZip hE zz ti tt .ellipsis := sE.extBut _ _ D.TOz.symm (sD.extBut _ _ D.i2z.symm (sC.extBut _ _ D.TOz.symm (sB.extBut _ _ D.i1z.symm zA)))
  have kE : KeepZ zz tt ia ib s.heap hE := fun c o n1 n2 n3 n4 e => sE.extBut _ _ n2 (sD.extBut _ _ n4 (sC.extBut _ _ n2 (sB.extBut _ _ n3 (sA.extBut _ _ n1 e))))
  have iE : hE.IsTupleIter ia la (ka + 1) := ((iB.extBut sC.extBut D.TOi1.symm).extBut sD.extBut D.i12).extBut sE.extBut D.TOi1.symm
  have jE : hE.IsListIter ib lb (kb + 1) := jD.extBut sE.extBut D.TOi2.symm
  have zlt : zz < hE.objs.size := Heap.lt_size zE
  show wpAny _ _ (Builtin.SmallTypes.ownedTupleHandOut (.ref zz) (.ref hE.objs.size) >>= _) _ _ _
  refine wpAny_bind ?_
  unfold Builtin.SmallTypes.ownedTupleHandOut
  have zF : IsZip (hE.push { cls := .type "tuple", data := .seq #[u, v] }) zz ti tt .ellipsis := Heap.get?_push_of_some _ zE
  refine wpAny_bind (wpAny_setField_rec zF (by simp) fun hG zG sG => ?_)
  replace zG : IsZip hG zz ti tt (rawInt hE.objs.size) := zG
  refine wpAny_setField_rec zG (by simp) fun hH zH sH => ?_
  replace zH : IsZip hH zz ti tt (rawInt hE.objs.size) := zH
  have up : ∀ c o, c ≠ zz → hE.get? c = some o → hH.get? c = some o := fun c o n1 e => sH.extBut _ _ n1 (sG.extBut _ _ n1 (Heap.get?_push_of_some _ e))
  have nH : IsPair hH hE.objs.size u v := sH.extBut _ _ (Nat.ne_of_gt zlt) (sG.extBut _ _ (Nat.ne_of_gt zlt) (Heap.get?_push_size _ rfl))
  have lH : hH.objs.size = hE.objs.size + 1 := by rw [sH.1, sG.1, Heap.size_push]
  rw [zs] at zH nH lH
  refine wpAny_pure ⟨_, rfl, ?_⟩
  show Q (.ref hE.objs.size) _
  rw [zs]
  exact R hH zH (up _ _ D.TOz oE) (iE.at fun o e => up _ o D.i1z e) (jE.at fun o e => up _ o D.i2z e) nH lH fun c o n1 n2 n3 n4 e => up c o n1 (kE c o n1 n2 n3 n4 e)
theorem zn_end {Q : Fin → Shared → Prop} (hh : A.handled = none) (D : ZipApart zz ti tt ia ib la lb) (Z : IsZip s.heap zz ti tt .none) (PI : IsPair s.heap ti (.ref ia) (.ref ib)) (PO : IsPair s.heap tt p q)
    (Ia : s.heap.IsTupleIter ia la ka) (Ib : s.heap.IsListIter ib lb kb) (La : s.heap.IsTuple la us) (Lb : s.heap.IsList lb ws) (gn : us[ka]? = none ∨ ws[kb]? = none)
    (R : ∀ h' e, KeepZ zz tt ia ib s.heap h' → (∃ o, h'.get? e = some o ∧ o.cls = .type "StopIteration") → E (.ref e) { s with heap := h' }) :
    wpAny (model prog w) A (Builtin.«zip.__next__» ⟨[.ref zz], []⟩) Q E s := by
  show wpAny _ _ (field (.ref zz) 2 >>= _) _ _ _
  refine wpAny_bind (wpAny_field Z rfl (x := .bool false) rfl ?_)
  show wpAny _ _ (field (.ref zz) 3 >>= _) _ _ _
  refine wpAny_bind (wpAny_field Z rfl (x := .ref ti) rfl ?_)
  refine wpAny_bind (wpAny_seqItems PI rfl ?_)
  show wpAny _ _ (Builtin.SmallTypes.ownedTupleIsFree (.ref zz) >>= _) _ _ _
  refine wpAny_bind ?_
  unfold Builtin.SmallTypes.ownedTupleIsFree
  refine wpAny_bind (wpAny_field Z rfl (x := .none) rfl (wpAny_pure ?_))
  simp only [if_true]
  refine wpAny_bind (wpAny_rule ?_)
  refine wpAny_bind (wpAny_field Z rfl (x := .ref tt) rfl ?_)
  refine wpAny_bind (wpAny_setField_rec Z (by simp) fun hA zA sA => ?_)
  replace zA : IsZip hA zz ti tt .ellipsis := zA
  refine wpAny_bind ?_
  simp only [List.zipIdx_cons, List.zipIdx_nil, List.forIn_cons, List.forIn_nil]
  refine wpAny_bind (wpAny_bind (wpAny_onRaise ?_))
  show wpAny _ _ (Builtin.SmallTypes.nextOf (.ref ia) >>= _) _ _ _
  have fin : ∀ (hX hY : Heap) (e : Addr), IsZip hX zz ti tt .ellipsis → (∃ o, hY.get? e = some o ∧ o.cls = .type "StopIteration") → hY.get? zz = hX.get? zz → e ≠ zz := fun hX hY e z1 ⟨o, e1, e2⟩ e3 x => by
    subst x
    rw [e3, z1] at e1
    cases e1
    simp at e2
  cases gx : us[ka]? with
  | none =>
    refine wpAny_bind (nextOf_tuple_end hh (Ia.extBut sA.extBut D.i1z) (La.extBut sA.extBut D.l1z) gx fun hB e sB he => ?_)
    have zB : IsZip hB zz ti tt .ellipsis := sB _ _ D.i1z.symm zA
    have ne := fin hA hB e zA he (zB.trans zA.symm)
    obtain ⟨oe, h1, h2⟩ := he
    exact wpAny_setField_rec zB (by simp) fun hC _ sC => R hC e (fun c o n1 _ n3 _ x => sC.extBut _ _ n1 (sB _ _ n3 (sA.extBut _ _ n1 x))) ⟨oe, sC.extBut _ _ ne h1, h2⟩
  | some u =>
    have gy : ws[kb]? = none := gn.elim (fun x => by rw [gx] at x; cases x) id
    refine wpAny_bind (nextOf_tuple_item (Ia.extBut sA.extBut D.i1z) (La.extBut sA.extBut D.l1z) gx fun hB iB sB => wpAny_pure ?_)
    have oB : IsPair hB tt p q := sB.extBut _ _ D.TOi1 (sA.extBut _ _ D.TOz PO)
    refine wpAny_bind (wpAny_seqItems oB rfl ?_)
    refine wpAny_bind (wpAny_updateSeq_pair oB fun hC oC sC => ?_)
    refine wpAny_bind (wpAny_letGo (wpAny_pure ?_))
    refine wpAny_bind (wpAny_bind (wpAny_onRaise ?_))
    show wpAny _ _ (Builtin.SmallTypes.nextOf (.ref ib) >>= _) _ _ _
    have jC := ((Ib.extBut sA.extBut D.i2z).extBut sB.extBut D.i12.symm).extBut sC.extBut D.TOi2.symm
    have tC := ((Lb.extBut sA.extBut D.l2z).extBut sB.extBut D.l2i1).extBut sC.extBut D.l2TO
    refine wpAny_bind (wpAny_nextOf_list_end hh jC tC gy fun hD e sD he => ?_)
    have zD : IsZip hD zz ti tt .ellipsis := sD _ _ D.i2z.symm (sC.extBut _ _ D.TOz.symm (sB.extBut _ _ D.i1z.symm zA))
    have ne := fin hA hD e zA he (zD.trans zA.symm)
    obtain ⟨oe, h1, h2⟩ := he
    exact wpAny_setField_rec zD (by simp) fun hF _ sF => R hF e (fun c o n1 n2 n3 n4 x => sF.extBut _ _ n1 (sD _ _ n4 (sC.extBut _ _ n2 (sB.extBut _ _ n3 (sA.extBut _ _ n1 x))))) ⟨oe, sF.extBut _ _ ne h1, h2⟩
theorem zn_next {Q : Option Value → Shared → Prop} (D : ZipApart zz ti tt ia ib la lb) (Z : IsZip s.heap zz ti tt .none) (PI : IsPair s.heap ti (.ref ia) (.ref ib)) (PO : IsPair s.heap tt p q)
    (Ia : s.heap.IsTupleIter ia la ka) (Ib : s.heap.IsListIter ib lb kb) (La : s.heap.IsTuple la us) (Lb : s.heap.IsList lb ws) (gu : us[ka]? = some u) (gv : ws[kb]? = some v)
    (R : ∀ h', IsZip h' zz ti tt (rawInt s.heap.objs.size) → IsPair h' tt u v → h'.IsTupleIter ia la (ka + 1) → h'.IsListIter ib lb (kb + 1) → IsPair h' s.heap.objs.size u v → h'.objs.size = s.heap.objs.size + 1 → KeepZ zz tt ia ib s.heap h' → Q (some (.ref s.heap.objs.size)) { s with heap := h' }) :
    wpAny (model prog w) A (pyNext (.ref zz)) Q E s := by
  have ty : s.TypeIs (.ref zz) "zip" := ⟨_, Z, rfl⟩
  unfold pyNext
  exact wpAny_bind (wpAny_attempt (wpAny_callSpecial?_slot (name := Str.ofString "__next__") ty F.slot_zip_next (wpAny_call_entry F.slot_zip_next ty F.entry_zip_next
    (zn_item D Z PI PO Ia Ib La Lb gu gv fun h' b1 b2 b3 b4 b5 b6 b7 => wpAny_pure (R h' b1 b2 b3 b4 b5 b6 b7)) (F.args_zip_next_1 _))))
theorem zn_stop {Q : Option Value → Shared → Prop} (hh : A.handled = none) (D : ZipApart zz ti tt ia ib la lb) (Z : IsZip s.heap zz ti tt .none) (PI : IsPair s.heap ti (.ref ia) (.ref ib)) (PO : IsPair s.heap tt p q)
    (Ia : s.heap.IsTupleIter ia la ka) (Ib : s.heap.IsListIter ib lb kb) (La : s.heap.IsTuple la us) (Lb : s.heap.IsList lb ws) (gn : us[ka]? = none ∨ ws[kb]? = none)
    (R : ∀ h', KeepZ zz tt ia ib s.heap h' → Q none { s with heap := h' }) : wpAny (model prog w) A (pyNext (.ref zz)) Q E s := by
  have ty : s.TypeIs (.ref zz) "zip" := ⟨_, Z, rfl⟩
  unfold pyNext
  refine wpAny_bind (wpAny_attempt (wpAny_callSpecial?_slot (name := Str.ofString "__next__") ty F.slot_zip_next (wpAny_call_entry F.slot_zip_next ty F.entry_zip_next
    (zn_end hh D Z PI PO Ia Ib La Lb gn fun h' e kz he => ?_) (F.args_zip_next_1 _))))
  obtain ⟨o, e1, e2⟩ := he
  exact wpAny_bind (wpAny_isInstance (T := "StopIteration") (b := true) ⟨o, e1, e2⟩ isSubtype_stop (wpAny_pure (R _ kz)))
end
/-! ### the new zip -/
abbrev znA (h : Heap) (la : Addr) : Heap := h.push { cls := .type "tuple_iterator", data := .fields #[.ref la, .int 0 0] }
abbrev znB (h : Heap) (la lb : Addr) : Heap := (znA h la).push { cls := .type "list_iterator", data := .fields #[.ref lb, .int 0 0] }
abbrev znC (h : Heap) (la lb : Addr) : Heap := (znB h la lb).push { cls := .type "tuple", data := .seq #[.ref h.objs.size, .ref (znA h la).objs.size] }
abbrev znD (h : Heap) (la lb : Addr) : Heap := (znC h la lb).push { cls := .type "tuple", data := .seq #[.none, .none] }
abbrev znE (h : Heap) (la lb : Addr) : Heap := (znD h la lb).push { cls := .type "zip", data := .fields #[.none, .bool false, .bool false, .ref (znB h la lb).objs.size, .ref (znC h la lb).objs.size] }
theorem meets_zn (la lb : Addr) (us ws : Array Value) : Meets (Builtin.«zip.__new__» ⟨[.type "zip", .ref la, .ref lb], []⟩) (fun _ R s => s.heap.IsTuple la us ∧ s.heap.IsList lb ws ∧ R (.ok (.ret (.ref (znD s.heap la lb).objs.size))) { s with heap := znE s.heap la lb }) :=
  .of_wp fun prog w A R s h => by
    obtain ⟨hp, g, d, tk, os⟩ := s
    obtain ⟨g1, g2, h⟩ := h
    have sub := sub_zip
    have e1 : Heap.IsTuple (Shared.heap ⟨hp, g, d, tk, os⟩) la us := g1
    have e2 : Heap.IsList (Shared.heap ⟨hp.push { cls := .type "tuple_iterator", data := .fields #[.ref la, .int 0 0] }, g, d, tk, os⟩) lb ws := Heap.IsList.push g2 _
    wp_walk using wpAny_pyIter_tuple e1, wpAny_pyIter_list e2
    exact ⟨_, rfl, h⟩
section
variable {prog : Program} {w : World} {A : Around} {E : Value → Shared → Prop} {s : Shared}
theorem call_zn {la lb : Addr} {us ws : Array Value} {Q : Value → Shared → Prop} (La : s.heap.IsTuple la us) (Lb : s.heap.IsList lb ws)
    (R : ∀ h', IsZip h' (s.heap.objs.size + 4) (s.heap.objs.size + 2) (s.heap.objs.size + 3) .none → IsPair h' (s.heap.objs.size + 2) (.ref s.heap.objs.size) (.ref (s.heap.objs.size + 1)) → IsPair h' (s.heap.objs.size + 3) .none .none →
      h'.IsTupleIter s.heap.objs.size la 0 → h'.IsListIter (s.heap.objs.size + 1) lb 0 → (∀ c o, s.heap.get? c = some o → h'.get? c = some o) → Q (.ref (s.heap.objs.size + 4)) { s with heap := h' }) :
    wpAny (model prog w) A (call (.type "zip") [.ref la, .ref lb]) Q E s := by
  refine callType_new F.called_zip (by decide) (F.typeCall_zip_2 _ _) (F.newCall_zip_2 _ _) (fun obj => F.args_object_init_3 obj _ _) F.entry_zip_new (meets_zn la lb us ws) ⟨La, Lb, ?_⟩
  have n1 : (znA s.heap la).objs.size = s.heap.objs.size + 1 := Heap.size_push ..
  have n2 : (znB s.heap la lb).objs.size = s.heap.objs.size + 2 := by rw [Heap.size_push, n1]
  have n3 : (znC s.heap la lb).objs.size = s.heap.objs.size + 3 := by rw [Heap.size_push, n2]
  have n4 : (znD s.heap la lb).objs.size = s.heap.objs.size + 4 := by rw [Heap.size_push, n3]
  have up : ∀ {h : Heap} {o' : Obj} {c : Addr} {o : Obj}, h.get? c = some o → (h.push o').get? c = some o := fun x => Heap.get?_push_of_some _ x
  have k5 : (znE s.heap la lb).get? (znD s.heap la lb).objs.size = some _ := Heap.get?_push_size _ rfl
  have k4 : (znE s.heap la lb).get? (znC s.heap la lb).objs.size = some _ := up (Heap.get?_push_size _ rfl)
  have k3 : (znE s.heap la lb).get? (znB s.heap la lb).objs.size = some _ := up (up (Heap.get?_push_size _ rfl))
  have k2 : (znE s.heap la lb).get? (znA s.heap la).objs.size = some _ := up (up (up (Heap.get?_push_size _ rfl)))
  have k1 : (znE s.heap la lb).get? s.heap.objs.size = some _ := up (up (up (up (Heap.get?_push_size _ rfl))))
  show _ ∧ _
  rw [n2, n3, n4] at k5
  rw [n1, n2] at k3
  rw [n3] at k4
  rw [n1] at k2
  rw [n4]
  exact ⟨⟨_, k5, rfl⟩, R _ k5 k3 k4 ⟨_, k1, rfl, rfl⟩ ⟨_, k2, rfl, rfl⟩ fun c o x => up (up (up (up (up x))))⟩
end
/-- the list at a and the tuple at b as they stand at each turn, the items in new pairs -/
def ItzN (K : PySem.W.Frag) (a b : Addr) : It where
  go := fun i H => ∃ (xs ys : List V) (x y : V), SqT K H a xs ∧ SqL K H b ys ∧ xs[i]? = some x ∧ ys[i]? = some y
  yld := fun i H v H' => ∃ T x y, v = .ref T ∧ H T = none ∧ H' = upd H T (.tup [x, y]) ∧ (∀ xs, SqT K H a xs → xs[i]? = some x) ∧ ∀ ys, SqL K H b ys → ys[i]? = some y
  stop := fun i H => ∃ xs ys : List V, SqT K H a xs ∧ SqL K H b ys ∧ (xs.length ≤ i ∨ ys.length ≤ i)
theorem turn_zn {P : Program} {w : World} {K : PySem.W.Frag} {elts : List Expr} {kk : Nat} {tpos : Pos} {a b zz ti tt ia ib : Addr} (D : ZipApart zz ti tt ia ib a b) :
    Turn P w K (.Tuple elts kk tpos) (ItzN K a b) [zz, ti, tt, ia, ib] zz (fun i h => IsZip h zz ti tt .none ∧ IsPair h ti (.ref ia) (.ref ib) ∧ (∃ x y, IsPair h tt x y) ∧ h.IsTupleIter ia a i ∧ h.IsListIter ib b i) where
  mem := by simp
  obj := fun i h st c hc => by
    obtain ⟨Z, PI, ⟨x, y, PO⟩, ⟨o1, e1, _, d1⟩, ⟨o2, e2, _, d2⟩⟩ := st
    rcases five hc with rfl | rfl | rfl | rfl | rfl
    · exact ⟨_, Z, fun v q => nomatch q⟩
    · exact ⟨_, PI, fun v q => nomatch q⟩
    · exact ⟨_, PO, fun v q => nomatch q⟩
    · exact ⟨o1, e1, fun v q => by rw [d1] at q; cases q⟩
    · exact ⟨o2, e2, fun v q => by rw [d2] at q; cases q⟩
  keep := fun i h h' ⟨Z, PI, ⟨x, y, PO⟩, Ia, Ib⟩ k => ⟨k zz (by simp) _ Z, k ti (by simp) _ PI, ⟨x, y, k tt (by simp) _ PO⟩, Ia.at fun o q => k ia (by simp) o q, Ib.at fun o q => k ib (by simp) o q⟩
  item := by
    intro X eP ew eK hc i pins s σ H E I hf st hg
    subst eP ew eK
    obtain ⟨Z, PI, ⟨x0, y0, PO⟩, Ia, Ib⟩ := st
    obtain ⟨xs, ys, x, y, qa, qb, gx, gy⟩ := hg
    obtain ⟨us, ra, pa, _⟩ := I.tuple qa
    obtain ⟨ws, rb, pb, _⟩ := I.list qb
    obtain ⟨u, hu, ru⟩ := ra.get gx
    obtain ⟨v, hv, rv⟩ := rb.get gy
    have zl : zz < s.heap.objs.size := Heap.lt_size Z
    refine zn_next D Z PI PO Ia Ib pa pb.isList (u := u) (v := v) (by simpa using hu) (by simpa using hv) fun h' Z' PO' Ia' Ib' nT sz kz => ?_
    refine ⟨_, rfl, wpAny_letOwnedTupleGo_zip (s := { s with heap := h' }) Z' fun h2 Z2 sb => ?_⟩
    have T2 : h2.get? s.heap.objs.size = some { cls := .type "tuple", data := .seq #[u, v] } := (sb.2 _ (Nat.ne_of_gt zl)).trans nT
    have ok : ObjOk X.prog X.w (upd H s.heap.objs.size (.tup [x, y])) h2 s.heap.objs.size (.tup [x, y]) := ⟨by show 2 ≤ sizeLine; decide, [u, v], .cons ru (.cons rv .nil), ⟨_, T2, rfl, _, rfl⟩⟩
    have stay : ∀ c o, c ∉ [zz, ti, tt, ia, ib] → s.heap.get? c = some o → h2.get? c = some o := fun c o nc q => by
      have n := fun (d : Addr) (hd : d ∈ [zz, ti, tt, ia, ib]) (e : c = d) => nc (e ▸ hd)
      exact (sb.2 c (n _ (by simp))).trans (kz c o (n _ (by simp)) (n _ (by simp)) (n _ (by simp)) (n _ (by simp)) q)
    have I1 : Inv X pins σ (upd H s.heap.objs.size (.tup [x, y])) { s with heap := h2 } := I.turnedNew (t' := s.toks) (ch := [zz, ti, tt, ia, ib]) stay hf (Nat.le_refl _) ok
    have nH := I.hok.fresh (Nat.le_refl s.heap.objs.size)
    refine ⟨.ref s.heap.objs.size, _, I1, rfl, ⟨_, x, y, rfl, nH, rfl, fun l hl => by rw [I.tuple_inj hl qa]; exact gx, fun l hl => by rw [I.list_inj hl qb]; exact gy⟩, ⟨Z2, (sb.2 _ D.TIz).trans (kz _ _ D.TIz D.TITO D.TIi1 D.TIi2 PI), ⟨u, v, (sb.2 _ D.TOz).trans PO'⟩, Ia'.at fun o q => (sb.2 _ D.i1z).trans q, Ib'.at fun o q => (sb.2 _ D.i2z).trans q⟩, fun c hcm => ?_⟩
    have lt : c < s.heap.objs.size := by
      obtain ⟨_, e1, _⟩ := Ia
      obtain ⟨_, e2, _⟩ := Ib
      rcases five hcm with rfl | rfl | rfl | rfl | rfl
      · exact zl
      · exact Heap.lt_size PI
      · exact Heap.lt_size PO
      · exact Heap.lt_size e1
      · exact Heap.lt_size e2
    rw [upd_ne (Nat.ne_of_lt lt)]
    exact (hf c hcm).1
  done := by
    intro X eP ew eK hc i pins s σ H E I hf st hg
    subst eP ew eK
    obtain ⟨Z, PI, ⟨x0, y0, PO⟩, Ia, Ib⟩ := st
    obtain ⟨xs, ys, qa, qb, hend⟩ := hg
    obtain ⟨us, ra, pa, _⟩ := I.tuple qa
    obtain ⟨ws, rb, pb, _⟩ := I.list qb
    have l1 := ra.length
    have l2 := rb.length
    have he : us.toArray[i]? = none ∨ ws.toArray[i]? = none := hend.imp (fun q => by simp; omega) (fun q => by simp; omega)
    refine zn_stop (I.ok.hd hc) D Z PI PO Ia Ib pa pb.isList he fun h' kz => ⟨rfl, I.turnedL (t' := s.toks) (ch := [zz, ti, tt, ia, ib]) (fun c o nc q => ?_) hf⟩
    have n := fun (d : Addr) (hd : d ∈ [zz, ti, tt, ia, ib]) (e : c = d) => nc (e ▸ hd)
    exact kz c o (n _ (by simp)) (n _ (by simp)) (n _ (by simp)) (n _ (by simp)) q
  self := fun A i s Q E st h => wpAny_pyIter_zip st.1 h
def iZipN (K : PySem.W.Frag) (ta : TA) : TI := fun σ H R => ta σ H fun vs H1 => ∃ a b xs ys, vs = [.ref a, .ref b] ∧ SqT K H1 a xs ∧ SqL K H1 b ys ∧ R (ItzN K a b) H1
theorem pi_zipN {X : Cx} {e e2 : Expr} {ta : TA} {p pos tpos : Pos} {elts : List Expr} {kk : Nat} (hg : Gl X "zip") (hm : X.mg "zip" = none) (ha : PA X [e, e2] ta)
    (hs : starEach [e, e2] X.env = (false, eval e X.env) :: starEach [e2] X.env := by rfl) (hpl : (backTo pos (starEach [e2] X.env)).any (·.1) = false := by rfl) : L2.PI X (.Tuple elts kk tpos) (.Call (.Name "zip" p) [e, e2] [] pos) (iZipN X.K ta) := by
  refine ⟨fun pins s σ H R I h => ?_⟩
  refine Call_ (ld_blt I hg hm PyProof.Rows.boot_zip ?_)
  refine PyProof.Rows.callWith_type1 (thn (ha.run pos pins s σ H _ I h) fun us s1 ⟨vs, H1, I1, r1, q1⟩ => ?_) hs hpl
  obtain ⟨a, b, xs, ys, evs, qa, qb, q⟩ := q1
  subst evs
  obtain ⟨us1, ra, pa, _⟩ := I1.tuple qa
  obtain ⟨ws1, rb, pb, _⟩ := I1.list qb
  obtain ⟨o2, ho2, _⟩ := id pa
  cases r1 with
  | cons r rr =>
  cases rr with
  | cons r' rr =>
  cases rr
  cases r
  cases r'
  refine call_zn pa pb.isList fun h' Z PI PO Ia Ib up => wpAny_pyIter_zip Z ?_
  have I2 : Inv X pins σ H1 { s1 with heap := h' } := I1.kept (t' := s1.toks) up
  have le : ∀ c, c ∈ [s1.heap.objs.size + 4, s1.heap.objs.size + 2, s1.heap.objs.size + 3, s1.heap.objs.size, s1.heap.objs.size + 1] → s1.heap.objs.size ≤ c := fun c hcm => by
    rcases five hcm with e | e | e | e | e
    · rw [e]; exact Nat.le_add_right _ _
    · rw [e]; exact Nat.le_add_right _ _
    · rw [e]; exact Nat.le_add_right _ _
    · rw [e]; exact Nat.le_refl _
    · rw [e]; exact Nat.le_add_right _ _
  exact ⟨s1.heap.objs.size + 4, [s1.heap.objs.size + 4, s1.heap.objs.size + 2, s1.heap.objs.size + 3, s1.heap.objs.size, s1.heap.objs.size + 1], _, _, H1, rfl, I2, turn_zn (PySem.W.ktu_apart s1.heap.objs.size a b (Heap.lt_size ho2) pb.lt), ⟨Z, PI, ⟨_, _, PO⟩, Ia, Ib⟩, fun c hcm => I1.fpOk (le c hcm) (I1.hok.fresh (le c hcm)), q⟩
section
variable [Tb]
theorem walk_zn {K : PySem.W.Frag} {a b : Addr} {xs ys : List V} {n : Nat} (hn : n = min xs.length ys.length) : Walk (ItzN K a b) n (fun H => SqT K H a xs ∧ SqL K H b ys) (YPair (fun i => xs[i]?) (fun i => ys[i]?)) := by
  subst hn
  exact ⟨fun i H hi g => ⟨xs, ys, xs[i]'(by omega), ys[i]'(by omega), g.1, g.2, List.getElem?_eq_getElem (by omega), List.getElem?_eq_getElem (by omega)⟩, fun H g => ⟨xs, ys, g.1, g.2, by omega⟩,
    fun i H v H' hi g ⟨T, x, y', e1, e2, e3, e4, e5⟩ => ⟨T, x, y', e1, e2, e3, e4 xs g.1, e5 ys g.2⟩⟩
variable {X : Cx} {W : WX} {tg a b e : Expr} {Fa Fb : DF} {pos p tpos : Pos} {elts : List Expr} {kk : Nat}
/-- zip of a tuple with a list -/
def iZipTL (Fa Fb : DF) : DFA := fun s P ex => Fa s (fun d s1 => Fb s1 (fun e s2 => match d, e with
  | .tup xs, .lst ys => P (zipD xs ys) s2
  | _, _ => False) ex) ex
theorem i_zipTL (hm : X.mg "zip" = none) (ha : DPE X W a Fa) (hb : DPE X W b Fb) (hg : Gl X "zip" := by rfl) (hs : starEach [a, b] X.env = (false, eval a X.env) :: starEach [b] X.env := by rfl) (hs2 : starEach [b] X.env = (false, eval b X.env) :: starEach [] X.env := by rfl) (hpl : (backTo pos (starEach [b] X.env)).any (·.1) = false := by rfl) :
    DPI X W (.Tuple elts kk tpos) (.Call (.Name "zip" p) [a, b] [] pos) (iZipTL Fa Fb) := by
  refine ⟨pi_mono (fun σ H R ⟨q, L, H0, B0, s, B, P, ex, t, f, rt, x⟩ => ⟨q, L, H0, B0, s, B, _, ex, t, f, fun v H1 d s1 B1 t1 l1 r1 p1 => ⟨q, L, H0, B0, s1, B1, _, ex, t1, p1, fun v2 H2 d2 s2 B2 t2 l2 r2 p2 => ?_, x.le l1⟩, x⟩) (pi_zipN hg hm (pa_cons ha.pe (pa_cons hb.pe pa_nil hs2) hs) hs hpl)⟩
  dsimp only at p2
  split at p2
  · rename_i xs ys
    obtain ⟨u, us, rfl, h1, g1⟩ := rep_tup (r1.mono l2)
    obtain ⟨w, ws, rfl, h2, g2⟩ := rep_lst r2
    refine ⟨u, w, us, ws, rfl, t2.bs.leH.sqT h1, SqL.of (t2.bs.leH _ _ h2), rt _ _ _ _ _ t2 (l1.trans l2) ?_ p2⟩
    exact ⟨_, _, walk_zn (xs := us) (ys := ws) (by rw [zipD_len, repL_len g1, repL_len g2]), fun H B' k1 k2 => ⟨(k1.trans k2).sqT h1, SqL.of ((k1.trans k2) _ _ h2)⟩, yields_pair (fun i x _ e => repL_gets g1 e) (fun i y _ e => repL_gets g2 e)⟩
  · exact p2.elim
end
end DL


set_option Elab.async false
set_option linter.all false
set_option maxRecDepth 100000
set_option maxHeartbeats 4000000
namespace Law
open PySem L2 DL
variable [Tb]
section
variable {T n : Nat} {ts : List SdT} {E : DE} {v6 v7 v8 v9 : OS}
/-! _law_ch_raw -/
theorem okW {w : Str} (h : PyData.strOk w = true) : okD (.str w) = true := okD_of (n := 9) (by unfold okN; exact h)
theorem okSlide : okD (.str "slide") = true := okW (by decide +kernel)
theorem okPut : okD (.str "put") = true := okW (by decide +kernel)
theorem okFold : okD (.str "fold") = true := okW (by decide +kernel)
theorem okTurn : okD (.str "turn") = true := okW (by decide +kernel)
theorem okSwap : okD (.str "swap") = true := okW (by decide +kernel)
def cwD : Option (Nat × List SdT) → D
  | none => .non
  | some (k, us) => .tup [.int (k : Nat), .lst (us.map sdD)]
def ChOk : ChT → Prop
  | .put _ f s => f.natAbs ≤ 999 ∧ s.natAbs ≤ 999
  | _ => True
def chGood (ts : List SdT) : ChT → Prop
  | .slide e o => (e.2 = 0 ∨ e.2 = 1) ∧ (o.2 = 0 ∨ o.2 = 1) ∧ e.1 < ts.length ∧ o.1 < ts.length
  | _ => True
def G_cw0 : DG := (gRet (dC .non))
def G_cwS : DG := (gSeq (gSet 8 (dIxV 1 (dVar 4))) (gSeq (gSetO 6 (dListO (dVar 1))) (gSeq (gPutN 6 (dOp dAdd (dSl (dVar 8) (oAt (dC (.int 2))) oNo) (dSl (dVar 8) oNo (oAt (dC (.int 2))))) (dVar 4)) (gRet (dTup (aCons (dVar 0) (aCons (dVar 6) aNil)))))))
def G_cw1 : DG := (gSeq (gIf (tAndD (dTest (dOp dEq (dVar 3) (dC (.str "swap")))) (dTest (dOp (dCmpI fun i j => decide (i < j)) (dVar 4) (dVar 5)))) G_cwS gNil)
    G_cw0)
def F_cw2a : DF := (dLc [8] (iSeq (dVar 1)) (tgN 8) tAll (dTup (aCons (dOp dSub (dC (.int 1)) (dOp dMul (dC (.int 2)) (dCB cInt (aCons (dOp dEq (dIxV 8 (dC (.int 0))) (dVar 4)) aNil)))) (aCons (dOp dSub (dC (.int 1)) (dOp dMul (dC (.int 2)) (dCB cInt (aCons (dOp dEq (dIxV 8 (dC (.int 2))) (dVar 4)) aNil)))) aNil))))
def G_cwT1 : DG := (gSeq (gFor (iZipTL (dVar 1) (dVar 7)) (tgTup 2 (tgCons (tgN 8) (tgCons (tgN 9) tgNil))) (gApp 6 (dTup (aCons (dIxV 8 (dC (.int 0))) (aCons (dOp dMul (dIxV 8 (dC (.int 1))) (dIxV 9 (dC (.int 0)))) (aCons (dIxV 8 (dC (.int 2))) (aCons (dOp dMul (dIxV 8 (dC (.int 3))) (dIxV 9 (dC (.int 1)))) aNil))))))) (gRet (dTup (aCons (dVar 0) (aCons (dVar 6) aNil)))))
def G_cwT : DG := (gSeq (gSet 7 F_cw2a) (gSeq (gSetO 6 (dLst aNil)) G_cwT1))
def G_cw2 : DG := (gSeq (gIf (tAndD (dTest (dOp dEq (dVar 3) (dC (.str "turn")))) (dTest (dOp (dCmpI fun i j => decide (i < j)) (dVar 4) (dVar 0)))) G_cwT gNil)
    G_cw1)
def G_cw3 : DG := (gSeq (gIf (tAndD (dTest (dOp dEq (dVar 3) (dC (.str "fold")))) (tAndD (dTest (dOp (dCmpI fun i j => decide (i < j)) (dVar 4) (dVar 5))) (dTest (dOp dNotN (dCall S__law_ch_fold 2 (aCons (dVar 1) (aCons (dVar 4) aNil))) (dC .non))))) (gRet (dTup (aCons (dOp dSub (dVar 0) (dC (.int 1))) (aCons (dCall S__law_ch_folded 2 (aCons (dVar 1) (aCons (dVar 4) aNil))) aNil)))) gNil)
    G_cw2)
def G_cw4 : DG := (gSeq (gIf (dTest (dOp dNe (dCB cLen (aCons (dVar 2) aNil)) (dC (.int 2)))) (gRet (dC .non)) gNil)
    G_cw3)
def G_cw5 : DG := (gSeq (gIf (tAndD (dTest (dOp dEq (dVar 3) (dC (.str "put")))) (tAndD (dTest (dOp dEq (dCB cLen (aCons (dVar 2) aNil)) (dC (.int 4)))) (dTest (dOp (dCmpI fun i j => decide (i < j)) (dVar 4) (dVar 0))))) (gSeq (gIf (tOrD (tNotD (dTest (dCall S__law_is_whole 1 (aCons (dIxV 2 (dC (.int 3))) aNil)))) (dTest (dOp dNe (dCB cAbs (aCons (dIxV 2 (dC (.int 3))) aNil)) (dC (.int 1))))) (gRet (dC .non)) gNil) (gRet (dTup (aCons (dOp dAdd (dVar 0) (dC (.int 1))) (aCons (dOp dAdd (dListO (dVar 1)) (dLst (aCons (dTup (aCons (dVar 4) (aCons (dIxV 2 (dC (.int 2))) (aCons (dVar 0) (aCons (dIxV 2 (dC (.int 3))) aNil))))) aNil))) aNil))))) gNil)
    G_cw4)
def G_cw6 : DG := (gSeq (gIf (tOrD (tNotD (dTest (dCall S__law_is_whole 1 (aCons (dVar 4) aNil)))) (dTest (dOp (dCmpI fun i j => decide (i < j)) (dVar 4) (dC (.int 0))))) (gRet (dC .non)) gNil)
    G_cw5)
def cwS (n : Nat) (ts : List SdT) (c : D) (w x : D) (v6 v7 v8 v9 : OS) (T : Nat) : DS := ⟨[some (.fz (.int (n : Nat))), some (.fz (.tup (ts.map sdD))), some (.fz c), some (.fz w), some (.fz x), some (.fz (.int (ts.length : Nat))), v6, v7, v8, v9], T⟩
theorem eqv_str (a b : Str) : PyData.eqv (py (.str a)) (py (.str b)) = (a == b) := rfl
theorem cw3 {w : Str} {c x : D} (ow : okD (.str w) = true) (hw : (w == ("fold" : Str)) = false) (h : G_cw2 E (cwS n ts c (.str w) x v6 v7 v8 v9 T)) : G_cw3 E (cwS n ts c (.str w) x v6 v7 v8 v9 T) := by
  refine ⟨ow, okFold, ?_⟩
  show (if PyData.eqv (py (.str w)) (py (.str "fold")) = true then _ else _)
  rw [eqv_str, hw]
  exact iteF h
theorem cw2 {w : Str} {c x : D} (ow : okD (.str w) = true) (hw : (w == ("turn" : Str)) = false) (h : G_cw1 E (cwS n ts c (.str w) x v6 v7 v8 v9 T)) : G_cw2 E (cwS n ts c (.str w) x v6 v7 v8 v9 T) := by
  refine ⟨ow, okTurn, ?_⟩
  show (if PyData.eqv (py (.str w)) (py (.str "turn")) = true then _ else _)
  rw [eqv_str, hw]
  exact iteF h
theorem cw1 {w : Str} {c x : D} (ow : okD (.str w) = true) (hw : (w == ("swap" : Str)) = false) (h : E.rt (.fz .non) T) : G_cw1 E (cwS n ts c (.str w) x v6 v7 v8 v9 T) := by
  refine ⟨ow, okSwap, ?_⟩
  show (if PyData.eqv (py (.str w)) (py (.str "swap")) = true then _ else _)
  rw [eqv_str, hw]
  exact iteF h
theorem if_lt {a b : Nat} {A B : Prop} (h1 : a < b → A) (h2 : ¬ a < b → B) : if decide ((a : Int) < (b : Int)) = true then A else B := by
  by_cases c : a < b
  · rw [decide_eq_true (show (a : Int) < (b : Int) by omega)]
    exact iteT (h1 c)
  · rw [decide_eq_false (show ¬ (a : Int) < (b : Int) by omega)]
    exact iteF (h2 c)
theorem raw_swap {i : Nat} {t : SdT} (h : ts[i]? = some t) : rawT n ts (.swap i) = some (n, ts.set i (swT t)) := by simp only [rawT, h]
theorem raw_swap0 {i : Nat} (h : ts[i]? = none) : rawT n ts (.swap i) = none := by simp only [rawT, h]
theorem raw_fold {i : Nat} {t : SdT} (h : ts[i]? = some t) : rawT n ts (.fold i) = (foT t).map fun z => (n - 1, (ts.eraseIdx i).map (fdT z.1 z.2.1 z.2.2)) := by simp only [rawT, h]
theorem raw_fold0 {i : Nat} (h : ts[i]? = none) : rawT n ts (.fold i) = none := by simp only [rawT, h]
theorem cw_swap {i : Nat} (k : E.rt (.fz (cwD (rawT n ts (.swap i)))) T) : G_cw1 E (cwS n ts (chgD (.swap i)) (.str "swap") (.int (i : Nat)) v6 v7 v8 v9 T) := by
  refine ⟨okSwap, okSwap, ?_⟩
  show (if PyData.eqv (py (.str "swap")) (py (.str "swap")) = true then _ else _)
  rw [eqv_str, show (("swap" : Str) == ("swap" : Str)) = true by decide +kernel]
  refine iteT (if_lt (fun h => ?_) fun h => ?_)
  · obtain ⟨t, ht⟩ : ∃ t, ts[i]? = some t := ⟨_, List.getElem?_eq_getElem h⟩
    rw [raw_swap ht] at k
    refine ⟨trivial, _, atI_nat (sd_at ht), (show 2 + 2 ≤ 100000 by decide), trivial, i, ixN_h (by rw [List.length_map]; exact h), (show 2 ≤ 100000 by decide), ?_⟩
    have e : (ts.map sdD).set i (sdD (swT t)) = (ts.set i (swT t)).map sdD := by rw [List.map_set]
    have k : E.rt (.fz (.tup [.int (n : Nat), .lst ((ts.set i (swT t)).map sdD)])) T := k
    rw [← e] at k
    exact k
  · rw [raw_swap0 (List.getElem?_eq_none (by omega))] at k
    exact k
/-! turn -/
theorem sg_int (b : Bool) : (1 : Int) - 2 * (if b = true then 1 else 0) = sgT b := by cases b <;> rfl
def sgD (r : Nat) (t : SdT) : D := .tup [.int (sgT (decide (t.1 = r))), .int (sgT (decide (t.2.2.1 = r)))]
theorem fw2a {c w : D} {r : Nat} {P : D → DS → Prop} {ex : XD} (hl : ts.length ≤ 1000) (k : P (.lst (ts.map (sgD r))) (cwS n ts c w (.int (r : Nat)) v6 v7 none v9 T)) : F_cw2a (cwS n ts c w (.int (r : Nat)) v6 v7 none v9 T) P ex := by
  refine dLc_inv (fun i acc s => acc = (ts.take i).map (sgD r) ∧ s = cwS n ts c w (.int (r : Nat)) v6 v7 none v9 T) (ts.map sdD) (fun Q hQ => ⟨_, rfl, hQ _ ⟨rfl, rfl⟩⟩) ?_ ?_
  · rintro i d acc s hi ⟨rfl, rfl⟩ Q hQ
    rw [List.getElem?_map] at hi
    obtain ⟨t, ht, rfl⟩ := Option.map_eq_some_iff.mp hi
    have big := big64
    refine ⟨trivial, .int (t.1 : Nat), rfl, okD_of (n := 1) rfl, okD_of (n := 1) rfl, .inl ⟨by omega, by omega⟩, trivial, .int (t.2.2.1 : Nat), rfl, okD_of (n := 1) rfl, okD_of (n := 1) rfl, .inl ⟨by omega, by omega⟩, (show 2 ≤ 100000 by decide), ?_⟩
    refine ⟨(show ((ts.take i).map (sgD r)).length < 100000 by rw [List.length_map, List.length_take]; omega), hQ _ _ ⟨?_, rfl⟩⟩
    rw [take_succ_get ht, List.map_append]
    show _ ++ [D.tup [.int ((1 : Int) - 2 * (if PyData.eqv (py (.int (t.1 : Int))) (py (.int (r : Int))) = true then 1 else 0)), .int ((1 : Int) - 2 * (if PyData.eqv (py (.int (t.2.2.1 : Int))) (py (.int (r : Int))) = true then 1 else 0))]] = _
    rw [eqv_int, eqv_int, sg_int, sg_int, decide_eq_decide.mpr (show ((t.1 : Int) = (r : Int)) ↔ t.1 = r by omega), decide_eq_decide.mpr (show ((t.2.2.1 : Int) = (r : Int)) ↔ t.2.2.1 = r by omega)]
    rfl
  · rintro acc s ⟨rfl, rfl⟩
    rw [List.length_map, List.take_length]
    exact k
theorem cw_turn {c w : D} {r : Nat} (ho : ∀ t ∈ ts, SdOk n t) (hl : ts.length ≤ 1000) (k : E.rt (.fz (.tup [.int (n : Nat), .lst ((ts.map (tuT r)).map sdD)])) T) : G_cwT E (cwS n ts c w (.int (r : Nat)) v6 v7 none v9 T) := by
  have go : G_cwT1 E ⟨[some (.fz (.int (n : Nat))), some (.fz (.tup (ts.map sdD))), some (.fz c), some (.fz w), some (.fz (.int (r : Nat))), some (.fz (.int (ts.length : Nat))), some (.ow (.lst [])), some (.fz (.lst (ts.map (sgD r)))), none, v9], T⟩ := by
    have zl : (zipD (ts.map sdD) (ts.map (sgD r))).length = ts.length := by rw [zipD_len, List.length_map, List.length_map, Nat.min_self]
    refine gFor_inv (fun i s => ∃ v8 v9, s = ⟨[some (.fz (.int (n : Nat))), some (.fz (.tup (ts.map sdD))), some (.fz c), some (.fz w), some (.fz (.int (r : Nat))), some (.fz (.int (ts.length : Nat))), some (.ow (.lst (((ts.take i).map (tuT r)).map sdD))), some (.fz (.lst (ts.map (sgD r)))), v8, v9], T⟩) (zipD (ts.map sdD) (ts.map (sgD r))) (fun Q hQ => hQ _ ⟨none, v9, by rw [List.take_zero]; rfl⟩) ?_ ?_
    · rintro i d s hi ⟨v8, v9, rfl⟩ R hR
      have il := get_lt hi
      rw [zl] at il
      have ht : ts[i]? = some ts[i] := List.getElem?_eq_getElem il
      generalize ts[i] = t at ht
      rw [zipD_get (x := sdD t) (y := sgD r t) (sd_at ht) (by rw [List.getElem?_map, ht]; rfl)] at hi
      cases hi
      have o := ho t (List.mem_of_getElem? ht)
      have x1 := o.x.2.1
      have x2 := o.x.2.2
      have y1 := o.y.2.1
      have y2 := o.y.2.2
      have big := big64
      have k2 := hR _ ⟨some (.fz (sdD t)), some (.fz (sgD r t)), rfl⟩
      rw [take_succ_get ht, List.map_append, List.map_append] at k2
      exact ⟨rfl, trivial, _, rfl, trivial, _, rfl, trivial, _, rfl, .inl ⟨by omega, by omega⟩, trivial, _, rfl, trivial, _, rfl, trivial, _, rfl, .inl ⟨by omega, by omega⟩, (show 4 ≤ 100000 by decide), (show (((ts.take i).map (tuT r)).map sdD).length < 100000 by rw [List.length_map, List.length_map, List.length_take]; omega), k2⟩
    · rintro s ⟨v8, v9, rfl⟩
      rw [zl, List.take_length]
      exact ⟨(show 2 ≤ 100000 by decide), k⟩
  have key : F_cw2a (cwS n ts c w (.int (r : Nat)) v6 v7 none v9 T) (fun d s1 => (gSeq (gSetO 6 (dLst aNil)) G_cwT1) E (s1.put 7 (.fz d))) E.ex := fw2a (T := T) hl ⟨Nat.zero_le _, go⟩
  exact key
end
end Law


set_option Elab.async false
set_option linter.all false
set_option maxRecDepth 100000
set_option maxHeartbeats 4000000
namespace Law
open PySem L2 DL
variable [Tb]
section
variable {T n : Nat} {ts : List SdT} {E : DE} {v6 v7 v8 v9 : OS}
theorem cw_fold {i : Nat} (ho : ∀ t ∈ ts, SdOk n t) (hl : ts.length ≤ 1000) (hn : 1 ≤ n) (k : E.rt (.fz (cwD (rawT n ts (.fold i)))) T) : G_cw3 E (cwS n ts (chgD (.fold i)) (.str "fold") (.int (i : Nat)) none none none none T) := by
  refine ⟨okFold, okFold, ?_⟩
  show (if PyData.eqv (py (.str "fold")) (py (.str "fold")) = true then _ else _)
  rw [eqv_str, show (("fold" : Str) == ("fold" : Str)) = true by decide +kernel]
  have no : rawT n ts (.fold i) = none → G_cw2 E (cwS n ts (chgD (.fold i)) (.str "fold") (.int (i : Nat)) none none none none T) := fun e => by
    rw [e] at k
    exact cw2 okFold (by decide +kernel) (cw1 okFold (by decide +kernel) k)
  refine iteT (if_lt (fun h => ?_) fun h => no (raw_fold0 (List.getElem?_eq_none (by omega))))
  obtain ⟨t, ht⟩ : ∃ t, ts[i]? = some t := ⟨_, List.getElem?_eq_getElem h⟩
  rw [raw_fold ht] at k no
  refine ⟨rfl, n, i, ts, t, rfl, ho, ht, ?_⟩
  cases hf : foT t with
  | none => exact no (by rw [hf]; rfl)
  | some z =>
    obtain ⟨g, kk, m⟩ := z
    rw [hf] at k
    have k : E.rt (.fz (.tup [.int ((n - 1 : Nat) : Int), .lst (((ts.eraseIdx i).map (fdT g kk m)).map sdD)])) T := k
    rw [show ((n - 1 : Nat) : Int) = (n : Int) - 1 by omega] at k
    exact ⟨rfl, n, i, g, kk, m, ts, t, rfl, ho, hl, ht, hf, (show 2 ≤ 100000 by decide), k⟩
end
end Law


set_option Elab.async false
set_option linter.all false
set_option maxRecDepth 100000
set_option maxHeartbeats 4000000
namespace Law
open PySem L2 DL
variable [Tb]
section
variable {T n : Nat} {ts : List SdT} {E : DE}
/-! _law_ch_behind -/
def szB (x : Int) : Bool := decide (0 < x.natAbs) && decide (x.natAbs < 1000)
def sdB (k : Nat) (t : SdT) : Bool := decide (t.1 < k) && decide (t.2.2.1 < k) && szB t.2.1 && szB t.2.2.2
theorem szB_iff {x : Int} : szB x = true ↔ sizeOk x := by
  unfold szB sizeOk
  rw [Bool.and_eq_true, decide_eq_true_iff, decide_eq_true_iff]
  omega
theorem sdB_iff {k : Nat} {t : SdT} : sdB k t = true ↔ SdOk k t := by
  unfold sdB
  rw [Bool.and_eq_true, Bool.and_eq_true, Bool.and_eq_true, decide_eq_true_iff, decide_eq_true_iff, szB_iff, szB_iff]
  exact ⟨fun h => ⟨h.1.1.1, h.1.1.2, h.1.2, h.2⟩, fun h => ⟨⟨⟨h.a, h.b⟩, h.x⟩, h.y⟩⟩
def plOk (z : Nat × List SdT) : Bool := decide (z.1 ≤ 12) && decide (z.2.length ≤ 20) && z.2.all (sdB z.1)
def behT (n : Nat) (ts : List SdT) (c : ChT) : Option (Nat × List SdT) := (rawT n ts c).filter plOk
def plD : Option (Nat × List SdT) → D
  | none => .non
  | some (k, us) => .tup [.int (k : Nat), .tup (us.map sdD)]
def G_cb1 : DG := (gRet (dTup (aCons (dIxV 3 (dC (.int 0))) (aCons (dCB cTuple (aCons (dIxV 3 (dC (.int 1))) aNil)) aNil))))
theorem ones20 : ∀ m : Nat, m < 21 → okD (.lst (List.replicate m (.int 1))) = true := by decide +kernel
end
end Law


set_option Elab.async false
set_option linter.all false
set_option maxRecDepth 100000
set_option maxHeartbeats 4000000
namespace Law
open PySem L2 DL
variable [Tb]
section
variable {T n : Nat} {ts : List SdT} {E : DE}
/-! _law_ch_slides -/
def SlIn (ts : List SdT) (c : ChT) : Prop := ∃ e o, c = .slide e o ∧ chGood ts c ∧ slT ts e o ≠ none
def S__law_ch_slides : PF := fun ds T post _ => ∃ (n : Nat) (ts : List SdT), ds = [.tup (ts.map sdD)] ∧ (∀ t ∈ ts, SdOk n t) ∧ ts.length ≤ 20 ∧ ∀ L : List ChT, L.length ≤ 1600 → (∀ c ∈ L, SlIn ts c) → post (.fz (.lst (L.map chgD))) T
def G_cs1 : DG := (gIf (dTest (dOp dNotN (dCall S__law_ch_slid 3 (aCons (dVar 0) (aCons (dVar 2) (aCons (dVar 3) aNil)))) (dC .non))) (gApp 1 (dTup (aCons (dC (.str "slide")) (aCons (dVar 2) (aCons (dVar 3) aNil))))) gNil)
def G_cs2 : DG := (gFor (iSeq (dCall S__law_sides 1 (aCons (dCB cLen (aCons (dVar 0) aNil)) aNil))) (tgN 3) G_cs1)
def G__law_ch_slides : DG := (gSeq (gSetO 1 (dLst aNil))
    (gSeq (gFor (iSeq (dCall S__law_sides 1 (aCons (dCB cLen (aCons (dVar 0) aNil)) aNil))) (tgN 2) G_cs2)
    (gRet (dVar 1))))
theorem m__law_ch_slides : ∀ (ds : List D) T post ex, ds.length = 1 → S__law_ch_slides ds T post ex → G__law_ch_slides (endsOf post ex) (startD 4 ds T) := by
  rintro ds T post ex _ ⟨n, ts, rfl, ho, hl, k⟩
  have sl : (sides (ts.map sdD).length).length = 2 * ts.length := by rw [sides_len, List.length_map]
  let st : List ChT → OS → OS → DS := fun L v2 v3 => ⟨[some (.fz (.tup (ts.map sdD))), some (.ow (.lst (L.map chgD))), v2, v3], T⟩
  refine ⟨Nat.zero_le _, ?_⟩
  show gFor (iSeq (dCall S__law_sides 1 (aCons (dCB cLen (aCons (dVar 0) aNil)) aNil))) (tgN 2) G_cs2 { endsOf post ex with nx := gRet (dVar 1) (endsOf post ex) } (st [] none none)
  refine gFor_inv (fun i s => ∃ L v2 v3, s = st L v2 v3 ∧ L.length ≤ i * (2 * ts.length) ∧ ∀ c ∈ L, SlIn ts c) (sides (ts.map sdD).length) (fun Q hQ => ⟨rfl, (ts.map sdD).length, rfl, by rw [List.length_map]; omega, _, rfl, hQ _ ⟨[], none, none, rfl, Nat.zero_le _, fun c h => nomatch h⟩⟩) ?_ ?_
  · rintro i d s hi ⟨L, v2, v3, rfl, h1, h2⟩ R hR
    have il := get_lt hi
    rw [sl] at il
    obtain ⟨a, b, ha, hb, rfl⟩ := mem_sides (get_mem hi)
    rw [List.length_map] at ha
    show G_cs2 _ (st L (some (.fz (stD (a, b)))) v3)
    unfold G_cs2
    refine gFor_inv (fun j s => ∃ L v3, s = st L (some (.fz (stD (a, b)))) v3 ∧ L.length ≤ i * (2 * ts.length) + j ∧ ∀ c ∈ L, SlIn ts c) (sides (ts.map sdD).length) (fun Q hQ => ⟨rfl, (ts.map sdD).length, rfl, by rw [List.length_map]; omega, _, rfl, hQ _ ⟨L, v3, rfl, h1, h2⟩⟩) ?_ ?_
    · rintro j d s hj ⟨L, v3, rfl, h1, h2⟩ R2 hR2
      have jl := get_lt hj
      rw [sl] at jl
      obtain ⟨a2, b2, ha2, hb2, rfl⟩ := mem_sides (get_mem hj)
      rw [List.length_map] at ha2
      have cap : i * (2 * ts.length) + j < 1600 := by
        have : i * (2 * ts.length) ≤ 39 * 40 := Nat.mul_le_mul (by omega) (by omega)
        omega
      refine ⟨rfl, n, ts, (a, b), (a2, b2), rfl, ho, by omega, ha, ha2, ?_⟩
      cases hs : slT ts (a, b) (a2, b2) with
      | none => exact hR2 _ ⟨L, _, rfl, by omega, h2⟩
      | some us =>
        refine ⟨(show 3 ≤ 100000 by decide), (show (L.map chgD).length < 100000 by rw [List.length_map]; omega), hR2 _ ⟨L ++ [.slide (a, b) (a2, b2)], some (.fz (stD (a2, b2))), ?_, by rw [List.length_append]; show _ + 1 ≤ _; omega, fun c hc => ?_⟩⟩
        · show _ = DS.mk [_, some (.ow (.lst ((L ++ [ChT.slide (a, b) (a2, b2)]).map chgD))), _, _] _
          rw [List.map_append]
          rfl
        · rcases List.mem_append.mp hc with h | h
          · exact h2 c h
          · rw [List.mem_singleton.mp h]
            exact ⟨_, _, rfl, ⟨hb, hb2, ha, ha2⟩, by rw [hs]; exact fun z => nomatch z⟩
    · rintro s ⟨L, v3, rfl, h1, h2⟩
      exact hR _ ⟨L, _, _, rfl, by rw [sl] at h1; rw [Nat.add_mul, Nat.one_mul]; exact h1, h2⟩
  · rintro s ⟨L, v2, v3, rfl, h1, h2⟩
    refine k L ?_ h2
    rw [sl] at h1
    exact Nat.le_trans h1 (Nat.mul_le_mul (by omega : 2 * ts.length ≤ 40) (by omega : 2 * ts.length ≤ 40))
end
end Law


set_option Elab.async false
set_option linter.all false
set_option maxRecDepth 100000
set_option maxHeartbeats 4000000
namespace Law
open PySem L2 DL
variable [Tb]
section
variable {T n : Nat} {ts : List SdT} {E : DE}
/-! _law_ch_change -/
theorem ok_chgD (c : ChT) : okN 8 (chgD c) = true := by
  cases c with
  | fold i => exact (by decide +kernel : okN 8 (chgD (.fold 0)) = true)
  | slide e o => exact (by decide +kernel : okN 8 (chgD (.slide (0, 0) (0, 0))) = true)
  | turn r => exact (by decide +kernel : okN 8 (chgD (.turn 0)) = true)
  | put r f s => exact (by decide +kernel : okN 8 (chgD (.put 0 0 0)) = true)
  | swap i => exact (by decide +kernel : okN 8 (chgD (.swap 0)) = true)
theorem ok_chgs (L : List ChT) : okD (.lst (L.map chgD)) = true := okD_of (n := 9) (by
  unfold okN
  refine okNs_iff.mpr fun d hd => ?_
  obtain ⟨q, _, rfl⟩ := List.mem_map.mp hd
  exact ok_chgD q)
theorem tu_ok {k r : Nat} {t : SdT} (o : SdOk k t) : SdOk k (tuT r t) := by
  have sz : ∀ (x : Int) (b : Bool), sizeOk x → sizeOk (x * sgT b) := fun x b h => by
    unfold sizeOk at h ⊢
    cases b <;> unfold sgT <;> simp <;> omega
  exact ⟨o.a, o.b, sz _ _ o.x, sz _ _ o.y⟩
theorem beh_turn {r : Nat} (ho : ∀ t ∈ ts, SdOk n t) (hl : ts.length ≤ 20) (n2 : n ≤ 12) (hr : r < n) : behT n ts (.turn r) = some (n, ts.map (tuT r)) := by
  have e1 : rawT n ts (.turn r) = if r < n then some (n, ts.map (tuT r)) else none := rfl
  unfold behT
  rw [e1, if_pos hr, Option.filter_some]
  have p : plOk (n, ts.map (tuT r)) = true := by
    unfold plOk
    rw [Bool.and_eq_true, Bool.and_eq_true, decide_eq_true_iff, decide_eq_true_iff, List.length_map, List.all_eq_true]
    refine ⟨⟨n2, hl⟩, fun t ht => ?_⟩
    obtain ⟨t, h, rfl⟩ := List.mem_map.mp ht
    exact sdB_iff.mpr (tu_ok (ho t h))
  rw [p]
  rfl
def ChIn (n : Nat) (ts : List SdT) (c : ChT) : Prop := chGood ts c ∧ ChOk c ∧ behT n ts c ≠ none
def S__law_ch_change : PF := fun ds T post _ => ∃ (n : Nat) (ts : List SdT), ds = [.st, .int n, .tup (ts.map sdD)] ∧ (∀ t ∈ ts, SdOk n t) ∧ ts.length ≤ 20 ∧ 1 ≤ n ∧ n ≤ 12 ∧ T + 8 ≤ TM ∧ ∀ c T', T ≤ T' → T' ≤ T + 8 → ChIn n ts c → post (.fz (chgD c)) T'
def G_cc0 : DG := (gRet (dIfE (dTest (dOp dNe (dVar 4) (dLst aNil))) (dCall S__law_pick 2 (aCons (dVar 0) (aCons (dVar 4) aNil))) (dTup (aCons (dC (.str "turn")) (aCons (dCall S__law_draw 2 (aCons (dVar 0) (aCons (dVar 1) aNil))) aNil)))))
def F_cc6 : DF := (dLc [6] (iRng1D (dCB cLen (aCons (dVar 2) aNil))) (tgN 6) (dTest (dOp dNotN (dCall S__law_ch_fold 2 (aCons (dVar 2) (aCons (dVar 6) aNil))) (dC .non))) (dTup (aCons (dC (.str "fold")) (aCons (dVar 6) aNil))))
def F_cc7 : DF := (dLc [6] (iRng1D (dCB cLen (aCons (dVar 2) aNil))) (tgN 6) tAll (dTup (aCons (dC (.str "swap")) (aCons (dVar 6) aNil))))
def G_cc8 : DG := (gSeq (gSet 5 (dCall S__law_pick 2 (aCons (dVar 0) (aCons (dLst (aCons (dC (.int 1)) (aCons (dC (.int 2)) (aCons (dNeg (dC (.int 3))) (aCons (dC (.int 5)) (aCons (dNeg (dC (.int 1))) (aCons (dC (.int 4)) (aCons (dC (.int 999)) aNil)))))))) aNil))))
    (gSet 4 (dLst (aCons (dTup (aCons (dC (.str "put")) (aCons (dCall S__law_draw 2 (aCons (dVar 0) (aCons (dVar 1) aNil))) (aCons (dVar 5) (aCons (dCall S__law_pick 2 (aCons (dVar 0) (aCons (dLst (aCons (dC (.int 1)) (aCons (dNeg (dC (.int 1))) aNil))) aNil))) aNil))))) aNil))))
def G_cc9 : DG := (gIf (dTest (dOp (dCmpI fun i j => decide (i < j)) (dVar 3) (dC (.int 2)))) (gSet 4 F_cc6) (gIf (dTest (dOp (dCmpI fun i j => decide (i < j)) (dVar 3) (dC (.int 4)))) (gSet 4 (dCall S__law_ch_slides 1 (aCons (dVar 2) aNil))) (gIf (dTest (dOp dEq (dVar 3) (dC (.int 4)))) (gSet 4 F_cc7) (gIf (dTest (dOp dEq (dVar 3) (dC (.int 5)))) G_cc8 gNil))))
def ccS (n : Nat) (ts : List SdT) (w : D) (L : List ChT) (v5 v6 v7 : OS) (T : Nat) : DS := ⟨[some (.fz .st), some (.fz (.int (n : Nat))), some (.fz (.tup (ts.map sdD))), some (.fz w), some (.fz (.lst (L.map chgD))), v5, v6, v7], T⟩
theorem cc0 {w : D} {v5 v6 v7 : OS} {L : List ChT} (ho : ∀ t ∈ ts, SdOk n t) (hl : ts.length ≤ 20) (n1 : 1 ≤ n) (n2 : n ≤ 12) (hT : T + 1 ≤ TM) (lL : L.length ≤ 1600) (hL : ∀ c ∈ L, ChIn n ts c) (k : ∀ c, ChIn n ts c → E.rt (.fz (chgD c)) (T + 1)) : G_cc0 E (ccS n ts w L v5 v6 v7 T) := by
  refine ⟨Nat.zero_le _, ok_chgs L, rfl, ?_⟩
  show (if (!PyData.eqv (py (.lst (L.map chgD))) (py (.lst []))) = true then _ else _)
  rw [eqv_nil]
  cases L with
  | nil =>
    refine iteF ⟨rfl, (n : Int), rfl, by omega, by omega, (show T < TM by omega), fun r r0 r1 => ?_⟩
    obtain ⟨r, rfl⟩ := Int.eq_ofNat_of_zero_le r0
    exact ⟨(show 2 ≤ 100000 by decide), k (.turn r) ⟨trivial, trivial, by rw [beh_turn ho hl n2 (by omega)]; exact fun z => nomatch z⟩⟩
  | cons c L =>
    refine iteT ⟨rfl, _, (c :: L).map chgD, rfl, .inl rfl, Nat.succ_pos _, (show ((c :: L).map chgD).length ≤ 100000 by rw [List.length_map]; omega), (show T < TM by omega), fun x hx => ?_⟩
    obtain ⟨c', hc, rfl⟩ := List.mem_map.mp hx
    exact k c' (hL c' hc)
theorem cc6 {w : D} {v5 v7 : OS} {L0 : List ChT} {P : D → DS → Prop} {ex : XD} (ho : ∀ t ∈ ts, SdOk n t) (hl : ts.length ≤ 20) (k : ∀ L : List ChT, L.length ≤ 1600 → (∀ c ∈ L, chGood ts c ∧ ChOk c) → P (.lst (L.map chgD)) (ccS n ts w L0 v5 none v7 T)) : F_cc6 (ccS n ts w L0 v5 none v7 T) P ex := by
  refine dLc_inv (fun i acc s => (∃ L : List ChT, acc = L.map chgD ∧ L.length ≤ i ∧ ∀ c ∈ L, chGood ts c ∧ ChOk c) ∧ s = ccS n ts w L0 v5 none v7 T) (rangeD 0 ts.length) (fun Q hQ => ?_) ?_ ?_
  · have h := hQ (ccS n ts w L0 v5 none v7 T) ⟨⟨[], rfl, Nat.le_refl 0, fun c h => nomatch h⟩, rfl⟩
    rw [← List.length_map (f := sdD) (as := ts)] at h
    exact ⟨by rw [List.length_map]; omega, by omega, h⟩
  · rintro i d acc s hi ⟨⟨L, rfl, h1, h2⟩, rfl⟩ Q hQ
    obtain ⟨rfl, hi2⟩ := rangeD_get hi
    rw [Int.zero_add]
    obtain ⟨t, ht⟩ : ∃ t, ts[i]? = some t := ⟨_, List.getElem?_eq_getElem hi2⟩
    refine ⟨rfl, n, i, ts, t, rfl, ho, ht, ?_⟩
    cases hf : foT t with
    | none => exact hQ _ _ ⟨⟨L, rfl, by omega, h2⟩, rfl⟩
    | some z =>
      refine ⟨(show 2 ≤ 100000 by decide), (show (L.map chgD).length < 100000 by rw [List.length_map]; omega), hQ _ _ ⟨⟨L ++ [.fold i], by rw [List.map_append]; rfl, by rw [List.length_append]; show _ + 1 ≤ _; omega, fun c hc => ?_⟩, rfl⟩⟩
      rcases List.mem_append.mp hc with h | h
      · exact h2 c h
      · rw [List.mem_singleton.mp h]
        exact ⟨trivial, trivial⟩
  · rintro acc s ⟨⟨L, rfl, h1, h2⟩, rfl⟩
    rw [rangeD_len] at h1
    exact k L (by omega) h2
theorem cc7 {w : D} {v5 v7 : OS} {L0 : List ChT} {P : D → DS → Prop} {ex : XD} (hl : ts.length ≤ 20) (k : ∀ L : List ChT, L.length ≤ 1600 → (∀ c ∈ L, chGood ts c ∧ ChOk c) → P (.lst (L.map chgD)) (ccS n ts w L0 v5 none v7 T)) : F_cc7 (ccS n ts w L0 v5 none v7 T) P ex := by
  refine dLc_inv (fun i acc s => (∃ L : List ChT, acc = L.map chgD ∧ L.length ≤ i ∧ ∀ c ∈ L, chGood ts c ∧ ChOk c) ∧ s = ccS n ts w L0 v5 none v7 T) (rangeD 0 ts.length) (fun Q hQ => ?_) ?_ ?_
  · have h := hQ (ccS n ts w L0 v5 none v7 T) ⟨⟨[], rfl, Nat.le_refl 0, fun c h => nomatch h⟩, rfl⟩
    rw [← List.length_map (f := sdD) (as := ts)] at h
    exact ⟨by rw [List.length_map]; omega, by omega, h⟩
  · rintro i d acc s hi ⟨⟨L, rfl, h1, h2⟩, rfl⟩ Q hQ
    obtain ⟨rfl, hi2⟩ := rangeD_get hi
    rw [Int.zero_add]
    refine ⟨(show 2 ≤ 100000 by decide), (show (L.map chgD).length < 100000 by rw [List.length_map]; omega), hQ _ _ ⟨⟨L ++ [.swap i], by rw [List.map_append]; rfl, by rw [List.length_append]; show _ + 1 ≤ _; omega, fun c hc => ?_⟩, rfl⟩⟩
    rcases List.mem_append.mp hc with h | h
    · exact h2 c h
    · rw [List.mem_singleton.mp h]
      exact ⟨trivial, trivial⟩
  · rintro acc s ⟨⟨L, rfl, h1, h2⟩, rfl⟩
    rw [rangeD_len] at h1
    exact k L (by omega) h2
end
end Law


set_option Elab.async false
set_option linter.all false
set_option maxRecDepth 100000
set_option maxHeartbeats 1000000
namespace Law
open PySem L2 DL
variable [Tb]
/-! ### what a change leads to hangs together -/
def enS (t : SdT) : Nat × Nat := (t.1, t.2.2.1)
theorem ends_sd (ts : List SdT) : (ts.map sdD).map endsD = ts.map enS := by
  rw [List.map_map]
  refine List.map_congr_left fun t _ => ?_
  show ((intOf (.int (t.1 : Nat)) : Nat), intOf (.int (t.2.2.1 : Nat))) = (t.1, t.2.2.1)
  rfl
/-- told without a way -/
def ConS (n : Nat) (ts : List SdT) : Prop := ∀ P : Nat → Prop, (∀ t ∈ ts, (P t.1 ↔ P t.2.2.1)) → ∀ i, i < n → (P i ↔ P 0)
theorem con_iff {n : Nat} {ts : List SdT} : ConS n ts ↔ ∀ i, i < n → Reach ((ts.map sdD).map endsD) i := by
  rw [ends_sd]
  constructor
  · intro h i hi
    refine (h (fun r => Reach (ts.map enS) r) (fun t ht => ?_) i hi).mpr .zero
    have m : (t.1, t.2.2.1) ∈ ts.map enS := List.mem_map.mpr ⟨t, ht, rfl⟩
    exact ⟨fun r => .fwd m r, fun r => .bwd m r⟩
  · intro h P hP i hi
    have key : ∀ {j : Nat}, Reach (ts.map enS) j → (P j ↔ P 0) := fun {j} r => by
      induction r with
      | zero => exact Iff.rfl
      | fwd m _ ih =>
        obtain ⟨t, ht, e⟩ := List.mem_map.mp m
        injection e with e1 e2
        subst e1
        subst e2
        exact (hP t ht).symm.trans ih
      | bwd m _ ih =>
        obtain ⟨t, ht, e⟩ := List.mem_map.mp m
        injection e with e1 e2
        subst e1
        subst e2
        exact (hP t ht).trans ih
    exact key (h i hi)
section
variable {n k : Nat} {ts us : List SdT} {c : ChT}
theorem con_turn {r : Nat} (h : ConS n ts) : ConS n (ts.map (tuT r)) := fun P hP => h P fun t ht => hP (tuT r t) (List.mem_map.mpr ⟨t, ht, rfl⟩)
theorem mem_set_ne {i j : Nat} {v x : SdT} (hv : ts[j]? = some v) (ne : i ≠ j) : v ∈ ts.set i x := List.mem_of_getElem? (by rw [List.getElem?_set_ne ne]; exact hv)
theorem mem_set_at {i : Nat} {t x : SdT} (ht : ts[i]? = some t) : x ∈ ts.set i x := List.mem_of_getElem? (by rw [List.getElem?_set_self (get_ltS ht)])
where
  get_ltS {i : Nat} {t : SdT} (h : ts[i]? = some t) : i < ts.length := (List.getElem?_eq_some_iff.mp h).1
theorem old_set {i : Nat} {t x : SdT} {P : Nat → Prop} (ht : ts[i]? = some t) (hP : ∀ u ∈ ts.set i x, (P u.1 ↔ P u.2.2.1)) (h : P t.1 ↔ P t.2.2.1) : ∀ u ∈ ts, (P u.1 ↔ P u.2.2.1) := fun u hu => by
  obtain ⟨j, hj⟩ := List.mem_iff_getElem?.mp hu
  by_cases e : i = j
  · subst e
    rw [ht] at hj
    obtain rfl := Option.some.inj hj
    exact h
  · exact hP u (mem_set_ne hj e)
theorem con_swap {i : Nat} {t : SdT} (h : ConS n ts) (ht : ts[i]? = some t) : ConS n (ts.set i (swT t)) := fun P hP => h P (old_set ht hP (hP (swT t) (mem_set_at ht)).symm)
theorem con_put {r : Nat} {f s : Int} (h : ConS n ts) (hr : r < n) : ConS (n + 1) (ts ++ [(r, f, n, s)]) := fun P hP i hi => by
  have old := h P fun t ht => hP t (List.mem_append_left _ ht)
  by_cases e : i < n
  · exact old i e
  · have : i = n := by omega
    subst this
    exact (hP (r, f, i, s) (List.mem_append_right _ (List.mem_singleton.mpr rfl))).symm.trans (old r hr)
theorem con_slide {e o : P2} (h : ConS n ts) (h2 : slT ts e o = some us) : ConS n us := by
  unfold slT at h2
  split at h2
  · rename_i u v hu hv
    split at h2
    · cases h2
    · rename_i no
      have h2 := (Option.some.inj h2).symm
      subst h2
      simp only [not_or, ne_eq, Classical.not_not] at no
      obtain ⟨n1, n2, n3⟩ := no
      intro P hP
      refine h P (old_set hu hP ?_)
      have hv2 := hP v (mem_set_ne hv n1)
      have hn := hP _ (mem_set_at hu)
      have a1 : P (gtT v o.2).1 ↔ P (gtT v o.2).2.2.1 := by
        unfold gtT
        split
        · exact hv2
        · exact hv2.symm
      unfold ptT at hn
      by_cases z : e.2 = 0
      · rw [if_pos z] at hn
        have e1 : (gtT u e.2).1 = u.1 := by unfold gtT; rw [if_pos z]
        rw [← e1, n2, a1]
        exact hn
      · rw [if_neg z] at hn
        have e1 : (gtT u e.2).1 = u.2.2.1 := by unfold gtT; rw [if_neg z]; rfl
        rw [← e1, n2, a1]
        exact hn
  · cases h2
theorem less_onto {j g : Nat} (hj : j < n - 1) : ∃ r, r < n ∧ r ≠ g ∧ lessN r g = j := by
  by_cases c : j < g
  · exact ⟨j, by omega, by omega, by unfold lessN; rw [if_neg (by omega)]⟩
  · exact ⟨j + 1, by omega, by omega, by unfold lessN; rw [if_pos (by omega)]; omega⟩
theorem foT_see {t : SdT} {g q : Nat} {m : Int} (h : foT t = some (g, q, m)) : t.1 ≠ t.2.2.1 ∧ ((g = t.2.2.1 ∧ q = t.1) ∨ (g = t.1 ∧ q = t.2.2.1)) ∧ m = t.2.1 * t.2.2.2 := by
  unfold foT at h
  split at h
  · cases h
  · rename_i no
    split at h
    · injection h with h
      injection h with h1 h
      injection h with h2 h3
      exact ⟨fun z => no (.inl z), .inl ⟨h1.symm, h2.symm⟩, h3.symm⟩
    · injection h with h
      injection h with h1 h
      injection h with h2 h3
      exact ⟨fun z => no (.inl z), .inr ⟨h1.symm, h2.symm⟩, h3.symm⟩
theorem con_fold {i g q : Nat} {m : Int} {t : SdT} (hs : ∀ t ∈ ts, SdOk n t) (h : ConS n ts) (ht : ts[i]? = some t) (hf : foT t = some (g, q, m)) : 2 ≤ n ∧ ConS (n - 1) ((ts.eraseIdx i).map (fdT g q m)) := by
  obtain ⟨ne, gq, _⟩ := foT_see hf
  have ok := hs t (List.mem_of_getElem? ht)
  have a := ok.a
  have b := ok.b
  have gn : g < n := by rcases gq with ⟨e, _⟩ | ⟨e, _⟩ <;> omega
  have qn : q < n := by rcases gq with ⟨_, e⟩ | ⟨_, e⟩ <;> omega
  have nq : q ≠ g := by rcases gq with ⟨e1, e2⟩ | ⟨e1, e2⟩ <;> omega
  refine ⟨by omega, fun P hP j hj => ?_⟩
  have key := h (fun r => P (if r = g then lessN q g else lessN r g)) (fun u hu => ?_)
  · have at' : ∀ r, r < n → r ≠ g → (P (lessN r g) ↔ P (if 0 = g then lessN q g else lessN 0 g)) := fun r hr hg => by
      have : P (if r = g then lessN q g else lessN r g) ↔ P (if 0 = g then lessN q g else lessN 0 g) := key r hr
      rwa [if_neg hg] at this
    obtain ⟨r, hr, rg, e⟩ := less_onto (n := n) (g := g) hj
    obtain ⟨r0, hr0, rg0, e0⟩ := less_onto (n := n) (g := g) (show 0 < n - 1 by omega)
    rw [← e, at' r hr rg, ← at' r0 hr0 rg0, e0]
  · obtain ⟨l, hl⟩ := List.mem_iff_getElem?.mp hu
    by_cases c : l = i
    · subst c
      rw [ht] at hl
      obtain rfl : t = u := Option.some.inj hl
      rcases gq with ⟨e1, e2⟩ | ⟨e1, e2⟩
      · show P (if t.1 = g then lessN q g else lessN t.1 g) ↔ P (if t.2.2.1 = g then lessN q g else lessN t.2.2.1 g)
        rw [if_neg (by omega), if_pos (by omega), e2]
      · show P (if t.1 = g then lessN q g else lessN t.1 g) ↔ P (if t.2.2.1 = g then lessN q g else lessN t.2.2.1 g)
        rw [if_pos (by omega), if_neg (by omega), e2]
    · have hm : u ∈ ts.eraseIdx i := List.mem_eraseIdx_iff_getElem?.mpr ⟨l, c, hl⟩
      have z := hP (fdT g q m u) (List.mem_map.mpr ⟨u, hm, rfl⟩)
      have f1 : (fdT g q m u).1 = if u.1 = g then lessN q g else lessN u.1 g := by
        unfold fdT enT
        dsimp only
        split <;> rfl
      have f2 : (fdT g q m u).2.2.1 = if u.2.2.1 = g then lessN q g else lessN u.2.2.1 g := by
        unfold fdT enT
        dsimp only
        split <;> rfl
      rw [f1, f2] at z
      exact z
theorem sd_isC {t : SdT} (h : SdOk n t) : DoorIs n (sdD t) := ⟨t.1, t.2.2.1, t.2.1, t.2.2.2, rfl, h.a, h.b, h.x, h.y⟩
/-- what a change leads to -/
structure BehI (k : Nat) (us : List SdT) : Prop where
  k1 : 1 ≤ k
  k12 : k ≤ 12
  lu : us.length ≤ 20
  ok : ∀ u ∈ us, SdOk k u
  con : ConS k us
theorem BehI.hsg (h : BehI k us) : HsG k (us.map sdD) := ⟨h.k1, h.k12, fun d hd => by
  obtain ⟨t, ht, rfl⟩ := List.mem_map.mp hd
  exact sd_isC (h.ok t ht), by rw [List.length_map]; exact h.lu, con_iff.mp h.con⟩
theorem BehI.of {xs : List D} (h : HsG n xs) : ∃ ts : List SdT, xs = ts.map sdD ∧ BehI n ts := by
  obtain ⟨ts, rfl, ho⟩ := sds_of h.hd
  have := h.hx
  rw [List.length_map] at this
  exact ⟨ts, rfl, h.n1, h.n12, this, ho, con_iff.mpr h.re⟩
theorem raw_kc (h : BehI n ts) (e1 : rawT n ts c = some (k, us)) : 1 ≤ k ∧ ConS k us := by
  have n1 := h.k1
  cases c with
  | fold i =>
    have e1 : (match ts[i]? with
      | some t => (foT t).map fun z => (n - 1, (ts.eraseIdx i).map (fdT z.1 z.2.1 z.2.2))
      | none => none) = some (k, us) := e1
    cases ht : ts[i]? with
    | none => rw [ht] at e1; cases e1
    | some t =>
      rw [ht] at e1
      obtain ⟨⟨g, q, m⟩, hf, e3⟩ := Option.map_eq_some_iff.mp e1
      injection e3 with x1 x2
      subst x1
      subst x2
      obtain ⟨n2, cc⟩ := con_fold h.ok h.con ht hf
      exact ⟨by omega, cc⟩
  | slide e0 o =>
    have e1 : (slT ts e0 o).map (fun us => (n, us)) = some (k, us) := e1
    obtain ⟨vs, hs, e3⟩ := Option.map_eq_some_iff.mp e1
    injection e3 with x1 x2
    subst x1
    subst x2
    exact ⟨n1, con_slide h.con hs⟩
  | turn r =>
    have e1 : (if r < n then some (n, ts.map (tuT r)) else none) = some (k, us) := e1
    split at e1
    · have e1 := Option.some.inj e1
      injection e1 with x1 x2
      subst x1
      subst x2
      exact ⟨n1, con_turn h.con⟩
    · cases e1
  | put r f s =>
    have e1 : (if r < n ∧ s.natAbs = 1 then some (n + 1, ts ++ [(r, f, n, s)]) else none) = some (k, us) := e1
    split at e1
    · rename_i hr
      have e1 := Option.some.inj e1
      injection e1 with x1 x2
      subst x1
      subst x2
      exact ⟨by omega, con_put h.con hr.1⟩
    · cases e1
  | swap i =>
    have e1 : (match ts[i]? with
      | some t => some (n, ts.set i (swT t))
      | none => none) = some (k, us) := e1
    cases ht : ts[i]? with
    | none => rw [ht] at e1; cases e1
    | some t =>
      rw [ht] at e1
      have e1 := Option.some.inj e1
      injection e1 with x1 x2
      subst x1
      subst x2
      exact ⟨n1, con_swap h.con ht⟩
theorem beh_ok (h : BehI n ts) (e : behT n ts c = some (k, us)) : BehI k us := by
  unfold behT at e
  obtain ⟨e1, e2⟩ := Option.filter_eq_some_iff.mp e
  unfold plOk at e2
  simp only [Bool.and_eq_true, decide_eq_true_eq] at e2
  obtain ⟨⟨p1, p2⟩, p3⟩ := e2
  have ok : ∀ u ∈ us, SdOk k u := fun u hu => sdB_iff.mp (List.all_eq_true.mp p3 u hu)
  have kc := raw_kc h e1
  exact ⟨kc.1, p1, p2, ok, kc.2⟩
end
end Law


set_option Elab.async false
set_option linter.all false
set_option maxRecDepth 100000
set_option maxHeartbeats 4000000
namespace Law
open PySem L2 DL
variable [Tb]
/-! ### patterns judged -/
/-! ### patterns filled -/
end Law


set_option Elab.async false
set_option linter.all false
set_option maxRecDepth 100000
set_option maxHeartbeats 4000000
namespace Law
open PySem L2 DL
variable [Tb]
/-! ### round ways that the law draws; bare round walks -/
end Law


set_option Elab.async false
set_option linter.all false
set_option maxRecDepth 100000
set_option maxHeartbeats 4000000
namespace Law
open PySem L2 DL
variable [Tb]
/-! ### houses of the patterns' laws -/
end Law


set_option Elab.async false
set_option linter.all false
set_option maxRecDepth 100000
set_option maxHeartbeats 1000000
namespace Law
open PySem L2 DL
variable [Tb]
/-! ### houses of one room and one door -/
abbrev P1 := Int × Int
/-! ### single_alike -/
end Law


set_option Elab.async false
set_option linter.all false
set_option maxRecDepth 100000
set_option maxHeartbeats 1000000
namespace Law
open PySem L2 DL
variable [Tb]
/-! ### changes of a house of one door -/
def S_is_door_number_changing : PF := fun ds T post _ => ∃ n xs d, ds = [houseD n xs, d] ∧ plainD d = true ∧ post (.fz (.bl (within d 0 ((xs.length : Int) - 1)))) T
def G_is_door_number_changing : DG := (gRet (dCall S_is_number_within 3 (aCons (dVar 1) (aCons (dC (.int 0)) (aCons (dOp dSub (dCB cLen (aCons (dFld "House" "doors" (dVar 0)) aNil)) (dC (.int 1))) aNil)))))
theorem m_is_door_number_changing : ∀ (ds : List D) T post ex, ds.length = 2 → S_is_door_number_changing ds T post ex → G_is_door_number_changing (endsOf post ex) (startD 2 ds T) := by
  rintro ds T post ex _ ⟨n, xs, d, rfl, hd, hp⟩
  exact ⟨rfl, _, rfl, rfl, d, 0, (xs.length : Int) - 1, rfl, hd, hp⟩
end Law


set_option Elab.async false
set_option linter.all false
set_option maxRecDepth 100000
set_option maxHeartbeats 1000000
namespace Law
open PySem L2 DL
variable [Tb]
/-! ### the program's changes: folds, turns, swaps, slides -/
def natOf : D → Option Nat
  | .int i => if 0 ≤ i then some i.toNat else none
  | _ => none
theorem nat_in {d : D} {m : Nat} : within d 0 ((m : Int) - 1) = true ↔ ∃ r, natOf d = some r ∧ r < m := by
  cases d <;> first | exact ⟨fun h => (by cases h), fun ⟨r, h, _⟩ => (by cases h)⟩ | skip
  rename_i i
  show (decide (0 ≤ i) && decide (i ≤ (m : Int) - 1)) = true ↔ ∃ r, (if 0 ≤ i then some i.toNat else none) = some r ∧ r < m
  rw [Bool.and_eq_true, decide_eq_true_iff, decide_eq_true_iff]
  constructor
  · rintro ⟨h1, h2⟩
    exact ⟨i.toNat, by rw [if_pos h1], by omega⟩
  · rintro ⟨r, h, hr⟩
    split at h
    · have := Option.some.inj h
      omega
    · cases h
theorem nat_is {d : D} {r : Nat} (h : natOf d = some r) : d = .int (r : Nat) := by
  cases d <;> first | cases h | skip
  rename_i i
  have h : (if 0 ≤ i then some i.toNat else none) = some r := h
  split at h
  · have := Option.some.inj h
    rw [show i = (r : Int) by omega]
  · cases h
section
variable {n T : Nat} {ts : List SdT} {post : Sl → Nat → Prop} {ex : Str → List (Str × D) → Nat → Prop}
/-! can_be_folded, fold_of, doors_behind -/
def S_can_be_foldedC : PF := fun ds T post _ => ∃ (n : Nat) (t : SdT), ds = [sdD t] ∧ SdOk n t ∧ post (.fz (.bl (foT t).isSome)) T
def G_can_be_foldedC : DG := (gSeq (gUnp (tgTup 4 (tgCons (tgN 1) (tgCons (tgN 2) (tgCons (tgN 3) (tgCons (tgN 4) tgNil))))) (dVar 0))
    (gRet (dAnd (dOp dNe (dVar 1) (dVar 3)) (dOr (dOp dEq (dCB cAbs (aCons (dVar 2) aNil)) (dC (.int 1))) (dOp dEq (dCB cAbs (aCons (dVar 4) aNil)) (dC (.int 1)))))))
theorem abs_oneC (x : Int) : PyData.eqv (py (.int (if x < 0 then -x else x))) (py (.int 1)) = decide (x.natAbs = 1) := by
  rw [eqv_int]
  refine decide_eq_decide.mpr ?_
  split <;> omega
theorem m_can_be_foldedC : ∀ (ds : List D) T post ex, ds.length = 1 → S_can_be_foldedC ds T post ex → G_can_be_foldedC (endsOf post ex) (startD 5 ds T) := by
  rintro ds T post ex _ ⟨n, ⟨a, x, b, y⟩, rfl, ok, hp⟩
  have hp : post (.fz (.bl (if a = b ∨ (x.natAbs ≠ 1 ∧ y.natAbs ≠ 1) then none else if y.natAbs = 1 then some (b, a, x * y) else some (a, b, x * y) : Option (Nat × Nat × Int)).isSome)) T := hp
  refine ⟨rfl, okD_of (n := 1) rfl, okD_of (n := 1) rfl, ?_⟩
  show (match D.bl (!PyData.eqv (py (.int (a : Nat))) (py (.int (b : Nat)))) with | .bl true => _ | .bl false => _ | _ => False)
  rw [eqv_int]
  by_cases c : a = b
  · rw [decide_eq_true (by omega)]
    rw [if_pos (.inl c)] at hp
    exact hp
  · rw [decide_eq_false (by omega)]
    refine ⟨okD_of (n := 1) rfl, okD_of (n := 1) rfl, ?_⟩
    show (match D.bl (PyData.eqv (py (.int (if x < 0 then -x else x))) (py (.int 1))) with | .bl true => _ | .bl false => _ | _ => False)
    rw [abs_oneC]
    by_cases c1 : x.natAbs = 1
    · rw [decide_eq_true c1]
      rw [if_neg (by omega)] at hp
      have e : (if y.natAbs = 1 then some (b, a, x * y) else some (a, b, x * y) : Option (Nat × Nat × Int)).isSome = true := by split <;> rfl
      rw [e] at hp
      exact hp
    · rw [decide_eq_false c1]
      refine ⟨okD_of (n := 1) rfl, okD_of (n := 1) rfl, ?_⟩
      show post (.fz (.bl (PyData.eqv (py (.int (if y < 0 then -y else y))) (py (.int 1))))) T
      rw [abs_oneC]
      by_cases c2 : y.natAbs = 1
      · rw [decide_eq_true c2]
        rw [if_neg (by omega), if_pos c2] at hp
        exact hp
      · rw [decide_eq_false c2]
        rw [if_pos (.inr ⟨c1, c2⟩)] at hp
        exact hp
theorem foT_is {t : SdT} (h : (foT t).isSome = true) : foT t = if t.2.2.2.natAbs = 1 then some (t.2.2.1, t.1, t.2.1 * t.2.2.2) else some (t.1, t.2.2.1, t.2.1 * t.2.2.2) := by
  unfold foT at h ⊢
  split
  · rename_i z
    rw [if_pos z] at h
    cases h
  · rfl
def S_fold_ofC : PF := fun ds T post _ => ∃ (n g k : Nat) (m : Int) (t : SdT), ds = [sdD t] ∧ SdOk n t ∧ foT t = some (g, k, m) ∧ post (.fz (.tup [.int (g : Nat), .int (k : Nat), .int m])) T
def G_fold_ofC : DG := (gSeq (gUnp (tgTup 4 (tgCons (tgN 1) (tgCons (tgN 2) (tgCons (tgN 3) (tgCons (tgN 4) tgNil))))) (dVar 0))
    (gSeq (gIf (dTest (dOp dEq (dCB cAbs (aCons (dVar 4) aNil)) (dC (.int 1)))) (gRet (dTup (aCons (dVar 3) (aCons (dVar 1) (aCons (dOp dMul (dVar 2) (dVar 4)) aNil))))) gNil)
    (gRet (dTup (aCons (dVar 1) (aCons (dVar 3) (aCons (dOp dMul (dVar 2) (dVar 4)) aNil)))))))
theorem mulC {x y : Int} (h : sizeOk x) : CMul x y := .inl ⟨by have := h.2; omega, by have := h.2; omega⟩
theorem m_fold_ofC : ∀ (ds : List D) T post ex, ds.length = 1 → S_fold_ofC ds T post ex → G_fold_ofC (endsOf post ex) (startD 5 ds T) := by
  rintro ds T post ex _ ⟨n, g, k, m, t, rfl, ok, hf, hp⟩
  have e := foT_is (t := t) (by rw [hf]; rfl)
  rw [hf] at e
  obtain ⟨a, x, b, y⟩ := t
  have hx : sizeOk x := ok.x
  refine ⟨rfl, okD_of (n := 1) rfl, okD_of (n := 1) rfl, ?_⟩
  show (if PyData.eqv (py (.int (if y < 0 then -y else y))) (py (.int 1)) = true then _ else _)
  rw [abs_oneC]
  by_cases c : y.natAbs = 1
  · rw [decide_eq_true c]
    have e : some (g, k, m) = some (b, a, x * y) := by rw [e]; exact if_pos c
    injection e with e
    injection e with e1 e
    injection e with e2 e3
    subst e1
    subst e2
    subst e3
    exact ⟨mulC hx, nle rfl, hp⟩
  · rw [decide_eq_false c]
    have e : some (g, k, m) = some (a, b, x * y) := by rw [e]; exact if_neg c
    injection e with e
    injection e with e1 e
    injection e with e2 e3
    subst e1
    subst e2
    subst e3
    exact ⟨mulC hx, nle rfl, hp⟩
def fuT (g k : Nat) (m : Int) (t : SdT) : SdT := (if t.1 = g then k else t.1, if t.1 = g then t.2.1 * m else t.2.1, if t.2.2.1 = g then k else t.2.2.1, if t.2.2.1 = g then t.2.2.2 * m else t.2.2.2)
def S_doors_behindC : PF := fun ds T post _ => ∃ (n i g k : Nat) (m : Int) (ts : List SdT) (t : SdT), ds = [.tup (ts.map sdD), .int (i : Nat)] ∧ (∀ t ∈ ts, SdOk n t) ∧ ts.length ≤ 1000 ∧ ts[i]? = some t ∧ foT t = some (g, k, m) ∧ post (.fz (.lst (((ts.eraseIdx i).map (fuT g k m)).map sdD))) T
def G_dbc0 : DG := (gApp 5 (dTup (aCons (dVar 7) (aCons (dVar 8) (aCons (dVar 9) (aCons (dVar 10) aNil))))))
def G_dbc1 : DG := (gSeq (gIf (dTest (dOp dEq (dVar 9) (dVar 2))) (gPar 9 10 (aCons (dVar 3) (aCons (dOp dMul (dVar 10) (dVar 4)) aNil))) gNil)
    G_dbc0)
def G_dbc2 : DG := (gSeq (gIf (dTest (dOp dEq (dVar 7) (dVar 2))) (gPar 7 8 (aCons (dVar 3) (aCons (dOp dMul (dVar 8) (dVar 4)) aNil))) gNil)
    G_dbc1)
def G_dbc3 : DG := (gSeq (gIf (dTest (dOp dEq (dVar 6) (dVar 1))) gCont gNil)
    G_dbc2)
def G_dbc4 : DG := (gSeq (gFor (iEnumT (dVar 0)) (tgTup 2 (tgCons (tgN 6) (tgCons (tgTup 4 (tgCons (tgN 7) (tgCons (tgN 8) (tgCons (tgN 9) (tgCons (tgN 10) tgNil))))) tgNil))) G_dbc3)
    (gRet (dVar 5)))
def G_doors_behindC : DG := (gSeq (gUnp (tgTup 3 (tgCons (tgN 2) (tgCons (tgN 3) (tgCons (tgN 4) tgNil)))) (dCall S_fold_ofC 1 (aCons (dIxV 0 (dVar 1)) aNil)))
    (gSeq (gSetO 5 (dLst aNil))
    G_dbc4))
end
end Law


set_option Elab.async false
set_option linter.all false
set_option maxRecDepth 100000
set_option maxHeartbeats 2000000
namespace Law
open PySem L2 DL
variable [Tb]
section
variable {n T : Nat} {ts : List SdT} {post : Sl → Nat → Prop} {ex : Str → List (Str × D) → Nat → Prop}
theorem erase_same {j : Nat} {u : SdT} (hu : ts[j]? = some u) : (ts.take (j + 1)).eraseIdx j = (ts.take j).eraseIdx j := by
  have jl := (List.getElem?_eq_some_iff.mp hu).1
  rw [take_succ_get hu, List.eraseIdx_append_of_length_le (by rw [List.length_take]; omega)]
  have l1 : (ts.take j).length = j := by rw [List.length_take]; omega
  rw [l1, Nat.sub_self]
  show ts.take j ++ [] = (ts.take j).eraseIdx j
  rw [List.append_nil, List.eraseIdx_of_length_le (Nat.le_of_eq l1)]
theorem erase_more {i j : Nat} {u : SdT} (hu : ts[j]? = some u) (c : j ≠ i) : (ts.take (j + 1)).eraseIdx i = (ts.take j).eraseIdx i ++ [u] := by
  have jl := (List.getElem?_eq_some_iff.mp hu).1
  rw [take_succ_get hu]
  by_cases c2 : i < j
  · rw [List.eraseIdx_append_of_lt_length (by rw [List.length_take]; omega)]
  · rw [List.eraseIdx_append_of_length_le (by rw [List.length_take]; omega), List.eraseIdx_of_length_le (l := ts.take j) (by rw [List.length_take]; omega), List.eraseIdx_of_length_le (by rw [List.length_take]; show 1 ≤ _; omega)]
def dbS (ts : List SdT) (i g k : Nat) (m : Int) (acc : List SdT) (v6 v7 v8 v9 v10 : OS) (T : Nat) : DS := ⟨[some (.fz (.tup (ts.map sdD))), some (.fz (.int (i : Nat))), some (.fz (.int (g : Nat))), some (.fz (.int (k : Nat))), some (.fz (.int m)), some (.ow (.lst (acc.map sdD))), v6, v7, v8, v9, v10], T⟩
theorem m_doors_behindC : ∀ (ds : List D) T post ex, ds.length = 2 → S_doors_behindC ds T post ex → G_doors_behindC (endsOf post ex) (startD 11 ds T) := by
  rintro ds T post ex _ ⟨n, i, g, k, m, ts, t, rfl, ho, hl, ht, hf, kp⟩
  refine ⟨trivial, _, atI_nat (sd_at ht), rfl, n, g, k, m, t, rfl, ho _ (List.mem_of_getElem? ht), hf, rfl, nle rfl, ?_⟩
  have main : G_dbc4 (endsOf post ex) (dbS ts i g k m [] none none none none none T) := by
    refine gFor_inv (fun j s => ∃ v6 v7 v8 v9 v10, s = dbS ts i g k m (((ts.take j).eraseIdx i).map (fuT g k m)) v6 v7 v8 v9 v10 T) (zipD (rangeD 0 (ts.map sdD).length) (ts.map sdD)) (fun P hP => hP _ ⟨none, none, none, none, none, by rw [List.take_zero]; rfl⟩) ?_ ?_
    · rintro j d s hi ⟨v6, v7, v8, v9, v10, rfl⟩ R hR
      obtain ⟨e, he, rfl⟩ := enum_get hi
      rw [List.getElem?_map] at he
      obtain ⟨⟨a, x, b, y⟩, hu, rfl⟩ := Option.map_eq_some_iff.mp he
      have o := ho _ (List.mem_of_getElem? hu)
      have hx : sizeOk x := o.x
      have hy : sizeOk y := o.y
      refine ⟨rfl, rfl, ?_⟩
      refine ⟨okD_of (n := 1) rfl, okD_of (n := 1) rfl, ?_⟩
      show (if PyData.eqv (py (.int (j : Int))) (py (.int (i : Int))) = true then _ else _)
      rw [eqv_int]
      by_cases c : j = i
      · rw [decide_eq_true (show (j : Int) = (i : Int) by omega)]
        refine hR _ ⟨some (.fz (.int (j : Int))), some (.fz (.int (a : Nat))), some (.fz (.int x)), some (.fz (.int (b : Nat))), some (.fz (.int y)), ?_⟩
        subst c
        rw [erase_same hu]
        rfl
      · rw [decide_eq_false (show ¬ (j : Int) = (i : Int) by omega)]
        have lb := List.length_eraseIdx_le (ts.take j) i
        rw [List.length_take] at lb
        have fin : ∀ (a' b' : Nat) (x' y' : Int), fuT g k m (a, x, b, y) = (a', x', b', y') → G_dbc0 { endsOf post ex with nx := R, ct := R, bk := fun s => gRet (dVar 5) (endsOf post ex) s } (dbS ts i g k m (((ts.take j).eraseIdx i).map (fuT g k m)) (some (.fz (.int (j : Int)))) (some (.fz (.int (a' : Nat)))) (some (.fz (.int x'))) (some (.fz (.int (b' : Nat)))) (some (.fz (.int y'))) T) := fun a' b' x' y' e => by
          have k2 := hR (dbS ts i g k m (((ts.take (j + 1)).eraseIdx i).map (fuT g k m)) (some (.fz (.int (j : Int)))) (some (.fz (.int (a' : Nat)))) (some (.fz (.int x'))) (some (.fz (.int (b' : Nat)))) (some (.fz (.int y'))) T) ⟨_, _, _, _, _, rfl⟩
          rw [erase_more hu c, List.map_append] at k2
          unfold dbS at k2
          rw [List.map_append, List.map_cons, List.map_nil, e] at k2
          exact ⟨nle rfl, (show ((((ts.take j).eraseIdx i).map (fuT g k m)).map sdD).length < 100000 by rw [List.length_map, List.length_map]; omega), k2⟩
        have go1 : ∀ (a' : Nat) (x' : Int), a' = (if a = g then k else a) → x' = (if a = g then x * m else x) → G_dbc1 { endsOf post ex with nx := R, ct := R, bk := fun s => gRet (dVar 5) (endsOf post ex) s } (dbS ts i g k m (((ts.take j).eraseIdx i).map (fuT g k m)) (some (.fz (.int (j : Int)))) (some (.fz (.int (a' : Nat)))) (some (.fz (.int x'))) (some (.fz (.int (b : Nat)))) (some (.fz (.int y))) T) := fun a' x' ea exx => by
          refine ⟨okD_of (n := 1) rfl, okD_of (n := 1) rfl, ?_⟩
          show (if PyData.eqv (py (.int (b : Nat))) (py (.int (g : Nat))) = true then _ else _)
          rw [eqv_int]
          by_cases c2 : b = g
          · rw [decide_eq_true (by omega)]
            refine ⟨mulC hy, ?_⟩
            refine fin a' k x' (y * m) ?_
            unfold fuT
            dsimp only
            rw [if_pos c2, if_pos c2, ← ea, ← exx]
          · rw [decide_eq_false (by omega)]
            refine fin a' b x' y ?_
            unfold fuT
            dsimp only
            rw [if_neg c2, if_neg c2, ← ea, ← exx]
        refine ⟨okD_of (n := 1) rfl, okD_of (n := 1) rfl, ?_⟩
        show (if PyData.eqv (py (.int (a : Nat))) (py (.int (g : Nat))) = true then _ else _)
        rw [eqv_int]
        by_cases c2 : a = g
        · rw [decide_eq_true (by omega)]
          exact ⟨mulC hx, go1 k (x * m) (by rw [if_pos c2]) (by rw [if_pos c2])⟩
        · rw [decide_eq_false (by omega)]
          exact go1 a x (by rw [if_neg c2]) (by rw [if_neg c2])
    · rintro s ⟨v6, v7, v8, v9, v10, rfl⟩
      rw [enum_len, List.length_map, List.take_length]
      exact kp
  exact main
/-! _lowered, _folded -/
def S__loweredC : PF := fun ds T post _ => ∃ r g : Nat, ds = [.int r, .int g] ∧ post (.fz (.int (lessN r g : Nat))) T
def G__loweredC : DG := (gRet (dIfE (dTest (dOp (dCmpI fun i j => decide (j < i)) (dVar 0) (dVar 1))) (dOp dSub (dVar 0) (dC (.int 1))) (dVar 0)))
theorem m__loweredC : ∀ (ds : List D) T post ex, ds.length = 2 → S__loweredC ds T post ex → G__loweredC (endsOf post ex) (startD 2 ds T) := by
  rintro ds T post ex _ ⟨r, g, rfl, k⟩
  show (if decide (((g : Nat) : Int) < ((r : Nat) : Int)) = true then _ else _)
  unfold lessN at k
  by_cases c : g < r
  · rw [if_pos (decide_eq_true (by omega))]
    rw [if_pos c] at k
    show post (.fz (.int (((r : Nat) : Int) - 1))) T
    rw [show ((r : Nat) : Int) - 1 = ((r - 1 : Nat) : Int) by omega]
    exact k
  · rw [if_neg (by rw [decide_eq_false (by omega)]; exact Bool.false_ne_true)]
    rw [if_neg c] at k
    exact k
theorem fu_fd (g k : Nat) (m : Int) (t : SdT) : fdT g k m t = (lessN (fuT g k m t).1 g, (fuT g k m t).2.1, lessN (fuT g k m t).2.2.1 g, (fuT g k m t).2.2.2) := by
  unfold fdT fuT enT
  dsimp only
  by_cases c1 : t.1 = g
  · rw [if_pos c1]
    by_cases c2 : t.2.2.1 = g
    · rw [if_pos c2]; simp only [c1, c2, if_true]
    · rw [if_neg c2]; simp only [c1, c2, if_true, if_false]
  · rw [if_neg c1]
    by_cases c2 : t.2.2.1 = g
    · rw [if_pos c2]; simp only [c1, c2, if_true, if_false]
    · rw [if_neg c2]; simp only [c1, c2, if_false]
def S__foldedC : PF := fun ds T post _ => ∃ (n : Nat) (ts : List SdT) (d : D), ds = [houseD n (ts.map sdD), d] ∧ plainD d = true ∧ 1 ≤ n ∧ (∀ t ∈ ts, SdOk n t) ∧ ts.length ≤ 1000 ∧ post (.fz (cwD ((natOf d).bind fun i => rawT n ts (.fold i)))) T
def F_foC : DF := (dLc [5, 6, 7, 8] (iSeq (dCall S_doors_behindC 2 (aCons (dFld "House" "doors" (dVar 0)) (aCons (dVar 1) aNil)))) (tgTup 4 (tgCons (tgN 5) (tgCons (tgN 6) (tgCons (tgN 7) (tgCons (tgN 8) tgNil))))) tAll (dTup (aCons (dCall S__loweredC 2 (aCons (dVar 5) (aCons (dVar 2) aNil))) (aCons (dVar 6) (aCons (dCall S__loweredC 2 (aCons (dVar 7) (aCons (dVar 2) aNil))) (aCons (dVar 8) aNil))))))
def G_foC0 : DG := (gRet (dTup (aCons (dOp dSub (dFld "House" "rooms" (dVar 0)) (dC (.int 1))) (aCons (dVar 4) aNil))))
def G_foC1 : DG := (gSeq (gSet 4 F_foC)
    G_foC0)
def G_foC2 : DG := (gSeq (gUnp (tgTup 3 (tgCons (tgN 2) (tgCons (tgN 3) (tgCons (tgN 3) tgNil)))) (dCall S_fold_ofC 1 (aCons (dOp dIx (dFld "House" "doors" (dVar 0)) (dVar 1)) aNil)))
    G_foC1)
def G__foldedC : DG := (gSeq (gIf (tOrD (tNotD (dTest (dCall S_is_door_number_changing 2 (aCons (dVar 0) (aCons (dVar 1) aNil))))) (tNotD (dTest (dCall S_can_be_foldedC 1 (aCons (dOp dIx (dFld "House" "doors" (dVar 0)) (dVar 1)) aNil))))) (gRet (dC .non)) gNil)
    G_foC2)
def foS (n : Nat) (ts : List SdT) (d : D) (v2 v3 v4 v5 v6 v7 v8 : OS) (T : Nat) : DS := ⟨[some (.fz (houseD n (ts.map sdD))), some (.fz d), v2, v3, v4, v5, v6, v7, v8], T⟩
theorem m__foldedC : ∀ (ds : List D) T post ex, ds.length = 2 → S__foldedC ds T post ex → G__foldedC (endsOf post ex) (startD 9 ds T) := by
  rintro ds T post ex _ ⟨n, ts, d, rfl, pd, n1, ho, hl, kp⟩
  refine ⟨rfl, n, _, d, rfl, pd, ?_⟩
  rw [List.length_map]
  cases hw : within d 0 ((ts.length : Int) - 1) with
  | false =>
    have e : ((natOf d).bind fun i => rawT n ts (.fold i)) = none := by
      cases hn : natOf d with
      | none => rfl
      | some i =>
        show (match ts[i]? with
          | some t => (foT t).map fun z => (n - 1, (ts.eraseIdx i).map (fdT z.1 z.2.1 z.2.2))
          | none => none) = none
        have : ts[i]? = none := List.getElem?_eq_none (by
          rcases Nat.lt_or_ge i ts.length with c | c
          · rw [nat_in.mpr ⟨i, hn, c⟩] at hw; cases hw
          · exact c)
        rw [this]
    rw [e] at kp
    exact kp
  | true =>
    obtain ⟨i, hn, il⟩ := nat_in.mp hw
    obtain rfl := nat_is hn
    rw [hn] at kp
    have ht : ts[i]? = some ts[i] := List.getElem?_eq_getElem il
    generalize ts[i] = t at ht
    have ok := ho _ (List.mem_of_getElem? ht)
    have kp : post (.fz (cwD ((match ts[i]? with
          | some t => (foT t).map fun z => (n - 1, (ts.eraseIdx i).map (fdT z.1 z.2.1 z.2.2))
          | none => none)))) T := kp
    rw [ht] at kp
    have kp : post (.fz (cwD ((foT t).map fun z => (n - 1, (ts.eraseIdx i).map (fdT z.1 z.2.1 z.2.2))))) T := kp
    refine iteF ⟨rfl, _, look_doors, _, atI_nat (sd_at ht), rfl, n, t, rfl, ok, ?_⟩
    cases hf : foT t with
    | none =>
      rw [hf] at kp
      exact kp
    | some z =>
      obtain ⟨g, k, m⟩ := z
      rw [hf] at kp
      refine iteF ⟨rfl, _, look_doors, _, atI_nat (sd_at ht), rfl, n, g, k, m, t, rfl, ok, hf, rfl, ?_⟩
      have key : F_foC (foS n ts (.int (i : Nat)) (some (.fz (.int (g : Nat)))) (some (.fz (.int m))) none none none none none T) (fun d s1 => G_foC0 (endsOf post ex) (s1.put 4 (.fz d))) (endsOf post ex).ex := by
        refine dLc_inv (fun j acc s => acc = (((ts.eraseIdx i).take j).map (fdT g k m)).map sdD ∧ ∃ v5 v6 v7 v8, s = foS n ts (.int (i : Nat)) (some (.fz (.int (g : Nat)))) (some (.fz (.int m))) none v5 v6 v7 v8 T) (((ts.eraseIdx i).map (fuT g k m)).map sdD) (fun Q hQ => ⟨rfl, _, look_doors, rfl, n, i, g, k, m, ts, t, rfl, ho, hl, ht, hf, _, rfl, hQ _ ⟨rfl, _, _, _, _, rfl⟩⟩) ?_ ?_
        · rintro j d acc s hj ⟨rfl, v5, v6, v7, v8, rfl⟩ R hR
          rw [List.getElem?_map, List.getElem?_map] at hj
          obtain ⟨w, hw2, rfl⟩ := Option.map_eq_some_iff.mp hj
          obtain ⟨u, hu, rfl⟩ := Option.map_eq_some_iff.mp hw2
          have le := List.length_eraseIdx_le ts i
          refine ⟨rfl, rfl, _, _, rfl, rfl, _, _, rfl, nle rfl, (show ((((ts.eraseIdx i).take j).map (fdT g k m)).map sdD).length < 100000 by rw [List.length_map, List.length_map, List.length_take]; omega), hR _ _ ⟨?_, _, _, _, _, rfl⟩⟩
          rw [take_succ_get hu, List.map_append, List.map_append, List.map_cons, List.map_nil, fu_fd]
          rfl
        · rintro acc s ⟨rfl, v5, v6, v7, v8, rfl⟩
          rw [List.length_map, List.length_map, List.take_length]
          refine ⟨rfl, _, look_rooms, nle rfl, ?_⟩
          show post (.fz (.tup [.int ((n : Int) - 1), .lst (((ts.eraseIdx i).map (fdT g k m)).map sdD)])) T
          rw [show (n : Int) - 1 = ((n - 1 : Nat) : Int) by omega]
          exact kp
      exact key
end
end Law


set_option Elab.async false
set_option linter.all false
set_option maxRecDepth 100000
set_option maxHeartbeats 2000000
namespace Law
open PySem L2 DL
variable [Tb]
section
variable {n T : Nat} {ts : List SdT} {post : Sl → Nat → Prop} {ex : Str → List (Str × D) → Nat → Prop}
/-! _turned -/
def S__turnedC : PF := fun ds T post _ => ∃ (n : Nat) (ts : List SdT) (d : D), ds = [houseD n (ts.map sdD), d] ∧ plainD d = true ∧ ts.length ≤ 1000 ∧ post (.fz (cwD ((natOf d).bind fun i => rawT n ts (.turn i)))) T
def F_tuC : DF := (dLc [3, 4, 5, 6] (iSeq (dFld "House" "doors" (dVar 0))) (tgTup 4 (tgCons (tgN 3) (tgCons (tgN 4) (tgCons (tgN 5) (tgCons (tgN 6) tgNil))))) tAll (dTup (aCons (dVar 3) (aCons (dIfE (dTest (dOp dEq (dVar 3) (dVar 1))) (dNeg (dVar 4)) (dVar 4)) (aCons (dVar 5) (aCons (dIfE (dTest (dOp dEq (dVar 5) (dVar 1))) (dNeg (dVar 6)) (dVar 6)) aNil))))))
def G_tuC0 : DG := (gRet (dTup (aCons (dFld "House" "rooms" (dVar 0)) (aCons (dVar 2) aNil))))
def G_tuC1 : DG := (gSeq (gSet 2 F_tuC)
    G_tuC0)
def G__turnedC : DG := (gSeq (gIf (tNotD (dTest (dCall S_is_room 2 (aCons (dVar 0) (aCons (dVar 1) aNil))))) (gRet (dC .non)) gNil)
    G_tuC1)
def tuS (n : Nat) (ts : List SdT) (d : D) (v2 v3 v4 v5 v6 : OS) (T : Nat) : DS := ⟨[some (.fz (houseD n (ts.map sdD))), some (.fz d), v2, v3, v4, v5, v6], T⟩
theorem sg_mul (x : Int) (b : Bool) : x * sgT b = if b = true then -x else x := by
  cases b
  · exact Int.mul_one x
  · show x * (-1) = -x
    omega
theorem m__turnedC : ∀ (ds : List D) T post ex, ds.length = 2 → S__turnedC ds T post ex → G__turnedC (endsOf post ex) (startD 7 ds T) := by
  rintro ds T post ex _ ⟨n, ts, d, rfl, pd, hl, kp⟩
  refine ⟨rfl, n, _, d, rfl, pd, ?_⟩
  cases hw : within d 0 ((n : Int) - 1) with
  | false =>
    have e : ((natOf d).bind fun i => rawT n ts (.turn i)) = none := by
      cases hn : natOf d with
      | none => rfl
      | some i =>
        show (if i < n then some (n, ts.map (tuT i)) else none) = none
        rw [if_neg (fun c => by rw [nat_in.mpr ⟨i, hn, c⟩] at hw; cases hw)]
    rw [e] at kp
    exact kp
  | true =>
    obtain ⟨i, hn, il⟩ := nat_in.mp hw
    obtain rfl := nat_is hn
    rw [hn] at kp
    have kp : post (.fz (cwD (if i < n then some (n, ts.map (tuT i)) else none))) T := kp
    rw [if_pos il] at kp
    have key : F_tuC (tuS n ts (.int (i : Nat)) none none none none none T) (fun d s1 => G_tuC0 (endsOf post ex) (s1.put 2 (.fz d))) (endsOf post ex).ex := by
      refine dLc_inv (fun j acc s => acc = ((ts.take j).map (tuT i)).map sdD ∧ ∃ v3 v4 v5 v6, s = tuS n ts (.int (i : Nat)) none v3 v4 v5 v6 T) (ts.map sdD) (fun Q hQ => ⟨rfl, _, look_doors, _, rfl, hQ _ ⟨rfl, _, _, _, _, rfl⟩⟩) ?_ ?_
      · rintro j d acc s hj ⟨rfl, v3, v4, v5, v6, rfl⟩ R hR
        rw [List.getElem?_map] at hj
        obtain ⟨⟨a, x, b, y⟩, hu, rfl⟩ := Option.map_eq_some_iff.mp hj
        have hR := fun (s3 : DS) (h : s3.wipe [3, 4, 5, 6] = tuS n ts (.int (i : Nat)) none none none none none T) => hR (((ts.take (j + 1)).map (tuT i)).map sdD) (s3.wipe [3, 4, 5, 6]) ⟨rfl, _, _, _, _, h⟩
        have fin : ∀ (x' y' : Int), tuT i (a, x, b, y) = (a, x', b, y') → ∀ s3 : DS, s3.wipe [3, 4, 5, 6] = tuS n ts (.int (i : Nat)) none none none none none T → (4 : Nat) ≤ 100000 ∧ ((((ts.take j).map (tuT i)).map sdD).length < 100000 ∧ R (((ts.take j).map (tuT i)).map sdD ++ [D.tup [.int (a : Nat), .int x', .int (b : Nat), .int y']]) (s3.wipe [3, 4, 5, 6])) := fun x' y' e s3 h => by
          refine ⟨by decide, by rw [List.length_map, List.length_map, List.length_take]; omega, ?_⟩
          have k2 := hR s3 h
          rw [take_succ_get hu, List.map_append, List.map_append, List.map_cons, List.map_nil, e] at k2
          exact k2
        have et : ∀ x' y', x' = (if a = i then -x else x) → y' = (if b = i then -y else y) → tuT i (a, x, b, y) = (a, x', b, y') := fun x' y' e1 e2 => by
          unfold tuT
          dsimp only
          rw [sg_mul, sg_mul]
          simp only [decide_eq_true_eq]
          rw [← e1, ← e2]
        refine ⟨rfl, okD_of (n := 1) rfl, okD_of (n := 1) rfl, ?_⟩
        show (if PyData.eqv (py (.int (a : Nat))) (py (.int (i : Nat))) = true then _ else _)
        rw [eqv_int]
        by_cases c1 : a = i
        · rw [decide_eq_true (by omega)]
          refine ⟨okD_of (n := 1) rfl, okD_of (n := 1) rfl, ?_⟩
          show (if PyData.eqv (py (.int (b : Nat))) (py (.int (i : Nat))) = true then _ else _)
          rw [eqv_int]
          by_cases c2 : b = i
          · rw [decide_eq_true (by omega)]
            exact fin (-x) (-y) (et _ _ (by rw [if_pos c1]) (by rw [if_pos c2])) _ rfl
          · rw [decide_eq_false (by omega)]
            exact fin (-x) y (et _ _ (by rw [if_pos c1]) (by rw [if_neg c2])) _ rfl
        · rw [decide_eq_false (by omega)]
          refine ⟨okD_of (n := 1) rfl, okD_of (n := 1) rfl, ?_⟩
          show (if PyData.eqv (py (.int (b : Nat))) (py (.int (i : Nat))) = true then _ else _)
          rw [eqv_int]
          by_cases c2 : b = i
          · rw [decide_eq_true (by omega)]
            exact fin x (-y) (et _ _ (by rw [if_neg c1]) (by rw [if_pos c2])) _ rfl
          · rw [decide_eq_false (by omega)]
            exact fin x y (et _ _ (by rw [if_neg c1]) (by rw [if_neg c2])) _ rfl
      · rintro acc s ⟨rfl, v3, v4, v5, v6, rfl⟩
        rw [List.length_map, List.take_length]
        exact ⟨rfl, _, look_rooms, nle rfl, kp⟩
    exact key
/-! _swapped -/
def S__swappedC : PF := fun ds T post _ => ∃ (n : Nat) (ts : List SdT) (d : D), ds = [houseD n (ts.map sdD), d] ∧ plainD d = true ∧ ts.length ≤ 1000 ∧ post (.fz (cwD ((natOf d).bind fun i => rawT n ts (.swap i)))) T
def G_swC0 : DG := (gSeq (gPutN 2 (dTup (aCons (dVar 5) (aCons (dVar 6) (aCons (dVar 3) (aCons (dVar 4) aNil))))) (dVar 1))
    (gRet (dTup (aCons (dFld "House" "rooms" (dVar 0)) (aCons (dVar 2) aNil)))))
def G_swC1 : DG := (gSeq (gSetO 2 (dListO (dFld "House" "doors" (dVar 0))))
    (gSeq (gUnp (tgTup 4 (tgCons (tgN 3) (tgCons (tgN 4) (tgCons (tgN 5) (tgCons (tgN 6) tgNil))))) (dIxV 2 (dVar 1)))
    G_swC0))
def G__swappedC : DG := (gSeq (gIf (tNotD (dTest (dCall S_is_door_number_changing 2 (aCons (dVar 0) (aCons (dVar 1) aNil))))) (gRet (dC .non)) gNil)
    G_swC1)
theorem m__swappedC : ∀ (ds : List D) T post ex, ds.length = 2 → S__swappedC ds T post ex → G__swappedC (endsOf post ex) (startD 7 ds T) := by
  rintro ds T post ex _ ⟨n, ts, d, rfl, pd, hl, kp⟩
  refine ⟨rfl, n, _, d, rfl, pd, ?_⟩
  rw [List.length_map]
  cases hw : within d 0 ((ts.length : Int) - 1) with
  | false =>
    have e : ((natOf d).bind fun i => rawT n ts (.swap i)) = none := by
      cases hn : natOf d with
      | none => rfl
      | some i =>
        show (match ts[i]? with
          | some t => some (n, ts.set i (swT t))
          | none => none) = none
        have : ts[i]? = none := List.getElem?_eq_none (by
          rcases Nat.lt_or_ge i ts.length with c | c
          · rw [nat_in.mpr ⟨i, hn, c⟩] at hw; cases hw
          · exact c)
        rw [this]
    rw [e] at kp
    exact kp
  | true =>
    obtain ⟨i, hn, il⟩ := nat_in.mp hw
    obtain rfl := nat_is hn
    rw [hn] at kp
    have ht : ts[i]? = some ts[i] := List.getElem?_eq_getElem il
    generalize ts[i] = t at ht
    have kp : post (.fz (cwD (match ts[i]? with
          | some t => some (n, ts.set i (swT t))
          | none => none))) T := kp
    rw [ht] at kp
    obtain ⟨a, x, b, y⟩ := t
    have kp : post (.fz (.tup [.int (n : Nat), .lst ((ts.set i (b, y, a, x)).map sdD)])) T := kp
    rw [List.map_set] at kp
    exact ⟨rfl, _, look_doors, trivial, _, atI_nat (sd_at ht), rfl, nle rfl, trivial, i, ixN_h (by rw [List.length_map]; exact il), rfl, _, look_rooms, nle rfl, kp⟩
/-! _slid -/
def passOf (m : Nat) (d : D) : Option P2 := match d with
  | .tup [.int i, .int s] => if isPass m d = true then some (i.toNat, s) else none
  | _ => none
theorem pass_out {m : Nat} {d : D} : isPass m d = true ↔ ∃ q, passOf m d = some q := by
  constructor
  · intro h
    obtain ⟨i, s, hi, hs, rfl⟩ := pass_is h
    refine ⟨(i, s), ?_⟩
    show (if isPass m (.tup [.int (i : Nat), .int s]) = true then some (((i : Nat) : Int).toNat, s) else none) = _
    rw [if_pos h, Int.toNat_natCast]
  · rintro ⟨q, h⟩
    unfold passOf at h
    split at h
    · split at h
      · rename_i z
        exact z
      · cases h
    · cases h
theorem pass_st {m : Nat} {d : D} {q : P2} (h : passOf m d = some q) : d = stD q ∧ q.1 < m ∧ (q.2 = 0 ∨ q.2 = 1) := by
  have hp := pass_out.mpr ⟨q, h⟩
  obtain ⟨i, s, hi, hs, rfl⟩ := pass_is hp
  have e : (some (i, s) : Option P2) = some q := by
    rw [← h]
    show _ = (if isPass m (.tup [.int (i : Nat), .int s]) = true then some (((i : Nat) : Int).toNat, s) else none)
    rw [if_pos hp, Int.toNat_natCast]
  obtain rfl := Option.some.inj e
  exact ⟨rfl, hi, hs⟩
def S__slidC : PF := fun ds T post _ => ∃ (n : Nat) (ts : List SdT) (d d2 : D), ds = [houseD n (ts.map sdD), d, d2] ∧ plainD d = true ∧ plainDs d = true ∧ plainD d2 = true ∧ plainDs d2 = true ∧ (∀ t ∈ ts, SdOk n t) ∧ ts.length ≤ 1000 ∧
  post (.fz (cwD ((passOf ts.length d).bind fun e => (passOf ts.length d2).bind fun o => (slT ts e o).map fun us => (n, us)))) T
def G_scC0 : DG := (gRet (dTup (aCons (dFld "House" "rooms" (dVar 0)) (aCons (dVar 11) aNil))))
def G_scC1 : DG := (gSeq (gPutN 11 (dIfE (dTest (dOp dEq (dIxV 1 (dC (.int 1))) (dC (.int 0)))) (dTup (aCons (dVar 9) (aCons (dVar 4) (aCons (dVar 5) (aCons (dVar 6) aNil))))) (dTup (aCons (dVar 5) (aCons (dVar 6) (aCons (dVar 9) (aCons (dVar 4) aNil)))))) (dIxV 1 (dC (.int 0))))
    G_scC0)
def G_scC2 : DG := (gSeq (gSetO 11 (dListO (dFld "House" "doors" (dVar 0))))
    (gSeq (gSet 4 (dOp dMul (dOp dFdiv (dVar 4) (dVar 8)) (dVar 10)))
    G_scC1))
def G_scC3 : DG := (gSeq (gIf (tOrD (dTest (dOp dNe (dVar 3) (dVar 7))) (dTest (dOp dNe (dOp dMod (dVar 4) (dVar 8)) (dC (.int 0))))) (gRet (dC .non)) gNil)
    G_scC2)
def G_scC4 : DG := (gSeq (gUnp (tgTup 4 (tgCons (tgN 7) (tgCons (tgN 8) (tgCons (tgN 9) (tgCons (tgN 10) tgNil))))) (dCall S_ends_of 2 (aCons (dVar 0) (aCons (dVar 2) aNil))))
    G_scC3)
def G_scC5 : DG := (gSeq (gUnp (tgTup 4 (tgCons (tgN 3) (tgCons (tgN 4) (tgCons (tgN 5) (tgCons (tgN 6) tgNil))))) (dCall S_ends_of 2 (aCons (dVar 0) (aCons (dVar 1) aNil))))
    G_scC4)
def G__slidC : DG := (gSeq (gIf (tOrD (tNotD (dTest (dCall S_is_pass 2 (aCons (dVar 0) (aCons (dVar 1) aNil))))) (tOrD (tNotD (dTest (dCall S_is_pass 2 (aCons (dVar 0) (aCons (dVar 2) aNil))))) (dTest (dOp dEq (dIxV 1 (dC (.int 0))) (dIxV 2 (dC (.int 0))))))) (gRet (dC .non)) gNil)
    G_scC5)
def scS (n : Nat) (ts : List SdT) (e o : P2) (u v : SdT) (v11 : OS) (z : Int) (T : Nat) : DS := ⟨[some (.fz (houseD n (ts.map sdD))), some (.fz (stD e)), some (.fz (stD o)), some (.fz (.int (u.1 : Nat))), some (.fz (.int z)), some (.fz (.int (u.2.2.1 : Nat))), some (.fz (.int u.2.2.2)), some (.fz (.int (v.1 : Nat))), some (.fz (.int v.2.1)), some (.fz (.int (v.2.2.1 : Nat))), some (.fz (.int v.2.2.2)), v11], T⟩
theorem gate_gtC {s : Int} (t : SdT) (hs : s = 0 ∨ s = 1) : gate s (.int (t.1 : Nat)) (.int t.2.1) (.int (t.2.2.1 : Nat)) (.int t.2.2.2) = [.int ((gtT t s).1 : Nat), .int (gtT t s).2.1, .int ((gtT t s).2.2.1 : Nat), .int (gtT t s).2.2.2] := by
  unfold gate gtT
  split <;> rfl
theorem gt_okC {t : SdT} {s : Int} (h : SdOk n t) : SdOk n (gtT t s) := by
  unfold gtT
  split
  · exact h
  · exact ⟨h.b, h.a, h.y, h.x⟩
theorem fmod_abs {x b : Int} (hb : b ≠ 0) : x.fmod b = 0 ↔ x.fmod (b.natAbs : Nat) = 0 := by
  rw [← Int.dvd_iff_fmod_eq_zero, ← Int.dvd_iff_fmod_eq_zero]
  exact Int.natAbs_dvd.symm
theorem m__slidC : ∀ (ds : List D) T post ex, ds.length = 3 → S__slidC ds T post ex → G__slidC (endsOf post ex) (startD 12 ds T) := by
  rintro ds T post ex _ ⟨n, ts, d, d2, rfl, p1, p2, p3, p4, ho, hl, kp⟩
  refine ⟨rfl, n, _, d, rfl, p1, p2, ?_⟩
  rw [List.length_map]
  cases h1 : isPass ts.length d with
  | false =>
    have e : passOf ts.length d = none := by
      cases hn : passOf ts.length d with
      | none => rfl
      | some q => rw [pass_out.mpr ⟨q, hn⟩] at h1; cases h1
    rw [e] at kp
    exact kp
  | true =>
    obtain ⟨e, he⟩ := pass_out.mp h1
    obtain ⟨rfl, el, es⟩ := pass_st he
    rw [he] at kp
    refine iteF ⟨rfl, n, _, d2, rfl, p3, p4, ?_⟩
    rw [List.length_map]
    cases h2 : isPass ts.length d2 with
    | false =>
      have e : passOf ts.length d2 = none := by
        cases hn : passOf ts.length d2 with
        | none => rfl
        | some q => rw [pass_out.mpr ⟨q, hn⟩] at h2; cases h2
      rw [e] at kp
      exact kp
    | true =>
      obtain ⟨o, ho2⟩ := pass_out.mp h2
      obtain ⟨rfl, ol, os⟩ := pass_st ho2
      rw [ho2] at kp
      have hu : ts[e.1]? = some ts[e.1] := List.getElem?_eq_getElem el
      have hv : ts[o.1]? = some ts[o.1] := List.getElem?_eq_getElem ol
      have ou := ho _ (List.mem_of_getElem? hu)
      have ov := ho _ (List.mem_of_getElem? hv)
      generalize ts[e.1] = u at hu ou
      generalize ts[o.1] = v at hv ov
      have kp : post (.fz (cwD ((slT ts e o).map fun us => (n, us)))) T := kp
      have gu := gt_okC (s := e.2) ou
      have gv := gt_okC (s := o.2) ov
      have hs : slT ts e o = if e.1 = o.1 ∨ (gtT u e.2).1 ≠ (gtT v o.2).1 ∨ (gtT u e.2).2.1.fmod (gtT v o.2).2.1.natAbs ≠ 0 then none else some (ts.set e.1 (ptT u e.2 (gtT v o.2).2.2.1 (pastT (gtT v o.2).2.1 (gtT v o.2).2.2.2 (gtT u e.2).2.1))) := by
        unfold slT
        rw [hu, hv]
      refine iteF ⟨trivial, .int e.1, rfl, trivial, .int o.1, rfl, okD_of (n := 1) rfl, okD_of (n := 1) rfl, ?_⟩
      show (if PyData.eqv (py (.int (e.1 : Nat))) (py (.int (o.1 : Nat))) = true then _ else _)
      rw [eqv_int]
      by_cases c1 : e.1 = o.1
      · rw [decide_eq_true (by omega)]
        rw [hs, if_pos (.inl c1)] at kp
        exact kp
      · rw [decide_eq_false (by omega)]
        refine iteF ⟨rfl, n, e.1, e.2, _, _, _, _, _, rfl, sd_at hu, ?_⟩
        rw [gate_gtC u es]
        refine ⟨rfl, rfl, n, o.1, o.2, _, _, _, _, _, rfl, sd_at hv, ?_⟩
        rw [gate_gtC v os]
        refine ⟨rfl, ?_⟩
        have hL : (gtT v o.2).2.1 ≠ 0 := gv.x.1
        have hsz : sizeOk (gtT u e.2).2.1 := gu.x
        have hsl : sizeOk (gtT v o.2).2.1 := gv.x
        have hsy : sizeOk (gtT v o.2).2.2.2 := gv.y
        have ept : ∀ (c : Nat) (y : Int), ptT u e.2 c y = if e.2 = 0 then (c, y, (gtT u e.2).2.2.1, (gtT u e.2).2.2.2) else ((gtT u e.2).2.2.1, (gtT u e.2).2.2.2, c, y) := fun c y => by
          unfold ptT gtT
          by_cases z : e.2 = 0
          · rw [if_pos z, if_pos z, if_pos z]
          · rw [if_neg z, if_neg z, if_neg z]
            rfl
        generalize gtT u e.2 = U at *
        generalize gtT v o.2 = V at *
        obtain ⟨a, x, b, y⟩ := U
        obtain ⟨a', x', b', y'⟩ := V
        show G_scC3 (endsOf post ex) (scS n ts e o (a, x, b, y) (a', x', b', y') none x T)
        refine ⟨okD_of (n := 1) rfl, okD_of (n := 1) rfl, ?_⟩
        show (if (!PyData.eqv (py (.int (a : Nat))) (py (.int (a' : Nat)))) = true then _ else _)
        rw [eqv_int]
        have hs : slT ts e o = if e.1 = o.1 ∨ a ≠ a' ∨ x.fmod x'.natAbs ≠ 0 then none else some (ts.set e.1 (ptT u e.2 b' (pastT x' y' x))) := hs
        by_cases c2 : a = a'
        · rw [decide_eq_true (by omega)]
          refine iteF ⟨hL, okD_of (n := 1) rfl, okD_of (n := 1) rfl, ?_⟩
          show (if (!PyData.eqv (py (.int (x.fmod x'))) (py (.int 0))) = true then _ else _)
          rw [eqv_int]
          by_cases c3 : x.fmod x' = 0
          · rw [decide_eq_true c3]
            have c4 : x.fmod (x'.natAbs : Nat) = 0 := (fmod_abs hL).mp c3
            rw [hs, if_neg (by
              rintro (z | z | z)
              · exact c1 z
              · exact z c2
              · exact z c4)] at kp
            have ks : ∀ z : SdT, ptT u e.2 b' (pastT x' y' x) = z → post (.fz (.tup [.int (n : Nat), .lst ((ts.map sdD).set e.1 (sdD z))])) T := fun z ez => by
              have kp : post (.fz (.tup [.int (n : Nat), .lst ((ts.set e.1 (ptT u e.2 b' (pastT x' y' x))).map sdD)])) T := kp
              rw [ez, List.map_set] at kp
              exact kp
            refine iteF ⟨rfl, _, look_doors, ⟨hL, by have h2 : sizeOk x' := hsl; have := h2.2; show x'.natAbs < 1073741824; omega⟩, mulC2 hsy, ?_⟩
            refine ⟨trivial, .int e.2, rfl, okD_of (n := 1) rfl, rfl, ?_⟩
            show (if PyData.eqv (py (.int e.2)) (py (.int 0)) = true then _ else _)
            rw [eqv_int]
            by_cases c5 : e.2 = 0
            · rw [decide_eq_true c5]
              have kz := ks (b', pastT x' y' x, b, y) (by rw [ept, if_pos c5])
              exact ⟨nle rfl, trivial, trivial, .int e.1, rfl, e.1, ixN_h (by rw [List.length_map]; exact el), rfl, _, look_rooms, nle rfl, kz⟩
            · rw [decide_eq_false c5]
              have kz := ks (b, y, b', pastT x' y' x) (by rw [ept, if_neg c5])
              exact ⟨nle rfl, trivial, trivial, .int e.1, rfl, e.1, ixN_h (by rw [List.length_map]; exact el), rfl, _, look_rooms, nle rfl, kz⟩
          · rw [decide_eq_false c3]
            have c4 : ¬ x.fmod (x'.natAbs : Nat) = 0 := fun z => c3 ((fmod_abs hL).mpr z)
            rw [hs, if_pos (.inr (.inr c4))] at kp
            exact kp
        · rw [decide_eq_false (by omega)]
          rw [hs, if_pos (.inr (.inl c2))] at kp
          exact kp
where
  mulC2 : ∀ {x y : Int}, sizeOk y → CMul x y := fun {x y} h => .inr ⟨by have := h.2; omega, by have := h.2; omega⟩
end
end Law


set_option Elab.async false
set_option linter.all false
set_option maxRecDepth 100000
set_option maxHeartbeats 2000000
namespace Law
open PySem L2 DL
variable [Tb]
/-! ### what a thing says as a change -/
def isW (w : Str) : D → Bool
  | .str t => t == w
  | _ => false
def chPut (x f s : D) : Option ChT := match natOf x, f, s with
  | some r, .int f, .int s => some (.put r f s)
  | _, _, _ => none
def chOf (m : Nat) : D → Option ChT
  | .tup [w, x] => if isW "fold" w = true then (natOf x).map .fold else if isW "turn" w = true then (natOf x).map .turn else if isW "swap" w = true then (natOf x).map .swap else none
  | .tup [w, x, y] => if isW "slide" w = true then (passOf m x).bind fun e => (passOf m y).map fun o => .slide e o else none
  | .tup [w, x, f, s] => if isW "put" w = true then chPut x f s else none
  | _ => none
structure ChD (d : D) : Prop where
  p : plainD d = true
  i : ∀ xs, d = .tup xs → ∀ x ∈ xs, okD x = true ∧ plainD x = true ∧ plainDs x = true
theorem eqv_w {d : D} {w : Str} (h : plainD d = true) (ho : okD d = true) : PyData.eqv (py d) (py (.str w)) = isW w d := by
  cases d <;> first | rfl | (cases h) | skip
/-- one put with a number that is none -/
structure PutX (n : Nat) (d v : D) (ts : List SdT) (x f : D) (s : Int) : Prop where
  he : ∃ w, d = .tup [w, x, f, .int s] ∧ isW "put" w = true
  hx : within x 0 ((n : Int) - 1) = true
  hs : s.natAbs = 1
  hv : v = .tup [.int ((n : Int) + 1), .lst (ts.map sdD ++ [.tup [x, f, .int (n : Nat), .int s]])]
  hf : isInt f = false
def S__toldC : PF := fun ds T post _ => ∃ (n : Nat) (ts : List SdT) (d : D), ds = [houseD n (ts.map sdD), d] ∧ ChD d ∧ 1 ≤ n ∧ (∀ t ∈ ts, SdOk n t) ∧ ts.length ≤ 1000 ∧
  (∀ v x f s, PutX n d v ts x f s → post (.fz v) T) ∧ post (.fz (cwD ((chOf ts.length d).bind (rawT n ts)))) T
def G_to2 : DG := (gSeq (gUnp (tgTup 2 (tgCons (tgN 2) (tgCons (tgN 3) tgNil))) (dVar 1))
    (gSeq (gIf (dTest (dOp dEq (dVar 2) (dC (.str "fold")))) (gRet (dCall S__foldedC 2 (aCons (dVar 0) (aCons (dVar 3) aNil)))) gNil)
    (gSeq (gIf (dTest (dOp dEq (dVar 2) (dC (.str "turn")))) (gRet (dCall S__turnedC 2 (aCons (dVar 0) (aCons (dVar 3) aNil)))) gNil)
    (gIf (dTest (dOp dEq (dVar 2) (dC (.str "swap")))) (gRet (dCall S__swappedC 2 (aCons (dVar 0) (aCons (dVar 3) aNil)))) gNil))))
def G_to4 : DG := (gSeq (gUnp (tgTup 4 (tgCons (tgN 4) (tgCons (tgN 5) (tgCons (tgN 6) (tgCons (tgN 7) tgNil))))) (dVar 1))
    (gIf (tAndD (dTest (dCall S_is_room 2 (aCons (dVar 0) (aCons (dVar 5) aNil)))) (tAndD (dTest (dCall S_is_number 1 (aCons (dVar 7) aNil))) (dTest (dOp dEq (dCB cAbs (aCons (dVar 7) aNil)) (dC (.int 1)))))) (gRet (dTup (aCons (dOp dAdd (dFld "House" "rooms" (dVar 0)) (dC (.int 1))) (aCons (dOp dAdd (dListO (dFld "House" "doors" (dVar 0))) (dLst (aCons (dTup (aCons (dVar 5) (aCons (dVar 6) (aCons (dFld "House" "rooms" (dVar 0)) (aCons (dVar 7) aNil))))) aNil))) aNil)))) gNil))
def G_to3 : DG := (gIf (tAndD (dTest (dCall S_is_tuple_of 2 (aCons (dVar 1) (aCons (dC (.int 3)) aNil)))) (dTest (dOp dEq (dIxV 1 (dC (.int 0))) (dC (.str "slide"))))) (gRet (dCall S__slidC 3 (aCons (dVar 0) (aCons (dIxV 1 (dC (.int 1))) (aCons (dIxV 1 (dC (.int 2))) aNil))))) (gIf (tAndD (dTest (dCall S_is_tuple_of 2 (aCons (dVar 1) (aCons (dC (.int 4)) aNil)))) (dTest (dOp dEq (dIxV 1 (dC (.int 0))) (dC (.str "put"))))) G_to4 gNil))
def G__toldC : DG := (gSeq (gIf (dTest (dCall S_is_tuple_of 2 (aCons (dVar 1) (aCons (dC (.int 2)) aNil)))) G_to2 G_to3)
    (gRet (dC .non)))
def toS (n : Nat) (ts : List SdT) (d : D) (v2 v3 v4 v5 v6 v7 : OS) (T : Nat) : DS := ⟨[some (.fz (houseD n (ts.map sdD))), some (.fz d), v2, v3, v4, v5, v6, v7], T⟩
section
variable {n T : Nat} {ts : List SdT} {post : Sl → Nat → Prop} {ex : Str → List (Str × D) → Nat → Prop} {E : DE}
theorem isTup_iff {k : Nat} {d : D} : isTup k d = true ↔ ∃ xs, d = .tup xs ∧ xs.length = k := by
  cases d <;> first | exact ⟨fun h => (by cases h), fun ⟨xs, h, _⟩ => (by cases h)⟩ | skip
  rename_i xs
  show decide (xs.length = k) = true ↔ _
  rw [decide_eq_true_iff]
  exact ⟨fun h => ⟨xs, rfl, h⟩, fun ⟨ys, e, h⟩ => by
    injection e with e
    rw [e]
    exact h⟩
theorem chPut_bad {x f s : D} (z : ∀ r s0, ¬ (natOf x = some r ∧ r < n ∧ s = .int s0 ∧ s0.natAbs = 1)) : (chPut x f s).bind (rawT n ts) = none := by
  unfold chPut
  cases hr : natOf x with
  | none => rfl
  | some r =>
    match f, s, z with
    | .int f0, .int s0, z =>
      show (if r < n ∧ s0.natAbs = 1 then some (n + 1, ts ++ [(r, f0, n, s0)]) else none) = none
      rw [if_neg fun y => z r s0 ⟨hr, y.1, rfl, y.2⟩]
    | .int f0, .non, _ => rfl
    | .int f0, .bl _, _ => rfl
    | .int f0, .str _, _ => rfl
    | .int f0, .tup _, _ => rfl
    | .int f0, .lst _, _ => rfl
    | .int f0, .dic _, _ => rfl
    | .int f0, .obj _ _, _ => rfl
    | .int f0, .exc _ _, _ => rfl
    | .int f0, .st, _ => rfl
    | .int f0, .scr _, _ => rfl
    | .int f0, .fn _, _ => rfl
    | .int f0, .dtp _, _ => rfl
    | .non, _, _ => rfl
    | .bl _, _, _ => rfl
    | .str _, _, _ => rfl
    | .tup _, _, _ => rfl
    | .lst _, _, _ => rfl
    | .dic _, _, _ => rfl
    | .obj _ _, _, _ => rfl
    | .exc _ _, _, _ => rfl
    | .st, _, _ => rfl
    | .scr _, _, _ => rfl
    | .fn _, _, _ => rfl
    | .dtp _, _, _ => rfl
theorem chOf_none {m : Nat} {d : D} (h2 : isTup 2 d = false) (h4 : isTup 4 d = false) (h3 : ∀ w x y, d = .tup [w, x, y] → isW "slide" w = false) : chOf m d = none := by
  cases d with
  | tup xs =>
    match xs, h2, h4, h3 with
    | [], _, _, _ => rfl
    | [_], _, _, _ => rfl
    | [_, _], h2, _, _ => cases h2
    | [w, x, y], _, _, h3 =>
      show (if isW "slide" w = true then (passOf m x).bind fun e => (passOf m y).map fun o => ChT.slide e o else none) = none
      rw [if_neg (by rw [h3 w x y rfl]; exact Bool.false_ne_true)]
    | [_, _, _, _], _, h4, _ => cases h4
    | _ :: _ :: _ :: _ :: _ :: _, _, _, _ => rfl
  | _ => rfl
theorem m__toldC : ∀ (ds : List D) T post ex, ds.length = 2 → S__toldC ds T post ex → G__toldC (endsOf post ex) (startD 8 ds T) := by
  rintro ds T post ex _ ⟨n, ts, d, rfl, cd, n1, ho, hl, kx, kp⟩
  have none_ok : ∀ v2 v3 v4 v5 v6 v7, chOf ts.length d = none → (gRet (dC .non)) (endsOf post ex) (toS n ts d v2 v3 v4 v5 v6 v7 T) := fun v2 v3 v4 v5 v6 v7 e => by
    rw [e] at kp
    exact kp
  refine ⟨rfl, d, 2, rfl, cd.p, ?_⟩
  cases h2 : isTup 2 d with
  | true =>
    obtain ⟨xs, rfl, l2⟩ := isTup_iff.mp h2
    match xs, l2, cd, kx, kp, none_ok with
    | [w, x], _, cd, kx, kp, none_ok =>
      obtain ⟨ow, pw, _⟩ := cd.i _ rfl w (by simp)
      obtain ⟨_, px, _⟩ := cd.i _ rfl x (by simp)
      have ec : chOf ts.length (.tup [w, x]) = if isW "fold" w = true then (natOf x).map .fold else if isW "turn" w = true then (natOf x).map .turn else if isW "swap" w = true then (natOf x).map .swap else none := rfl
      rw [ec] at kp
      have bm : ∀ (c : Nat → ChT), ((natOf x).map c).bind (rawT n ts) = (natOf x).bind fun i => rawT n ts (c i) := fun c => by cases natOf x <;> rfl
      refine ⟨rfl, ow, by decide +kernel, ?_⟩
      show (if PyData.eqv (py w) (py (.str "fold")) = true then _ else _)
      rw [eqv_w pw ow]
      cases c1 : isW "fold" w with
      | true =>
        rw [if_pos c1, bm] at kp
        exact ⟨rfl, n, ts, x, rfl, px, n1, ho, hl, kp⟩
      | false =>
        rw [if_neg (by rw [c1]; exact Bool.false_ne_true)] at kp
        refine ⟨ow, by decide +kernel, ?_⟩
        show (if PyData.eqv (py w) (py (.str "turn")) = true then _ else _)
        rw [eqv_w pw ow]
        cases c2 : isW "turn" w with
        | true =>
          rw [if_pos c2, bm] at kp
          exact ⟨rfl, n, ts, x, rfl, px, hl, kp⟩
        | false =>
          rw [if_neg (by rw [c2]; exact Bool.false_ne_true)] at kp
          refine ⟨ow, by decide +kernel, ?_⟩
          show (if PyData.eqv (py w) (py (.str "swap")) = true then _ else _)
          rw [eqv_w pw ow]
          cases c3 : isW "swap" w with
          | true =>
            rw [if_pos c3, bm] at kp
            exact ⟨rfl, n, ts, x, rfl, px, hl, kp⟩
          | false =>
            rw [if_neg (by rw [c3]; exact Bool.false_ne_true)] at kp
            exact kp
  | false =>
    have go4 : (∀ w x y, d ≠ .tup [w, x, y] ∨ isW "slide" w = false) → (gIf (tAndD (dTest (dCall S_is_tuple_of 2 (aCons (dVar 1) (aCons (dC (.int 4)) aNil)))) (dTest (dOp dEq (dIxV 1 (dC (.int 0))) (dC (.str "put"))))) G_to4 gNil) { endsOf post ex with nx := (gRet (dC .non)) (endsOf post ex) } (toS n ts d none none none none none none T) := fun no3 => by
      refine ⟨rfl, d, 4, rfl, cd.p, ?_⟩
      cases h4 : isTup 4 d with
      | false =>
        exact none_ok _ _ _ _ _ _ (chOf_none h2 h4 fun w x y e => (no3 w x y).resolve_left fun z => z e)
      | true =>
        obtain ⟨xs, rfl, l4⟩ := isTup_iff.mp h4
        match xs, l4, cd, kx, kp, none_ok with
        | [w, x, f, s], _, cd, kx, kp, none_ok =>
          obtain ⟨ow, pw, _⟩ := cd.i _ rfl w (by simp)
          obtain ⟨_, px, _⟩ := cd.i _ rfl x (by simp)
          obtain ⟨_, ps, _⟩ := cd.i _ rfl s (by simp)
          have ec : chOf ts.length (.tup [w, x, f, s]) = if isW "put" w = true then chPut x f s else none := rfl
          rw [ec] at kp
          refine ⟨trivial, w, rfl, ow, by decide +kernel, ?_⟩
          show (if PyData.eqv (py w) (py (.str "put")) = true then _ else _)
          rw [eqv_w pw ow]
          cases c1 : isW "put" w with
          | false =>
            rw [if_neg (by rw [c1]; exact Bool.false_ne_true)] at kp
            exact kp
          | true =>
            rw [if_pos c1] at kp
            refine ⟨rfl, ?_⟩
            refine ⟨rfl, n, _, x, rfl, px, ?_⟩
            have bad : (∀ r s0, ¬ (natOf x = some r ∧ r < n ∧ s = .int s0 ∧ s0.natAbs = 1)) → post (.fz .non) T := fun z => by
              have e : (chPut x f s).bind (rawT n ts) = none := chPut_bad z
              rw [e] at kp
              exact kp
            cases hx : within x 0 ((n : Int) - 1) with
            | false =>
              exact bad fun r s0 ⟨h1, h2, _⟩ => by
                rw [nat_in.mpr ⟨r, h1, h2⟩] at hx
                cases hx
            | true =>
              obtain ⟨r, hr, rn⟩ := nat_in.mp hx
              refine ⟨rfl, s, rfl, ps, ?_⟩
              cases hs : isInt s with
              | false =>
                exact bad fun r s0 ⟨_, _, h3, _⟩ => by
                  rw [h3] at hs
                  cases hs
              | true =>
                obtain ⟨s0, rfl⟩ : ∃ a, s = .int a := by cases s <;> first | exact ⟨_, rfl⟩ | cases hs
                refine ⟨okD_of (n := 1) rfl, rfl, ?_⟩
                show (if PyData.eqv (py (.int (if s0 < 0 then -s0 else s0))) (py (.int 1)) = true then _ else _)
                rw [abs_oneC]
                by_cases c3 : s0.natAbs = 1
                · rw [decide_eq_true c3]
                  have go : post (.fz (.tup [.int ((n : Int) + 1), .lst (ts.map sdD ++ [.tup [x, f, .int (n : Nat), .int s0]])])) T := by
                    cases hf : isInt f with
                    | false => exact kx _ x f s0 ⟨⟨w, rfl, c1⟩, hx, c3, rfl, hf⟩
                    | true =>
                      obtain ⟨f0, rfl⟩ : ∃ a, f = .int a := by cases f <;> first | exact ⟨_, rfl⟩ | cases hf
                      have e : (chPut x (.int f0) (.int s0)).bind (rawT n ts) = some (n + 1, ts ++ [(r, f0, n, s0)]) := by
                        unfold chPut
                        rw [hr]
                        show (if r < n ∧ s0.natAbs = 1 then some (n + 1, ts ++ [(r, f0, n, s0)]) else none) = _
                        rw [if_pos ⟨rn, c3⟩]
                      rw [e] at kp
                      have kp : post (.fz (.tup [.int ((n + 1 : Nat) : Int), .lst ((ts ++ [(r, f0, n, s0)]).map sdD)])) T := kp
                      rw [List.map_append] at kp
                      rw [nat_is hr]
                      exact kp
                  exact ⟨rfl, _, look_rooms, rfl, _, look_doors, rfl, _, look_rooms, nle rfl, nle rfl, (show (ts.map sdD).length + 1 ≤ 100000 by rw [List.length_map]; omega), nle rfl, go⟩
                · rw [decide_eq_false c3]
                  exact bad fun r s1 ⟨_, _, h3, h4⟩ => by
                    injection h3 with h3
                    rw [h3] at c3
                    exact c3 h4
    refine ⟨rfl, d, 3, rfl, cd.p, ?_⟩
    cases h3 : isTup 3 d with
    | false => exact go4 fun w x y => .inl fun e => by rw [e] at h3; cases h3
    | true =>
      obtain ⟨xs, rfl, l3⟩ := isTup_iff.mp h3
      match xs, l3, cd, kx, kp, none_ok, go4 with
      | [w, x, y], _, cd, kx, kp, none_ok, go4 =>
        obtain ⟨ow, pw, _⟩ := cd.i _ rfl w (by simp)
        obtain ⟨_, px, qx⟩ := cd.i _ rfl x (by simp)
        obtain ⟨_, py', qy⟩ := cd.i _ rfl y (by simp)
        have ec : chOf ts.length (.tup [w, x, y]) = if isW "slide" w = true then (passOf ts.length x).bind fun e => (passOf ts.length y).map fun o => .slide e o else none := rfl
        rw [ec] at kp
        refine ⟨trivial, w, rfl, ow, by decide +kernel, ?_⟩
        show (if PyData.eqv (py w) (py (.str "slide")) = true then _ else _)
        rw [eqv_w pw ow]
        cases c1 : isW "slide" w with
        | false =>
          refine go4 fun w2 x2 y2 => ?_
          by_cases e : D.tup [w, x, y] = .tup [w2, x2, y2]
          · right
            injection e with e
            injection e with e1 _
            rw [← e1]
            exact c1
          · exact .inl e
        | true =>
          rw [if_pos c1] at kp
          have e : ((passOf ts.length x).bind fun e => (passOf ts.length y).map fun o => ChT.slide e o).bind (rawT n ts) = (passOf ts.length x).bind fun e => (passOf ts.length y).bind fun o => (slT ts e o).map fun us => (n, us) := by
            cases passOf ts.length x with
            | none => rfl
            | some e => cases passOf ts.length y <;> rfl
          rw [e] at kp
          exact ⟨trivial, _, rfl, trivial, _, rfl, rfl, n, ts, x, y, rfl, px, qx, py', qy, ho, hl, kp⟩
end
end Law


set_option Elab.async false
set_option linter.all false
set_option maxRecDepth 100000
set_option maxHeartbeats 2000000
namespace Law
open PySem L2 DL
variable [Tb]
/-! ### what comes of a change -/
def hsD (z : Nat × List SdT) : D := houseD z.1 (z.2.map sdD)
def outH : Option (Nat × List SdT) → D
  | none => .non
  | some z => hsD z
def chB (n : Nat) (ts : List SdT) (d : D) : Option (Nat × List SdT) := (chOf ts.length d).bind (behT n ts)
section
variable {n T : Nat} {ts : List SdT} {post : Sl → Nat → Prop} {ex : Str → List (Str × D) → Nat → Prop} {E : DE}
theorem isDoor_sd (k : Nat) (t : SdT) : isDoor (k : Nat) (sdD t) = sdB k t := by
  obtain ⟨a, x, b, y⟩ := t
  have w : ∀ a : Nat, within (.int (a : Nat)) 0 ((k : Int) - 1) = decide (a < k) := fun a => by
    show (decide ((0 : Int) ≤ (a : Int)) && decide ((a : Int) ≤ (k : Int) - 1)) = _
    rw [decide_eq_true (by omega), Bool.true_and]
    exact decide_eq_decide.mpr (by omega)
  have z : ∀ x : Int, doorNum (.int x) = szB x := fun x => by
    show ((decide (-999 ≤ x) && decide (x ≤ 999)) && decide (x ≠ 0)) = (decide (0 < x.natAbs) && decide (x.natAbs < 1000))
    rw [Bool.eq_iff_iff]
    simp only [Bool.and_eq_true, decide_eq_true_eq]
    omega
  show ((within (.int (a : Nat)) 0 ((k : Int) - 1) && within (.int (b : Nat)) 0 ((k : Int) - 1)) && (doorNum (.int x) && doorNum (.int y))) = (decide (a < k) && decide (b < k) && szB x && szB y)
  rw [w, w, z, z, Bool.and_assoc (decide (a < k) && decide (b < k))]
theorem areDoors_sd (k : Nat) (us : List SdT) : areDoors (k : Nat) (.tup (us.map sdD)) = (decide (us.length ≤ 20) && us.all (sdB k)) := by
  show (decide ((us.map sdD).length ≤ 20) && (us.map sdD).all (isDoor (k : Nat))) = _
  rw [List.length_map, List.all_map]
  congr 1
  refine congrArg (fun f => us.all f) (funext fun t => isDoor_sd k t)
def S__outcomeC : PF := fun ds T post _ => ∃ (n : Nat) (ts : List SdT) (d : D), ds = [houseD n (ts.map sdD), d] ∧ BehI n ts ∧ ChD d ∧ post (.fz (outH (chB n ts d))) T
def G_ouC0 : DG := (gRet (dIfE (tAndD (dTest (dCall S_is_room_count 1 (aCons (dVar 3) aNil))) (dTest (dCall S_are_doors 2 (aCons (dVar 3) (aCons (dVar 4) aNil))))) (dMake0 S_House 2 (aCons (dVar 3) (aCons (dVar 4) aNil))) (dC .non)))
def G_ouC1 : DG := (gSeq (gPar 3 4 (aCons (dIxV 2 (dC (.int 0))) (aCons (dCB cTuple (aCons (dIxV 2 (dC (.int 1))) aNil)) aNil)))
    G_ouC0)
def G_ouC2 : DG := (gSeq (gIf (dTest (dOp dIsN (dVar 2) (dC .non))) (gRet (dC .non)) gNil)
    G_ouC1)
def G__outcomeC : DG := (gSeq (gSet 2 (dCall S__toldC 2 (aCons (dVar 0) (aCons (dVar 1) aNil))))
    G_ouC2)
theorem m__outcomeC : ∀ (ds : List D) T post ex, ds.length = 2 → S__outcomeC ds T post ex → G__outcomeC (endsOf post ex) (startD 5 ds T) := by
  rintro ds T post ex _ ⟨n, ts, d, rfl, H, cd, kp⟩
  have n1 := H.k1
  have n12 := H.k12
  have hl := H.lu
  refine ⟨rfl, n, ts, d, rfl, cd, n1, H.ok, by omega, fun v x f s px => ?_, ?_⟩
  · have cn : chB n ts d = none := by
      obtain ⟨w, rfl, hw⟩ := px.he
      have hf := px.hf
      unfold chB
      have e : chOf ts.length (.tup [w, x, f, .int s]) = chPut x f (.int s) := by
        show (if isW "put" w = true then chPut x f (.int s) else none) = _
        rw [if_pos hw]
      rw [e]
      have : chPut x f (.int s) = none := by
        unfold chPut
        cases natOf x with
        | none => rfl
        | some r => cases f <;> first | rfl | cases hf
      rw [this]
      rfl
    rw [cn] at kp
    have kp : post (.fz .non) T := kp
    obtain ⟨w, rfl, hw⟩ := px.he
    have pl : plainD x = true ∧ plainD f = true := ⟨(cd.i _ rfl x (by simp)).2.1, (cd.i _ rfl f (by simp)).2.1⟩
    have hx := px.hx
    have hf := px.hf
    rw [px.hv]
    have bad : areDoors ((n : Int) + 1) (.tup (ts.map sdD ++ [.tup [x, f, .int (n : Nat), .int s]])) = false := by
      have e : doorNum f = false := by cases f <;> first | rfl | cases hf
      show (decide ((ts.map sdD ++ [D.tup [x, f, .int (n : Nat), .int s]]).length ≤ 20) && (ts.map sdD ++ [D.tup [x, f, .int (n : Nat), .int s]]).all (isDoor ((n : Int) + 1))) = false
      rw [List.all_append]
      have e2 : [D.tup [x, f, .int (n : Nat), .int s]].all (isDoor ((n : Int) + 1)) = false := by
        show (((within x 0 ((n : Int) + 1 - 1) && within (.int (n : Nat)) 0 ((n : Int) + 1 - 1)) && (doorNum f && doorNum (.int s))) && true) = false
        rw [e, Bool.false_and, Bool.and_false, Bool.false_and]
      rw [e2, Bool.and_false, Bool.and_false]
    refine ⟨trivial, _, rfl, trivial, _, rfl, rfl, _, rfl, rfl, ?_⟩
    show (if within (.int ((n : Int) + 1)) 1 12 = true then _ else _)
    cases hw2 : within (.int ((n : Int) + 1)) 1 12 with
    | false => exact kp
    | true =>
      refine ⟨rfl, (n : Int) + 1, _, rfl, rfl, fun xs e y hy => ?_, ?_⟩
      · injection e with e
        rw [← e] at hy
        rcases List.mem_append.mp hy with h | h
        · obtain ⟨t, _, rfl⟩ := List.mem_map.mp h
          exact ⟨rfl, rfl⟩
        · rw [List.mem_singleton.mp h]
          refine ⟨rfl, ?_⟩
          show [x, f, D.int (n : Nat), D.int s].all plainD = true
          rw [List.all_cons, List.all_cons, pl.1, pl.2]
          rfl
      · rw [bad]
        exact kp
  · unfold chB at kp
    cases hc : chOf ts.length d with
    | none =>
      rw [hc] at kp
      exact kp
    | some c =>
      rw [hc] at kp
      have kp : post (.fz (outH (behT n ts c))) T := kp
      unfold behT at kp
      show G_ouC2 (endsOf post ex) ⟨[some (.fz (houseD n (ts.map sdD))), some (.fz d), some (.fz (cwD (rawT n ts c))), none, none], T⟩
      cases hr : rawT n ts c with
      | none =>
        rw [hr] at kp
        exact kp
      | some z =>
        obtain ⟨k, us⟩ := z
        obtain ⟨k1, con⟩ := raw_kc H hr
        rw [hr] at kp
        refine ⟨trivial, _, rfl, trivial, _, rfl, rfl, _, rfl, rfl, ?_⟩
        have wi : within (.int (k : Nat)) 1 12 = decide (k ≤ 12) := by
          show (decide ((1 : Int) ≤ (k : Int)) && decide ((k : Int) ≤ 12)) = _
          rw [decide_eq_true (by omega), Bool.true_and]
          exact decide_eq_decide.mpr (by omega)
        show (if within (.int (k : Nat)) 1 12 = true then _ else _)
        have fl : (some (k, us)).filter plOk = if plOk (k, us) = true then some (k, us) else none := rfl
        rw [fl] at kp
        have pe : plOk (k, us) = (decide (k ≤ 12) && decide (us.length ≤ 20) && us.all (sdB k)) := rfl
        rw [wi]
        by_cases c12 : k ≤ 12
        · rw [decide_eq_true c12]
          refine ⟨rfl, (k : Nat), _, rfl, rfl, fun xs e y hy => ?_, ?_⟩
          · injection e with e
            rw [← e] at hy
            obtain ⟨t, _, rfl⟩ := List.mem_map.mp hy
            exact ⟨rfl, rfl⟩
          · rw [areDoors_sd]
            rw [pe, decide_eq_true c12, Bool.true_and] at kp
            cases hp : (decide (us.length ≤ 20) && us.all (sdB k)) with
            | false =>
              rw [hp] at kp
              exact kp
            | true =>
              rw [hp] at kp
              have bi : BehI k us := beh_ok H (c := c) (by
                unfold behT
                rw [hr, fl, pe, decide_eq_true c12, Bool.true_and, hp]
                rfl)
              exact ⟨rfl, s_HouseG bi.hsg kp⟩
        · rw [decide_eq_false c12]
          rw [pe, decide_eq_false c12, Bool.false_and, Bool.false_and] at kp
          exact kp
/-! is_change, changed -/
def S_is_changeC : PF := fun ds T post ex => (∃ h d, ds = [h, d] ∧ isO oneH [] h = some false ∧ ex "BadHouse" [] T) ∨ ∃ (n : Nat) (ts : List SdT) (d : D), ds = [houseD n (ts.map sdD), d] ∧ BehI n ts ∧ ChD d ∧ post (.fz (.bl (chB n ts d).isSome)) T
def G_is_changeC : DG := (gSeq (gDrop (dCallX S_need_house 1 (aCons (dVar 0) aNil)))
    (gRet (dOp dNotN (dCall S__outcomeC 2 (aCons (dVar 0) (aCons (dVar 1) aNil))) (dC .non))))
theorem m_is_changeC : ∀ (ds : List D) T post ex, ds.length = 2 → S_is_changeC ds T post ex → G_is_changeC (endsOf post ex) (startD 2 ds T) := by
  rintro ds T post ex _ (⟨h, d, rfl, hh, hx⟩ | ⟨n, ts, d, rfl, H, cd, kp⟩)
  · exact ⟨rfl, h, false, rfl, hh, (fun z => by cases z), fun _ => hx⟩
  · refine ⟨rfl, houseD n (ts.map sdD), true, rfl, rfl, fun _ => ?_, fun z => by cases z⟩
    refine ⟨rfl, n, ts, d, rfl, H, cd, ?_⟩
    cases hc : chB n ts d with
    | none => rw [hc] at kp; exact kp
    | some z => rw [hc] at kp; exact kp
def S_changedC : PF := fun ds T post ex => (∃ h d, ds = [h, d] ∧ isO oneH [] h = some false ∧ ex "BadHouse" [] T) ∨ ∃ (n : Nat) (ts : List SdT) (d : D), ds = [houseD n (ts.map sdD), d] ∧ BehI n ts ∧ ChD d ∧ (chB n ts d = none → ex "BadChange" [] T) ∧ (∀ z, chB n ts d = some z → post (.fz (hsD z)) T)
def G_changedC : DG := (gSeq (gDrop (dCallX S_need_house 1 (aCons (dVar 0) aNil)))
    (gSeq (gSet 2 (dCall S__outcomeC 2 (aCons (dVar 0) (aCons (dVar 1) aNil))))
    (gSeq (gIf (dTest (dOp dIsN (dVar 2) (dC .non))) (gRaise "BadChange") gNil)
    (gRet (dVar 2)))))
theorem m_changedC : ∀ (ds : List D) T post ex, ds.length = 2 → S_changedC ds T post ex → G_changedC (endsOf post ex) (startD 3 ds T) := by
  rintro ds T post ex _ (⟨h, d, rfl, hh, hx⟩ | ⟨n, ts, d, rfl, H, cd, kx, kp⟩)
  · exact ⟨rfl, h, false, rfl, hh, (fun z => by cases z), fun _ => hx⟩
  · refine ⟨rfl, houseD n (ts.map sdD), true, rfl, rfl, fun _ => ?_, fun z => by cases z⟩
    refine ⟨rfl, n, ts, d, rfl, H, cd, ?_⟩
    cases hc : chB n ts d with
    | none => exact kx hc
    | some z => exact kp z hc
/-! where a room goes -/
def rmT (ts : List SdT) (r : Nat) : ChT → Nat
  | .fold i => match ts[i]? with
    | some t => match foT t with
      | some (g, k, _) => lessN (if r = g then k else r) g
      | none => r
    | none => r
  | _ => r
theorem chOf_see {m : Nat} {d : D} {c : ChT} (h : chOf m d = some c) : ∃ w rest, d = .tup (.str w :: rest) ∧ ((w = "fold" ∧ ∃ i : Nat, c = .fold i ∧ rest = [.int (i : Nat)]) ∨ (w ≠ "fold" ∧ ∀ i, c ≠ .fold i)) := by
  have w_is : ∀ {w : D} {s : Str}, isW s w = true → w = .str s := fun {w s} h => by
    cases w <;> first | cases h | skip
    rename_i t
    rw [beq_iff_eq.mp h]
  cases d with
  | tup xs =>
    match xs, h with
    | [w, x], h =>
      have h : (if isW "fold" w = true then (natOf x).map .fold else if isW "turn" w = true then (natOf x).map .turn else if isW "swap" w = true then (natOf x).map .swap else none) = some c := h
      split at h
      · rename_i z
        obtain ⟨i, hi, rfl⟩ := Option.map_eq_some_iff.mp h
        rw [w_is z]
        exact ⟨_, _, rfl, .inl ⟨rfl, i, rfl, by rw [nat_is hi]⟩⟩
      · split at h
        · rename_i z
          obtain ⟨i, hi, rfl⟩ := Option.map_eq_some_iff.mp h
          rw [w_is z]
          exact ⟨_, _, rfl, .inr ⟨by decide +kernel, fun i e => by cases e⟩⟩
        · split at h
          · rename_i z
            obtain ⟨i, hi, rfl⟩ := Option.map_eq_some_iff.mp h
            rw [w_is z]
            exact ⟨_, _, rfl, .inr ⟨by decide +kernel, fun i e => by cases e⟩⟩
          · cases h
    | [w, x, y], h =>
      have h : (if isW "slide" w = true then (passOf m x).bind fun e => (passOf m y).map fun o => ChT.slide e o else none) = some c := h
      split at h
      · rename_i z
        obtain ⟨e, he, h⟩ := Option.bind_eq_some_iff.mp h
        obtain ⟨o, ho, rfl⟩ := Option.map_eq_some_iff.mp h
        rw [w_is z]
        exact ⟨_, _, rfl, .inr ⟨by decide +kernel, fun i e => by cases e⟩⟩
      · cases h
    | [w, x, f, s], h =>
      have h : (if isW "put" w = true then chPut x f s else none) = some c := h
      split at h
      · rename_i z
        rw [w_is z]
        refine ⟨_, _, rfl, .inr ⟨by decide +kernel, fun i e => ?_⟩⟩
        subst e
        unfold chPut at h
        split at h <;> cases h
      · cases h
    | [], h => cases h
    | [_], h => cases h
    | _ :: _ :: _ :: _ :: _ :: _, h => cases h
  | _ => cases h
end
end Law


set_option Elab.async false
set_option linter.all false
set_option maxRecDepth 100000
set_option maxHeartbeats 2000000
namespace Law
open PySem L2 DL
variable [Tb]
section
variable {n T : Nat} {ts : List SdT} {post : Sl → Nat → Prop} {ex : Str → List (Str × D) → Nat → Prop} {E : DE}
def seqC : D → Bool
  | .lst _ => true
  | .tup _ => true
  | _ => false
def S_is_listC : PF := fun ds T post _ => ∃ d, ds = [d] ∧ plainD d = true ∧ post (.fz (.bl (seqC d))) T
def G_is_listC : DG := (gRet (dIsTy2 "list" "tuple" (dVar 0)))
theorem m_is_listC : ∀ (ds : List D) T post ex, ds.length = 1 → S_is_listC ds T post ex → G_is_listC (endsOf post ex) (startD 1 ds T) := by
  rintro ds T post ex _ ⟨d, rfl, hd, hp⟩
  cases d with
  | tup x => exact ⟨_, true, rfl, by decide +kernel, hp⟩
  | lst x => exact ⟨_, true, rfl, by decide +kernel, hp⟩
  | non => exact ⟨_, false, rfl, by decide +kernel, hp⟩
  | bl b => exact ⟨_, false, rfl, by decide +kernel, hp⟩
  | int b => exact ⟨_, false, rfl, by decide +kernel, hp⟩
  | str b => exact ⟨_, false, rfl, by decide +kernel, hp⟩
  | dic b => exact ⟨_, false, rfl, by decide +kernel, hp⟩
  | dtp => exact ⟨_, false, rfl, by decide +kernel, hp⟩
  | _ => cases hd
theorem okFoldC : okD (.str "fold") = true := by decide +kernel
/-! _room_along -/
def S__room_alongC : PF := fun ds T post _ => ∃ (n : Nat) (ts : List SdT) (d : D) (c : ChT) (r : Nat), ds = [houseD n (ts.map sdD), d, .int (r : Nat)] ∧ (∀ t ∈ ts, SdOk n t) ∧ ChD d ∧ chOf ts.length d = some c ∧ rawT n ts c ≠ none ∧ post (.fz (.int (rmT ts r c : Nat))) T
def G_raC0 : DG := (gSeq (gUnp (tgTup 3 (tgCons (tgN 3) (tgCons (tgN 4) (tgCons (tgN 5) tgNil)))) (dCall S_fold_ofC 1 (aCons (dOp dIx (dFld "House" "doors" (dVar 0)) (dIxV 1 (dC (.int 1)))) aNil)))
    (gRet (dCall S__loweredC 2 (aCons (dIfE (dTest (dOp dEq (dVar 2) (dVar 3))) (dVar 4) (dVar 2)) (aCons (dVar 3) aNil)))))
def G__room_alongC : DG := (gSeq (gIf (dTest (dOp dNe (dIxV 1 (dC (.int 0))) (dC (.str "fold")))) (gRet (dVar 2)) gNil)
    G_raC0)
theorem raw_foldC {i : Nat} (h : rawT n ts (.fold i) ≠ none) : ∃ t g k m, ts[i]? = some t ∧ foT t = some (g, k, m) := by
  have h : (match ts[i]? with
    | some t => (foT t).map fun z => (n - 1, (ts.eraseIdx i).map (fdT z.1 z.2.1 z.2.2))
    | none => none) ≠ none := h
  cases ht : ts[i]? with
  | none => rw [ht] at h; exact absurd rfl h
  | some t =>
    cases hf : foT t with
    | none => rw [ht] at h; dsimp only at h; rw [hf] at h; exact absurd rfl h
    | some z => exact ⟨t, z.1, z.2.1, z.2.2, rfl, hf⟩
theorem rm_fold {i r g k : Nat} {m : Int} {t : SdT} (ht : ts[i]? = some t) (hf : foT t = some (g, k, m)) : rmT ts r (.fold i) = lessN (if r = g then k else r) g := by
  show (match ts[i]? with
    | some t => match foT t with
      | some (g, k, _) => lessN (if r = g then k else r) g
      | none => r
    | none => r) = _
  rw [ht]
  dsimp only
  rw [hf]
theorem rm_not {r : Nat} {c : ChT} (h : ∀ i, c ≠ .fold i) : rmT ts r c = r := by
  cases c <;> first | rfl | exact absurd rfl (h _)
theorem m__room_alongC : ∀ (ds : List D) T post ex, ds.length = 3 → S__room_alongC ds T post ex → G__room_alongC (endsOf post ex) (startD 6 ds T) := by
  rintro ds T post ex _ ⟨n, ts, d, c, r, rfl, ho, cd, hc, hr, kp⟩
  obtain ⟨w, rest, rfl, h⟩ := chOf_see hc
  have ow := (cd.i _ rfl (.str w) (by simp)).1
  refine ⟨trivial, .str w, atI_nat (i := 0) rfl, ow, okFoldC, ?_⟩
  show (if (!PyData.eqv (py (.str w)) (py (.str "fold"))) = true then _ else _)
  rw [eqv_w rfl ow]
  rcases h with ⟨rfl, i, rfl, rfl⟩ | ⟨ne, nf⟩
  · have e : isW "fold" (.str "fold") = true := by decide +kernel
    rw [e]
    obtain ⟨t, g, k, m, ht, hf⟩ := raw_foldC hr
    rw [rm_fold ht hf] at kp
    refine iteF ⟨rfl, _, look_doors, trivial, .int (i : Nat), rfl, _, atI_nat (sd_at ht), rfl, n, g, k, m, t, rfl, ho _ (List.mem_of_getElem? ht), hf, rfl, ?_⟩
    refine ⟨okD_of (n := 1) rfl, okD_of (n := 1) rfl, ?_⟩
    show (if PyData.eqv (py (.int (r : Nat))) (py (.int (g : Nat))) = true then _ else _)
    rw [eqv_int]
    by_cases c1 : r = g
    · rw [decide_eq_true (by omega)]
      rw [if_pos c1] at kp
      exact ⟨rfl, k, g, rfl, kp⟩
    · rw [decide_eq_false (by omega)]
      rw [if_neg c1] at kp
      exact ⟨rfl, r, g, rfl, kp⟩
  · have e : isW "fold" (.str w) = false := by
      show (w == "fold") = false
      exact beq_eq_false_iff_ne.mpr ne
    rw [e]
    rw [rm_not nf] at kp
    exact kp
/-! _law_ch_room -/
def S__law_ch_room : PF := fun ds T post _ => ∃ (n : Nat) (ts : List SdT) (d : D) (c : ChT) (r : Nat), ds = [.tup (ts.map sdD), d, .int (r : Nat)] ∧ (∀ t ∈ ts, SdOk n t) ∧ ChD d ∧ chOf ts.length d = some c ∧ rawT n ts c ≠ none ∧ post (.fz (.int (rmT ts r c : Nat))) T
def G_lcr0 : DG := (gSeq (gUnp (tgTup 3 (tgCons (tgN 3) (tgCons (tgN 4) (tgCons (tgN 5) tgNil)))) (dCall S__law_ch_fold 2 (aCons (dVar 0) (aCons (dIxV 1 (dC (.int 1))) aNil))))
    (gRet (dCall S__law_ch_less 2 (aCons (dIfE (dTest (dOp dEq (dVar 2) (dVar 3))) (dVar 4) (dVar 2)) (aCons (dVar 3) aNil)))))
def G__law_ch_room : DG := (gSeq (gIf (dTest (dOp dNe (dIxV 1 (dC (.int 0))) (dC (.str "fold")))) (gRet (dVar 2)) gNil)
    G_lcr0)
theorem m__law_ch_room : ∀ (ds : List D) T post ex, ds.length = 3 → S__law_ch_room ds T post ex → G__law_ch_room (endsOf post ex) (startD 6 ds T) := by
  rintro ds T post ex _ ⟨n, ts, d, c, r, rfl, ho, cd, hc, hr, kp⟩
  obtain ⟨w, rest, rfl, h⟩ := chOf_see hc
  have ow := (cd.i _ rfl (.str w) (by simp)).1
  refine ⟨trivial, .str w, atI_nat (i := 0) rfl, ow, okFoldC, ?_⟩
  show (if (!PyData.eqv (py (.str w)) (py (.str "fold"))) = true then _ else _)
  rw [eqv_w rfl ow]
  rcases h with ⟨rfl, i, rfl, rfl⟩ | ⟨ne, nf⟩
  · have e : isW "fold" (.str "fold") = true := by decide +kernel
    rw [e]
    obtain ⟨t, g, k, m, ht, hf⟩ := raw_foldC hr
    rw [rm_fold ht hf] at kp
    refine iteF ⟨trivial, .int (i : Nat), rfl, rfl, n, i, ts, t, rfl, ho, ht, ?_⟩
    rw [hf]
    refine ⟨rfl, ?_⟩
    refine ⟨okD_of (n := 1) rfl, okD_of (n := 1) rfl, ?_⟩
    show (if PyData.eqv (py (.int (r : Nat))) (py (.int (g : Nat))) = true then _ else _)
    rw [eqv_int]
    by_cases c1 : r = g
    · rw [decide_eq_true (by omega)]
      rw [if_pos c1] at kp
      exact ⟨rfl, k, g, rfl, kp⟩
    · rw [decide_eq_false (by omega)]
      rw [if_neg c1] at kp
      exact ⟨rfl, r, g, rfl, kp⟩
  · have e : isW "fold" (.str w) = false := by
      show (w == "fold") = false
      exact beq_eq_false_iff_ne.mpr ne
    rw [e]
    rw [rm_not nf] at kp
    exact kp
theorem chB_raw {d : D} {z : Nat × List SdT} (h : chB n ts d = some z) : ∃ c, chOf ts.length d = some c ∧ rawT n ts c ≠ none ∧ behT n ts c = some z := by
  unfold chB at h
  obtain ⟨c, hc, hb⟩ := Option.bind_eq_some_iff.mp h
  refine ⟨c, hc, fun z => ?_, hb⟩
  unfold behT at hb
  rw [z] at hb
  cases hb
/-! room_along -/
def S_room_alongC : PF := fun ds T post ex => (∃ h d r, ds = [h, d, r] ∧ isO oneH [] h = some false ∧ ex "BadHouse" [] T) ∨ ∃ (n : Nat) (ts : List SdT) (d rd : D), ds = [houseD n (ts.map sdD), d, rd] ∧ BehI n ts ∧ ChD d ∧ plainD rd = true ∧
  (chB n ts d = none → ex "BadChange" [] T) ∧ (chB n ts d ≠ none → within rd 0 ((n : Int) - 1) = false → ex "BadRoom" [] T) ∧ (∀ (r : Nat) (c : ChT), chB n ts d ≠ none → chOf ts.length d = some c → rd = .int (r : Nat) → r < n → post (.fz (.int (rmT ts r c : Nat))) T)
def G_room_alongC : DG := (gSeq (gDrop (dCallX S_changedC 2 (aCons (dVar 0) (aCons (dVar 1) aNil))))
    (gSeq (gDrop (dCallX S_need_room 2 (aCons (dVar 0) (aCons (dVar 2) aNil))))
    (gRet (dCall S__room_alongC 3 (aCons (dVar 0) (aCons (dVar 1) (aCons (dVar 2) aNil)))))))
theorem m_room_alongC : ∀ (ds : List D) T post ex, ds.length = 3 → S_room_alongC ds T post ex → G_room_alongC (endsOf post ex) (startD 3 ds T) := by
  rintro ds T post ex _ (⟨h, d, r, rfl, hh, hx⟩ | ⟨n, ts, d, rd, rfl, H, cd, pr, k1, k2, k3⟩)
  · exact ⟨rfl, .inl ⟨h, d, rfl, hh, hx⟩⟩
  · refine ⟨rfl, .inr ⟨n, ts, d, rfl, H, cd, k1, fun z hz => ?_⟩⟩
    have nn : chB n ts d ≠ none := by rw [hz]; exact fun e => by cases e
    refine ⟨rfl, n, _, rd, rfl, pr, fun hw => ?_, fun hw => k2 nn hw⟩
    obtain ⟨r, hr, rn⟩ := nat_in.mp hw
    obtain rfl := nat_is hr
    obtain ⟨c, hc, hraw, _⟩ := chB_raw hz
    exact ⟨rfl, n, ts, d, c, r, rfl, H.ok, cd, hc, hraw, k3 r c nn hc rfl rn⟩
/-! changes one after another -/
def runH : Nat × List SdT → List D → Option (List (Nat × List SdT))
  | z, [] => some [z]
  | z, d :: ds => match chB z.1 z.2 d with
    | none => none
    | some y => (runH y ds).map (z :: ·)
def S__houses_metC : PF := fun ds T post ex => (∃ h d, ds = [h, d] ∧ isO oneH [] h = some false ∧ ex "BadHouse" [] T) ∨
  (∃ (n : Nat) (ts : List SdT) (d : D), ds = [houseD n (ts.map sdD), d] ∧ plainD d = true ∧ (seqC d = false ∨ ∃ cs, (d = .lst cs ∨ d = .tup cs) ∧ 30 < cs.length ∧ cs.length ≤ 100000) ∧ ex "BadChanges" [] T) ∨
  ∃ (n : Nat) (ts : List SdT) (d : D) (cs : List D), ds = [houseD n (ts.map sdD), d] ∧ BehI n ts ∧ (d = .lst cs ∨ d = .tup cs) ∧ cs.length ≤ 30 ∧ (∀ c ∈ cs, ChD c) ∧
    (runH (n, ts) cs = none → ex "BadChanges" [] T) ∧ (∀ L, runH (n, ts) cs = some L → post (.fz (.lst (L.map hsD))) T)
def G_hmC0 : DG := (gSeq (gSet 4 (dCall S__outcomeC 2 (aCons (dIxV 2 (dNeg (dC (.int 1)))) (aCons (dVar 3) aNil))))
    (gSeq (gIf (dTest (dOp dIsN (dVar 4) (dC .non))) (gRaise "BadChanges") gNil)
    (gApp 2 (dVar 4))))
def G_hmC1 : DG := (gSeq (gFor (iSeq (dVar 1)) (tgN 3) G_hmC0)
    (gRet (dVar 2)))
def G_hmC2 : DG := (gSeq (gSetO 2 (dLst (aCons (dVar 0) aNil)))
    G_hmC1)
def G_hmC3 : DG := (gSeq (gIf (tOrD (tNotD (dTest (dCall S_is_listC 1 (aCons (dVar 1) aNil)))) (dTest (dOp (dCmpI fun i j => decide (j < i)) (dCB cLen (aCons (dVar 1) aNil)) (dC (.int 30))))) (gRaise "BadChanges") gNil)
    G_hmC2)
def G__houses_metC : DG := (gSeq (gDrop (dCallX S_need_house 1 (aCons (dVar 0) aNil)))
    G_hmC3)
def hmS (h d : D) (L : List (Nat × List SdT)) (v3 v4 : OS) (T : Nat) : DS := ⟨[some (.fz h), some (.fz d), some (.ow (.lst (L.map hsD))), v3, v4], T⟩
theorem run_len : ∀ {cs : List D} {z : Nat × List SdT} {L : List (Nat × List SdT)}, runH z cs = some L → L.length = cs.length + 1
  | [], z, L, h => by cases h; rfl
  | d :: ds, z, L, h => by
    have h : (match chB z.1 z.2 d with
      | none => none
      | some y => (runH y ds).map (z :: ·)) = some L := h
    cases hc : chB z.1 z.2 d with
    | none => rw [hc] at h; cases h
    | some y =>
      rw [hc] at h
      obtain ⟨M, hM, rfl⟩ := Option.map_eq_some_iff.mp h
      rw [List.length_cons, run_len hM]
      rfl
theorem run_last : ∀ {cs : List D} {z : Nat × List SdT} {L : List (Nat × List SdT)}, runH z cs = some L → ∃ M y, L = M ++ [y]
  | [], z, L, h => by cases h; exact ⟨[], z, rfl⟩
  | d :: ds, z, L, h => by
    have h : (match chB z.1 z.2 d with
      | none => none
      | some y => (runH y ds).map (z :: ·)) = some L := h
    cases hc : chB z.1 z.2 d with
    | none => rw [hc] at h; cases h
    | some y =>
      rw [hc] at h
      obtain ⟨M, hM, rfl⟩ := Option.map_eq_some_iff.mp h
      obtain ⟨M2, w, rfl⟩ := run_last hM
      exact ⟨z :: M2, w, rfl⟩
theorem m__houses_metC : ∀ (ds : List D) T post ex, ds.length = 2 → S__houses_metC ds T post ex → G__houses_metC (endsOf post ex) (startD 5 ds T) := by
  rintro ds T post ex _ (⟨h, d, rfl, hh, hx⟩ | ⟨n, ts, d, rfl, pd, hb, hx⟩ | ⟨n, ts, d, cs, rfl, H, hd, hl, hcd, kx, kp⟩)
  · exact ⟨rfl, h, false, rfl, hh, (fun z => by cases z), fun _ => hx⟩
  · refine ⟨rfl, houseD n (ts.map sdD), true, rfl, rfl, fun _ => ?_, fun z => by cases z⟩
    refine ⟨rfl, d, rfl, pd, ?_⟩
    rcases hb with h | ⟨cs, h, l1, l2⟩
    · rw [h]
      exact hx
    · have e : seqC d = true := by rcases h with rfl | rfl <;> rfl
      rw [e]
      rcases h with rfl | rfl
      · refine iteF ?_
        show (if decide ((30 : Int) < ((cs.length : Nat) : Int)) = true then _ else _)
        rw [if_pos (decide_eq_true (by omega))]
        exact hx
      · refine iteF ?_
        show (if decide ((30 : Int) < ((cs.length : Nat) : Int)) = true then _ else _)
        rw [if_pos (decide_eq_true (by omega))]
        exact hx
  · refine ⟨rfl, houseD n (ts.map sdD), true, rfl, rfl, fun _ => ?_, fun z => by cases z⟩
    have pd : plainD d = true := by rcases hd with rfl | rfl <;> rfl
    have its : itemsOf d = some cs := by rcases hd with rfl | rfl <;> rfl
    have key : G_hmC1 (endsOf post ex) (hmS (houseD n (ts.map sdD)) d [(n, ts)] none none T) := by
      refine gFor_inv (fun i s => ∃ M z v3 v4, s = hmS (houseD n (ts.map sdD)) d (M ++ [z]) v3 v4 T ∧ M.length = i ∧ BehI z.1 z.2 ∧ runH (n, ts) cs = (runH z (cs.drop i)).map (M ++ ·)) cs (fun Q hQ => ⟨cs, its, hQ _ ⟨[], (n, ts), _, _, rfl, rfl, H, by show _ = (runH (n, ts) cs).map ([] ++ ·); cases runH (n, ts) cs <;> rfl⟩⟩) ?_ ?_
      · rintro i c s hi ⟨M, z, v3, v4, rfl, lM, HB, hr⟩ R hR
        have il := get_lt hi
        have hdr : cs.drop i = c :: cs.drop (i + 1) := by
          rw [List.drop_eq_getElem_cons il]
          rw [List.getElem?_eq_getElem il] at hi
          rw [Option.some.inj hi]
        rw [hdr] at hr
        have hr : runH (n, ts) cs = (match chB z.1 z.2 c with
          | none => none
          | some y => (runH y (cs.drop (i + 1))).map (z :: ·)).map (M ++ ·) := hr
        have at1 : atI ((M ++ [z]).map hsD) (-1) = some (hsD z) := by
          rw [List.map_append]
          exact atI_last _
        refine ⟨trivial, _, at1, rfl, z.1, z.2, c, rfl, HB, hcd c (List.mem_of_getElem? hi), ?_⟩
        cases hc : chB z.1 z.2 c with
        | none =>
          rw [hc] at hr
          exact kx hr
        | some y =>
          rw [hc] at hr
          obtain ⟨c0, _, _, hb⟩ := chB_raw hc
          have k2 := hR (hmS (houseD n (ts.map sdD)) d (M ++ [z] ++ [y]) (some (.fz c)) (some (.fz (hsD y))) T) ⟨M ++ [z], y, _, _, rfl, by rw [List.length_append, lM]; rfl, beh_ok HB hb, by
            rw [hr]
            show ((runH y (cs.drop (i + 1))).map (z :: ·)).map (M ++ ·) = _
            rw [Option.map_map]
            refine congrArg (fun f => (runH y (cs.drop (i + 1))).map f) (funext fun L => ?_)
            show M ++ (z :: L) = M ++ [z] ++ L
            rw [List.append_assoc]
            rfl⟩
          unfold hmS at k2
          rw [List.map_append] at k2
          exact ⟨(show ((M ++ [z]).map hsD).length < 100000 by rw [List.length_map, List.length_append]; show _ + 1 < _; omega), k2⟩
      · rintro s ⟨M, z, v3, v4, rfl, lM, HB, hr⟩
        rw [List.drop_length] at hr
        exact kp (M ++ [z]) hr
    have go : G_hmC2 (endsOf post ex) ⟨[some (.fz (houseD n (ts.map sdD))), some (.fz d), none, none, none], T⟩ := ⟨nle rfl, key⟩
    refine ⟨rfl, d, rfl, pd, ?_⟩
    have e : seqC d = true := by rcases hd with rfl | rfl <;> rfl
    rw [e]
    rcases hd with rfl | rfl
    · refine iteF ?_
      show (if decide ((30 : Int) < ((cs.length : Nat) : Int)) = true then _ else _)
      rw [if_neg (by rw [decide_eq_false (by omega)]; exact Bool.false_ne_true)]
      exact go
    · refine iteF ?_
      show (if decide ((30 : Int) < ((cs.length : Nat) : Int)) = true then _ else _)
      rw [if_neg (by rw [decide_eq_false (by omega)]; exact Bool.false_ne_true)]
      exact go
def S_changed_byC : PF := fun ds T post ex => (∃ h d, ds = [h, d] ∧ isO oneH [] h = some false ∧ ex "BadHouse" [] T) ∨
  (∃ (n : Nat) (ts : List SdT) (d : D), ds = [houseD n (ts.map sdD), d] ∧ plainD d = true ∧ (seqC d = false ∨ ∃ cs, (d = .lst cs ∨ d = .tup cs) ∧ 30 < cs.length ∧ cs.length ≤ 100000) ∧ ex "BadChanges" [] T) ∨
  ∃ (n : Nat) (ts : List SdT) (d : D) (cs : List D), ds = [houseD n (ts.map sdD), d] ∧ BehI n ts ∧ (d = .lst cs ∨ d = .tup cs) ∧ cs.length ≤ 30 ∧ (∀ c ∈ cs, ChD c) ∧
    (runH (n, ts) cs = none → ex "BadChanges" [] T) ∧ (∀ M z, runH (n, ts) cs = some (M ++ [z]) → post (.fz (hsD z)) T)
def G_changed_byC : DG := (gRet (dOp dIx (dCallX S__houses_metC 2 (aCons (dVar 0) (aCons (dVar 1) aNil))) (dNeg (dC (.int 1)))))
theorem m_changed_byC : ∀ (ds : List D) T post ex, ds.length = 2 → S_changed_byC ds T post ex → G_changed_byC (endsOf post ex) (startD 2 ds T) := by
  rintro ds T post ex _ (⟨h, d, rfl, hh, hx⟩ | ⟨n, ts, d, rfl, pd, hb, hx⟩ | ⟨n, ts, d, cs, rfl, H, hd, hl, hcd, kx, kp⟩)
  · exact ⟨rfl, .inl ⟨h, d, rfl, hh, hx⟩⟩
  · exact ⟨rfl, .inr (.inl ⟨n, ts, d, rfl, pd, hb, hx⟩)⟩
  · refine ⟨rfl, .inr (.inr ⟨n, ts, d, cs, rfl, H, hd, hl, hcd, kx, fun L hL => ?_⟩)⟩
    obtain ⟨M, y, rfl⟩ := run_last hL
    refine ⟨hsD y, by rw [List.map_append]; exact atI_last _, kp M y hL⟩
end
end Law


set_option Elab.async false
set_option linter.all false
set_option maxRecDepth 100000
set_option maxHeartbeats 4000000
namespace Law
open PySem L2 DL
variable [Tb]
section
variable {T n : Nat} {ts : List SdT} {E : DE} {v6 v7 v8 v9 : OS}
/-! _law_ch_is_step of any thing -/
def S__law_ch_is_stepC : PF := fun ds T post _ => ∃ (ts : List SdT) (d : D), ds = [.tup (ts.map sdD), d] ∧ ts.length ≤ 1000 ∧ plainD d = true ∧ plainDs d = true ∧ post (.fz (.bl (isPass ts.length d))) T
theorem isInt_is {d : D} (h : isInt d = true) : ∃ i, d = .int i := by cases d <;> first | exact ⟨_, rfl⟩ | cases h
theorem within_no {d : D} {a b : Int} (h : isInt d = false) : within d a b = false := by cases d <;> first | rfl | cases h
def G__law_ch_is_stepC : DG := (gSeq (gIf (tOrD (tNotD (dTest (dIsTy "tuple" (dVar 1)))) (tOrD (dTest (dOp dNe (dCB cLen (aCons (dVar 1) aNil)) (dC (.int 2)))) (tOrD (tNotD (dTest (dCall S__law_is_whole 1 (aCons (dIxV 1 (dC (.int 0))) aNil)))) (tNotD (dTest (dCall S__law_is_whole 1 (aCons (dIxV 1 (dC (.int 1))) aNil))))))) (gRet (dC (.bl false))) gNil)
    (gRet (dAnd (dChain (dCmpI fun i j => decide (i ≤ j)) (dCmpI fun i j => decide (i < j)) (dC (.int 0)) (dIxV 1 (dC (.int 0))) (dCB cLen (aCons (dVar 0) aNil))) (dOp (dIn false) (dIxV 1 (dC (.int 1))) (dTup (aCons (dC (.int 0)) (aCons (dC (.int 1)) aNil)))))))
theorem m__law_ch_is_stepC : ∀ (ds : List D) T post ex, ds.length = 2 → S__law_ch_is_stepC ds T post ex → G__law_ch_is_stepC (endsOf post ex) (startD 2 ds T) := by
  rintro ds T post ex _ ⟨ts, d, rfl, hl, pd, pds, k⟩
  cases d with
  | tup xs =>
    refine ⟨_, true, rfl, by decide +kernel, okD_of (n := 1) rfl, okD_of (n := 1) rfl, ?_⟩
    show (if (!PyData.eqv (py (.int ((xs.length : Nat) : Int))) (py (.int 2))) = true then _ else _)
    rw [eqv_int]
    match xs, pds, k with
    | [], _, k => exact k
    | [_], _, k => exact k
    | a :: b :: c :: r, _, k =>
      rw [decide_eq_false (by rw [List.length_cons, List.length_cons, List.length_cons]; omega)]
      exact k
    | [a, b], pds, k =>
      have pds : [a, b].all plainD = true := pds
      rw [List.all_cons, List.all_cons, Bool.and_eq_true, Bool.and_eq_true] at pds
      rw [decide_eq_true (show ((([a, b] : List D).length : Nat) : Int) = 2 from rfl)]
      have k : post (.fz (.bl (within a 0 ((ts.length : Int) - 1) && within b 0 1))) T := k
      refine iteF ⟨trivial, a, rfl, rfl, _, rfl, pds.1, ?_⟩
      cases ha : isInt a with
      | false =>
        rw [within_no ha] at k
        exact k
      | true =>
        obtain ⟨i, rfl⟩ := isInt_is ha
        refine ⟨trivial, b, rfl, rfl, _, rfl, pds.2.1, ?_⟩
        cases hb : isInt b with
        | false =>
          rw [within_no hb, Bool.and_false] at k
          exact k
        | true =>
          obtain ⟨s, rfl⟩ := isInt_is hb
          have k : post (.fz (.bl ((decide (0 ≤ i) && decide (i ≤ (ts.length : Int) - 1)) && (decide (0 ≤ s) && decide (s ≤ 1))))) T := k
          have lm : (((ts.map sdD).length : Nat) : Int) = (ts.length : Int) := by rw [List.length_map]
          show (dChain (dCmpI fun i j => decide (i ≤ j)) (dCmpI fun i j => decide (i < j)) (dC (.int 0)) (dIxV 1 (dC (.int 0))) (dCB cLen (aCons (dVar 0) aNil))) ⟨[some (.fz (.tup (ts.map sdD))), some (.fz (.tup [.int i, .int s]))], T⟩ _ _
          have fin : ∀ c : Bool, (c = (decide (0 ≤ i) && decide (i ≤ (ts.length : Int) - 1))) → (match D.bl c with | .bl true => (dOp (dIn false) (dIxV 1 (dC (.int 1))) (dTup (aCons (dC (.int 0)) (aCons (dC (.int 1)) aNil)))) ⟨[some (.fz (.tup (ts.map sdD))), some (.fz (.tup [.int i, .int s]))], T⟩ (fun d s1 => (endsOf post ex).rt (.fz d) s1.T) (endsOf post ex).ex | .bl false => (endsOf post ex).rt (.fz (.bl false)) T | _ => False) := by
            intro c hc
            rw [← hc] at k
            cases c with
            | false => exact k
            | true =>
              refine ⟨trivial, .int s, rfl, (show 2 ≤ 100000 by decide), okD_of (n := 1) rfl, okD_of (n := 2) rfl, ?_⟩
              show post (.fz (.bl (PyData.eqv (py (.int 0)) (py (.int s)) || (PyData.eqv (py (.int 1)) (py (.int s)) || false)))) T
              rw [eqv_int, eqv_int, Bool.or_false]
              have e : (true && (decide (0 ≤ s) && decide (s ≤ 1))) = (decide (0 = s) || decide (1 = s)) := by
                rw [Bool.true_and, Bool.eq_iff_iff]
                simp only [Bool.and_eq_true, Bool.or_eq_true, decide_eq_true_eq]
                omega
              rw [e] at k
              exact k
          have key : (dChain (dCmpI fun i j => decide (i ≤ j)) (dCmpI fun i j => decide (i < j)) (dC (.int 0)) (dIxV 1 (dC (.int 0))) (dCB cLen (aCons (dVar 0) aNil))) ⟨[some (.fz (.tup (ts.map sdD))), some (.fz (.tup [.int i, .int s]))], T⟩ (fun d s1 => match d with | .bl true => (dOp (dIn false) (dIxV 1 (dC (.int 1))) (dTup (aCons (dC (.int 0)) (aCons (dC (.int 1)) aNil)))) s1 (fun d s1 => (endsOf post ex).rt (.fz d) s1.T) (endsOf post ex).ex | .bl false => (endsOf post ex).rt (.fz (.bl false)) s1.T | _ => False) (endsOf post ex).ex := by
            refine chI (i := 0) (j := i) (k := (((ts.map sdD).length : Nat) : Int)) (s1 := ⟨[some (.fz (.tup (ts.map sdD))), some (.fz (.tup [.int i, .int s]))], T⟩) (s2 := ⟨[some (.fz (.tup (ts.map sdD))), some (.fz (.tup [.int i, .int s]))], T⟩) (s3 := ⟨[some (.fz (.tup (ts.map sdD))), some (.fz (.tup [.int i, .int s]))], T⟩) (fun Q h => h) (fun Q h => ⟨trivial, _, rfl, h⟩) (fun Q h => h) (fun h1 => fin _ ?_) fun h0 => ?_
            · rw [h1, Bool.true_and, lm]
              exact decide_eq_decide.mpr (by omega)
            · exact fin false (by rw [h0, Bool.false_and])
          exact key
  | obj _ _ => cases pd
  | exc _ _ => cases pd
  | st => cases pd
  | scr _ => cases pd
  | fn _ => cases pd
  | _ => exact ⟨_, false, rfl, by decide +kernel, k⟩
/-! _law_ch_raw of any thing -/
def S__law_ch_rawC : PF := fun ds T post _ => ∃ (n : Nat) (ts : List SdT) (d : D), ds = [.int n, .tup (ts.map sdD), d] ∧ (∀ t ∈ ts, SdOk n t) ∧ ts.length ≤ 1000 ∧ 1 ≤ n ∧ n ≤ 1000 ∧ ChD d ∧
  (∀ v x f s, PutX n d v ts x f s → post (.fz v) T) ∧ post (.fz (cwD ((chOf ts.length d).bind (rawT n ts)))) T
def G_cw7C : DG := (gSeq (gIf (tAndD (dTest (dOp dEq (dVar 3) (dC (.str "slide")))) (dTest (dOp dEq (dCB cLen (aCons (dVar 2) aNil)) (dC (.int 3))))) (gSeq (gIf (tOrD (tNotD (dTest (dCall S__law_ch_is_stepC 2 (aCons (dVar 1) (aCons (dVar 4) aNil))))) (tNotD (dTest (dCall S__law_ch_is_stepC 2 (aCons (dVar 1) (aCons (dIxV 2 (dC (.int 2))) aNil)))))) (gRet (dC .non)) gNil) (gSeq (gSet 6 (dCall S__law_ch_slid 3 (aCons (dVar 1) (aCons (dVar 4) (aCons (dIxV 2 (dC (.int 2))) aNil))))) (gRet (dIfE (dTest (dOp dIsN (dVar 6) (dC .non))) (dC .non) (dTup (aCons (dVar 0) (aCons (dVar 6) aNil))))))) gNil)
    G_cw6)
def G_cw8C : DG := (gSeq (gUnp (tgTup 3 (tgCons (tgN 3) (tgCons (tgN 4) (tgCons (tgN 5) tgNil)))) (dTup (aCons (dIxV 2 (dC (.int 0))) (aCons (dIxV 2 (dC (.int 1))) (aCons (dCB cLen (aCons (dVar 1) aNil)) aNil)))))
    G_cw7C)
def G__law_ch_rawC : DG := (gSeq (gIf (tOrD (tNotD (dTest (dIsTy "tuple" (dVar 2)))) (tOrD (dTest (dOp (dCmpI fun i j => decide (i < j)) (dCB cLen (aCons (dVar 2) aNil)) (dC (.int 2)))) (tNotD (dTest (dIsTy "str" (dIxV 2 (dC (.int 0)))))))) (gRet (dC .non)) gNil)
    G_cw8C)
theorem cw_startC {w : Str} {x : D} {rest : List D} (h : G_cw7C E (cwS n ts (.tup (.str w :: x :: rest)) (.str w) x none none none none T)) : G__law_ch_rawC E (startD 10 [.int n, .tup (ts.map sdD), .tup (.str w :: x :: rest)] T) := by
  refine ⟨_, true, rfl, by decide +kernel, ?_⟩
  show (if decide ((((D.str w :: x :: rest).length : Nat) : Int) < 2) = true then _ else _)
  rw [decide_eq_false (by rw [List.length_cons, List.length_cons]; omega)]
  refine iteF ⟨trivial, .str w, atI_nat (i := 0) rfl, _, true, rfl, by decide +kernel, ?_⟩
  refine ⟨trivial, _, atI_nat (i := 0) rfl, trivial, _, atI_nat (i := 1) rfl, (show 3 ≤ 100000 by decide), rfl, ?_⟩
  show G_cw7C E ⟨[some (.fz (.int (n : Nat))), some (.fz (.tup (ts.map sdD))), some (.fz (.tup (.str w :: x :: rest))), some (.fz (.str w)), some (.fz x), some (.fz (.int ((ts.map sdD).length : Nat))), none, none, none, none], T⟩
  rw [List.length_map]
  exact h
/-- what a tuple that starts with a word says -/
theorem ch2 {m : Nat} {w : Str} {x : D} : chOf m (.tup [.str w, x]) = if (w == "fold") = true then (natOf x).map .fold else if (w == "turn") = true then (natOf x).map .turn else if (w == "swap") = true then (natOf x).map .swap else none := rfl
theorem ch3 {m : Nat} {w : Str} {x y : D} : chOf m (.tup [.str w, x, y]) = if (w == "slide") = true then (passOf m x).bind fun e => (passOf m y).map fun o => .slide e o else none := rfl
theorem ch4 {m : Nat} {w : Str} {x f s : D} : chOf m (.tup [.str w, x, f, s]) = if (w == "put") = true then chPut x f s else none := rfl
theorem ch_nat {m : Nat} {w : Str} {x : D} {rest : List D} (hs : ¬ (w = "slide" ∧ rest.length = 1)) (h : natOf x = none) : chOf m (.tup (.str w :: x :: rest)) = none := by
  match rest, hs with
  | [], _ =>
    rw [ch2, h]
    split
    · rfl
    · split
      · rfl
      · split <;> rfl
  | [y], hs =>
    rw [ch3, if_neg fun z => hs ⟨beq_iff_eq.mp z, rfl⟩]
  | [f, s], _ =>
    rw [ch4]
    split
    · unfold chPut
      rw [h]
    · rfl
  | _ :: _ :: _ :: _, _ => rfl
theorem ch_nw {m : Nat} {w : D} {rest : List D} (h : ∀ t, w ≠ .str t) : chOf m (.tup (w :: rest)) = none := by
  have e : ∀ s, isW s w = false := fun s => by cases w <;> first | rfl | (exact absurd rfl (h _))
  match rest with
  | [] => rfl
  | [x] =>
    show (if isW "fold" w = true then (natOf x).map ChT.fold else if isW "turn" w = true then (natOf x).map .turn else if isW "swap" w = true then (natOf x).map .swap else none) = none
    rw [e, e, e]
    rfl
  | [x, y] =>
    show (if isW "slide" w = true then (passOf m x).bind fun e => (passOf m y).map fun o => ChT.slide e o else none) = none
    rw [e]
    rfl
  | [x, f, s] =>
    show (if isW "put" w = true then chPut x f s else none) = none
    rw [e]
    rfl
  | _ :: _ :: _ :: _ :: _ => rfl
/-- two parts: folds, turns, swaps -/
theorem cw3C {w : Str} {r : Nat} (ow : okD (.str w) = true) (ho : ∀ t ∈ ts, SdOk n t) (hl : ts.length ≤ 1000) (n1 : 1 ≤ n) (k : E.rt (.fz (cwD ((chOf ts.length (.tup [.str w, .int (r : Nat)])).bind (rawT n ts)))) T) :
    G_cw3 E (cwS n ts (.tup [.str w, .int (r : Nat)]) (.str w) (.int (r : Nat)) none none none none T) := by
  have hn : natOf (.int (r : Nat)) = some r := by
    show (if (0 : Int) ≤ (r : Int) then some (r : Int).toNat else none) = some r
    rw [if_pos (by omega), Int.toNat_natCast]
  rw [ch2, hn] at k
  cases c1 : (w == ("fold" : Str)) with
  | true =>
    rw [if_pos c1] at k
    obtain rfl := beq_iff_eq.mp c1
    exact cw_fold ho hl n1 k
  | false =>
    rw [c1, if_neg Bool.false_ne_true] at k
    refine cw3 ow c1 ?_
    cases c2 : (w == ("turn" : Str)) with
    | true =>
      rw [if_pos c2] at k
      obtain rfl := beq_iff_eq.mp c2
      refine ⟨okTurn, okTurn, ?_⟩
      show (if PyData.eqv (py (.str "turn")) (py (.str "turn")) = true then _ else _)
      rw [eqv_str, show (("turn" : Str) == ("turn" : Str)) = true by decide +kernel]
      have k : E.rt (.fz (cwD (if r < n then some (n, ts.map (tuT r)) else none))) T := k
      refine iteT (if_lt (fun h => ?_) fun h => ?_)
      · rw [if_pos h] at k
        exact cw_turn ho hl k
      · rw [if_neg h] at k
        exact cw1 okTurn (by decide +kernel) k
    | false =>
      rw [c2, if_neg Bool.false_ne_true] at k
      refine cw2 ow c2 ?_
      cases c3 : (w == ("swap" : Str)) with
      | true =>
        rw [if_pos c3] at k
        obtain rfl := beq_iff_eq.mp c3
        exact cw_swap k
      | false =>
        rw [c3, if_neg Bool.false_ne_true] at k
        exact cw1 ow c3 k
theorem cw4C {w : Str} {r : Nat} {rest : List D} (ow : okD (.str w) = true) (ho : ∀ t ∈ ts, SdOk n t) (hl : ts.length ≤ 1000) (n1 : 1 ≤ n) (k : rest = [] → E.rt (.fz (cwD ((chOf ts.length (.tup [.str w, .int (r : Nat)])).bind (rawT n ts)))) T) (k0 : rest ≠ [] → E.rt (.fz .non) T) :
    G_cw4 E (cwS n ts (.tup (.str w :: .int (r : Nat) :: rest)) (.str w) (.int (r : Nat)) none none none none T) := by
  refine ⟨okD_of (n := 1) rfl, okD_of (n := 1) rfl, ?_⟩
  show (if (!PyData.eqv (py (.int (((D.str w :: D.int (r : Nat) :: rest).length : Nat) : Int))) (py (.int 2))) = true then _ else _)
  rw [eqv_int]
  cases rest with
  | nil =>
    rw [decide_eq_true (show (((D.str w :: D.int (r : Nat) :: ([] : List D)).length : Nat) : Int) = 2 from rfl)]
    exact iteF (cw3C ow ho hl n1 (k rfl))
  | cons y ys =>
    rw [decide_eq_false (by rw [List.length_cons, List.length_cons, List.length_cons]; omega)]
    exact iteT (k0 (by intro z; cases z))
theorem cw5C {w : Str} {r : Nat} {rest : List D} (cd : ∀ x ∈ rest, okD x = true ∧ plainD x = true) (ow : okD (.str w) = true) (ho : ∀ t ∈ ts, SdOk n t) (hl : ts.length ≤ 1000) (n1 : 1 ≤ n) (hs : ¬ (w = "slide" ∧ rest.length = 1))
    (kx : ∀ v x f s, PutX n (.tup (.str w :: .int (r : Nat) :: rest)) v ts x f s → E.rt (.fz v) T) (k : E.rt (.fz (cwD ((chOf ts.length (.tup (.str w :: .int (r : Nat) :: rest))).bind (rawT n ts)))) T) :
    G_cw5 E (cwS n ts (.tup (.str w :: .int (r : Nat) :: rest)) (.str w) (.int (r : Nat)) none none none none T) := by
  have hn : natOf (.int (r : Nat)) = some r := by
    show (if (0 : Int) ≤ (r : Int) then some (r : Int).toNat else none) = some r
    rw [if_pos (by omega), Int.toNat_natCast]
  have on : ((w = "put" ∧ rest.length = 2) → ¬ r < n) → G_cw4 E (cwS n ts (.tup (.str w :: .int (r : Nat) :: rest)) (.str w) (.int (r : Nat)) none none none none T) := fun h4 => by
    refine cw4C ow ho hl n1 (fun e => by subst e; exact k) fun e => ?_
    match rest, hs, h4, k, e with
    | [], _, _, _, e => exact absurd rfl e
    | [y], hs, _, k, _ =>
      rw [ch3, if_neg fun z => hs ⟨beq_iff_eq.mp z, rfl⟩] at k
      exact k
    | [f, s], _, h4, k, _ =>
      rw [ch4] at k
      by_cases c : (w == ("put" : Str)) = true
      · rw [if_pos c, chPut_bad fun r0 s0 ⟨h1, h2, _⟩ => by
          rw [hn] at h1
          cases h1
          exact h4 ⟨beq_iff_eq.mp c, rfl⟩ h2] at k
        exact k
      · rw [if_neg c] at k
        exact k
    | _ :: _ :: _ :: _, _, _, k, _ => exact k
  refine ⟨ow, okPut, ?_⟩
  show (if PyData.eqv (py (.str w)) (py (.str "put")) = true then _ else _)
  rw [eqv_str]
  cases c1 : (w == ("put" : Str)) with
  | false =>
    refine iteF (on fun z => ?_)
    rw [z.1] at c1
    exact absurd c1 (by decide +kernel)
  | true =>
    obtain rfl := beq_iff_eq.mp c1
    refine iteT ⟨okD_of (n := 1) rfl, okD_of (n := 1) rfl, ?_⟩
    show (if PyData.eqv (py (.int (((D.str "put" :: D.int (r : Nat) :: rest).length : Nat) : Int))) (py (.int 4)) = true then _ else _)
    rw [eqv_int]
    by_cases c2 : rest.length = 2
    · rw [decide_eq_true (by rw [List.length_cons, List.length_cons]; omega)]
      refine iteT (if_lt (fun h => ?_) fun h => on fun _ => h)
      match rest, c2, cd, kx, k with
      | [f, s], _, cd, kx, k =>
        rw [ch4, if_pos c1] at k
        obtain ⟨os, ps⟩ := cd s (by simp)
        refine ⟨trivial, s, rfl, rfl, s, rfl, ps, ?_⟩
        cases his : isInt s with
        | false =>
          rw [chPut_bad fun r0 s0 ⟨_, _, h3, _⟩ => by rw [h3] at his; cases his] at k
          exact k
        | true =>
          obtain ⟨s, rfl⟩ := isInt_is his
          refine ⟨trivial, .int s, rfl, okD_of (n := 1) rfl, okD_of (n := 1) rfl, ?_⟩
          show (if (!PyData.eqv (py (.int (if s < 0 then -s else s))) (py (.int 1))) = true then _ else _)
          rw [eqv_int, abs_int1]
          by_cases c : s.natAbs = 1
          · rw [decide_eq_true c]
            have go : E.rt (.fz (.tup [.int ((n : Int) + 1), .lst (ts.map sdD ++ [.tup [.int (r : Nat), f, .int (n : Nat), .int s]])])) T := by
              cases hf : isInt f with
              | false => exact kx _ _ f s ⟨⟨.str "put", rfl, c1⟩, nat_in.mpr ⟨r, hn, h⟩, c, rfl, hf⟩
              | true =>
                obtain ⟨f0, rfl⟩ := isInt_is hf
                have e : (chPut (.int (r : Nat)) (.int f0) (.int s)).bind (rawT n ts) = some (n + 1, ts ++ [(r, f0, n, s)]) := by
                  unfold chPut
                  rw [hn]
                  show (if r < n ∧ s.natAbs = 1 then some (n + 1, ts ++ [(r, f0, n, s)]) else none) = _
                  rw [if_pos ⟨h, c⟩]
                rw [e] at k
                have k : E.rt (.fz (.tup [.int ((n + 1 : Nat) : Int), .lst ((ts ++ [(r, f0, n, s)]).map sdD)])) T := k
                rw [List.map_append] at k
                exact k
            refine iteF ⟨trivial, _, rfl, trivial, _, rfl, (show 4 ≤ 100000 by decide), ?_⟩
            exact ⟨(show 1 ≤ 100000 by decide), (show (ts.map sdD).length + 1 ≤ 100000 by rw [List.length_map]; omega), (show 2 ≤ 100000 by decide), go⟩
          · rw [decide_eq_false c]
            rw [chPut_bad fun r0 s0 ⟨_, _, h3, h4⟩ => by cases h3; exact c h4] at k
            exact iteT k
    · rw [decide_eq_false (by rw [List.length_cons, List.length_cons]; omega)]
      exact iteF (on fun z => absurd z.2 c2)
theorem cw6C {w : Str} {x : D} {rest : List D} (px : plainD x = true) (cd : ∀ x ∈ rest, okD x = true ∧ plainD x = true) (ow : okD (.str w) = true) (ho : ∀ t ∈ ts, SdOk n t) (hl : ts.length ≤ 1000) (n1 : 1 ≤ n) (hs : ¬ (w = "slide" ∧ rest.length = 1))
    (kx : ∀ v x' f s, PutX n (.tup (.str w :: x :: rest)) v ts x' f s → E.rt (.fz v) T) (k : E.rt (.fz (cwD ((chOf ts.length (.tup (.str w :: x :: rest))).bind (rawT n ts)))) T) :
    G_cw6 E (cwS n ts (.tup (.str w :: x :: rest)) (.str w) x none none none none T) := by
  refine ⟨rfl, _, rfl, px, ?_⟩
  cases hi : isInt x with
  | false =>
    rw [ch_nat hs (by cases x <;> first | rfl | cases hi)] at k
    exact k
  | true =>
    obtain ⟨i, rfl⟩ := isInt_is hi
    show (if decide (i < 0) = true then _ else _)
    by_cases c : i < 0
    · rw [ch_nat hs (by show (if 0 ≤ i then some i.toNat else none) = none; rw [if_neg (by omega)])] at k
      rw [decide_eq_true c]
      exact iteT k
    · rw [decide_eq_false c]
      obtain ⟨r, rfl⟩ : ∃ r : Nat, i = r := ⟨i.toNat, by omega⟩
      exact iteF (cw5C cd ow ho hl n1 hs kx k)
theorem m__law_ch_rawC : ∀ (ds : List D) T post ex, ds.length = 3 → S__law_ch_rawC ds T post ex → G__law_ch_rawC (endsOf post ex) (startD 10 ds T) := by
  rintro ds T post ex _ ⟨n, ts, d, rfl, ho, hl, n1, n2, cd, kx, k⟩
  have p := cd.p
  cases d with
  | tup xs =>
    match xs, cd, kx, k with
    | [], _, _, k => exact ⟨_, true, rfl, by decide +kernel, k⟩
    | [_], _, _, k => exact ⟨_, true, rfl, by decide +kernel, k⟩
    | w :: x :: rest, cd, kx, k =>
      obtain ⟨ow, pw, _⟩ := cd.i _ rfl w (by simp)
      obtain ⟨ox, px, qx⟩ := cd.i _ rfl x (by simp)
      have cr : ∀ x ∈ rest, okD x = true ∧ plainD x = true := fun y hy => by
        obtain ⟨a, b, _⟩ := cd.i _ rfl y (by simp [hy])
        exact ⟨a, b⟩
      have nw : (∀ t, w ≠ .str t) → ∀ ty, tyName w = some ty → kitB ty "str" = some false → G__law_ch_rawC (endsOf post ex) (startD 10 [.int n, .tup (ts.map sdD), .tup (w :: x :: rest)] T) := fun h ty h1 h2 => by
        rw [ch_nw h] at k
        refine ⟨_, true, rfl, by decide +kernel, ?_⟩
        show (if decide ((((w :: x :: rest).length : Nat) : Int) < 2) = true then _ else _)
        rw [decide_eq_false (by rw [List.length_cons, List.length_cons]; omega)]
        exact iteF ⟨trivial, w, atI_nat (i := 0) rfl, ty, false, h1, h2, k⟩
      cases w with
      | str w =>
        refine cw_startC ⟨ow, okSlide, ?_⟩
        show (if PyData.eqv (py (.str w)) (py (.str "slide")) = true then _ else _)
        rw [eqv_str]
        cases c1 : (w == ("slide" : Str)) with
        | false => exact iteF (cw6C px cr ow ho hl n1 (fun z => by rw [z.1] at c1; exact absurd c1 (by decide +kernel)) kx k)
        | true =>
          obtain rfl := beq_iff_eq.mp c1
          refine iteT ⟨okD_of (n := 1) rfl, okD_of (n := 1) rfl, ?_⟩
          show (if PyData.eqv (py (.int (((D.str "slide" :: x :: rest).length : Nat) : Int))) (py (.int 3)) = true then _ else _)
          rw [eqv_int]
          by_cases c2 : rest.length = 1
          · rw [decide_eq_true (by rw [List.length_cons, List.length_cons]; omega)]
            match rest, c2, cd, kx, k with
            | [y], _, cd, kx, k =>
              obtain ⟨oy, py', qy⟩ := cd.i _ rfl y (by simp)
              rw [ch3, if_pos c1] at k
              refine iteT ⟨rfl, ts, x, rfl, hl, px, qx, ?_⟩
              cases hx : isPass ts.length x with
              | false =>
                have e : passOf ts.length x = none := by
                  cases hn : passOf ts.length x with
                  | none => rfl
                  | some q => rw [pass_out.mpr ⟨q, hn⟩] at hx; cases hx
                rw [e] at k
                exact k
              | true =>
                obtain ⟨e, he⟩ := pass_out.mp hx
                obtain ⟨rfl, el, es⟩ := pass_st he
                rw [he] at k
                refine ⟨trivial, _, rfl, rfl, ts, y, rfl, hl, py', qy, ?_⟩
                cases hy : isPass ts.length y with
                | false =>
                  have e2 : passOf ts.length y = none := by
                    cases hn : passOf ts.length y with
                    | none => rfl
                    | some q => rw [pass_out.mpr ⟨q, hn⟩] at hy; cases hy
                  rw [e2] at k
                  exact k
                | true =>
                  obtain ⟨o, ho2⟩ := pass_out.mp hy
                  obtain ⟨rfl, ol, os⟩ := pass_st ho2
                  rw [ho2] at k
                  have k : post (.fz (cwD ((slT ts e o).map fun us => (n, us)))) T := k
                  refine ⟨trivial, _, rfl, ?_⟩
                  refine ⟨rfl, n, ts, e, o, rfl, ho, hl, el, ol, ?_⟩
                  cases hs : slT ts e o with
                  | none =>
                    rw [hs] at k
                    exact k
                  | some us =>
                    rw [hs] at k
                    exact ⟨(show 2 ≤ 100000 by decide), k⟩
          · rw [decide_eq_false (by rw [List.length_cons, List.length_cons]; omega)]
            exact iteF (cw6C px cr ow ho hl n1 (fun z => c2 z.2) kx k)
      | obj _ _ => cases pw
      | exc _ _ => cases pw
      | st => cases pw
      | scr _ => cases pw
      | fn _ => cases pw
      | _ => exact nw (fun t e => by cases e) _ rfl (by decide +kernel)
  | obj _ _ => cases p
  | exc _ _ => cases p
  | st => cases p
  | scr _ => cases p
  | fn _ => cases p
  | _ => exact ⟨_, false, rfl, by decide +kernel, k⟩
end
end Law


set_option Elab.async false
set_option linter.all false
set_option maxRecDepth 100000
set_option maxHeartbeats 4000000
namespace Law
open PySem L2 DL
variable [Tb]
section
variable {T n : Nat} {ts : List SdT} {E : DE}
/-! _law_ch_is_door: also of doors whose number is none -/
def S__law_ch_is_doorC : PF := fun ds T post _ => (∃ (t : SdT) (j : Nat), ds = [sdD t, .int j] ∧ post (.fz (.bl (sdB j t))) T) ∨ ∃ (r k j : Nat) (f : D) (s : Int), ds = [.tup [.int r, f, .int k, .int s], .int j] ∧ plainD f = true ∧ isInt f = false ∧ post (.fz (.bl false)) T
def G__law_ch_is_doorC : DG := (gSeq (gIf (tOrD (tNotD (dTest (dIsTy "tuple" (dVar 0)))) (dTest (dOp dNe (dCB cLen (aCons (dVar 0) aNil)) (dC (.int 4))))) (gRet (dC (.bl false))) gNil)
    (gSeq (gIf (dTest (dOp dNe (dLc [2] (iSeq (dVar 0)) (tgN 2) (tNotD (dTest (dCall S__law_is_whole 1 (aCons (dVar 2) aNil)))) (dC (.int 1))) (dLst aNil))) (gRet (dC (.bl false))) gNil)
    (gSeq (gIf (tOrD (tNotD (dTest (dChain (dCmpI fun i j => decide (i ≤ j)) (dCmpI fun i j => decide (i < j)) (dC (.int 0)) (dIxV 0 (dC (.int 0))) (dVar 1)))) (tNotD (dTest (dChain (dCmpI fun i j => decide (i ≤ j)) (dCmpI fun i j => decide (i < j)) (dC (.int 0)) (dIxV 0 (dC (.int 2))) (dVar 1))))) (gRet (dC (.bl false))) gNil)
    (gRet (dAnd (dChain (dCmpI fun i j => decide (i < j)) (dCmpI fun i j => decide (i < j)) (dC (.int 0)) (dCB cAbs (aCons (dIxV 0 (dC (.int 1))) aNil)) (dC (.int 1000))) (dChain (dCmpI fun i j => decide (i < j)) (dCmpI fun i j => decide (i < j)) (dC (.int 0)) (dCB cAbs (aCons (dIxV 0 (dC (.int 3))) aNil)) (dC (.int 1000))))))))
theorem m__law_ch_is_doorC : ∀ (ds : List D) T post ex, ds.length = 2 → S__law_ch_is_doorC ds T post ex → G__law_ch_is_doorC (endsOf post ex) (startD 3 ds T) := by
  rintro ds T post ex hlen (⟨t, j, rfl, k⟩ | ⟨r, k, j, f, s, rfl, pf, nf, kp⟩)
  · exact m__law_ch_is_door _ T post ex hlen ⟨t, j, rfl, fun b hb => by
      obtain rfl : b = sdB j t := Bool.eq_iff_iff.mpr (hb.trans sdB_iff.symm)
      exact k⟩
  · have go2 : G_isd2 (endsOf post ex) ⟨[some (.fz (.tup [.int r, f, .int k, .int s])), some (.fz (.int j)), none], T⟩ := by
      have key : F_isd ⟨[some (.fz (.tup [.int r, f, .int k, .int s])), some (.fz (.int j)), none], T⟩ (fun d s1 => (dLst aNil) s1 (fun z s2 => dNe d z fun w => match w with | .bl c => (if c = true then gRet (dC (.bl false)) { endsOf post ex with nx := G_isd1 (endsOf post ex) } s2 else G_isd1 (endsOf post ex) s2) | _ => False) (endsOf post ex).ex) (endsOf post ex).ex := by
        refine dLc_inv (fun i acc s' => acc = (if i ≤ 1 then [] else [.int 1]) ∧ s' = ⟨[some (.fz (.tup [.int r, f, .int k, .int s])), some (.fz (.int j)), none], T⟩) [.int r, f, .int k, .int s] (fun Q hQ => ⟨_, rfl, hQ _ ⟨rfl, rfl⟩⟩) ?_ ?_
        · rintro i d acc s' hi ⟨rfl, rfl⟩ Q hQ
          match i, hi with
          | 0, hi => cases hi; exact ⟨rfl, _, rfl, rfl, hQ _ _ ⟨rfl, rfl⟩⟩
          | 1, hi =>
            cases hi
            refine ⟨rfl, _, rfl, pf, ?_⟩
            rw [nf]
            exact ⟨(show 0 < 100000 by decide), hQ _ _ ⟨rfl, rfl⟩⟩
          | 2, hi => cases hi; exact ⟨rfl, _, rfl, rfl, hQ _ _ ⟨rfl, rfl⟩⟩
          | 3, hi => cases hi; exact ⟨rfl, _, rfl, rfl, hQ _ _ ⟨rfl, rfl⟩⟩
          | i + 4, hi => cases hi
        · rintro acc s' ⟨rfl, rfl⟩
          exact ⟨Nat.zero_le _, ones20 1 (by decide), rfl, kp⟩
      exact key
    exact ⟨_, true, rfl, by decide +kernel, okD_of (n := 1) rfl, okD_of (n := 1) rfl, go2⟩
/-! _law_ch_behind of any thing -/
theorem put_none {d v x f : D} {s : Int} (px : PutX n d v ts x f s) : chB n ts d = none := by
  obtain ⟨w, rfl, hw⟩ := px.he
  have hf := px.hf
  unfold chB
  have e : chOf ts.length (.tup [w, x, f, .int s]) = chPut x f (.int s) := by
    show (if isW "put" w = true then chPut x f (.int s) else none) = _
    rw [if_pos hw]
  rw [e]
  have : chPut x f (.int s) = none := by
    unfold chPut
    cases natOf x with
    | none => rfl
    | some r => cases f <;> first | rfl | cases hf
  rw [this]
  rfl
def S__law_ch_behindC : PF := fun ds T post _ => ∃ (n : Nat) (ts : List SdT) (d : D), ds = [.int n, .tup (ts.map sdD), d] ∧ (∀ t ∈ ts, SdOk n t) ∧ ts.length ≤ 1000 ∧ 1 ≤ n ∧ n ≤ 1000 ∧ ChD d ∧ post (.fz (plD (chB n ts d))) T
def F_cb3C : DF := (dLc [4] (iSeq (dIxV 3 (dC (.int 1)))) (tgN 4) (tNotD (dTest (dCall S__law_ch_is_doorC 2 (aCons (dVar 4) (aCons (dIxV 3 (dC (.int 0))) aNil))))) (dC (.int 1)))
def G_cb2C : DG := (gSeq (gIf (dTest (dOp dNe F_cb3C (dLst aNil))) (gRet (dC .non)) gNil)
    G_cb1)
def G_cb3C : DG := (gSeq (gIf (tOrD (dTest (dOp dIsN (dVar 3) (dC .non))) (tOrD (dTest (dOp (dCmpI fun i j => decide (j < i)) (dIxV 3 (dC (.int 0))) (dC (.int 12)))) (dTest (dOp (dCmpI fun i j => decide (j < i)) (dCB cLen (aCons (dIxV 3 (dC (.int 1))) aNil)) (dC (.int 20)))))) (gRet (dC .non)) gNil)
    G_cb2C)
def G__law_ch_behindC : DG := (gSeq (gSet 3 (dCall S__law_ch_rawC 3 (aCons (dVar 0) (aCons (dVar 1) (aCons (dVar 2) aNil)))))
    G_cb3C)
theorem cb2C {u v w : D} {k : Nat} {us : List SdT} (hl : us.length ≤ 20) (hy : us.all (sdB k) = true → E.rt (.fz (.tup [.int (k : Nat), .tup (us.map sdD)])) T) (hno : us.all (sdB k) = false → E.rt (.fz .non) T) : G_cb2C E ⟨[some (.fz u), some (.fz v), some (.fz w), some (.fz (.tup [.int (k : Nat), .lst (us.map sdD)])), none], T⟩ := by
  have go : ∀ m : Nat, m ≤ 20 → (m = 0 ↔ us.all (sdB k) = true) → (dLst aNil) ⟨[some (.fz u), some (.fz v), some (.fz w), some (.fz (.tup [.int (k : Nat), .lst (us.map sdD)])), none], T⟩ (fun z s2 => dNe (.lst (List.replicate m (.int 1))) z fun w => match w with | .bl c => (if c = true then gRet (dC .non) { E with nx := G_cb1 E } s2 else G_cb1 E s2) | _ => False) E.ex := fun m hm hi => by
    refine ⟨Nat.zero_le _, ones20 m (by omega), rfl, ?_⟩
    show (if (!PyData.eqv (py (.lst (List.replicate m (.int 1)))) (py (.lst []))) = true then _ else _)
    rw [eqv_nil]
    by_cases c : m = 0
    · subst c
      refine iteF ⟨trivial, _, rfl, trivial, _, rfl, (show 2 ≤ 100000 by decide), hy (hi.mp rfl)⟩
    · have e : (List.replicate m (D.int 1)).isEmpty = false := by cases m with
        | zero => exact absurd rfl c
        | succ m => rfl
      rw [e]
      exact iteT (hno (by cases h : us.all (sdB k) with
        | true => exact absurd (hi.mpr h) c
        | false => rfl))
  have key : F_cb3C ⟨[some (.fz u), some (.fz v), some (.fz w), some (.fz (.tup [.int (k : Nat), .lst (us.map sdD)])), none], T⟩ (fun d s1 => (dLst aNil) s1 (fun z s2 => dNe d z fun w => match w with | .bl c => (if c = true then gRet (dC .non) { E with nx := G_cb1 E } s2 else G_cb1 E s2) | _ => False) E.ex) E.ex := by
    refine dLc_inv (fun i acc s => (∃ m, acc = List.replicate m (.int 1) ∧ m ≤ i ∧ (m = 0 ↔ (us.take i).all (sdB k) = true)) ∧ s = ⟨[some (.fz u), some (.fz v), some (.fz w), some (.fz (.tup [.int (k : Nat), .lst (us.map sdD)])), none], T⟩) (us.map sdD) (fun Q hQ => ⟨trivial, _, rfl, _, rfl, hQ _ ⟨⟨0, rfl, Nat.le_refl 0, by rw [List.take_zero]; exact ⟨fun _ => rfl, fun _ => rfl⟩⟩, rfl⟩⟩) ?_ ?_
    · rintro i d acc s hi ⟨⟨m, rfl, hm, hq⟩, rfl⟩ Q hQ
      rw [List.getElem?_map] at hi
      obtain ⟨t, ht, rfl⟩ := Option.map_eq_some_iff.mp hi
      have il := get_lt ht
      refine ⟨trivial, _, rfl, rfl, .inl ⟨t, k, rfl, ?_⟩⟩
      have tk : (us.take (i + 1)).all (sdB k) = ((us.take i).all (sdB k) && sdB k t) := by rw [take_succ_get ht, List.all_append, List.all_cons, List.all_nil, Bool.and_true]
      cases hb2 : sdB k t with
      | true =>
        refine hQ _ _ ⟨⟨m, rfl, by omega, ?_⟩, rfl⟩
        rw [tk, hb2, Bool.and_true]
        exact hq
      | false =>
        refine ⟨(show (List.replicate m (D.int 1)).length < 100000 by rw [List.length_replicate]; omega), hQ _ _ ⟨⟨m + 1, by rw [List.replicate_succ'], by omega, ?_⟩, rfl⟩⟩
        rw [tk, hb2, Bool.and_false]
        exact ⟨fun z => absurd z (by omega), fun z => (by cases z)⟩
    · rintro acc s ⟨⟨m, rfl, hm, hq⟩, rfl⟩
      rw [List.length_map] at hm hq
      rw [List.take_length] at hq
      exact go m (by omega) hq
  exact key
theorem cb2X {u v w : D} {r : Nat} {f : D} {s : Int} (pf : plainD f = true) (nf : isInt f = false) (hl : ts.length ≤ 19) (hno : E.rt (.fz .non) T) : G_cb2C E ⟨[some (.fz u), some (.fz v), some (.fz w), some (.fz (.tup [.int ((n : Int) + 1), .lst (ts.map sdD ++ [.tup [.int (r : Nat), f, .int (n : Nat), .int s]])])), none], T⟩ := by
  have go : ∀ m : Nat, m ≤ 20 → 0 < m → (dLst aNil) ⟨[some (.fz u), some (.fz v), some (.fz w), some (.fz (.tup [.int ((n : Int) + 1), .lst (ts.map sdD ++ [.tup [.int (r : Nat), f, .int (n : Nat), .int s]])])), none], T⟩ (fun z s2 => dNe (.lst (List.replicate m (.int 1))) z fun w => match w with | .bl c => (if c = true then gRet (dC .non) { E with nx := G_cb1 E } s2 else G_cb1 E s2) | _ => False) E.ex := fun m hm hi => by
    refine ⟨Nat.zero_le _, ones20 m (by omega), rfl, ?_⟩
    show (if (!PyData.eqv (py (.lst (List.replicate m (.int 1)))) (py (.lst []))) = true then _ else _)
    rw [eqv_nil]
    have e : (List.replicate m (D.int 1)).isEmpty = false := by cases m with
      | zero => exact absurd hi (Nat.lt_irrefl 0)
      | succ m => rfl
    rw [e]
    exact iteT hno
  have key : F_cb3C ⟨[some (.fz u), some (.fz v), some (.fz w), some (.fz (.tup [.int ((n : Int) + 1), .lst (ts.map sdD ++ [.tup [.int (r : Nat), f, .int (n : Nat), .int s]])])), none], T⟩ (fun d s1 => (dLst aNil) s1 (fun z s2 => dNe d z fun w => match w with | .bl c => (if c = true then gRet (dC .non) { E with nx := G_cb1 E } s2 else G_cb1 E s2) | _ => False) E.ex) E.ex := by
    refine dLc_inv (fun i acc s' => (∃ m, acc = List.replicate m (.int 1) ∧ m ≤ i ∧ (i = ts.length + 1 → 0 < m)) ∧ s' = ⟨[some (.fz u), some (.fz v), some (.fz w), some (.fz (.tup [.int ((n : Int) + 1), .lst (ts.map sdD ++ [.tup [.int (r : Nat), f, .int (n : Nat), .int s]])])), none], T⟩) (ts.map sdD ++ [.tup [.int (r : Nat), f, .int (n : Nat), .int s]]) (fun Q hQ => ⟨trivial, _, rfl, _, rfl, hQ _ ⟨⟨0, rfl, Nat.le_refl 0, fun z => by omega⟩, rfl⟩⟩) ?_ ?_
    · rintro i d acc s' hi ⟨⟨m, rfl, hm, hq⟩, rfl⟩ Q hQ
      have il := get_lt hi
      rw [List.length_append, List.length_map] at il
      have il : i < ts.length + 1 := il
      by_cases c : i < ts.length
      · rw [List.getElem?_append_left (by rw [List.length_map]; exact c), List.getElem?_map] at hi
        obtain ⟨t, ht, rfl⟩ := Option.map_eq_some_iff.mp hi
        refine ⟨trivial, _, rfl, rfl, .inl ⟨t, n + 1, rfl, ?_⟩⟩
        cases hb2 : sdB (n + 1) t with
        | true => exact hQ _ _ ⟨⟨m, rfl, by omega, fun z => by omega⟩, rfl⟩
        | false => exact ⟨(show (List.replicate m (D.int 1)).length < 100000 by rw [List.length_replicate]; omega), hQ _ _ ⟨⟨m + 1, by rw [List.replicate_succ'], by omega, fun z => by omega⟩, rfl⟩⟩
      · obtain rfl : i = ts.length := by omega
        rw [List.getElem?_append_right (by rw [List.length_map]; omega), List.length_map, Nat.sub_self] at hi
        cases hi
        refine ⟨trivial, _, rfl, rfl, .inr ⟨r, n, n + 1, f, s, rfl, pf, nf, ?_⟩⟩
        exact ⟨(show (List.replicate m (D.int 1)).length < 100000 by rw [List.length_replicate]; omega), hQ _ _ ⟨⟨m + 1, by rw [List.replicate_succ'], by omega, fun z => by omega⟩, rfl⟩⟩
    · rintro acc s' ⟨⟨m, rfl, hm, hq⟩, rfl⟩
      rw [List.length_append, List.length_map] at hm hq
      exact go m (by have : m ≤ ts.length + 1 := hm; omega) (hq rfl)
  exact key
theorem m__law_ch_behindC : ∀ (ds : List D) T post ex, ds.length = 3 → S__law_ch_behindC ds T post ex → G__law_ch_behindC (endsOf post ex) (startD 5 ds T) := by
  rintro ds T post ex _ ⟨n, ts, d, rfl, ho, hl, n1, n2, cd, k⟩
  refine ⟨rfl, n, ts, d, rfl, ho, hl, n1, n2, cd, fun v x f s px => ?_, ?_⟩
  · rw [put_none px] at k
    have k : post (.fz .non) T := k
    obtain ⟨w, rfl, hw⟩ := px.he
    have pf : plainD f = true := (cd.i _ rfl f (by simp)).2.1
    obtain ⟨r, hr, rn⟩ := nat_in.mp px.hx
    obtain rfl := nat_is hr
    have nf := px.hf
    rw [px.hv]
    show G_cb3C (endsOf post ex) ⟨[some (.fz (.int (n : Nat))), some (.fz (.tup (ts.map sdD))), some (.fz _), some (.fz (.tup [.int ((n : Int) + 1), .lst (ts.map sdD ++ [.tup [.int (r : Nat), f, .int (n : Nat), .int s]])])), none], T⟩
    refine ⟨trivial, _, rfl, ?_⟩
    show (if decide ((n : Int) + 1 > 12) = true then _ else _)
    by_cases c1 : n + 1 ≤ 12
    · rw [decide_eq_false (show ¬ (n : Int) + 1 > 12 by omega)]
      refine iteF ⟨trivial, _, rfl, ?_⟩
      show (if decide (((ts.map sdD ++ [D.tup [.int (r : Nat), f, .int (n : Nat), .int s]]).length : Int) > 20) = true then _ else _)
      rw [List.length_append, List.length_map]
      by_cases c2 : ts.length ≤ 19
      · rw [decide_eq_false (show ¬ ((ts.length + ([D.tup [.int (r : Nat), f, .int (n : Nat), .int s]] : List D).length : Nat) : Int) > 20 by rw [show ([D.tup [.int (r : Nat), f, .int (n : Nat), .int s]] : List D).length = 1 from rfl]; omega)]
        exact iteF (cb2X pf nf c2 k)
      · rw [decide_eq_true (show ((ts.length + ([D.tup [.int (r : Nat), f, .int (n : Nat), .int s]] : List D).length : Nat) : Int) > 20 by rw [show ([D.tup [.int (r : Nat), f, .int (n : Nat), .int s]] : List D).length = 1 from rfl]; omega)]
        exact iteT k
    · rw [decide_eq_true (show (n : Int) + 1 > 12 by omega)]
      exact iteT k
  · show G_cb3C (endsOf post ex) ⟨[some (.fz (.int (n : Nat))), some (.fz (.tup (ts.map sdD))), some (.fz d), some (.fz (cwD ((chOf ts.length d).bind (rawT n ts)))), none], T⟩
    have ce : chB n ts d = ((chOf ts.length d).bind (rawT n ts)).filter plOk := by
      unfold chB
      cases chOf ts.length d <;> rfl
    rw [ce] at k
    cases hr : (chOf ts.length d).bind (rawT n ts) with
    | none =>
      rw [hr] at k
      exact k
    | some z =>
      obtain ⟨j, us⟩ := z
      rw [hr] at k
      have no : plOk (j, us) = false → post (.fz .non) T := fun h => by
        rw [Option.filter_some, h] at k
        exact k
      have yes : plOk (j, us) = true → post (.fz (.tup [.int (j : Nat), .tup (us.map sdD)])) T := fun h => by
        rw [Option.filter_some, h] at k
        exact k
      have e : ∀ (a b : Bool), decide (j ≤ 12) = a → decide (us.length ≤ 20) = b → plOk (j, us) = (a && b && us.all (sdB j)) := fun a b h1 h2 => by subst h1 h2; rfl
      refine ⟨trivial, _, rfl, ?_⟩
      show (if decide ((j : Int) > 12) = true then _ else _)
      by_cases c1 : j ≤ 12
      · rw [decide_eq_false (show ¬ (j : Int) > 12 by omega)]
        refine iteF ⟨trivial, _, rfl, ?_⟩
        show (if decide (((us.map sdD).length : Int) > 20) = true then _ else _)
        rw [List.length_map]
        by_cases c2 : us.length ≤ 20
        · rw [decide_eq_false (show ¬ (us.length : Int) > 20 by omega)]
          have e := e true true (decide_eq_true c1) (decide_eq_true c2)
          exact iteF (cb2C c2 (fun h => yes (by rw [e, h]; rfl)) fun h => no (by rw [e, h]; rfl))
        · rw [decide_eq_true (show (us.length : Int) > 20 by omega)]
          exact iteT (no (by rw [e _ _ rfl (decide_eq_false c2), Bool.and_false, Bool.false_and]))
      · rw [decide_eq_true (show (j : Int) > 12 by omega)]
        exact iteT (no (by rw [e _ _ (decide_eq_false c1) rfl, Bool.false_and, Bool.false_and]))
end
end Law


set_option Elab.async false
set_option linter.all false
set_option maxRecDepth 100000
set_option maxHeartbeats 4000000
/-! == and != by a class's own ==, either answer -/
namespace PySem.W
open PySem PySem.Calls PyProof.Rows Builtin
theorem ne_bind (self : Value) : bindSpecial (.builtin "object.__ne__") self = pure (.builtin "object.__ne__", [self]) := (F.cmp_object.ne).bind self
section
variable {prog : Program} {w : World} {A : Around} {E : Value → Shared → Prop} {s : Shared} {K : Frag} {h₀ : Heap} {L x C f : Addr} {m : Str → Option Value} {ox : Obj} {od : Option Obj} {b tb : Value}
/-- !=, where the class has an own == and no own != -/
theorem neBound_K {M : Model} {name : Str} {args : List Value} {Q : Option Value → Shared → Prop} (X : K.In s.heap) (I : InstAt s.heap x ox C od) (hs : findIn K (.ref C) name = some (some (.builtin "object.__ne__")))
    (h : wpAny M A (call (.builtin "object.__ne__") (.ref x :: args)) (fun v => Q (some v)) E s) : wpAny M A (callSpecialIfBound? (.ref x) name args) Q E s := by
  simp only [callSpecialIfBound?, bindSpecialIfBound?]
  refine wpAny_holding (wpAny_bind (wpAny_bind (wpAny_bind (I.type.here ((looks_findIn X hs).here ?_)))))
  refine wpAny_bind (wpAny_askSetting (wpAny_ite ?_))
  have fin : wpAny M A (call (.builtin "object.__ne__") ([.ref x] ++ args) >>= fun v => pure (some v)) Q E s := wpAny_bind (wpAny_mono h (fun v s' h' => wpAny_pure h') fun _ _ h' => h')
  split
  · rw [ne_bind]
    exact wpAny_bind (wpAny_pure (wpAny_pure (by exact fin)))
  · rw [ne_bind]
    exact wpAny_tryCatch (wpAny_bind (wpAny_pure (wpAny_pure (by exact fin))))
theorem ne_body {Q : Fin → Shared → Prop} (hu : A.units < cLine) (X : K.In s.heap) (I : InstAt s.heap x ox C od) (hs : findIn K (.ref C) "__eq__" = some (some (.ref f))) (hf : isFn K (.ref f) = true)
    (h : wpAny (model prog w) A (call (.ref f) [.ref x, b]) (fun v s' => ∃ r, v = .bool r ∧ Q (.done (.ret (.bool !r))) s') E s) : wpAny (model prog w) A (Builtin.«object.__ne__» ⟨[.ref x, b], []⟩) Q E s := by
  unfold Builtin.«object.__ne__»
  have one : wpAny (model prog w) A (callSpecialIfBound? (.ref x) "__eq__" [b]) (fun r s' => ∃ v, r = some (.bool v) ∧ Q (.done (.ret (.bool !v))) s') E s :=
    ifBound_K X I hs hf (wpAny_mono h (fun v s' ⟨r, e, q⟩ => ⟨r, by rw [e], q⟩) fun _ _ e => e)
  have fin : ∀ (v : Bool) (s' : Shared), Q (.done (.ret (.bool !v))) s' → wpAny (model prog w) A (do
      let r ← truthy (.bool v)
      ret (.bool (!r))) Q E s' := fun v s' q => wpAny_bind (wpAny_truthy_bool (by exact wpAny_pure q))
  repeat (first | with_reducible refine wpAny_cRoomFor hu ?_ | with_reducible refine wpAny_mono one (fun r s' hq => ?_) (fun _ _ e => e) | wp_step)
  obtain ⟨v, rfl, q⟩ := hq
  exact fin v _ q
theorem cmp_neK {Q : Value → Shared → Prop} (hu : A.units + 1 < cLine) (FR : Fr h₀ L s.heap m) (X₀ : K.In h₀) (I : InstAt s.heap x ox C od) (hb : Looks (model prog w) s.heap (typeOf b) tb) (hn : notFirst K C tb = true)
    (hne : findIn K (.ref C) "__ne__" = some (some (.builtin "object.__ne__"))) (hso : subIn K (.ref C) (.type "object") = some true)
    (hs : findIn K (.ref C) "__eq__" = some (some (.ref f))) (hf : isFn K (.ref f) = true)
    (h : wpAny (model prog w) A.in1 (call (.ref f) [.ref x, b]) (fun v s' => ∃ r, v = .bool r ∧ Q (.bool !r) s') E s) : wpAny (model prog w) A (richCompare .NotEq (.ref x) b) Q E s := by
  have X := X₀.keeps FR.keep
  have one : wpAny (model prog w) A (tryCompare (.ref x) "__ne__" b) (fun r s' => ∃ v, r = some v ∧ Q v s') E s := by
    unfold tryCompare
    refine wpAny_bind (neBound_K X I hne (wpAny_call (codeAny_call_builtin F.cmp_object.ne.plain F.cmpEntry_ne
      (check_slot F.cmpKind_ne F.cmpSplit_ne ((I.type).andThen (looks_subIn X hso)) (F.cmpArgs_ne _ _) (ne_body (A := A.in1) hu X I hs hf (wpAny_mono h (fun v s' hv => ?_) fun _ _ e => e))))))
    obtain ⟨r, rfl, q⟩ := hv
    exact ⟨r, rfl, wpAny_pure ⟨_, rfl, q⟩⟩
  unfold richCompare
  simp only [oneThing_ref]
  refine wpAny_holding (wpAny_bind (wpAny_cRoomFor (by omega) ?_))
  refine wpAny_bind (I.type.here (wpAny_bind (hb.here ?_)))
  split
  · rename_i q
    have e : subIn K tb (.ref C) = some false := by
      rcases Bool.or_eq_true_iff.mp hn with e | e
      · rw [beq_iff_eq.mp e] at q; simp at q
      · exact beq_iff_eq.mp e
    refine wpAny_bind ((looks_subIn X e).here ?_)
    simp only [Bool.false_eq_true, if_false]
    refine wpAny_bind (wpAny_mono one (fun r s' z => ?_) fun _ _ e => e)
    obtain ⟨v, rfl, hq⟩ := z
    exact wpAny_pure hq
  · refine wpAny_bind (wpAny_pure ?_)
    simp only [Bool.false_eq_true, if_false]
    refine wpAny_bind (wpAny_mono one (fun r s' z => ?_) fun _ _ e => e)
    obtain ⟨v, rfl, hq⟩ := z
    exact wpAny_pure hq
end
end PySem.W
namespace DL
open PySem L2
open PySem.Spec PyProof.Rows
variable [Tb]
/-- the class x has an own == that keeps the promise S -/
structure KnEq (P : Program) (w : World) (K : PySem.W.Frag) (mg : Str → Option Value) (base : Heap) (k : Nat) (x : Str) (S : PF) : Prop where
  ex : ∃ C f fd ps, FnOk P w K mg base CX0 k f fd ps (spD K mg 2 S) ∧ mg x = some (.ref C) ∧ PySem.W.findIn K (.ref C) "__eq__" = some (some (.ref f)) ∧ PySem.W.isFn K (.ref f) = true ∧
    PySem.W.findIn K (.ref C) "__ne__" = some (some (.builtin "object.__ne__")) ∧ PySem.W.subIn K (.ref C) (.type "object") = some true ∧ Binds K fd ps []
section
variable {X : Cx} {W : WX}
def rOwnB (K : PySem.W.Frag) (mg : Str → Option Value) (C : Addr) (S : PF) (neg : Bool) : R2 := fun x y H Q => ∃ a b dx dy fs gs, x = .ref a ∧ y = .ref b ∧ H a = some (.ins C dx fs) ∧ H b = some (.ins C dy gs) ∧
  spD K mg 2 S [.ref a, .ref b] H (fun v H' => ∃ c : Bool, v = .bl c ∧ Q (.bl (neg != c)) H') E0
theorem own_call {n : Nat} {f : Addr} {fd : FuncData} {ps : List Str} {S : PF} (F : FnOk X.prog X.w X.K X.mg X.base CX0 n f fd ps (spD X.K X.mg 2 S)) (hb : Binds X.K fd ps []) {A : Around} (hA : A.frames = X.A.frames) (hr : Room n A)
    {pins : List (Addr × Obj)} {s : Shared} {σ : L2.St} {H : Hp} {a b : Addr} {Q : Bool → Hp → Prop} (I : Inv X pins σ H s) (h : spD X.K X.mg 2 S [.ref a, .ref b] H (fun v H' => ∃ c : Bool, v = .bl c ∧ Q c H') E0) :
    wpAny (model X.prog X.w) A (call (.ref f) [.ref a, .ref b]) (fun v s' => ∃ r H', v = .bool r ∧ Inv X pins σ H' s' ∧ Q r H') X.xe s := by
  have e0 : Env0 X.prog X.w X.K X.mg X.base A X.stack s H := by
    have e := I.env0
    exact ⟨by rw [hA]; exact e.frames, e.mod, e.bs, e.bsz, e.funs, e.frf, e.hok, e.bare⟩
  have hl := F.len _ _ _ _ h
  have r2 : Vals [V.ref a, V.ref b] [Value.ref a, Value.ref b] := .cons rfl (.cons rfl .nil)
  refine wpAny_call (codeAny_mono (F.run A X.stack s H ⟨[.ref a, .ref b], []⟩ [.ref a, .ref b] [.ref a, .ref b] _ E0 hr e0 (by
    have := hb s [.ref a, .ref b] I.kIn (by simpa using hl)
    simpa using this) r2 h) fun r s' hq => ?_)
  cases r with
  | error e => exact False.elim hq
  | ok fl =>
    cases fl with
    | ret w =>
      obtain ⟨z, H', I', rz, c, ez, ex⟩ := I.after hq
      subst ez
      cases rz
      exact ⟨c, H', rfl, I', ex⟩
    | next => exact False.elim hq
    | brk => exact False.elim hq
    | cont => exact False.elim hq
theorem op_ownEq {k : Nat} {C f : Addr} {fd : FuncData} {ps : List Str} {S : PF} (F : FnOk X.prog X.w X.K X.mg X.base CX0 k f fd ps (spD X.K X.mg 2 S)) (hr : Room k X.A)
    (hs : PySem.W.findIn X.K (.ref C) "__eq__" = some (some (.ref f))) (hf : PySem.W.isFn X.K (.ref f) = true) (hb : Binds X.K fd ps []) : OpR X (compareOp .Eq) (rOwnB X.K X.mg C S false) := by
  intro pins s σ H x y v u Q I rx ry hq
  obtain ⟨a, b, dx, dy, fs, gs, rfl, rfl, ha, hb', h⟩ := hq
  cases rx
  cases ry
  obtain ⟨mA, J, _⟩ := ins_get I.hok ha
  obtain ⟨mB, J', _⟩ := ins_get I.hok hb'
  obtain ⟨od, J, _⟩ := J.look
  obtain ⟨od', J', _⟩ := J'.look
  obtain ⟨m, hF⟩ := I.fr
  refine PySem.W.cmp_K (op := .Eq) (tb := .ref C) (by have := hr.un; omega) hF I.ok.mod.kin J J'.type (by simp [PySem.W.notFirst]) hs hf ?_
  refine wpAny_mono (own_call (A := X.A) (Q := fun c H' => Q (.bl (false != c)) H') F hb rfl hr I h) (fun v s' z => ?_) fun _ _ x => x
  obtain ⟨r, H', e, I', q⟩ := z
  subst e
  refine ⟨.bl (false != r), H', I', ?_, q⟩
  cases r <;> rfl
theorem op_ownNe {k : Nat} {C f : Addr} {fd : FuncData} {ps : List Str} {S : PF} (F : FnOk X.prog X.w X.K X.mg X.base CX0 k f fd ps (spD X.K X.mg 2 S)) (hr : Room (k + 1) X.A)
    (hs : PySem.W.findIn X.K (.ref C) "__eq__" = some (some (.ref f))) (hf : PySem.W.isFn X.K (.ref f) = true) (hne : PySem.W.findIn X.K (.ref C) "__ne__" = some (some (.builtin "object.__ne__"))) (hso : PySem.W.subIn X.K (.ref C) (.type "object") = some true) (hb : Binds X.K fd ps []) : OpR X (compareOp .NotEq) (rOwnB X.K X.mg C S true) := by
  intro pins s σ H x y v u Q I rx ry hq
  obtain ⟨a, b, dx, dy, fs, gs, rfl, rfl, ha, hb', h⟩ := hq
  cases rx
  cases ry
  obtain ⟨mA, J, _⟩ := ins_get I.hok ha
  obtain ⟨mB, J', _⟩ := ins_get I.hok hb'
  obtain ⟨od, J, _⟩ := J.look
  obtain ⟨od', J', _⟩ := J'.look
  obtain ⟨m, hF⟩ := I.fr
  refine PySem.W.cmp_neK (tb := .ref C) (by have := hr.un; omega) hF I.ok.mod.kin J J'.type (by simp [PySem.W.notFirst]) hne hso hs hf ?_
  refine wpAny_mono (own_call (A := X.A.in1) (Q := fun c H' => Q (.bl (true != c)) H') F hb rfl hr.in1 I h) (fun v s' z => ?_) fun _ _ x => x
  obtain ⟨r, H', e, I', q⟩ := z
  subst e
  refine ⟨r, rfl, .bl (true != r), H', I', ?_, q⟩
  cases r <;> rfl
variable {a b : Expr} {Fa Fb : DF} {pos : Pos}
theorem repL_two {c : Ct} {B : Hp} {x y : D} {v u : V} (h : Rep c B x v) (k : Rep c B y u) : RepL c B [x, y] [v, u] := repL_cons h (repL_cons k repL_nil)
/-- == (neg false) and != (neg true) of two objects of a class with an own == -/
def dOwnEq (neg : Bool) (cn : Str) (S : PF) (Fa Fb : DF) : DF := fun s P ex => Fa s (fun x s1 => Fb s1 (fun y s2 => (∃ fs gs, x = .obj cn fs ∧ y = .obj cn gs) ∧ S [x, y] s2.T (fun z T' => ∃ c : Bool, z = .fz (.bl c) ∧ P (.bl (neg != c)) (s2.tick T')) noX) ex) ex
theorem lft_ownEq {neg : Bool} {cn : Str} {S : PF} {C : Addr} (hm : X.mg cn = some (.ref C)) : ∀ σ H Q, LftE X W (dOwnEq neg cn S Fa Fb) σ H Q → tOp (rOwnB X.K X.mg C S neg) (LftE X W Fa) (LftE X W Fb) σ H Q := fun σ H Q ⟨q, L, H0, B0, s, B, P, ex, t, f, rt, e⟩ => by
  refine ⟨q, L, H0, B0, s, B, _, ex, t, f, fun v H1 x s1 B1 t1 l1 r1 p1 => ⟨q, L, H0, B0, s1, B1, _, ex, t1, p1, fun u H2 y s2 B2 t2 l2 r2 p2 => ?_, e.le l1⟩, e⟩
  obtain ⟨⟨fs, gs, e1, e2⟩, p2⟩ := p2
  have r1 := r1.mono l2
  subst e1
  subst e2
  have r1' := r1
  have r2' := r2
  unfold Rep at r1' r2'
  obtain ⟨a, C1, dx, xs, rfl, m1, hH1, _⟩ := r1'
  obtain ⟨b, C2, dy, ys, rfl, m2, hH2, _⟩ := r2'
  have z1 : C1 = C := by
    have z := m1.symm.trans hm
    cases z
    rfl
  have z2 : C2 = C := by
    have z := m2.symm.trans hm
    cases z
    rfl
  subst z1
  subst z2
  refine ⟨a, b, dx, dy, xs, ys, rfl, rfl, t2.bs.leH _ _ hH1, t2.bs.leH _ _ hH2, ?_⟩
  refine sp_of t2 (ds := [.obj cn fs, .obj cn gs]) (vs := [.ref a, .ref b]) (repL_two r1 r2) rfl p2 (fun v H' B' d T' t3 l3 r3 p3 => ?_) (fun p o H' B' d T' _ _ _ _ p3 => ?_) fun _ _ _ _ _ _ _ _ _ _ z => z.elim
  · obtain ⟨c, ez, p3⟩ := p3
    cases ez
    exact ⟨c, rep_bl r3, rt _ _ _ _ _ t3 ((l1.trans l2).trans l3) bl_rep p3⟩
  · obtain ⟨c, ez, p3⟩ := p3
    cases ez
theorem d_ownEq {k : Nat} {cn : Str} {S : PF} (F : KnEq X.prog X.w X.K X.mg X.base k cn S) (hr : Room k X.A) (ha : DPE X W a Fa) (hb : DPE X W b Fb) (hm : behindInMarks .Eq b = false := by rfl) : DPE X W (.Compare a [.Eq] [b] pos) (dOwnEq false cn S Fa Fb) := by
  obtain ⟨C, f, fd, ps, h1, h2, h3, h4, h5, h6, h7⟩ := F.ex
  exact ⟨pe_mono (lft_ownEq h2) (pe_cmpR (op_ownEq h1 hr h3 h4 h7) ha.pe hb.pe hm)⟩
theorem d_ownNeT {k : Nat} {cn : Str} {S : PF} (F : KnEq X.prog X.w X.K X.mg X.base k cn S) (hr : Room (k + 1) X.A) (ha : DPE X W a Fa) (hb : DPE X W b Fb) (hm : behindInMarks .NotEq b = false := by rfl) : DPT X W (.Compare a [.NotEq] [b] pos) (dTest (dOwnEq true cn S Fa Fb)) := by
  obtain ⟨C, f, fd, ps, h1, h2, h3, h4, h5, h6, h7⟩ := F.ex
  refine ⟨pt_mono (fun σ H Q ⟨q, L, H0, B0, s, B, P, ex, t, f, rt, e⟩ => ?_) (pt_cmpR (op_ownNe h1 hr h3 h4 h5 h6 h7) ha.pe hb.pe hm)⟩
  refine lft_ownEq (W := W) h2 σ H _ ⟨q, L, H0, B0, s, B, _, ex, t, f, fun v H1 x s1 B1 t1 l1 r1 p1 => ?_, e⟩
  try dsimp only at p1
  split at p1
  · rw [rep_bl r1]
    exact ⟨_, rfl, rt _ _ _ _ t1 l1 p1⟩
  · exact p1.elim
end
/-! the head's facts -/
section
variable {P : Program} {w : World} {K : PySem.W.Frag} {mg : Str → Option Value} {base : Heap} {h : Heap} {x : Str} {st : Stmt}
theorem knEq_of {k : Nat} {S : PF} {q : Str} (X : K.In h) (G : h.Ns mainGlobals mg) (cg : (He.Fa.glo x).ok K = true) (co : ownB K (He.ga K x) = true) (Fd : ∃ fd, FunD K "__eq__" q (defArgs st) (defBody st) (defScope st) [] [] (He.ma K (He.ga K x) "__eq__") fd)
    (hb : ∀ (kV doc pm : Value) (an : Option Addr) (cdv ct : Value) (us : List Value), us.length = (["self", "other"] : List Str).length → bindArgs (PySem.W.fnOf "__eq__" q (defArgs st) (defBody st) (defScope st) .none kV doc pm an cdv ct) ⟨us, []⟩ = pure ((["self", "other"] : List Str).zip us))
    (ok : ∀ f fd, Fun K "__eq__" q st f fd → FnOk P w K mg base CX0 k f fd ["self", "other"] (spD K mg 2 S)) : KnEq P w K mg base k x S := by
  obtain ⟨fd, F⟩ := Fd
  have F' := He5.fun_of F
  obtain ⟨c1, c⟩ := He.ba co
  obtain ⟨c2, c⟩ := He.ba c
  obtain ⟨c3, c4⟩ := He.ba c
  exact ⟨He.ga K x, _, fd, _, ok _ fd F', He.glo_ok X G cg, He.eqO_ok c1, c2, He.eqO_ok c3, of_decide_eq_true c4, F'.binds hb⟩
theorem KnEq.up {k j : Nat} {S : PF} (h : KnEq P w K mg base k x S) (hk : k ≤ j) : KnEq P w K mg base j x S := by
  obtain ⟨C, f, fd, ps, o, r⟩ := h.ex
  exact ⟨C, f, fd, ps, o.mono hk, r⟩
end
end DL


set_option Elab.async false
set_option linter.all false
set_option maxRecDepth 100000
set_option maxHeartbeats 2000000
namespace Law
open PySem L2 DL
variable [Tb]
/-! ### houses, equal or not -/
theorem ok_doorsF {n : Nat} {xs : List D} (hd : ∀ d ∈ xs, DoorIs n d) : okD (.tup xs) = true := okD_of (n := 9) (by
  unfold okN
  refine okNs_iff.mpr fun d hm => ?_
  obtain ⟨a, b, x, y, rfl, _⟩ := (hd d hm).ex
  rfl)
theorem eqv_doorsF {n k : Nat} : ∀ (xs ys : List D), (∀ d ∈ xs, DoorIs n d) → (∀ d ∈ ys, DoorIs k d) → (PyData.eqv (py (.tup xs)) (py (.tup ys)) = true ↔ xs = ys)
  | [], [], _, _ => by simp [py, pyL, PyData.eqv, PyData.eqvAll]
  | [], y :: ys, _, _ => by simp [py, pyL, PyData.eqv, PyData.eqvAll]
  | x :: xs, [], _, _ => by simp [py, pyL, PyData.eqv, PyData.eqvAll]
  | x :: xs, y :: ys, hx, hy => by
    have e : PyData.eqv (py (.tup (x :: xs))) (py (.tup (y :: ys))) = (PyData.eqv (py x) (py y) && PyData.eqv (py (.tup xs)) (py (.tup ys))) := by simp [py, pyL, PyData.eqv, PyData.eqvAll]
    rw [e, Bool.and_eq_true_iff, eqv_doorsF xs ys (fun d h => hx d (List.mem_cons_of_mem _ h)) fun d h => hy d (List.mem_cons_of_mem _ h)]
    obtain ⟨a, b, u, v, rfl, _⟩ := (hx x (List.mem_cons_self ..)).ex
    obtain ⟨a2, b2, u2, v2, rfl, _⟩ := (hy y (List.mem_cons_self ..)).ex
    have k := eqv_intsB [(a : Int), u, (b : Int), v] [(a2 : Int), u2, (b2 : Int), v2]
    have k : PyData.eqv (py (.tup [.int (a : Int), .int u, .int (b : Int), .int v])) (py (.tup [.int (a2 : Int), .int u2, .int (b2 : Int), .int v2])) = decide ([(a : Int), u, (b : Int), v] = [(a2 : Int), u2, (b2 : Int), v2]) := k
    rw [k, decide_eq_true_iff]
    constructor
    · rintro ⟨h1, h2⟩
      injection h1 with g1 h1
      injection h1 with g2 h1
      injection h1 with g3 h1
      injection h1 with g4 h1
      rw [g1, g2, g3, g4, h2]
    · intro h
      injection h with h1 h2
      injection h1 with h1
      injection h1 with g1 h1
      injection h1 with g2 h1
      injection h1 with g3 h1
      injection h1 with g4 h1
      injection g1 with g1
      injection g2 with g2
      injection g3 with g3
      injection g4 with g4
      rw [g1, g2, g3, g4]
      exact ⟨rfl, h2⟩
def S_House_eq0 : PF := fun ds T post _ => (∃ (n : Nat) (xs : List D) (d : D), ds = [houseD n xs, d] ∧ isO [("House", true)] [] d = some false ∧ post (.fz (.bl false)) T) ∨ ∃ (n k : Nat) (xs ys : List D), ds = [houseD n xs, houseD k ys] ∧ (∀ d ∈ xs, DoorIs n d) ∧ (∀ d ∈ ys, DoorIs k d) ∧ ∀ b : Bool, (b = true ↔ n = k ∧ xs = ys) → post (.fz (.bl b)) T
def G_House_eq0 : DG := (gRet (dAnd (dIsO [("House", true)] [] (dVar 1)) (dAnd (dOp dEq (dFld "House" "rooms" (dVar 0)) (dFld "House" "rooms" (dVar 1))) (dOp dEq (dFld "House" "doors" (dVar 0)) (dFld "House" "doors" (dVar 1))))))
theorem m_House_eq0 : ∀ (ds : List D) T post ex, ds.length = 2 → S_House_eq0 ds T post ex → G_House_eq0 (endsOf post ex) (startD 2 ds T) := by
  rintro ds T post ex _ (⟨n, xs, d, rfl, ho, hp⟩ | ⟨n, k, xs, ys, rfl, hx, hy, hp⟩)
  · exact ⟨false, ho, hp⟩
  refine ⟨true, rfl, rfl, _, look_rooms, rfl, _, look_rooms, okD_of (n := 1) rfl, okD_of (n := 1) rfl, ?_⟩
  rw [eqv_int]
  by_cases c : n = k
  · rw [decide_eq_true (show (n : Int) = (k : Int) by omega)]
    refine ⟨rfl, _, look_doors, rfl, _, look_doors, ok_doorsF hx, ok_doorsF hy, ?_⟩
    exact hp _ ⟨fun h => ⟨c, (eqv_doorsF xs ys hx hy).mp h⟩, fun h => (eqv_doorsF xs ys hx hy).mpr h.2⟩
  · rw [decide_eq_false (show ¬ (n : Int) = (k : Int) by omega)]
    exact hp false ⟨fun h => (by cases h), fun h => absurd h.1 c⟩
end Law


set_option Elab.async false
set_option linter.all false
set_option maxRecDepth 100000
set_option maxHeartbeats 4000000
namespace Law
open PySem L2 DL
variable [Tb]
section
variable {T n : Nat} {ts : List SdT} {E : DE}
/-! _law_ch_house -/
def S__law_ch_house : PF := fun ds T post _ => ∃ m k : Nat, ds = [.st, .int m, .int k] ∧ 1 ≤ m ∧ m ≤ 12 ∧ k ≤ 9 ∧ m + k ≤ 21 ∧ T + 100001 ≤ TM ∧ ∀ n ts T', BehI n ts → n ≤ m → T ≤ T' → T' ≤ T + 1000 → post (.fz (.tup [.int (n : Nat), .tup (ts.map sdD)])) T'
def G__law_ch_house : DG := (gSeq (gSet 3 (dOp dAdd (dC (.int 1)) (dCall S__law_draw 2 (aCons (dVar 0) (aCons (dVar 1) aNil)))))
    (gRet (dTup (aCons (dVar 3) (aCons (dCall S__law_doors 3 (aCons (dVar 0) (aCons (dVar 3) (aCons (dVar 2) aNil)))) aNil)))))
theorem m__law_ch_house : ∀ (ds : List D) T post ex, ds.length = 3 → S__law_ch_house ds T post ex → G__law_ch_house (endsOf post ex) (startD 4 ds T) := by
  rintro ds T post ex _ ⟨m, k, rfl, m1, m2, k2, mk, hT, hp⟩
  refine ⟨rfl, (m : Int), rfl, by omega, by omega, (show T < TM by omega), fun r r0 r1 => ?_⟩
  obtain ⟨r, rfl⟩ := Int.eq_ofNat_of_zero_le r0
  refine ⟨rfl, r + 1, k, ?_, by omega, by omega, by omega, (show T + 1 + 100000 ≤ TM by omega), fun xs T' h1 h2 h3 t1 t2 => ?_⟩
  · show [D.st, .int ((1 : Int) + (r : Int)), .int (k : Nat)] = [.st, .int ((r + 1 : Nat) : Int), .int (k : Nat)]
    rw [show (1 : Int) + (r : Int) = ((r + 1 : Nat) : Int) by omega]
  · have t1 : T + 1 ≤ T' := t1
    have t2 : T' ≤ T + 1 + 20 * (r + 1 + k) := t2
    have H : HsG (r + 1) xs := ⟨by omega, by omega, h1, by omega, h3⟩
    obtain ⟨ts, rfl, B⟩ := BehI.of H
    have k := hp (r + 1) ts T' B (by omega) (by omega) (by omega)
    rw [show ((r + 1 : Nat) : Int) = (1 : Int) + (r : Int) by omega] at k
    exact ⟨(show 2 ≤ 100000 by decide), k⟩
end
end Law


set_option Elab.async false
set_option linter.all false
set_option maxRecDepth 100000
set_option maxHeartbeats 4000000
namespace Law
open PySem L2 DL
variable [Tb]
section
variable {T n : Nat} {ts : List SdT} {E : DE}
/-! a change that the law draws, as a thing -/
theorem nat_of (r : Nat) : natOf (.int (r : Nat)) = some r := by
  show (if (0 : Int) ≤ (r : Int) then some (r : Int).toNat else none) = some r
  rw [if_pos (by omega), Int.toNat_natCast]
theorem pass_of {q : P2} {m : Nat} (h1 : q.1 < m) (h2 : q.2 = 0 ∨ q.2 = 1) : passOf m (stD q) = some q := by
  obtain ⟨i, s⟩ := q
  show (if isPass m (.tup [.int (i : Nat), .int s]) = true then some (((i : Nat) : Int).toNat, s) else none) = _
  have h : isPass m (.tup [.int (i : Nat), .int s]) = true := by
    show ((decide ((0 : Int) ≤ (i : Int)) && decide ((i : Int) ≤ (m : Int) - 1)) && (decide ((0 : Int) ≤ s) && decide (s ≤ 1))) = true
    simp only [Bool.and_eq_true, decide_eq_true_eq]
    have h1 : i < m := h1
    have h2 : s = 0 ∨ s = 1 := h2
    omega
  rw [if_pos h, Int.toNat_natCast]
theorem ch_chg {c : ChT} (g : chGood ts c) : chOf ts.length (chgD c) = some c := by
  cases c with
  | fold i =>
    rw [show chgD (.fold i) = .tup [.str "fold", .int (i : Nat)] from rfl, ch2, if_pos (by decide +kernel), nat_of]
    rfl
  | turn i =>
    rw [show chgD (.turn i) = .tup [.str "turn", .int (i : Nat)] from rfl, ch2, if_neg (by decide +kernel), if_pos (by decide +kernel), nat_of]
    rfl
  | swap i =>
    rw [show chgD (.swap i) = .tup [.str "swap", .int (i : Nat)] from rfl, ch2, if_neg (by decide +kernel), if_neg (by decide +kernel), if_pos (by decide +kernel), nat_of]
    rfl
  | slide e o =>
    obtain ⟨g1, g2, g3, g4⟩ := g
    show (if isW "slide" (.str "slide") = true then (passOf ts.length (stD e)).bind fun e => (passOf ts.length (stD o)).map fun o => ChT.slide e o else none) = _
    rw [if_pos (by decide +kernel), pass_of g3 g1, pass_of g4 g2]
    rfl
  | put r f s =>
    show (if isW "put" (.str "put") = true then chPut (.int (r : Nat)) (.int f) (.int s) else none) = _
    rw [if_pos (by decide +kernel)]
    unfold chPut
    rw [nat_of]
theorem chB_chg {c : ChT} (g : chGood ts c) : chB n ts (chgD c) = behT n ts c := by
  unfold chB
  rw [ch_chg g]
  rfl
theorem ok_int (i : Int) : okD (.int i) = true := okD_of (n := 1) rfl
theorem ok_st (q : P2) : okD (stD q) = true := okD_of (n := 2) rfl
theorem chd_of {xs : List D} (h : ∀ x ∈ xs, okD x = true ∧ plainD x = true ∧ plainDs x = true) : ChD (.tup xs) := ⟨rfl, fun ys e => by injection e with e; rw [← e]; exact h⟩
theorem chd_chg (c : ChT) : ChD (chgD c) := by
  have i3 : ∀ i : Int, okD (.int i) = true ∧ plainD (.int i) = true ∧ plainDs (.int i) = true := fun i => ⟨ok_int i, rfl, rfl⟩
  have s3 : ∀ q : P2, okD (stD q) = true ∧ plainD (stD q) = true ∧ plainDs (stD q) = true := fun q => ⟨ok_st q, rfl, rfl⟩
  cases c with
  | fold i =>
    refine chd_of fun x hx => ?_
    · simp only [List.mem_cons, List.not_mem_nil, or_false] at hx
      rcases hx with rfl | rfl
      · exact ⟨okFold, rfl, rfl⟩
      · exact i3 _
  | turn i =>
    refine chd_of fun x hx => ?_
    · simp only [List.mem_cons, List.not_mem_nil, or_false] at hx
      rcases hx with rfl | rfl
      · exact ⟨okTurn, rfl, rfl⟩
      · exact i3 _
  | swap i =>
    refine chd_of fun x hx => ?_
    · simp only [List.mem_cons, List.not_mem_nil, or_false] at hx
      rcases hx with rfl | rfl
      · exact ⟨okSwap, rfl, rfl⟩
      · exact i3 _
  | slide e o =>
    refine chd_of fun x hx => ?_
    · simp only [List.mem_cons, List.not_mem_nil, or_false] at hx
      rcases hx with rfl | rfl | rfl
      · exact ⟨okSlide, rfl, rfl⟩
      · exact s3 _
      · exact s3 _
  | put r f s =>
    refine chd_of fun x hx => ?_
    · simp only [List.mem_cons, List.not_mem_nil, or_false] at hx
      rcases hx with rfl | rfl | rfl | rfl
      · exact ⟨okPut, rfl, rfl⟩
      · exact i3 _
      · exact i3 _
      · exact i3 _
/-! _law_ch_change, asking _law_ch_behind of any thing -/
def S__law_ch_changeC : PF := S__law_ch_change
def F_cc3C : DF := (dLc [7] (iSeq (dVar 4)) (tgN 7) (dTest (dOp dNotN (dCall S__law_ch_behindC 3 (aCons (dVar 1) (aCons (dVar 2) (aCons (dVar 7) aNil)))) (dC .non))) (dVar 7))
def G_cc3C : DG := (gSeq (gSet 4 F_cc3C) G_cc0)
def G__law_ch_changeC : DG := (gSeq (gPar 3 4 (aCons (dCall S__law_draw 2 (aCons (dVar 0) (aCons (dC (.int 7)) aNil))) (aCons (dLst aNil) aNil)))
    (gSeq G_cc9 G_cc3C))
theorem cc3C {w : D} {v5 v6 : OS} {L : List ChT} (ho : ∀ t ∈ ts, SdOk n t) (hl : ts.length ≤ 20) (n1 : 1 ≤ n) (n2 : n ≤ 12) (hT : T + 1 ≤ TM) (lL : L.length ≤ 1600) (hL : ∀ c ∈ L, chGood ts c ∧ ChOk c) (k : ∀ c, ChIn n ts c → E.rt (.fz (chgD c)) (T + 1)) : G_cc3C E (ccS n ts w L v5 v6 none T) := by
  have key : F_cc3C (ccS n ts w L v5 v6 none T) (fun d s1 => G_cc0 E (s1.put 4 (.fz d))) E.ex := by
    refine dLc_inv (fun i acc s => acc = ((L.take i).filter fun c => (behT n ts c).isSome).map chgD ∧ s = ccS n ts w L v5 v6 none T) (L.map chgD) (fun Q hQ => ⟨_, rfl, hQ _ ⟨by rw [List.take_zero]; rfl, rfl⟩⟩) ?_ ?_
    · rintro i d acc s hi ⟨rfl, rfl⟩ Q hQ
      rw [List.getElem?_map] at hi
      obtain ⟨c, hc, rfl⟩ := Option.map_eq_some_iff.mp hi
      obtain ⟨g1, g2⟩ := hL c (List.mem_of_getElem? hc)
      have il := get_lt hc
      have tk : ((L.take (i + 1)).filter fun c => (behT n ts c).isSome).map chgD = ((L.take i).filter fun c => (behT n ts c).isSome).map chgD ++ (if (behT n ts c).isSome = true then [chgD c] else []) := by
        rw [take_succ_get hc, List.filter_append, List.map_append]
        congr 1
        by_cases h : (behT n ts c).isSome = true
        · rw [if_pos h, List.filter_cons_of_pos (p := fun c => (behT n ts c).isSome) h]
          rfl
        · rw [if_neg h, List.filter_cons_of_neg (p := fun c => (behT n ts c).isSome) h]
          rfl
      refine ⟨rfl, n, ts, chgD c, rfl, ho, by omega, n1, by omega, chd_chg c, ?_⟩
      rw [chB_chg g1]
      cases hb : behT n ts c with
      | none => exact hQ _ _ ⟨by rw [tk, hb]; exact (List.append_nil _).symm, rfl⟩
      | some z =>
        refine ⟨(show (((L.take i).filter fun c => (behT n ts c).isSome).map chgD).length < 100000 by
          rw [List.length_map]
          have := List.length_filter_le (fun c => (behT n ts c).isSome) (L.take i)
          rw [List.length_take] at this
          omega), hQ _ _ ⟨by rw [tk, hb]; rfl, rfl⟩⟩
    · rintro acc s ⟨rfl, rfl⟩
      rw [List.length_map, List.take_length]
      refine cc0 (L := L.filter fun c => (behT n ts c).isSome) ho hl n1 n2 hT (Nat.le_trans (List.length_filter_le _ _) lL) (fun c hc => ?_) k
      obtain ⟨h1, h2⟩ := List.mem_filter.mp hc
      exact ⟨(hL c h1).1, (hL c h1).2, fun z => by rw [z] at h2; cases h2⟩
  exact key
theorem m__law_ch_changeC : ∀ (ds : List D) T post ex, ds.length = 3 → S__law_ch_changeC ds T post ex → G__law_ch_changeC (endsOf post ex) (startD 8 ds T) := by
  rintro ds T post ex _ ⟨n, ts, rfl, ho, hl, n1, n2, hT, k⟩
  refine ⟨rfl, 7, rfl, by omega, by omega, (show T < TM by omega), fun r r0 r1 => ⟨Nat.zero_le _, ?_⟩⟩
  have fin : ∀ (L : List ChT) (T1 : Nat) (v5 : OS), L.length ≤ 1600 → (∀ c ∈ L, chGood ts c ∧ ChOk c) → T ≤ T1 → T1 ≤ T + 6 → G_cc3C (endsOf post ex) (ccS n ts (.int r) L v5 none none T1) := fun L T1 v5 h1 h2 h3 h4 => cc3C ho hl n1 n2 (by omega) h1 h2 fun c hc => k c (T1 + 1) (by omega) (by omega) hc
  show (if decide (r < 2) = true then _ else _)
  by_cases c1 : r < 2
  · rw [decide_eq_true c1]
    have key : F_cc6 (ccS n ts (.int r) [] none none none (T + 1)) (fun d s1 => G_cc3C (endsOf post ex) (s1.put 4 (.fz d))) (endsOf post ex).ex := cc6 ho hl fun L h1 h2 => fin L (T + 1) none h1 h2 (by omega) (by omega)
    exact iteT key
  rw [decide_eq_false c1]
  refine iteF ?_
  show (if decide (r < 4) = true then _ else _)
  by_cases c2 : r < 4
  · rw [decide_eq_true c2]
    refine iteT ⟨rfl, n, ts, rfl, ho, hl, fun L h1 h2 => fin L (T + 1) none h1 (fun c hc => ?_) (by omega) (by omega)⟩
    obtain ⟨e, o, rfl, g, _⟩ := h2 c hc
    exact ⟨g, trivial⟩
  rw [decide_eq_false c2]
  refine iteF ⟨okD_of (n := 1) rfl, okD_of (n := 1) rfl, ?_⟩
  show (if PyData.eqv (py (.int r)) (py (.int 4)) = true then _ else _)
  rw [eqv_int]
  by_cases c3 : r = 4
  · rw [decide_eq_true c3]
    have key : F_cc7 (ccS n ts (.int r) [] none none none (T + 1)) (fun d s1 => G_cc3C (endsOf post ex) (s1.put 4 (.fz d))) (endsOf post ex).ex := cc7 hl fun L h1 h2 => fin L (T + 1) none h1 h2 (by omega) (by omega)
    exact iteT key
  rw [decide_eq_false c3]
  refine iteF ⟨okD_of (n := 1) rfl, okD_of (n := 1) rfl, ?_⟩
  show (if PyData.eqv (py (.int r)) (py (.int 5)) = true then _ else _)
  rw [eqv_int]
  by_cases c4 : r = 5
  · rw [decide_eq_true c4]
    refine iteT ?_
    refine ⟨(show 7 ≤ 100000 by decide), rfl, _, [.int 1, .int 2, .int (-3), .int 5, .int (-1), .int 4, .int 999], rfl, .inl rfl, by decide, by decide, (show T + 1 < TM by omega), fun x hx => ?_⟩
    obtain ⟨f, rfl, hf⟩ : ∃ f : Int, x = .int f ∧ f.natAbs ≤ 999 := by
      simp only [List.mem_cons, List.not_mem_nil, or_false] at hx
      rcases hx with rfl | rfl | rfl | rfl | rfl | rfl | rfl <;> exact ⟨_, rfl, by decide⟩
    refine ⟨rfl, (n : Int), rfl, by omega, by omega, (show T + 2 < TM by omega), fun q q0 q1 => ?_⟩
    obtain ⟨q, rfl⟩ := Int.eq_ofNat_of_zero_le q0
    refine ⟨(show 2 ≤ 100000 by decide), rfl, _, [.int 1, .int (-1)], rfl, .inl rfl, by decide, by decide, (show T + 3 < TM by omega), fun x hx => ?_⟩
    obtain ⟨s, rfl, hs⟩ : ∃ s : Int, x = .int s ∧ s.natAbs ≤ 999 := by
      simp only [List.mem_cons, List.not_mem_nil, or_false] at hx
      rcases hx with rfl | rfl <;> exact ⟨_, rfl, by decide⟩
    exact ⟨(show 4 ≤ 100000 by decide), (show 1 ≤ 100000 by decide), fin [.put q f s] (T + 4) _ (by show 1 ≤ 1600; decide) (fun c h => by rw [List.mem_singleton.mp h]; exact ⟨trivial, hf, hs⟩) (by omega) (by omega)⟩
  · rw [decide_eq_false c4]
    exact iteF (fin [] (T + 1) none (Nat.zero_le _) (fun c h => nomatch h) (by omega) (by omega))
/-! changes one after another -/
theorem runH_snoc : ∀ {cs : List D} {z : Nat × List SdT} {M : List (Nat × List SdT)} {y : Nat × List SdT} {d : D}, runH z cs = some (M ++ [y]) → runH z (cs ++ [d]) = (chB y.1 y.2 d).map fun w => M ++ [y] ++ [w]
  | [], z, M, y, d, h => by
    have h : some [z] = some (M ++ [y]) := h
    have h := Option.some.inj h
    cases M with
    | nil =>
      injection h with h
      subst h
      show (match chB z.1 z.2 d with
        | none => none
        | some y => (runH y []).map (z :: ·)) = _
      cases chB z.1 z.2 d <;> rfl
    | cons a M =>
      injection h with _ h
      exact absurd h (by cases M <;> exact fun z => by cases z)
  | c :: cs, z, M, y, d, h => by
    have h : (match chB z.1 z.2 c with
      | none => none
      | some y => (runH y cs).map (z :: ·)) = some (M ++ [y]) := h
    show (match chB z.1 z.2 c with
      | none => none
      | some y => (runH y (cs ++ [d])).map (z :: ·)) = _
    cases hc : chB z.1 z.2 c with
    | none => rw [hc] at h; cases h
    | some w =>
      rw [hc] at h
      obtain ⟨L, hL, e⟩ := Option.map_eq_some_iff.mp h
      obtain ⟨M2, y2, rfl⟩ := run_last hL
      have e : (z :: M2) ++ [y2] = M ++ [y] := e
      obtain ⟨e1, e2⟩ := List.append_inj' e rfl
      injection e2 with e2
      subst e1 e2
      show (runH w (cs ++ [d])).map (z :: ·) = _
      rw [runH_snoc hL, Option.map_map]
      rfl
def plZ (z : Nat × List SdT) : D := .tup [.int (z.1 : Nat), .tup (z.2.map sdD)]
def S__law_ch_run : PF := fun ds T post _ => ∃ (n m : Nat) (ts : List SdT), ds = [.st, .int n, .tup (ts.map sdD), .int m] ∧ BehI n ts ∧ m ≤ 30 ∧ T + 8 * m ≤ TM ∧
  ∀ (cs : List ChT) (M : List (Nat × List SdT)) (z : Nat × List SdT) T', cs.length = m → runH (n, ts) (cs.map chgD) = some (M ++ [z]) → BehI z.1 z.2 → T ≤ T' → T' ≤ T + 8 * m → post (.fz (.tup [.lst (cs.map chgD), .lst ((M ++ [z]).map plZ)])) T'
def G_lru0 : DG := (gSeq (gSet 7 (dCall S__law_ch_changeC 3 (aCons (dVar 0) (aCons (dOp dIx (dIxV 5 (dNeg (dC (.int 1)))) (dC (.int 0))) (aCons (dOp dIx (dIxV 5 (dNeg (dC (.int 1)))) (dC (.int 1))) aNil)))))
    (gSeq (gApp 4 (dVar 7))
    (gApp 5 (dCall S__law_ch_behindC 3 (aCons (dOp dIx (dIxV 5 (dNeg (dC (.int 1)))) (dC (.int 0))) (aCons (dOp dIx (dIxV 5 (dNeg (dC (.int 1)))) (dC (.int 1))) (aCons (dVar 7) aNil)))))))
def G_lru1 : DG := (gSeq (gFor (iRng1D (dVar 3)) (tgN 6) G_lru0)
    (gRet (dTup (aCons (dVar 4) (aCons (dVar 5) aNil)))))
def G__law_ch_run : DG := (gSeq (gParOO 4 5 (dLst aNil) (dLst (aCons (dTup (aCons (dVar 1) (aCons (dVar 2) aNil))) aNil)))
    G_lru1)
def ruS (n : Nat) (ts : List SdT) (m : Nat) (cs : List ChT) (L : List (Nat × List SdT)) (v6 v7 : OS) (T : Nat) : DS := ⟨[some (.fz .st), some (.fz (.int (n : Nat))), some (.fz (.tup (ts.map sdD))), some (.fz (.int (m : Nat))), some (.ow (.lst (cs.map chgD))), some (.ow (.lst (L.map plZ))), v6, v7], T⟩
theorem m__law_ch_run : ∀ (ds : List D) T post ex, ds.length = 4 → S__law_ch_run ds T post ex → G__law_ch_run (endsOf post ex) (startD 8 ds T) := by
  rintro ds T post ex _ ⟨n, m, ts, rfl, H, hm, hT, hp⟩
  have key : G_lru1 (endsOf post ex) (ruS n ts m [] [(n, ts)] none none T) := by
    refine gFor_inv (fun i s => ∃ (cs : List ChT) (M : List (Nat × List SdT)) (z : Nat × List SdT) (v6 v7 : OS) (T' : Nat), s = ruS n ts m cs (M ++ [z]) v6 v7 T' ∧ cs.length = i ∧ runH (n, ts) (cs.map chgD) = some (M ++ [z]) ∧ BehI z.1 z.2 ∧ T ≤ T' ∧ T' ≤ T + 8 * i) (rangeD 0 m) (fun Q hQ => ?_) ?_ ?_
    · exact ⟨by omega, by omega, hQ _ ⟨[], [], (n, ts), none, none, T, rfl, rfl, rfl, H, Nat.le_refl _, Nat.le_refl _⟩⟩
    · rintro i d s hi ⟨cs, M, z, v6, v7, T', rfl, lc, hr, B, t1, t2⟩ R hR
      have il := get_lt hi
      rw [rangeD_len] at il
      have lL : (M ++ [z]).length = i + 1 := by rw [run_len hr, List.length_map, lc]
      have at1 : atI ((M ++ [z]).map plZ) (-1) = some (plZ z) := by
        rw [List.map_append]
        exact atI_last _
      refine ⟨trivial, plZ z, at1, _, rfl, trivial, plZ z, at1, _, rfl, ?_⟩
      refine ⟨rfl, z.1, z.2, rfl, B.ok, B.lu, B.k1, B.k12, (show T' + 8 ≤ TM by omega), fun c T2 u1 u2 hc => ?_⟩
      obtain ⟨g1, g2, g3⟩ := hc
      have u1 : T' ≤ T2 := u1
      have u2 : T2 ≤ T' + 8 := u2
      refine ⟨(show (cs.map chgD).length < 100000 by rw [List.length_map]; omega), ?_⟩
      refine ⟨trivial, plZ z, at1, _, rfl, trivial, plZ z, at1, _, rfl, ?_⟩
      refine ⟨rfl, z.1, z.2, chgD c, rfl, B.ok, by have := B.lu; omega, B.k1, by have := B.k12; omega, chd_chg c, ?_⟩
      rw [chB_chg g1]
      cases hb : behT z.1 z.2 c with
      | none => exact absurd hb g3
      | some w =>
        obtain ⟨k, us⟩ := w
        have k2 := hR (ruS n ts m (cs ++ [c]) (M ++ [z] ++ [(k, us)]) (some (.fz d)) (some (.fz (chgD c))) T2) ⟨cs ++ [c], M ++ [z], (k, us), _, _, T2, rfl, by rw [List.length_append, lc]; rfl, by
          rw [List.map_append]
          show runH (n, ts) (cs.map chgD ++ [chgD c]) = _
          rw [runH_snoc hr, chB_chg g1, hb]
          rfl, beh_ok B hb, by omega, by omega⟩
        unfold ruS at k2
        rw [List.map_append, List.map_append (l₁ := M ++ [z])] at k2
        exact ⟨(show ((M ++ [z]).map plZ).length < 100000 by rw [List.length_map, lL]; omega), k2⟩
    · rintro s ⟨cs, M, z, v6, v7, T', rfl, lc, hr, B, t1, t2⟩
      rw [rangeD_len] at lc t2
      exact ⟨(show 2 ≤ 100000 by decide), hp cs M z T' lc hr B t1 t2⟩
  exact ⟨Nat.zero_le _, (show 2 ≤ 100000 by decide), (show 1 ≤ 100000 by decide), key⟩
/-! _law_ch_odd -/
def oddL : List D := [.non, .int 5, .bl true, .str "fold", .tup [], .lst [], .dic [], .tup [.str "fold"], .tup [.int 1, .int 2], .tup [.str "turn", .bl true], .lst [.str "turn", .int 0]]
def S__law_ch_odd : PF := fun ds T post _ => ds = [.st] ∧ T < TM ∧ ∀ x ∈ oddL, post (.fz x) (T + 1)
def G__law_ch_odd : DG := (gRet (dCall S__law_pick 2 (aCons (dVar 0) (aCons (dLst (aCons (dC .non) (aCons (dC (.int 5)) (aCons (dC (.bl true)) (aCons (dC (.str "fold")) (aCons (dTup aNil) (aCons (dLst aNil) (aCons (dC (.dic [])) (aCons (dTup (aCons (dC (.str "fold")) aNil)) (aCons (dTup (aCons (dC (.int 1)) (aCons (dC (.int 2)) aNil))) (aCons (dTup (aCons (dC (.str "turn")) (aCons (dC (.bl true)) aNil))) (aCons (dLst (aCons (dC (.str "turn")) (aCons (dC (.int 0)) aNil))) aNil)))))))))))) aNil))))
theorem m__law_ch_odd : ∀ (ds : List D) T post ex, ds.length = 1 → S__law_ch_odd ds T post ex → G__law_ch_odd (endsOf post ex) (startD 1 ds T) := by
  rintro ds T post ex _ ⟨rfl, hT, hp⟩
  exact ⟨Nat.zero_le _, Nat.zero_le _, (show 1 ≤ 100000 by decide), (show 2 ≤ 100000 by decide), (show 2 ≤ 100000 by decide), (show 2 ≤ 100000 by decide), (show 11 ≤ 100000 by decide), rfl, _, oddL, rfl, .inl rfl, by decide, by decide, hT, hp⟩
end
end Law


set_option Elab.async false
set_option linter.all false
set_option maxRecDepth 100000
set_option maxHeartbeats 4000000
namespace Law
open PySem L2 DL
variable [Tb]
section
variable {T n : Nat} {ts : List SdT} {E : DE}
/-! _law_near_changes -/
def t2 (w : Str) (x : D) : D := .tup [.str w, x]
def t3 (w : Str) (x y : D) : D := .tup [.str w, x, y]
def t4 (w : Str) (x y z : D) : D := .tup [.str w, x, y, z]
theorem chd2 {w : Str} {x : D} (h : okD (.str w) = true) (hx : okD x = true ∧ plainD x = true ∧ plainDs x = true) : ChD (t2 w x) := chd_of fun y hy => by
  simp only [List.mem_cons, List.not_mem_nil, or_false] at hy
  rcases hy with rfl | rfl
  · exact ⟨h, rfl, rfl⟩
  · exact hx
theorem chd3 {w : Str} {x y : D} (h : okD (.str w) = true) (hx : okD x = true ∧ plainD x = true ∧ plainDs x = true) (hy : okD y = true ∧ plainD y = true ∧ plainDs y = true) : ChD (t3 w x y) := chd_of fun z hz => by
  simp only [List.mem_cons, List.not_mem_nil, or_false] at hz
  rcases hz with rfl | rfl | rfl
  · exact ⟨h, rfl, rfl⟩
  · exact hx
  · exact hy
theorem chd4 {w : Str} {x y z : D} (h : okD (.str w) = true) (hx : okD x = true ∧ plainD x = true ∧ plainDs x = true) (hy : okD y = true ∧ plainD y = true ∧ plainDs y = true) (hz : okD z = true ∧ plainD z = true ∧ plainDs z = true) : ChD (t4 w x y z) := chd_of fun u hu => by
  simp only [List.mem_cons, List.not_mem_nil, or_false] at hu
  rcases hu with rfl | rfl | rfl | rfl
  · exact ⟨h, rfl, rfl⟩
  · exact hx
  · exact hy
  · exact hz
def i2 (p : Int × Int) : D := .tup [.int p.1, .int p.2]
def nearA (a b : Int) : List D := [t2 "fold" (.int a), t2 "fold" (.int (0 - a)), t2 "turn" (.int b), t2 "swap" (.int a), t2 "turn" (.bl true), t2 "fold" .non]
def nearB (p q : Int × Int) : List D := [t3 "slide" (i2 p) (i2 q), t3 "slide" (i2 q) (i2 p), t3 "slide" (i2 p) (i2 p), t2 "slide" (i2 p)]
def nearC (b : Int) (p q : Int × Int) : List D := [t3 "slide" (.lst [.int p.1, .int p.2]) (i2 q), t4 "put" (.int b) (.int 1000) (.int 1), t4 "put" (.int b) (.int 999) (.int (-1))]
def nearD (b : Int) : List D := [t4 "put" (.int b) (.int 0) (.int 1)]
def nearE (b : Int) : List D := [t4 "put" (.int b) (.int 2) (.int 2), t4 "put" (.int b) (.int 1) (.int 3), t4 "put" (.int b) (.int 2) (.bl true), t4 "put" (.int b) (.bl true) (.int 1)]
def nearF (a b : Int) : List D := [t3 "put" (.int b) (.int 3), t3 "swap" (.int a) (.int 0), t3 "fold" (.int a) (.int a), .lst [.str "turn", .int 0], t2 "push" (.int 0), t2 "" (.int 0)]
def nearG (o : D) : List D := [o, .tup [.tup [.str "turn", .int 0]], t2 "turn" (.tup [.int 0])]
def nearL (a b : Int) (p q : Int × Int) (o : D) : List D := nearA a b ++ nearB p q ++ nearC b p q ++ nearD b ++ nearE b ++ nearF a b ++ nearG o
theorem okPush : okD (.str "push") = true := okW (by decide +kernel)
theorem okEmpty : okD (.str "") = true := okW (by decide +kernel)
theorem p_int (i : Int) : okD (.int i) = true ∧ plainD (.int i) = true ∧ plainDs (.int i) = true := ⟨ok_int i, rfl, rfl⟩
theorem p_bl (b : Bool) : okD (.bl b) = true ∧ plainD (.bl b) = true ∧ plainDs (.bl b) = true := ⟨okD_of (n := 1) rfl, rfl, rfl⟩
theorem p_non : okD .non = true ∧ plainD .non = true ∧ plainDs .non = true := ⟨okD_of (n := 1) rfl, rfl, rfl⟩
theorem p_i2 (p : Int × Int) : okD (i2 p) = true ∧ plainD (i2 p) = true ∧ plainDs (i2 p) = true := ⟨okD_of (n := 2) rfl, rfl, rfl⟩
theorem p_i2l (p : Int × Int) : okD (.lst [.int p.1, .int p.2]) = true ∧ plainD (.lst [.int p.1, .int p.2]) = true ∧ plainDs (.lst [.int p.1, .int p.2]) = true := ⟨okD_of (n := 2) rfl, rfl, rfl⟩
theorem chd_flat {d : D} (h : plainD d = true) (n : ∀ xs, d ≠ .tup xs) : ChD d := ⟨h, fun xs e => absurd e (n xs)⟩
theorem chd_odd {x : D} (h : x ∈ oddL) : ChD x := by
  unfold oddL at h
  simp only [List.mem_cons, List.not_mem_nil, or_false] at h
  rcases h with rfl | rfl | rfl | rfl | rfl | rfl | rfl | rfl | rfl | rfl | rfl
  · exact chd_flat rfl fun xs e => by cases e
  · exact chd_flat rfl fun xs e => by cases e
  · exact chd_flat rfl fun xs e => by cases e
  · exact chd_flat rfl fun xs e => by cases e
  · exact chd_of fun x hx => nomatch hx
  · exact chd_flat rfl fun xs e => by cases e
  · exact chd_flat rfl fun xs e => by cases e
  · exact chd_of fun x hx => by rw [List.mem_singleton.mp hx]; exact ⟨okFold, rfl, rfl⟩
  · refine chd_of fun x hx => ?_
    simp only [List.mem_cons, List.not_mem_nil, or_false] at hx
    rcases hx with rfl | rfl <;> exact p_int _
  · exact chd2 okTurn (p_bl _)
  · exact chd_flat rfl fun xs e => by cases e
theorem okT0 : okD (.tup [.str "turn", .int 0]) = true := by decide +kernel
theorem chd_near {a b : Int} {p q : Int × Int} {o x : D} (ho : ChD o) (h : x ∈ nearL a b p q o) : ChD x := by
  unfold nearL at h
  rcases List.mem_append.mp h with h | h
  · rcases List.mem_append.mp h with h | h
    · rcases List.mem_append.mp h with h | h
      · rcases List.mem_append.mp h with h | h
        · rcases List.mem_append.mp h with h | h
          · rcases List.mem_append.mp h with h | h
            · unfold nearA at h
              simp only [List.mem_cons, List.not_mem_nil, or_false] at h
              rcases h with rfl | rfl | rfl | rfl | rfl | rfl
              · exact chd2 okFold (p_int _)
              · exact chd2 okFold (p_int _)
              · exact chd2 okTurn (p_int _)
              · exact chd2 okSwap (p_int _)
              · exact chd2 okTurn (p_bl _)
              · exact chd2 okFold p_non
            · unfold nearB at h
              simp only [List.mem_cons, List.not_mem_nil, or_false] at h
              rcases h with rfl | rfl | rfl | rfl
              · exact chd3 okSlide (p_i2 _) (p_i2 _)
              · exact chd3 okSlide (p_i2 _) (p_i2 _)
              · exact chd3 okSlide (p_i2 _) (p_i2 _)
              · exact chd2 okSlide (p_i2 _)
          · unfold nearC at h
            simp only [List.mem_cons, List.not_mem_nil, or_false] at h
            rcases h with rfl | rfl | rfl
            · exact chd3 okSlide (p_i2l _) (p_i2 _)
            · exact chd4 okPut (p_int _) (p_int _) (p_int _)
            · exact chd4 okPut (p_int _) (p_int _) (p_int _)
        · unfold nearD at h
          rw [List.mem_singleton.mp h]
          exact chd4 okPut (p_int _) (p_int _) (p_int _)
      · unfold nearE at h
        simp only [List.mem_cons, List.not_mem_nil, or_false] at h
        rcases h with rfl | rfl | rfl | rfl
        · exact chd4 okPut (p_int _) (p_int _) (p_int _)
        · exact chd4 okPut (p_int _) (p_int _) (p_int _)
        · exact chd4 okPut (p_int _) (p_int _) (p_bl _)
        · exact chd4 okPut (p_int _) (p_bl _) (p_int _)
    · unfold nearF at h
      simp only [List.mem_cons, List.not_mem_nil, or_false] at h
      rcases h with rfl | rfl | rfl | rfl | rfl | rfl
      · exact chd3 okPut (p_int _) (p_int _)
      · exact chd3 okSwap (p_int _) (p_int _)
      · exact chd3 okFold (p_int _) (p_int _)
      · exact chd_flat rfl fun xs e => by cases e
      · exact chd2 okPush (p_int _)
      · exact chd2 okEmpty (p_int _)
  · unfold nearG at h
    simp only [List.mem_cons, List.not_mem_nil, or_false] at h
    rcases h with rfl | rfl | rfl
    · exact ho
    · exact chd_of fun x hx => by rw [List.mem_singleton.mp hx]; exact ⟨okT0, rfl, rfl⟩
    · exact chd2 okTurn ⟨okD_of (n := 2) rfl, rfl, rfl⟩
def S__law_near_changes : PF := fun ds T post _ => ∃ (n : Nat) (ts : List SdT), ds = [.st, .int n, .tup (ts.map sdD)] ∧ ts.length ≤ 20 ∧ n ≤ 12 ∧ T + 10 ≤ TM ∧ ∀ xs, xs.length = 27 → (∀ x ∈ xs, ChD x) → post (.fz (.lst xs)) (T + 5)
def G_ncC0 : DG := (gRet (dOp dAdd (dVar 8) (dLst (aCons (dCall S__law_ch_odd 1 (aCons (dVar 0) aNil)) (aCons (dTup (aCons (dTup (aCons (dC (.str "turn")) (aCons (dC (.int 0)) aNil))) aNil)) (aCons (dTup (aCons (dC (.str "turn")) (aCons (dTup (aCons (dC (.int 0)) aNil)) aNil))) aNil))))))
def G_ncC1 : DG := (gSeq (gSetO 8 (dCatO (dVar 8) (dLst (aCons (dTup (aCons (dC (.str "put")) (aCons (dVar 4) (aCons (dC (.int 3)) aNil)))) (aCons (dTup (aCons (dC (.str "swap")) (aCons (dVar 3) (aCons (dC (.int 0)) aNil)))) (aCons (dTup (aCons (dC (.str "fold")) (aCons (dVar 3) (aCons (dVar 3) aNil)))) (aCons (dLst (aCons (dC (.str "turn")) (aCons (dC (.int 0)) aNil))) (aCons (dTup (aCons (dC (.str "push")) (aCons (dC (.int 0)) aNil))) (aCons (dTup (aCons (dC (.str "")) (aCons (dC (.int 0)) aNil))) aNil)))))))))
    G_ncC0)
def G_ncC2 : DG := (gSeq (gSetO 8 (dCatO (dVar 8) (dLst (aCons (dTup (aCons (dC (.str "put")) (aCons (dVar 4) (aCons (dC (.int 2)) (aCons (dC (.int 2)) aNil))))) (aCons (dTup (aCons (dC (.str "put")) (aCons (dVar 4) (aCons (dC (.int 1)) (aCons (dC (.int 3)) aNil))))) (aCons (dTup (aCons (dC (.str "put")) (aCons (dVar 4) (aCons (dC (.int 2)) (aCons (dC (.bl true)) aNil))))) (aCons (dTup (aCons (dC (.str "put")) (aCons (dVar 4) (aCons (dC (.bl true)) (aCons (dC (.int 1)) aNil))))) aNil)))))))
    G_ncC1)
def G_ncC3 : DG := (gSeq (gApp 8 (dTup (aCons (dC (.str "put")) (aCons (dVar 4) (aCons (dC (.int 0)) (aCons (dC (.int 1)) aNil))))))
    G_ncC2)
def G_ncC4 : DG := (gSeq (gSetO 8 (dCatO (dVar 8) (dLst (aCons (dTup (aCons (dC (.str "slide")) (aCons (dListO (dVar 6)) (aCons (dVar 7) aNil)))) (aCons (dTup (aCons (dC (.str "put")) (aCons (dVar 4) (aCons (dC (.int 1000)) (aCons (dC (.int 1)) aNil))))) (aCons (dTup (aCons (dC (.str "put")) (aCons (dVar 4) (aCons (dC (.int 999)) (aCons (dNeg (dC (.int 1))) aNil))))) aNil))))))
    G_ncC3)
def G_ncC5 : DG := (gSeq (gSetO 8 (dCatO (dVar 8) (dLst (aCons (dTup (aCons (dC (.str "slide")) (aCons (dVar 6) (aCons (dVar 7) aNil)))) (aCons (dTup (aCons (dC (.str "slide")) (aCons (dVar 7) (aCons (dVar 6) aNil)))) (aCons (dTup (aCons (dC (.str "slide")) (aCons (dVar 6) (aCons (dVar 6) aNil)))) (aCons (dTup (aCons (dC (.str "slide")) (aCons (dVar 6) aNil))) aNil)))))))
    G_ncC4)
def G_ncC6 : DG := (gSeq (gSetO 8 (dLst (aCons (dTup (aCons (dC (.str "fold")) (aCons (dVar 3) aNil))) (aCons (dTup (aCons (dC (.str "fold")) (aCons (dOp dSub (dC (.int 0)) (dVar 3)) aNil))) (aCons (dTup (aCons (dC (.str "turn")) (aCons (dVar 4) aNil))) (aCons (dTup (aCons (dC (.str "swap")) (aCons (dVar 3) aNil))) (aCons (dTup (aCons (dC (.str "turn")) (aCons (dC (.bl true)) aNil))) (aCons (dTup (aCons (dC (.str "fold")) (aCons (dC .non) aNil))) aNil))))))))
    G_ncC5)
def G_ncC7 : DG := (gSeq (gPar 6 7 (aCons (dCall S__law_pick 2 (aCons (dVar 0) (aCons (dVar 5) aNil))) (aCons (dCall S__law_pick 2 (aCons (dVar 0) (aCons (dVar 5) aNil))) aNil)))
    G_ncC6)
def G_ncC8 : DG := (gSeq (gSet 5 (dOp dAdd (dCall S__law_sides 1 (aCons (dCB cLen (aCons (dVar 2) aNil)) aNil)) (dLst (aCons (dTup (aCons (dCB cLen (aCons (dVar 2) aNil)) (aCons (dC (.int 0)) aNil))) (aCons (dTup (aCons (dC (.int 0)) (aCons (dC (.int 2)) aNil))) aNil)))))
    G_ncC7)
def G__law_near_changes : DG := (gSeq (gPar 3 4 (aCons (dCall S__law_draw 2 (aCons (dVar 0) (aCons (dOp dAdd (dCB cLen (aCons (dVar 2) aNil)) (dC (.int 2))) aNil))) (aCons (dCall S__law_draw 2 (aCons (dVar 0) (aCons (dOp dAdd (dVar 1) (dC (.int 2))) aNil))) aNil)))
    G_ncC8)
def nrS (n : Nat) (ts : List SdT) (a b : Int) (some' : D) (v6 v7 v8 : OS) (T : Nat) : DS := ⟨[some (.fz .st), some (.fz (.int (n : Nat))), some (.fz (.tup (ts.map sdD))), some (.fz (.int a)), some (.fz (.int b)), some (.fz some'), v6, v7, v8], T⟩
theorem ncC0 {a b : Int} {p q : Int × Int} {w : D} (hT : T < TM) (k : ∀ xs, xs.length = 27 → (∀ x ∈ xs, ChD x) → E.rt (.fz (.lst xs)) (T + 1)) : G_ncC0 E (nrS n ts a b w (some (.fz (i2 p))) (some (.fz (i2 q))) (some (.ow (.lst (nearA a b ++ nearB p q ++ nearC b p q ++ nearD b ++ nearE b ++ nearF a b)))) T) := by
  refine ⟨rfl, rfl, hT, fun o ho => ⟨nle rfl, nle rfl, nle rfl, nle rfl, nle rfl, nle rfl, ?_⟩⟩
  exact k (nearL a b p q o) rfl fun x hx => chd_near (chd_odd ho) hx
theorem ncC1 {a b : Int} {p q : Int × Int} {w : D} (k : G_ncC0 E (nrS n ts a b w (some (.fz (i2 p))) (some (.fz (i2 q))) (some (.ow (.lst (nearA a b ++ nearB p q ++ nearC b p q ++ nearD b ++ nearE b ++ nearF a b)))) T)) : G_ncC1 E (nrS n ts a b w (some (.fz (i2 p))) (some (.fz (i2 q))) (some (.ow (.lst (nearA a b ++ nearB p q ++ nearC b p q ++ nearD b ++ nearE b)))) T) :=
  ⟨nle rfl, nle rfl, nle rfl, nle rfl, nle rfl, nle rfl, nle rfl, nle rfl, k⟩
theorem ncC2 {a b : Int} {p q : Int × Int} {w : D} (k : G_ncC1 E (nrS n ts a b w (some (.fz (i2 p))) (some (.fz (i2 q))) (some (.ow (.lst (nearA a b ++ nearB p q ++ nearC b p q ++ nearD b ++ nearE b)))) T)) : G_ncC2 E (nrS n ts a b w (some (.fz (i2 p))) (some (.fz (i2 q))) (some (.ow (.lst (nearA a b ++ nearB p q ++ nearC b p q ++ nearD b)))) T) :=
  ⟨nle rfl, nle rfl, nle rfl, nle rfl, nle rfl, nle rfl, k⟩
theorem ncC3 {a b : Int} {p q : Int × Int} {w : D} (k : G_ncC2 E (nrS n ts a b w (some (.fz (i2 p))) (some (.fz (i2 q))) (some (.ow (.lst (nearA a b ++ nearB p q ++ nearC b p q ++ nearD b)))) T)) : G_ncC3 E (nrS n ts a b w (some (.fz (i2 p))) (some (.fz (i2 q))) (some (.ow (.lst (nearA a b ++ nearB p q ++ nearC b p q)))) T) :=
  ⟨nle rfl, (show 13 < 100000 by decide), k⟩
theorem ncC4 {a b : Int} {p q : Int × Int} {w : D} (k : G_ncC3 E (nrS n ts a b w (some (.fz (i2 p))) (some (.fz (i2 q))) (some (.ow (.lst (nearA a b ++ nearB p q ++ nearC b p q)))) T)) : G_ncC4 E (nrS n ts a b w (some (.fz (i2 p))) (some (.fz (i2 q))) (some (.ow (.lst (nearA a b ++ nearB p q)))) T) :=
  ⟨nle rfl, nle rfl, nle rfl, nle rfl, nle rfl, k⟩
theorem ncC5 {a b : Int} {p q : Int × Int} {w : D} (k : G_ncC4 E (nrS n ts a b w (some (.fz (i2 p))) (some (.fz (i2 q))) (some (.ow (.lst (nearA a b ++ nearB p q)))) T)) : G_ncC5 E (nrS n ts a b w (some (.fz (i2 p))) (some (.fz (i2 q))) (some (.ow (.lst (nearA a b)))) T) :=
  ⟨nle rfl, nle rfl, nle rfl, nle rfl, nle rfl, nle rfl, k⟩
theorem ncC6 {a b : Int} {p q : Int × Int} {w : D} (k : G_ncC5 E (nrS n ts a b w (some (.fz (i2 p))) (some (.fz (i2 q))) (some (.ow (.lst (nearA a b)))) T)) : G_ncC6 E (nrS n ts a b w (some (.fz (i2 p))) (some (.fz (i2 q))) none T) :=
  ⟨nle rfl, nle rfl, nle rfl, nle rfl, nle rfl, nle rfl, nle rfl, k⟩
theorem m__law_near_changes : ∀ (ds : List D) T post ex, ds.length = 3 → S__law_near_changes ds T post ex → G__law_near_changes (endsOf post ex) (startD 9 ds T) := by
  rintro ds T post ex _ ⟨n, ts, rfl, hl, hn, hT, hp⟩
  refine ⟨rfl, (((ts.map sdD).length : Nat) : Int) + 2, rfl, by omega, by rw [List.length_map]; omega, (show T < TM by omega), fun a a0 a1 => ?_⟩
  refine ⟨rfl, (n : Int) + 2, rfl, by omega, by omega, (show T + 1 < TM by omega), fun b b0 b1 => ?_⟩
  have ls : (sides ts.length).length = 2 * ts.length := sides_len _
  have key : G_ncC7 (endsOf post ex) (nrS n ts a b (.lst (sides ts.length ++ [.tup [.int ((ts.length : Nat) : Int), .int 0], .tup [.int 0, .int 2]])) none none none (T + 2)) := by
    have is2 : ∀ x ∈ (sides ts.length ++ [.tup [.int ((ts.length : Nat) : Int), .int 0], .tup [.int 0, .int 2]] : List D), ∃ p, x = i2 p := fun x hx => by
      rcases List.mem_append.mp hx with h | h
      · obtain ⟨i, s, _, _, rfl⟩ := mem_sides h
        exact ⟨((i : Int), s), rfl⟩
      · simp only [List.mem_cons, List.not_mem_nil, or_false] at h
        rcases h with rfl | rfl
        · exact ⟨(((ts.length : Nat) : Int), 0), rfl⟩
        · exact ⟨(0, 2), rfl⟩
    have l0 : (sides ts.length ++ [.tup [.int ((ts.length : Nat) : Int), .int 0], .tup [.int 0, .int 2]] : List D).length = 2 * ts.length + 2 := by rw [List.length_append, ls]; rfl
    refine ⟨rfl, _, _, rfl, .inl rfl, by omega, by omega, (show T + 2 < TM by omega), fun x hx => ?_⟩
    obtain ⟨p, rfl⟩ := is2 x hx
    refine ⟨rfl, _, _, rfl, .inl rfl, by omega, by omega, (show T + 3 < TM by omega), fun y hy => ?_⟩
    obtain ⟨q, rfl⟩ := is2 y hy
    have k0 : G_ncC6 (endsOf post ex) (nrS n ts a b (.lst (sides ts.length ++ [.tup [.int ((ts.length : Nat) : Int), .int 0], .tup [.int 0, .int 2]])) (some (.fz (i2 p))) (some (.fz (i2 q))) none (T + 4)) :=
      ncC6 (ncC5 (ncC4 (ncC3 (ncC2 (ncC1 (ncC0 (by omega) hp))))))
    exact k0
  refine ⟨rfl, (ts.map sdD).length, rfl, by rw [List.length_map]; omega, nle rfl, nle rfl, nle rfl, ?_, ?_⟩
  · show (sides (ts.map sdD).length).length + 2 ≤ 100000
    rw [List.length_map, ls]
    omega
  · show G_ncC7 (endsOf post ex) (nrS n ts a b (.lst (sides (ts.map sdD).length ++ [.tup [.int (((ts.map sdD).length : Nat) : Int), .int 0], .tup [.int 0, .int 2]])) none none none (T + 2))
    rw [List.length_map]
    exact key
end
end Law


set_option Elab.async false
set_option linter.all false
set_option maxRecDepth 100000
set_option maxHeartbeats 4000000
namespace DL
open PySem L2
variable [Tb]
/-! ### calls by place and by keywords: x(a, .., k = v, ..) -/
structure KnKM (P : Program) (w : World) (K : PySem.W.Frag) (mg : Str → Option Value) (base : Heap) (CX : CXT) (k : Nat) (x : Str) (ps : List Str) (n : Nat) (ks : List Str) (π : List Nat) (S : PF) : Prop where
  ex : ∃ f fd, FnOk P w K mg base CX k f fd ps (spD K mg ps.length S) ∧ mg x = some (.ref f) ∧ PySem.W.keepIn K (.ref f) = true ∧ KBn K fd ps n ks (pick π .none) (pick π .non)
theorem KnKM.up {P : Program} {w : World} {K : PySem.W.Frag} {mg : Str → Option Value} {base : Heap} {CX : CXT} {k j n : Nat} {x : Str} {ps ks : List Str} {π : List Nat} {S : PF} (h : KnKM P w K mg base CX k x ps n ks π S) (hk : k ≤ j) : KnKM P w K mg base CX j x ps n ks π S := by
  obtain ⟨f, fd, o, r⟩ := h.ex
  exact ⟨f, fd, o.mono hk, r⟩
theorem knKM_of {P : Program} {w : World} {K : PySem.W.Frag} {mg : Str → Option Value} {base : Heap} {x : Str} {st : Stmt} {ps ks : List Str} {π : List Nat} {n : Nat} {CX : CXT} {k : Nat} {S : PF} (D : DefAt K mg x st ps)
    (hb : ∀ (kV doc pm : Value) (an : Option Addr) (cdv ct : Value) (us ws : List Value), us.length = n → ws.length = ks.length → bindArgs (PySem.W.fnOf x x (defArgs st) (defBody st) (defScope st) .none kV doc pm an cdv ct) ⟨us, ks.zip ws⟩ = pure (ps.zip (pick π .none us ws)))
    (ok : ∀ f fd, Fun K x x st f fd → FnOk P w K mg base CX k f fd ps (spD K mg ps.length S)) : KnKM P w K mg base CX k x ps n ks π S := by
  obtain ⟨f, fd, F, m, kp, b⟩ := D.ex
  refine ⟨f, fd, ok f fd F, m, kp, ⟨fun s us ws _ h1 h2 => ?_, fun r q => vals_pick π r q⟩⟩
  obtain ⟨oc, od, kV, doc, pm, an, cdv, ct, osl, rfl, lk, hcd⟩ := F.ex
  exact .of_eq (hb kV doc pm an cdv ct us ws h1 h2)
theorem repL_pickU {c : Ct} {B : Hp} (π : List Nat) {us : List D} {vs : List V} {ds : List D} {zs : List V} (h0 : RepL c B us vs) (h : RepL c B ds zs) : RepL c B (pick π .non us ds) (pick π .non vs zs) := by
  have k : ∀ {us : List D} {vs : List V}, RepL c B us vs → RepL c B (us ++ π.map fun i => ds.getD i .non) (vs ++ π.map fun i => zs.getD i .non) := by
    intro us
    induction us with
    | nil =>
      intro vs h0
      unfold RepL at h0
      rw [h0]
      have kk := repL_pick π h
      unfold pick at kk
      exact kk
    | cons d us ih =>
      intro vs h0
      unfold RepL at h0
      obtain ⟨x, xr, rfl, r1, r2⟩ := h0
      exact repL_cons r1 (ih r2)
  exact k h0
def dCallKM (S : PF) (n m : Nat) (π : List Nat) (Ga Gk : DFA) : DF := fun s P ex => Ga s (fun us s1 => Gk s1 (fun ds s2 => us.length = n ∧ ds.length = m ∧ S (pick π .non us ds) s2.T (fun x T' => P x.d (s2.tick T')) noX) ex) ex
section
variable {X : Cx} {W : WX} {e : Expr} {es : List Expr} {kws : List Keyword} {Ga Gk : DFA} {p pos : Pos}
/-- of a def that may raise, where nothing is raised -/
theorem d_callKMX0 {k n m : Nat} {x : Str} {ps ks : List Str} {π : List Nat} {S : PF} (F : KnKM X.prog X.w X.K X.mg X.base (L2.CX X.prog X.w) k x ps n ks π S) (hr : Room k X.A) (ha : DPA X W (e :: es) Ga) (hkw : DPK X W kws Gk) (hn : ks.length = m := by rfl) (hp : n + π.length = ps.length := by rfl) (hg : Gl X x := by rfl) (hdb : (x == ("__debug__" : Str)) = false := by decide)
    (hall : (backToKw pos (keywordEach kws X.env)).all (·.1.isSome) = true := by rfl) (hks : (backToKw pos (keywordEach kws X.env)).filterMap (·.1) = ks := by rfl) (he : starEach (e :: es) X.env = (false, eval e X.env) :: starEach es X.env := by rfl)
    (hpl : ((backTo pos (starEach (e :: es) X.env)).any (·.1) || (backToKw pos (keywordEach kws X.env)).any (·.1.isNone)) = false := by rfl) : DPE X W (.Call (.Name x p) (e :: es) kws pos) (dCallKM S n m π Ga Gk) := by
  subst hn
  obtain ⟨f, fd, f1, f2, f3, f4⟩ := F.ex
  refine ⟨pe_mono (fun σ H Q ⟨q, L, H0, B0, s, B, P, ex, t, f, rt, ee⟩ => ?_) (pe_callN f1 hr hg f2 f3 f4 passL ha.pa hkw.pk hall hks hdb he hpl)⟩
  refine ⟨q, L, H0, B0, s, B, _, ex, t, f, fun us H1 ds s1 B1 t1 l1 r1 p1 => ?_, ee⟩
  refine ⟨q, L, H0, B0, s1, B1, _, ex, t1, p1, fun zs H2 ks s2 B2 t2 l2 r2 p2 => ?_, ee.le l1⟩
  obtain ⟨h1, h2, h3⟩ := p2
  refine ⟨by rw [repL_len r1]; exact h1, by rw [repL_len r2]; exact h2, ?_⟩
  exact sp_of t2 (repL_pickU π (r1.mono l2) r2) (by unfold pick; simp [h1, hp]) h3 (fun v H' B' d T' t3 l3 r3 p3 => rt _ _ _ _ _ t3 (l1.trans (l2.trans l3)) r3 p3)
    (fun p o H' B' d T' t3 l3 hp ro p3 => rt _ _ _ _ _ (t3.alloc hp ro.ntb) (l1.trans (l2.trans (l3.trans (Le.upd (t3.bs.nB hp))))) ((ro.mono (Le.upd (t3.bs.nB hp))).rep upd_same) p3) (fun _ _ _ _ _ _ _ _ _ _ z => z.elim)
end
end DL


set_option Elab.async false
set_option linter.all false
set_option maxRecDepth 100000
set_option maxHeartbeats 4000000
namespace Law
open PySem L2 DL
variable [Tb]
section
variable {T n : Nat} {ts : List SdT} {E : DE}
/-! _law_judged -/
theorem okN_sds (us : List SdT) : okN 8 (.tup (us.map sdD)) = true := by
  unfold okN
  refine okNs_iff.mpr fun d hd => ?_
  obtain ⟨t, _, rfl⟩ := List.mem_map.mp hd
  rfl
theorem okN_pl (k : Int) (us : List SdT) : okN 9 (.tup [.int k, .tup (us.map sdD)]) = true := by
  unfold okN
  refine okNs_iff.mpr fun d hd => ?_
  simp only [List.mem_cons, List.not_mem_nil, or_false] at hd
  rcases hd with rfl | rfl
  · rfl
  · exact okN_sds us
theorem ok_pl (k : Int) (us : List SdT) : okD (.tup [.int k, .tup (us.map sdD)]) = true := okD_of (n := 9) (okN_pl k us)
theorem eqv_sameC {n : Nat} {d : D} (h : okN n d = true) : PyData.eqv (py d) (py d) = true := SeqAt.eqv_refl _ (okN_ok h).2.1
theorem s_eq0 {z : Nat × List SdT} {T : Nat} {post : Sl → Nat → Prop} {ex : Str → List (Str × D) → Nat → Prop} (B : BehI z.1 z.2) (h : post (.fz (.bl true)) T) : S_House_eq0 [hsD z, hsD z] T post ex :=
  .inr ⟨z.1, z.1, _, _, rfl, B.hsg.hd, B.hsg.hd, fun b hb => by
    obtain rfl : b = true := hb.mpr ⟨rfl, rfl⟩
    exact h⟩
def S__law_judged : PF := fun ds T post _ => ∃ (n : Nat) (ts : List SdT) (xs : List D), ds = [.int n, .tup (ts.map sdD), .lst xs] ∧ BehI n ts ∧ (∀ x ∈ xs, ChD x) ∧ post (.fz (.bl true)) T
def G_jdR0 : DG := (gSeq (gSet 5 (dCall S__law_ch_room 3 (aCons (dVar 1) (aCons (dVar 4) (aCons (dVar 7) aNil)))))
    (gIf (dTest (dOp dNe (dCallKM S_room_alongC 2 1 [0] (aCons (dVar 3) (aCons (dVar 4) aNil)) (aCons (dVar 7) aNil)) (dVar 5))) (gRet (dC (.bl false))) gNil))
def G_jdR : DG := (gFor (iRng1D (dVar 0)) (tgN 7) G_jdR0)
def G_jdS1 : DG := (gSeq (gIf (tOrD (dTest (dOp dNe (dTup (aCons (dFld "House" "rooms" (dVar 6)) (aCons (dFld "House" "doors" (dVar 6)) aNil))) (dVar 5))) (dTest (dOwnEq true "House" S_House_eq0 (dVar 6) (dMake0 S_House 2 (aCons (dIxV 5 (dC (.int 0))) (aCons (dIxV 5 (dC (.int 1))) aNil)))))) (gRet (dC (.bl false))) gNil)
    G_jdR)
def G_jdS : DG := (gSeq (gSet 6 (dCallK S_changedC 2 [1, 0] (aCons (dVar 4) (aCons (dVar 3) aNil))))
    G_jdS1)
def G_jdN : DG := (gIf (tNotD (dTest (dIsO [] [("Apart", false), ("BadChange", true), ("BadChanges", false), ("BadDoors", false), ("BadHouse", false), ("BadRoom", false), ("BadRooms", false)] (dCaught (["Apart", "BadChange", "BadChanges", "BadDoors", "BadHouse", "BadRoom", "BadRooms"] : List Str) (dCallX S_changedC 2 (aCons (dVar 3) (aCons (dVar 4) aNil))))))) (gRet (dC (.bl false))) gNil)
def G_jd0 : DG := (gIf (dTest (dOp dIsN (dVar 5) (dC .non))) G_jdN G_jdS)
def G_jd1 : DG := (gSeq (gIf (tNotD (dTest (dCall S__law_is_truth 2 (aCons (dCallK S_is_changeC 2 [1, 0] (aCons (dVar 4) (aCons (dVar 3) aNil))) (aCons (dOp dNotN (dVar 5) (dC .non)) aNil))))) (gRet (dC (.bl false))) gNil)
    G_jd0)
def G_jd2 : DG := (gSeq (gSet 5 (dCall S__law_ch_behindC 3 (aCons (dVar 0) (aCons (dVar 1) (aCons (dVar 4) aNil)))))
    G_jd1)
def G_jdE : DG := (gRet (dOp dEq (dTup (aCons (dFld "House" "rooms" (dVar 3)) (aCons (dFld "House" "doors" (dVar 3)) aNil))) (dTup (aCons (dVar 0) (aCons (dVar 1) aNil)))))
def G_jd3 : DG := (gSeq (gFor (iSeq (dVar 2)) (tgN 4) G_jd2)
    G_jdE)
def G__law_judged : DG := (gSeq (gSet 3 (dMake0 S_House 2 (aCons (dVar 0) (aCons (dVar 1) aNil))))
    G_jd3)
def jdS (n : Nat) (ts : List SdT) (xs : D) (v4 v5 v6 v7 : OS) (T : Nat) : DS := ⟨[some (.fz (.int (n : Nat))), some (.fz (.tup (ts.map sdD))), some (.fz xs), some (.fz (houseD n (ts.map sdD))), v4, v5, v6, v7], T⟩
theorem jdR0 {xs d v5 : D} {v6 : OS} {r : Nat} {c : ChT} (H : BehI n ts) (cd : ChD d) (hb : chB n ts d ≠ none) (hc : chOf ts.length d = some c) (hr : rawT n ts c ≠ none) (hn : r < n)
    (k : ∀ v5, E.nx (jdS n ts xs (some (.fz d)) (some (.fz v5)) v6 (some (.fz (.int (r : Nat)))) T)) :
    G_jdR0 E (jdS n ts xs (some (.fz d)) (some (.fz v5)) v6 (some (.fz (.int (r : Nat)))) T) := by
  refine ⟨rfl, n, ts, d, c, r, rfl, H.ok, cd, hc, hr, ?_⟩
  refine ⟨rfl, rfl, .inr ⟨n, ts, d, .int (r : Nat), rfl, H, cd, rfl, fun z => absurd z hb, fun _ z => ?_, fun r' c' _ hc' hr' _ => ?_⟩⟩
  · rw [nat_in.mpr ⟨r, nat_of r, hn⟩] at z
    cases z
  · rw [hc] at hc'
    cases hc'
    have e : r' = r := by injection hr' with z; omega
    subst e
    refine ⟨ok_int _, ok_int _, ?_⟩
    show (if (!PyData.eqv (py (.int (rmT ts r' c : Nat))) (py (.int (rmT ts r' c : Nat)))) = true then _ else _)
    rw [eqv_int, decide_eq_true rfl]
    exact iteF (k _)
theorem jdS1 {xs d : D} {v7 : OS} {z : Nat × List SdT} (H : BehI n ts) (cd : ChD d) (hb : chB n ts d = some z)
    (k : ∀ v5 v7, E.nx (jdS n ts xs (some (.fz d)) v5 (some (.fz (hsD z))) v7 T)) :
    G_jdS1 E (jdS n ts xs (some (.fz d)) (some (.fz (plD (some z)))) (some (.fz (hsD z))) v7 T) := by
  obtain ⟨kk, us⟩ := z
  obtain ⟨c, hc, hr, hbe⟩ := chB_raw hb
  have B : BehI kk us := beh_ok H hbe
  refine ⟨rfl, _, look_rooms, rfl, _, look_doors, nle rfl, ok_pl _ _, ok_pl _ _, ?_⟩
  show (if (!PyData.eqv (py (.tup [.int (kk : Nat), .tup (us.map sdD)])) (py (.tup [.int (kk : Nat), .tup (us.map sdD)]))) = true then _ else _)
  rw [eqv_sameC (okN_pl _ _)]
  refine iteF ⟨trivial, _, rfl, trivial, _, rfl, rfl, s_HouseG B.hsg ?_⟩
  refine ⟨⟨_, _, rfl, rfl⟩, s_eq0 (z := (kk, us)) B ⟨true, rfl, ?_⟩⟩
  refine iteF ?_
  have key : G_jdR E (jdS n ts xs (some (.fz d)) (some (.fz (plD (some (kk, us))))) (some (.fz (hsD (kk, us)))) v7 T) := by
    refine gFor_inv (fun i s => ∃ v5 v7, s = jdS n ts xs (some (.fz d)) (some (.fz v5)) (some (.fz (hsD (kk, us)))) v7 T) (rangeD 0 n) (fun Q hQ => ?_) ?_ ?_
    · exact ⟨by have := H.k12; omega, by omega, hQ _ ⟨_, _, rfl⟩⟩
    · rintro i e s hi ⟨v5, v7, rfl⟩ R hR
      obtain ⟨rfl, hi2⟩ := rangeD_get hi
      rw [Int.zero_add]
      refine jdR0 (E := { E with nx := R }) H cd (by rw [hb]; exact fun e => by cases e) hc hr hi2 fun v5' => hR _ ⟨_, _, rfl⟩
    · rintro s ⟨v5, v7, rfl⟩
      exact k _ _
  exact key
theorem jd2 {xs d : D} {v5 v6 v7 : OS} (H : BehI n ts) (cd : ChD d) (k : ∀ v5 v6 v7, E.nx (jdS n ts xs (some (.fz d)) v5 v6 v7 T)) :
    G_jd2 E (jdS n ts xs (some (.fz d)) v5 v6 v7 T) := by
  have n1 := H.k1
  have n12 := H.k12
  have lu := H.lu
  refine ⟨rfl, n, ts, d, rfl, H.ok, by omega, n1, by omega, cd, ?_⟩
  refine ⟨rfl, .inr ⟨n, ts, d, rfl, H, cd, ?_⟩⟩
  cases hb : chB n ts d with
  | none =>
    refine ⟨rfl, false, false, rfl, iteF ?_⟩
    refine ⟨rfl, .inr ⟨n, ts, d, rfl, H, cd, fun _ => ⟨by simp, true, by decide +kernel, k _ _ _⟩, fun z e => ?_⟩⟩
    rw [hb] at e
    cases e
  | some z =>
    obtain ⟨kk, us⟩ := z
    refine ⟨rfl, true, true, rfl, iteF ?_⟩
    have key : G_jdS E (jdS n ts xs (some (.fz d)) (some (.fz (plD (some (kk, us))))) v6 v7 T) := by
      refine ⟨rfl, .inr ⟨n, ts, d, rfl, H, cd, fun e => ?_, fun y e => ?_⟩⟩
      · rw [hb] at e
        cases e
      · rw [hb] at e
        cases e
        exact jdS1 H cd hb fun v5 v7 => k _ _ _
    exact key
theorem jdE {xs : D} {v4 v5 v6 v7 : OS} (k : E.rt (.fz (.bl true)) T) : G_jdE E (jdS n ts xs v4 v5 v6 v7 T) := by
  refine ⟨rfl, _, look_rooms, rfl, _, look_doors, nle rfl, nle rfl, ok_pl _ _, ok_pl _ _, ?_⟩
  show E.rt (.fz (.bl (PyData.eqv (py (.tup [.int (n : Nat), .tup (ts.map sdD)])) (py (.tup [.int (n : Nat), .tup (ts.map sdD)]))))) T
  rw [eqv_sameC (okN_pl _ _)]
  exact k
theorem jd3 {xs : List D} (H : BehI n ts) (hx : ∀ x ∈ xs, ChD x) (k : E.rt (.fz (.bl true)) T) : G_jd3 E (jdS n ts (.lst xs) none none none none T) := by
  refine gFor_inv (fun i s => ∃ v4 v5 v6 v7, s = jdS n ts (.lst xs) v4 v5 v6 v7 T) xs (fun Q hQ => ⟨_, rfl, hQ _ ⟨_, _, _, _, rfl⟩⟩) ?_ ?_
  · rintro i d s hi ⟨v4, v5, v6, v7, rfl⟩ R hR
    refine jd2 (T := T) H (hx d (List.mem_of_getElem? hi)) fun v5 v6 v7 => hR _ ⟨_, _, _, _, rfl⟩
  · rintro s ⟨v4, v5, v6, v7, rfl⟩
    exact jdE k
theorem m__law_judged : ∀ (ds : List D) T post ex, ds.length = 3 → S__law_judged ds T post ex → G__law_judged (endsOf post ex) (startD 8 ds T) := by
  rintro ds T post ex _ ⟨n, ts, xs, rfl, H, hx, kp⟩
  exact ⟨rfl, s_HouseG H.hsg (jd3 (E := endsOf post ex) H hx kp)⟩
end
end Law


set_option Elab.async false
set_option linter.all false
set_option maxRecDepth 100000
set_option maxHeartbeats 4000000
namespace Law
open PySem L2 DL
variable [Tb]
section
variable {T n : Nat} {ts : List SdT} {E : DE}
/-! _law_runs -/
def turn0 : D := .tup [.str "turn", .int 0]
def push0 : D := .tup [.str "push", .int 0]
theorem tu_tu (r : Nat) (t : SdT) : tuT r (tuT r t) = t := by
  obtain ⟨a, x, b, y⟩ := t
  have h : ∀ (z : Int) (b : Bool), z * sgT b * sgT b = z := fun z b => by cases b <;> unfold sgT <;> simp
  show (a, x * sgT (decide (a = r)) * sgT (decide (a = r)), b, y * sgT (decide (b = r)) * sgT (decide (b = r))) = (a, x, b, y)
  rw [h, h]
theorem chB_turn {r : Nat} (H : BehI n ts) (hr : r < n) : chB n ts (chgD (.turn r)) = some (n, ts.map (tuT r)) := by
  rw [chB_chg (c := .turn r) trivial, beh_turn H.ok H.lu H.k12 hr]
theorem chB_turn_no {r : Nat} (hr : ¬ r < n) : chB n ts (chgD (.turn r)) = none := by
  rw [chB_chg (c := .turn r) trivial]
  unfold behT
  have e1 : rawT n ts (.turn r) = if r < n then some (n, ts.map (tuT r)) else none := rfl
  rw [e1, if_neg hr]
  rfl
theorem run_turns (H : BehI n ts) : ∀ k : Nat, ∃ M, runH (n, ts) (List.replicate (2 * k) turn0) = some (M ++ [(n, ts)])
  | 0 => ⟨[], rfl⟩
  | k + 1 => by
    obtain ⟨M, h⟩ := run_turns H k
    have t1 : chB n ts turn0 = some (n, ts.map (tuT 0)) := chB_turn (r := 0) H H.k1
    have H2 : BehI n (ts.map (tuT 0)) := beh_ok (c := .turn 0) H (beh_turn H.ok H.lu H.k12 H.k1)
    have t2 : chB n (ts.map (tuT 0)) turn0 = some (n, ts) := by
      have h := chB_turn (r := 0) H2 H2.k1
      rw [List.map_map, show (tuT 0 ∘ tuT 0) = id from funext fun t => tu_tu 0 t, List.map_id] at h
      exact h
    refine ⟨(n, ts) :: (n, ts.map (tuT 0)) :: M, ?_⟩
    rw [show 2 * (k + 1) = 2 * k + 1 + 1 by omega, List.replicate_succ, List.replicate_succ]
    show (match chB n ts turn0 with
      | none => none
      | some y => (match chB y.1 y.2 turn0 with
        | none => none
        | some w => (runH w (List.replicate (2 * k) turn0)).map (y :: ·)).map ((n, ts) :: ·)) = _
    rw [t1]
    dsimp only
    rw [t2]
    dsimp only
    rw [h]
    rfl
theorem chd_turn0 : ChD turn0 := chd_chg (.turn 0)
theorem chd_push0 : ChD push0 := chd2 okPush (p_int _)
theorem push_none : chB n ts push0 = none := by
  unfold chB push0
  rw [ch2, if_neg (by decide +kernel), if_neg (by decide +kernel), if_neg (by decide +kernel)]
  rfl
/-- what is no row of changes -/
def BadRun (n : Nat) (ts : List SdT) (d : D) : Prop := (plainD d = true ∧ (seqC d = false ∨ ∃ cs, (d = .lst cs ∨ d = .tup cs) ∧ 30 < cs.length ∧ cs.length ≤ 100000)) ∨ ∃ cs, d = .lst cs ∧ cs.length ≤ 30 ∧ (∀ c ∈ cs, ChD c) ∧ runH (n, ts) cs = none
theorem s_bad {d : D} {post : Sl → Nat → Prop} {ex : Str → List (Str × D) → Nat → Prop} (H : BehI n ts) (b : BadRun n ts d) (hx : ex "BadChanges" [] T) : S_changed_byC [houseD n (ts.map sdD), d] T post ex := by
  rcases b with ⟨p, h⟩ | ⟨cs, rfl, h1, h2, h3⟩
  · exact .inr (.inl ⟨n, ts, d, rfl, p, h, hx⟩)
  · exact .inr (.inr ⟨n, ts, _, cs, rfl, H, .inl rfl, h1, h2, fun _ => hx, fun M z e => by rw [h3] at e; cases e⟩)
theorem s_run {d : D} {cs : List D} {M : List (Nat × List SdT)} {z : Nat × List SdT} {post : Sl → Nat → Prop} {ex : Str → List (Str × D) → Nat → Prop} (H : BehI n ts) (hd : d = .lst cs ∨ d = .tup cs) (h1 : cs.length ≤ 30) (h2 : ∀ c ∈ cs, ChD c) (h : runH (n, ts) cs = some (M ++ [z])) (hp : post (.fz (hsD z)) T) : S_changed_byC [houseD n (ts.map sdD), d] T post ex :=
  .inr (.inr ⟨n, ts, _, cs, rfl, H, hd, h1, h2, fun e => (by rw [h] at e; cases e), fun M' z' e => by
    rw [h] at e
    obtain ⟨_, e2⟩ := List.append_inj' (Option.some.inj e) rfl
    injection e2 with e2
    subst e2
    exact hp⟩)
def S__law_runs : PF := fun ds T post _ => ∃ (n : Nat) (ts : List SdT), ds = [.st, .int n, .tup (ts.map sdD)] ∧ BehI n ts ∧ T + 40 ≤ TM ∧ ∀ T', T ≤ T' → T' ≤ T + 40 → post (.fz (.bl true)) T'
def G_lrA : DG := (gRet (dAnd (dOwnEq false "House" S_House_eq0 (dCall S_changed_byC 2 (aCons (dVar 5) (aCons (dOp dMul (dLst (aCons (dTup (aCons (dC (.str "turn")) (aCons (dC (.int 0)) aNil))) aNil)) (dC (.int 30))) aNil))) (dVar 5)) (dOwnEq false "House" S_House_eq0 (dCall S_changed_byC 2 (aCons (dVar 5) (aCons (dLst aNil) aNil))) (dVar 5))))
def G_lrB0 : DG := (gIf (tNotD (dTest (dIsO [] [("Apart", false), ("BadChange", false), ("BadChanges", true), ("BadDoors", false), ("BadHouse", false), ("BadRoom", false), ("BadRooms", false)] (dCaught (["Apart", "BadChange", "BadChanges", "BadDoors", "BadHouse", "BadRoom", "BadRooms"] : List Str) (dCallX S_changed_byC 2 (aCons (dVar 5) (aCons (dVar 8) aNil))))))) (gRet (dC (.bl false))) gNil)
def F_lrB : DF := (dLst (aCons (dOp dAdd (dVar 6) (dLst (aCons (dTup (aCons (dC (.str "push")) (aCons (dC (.int 0)) aNil))) aNil))) (aCons (dC .non) (aCons (dC (.int 5)) (aCons (dOp dMul (dLst (aCons (dTup (aCons (dC (.str "turn")) (aCons (dC (.int 0)) aNil))) aNil)) (dC (.int 31))) (aCons (dOp dAdd (dVar 6) (dLst (aCons (dTup (aCons (dC (.str "turn")) (aCons (dOp dIx (dIxV 4 (dNeg (dC (.int 1)))) (dC (.int 0))) aNil))) aNil))) (aCons (dC (.dic [])) aNil)))))))
def G_lrB : DG := (gSeq (gFor (iSeq F_lrB) (tgN 8) G_lrB0)
    G_lrA)
def G_lrC : DG := (gSeq (gIf (dTest (dOwnEq true "House" S_House_eq0 (dCall S_changed_byC 2 (aCons (dVar 5) (aCons (dCB cTuple (aCons (dVar 6) aNil)) aNil))) (dVar 7))) (gRet (dC (.bl false))) gNil)
    G_lrB)
def G_lrD : DG := (gSeq (gIf (tOrD (dTest (dOp dNe (dTup (aCons (dFld "House" "rooms" (dVar 7)) (aCons (dFld "House" "doors" (dVar 7)) aNil))) (dIxV 4 (dNeg (dC (.int 1)))))) (dTest (dOp dNe (dVar 3) (dVar 6)))) (gRet (dC (.bl false))) gNil)
    G_lrC)
def G_lrE : DG := (gSeq (gSet 7 (dCallK S_changed_byC 2 [1, 0] (aCons (dVar 3) (aCons (dVar 5) aNil))))
    G_lrD)
def G_lrF : DG := (gSeq (gUnp (tgTup 2 (tgCons (tgN 5) (tgCons (tgN 6) tgNil))) (dTup (aCons (dMake0 S_House 2 (aCons (dVar 1) (aCons (dVar 2) aNil))) (aCons (dListO (dVar 3)) aNil))))
    G_lrE)
def G__law_runs : DG := (gSeq (gUnp (tgTup 2 (tgCons (tgN 3) (tgCons (tgN 4) tgNil))) (dCall S__law_ch_run 4 (aCons (dVar 0) (aCons (dVar 1) (aCons (dVar 2) (aCons (dCall S__law_draw 2 (aCons (dVar 0) (aCons (dC (.int 4)) aNil))) aNil))))))
    G_lrF)
def lrS (n : Nat) (ts : List SdT) (cs : List ChT) (L : List (Nat × List SdT)) (v7 v8 : OS) (T : Nat) : DS := ⟨[some (.fz .st), some (.fz (.int (n : Nat))), some (.fz (.tup (ts.map sdD))), some (.fz (.lst (cs.map chgD))), some (.fz (.lst (L.map plZ))), some (.fz (houseD n (ts.map sdD))), some (.fz (.lst (cs.map chgD))), v7, v8], T⟩
theorem s_eqh {T : Nat} {post : Sl → Nat → Prop} {ex : Str → List (Str × D) → Nat → Prop} (B : BehI n ts) (h : post (.fz (.bl true)) T) : S_House_eq0 [houseD n (ts.map sdD), houseD n (ts.map sdD)] T post ex := s_eq0 (z := (n, ts)) B h
theorem lrA {cs : List ChT} {L : List (Nat × List SdT)} {v7 v8 : OS} (H : BehI n ts) (k : E.rt (.fz (.bl true)) T) : G_lrA E (lrS n ts cs L v7 v8 T) := by
  obtain ⟨M, h⟩ := run_turns H 15
  refine ⟨nle rfl, nle rfl, (by decide : (30 : Int) ≤ 1000), (by decide : (-1000 : Int) ≤ 30), nle rfl, rfl, ?_⟩
  refine s_run (cs := List.replicate 30 turn0) (z := (n, ts)) H (.inl rfl) (by decide) (fun c hc => by rw [(List.mem_replicate.mp hc).2]; exact chd_turn0) h ?_
  refine ⟨⟨_, _, rfl, rfl⟩, s_eqh H ⟨true, rfl, ?_⟩⟩
  refine ⟨nle rfl, rfl, ?_⟩
  refine s_run (cs := []) (M := []) (z := (n, ts)) H (.inl rfl) (by decide) (fun c hc => nomatch hc) rfl ?_
  exact ⟨⟨_, _, rfl, rfl⟩, s_eqh H ⟨true, rfl, k⟩⟩
theorem fB {cs : List ChT} {M : List (Nat × List SdT)} {z : Nat × List SdT} {v7 v8 : OS} {P : D → DS → Prop} {ex : XD} (lc : cs.length ≤ 4)
    (k : P (.lst [.lst (cs.map chgD ++ [push0]), .non, .int 5, .lst (List.replicate 31 turn0), .lst (cs.map chgD ++ [.tup [.str "turn", .int (z.1 : Nat)]]), .dic []]) (lrS n ts cs (M ++ [z]) v7 v8 T)) :
    F_lrB (lrS n ts cs (M ++ [z]) v7 v8 T) P ex := by
  have at1 : atI ((M ++ [z]).map plZ) (-1) = some (plZ z) := by
    rw [List.map_append]
    exact atI_last _
  have l1 : (cs.map chgD).length + 1 ≤ 100000 := by rw [List.length_map]; omega
  exact ⟨nle rfl, nle rfl, l1, nle rfl, nle rfl, (by decide : (31 : Int) ≤ 1000), (by decide : (-1000 : Int) ≤ 31), nle rfl, trivial, plZ z, at1, _, rfl, nle rfl, nle rfl, l1, nle rfl, k⟩
theorem lrB {cs : List ChT} {M : List (Nat × List SdT)} {z : Nat × List SdT} {v7 v8 : OS} (H : BehI n ts) (B : BehI z.1 z.2) (lc : cs.length ≤ 4) (hr : runH (n, ts) (cs.map chgD) = some (M ++ [z])) (k : E.rt (.fz (.bl true)) T) : G_lrB E (lrS n ts cs (M ++ [z]) v7 v8 T) := by
  have bad : ∀ d ∈ ([.lst (cs.map chgD ++ [push0]), .non, .int 5, .lst (List.replicate 31 turn0), .lst (cs.map chgD ++ [.tup [.str "turn", .int (z.1 : Nat)]]), .dic []] : List D), BadRun n ts d := fun d hd => by
    have chs : ∀ x, ChD x → ∀ c ∈ cs.map chgD ++ [x], ChD c := fun x hx c hc => by
      rcases List.mem_append.mp hc with h | h
      · obtain ⟨c0, _, rfl⟩ := List.mem_map.mp h
        exact chd_chg c0
      · rw [List.mem_singleton.mp h]
        exact hx
    have ll : ∀ x : D, (cs.map chgD ++ [x]).length ≤ 30 := fun x => by rw [List.length_append, List.length_map]; show _ + 1 ≤ _; omega
    simp only [List.mem_cons, List.not_mem_nil, or_false] at hd
    rcases hd with rfl | rfl | rfl | rfl | rfl | rfl
    · exact .inr ⟨_, rfl, ll _, chs _ chd_push0, by rw [runH_snoc hr, push_none]; rfl⟩
    · exact .inl ⟨rfl, .inl rfl⟩
    · exact .inl ⟨rfl, .inl rfl⟩
    · exact .inl ⟨rfl, .inr ⟨_, .inl rfl, by rw [List.length_replicate]; decide, by rw [List.length_replicate]; decide⟩⟩
    · exact .inr ⟨_, rfl, ll _, chs _ (chd_chg (.turn z.1)), by
        rw [runH_snoc hr]
        have e : chB z.1 z.2 (.tup [.str "turn", .int (z.1 : Nat)]) = none := chB_turn_no (r := z.1) (by omega)
        rw [e]
        rfl⟩
    · exact .inl ⟨rfl, .inl rfl⟩
  refine gFor_inv (fun i s => ∃ v8, s = lrS n ts cs (M ++ [z]) v7 v8 T) [.lst (cs.map chgD ++ [push0]), .non, .int 5, .lst (List.replicate 31 turn0), .lst (cs.map chgD ++ [.tup [.str "turn", .int (z.1 : Nat)]]), .dic []] (fun Q hQ => fB lc ⟨_, rfl, hQ _ ⟨_, rfl⟩⟩) ?_ ?_
  · rintro i d s hi ⟨v8, rfl⟩ R hR
    exact ⟨rfl, s_bad H (bad d (List.mem_of_getElem? hi)) ⟨by simp, true, by decide +kernel, hR _ ⟨_, rfl⟩⟩⟩
  · rintro s ⟨v8, rfl⟩
    exact lrA H k
theorem okN_chgs (L : List ChT) : okN 9 (.lst (L.map chgD)) = true := by
  unfold okN
  refine okNs_iff.mpr fun d hd => ?_
  obtain ⟨q, _, rfl⟩ := List.mem_map.mp hd
  exact ok_chgD q
theorem lrD {cs : List ChT} {M : List (Nat × List SdT)} {z : Nat × List SdT} {v8 : OS} (H : BehI n ts) (B : BehI z.1 z.2) (lc : cs.length ≤ 4) (hr : runH (n, ts) (cs.map chgD) = some (M ++ [z])) (k : E.rt (.fz (.bl true)) T) : G_lrD E (lrS n ts cs (M ++ [z]) (some (.fz (hsD z))) v8 T) := by
  obtain ⟨kk, us⟩ := z
  have at1 : atI ((M ++ [(kk, us)]).map plZ) (-1) = some (plZ (kk, us)) := by
    rw [List.map_append]
    exact atI_last _
  refine ⟨rfl, _, look_rooms, rfl, _, look_doors, nle rfl, trivial, plZ (kk, us), at1, ok_pl _ _, ok_pl _ _, ?_⟩
  show (if (!PyData.eqv (py (.tup [.int (kk : Nat), .tup (us.map sdD)])) (py (.tup [.int (kk : Nat), .tup (us.map sdD)]))) = true then _ else _)
  rw [eqv_sameC (okN_pl _ _)]
  refine iteF ⟨ok_chgs cs, ok_chgs cs, ?_⟩
  show (if (!PyData.eqv (py (.lst (cs.map chgD))) (py (.lst (cs.map chgD)))) = true then _ else _)
  rw [eqv_sameC (okN_chgs cs)]
  refine iteF ⟨rfl, s_run (cs := cs.map chgD) H (.inr rfl) (by rw [List.length_map]; omega) (fun c hc => ?_) hr ?_⟩
  · obtain ⟨c0, _, rfl⟩ := List.mem_map.mp hc
    exact chd_chg c0
  · exact ⟨⟨_, _, rfl, rfl⟩, s_eq0 (z := (kk, us)) B ⟨true, rfl, iteF (lrB H B lc hr k)⟩⟩
theorem lrF {cs : List ChT} {M : List (Nat × List SdT)} {z : Nat × List SdT} (H : BehI n ts) (B : BehI z.1 z.2) (lc : cs.length ≤ 4) (hr : runH (n, ts) (cs.map chgD) = some (M ++ [z])) (k : E.rt (.fz (.bl true)) T) : G_lrF E ⟨[some (.fz .st), some (.fz (.int (n : Nat))), some (.fz (.tup (ts.map sdD))), some (.fz (.lst (cs.map chgD))), some (.fz (.lst ((M ++ [z]).map plZ))), none, none, none, none], T⟩ := by
  refine ⟨rfl, s_HouseG H.hsg ⟨nle rfl, rfl, ?_⟩⟩
  have key : G_lrE E (lrS n ts cs (M ++ [z]) none none T) := by
    refine ⟨rfl, s_run (cs := cs.map chgD) H (.inl rfl) (by rw [List.length_map]; omega) (fun c hc => ?_) hr ?_⟩
    · obtain ⟨c0, _, rfl⟩ := List.mem_map.mp hc
      exact chd_chg c0
    · exact lrD H B lc hr k
  exact key
theorem m__law_runs : ∀ (ds : List D) T post ex, ds.length = 3 → S__law_runs ds T post ex → G__law_runs (endsOf post ex) (startD 9 ds T) := by
  rintro ds T post ex _ ⟨n, ts, rfl, H, hT, kp⟩
  refine ⟨rfl, 4, rfl, by decide, by omega, (show T < TM by omega), fun r r0 r1 => ?_⟩
  obtain ⟨r, rfl⟩ := Int.eq_ofNat_of_zero_le r0
  refine ⟨rfl, n, r, ts, rfl, H, by omega, (show T + 1 + 8 * r ≤ TM by omega), fun cs M z T' lc hr B t1 t2 => ⟨rfl, ?_⟩⟩
  have t1 : T + 1 ≤ T' := t1
  have t2 : T' ≤ T + 1 + 8 * r := t2
  exact lrF (E := endsOf post ex) H B (by omega) hr (kp T' (by omega) (by omega))
end
end Law


set_option Elab.async false
set_option linter.all false
set_option maxRecDepth 100000
set_option maxHeartbeats 4000000
namespace Law
open PySem L2 DL
variable [Tb]
/-! ### k85's law -/
def G_zz0 : DG := (gRet (dC (.bl true)))
def G_zz1i0 : DG := (gIf (tNotD (dTest (dCall S__law_judged 3 (aCons (dVar 3) (aCons (dVar 4) (aCons (dLst (aCons (dVar 15) aNil)) aNil)))))) (gRet (dC (.bl false))) gNil)
def G_zz1 : DG := (gSeq (gFor (iSeq (dVar 14)) (tgTup 3 (tgCons (tgN 3) (tgCons (tgN 4) (tgCons (tgN 15) tgNil)))) G_zz1i0)
    G_zz0)
def G_zz2 : DG := (gSeq (gApp 14 (dTup (aCons (dC (.int 2)) (aCons (dTup (aCons (dTup (aCons (dC (.int 0)) (aCons (dC (.int 25)) (aCons (dC (.int 1)) (aCons (dC (.int 1)) aNil))))) (aCons (dTup (aCons (dC (.int 1)) (aCons (dC (.int 40)) (aCons (dC (.int 0)) (aCons (dC (.int 3)) aNil))))) aNil))) (aCons (dVar 12) aNil)))))
    G_zz1)
def G_zz3 : DG := (gSeq (gSetO 14 (dCatO (dVar 14) (dLst (aCons (dTup (aCons (dC (.int 2)) (aCons (dTup (aCons (dTup (aCons (dC (.int 0)) (aCons (dC (.int 27)) (aCons (dC (.int 1)) (aCons (dC (.int 1)) aNil))))) (aCons (dTup (aCons (dC (.int 1)) (aCons (dC (.int 37)) (aCons (dC (.int 0)) (aCons (dC (.int 3)) aNil))))) aNil))) (aCons (dVar 12) aNil)))) (aCons (dTup (aCons (dC (.int 2)) (aCons (dTup (aCons (dTup (aCons (dC (.int 0)) (aCons (dC (.int 27)) (aCons (dC (.int 1)) (aCons (dNeg (dC (.int 1))) aNil))))) (aCons (dTup (aCons (dC (.int 1)) (aCons (dC (.int 37)) (aCons (dC (.int 0)) (aCons (dC (.int 3)) aNil))))) aNil))) (aCons (dVar 12) aNil)))) aNil)))))
    G_zz2)
def G_zz4 : DG := (gSeq (gSetO 14 (dCatO (dVar 14) (dLst (aCons (dTup (aCons (dC (.int 1)) (aCons (dTup (aCons (dVar 11) aNil)) (aCons (dTup (aCons (dC (.str "put")) (aCons (dC (.int 0)) (aCons (dC (.int 2)) (aCons (dC (.int 0)) aNil))))) aNil)))) (aCons (dTup (aCons (dC (.int 2)) (aCons (dTup (aCons (dTup (aCons (dC (.int 0)) (aCons (dC (.int 32)) (aCons (dC (.int 1)) (aCons (dC (.int 1)) aNil))))) (aCons (dTup (aCons (dC (.int 1)) (aCons (dC (.int 32)) (aCons (dC (.int 0)) (aCons (dC (.int 3)) aNil))))) aNil))) (aCons (dVar 12) aNil)))) aNil)))))
    G_zz3)
def G_zz5 : DG := (gSeq (gSetO 14 (dCatO (dVar 14) (dLst (aCons (dTup (aCons (dC (.int 1)) (aCons (dTup (aCons (dTup (aCons (dC (.int 0)) (aCons (dC (.int 999)) (aCons (dC (.int 0)) (aCons (dC (.int 2)) aNil))))) (aCons (dTup (aCons (dC (.int 0)) (aCons (dC (.int 3)) (aCons (dC (.int 0)) (aCons (dC (.int 3)) aNil))))) aNil))) (aCons (dTup (aCons (dC (.str "slide")) (aCons (dTup (aCons (dC (.int 0)) (aCons (dC (.int 0)) aNil))) (aCons (dTup (aCons (dC (.int 1)) (aCons (dC (.int 0)) aNil))) aNil)))) aNil)))) (aCons (dTup (aCons (dC (.int 1)) (aCons (dTup (aCons (dVar 11) aNil)) (aCons (dVar 13) aNil)))) aNil)))))
    G_zz4)
def G_zz6 : DG := (gSeq (gSetO 14 (dLst (aCons (dTup (aCons (dC (.int 1)) (aCons (dTup (aCons (dTup (aCons (dC (.int 0)) (aCons (dC (.int 999)) (aCons (dC (.int 0)) (aCons (dC (.int 2)) aNil))))) (aCons (dVar 11) aNil))) (aCons (dTup (aCons (dC (.str "slide")) (aCons (dTup (aCons (dC (.int 0)) (aCons (dC (.int 0)) aNil))) (aCons (dTup (aCons (dC (.int 1)) (aCons (dC (.int 0)) aNil))) aNil)))) aNil)))) (aCons (dTup (aCons (dC (.int 1)) (aCons (dTup (aCons (dVar 11) aNil)) (aCons (dTup (aCons (dC (.str "put")) (aCons (dC (.int 0)) (aCons (dNeg (dC (.int 1000))) (aCons (dC (.int 1)) aNil))))) aNil)))) aNil))))
    G_zz5)
def G_zz7 : DG := (gSeq (gUnp (tgTup 3 (tgCons (tgN 11) (tgCons (tgN 12) (tgCons (tgN 13) tgNil)))) (dTup (aCons (dTup (aCons (dC (.int 0)) (aCons (dC (.int 3)) (aCons (dC (.int 0)) (aCons (dC (.int 4)) aNil))))) (aCons (dTup (aCons (dC (.str "fold")) (aCons (dC (.int 0)) aNil))) (aCons (dTup (aCons (dC (.str "put")) (aCons (dC (.int 0)) (aCons (dNeg (dC (.int 999))) (aCons (dC (.int 1)) aNil))))) aNil)))))
    G_zz6)
def G_zz8 : DG := (gSeq (gIf (dTest (dOp dNotB (dCall S_is_changeC 2 (aCons (dMake0 S_House 2 (aCons (dC (.int 1)) (aCons (dSl (dVar 10) oNo (oAt (dC (.int 19)))) aNil))) (aCons (dTup (aCons (dC (.str "put")) (aCons (dC (.int 0)) (aCons (dC (.int 1)) (aCons (dC (.int 1)) aNil))))) aNil))) (dC (.bl true)))) (gRet (dC (.bl false))) gNil)
    G_zz7)
def G_zz9 : DG := (gSeq (gIf (dTest (dOp dNotB (dCall S_is_changeC 2 (aCons (dMake0 S_House 2 (aCons (dC (.int 1)) (aCons (dVar 10) aNil))) (aCons (dTup (aCons (dC (.str "put")) (aCons (dC (.int 0)) (aCons (dC (.int 1)) (aCons (dC (.int 1)) aNil))))) aNil))) (dC (.bl false)))) (gRet (dC (.bl false))) gNil)
    G_zz8)
def G_zz10 : DG := (gSeq (gSet 10 (dOp dMul (dTup (aCons (dTup (aCons (dC (.int 0)) (aCons (dC (.int 1)) (aCons (dC (.int 0)) (aCons (dC (.int 2)) aNil))))) aNil)) (dC (.int 20))))
    G_zz9)
def G_zz11 : DG := (gSeq (gIf (dTest (dOp dNotB (dCall S_is_changeC 2 (aCons (dMake0 S_House 2 (aCons (dC (.int 12)) (aCons (dVar 9) aNil))) (aCons (dTup (aCons (dC (.str "fold")) (aCons (dC (.int 10)) aNil))) aNil))) (dC (.bl true)))) (gRet (dC (.bl false))) gNil)
    G_zz10)
def G_zz12 : DG := (gSeq (gIf (dTest (dOp dNotB (dCall S_is_changeC 2 (aCons (dMake0 S_House 2 (aCons (dC (.int 12)) (aCons (dVar 9) aNil))) (aCons (dTup (aCons (dC (.str "put")) (aCons (dC (.int 0)) (aCons (dC (.int 2)) (aCons (dC (.int 1)) aNil))))) aNil))) (dC (.bl false)))) (gRet (dC (.bl false))) gNil)
    G_zz11)
def F_zz13a : DF := (dLc [17] (iRng2D (dC (.int 1)) (dC (.int 12))) (tgN 17) tAll (dTup (aCons (dC (.int 0)) (aCons (dC (.int 1)) (aCons (dVar 17) (aCons (dC (.int 2)) aNil))))))
def G_zz13 : DG := (gSeq (gSet 9 (dCB cTuple (aCons F_zz13a aNil)))
    G_zz12)
def G_zz14i0i0 : DG := (gIf (tNotD (dTest (dIsO [] [("Apart", false), ("BadChange", true), ("BadChanges", false), ("BadDoors", false), ("BadHouse", false), ("BadRoom", false), ("BadRooms", false)] (dCaught (["Apart", "BadChange", "BadChanges", "BadDoors", "BadHouse", "BadRoom", "BadRooms"] : List Str) (dCallX S_room_alongC 3 (aCons (dVar 6) (aCons (dTup (aCons (dC (.str "push")) (aCons (dC (.int 0)) aNil))) (aCons (dVar 8) aNil)))))))) (gRet (dC (.bl false))) gNil)
def G_zz14i0i1 : DG := (gSeq (gIf (tNotD (dTest (dIsO [] [("Apart", false), ("BadChange", false), ("BadChanges", false), ("BadDoors", false), ("BadHouse", false), ("BadRoom", true), ("BadRooms", false)] (dCaught (["Apart", "BadChange", "BadChanges", "BadDoors", "BadHouse", "BadRoom", "BadRooms"] : List Str) (dCallX S_room_alongC 3 (aCons (dVar 6) (aCons (dTup (aCons (dC (.str "turn")) (aCons (dC (.int 0)) aNil))) (aCons (dVar 8) aNil)))))))) (gRet (dC (.bl false))) gNil)
    G_zz14i0i0)
def G_zz14i0 : DG := (gFor (iSeq (dLst (aCons (dC .non) (aCons (dC (.bl true)) (aCons (dNeg (dC (.int 1))) (aCons (dVar 3) (aCons (dTup (aCons (dC (.int 0)) aNil)) aNil))))))) (tgN 8) G_zz14i0i1)
def G_zz14i1 : DG := (gSeq (gIf (tNotD (dTest (dIsO [] [("Apart", false), ("BadChange", false), ("BadChanges", false), ("BadDoors", false), ("BadHouse", true), ("BadRoom", false), ("BadRooms", false)] (dCaught (["Apart", "BadChange", "BadChanges", "BadDoors", "BadHouse", "BadRoom", "BadRooms"] : List Str) (dCallX S_changedC 2 (aCons (dVar 7) (aCons (dC .non) aNil))))))) (gRet (dC (.bl false))) gNil)
    G_zz14i0)
def G_zz14i2 : DG := (gSeq (gIf (tNotD (dTest (dIsO [] [("Apart", false), ("BadChange", false), ("BadChanges", false), ("BadDoors", false), ("BadHouse", true), ("BadRoom", false), ("BadRooms", false)] (dCaught (["Apart", "BadChange", "BadChanges", "BadDoors", "BadHouse", "BadRoom", "BadRooms"] : List Str) (dCallX S_is_changeC 2 (aCons (dVar 7) (aCons (dC .non) aNil))))))) (gRet (dC (.bl false))) gNil)
    G_zz14i1)
def G_zz14i3 : DG := (gSeq (gUnp (tgTup 2 (tgCons (tgN 6) (tgCons (tgN 7) tgNil))) (dTup (aCons (dMake0 S_House 2 (aCons (dVar 3) (aCons (dVar 4) aNil))) (aCons (dCall S__law_pick 2 (aCons (dVar 1) (aCons (dLst (aCons (dC .non) (aCons (dC (.int 5)) (aCons (dTup (aCons (dC (.int 1)) (aCons (dTup aNil) aNil))) (aCons (dVar 4) aNil))))) aNil))) aNil))))
    G_zz14i2)
def G_zz14i4 : DG := (gSeq (gIf (tOrD (tNotD (dTest (dCall S__law_judged 3 (aCons (dVar 3) (aCons (dVar 4) (aCons (dVar 5) aNil)))))) (tNotD (dTest (dCall S__law_runs 3 (aCons (dVar 1) (aCons (dVar 3) (aCons (dVar 4) aNil))))))) (gRet (dC (.bl false))) gNil)
    G_zz14i3)
def G_zz14i5 : DG := (gSeq (gSet 5 (dOp dAdd (dOp dAdd (dVar 5) (dCall S__law_near_changes 3 (aCons (dVar 1) (aCons (dVar 3) (aCons (dVar 4) aNil))))) (dSl (dCall S__law_ch_slides 1 (aCons (dVar 4) aNil)) oNo (oAt (dC (.int 6))))))
    G_zz14i4)
def F_zz14i6a : DF := (dLc [16] (iRng1D (dC (.int 5))) (tgN 16) tAll (dCall S__law_ch_changeC 3 (aCons (dVar 1) (aCons (dVar 3) (aCons (dVar 4) aNil)))))
def G_zz14i6 : DG := (gSeq (gSet 5 F_zz14i6a)
    G_zz14i5)
def G_zz14i7 : DG := (gSeq (gUnp (tgTup 2 (tgCons (tgN 3) (tgCons (tgN 4) tgNil))) (dCall S__law_ch_house 3 (aCons (dVar 1) (aCons (dC (.int 4)) (aCons (dC (.int 3)) aNil)))))
    G_zz14i6)
def G_law : DG := (gSeq (gFor (iRng1D (dOp dAdd (dC (.int 2)) (dCB cMin2 (aCons (dCB cLen (aCons (dVar 0) aNil)) (aCons (dC (.int 2)) aNil))))) (tgN 2) G_zz14i7)
    G_zz13)
def eS (ns : List Int) (v2 v3 v4 v5 v6 v7 v8 v9 v10 v11 v12 v13 v14 v15 : OS) (T : Nat) : DS := ⟨[some (.fz (.scr ns)), some (.fz .st), v2, v3, v4, v5, v6, v7, v8, v9, v10, v11, v12, v13, v14, v15, none, none], T⟩
section
variable {n T : Nat} {ts : List SdT} {E : DE} {ns : List Int} {v2 v3 v4 v5 v6 v7 v8 v9 v10 v11 v12 v13 v14 v15 : OS}
theorem con1 {ts : List SdT} : ConS 1 ts := fun P _ i hi => by
  obtain rfl : i = 0 := by omega
  exact Iff.rfl
theorem con2 {ts : List SdT} {x y : Int} (h : (0, x, 1, y) ∈ ts) : ConS 2 ts := fun P hP i hi => by
  rcases (show i = 0 ∨ i = 1 by omega) with rfl | rfl
  · exact Iff.rfl
  · exact (hP _ h).symm
def full85 : List SdT := (List.range 11).map fun k => (0, 1, k + 1, 2)
theorem beh_full : BehI 12 full85 := ⟨by decide, by decide, by decide, fun u hu => sdB_iff.mp (List.all_eq_true.mp (by decide +kernel : full85.all (sdB 12) = true) u hu), fun P hP i hi => by
  cases i with
  | zero => exact Iff.rfl
  | succ i => exact (hP (0, 1, i + 1, 2) (List.mem_map.mpr ⟨i, List.mem_range.mpr (by omega), rfl⟩)).symm⟩
def many85 (k : Nat) : List SdT := List.replicate k (0, 1, 0, 2)
theorem beh_many {k : Nat} (h : k ≤ 20) : BehI 1 (many85 k) := ⟨by decide, by decide, by unfold many85; rw [List.length_replicate]; exact h, fun u hu => by
  rw [(List.mem_replicate.mp hu).2]
  exact sdB_iff.mp (by decide +kernel), con1⟩
def put85 (f : Int) (s : Int) : D := t4 "put" (.int 0) (.int f) (.int s)
theorem chd_put85 (f s : Int) : ChD (put85 f s) := chd4 okPut (p_int _) (p_int _) (p_int _)
def fold85 (i : Int) : D := t2 "fold" (.int i)
theorem chd_fold85 (i : Int) : ChD (fold85 i) := chd2 okFold (p_int _)
theorem b1_85 : (chB 12 full85 (put85 2 1)).isSome = false := by decide +kernel
theorem b2_85 : (chB 12 full85 (fold85 10)).isSome = true := by decide +kernel
theorem b3_85 : (chB 1 (many85 20) (put85 1 1)).isSome = false := by decide +kernel
theorem b4_85 : (chB 1 (many85 19) (put85 1 1)).isSome = true := by decide +kernel
/-! the last cases -/
def three85 : SdT := (0, 3, 0, 4)
def slide85 : D := t3 "slide" (i2 (0, 0)) (i2 (1, 0))
def cases85 : List (Nat × List SdT × D) := [(1, [(0, 999, 0, 2), three85], slide85), (1, [three85], put85 (-1000) 1), (1, [(0, 999, 0, 2), (0, 3, 0, 3)], slide85), (1, [three85], put85 (-999) 1), (1, [three85], put85 2 0), (2, [(0, 32, 1, 1), (1, 32, 0, 3)], fold85 0), (2, [(0, 27, 1, 1), (1, 37, 0, 3)], fold85 0), (2, [(0, 27, 1, -1), (1, 37, 0, 3)], fold85 0), (2, [(0, 25, 1, 1), (1, 40, 0, 3)], fold85 0)]
def caseD (c : Nat × List SdT × D) : D := .tup [.int (c.1 : Nat), .tup (c.2.1.map sdD), c.2.2]
theorem beh1 {us : List SdT} (h : (decide (us.length ≤ 20) && us.all (sdB 1)) = true) : BehI 1 us := by
  rw [Bool.and_eq_true, decide_eq_true_iff] at h
  exact ⟨by decide, by decide, h.1, fun u hu => sdB_iff.mp (List.all_eq_true.mp h.2 u hu), con1⟩
theorem beh2 {us : List SdT} {x y : Int} (m : (0, x, 1, y) ∈ us) (h : (decide (us.length ≤ 20) && us.all (sdB 2)) = true) : BehI 2 us := by
  rw [Bool.and_eq_true, decide_eq_true_iff] at h
  exact ⟨by decide, by decide, h.1, fun u hu => sdB_iff.mp (List.all_eq_true.mp h.2 u hu), con2 m⟩
theorem cases_ok {c : Nat × List SdT × D} (h : c ∈ cases85) : BehI c.1 c.2.1 ∧ ChD c.2.2 := by
  unfold cases85 at h
  simp only [List.mem_cons, List.not_mem_nil, or_false] at h
  have sl : ChD slide85 := chd3 okSlide (p_i2 _) (p_i2 _)
  rcases h with rfl | rfl | rfl | rfl | rfl | rfl | rfl | rfl | rfl
  · exact ⟨beh1 (by decide +kernel), sl⟩
  · exact ⟨beh1 (by decide +kernel), chd_put85 _ _⟩
  · exact ⟨beh1 (by decide +kernel), sl⟩
  · exact ⟨beh1 (by decide +kernel), chd_put85 _ _⟩
  · exact ⟨beh1 (by decide +kernel), chd_put85 _ _⟩
  · exact ⟨beh2 (List.mem_cons_self ..) (by decide +kernel), chd_fold85 _⟩
  · exact ⟨beh2 (List.mem_cons_self ..) (by decide +kernel), chd_fold85 _⟩
  · exact ⟨beh2 (List.mem_cons_self ..) (by decide +kernel), chd_fold85 _⟩
  · exact ⟨beh2 (List.mem_cons_self ..) (by decide +kernel), chd_fold85 _⟩
theorem zz1 (k : E.rt (.fz (.bl true)) T) : G_zz1 E (eS ns v2 v3 v4 v5 v6 v7 v8 v9 v10 v11 v12 v13 (some (.ow (.lst (cases85.map caseD)))) v15 T) := by
  refine gFor_inv (fun i s => ∃ v3 v4 v15, s = eS ns v2 v3 v4 v5 v6 v7 v8 v9 v10 v11 v12 v13 (some (.fz (.lst (cases85.map caseD)))) v15 T) (cases85.map caseD) (fun Q hQ => ⟨_, rfl, hQ _ ⟨_, _, _, rfl⟩⟩) ?_ ?_
  · rintro i d s hi ⟨v3, v4, v15, rfl⟩ R hR
    rw [List.getElem?_map] at hi
    obtain ⟨c, hc, rfl⟩ := Option.map_eq_some_iff.mp hi
    obtain ⟨B, cd⟩ := cases_ok (List.mem_of_getElem? hc)
    refine ⟨rfl, nle rfl, rfl, c.1, c.2.1, [c.2.2], rfl, B, fun x hx => by rw [List.mem_singleton.mp hx]; exact cd, ?_⟩
    exact hR _ ⟨_, _, _, rfl⟩
  · rintro s ⟨v3, v4, v15, rfl⟩
    exact k
def cA : List D := [caseD (1, [(0, 999, 0, 2), three85], slide85), caseD (1, [three85], put85 (-1000) 1)]
def cB : List D := [caseD (1, [(0, 999, 0, 2), (0, 3, 0, 3)], slide85), caseD (1, [three85], put85 (-999) 1)]
def cC : List D := [caseD (1, [three85], put85 2 0), caseD (2, [(0, 32, 1, 1), (1, 32, 0, 3)], fold85 0)]
def cD : List D := [caseD (2, [(0, 27, 1, 1), (1, 37, 0, 3)], fold85 0), caseD (2, [(0, 27, 1, -1), (1, 37, 0, 3)], fold85 0)]
def cS (ns : List Int) (v2 v3 v4 v5 v6 v7 v8 v9 v10 : OS) (L : List D) (v15 : OS) (T : Nat) : DS := eS ns v2 v3 v4 v5 v6 v7 v8 v9 v10 (some (.fz (sdD three85))) (some (.fz (fold85 0))) (some (.fz (put85 (-999) 1))) (some (.ow (.lst L))) v15 T
theorem zz2 (k : E.rt (.fz (.bl true)) T) : G_zz2 E (cS ns v2 v3 v4 v5 v6 v7 v8 v9 v10 (cA ++ cB ++ cC ++ cD) v15 T) :=
  ⟨nle rfl, nle rfl, nle rfl, nle rfl, (show 8 < 100000 by decide), zz1 k⟩
theorem zz3 (k : E.rt (.fz (.bl true)) T) : G_zz3 E (cS ns v2 v3 v4 v5 v6 v7 v8 v9 v10 (cA ++ cB ++ cC) v15 T) :=
  ⟨nle rfl, nle rfl, nle rfl, nle rfl, nle rfl, nle rfl, nle rfl, nle rfl, nle rfl, nle rfl, zz2 k⟩
theorem zz4 (k : E.rt (.fz (.bl true)) T) : G_zz4 E (cS ns v2 v3 v4 v5 v6 v7 v8 v9 v10 (cA ++ cB) v15 T) :=
  ⟨nle rfl, nle rfl, nle rfl, nle rfl, nle rfl, nle rfl, nle rfl, nle rfl, nle rfl, zz3 k⟩
theorem zz5 (k : E.rt (.fz (.bl true)) T) : G_zz5 E (cS ns v2 v3 v4 v5 v6 v7 v8 v9 v10 cA v15 T) :=
  ⟨nle rfl, nle rfl, nle rfl, nle rfl, nle rfl, nle rfl, nle rfl, nle rfl, nle rfl, nle rfl, nle rfl, zz4 k⟩
theorem zz6 (k : E.rt (.fz (.bl true)) T) : G_zz6 E (eS ns v2 v3 v4 v5 v6 v7 v8 v9 v10 (some (.fz (sdD three85))) (some (.fz (fold85 0))) (some (.fz (put85 (-999) 1))) v14 v15 T) :=
  ⟨nle rfl, nle rfl, nle rfl, nle rfl, nle rfl, nle rfl, nle rfl, nle rfl, nle rfl, nle rfl, zz5 k⟩
theorem tg3 {i j l : Nat} {a b c : D} {s : DS} {K : DS → Prop} (h : K (((s.put i (.fz a)).put j (.fz b)).put l (.fz c))) : tgCons (tgN i) (tgCons (tgN j) (tgCons (tgN l) tgNil)) [a, b, c] s K := h
theorem put3 {a b c : D} : (((eS ns v2 v3 v4 v5 v6 v7 v8 v9 v10 v11 v12 v13 v14 v15 T).put 11 (.fz a)).put 12 (.fz b)).put 13 (.fz c) = eS ns v2 v3 v4 v5 v6 v7 v8 v9 v10 (some (.fz a)) (some (.fz b)) (some (.fz c)) v14 v15 T := rfl
theorem zz7a (k : E.rt (.fz (.bl true)) T) : G_zz6 E (eS ns v2 v3 v4 v5 v6 v7 v8 v9 v10 (some (.fz (.tup [.int 0, .int 3, .int 0, .int 4]))) (some (.fz (.tup [.str "fold", .int 0]))) (some (.fz (.tup [.str "put", .int 0, .int (-999), .int 1]))) v14 v15 T) := zz6 k
theorem zz7 (k : E.rt (.fz (.bl true)) T) : G_zz7 E (eS ns v2 v3 v4 v5 v6 v7 v8 v9 v10 v11 v12 v13 v14 v15 T) := by
  refine ⟨nle rfl, nle rfl, nle rfl, nle rfl, rfl, tg3 ?_⟩
  rw [put3]
  exact zz7a k
theorem cut19 : cutD ((many85 20).map sdD) none (some 19) = (many85 19).map sdD := rfl
theorem zz8n (k : E.rt (.fz (.bl true)) T) : DL.gNil { E with nx := G_zz7 E } (eS ns v2 v3 v4 v5 v6 v7 v8 v9 v10 v11 v12 v13 v14 v15 T) := by
  unfold DL.gNil
  exact zz7 k
theorem zz8a (b : Bool) (e : b = true) (k : E.rt (.fz (.bl true)) T) : (match D.bl (!decide (b = true)) with | .bl k => (if k = true then gRet (dC (.bl false)) { E with nx := G_zz7 E } (eS ns v2 v3 v4 v5 v6 v7 v8 v9 v10 v11 v12 v13 v14 v15 T) else DL.gNil { E with nx := G_zz7 E } (eS ns v2 v3 v4 v5 v6 v7 v8 v9 v10 v11 v12 v13 v14 v15 T)) | _ => False) := by
  subst e
  exact iteF (zz8n k)
theorem s_HouseE {xs ys : List D} {post : Sl → Nat → Prop} {ex : Str → List (Str × D) → Nat → Prop} (e : xs = ys) (H : HsG n ys) (hp : post (.ow (houseD n ys)) T) : S_House [.int n, .tup xs] T post ex := by
  rw [e]
  exact s_HouseG H hp
theorem zz8b {ds : List D} (e : cutD ds none (some 19) = (many85 19).map sdD) (k : E.rt (.fz (.bl true)) T) : G_zz8 E (eS ns v2 v3 v4 v5 v6 v7 v8 v9 (some (.fz (.tup ds))) v11 v12 v13 v14 v15 T) := by
  refine ⟨rfl, s_HouseE e (beh_many (k := 19) (by decide)).hsg ⟨nle rfl, rfl, .inr ⟨1, many85 19, put85 1 1, rfl, beh_many (k := 19) (by decide), chd_put85 _ _, ?_⟩⟩⟩
  have h4 := b4_85
  generalize (chB 1 (many85 19) (put85 1 1)).isSome = b at h4 ⊢
  subst h4
  exact zz8a true rfl k
theorem zz8 (k : E.rt (.fz (.bl true)) T) : G_zz8 E (eS ns v2 v3 v4 v5 v6 v7 v8 v9 (some (.fz (.tup ((many85 20).map sdD)))) v11 v12 v13 v14 v15 T) := zz8b cut19 k
theorem zz9 (k : E.rt (.fz (.bl true)) T) : G_zz9 E (eS ns v2 v3 v4 v5 v6 v7 v8 v9 (some (.fz (.tup ((many85 20).map sdD)))) v11 v12 v13 v14 v15 T) := by
  have key : ∀ b : Bool, b = false → (match D.bl (!decide (b = false)) with | .bl k => (if k = true then gRet (dC (.bl false)) { E with nx := G_zz8 E } (eS ns v2 v3 v4 v5 v6 v7 v8 v9 (some (.fz (.tup ((many85 20).map sdD)))) v11 v12 v13 v14 v15 T) else G_zz8 E (eS ns v2 v3 v4 v5 v6 v7 v8 v9 (some (.fz (.tup ((many85 20).map sdD)))) v11 v12 v13 v14 v15 T)) | _ => False) := by
    rintro b rfl
    exact iteF (zz8 k)
  refine ⟨rfl, s_HouseG (beh_many (k := 20) (by decide)).hsg ⟨nle rfl, rfl, .inr ⟨1, many85 20, put85 1 1, rfl, beh_many (by decide), chd_put85 _ _, ?_⟩⟩⟩
  exact key _ b3_85
theorem zz10 (k : E.rt (.fz (.bl true)) T) : G_zz10 E (eS ns v2 v3 v4 v5 v6 v7 v8 v9 v10 v11 v12 v13 v14 v15 T) := by
  refine ⟨nle rfl, nle rfl, (fun z => by cases z), (by decide : (2 : Int) ≤ 20), (by decide : (20 : Int) ≤ 1000), nle rfl, ?_⟩
  exact zz9 (T := T) k
theorem zz11 (k : E.rt (.fz (.bl true)) T) : G_zz11 E (eS ns v2 v3 v4 v5 v6 v7 v8 (some (.fz (.tup (full85.map sdD)))) v10 v11 v12 v13 v14 v15 T) := by
  have key : ∀ b : Bool, b = true → (match D.bl (!decide (b = true)) with | .bl k => (if k = true then gRet (dC (.bl false)) { E with nx := G_zz10 E } (eS ns v2 v3 v4 v5 v6 v7 v8 (some (.fz (.tup (full85.map sdD)))) v10 v11 v12 v13 v14 v15 T) else G_zz10 E (eS ns v2 v3 v4 v5 v6 v7 v8 (some (.fz (.tup (full85.map sdD)))) v10 v11 v12 v13 v14 v15 T)) | _ => False) := by
    rintro b rfl
    exact iteF (zz10 k)
  refine ⟨rfl, s_HouseG beh_full.hsg ⟨nle rfl, rfl, .inr ⟨12, full85, fold85 10, rfl, beh_full, chd_fold85 _, ?_⟩⟩⟩
  exact key _ b2_85
theorem zz12 (k : E.rt (.fz (.bl true)) T) : G_zz12 E (eS ns v2 v3 v4 v5 v6 v7 v8 (some (.fz (.tup (full85.map sdD)))) v10 v11 v12 v13 v14 v15 T) := by
  have key : ∀ b : Bool, b = false → (match D.bl (!decide (b = false)) with | .bl k => (if k = true then gRet (dC (.bl false)) { E with nx := G_zz11 E } (eS ns v2 v3 v4 v5 v6 v7 v8 (some (.fz (.tup (full85.map sdD)))) v10 v11 v12 v13 v14 v15 T) else G_zz11 E (eS ns v2 v3 v4 v5 v6 v7 v8 (some (.fz (.tup (full85.map sdD)))) v10 v11 v12 v13 v14 v15 T)) | _ => False) := by
    rintro b rfl
    exact iteF (zz11 k)
  refine ⟨rfl, s_HouseG beh_full.hsg ⟨nle rfl, rfl, .inr ⟨12, full85, put85 2 1, rfl, beh_full, chd_put85 _ _, ?_⟩⟩⟩
  exact key _ b1_85
theorem zz13 (k : E.rt (.fz (.bl true)) T) : G_zz13 E (eS ns v2 v3 v4 v5 v6 v7 v8 v9 v10 v11 v12 v13 v14 v15 T) := by
  have key : F_zz13a (eS ns v2 v3 v4 v5 v6 v7 v8 v9 v10 v11 v12 v13 v14 v15 T) (fun d s1 => cTuple [d] fun w => G_zz12 E (s1.put 9 (.fz w))) E.ex := by
    refine dLc_inv (fun i acc s => acc = (full85.take i).map sdD ∧ s = eS ns v2 v3 v4 v5 v6 v7 v8 v9 v10 v11 v12 v13 v14 v15 T) (rangeD 1 11) (fun Q hQ => ⟨by decide, hQ _ ⟨rfl, rfl⟩⟩) ?_ ?_
    · rintro i d acc s hi ⟨rfl, rfl⟩ Q hQ
      obtain ⟨rfl, hi2⟩ := rangeD_get hi
      have ht : full85[i]? = some (0, 1, i + 1, 2) := by
        unfold full85
        rw [List.getElem?_map, List.getElem?_range hi2]
        rfl
      refine ⟨nle rfl, (show ((full85.take i).map sdD).length < 100000 by rw [List.length_map, List.length_take]; omega), hQ _ _ ⟨?_, rfl⟩⟩
      rw [take_succ_get ht, List.map_append]
      show _ ++ [D.tup [.int 0, .int 1, .int ((1 : Int) + (i : Int)), .int 2]] = _ ++ [D.tup [.int 0, .int 1, .int ((i + 1 : Nat) : Int), .int 2]]
      rw [show (1 : Int) + (i : Int) = ((i + 1 : Nat) : Int) by omega]
    · rintro acc s ⟨rfl, rfl⟩
      rw [rangeD_len, show full85.take 11 = full85 from by decide +kernel]
      exact zz12 k
  exact key
/-! the turns of the law -/
theorem bads {x : D} (h : x ∈ ([.non, .bl true, .int (-1), .int (n : Nat), .tup [.int 0]] : List D)) : plainD x = true ∧ within x 0 ((n : Int) - 1) = false := by
  simp only [List.mem_cons, List.not_mem_nil, or_false] at h
  rcases h with rfl | rfl | rfl | rfl | rfl
  · exact ⟨rfl, rfl⟩
  · exact ⟨rfl, rfl⟩
  · exact ⟨rfl, rfl⟩
  · refine ⟨rfl, ?_⟩
    show (decide ((0 : Int) ≤ (n : Int)) && decide ((n : Int) ≤ (n : Int) - 1)) = false
    rw [decide_eq_false (show ¬ (n : Int) ≤ (n : Int) - 1 by omega), Bool.and_false]
  · exact ⟨rfl, rfl⟩
theorem zi0i0 {x : D} (H : BehI n ts) (px : plainD x = true) (k : E.nx (eS ns v2 v3 v4 v5 (some (.fz (houseD n (ts.map sdD)))) v7 (some (.fz x)) v9 v10 v11 v12 v13 v14 v15 T)) :
    G_zz14i0i0 E (eS ns v2 v3 v4 v5 (some (.fz (houseD n (ts.map sdD)))) v7 (some (.fz x)) v9 v10 v11 v12 v13 v14 v15 T) :=
  ⟨nle rfl, rfl, .inr ⟨n, ts, push0, x, rfl, H, chd_push0, px, fun _ => ⟨by simp, true, by decide +kernel, k⟩, fun z => absurd push_none z, fun _ _ z => absurd push_none z⟩⟩
theorem zi0i1 {x : D} (H : BehI n ts) (px : plainD x = true) (wx : within x 0 ((n : Int) - 1) = false) (k : E.nx (eS ns v2 v3 v4 v5 (some (.fz (houseD n (ts.map sdD)))) v7 (some (.fz x)) v9 v10 v11 v12 v13 v14 v15 T)) :
    G_zz14i0i1 E (eS ns v2 v3 v4 v5 (some (.fz (houseD n (ts.map sdD)))) v7 (some (.fz x)) v9 v10 v11 v12 v13 v14 v15 T) := by
  have t1 : chB n ts turn0 = some (n, ts.map (tuT 0)) := chB_turn (r := 0) H H.k1
  refine ⟨nle rfl, rfl, .inr ⟨n, ts, turn0, x, rfl, H, chd_turn0, px, fun z => ?_, fun _ _ => ⟨by simp, true, by decide +kernel, zi0i0 H px k⟩, fun r c _ _ e hr => ?_⟩⟩
  · rw [t1] at z
    cases z
  · rw [e, nat_in.mpr ⟨r, nat_of r, hr⟩] at wx
    cases wx
theorem zi0 (H : BehI n ts) (k : ∀ v8, E.nx (eS ns v2 (some (.fz (.int (n : Nat)))) v4 v5 (some (.fz (houseD n (ts.map sdD)))) v7 v8 v9 v10 v11 v12 v13 v14 v15 T)) :
    G_zz14i0 E (eS ns v2 (some (.fz (.int (n : Nat)))) v4 v5 (some (.fz (houseD n (ts.map sdD)))) v7 v8 v9 v10 v11 v12 v13 v14 v15 T) := by
  refine gFor_inv (fun i s => ∃ v8, s = eS ns v2 (some (.fz (.int (n : Nat)))) v4 v5 (some (.fz (houseD n (ts.map sdD)))) v7 v8 v9 v10 v11 v12 v13 v14 v15 T) [.non, .bl true, .int (-1), .int (n : Nat), .tup [.int 0]] (fun Q hQ => ⟨nle rfl, nle rfl, _, rfl, hQ _ ⟨_, rfl⟩⟩) ?_ ?_
  · rintro i d s hi ⟨v8, rfl⟩ R hR
    obtain ⟨px, wx⟩ := bads (List.mem_of_getElem? hi)
    exact zi0i1 (T := T) H px wx (hR _ ⟨_, rfl⟩)
  · rintro s ⟨v8, rfl⟩
    exact k _
theorem zi1 {x : D} (H : BehI n ts) (ox : isO oneH [] x = some false) (k : ∀ v8, E.nx (eS ns v2 (some (.fz (.int (n : Nat)))) v4 v5 (some (.fz (houseD n (ts.map sdD)))) (some (.fz x)) v8 v9 v10 v11 v12 v13 v14 v15 T)) :
    G_zz14i1 E (eS ns v2 (some (.fz (.int (n : Nat)))) v4 v5 (some (.fz (houseD n (ts.map sdD)))) (some (.fz x)) v8 v9 v10 v11 v12 v13 v14 v15 T) :=
  ⟨rfl, .inl ⟨x, .non, rfl, ox, by simp, true, by decide +kernel, zi0 H k⟩⟩
theorem zi2 {x : D} (H : BehI n ts) (ox : isO oneH [] x = some false) (k : ∀ v8, E.nx (eS ns v2 (some (.fz (.int (n : Nat)))) v4 v5 (some (.fz (houseD n (ts.map sdD)))) (some (.fz x)) v8 v9 v10 v11 v12 v13 v14 v15 T)) :
    G_zz14i2 E (eS ns v2 (some (.fz (.int (n : Nat)))) v4 v5 (some (.fz (houseD n (ts.map sdD)))) (some (.fz x)) v8 v9 v10 v11 v12 v13 v14 v15 T) :=
  ⟨rfl, .inl ⟨x, .non, rfl, ox, by simp, true, by decide +kernel, zi1 H ox k⟩⟩
theorem zi3 (H : BehI n ts) (hT : T < TM) (k : ∀ v6 v7 v8, E.nx (eS ns v2 (some (.fz (.int (n : Nat)))) (some (.fz (.tup (ts.map sdD)))) v5 v6 v7 v8 v9 v10 v11 v12 v13 v14 v15 (T + 1))) :
    G_zz14i3 E (eS ns v2 (some (.fz (.int (n : Nat)))) (some (.fz (.tup (ts.map sdD)))) v5 v6 v7 v8 v9 v10 v11 v12 v13 v14 v15 T) := by
  refine ⟨rfl, s_HouseG H.hsg ⟨nle rfl, nle rfl, nle rfl, rfl, _, [.non, .int 5, .tup [.int 1, .tup []], .tup (ts.map sdD)], rfl, .inl rfl, (show 0 < 4 by decide), (show 4 ≤ 100000 by decide), hT, fun x hx => ⟨nle rfl, rfl, ?_⟩⟩⟩
  have ox : isO oneH [] x = some false := by
    simp only [List.mem_cons, List.not_mem_nil, or_false] at hx
    rcases hx with rfl | rfl | rfl | rfl <;> rfl
  dsimp only [tgCons, tgN, tgNil]
  exact zi2 (T := T + 1) H ox fun v8 => k _ _ _
theorem zi4 {xs : List D} (H : BehI n ts) (hx : ∀ x ∈ xs, ChD x) (hT : T + 100 ≤ TM) (k : ∀ v6 v7 v8 T', T ≤ T' → T' ≤ T + 41 → E.nx (eS ns v2 (some (.fz (.int (n : Nat)))) (some (.fz (.tup (ts.map sdD)))) (some (.fz (.lst xs))) v6 v7 v8 v9 v10 v11 v12 v13 v14 v15 T')) :
    G_zz14i4 E (eS ns v2 (some (.fz (.int (n : Nat)))) (some (.fz (.tup (ts.map sdD)))) (some (.fz (.lst xs))) v6 v7 v8 v9 v10 v11 v12 v13 v14 v15 T) := by
  refine ⟨rfl, n, ts, xs, rfl, H, hx, iteF ⟨rfl, n, ts, rfl, H, (show T + 40 ≤ TM by omega), fun T' t1 t2 => iteF ?_⟩⟩
  have t1 : T ≤ T' := t1
  have t2 : T' ≤ T + 40 := t2
  exact zi3 (T := T') H (by omega) fun v6 v7 v8 => k _ _ _ (T' + 1) (by omega) (by omega)
theorem cut_mem85 {ds : List D} {l h : Option Int} {x : D} (hx : x ∈ cutD ds l h) : x ∈ ds := by
  unfold cutD at hx
  exact List.mem_of_mem_drop (List.mem_of_mem_take hx)
theorem cut_len85 {ds : List D} {l h : Option Int} : (cutD ds l h).length ≤ ds.length := by
  unfold cutD
  rw [List.length_take, List.length_drop]
  omega
theorem zi5 {xs : List D} (H : BehI n ts) (hn : n ≤ 4) (lx : xs.length = 5) (hx : ∀ x ∈ xs, ChD x) (hT : T + 200 ≤ TM) (k : ∀ v5 v6 v7 v8 T', T ≤ T' → T' ≤ T + 50 → E.nx (eS ns v2 (some (.fz (.int (n : Nat)))) (some (.fz (.tup (ts.map sdD)))) v5 v6 v7 v8 v9 v10 v11 v12 v13 v14 v15 T')) :
    G_zz14i5 E (eS ns v2 (some (.fz (.int (n : Nat)))) (some (.fz (.tup (ts.map sdD)))) (some (.fz (.lst xs))) v6 v7 v8 v9 v10 v11 v12 v13 v14 v15 T) := by
  refine ⟨rfl, n, ts, rfl, H.lu, by omega, (show T + 10 ≤ TM by omega), fun ys ly hy => ⟨by omega, rfl, n, ts, rfl, H.ok, H.lu, fun L lL sl => ?_⟩⟩
  have lc := cut_len85 (ds := L.map chgD) (l := none) (h := some 6)
  rw [List.length_map] at lc
  refine ⟨by rw [List.length_append]; omega, ?_⟩
  refine zi4 (T := T + 5) (xs := xs ++ ys ++ cutD (L.map chgD) none (some 6)) H (fun x hx2 => ?_) (by omega) fun v6 v7 v8 T' t1 t2 => k _ _ _ _ T' (by omega) (by omega)
  rcases List.mem_append.mp hx2 with h | h
  · rcases List.mem_append.mp h with h | h
    · exact hx x h
    · exact hy x h
  · obtain ⟨c, _, rfl⟩ := List.mem_map.mp (cut_mem85 h)
    exact chd_chg c
theorem zi6 (H : BehI n ts) (hn : n ≤ 4) (hT : T + 400 ≤ TM) (k : ∀ v5 v6 v7 v8 T', T ≤ T' → T' ≤ T + 100 → E.nx (eS ns v2 (some (.fz (.int (n : Nat)))) (some (.fz (.tup (ts.map sdD)))) v5 v6 v7 v8 v9 v10 v11 v12 v13 v14 v15 T')) :
    G_zz14i6 E (eS ns v2 (some (.fz (.int (n : Nat)))) (some (.fz (.tup (ts.map sdD)))) v5 v6 v7 v8 v9 v10 v11 v12 v13 v14 v15 T) := by
  have key : F_zz14i6a (eS ns v2 (some (.fz (.int (n : Nat)))) (some (.fz (.tup (ts.map sdD)))) v5 v6 v7 v8 v9 v10 v11 v12 v13 v14 v15 T) (fun d s1 => G_zz14i5 E (s1.put 5 (.fz d))) E.ex := by
    refine dLc_inv (fun i acc s => ∃ (L : List ChT) (T' : Nat), acc = L.map chgD ∧ L.length = i ∧ T ≤ T' ∧ T' ≤ T + 8 * i ∧ s = eS ns v2 (some (.fz (.int (n : Nat)))) (some (.fz (.tup (ts.map sdD)))) v5 v6 v7 v8 v9 v10 v11 v12 v13 v14 v15 T') (rangeD 0 5) (fun Q hQ => ⟨by decide, by decide, hQ _ ⟨[], T, rfl, rfl, Nat.le_refl _, Nat.le_refl _, rfl⟩⟩) ?_ ?_
    · rintro i d acc s hi ⟨L, T', rfl, lL, t1, t2, rfl⟩ Q hQ
      have il := get_lt hi
      rw [rangeD_len] at il
      refine ⟨rfl, n, ts, rfl, H.ok, H.lu, H.k1, H.k12, (show T' + 8 ≤ TM by omega), fun c T2 u1 u2 hc => ?_⟩
      have u1 : T' ≤ T2 := u1
      have u2 : T2 ≤ T' + 8 := u2
      exact ⟨(show (L.map chgD).length < 100000 by rw [List.length_map]; omega), hQ _ _ ⟨L ++ [c], T2, by rw [List.map_append]; rfl, by rw [List.length_append, lL]; rfl, by omega, by omega, rfl⟩⟩
    · rintro acc s ⟨L, T', rfl, lL, t1, t2, rfl⟩
      rw [rangeD_len] at lL t2
      refine zi5 (T := T') (xs := L.map chgD) H hn (by rw [List.length_map, lL]) (fun x hx => ?_) (by omega) fun v5 v6 v7 v8 T2 u1 u2 => k _ _ _ _ T2 (by omega) (by omega)
      obtain ⟨c, _, rfl⟩ := List.mem_map.mp hx
      exact chd_chg c
  exact key
theorem zi7 (hT : T + 200000 ≤ TM) (k : ∀ v3 v4 v5 v6 v7 v8 T', T ≤ T' → T' ≤ T + 2000 → E.nx (eS ns v2 v3 v4 v5 v6 v7 v8 v9 v10 v11 v12 v13 v14 v15 T')) :
    G_zz14i7 E (eS ns v2 v3 v4 v5 v6 v7 v8 v9 v10 v11 v12 v13 v14 v15 T) := by
  refine ⟨rfl, 4, 3, rfl, by decide, by decide, by decide, by decide, (show T + 100001 ≤ TM by omega), fun n ts T' H hn t1 t2 => ⟨rfl, ?_⟩⟩
  have t1 : T ≤ T' := t1
  have t2 : T' ≤ T + 1000 := t2
  dsimp only [tgCons, tgN, tgNil]
  exact zi6 (T := T') H hn (by omega) fun v5 v6 v7 v8 T2 u1 u2 => k _ _ _ _ _ _ T2 (by omega) (by omega)
theorem m_law (ns : List Int) (hl : ns.length ≤ 63) : G_law (endsOf (fun x _ => x = .fz (.bl true)) (fun _ _ _ => False)) (eS ns none none none none none none none none none none none none none none 0) := by
  have tm : TM = 1099511627776 := rfl
  refine gFor_inv (fun i s => ∃ v2 v3 v4 v5 v6 v7 v8 T, s = eS ns v2 v3 v4 v5 v6 v7 v8 none none none none none none none T ∧ T ≤ 2000 * i) (rangeD 0 ((2 : Int) + (if (2 : Int) < (ns.length : Int) then 2 else (ns.length : Int))).toNat) (fun P hP => ⟨?_, ?_, hP _ ⟨_, _, _, _, _, _, _, _, rfl, Nat.le_refl _⟩⟩) ?_ ?_
  · show (2 : Int) + (if (2 : Int) < (ns.length : Int) then 2 else (ns.length : Int)) < _
    split <;> omega
  · show _ ≤ (2 : Int) + (if (2 : Int) < (ns.length : Int) then 2 else (ns.length : Int))
    split <;> omega
  · rintro i d s hi ⟨v2, v3, v4, v5, v6, v7, v8, T, rfl, hT⟩ R hR
    have hi8 : i < 5 := by
      have := (rangeD_get hi).2
      split at this <;> omega
    exact zi7 (T := T) (v2 := some (.fz d)) (by omega) fun v3 v4 v5 v6 v7 v8 T' a b => hR _ ⟨_, v3, v4, v5, v6, v7, v8, T', rfl, by omega⟩
  · rintro s ⟨v2, v3, v4, v5, v6, v7, v8, T, rfl, hT⟩
    exact zz13 (T := T) rfl
end
end Law


set_option Elab.async false
set_option linter.all false
set_option maxRecDepth 100000
set_option maxHeartbeats 1000000
namespace DL
open PySem PySem.Spec PyProof.Rows L2
variable [Tb]
/-! ### dicts whose keys are tuples of whole numbers, kept in a variable -/
section
variable {X : Cx} {W : WX} {a b e : Expr} {Fa Fb : DF} {pos p : Pos}
end
end DL


set_option Elab.async false
set_option linter.all false
set_option maxRecDepth 100000
set_option maxHeartbeats 1000000
namespace L2
open PySem PySem.Spec PyProof.Rows
/-! ### sorted(set(xs)), xs a list of pairs of whole numbers of either sign -/
section
open PySem.Calls PySem.W
variable {P : Program} {w : World} {A : Around} {E : Value → Shared → Prop} {s : Shared}
end
end L2


set_option Elab.async false
set_option linter.all false
set_option maxRecDepth 100000
set_option maxHeartbeats 4000000
namespace DL
open PySem L2
section
variable [Tb]
variable {X : Cx} {W : WX} {a : Expr} {Fa : DF} {pos p p2 pos2 : Pos}
end
end DL


set_option Elab.async false
set_option linter.all false
set_option maxRecDepth 100000
set_option maxHeartbeats 4000000
namespace DL
open PySem L2 PyProof.Rows
variable [Tb]
/-! ### own functions as values: for ask in [f, g]: ask(..) -/
section
variable {X : Cx} {W : WX} {e : Expr} {es : List Expr} {G : DFA} {pos p : Pos}
end
end DL


set_option Elab.async false
set_option linter.all false
set_option maxRecDepth 100000
set_option maxHeartbeats 4000000
namespace DL
open PySem PySem.Spec PyProof.Rows L2
variable [Tb]
/-! ### a closed lambda with parameters: its promise -/
structure LamP (P : Program) (w : World) (K : PySem.W.Frag) (mg : Str → Option Value) (base : Heap) (k : Nat) (q : Str) (params : Arguments) (body : Expr) (scope : Scope) (n : Nat) (S : PF) : Prop where
  run : ∀ (f c' : Addr) (pm ctv : Value) (A : Around) (outer : List Env) (s : Shared) (H : Hp) (us : List Value) (vs : List V) (Q : VK) (E : XK), Room k A → Env0 P w K mg base A outer s H → s.heap.get? f = some (PySem.W.kla_obj "<lambda>" q params body scope [] pm c' ctv) → s.heap.CodeRec (.ref c') q → Vals vs us → spD K mg n S vs H Q E →
    codeAny (model P w) A (.call (.ref f) ⟨us, []⟩) (CR (L2.CX P w) outer P w H s Q E) s
/-! ### what a name may hold that is called: an own function, or such a lambda -/
/-- f is callable by the promise S, told at the heap H -/
def Callee (X : Cx) (k n : Nat) (S : PF) (f : Addr) (H : Hp) : Prop :=
  (∃ k' x ps fd, k' ≤ k ∧ ps.length = n ∧ FnOk X.prog X.w X.K X.mg X.base (L2.CX X.prog X.w) k' f fd ps (spD X.K X.mg ps.length S) ∧ X.mg x = some (.ref f) ∧ PySem.W.keepIn X.K (.ref f) = true ∧ Binds X.K fd ps []) ∨
  (∃ k' c' q params body scope, k' ≤ k ∧ LamP X.prog X.w X.K X.mg X.base k' q params body scope n S ∧ H f = some (LamO f c' q params body scope []) ∧ H c' = some (LamX.CodeO c' q))
theorem Callee.ext {X : Cx} {k n : Nat} {S : PF} {f : Addr} {H H1 : Hp} (h : Callee X k n S f H) (e : LamX.ExtN H H1) : Callee X k n S f H1 := by
  rcases h with h | ⟨k', c', q, params, body, scope, a, b, c, d⟩
  · exact .inl h
  · exact .inr ⟨k', c', q, params, body, scope, a, b, e _ _ c ntb_lam, e _ _ d ntb_code⟩
end DL


set_option Elab.async false
set_option linter.all false
set_option maxRecDepth 100000
set_option maxHeartbeats 4000000
namespace DL
open PySem PySem.Spec PyProof.Rows L2
variable [Tb]
/-! ### for a in [f, .., lambda x: ..]: if not isinstance(_law_caught(lambda: a(y, ..)), E): return False -/
def CalC (X : Cx) (k n : Nat) (S : PF) (i : Nat) : L2.St → Hp → Prop := fun σ H => ∃ f, σ[i]? = some (some (.ref f)) ∧ Callee X k n S f H
theorem CalC.ext {X : Cx} {k n i : Nat} {S : PF} {σ : L2.St} {H H1 : Hp} (h : CalC X k n S i σ H) (e : LamX.ExtN H H1) : CalC X k n S i σ H1 := by
  obtain ⟨f, a, b⟩ := h
  exact ⟨f, a, b.ext e⟩
section
variable {X : Cx} {W : WX} {E : XK}
end
/-! the elements -/
section
variable {X : Cx} {k n : Nat}
end
section
variable {X : Cx} {W : WX}
end
end DL


set_option Elab.async false
set_option linter.all false
set_option maxRecDepth 100000
set_option maxHeartbeats 4000000
namespace DL
open PySem L2
variable [Tb]
end DL


set_option Elab.async false
set_option linter.all false
set_option maxRecDepth 100000
set_option maxHeartbeats 4000000
namespace DL
open PySem L2
section
variable [Tb] {X : Cx} {W : WX} {a b : Expr} {Fa Fb : DF} {pos : Pos}
variable {x y : Str} {px py pt : Pos} {kt : Nat} {pt2 : Pos} {k2 : Nat} {i j : Nat}
/-! ### x, y = e, [..] where a name is captured -/
end
/-! ### a class made by keywords, from the head's facts -/
section
variable {K : PySem.W.Frag} {h : Heap} {mg : Str → Option Value} {x : Str} {st : Stmt} {ps ks : List Str} {π : List Nat} {P : Program} {w : World} {base : Heap}
theorem KnIK.up [Tb] {CX : CXT} {k j : Nat} {S : PF} (h : KnIK P w K mg base CX k x ps ks π S) (hk : k ≤ j) : KnIK P w K mg base CX j x ps ks π S := by
  obtain ⟨C, f, fd, m, o, r⟩ := h.ex
  exact ⟨C, f, fd, m, o.mono hk, r⟩
end
end DL


set_option Elab.async false
set_option linter.all false
namespace DL
open PySem PySem.Spec PyProof.Rows L2
/-! ### a def of the top under another name -/
structure DefAs (K : PySem.W.Frag) (mg : Str → Option Value) (x nm : Str) (st : Stmt) (ps : List Str) : Prop where
  ex : ∃ f fd, Fun K nm nm st f fd ∧ mg x = some (.ref f) ∧ PySem.W.keepIn K (.ref f) = true ∧ Binds K fd ps []
section
variable {K : PySem.W.Frag} {h : Heap} {mg : Str → Option Value} {x nm : Str} {st : Stmt} {ps : List Str}
theorem defAs_of (X : K.In h) (G : h.Ns mainGlobals mg) (cg : (He.Fa.glo x).ok K = true) (Fd : ∃ fd, FunD K nm nm (defArgs st) (defBody st) (defScope st) [] [] (He.ga K x) fd)
    (hb : ∀ (kV doc pm : Value) (an : Option Addr) (cdv ct : Value) (us : List Value), us.length = ps.length → bindArgs (PySem.W.fnOf nm nm (defArgs st) (defBody st) (defScope st) .none kV doc pm an cdv ct) ⟨us, []⟩ = pure (ps.zip us)) : DefAs K mg x nm st ps := by
  obtain ⟨fd, F⟩ := Fd
  have F' := He5.fun_of F
  exact ⟨He.ga K x, fd, F', He.glo_ok X G cg, F'.kp, F'.binds hb⟩
variable {P : Program} {w : World} {base : Heap}
theorem DefAs.kn [Tb] {CX : CXT} {k : Nat} {S : PF} (D : DefAs K mg x nm st ps) (ok : ∀ f fd, Fun K nm nm st f fd → FnOk P w K mg base CX k f fd ps (spD K mg ps.length S)) : Kn P w K mg base CX k x ps S := by
  obtain ⟨f, fd, F, m, kp, b⟩ := D.ex
  exact ⟨f, fd, ok f fd F, m, kp, b⟩
end
end DL


set_option Elab.async false
set_option linter.all false
set_option maxRecDepth 100000
set_option maxHeartbeats 1000000
namespace DL
open PySem PySem.Spec PyProof.Rows L2
variable [Tb]
/-! ### sorted(xs), sorted(set(xs)) of pairs of whole numbers -/
abbrev PI := Int × Int
section
variable {X : Cx} {W : WX} {a : Expr} {Fa : DF} {pos p p2 pos2 : Pos}
end
end DL


set_option Elab.async false
set_option linter.all false
set_option maxRecDepth 100000
set_option maxHeartbeats 1000000
namespace DL
open PySem PySem.Spec PyProof.Rows L2
variable [Tb]
variable {X : Cx}
/-! ### sorted(xs) of whole numbers -/
/-! ### min(xs) of whole numbers -/
end DL


set_option Elab.async false
set_option linter.all false
set_option maxRecDepth 100000
set_option maxHeartbeats 4000000
namespace DL
open PySem PySem.Spec PyProof.Rows L2
variable [Tb]
/-! ### walking a dict's keys -/
/-! ### locking: the object at a differs by its lock alone -/
def Lk (a : Addr) (B B' : Hp) : Prop := (∀ x, x ≠ a → B' x = B x) ∧ ∃ od kvs, (B a = some (.dK kvs) ∧ B' a = some (.frz od (.dK kvs))) ∨ (B a = some (.frz od (.dK kvs)) ∧ B' a = some (.dK kvs))
theorem Lk.at {a x : Addr} {B B' : Hp} {o : HO} (h : Lk a B B') (e : B x = some o) (n1 : ∀ kvs, o ≠ .dK kvs) (n2 : ∀ od kvs, o ≠ .frz od (.dK kvs)) : B' x = some o := by
  by_cases z : x = a
  · subst z
    obtain ⟨_, od, kvs, ⟨h1, h2⟩ | ⟨h1, h2⟩⟩ := h
    · rw [h1] at e; cases e; exact absurd rfl (n1 kvs)
    · rw [h1] at e; cases e; exact absurd rfl (n2 od kvs)
  · rw [h.1 x z]; exact e
theorem Lk.rd {a x : Addr} {B B' : Hp} {xs : List (Key × V)} (h : Lk a B B') (e : Rd B x (.dK xs)) : Rd B' x (.dK xs) := by
  by_cases z : x = a
  · subst z
    obtain ⟨_, od, kvs, ⟨h1, h2⟩ | ⟨h1, h2⟩⟩ := h
    · rcases e with e | ⟨o, e⟩
      · rw [h1] at e; cases e; exact .inr ⟨od, h2⟩
      · rw [h1] at e; cases e
    · rcases e with e | ⟨o, e⟩
      · rw [h1] at e; cases e
      · rw [h1] at e; cases e; exact .inl h2
  · unfold Rd
    rw [h.1 x z]
    exact e
mutual
theorem Rep.lk {c : Ct} {a : Addr} {H H' : Hp} (e : Lk a H H') : ∀ {d : D} {v : V}, Rep c H d v → Rep c H' d v
  | .non, _, h => by unfold Rep at h ⊢; exact h
  | .bl b, _, h => by unfold Rep at h ⊢; exact h
  | .int i, _, h => by unfold Rep at h ⊢; exact h
  | .str x, _, h => by unfold Rep at h ⊢; exact h
  | .tup ds, _, h => by
    unfold Rep at h ⊢
    obtain ⟨a, xs, e1, h1, h2⟩ := h
    exact ⟨a, xs, e1, e.at h1 (fun _ z => by cases z) (fun _ _ z => by cases z), RepL.lk e h2⟩
  | .lst ds, _, h => by
    unfold Rep at h ⊢
    obtain ⟨a, xs, e1, h1, h2⟩ := h
    exact ⟨a, xs, e1, e.at h1 (fun _ z => by cases z) (fun _ _ z => by cases z), RepL.lk e h2⟩
  | .dic kvs, _, h => by
    unfold Rep at h ⊢
    obtain ⟨a, xs, e1, h1, h2⟩ := h
    exact ⟨a, xs, e1, e.rd h1, RepK.lk e h2⟩
  | .obj n fs, _, h => by
    unfold Rep at h ⊢
    obtain ⟨a, C, dx, xs, e1, m, h1, h2⟩ := h
    exact ⟨a, C, dx, xs, e1, m, e.at h1 (fun _ z => by cases z) (fun _ _ z => by cases z), RepF.lk e h2⟩
  | .exc n fs, _, h => by
    unfold Rep at h ⊢
    obtain ⟨a, C, dd, xs, e1, m, h1, h3, h2⟩ := h
    refine ⟨a, C, dd, xs, e1, m, e.at h1 (fun _ z => by unfold ExcO at z; cases z) (fun _ _ z => by unfold ExcO at z; cases z), ?_, RepF.lk e h2⟩
    cases dd with
    | some d => exact e.at h3 (fun _ z => by cases z) (fun _ _ z => by cases z)
    | none => exact h3
  | .st, _, h => by unfold Rep at h ⊢; exact h
  | .scr ns, _, h => by
    unfold Rep at h ⊢
    obtain ⟨a, e1, h1⟩ := h
    refine ⟨a, e1, ?_⟩
    rcases h1 with (h1 | ⟨o, h1⟩) | h1
    · exact .inl (.inl (e.at h1 (fun _ z => by cases z) (fun _ _ z => by cases z)))
    · exact .inl (.inr ⟨o, e.at h1 (fun _ z => by cases z) (fun _ _ z => by cases z)⟩)
    · exact .inr h1
  | .dtp ks, _, h => by
    unfold Rep at h ⊢
    obtain ⟨a, kvs, e1, h1, h2⟩ := h
    exact ⟨a, kvs, e1, e.at h1 (fun _ z => by cases z) (fun _ _ z => by cases z), h2⟩
  | .fn x, _, h => by unfold Rep at h ⊢; exact h
theorem RepL.lk {c : Ct} {a : Addr} {H H' : Hp} (e : Lk a H H') : ∀ {ds : List D} {vs : List V}, RepL c H ds vs → RepL c H' ds vs
  | [], _, h => by unfold RepL at h ⊢; exact h
  | d :: ds, _, h => by
    unfold RepL at h ⊢
    obtain ⟨x, xr, e1, h1, h2⟩ := h
    exact ⟨x, xr, e1, Rep.lk e h1, RepL.lk e h2⟩
theorem RepK.lk {c : Ct} {a : Addr} {H H' : Hp} (e : Lk a H H') : ∀ {ds : List (Key × D)} {vs : List (Key × V)}, RepK c H ds vs → RepK c H' ds vs
  | [], _, h => by unfold RepK at h ⊢; exact h
  | (k, d) :: ds, _, h => by
    unfold RepK at h ⊢
    obtain ⟨x, xr, e1, h1, h2⟩ := h
    exact ⟨x, xr, e1, Rep.lk e h1, RepK.lk e h2⟩
theorem RepF.lk {c : Ct} {a : Addr} {H H' : Hp} (e : Lk a H H') : ∀ {ds : List (Str × D)} {vs : List (Str × V)}, RepF c H ds vs → RepF c H' ds vs
  | [], _, h => by unfold RepF at h ⊢; exact h
  | (k, d) :: ds, _, h => by
    unfold RepF at h ⊢
    obtain ⟨x, xr, e1, h1, h2⟩ := h
    exact ⟨x, xr, e1, Rep.lk e h1, RepF.lk e h2⟩
end
theorem RepO.lk {c : Ct} {a : Addr} {H H' : Hp} (e : Lk a H H') : ∀ {d : D} {o : HO}, RepO c H d o → RepO c H' d o
  | .dtp ks, _, h => h
  | .lst ds, _, ⟨xs, e1, h⟩ => ⟨xs, e1, h.lk e⟩
  | .dic ds, _, ⟨xs, e1, h⟩ => ⟨xs, e1, h.lk e⟩
  | .obj n fs, _, ⟨C, dx, xs, e1, m, h⟩ => ⟨C, dx, xs, e1, m, h.lk e⟩
section
variable {c : Ct} {L : List (Addr × HO)} {H0 B0 H B : Hp} {σ : L2.St} {s : DS} {a : Addr} {od : Obj} {xs : List (Key × V)}
end
section
variable {X : Cx} {W : WX} {tg b : Expr} {Fb : DF} {x : Str} {px p pos : Pos}
end
end DL


set_option Elab.async false
set_option linter.all false
set_option maxRecDepth 100000
set_option maxHeartbeats 4000000
namespace DL
open PySem PySem.Spec PyProof.Rows L2
variable [Tb]
/-! ### lambdas with parameters that capture names of the def that makes them -/
abbrev CellsAt := NdefX.CellsAt
structure LamPC (P : Program) (w : World) (K : PySem.W.Frag) (mg : Str → Option Value) (base : Heap) (k : Nat) (q : Str) (params : Arguments) (body : Expr) (scope : Scope) (fr : List Str) (n : Nat) (S : PF) : Prop where
  run : ∀ (cl : List (Str × Addr)) (f c' : Addr) (pm ctv : Value) (A : Around) (outer : List Env) (s : Shared) (H : Hp) (us : List Value) (vs wv : List V) (Q : VK) (E : XK), Room k A → Env0 P w K mg base A outer s H → s.heap.get? f = some (PySem.W.kla_obj "<lambda>" q params body scope cl pm c' ctv) → s.heap.CodeRec (.ref c') q →
    CellsAt cl fr (wv.map some) s.heap H → vs.length = n → Vals vs us → spD K mg (n + fr.length) S (vs ++ wv) H Q E → codeAny (model P w) A (.call (.ref f) ⟨us, []⟩) (CR (L2.CX P w) outer P w H s Q E) s
/-- a promise of the first arguments alone -/
def firstN (n : Nat) (S : PF) : PF := fun ds => S (ds.take n)
/-- f is callable with what it captures: cl its cells, fr their names -/
def CalleeC (X : Cx) (k n : Nat) (cl : List (Str × Addr)) (fr : List Str) (S : PF) (f : Addr) (H : Hp) : Prop :=
  (∃ S0, Callee X k n S0 f H ∧ S = firstN n S0) ∨
  (∃ k' c' q params body scope, k' ≤ k ∧ LamPC X.prog X.w X.K X.mg X.base k' q params body scope fr n S ∧ H f = some (LamO f c' q params body scope cl) ∧ H c' = some (LamX.CodeO c' q))
theorem CalleeC.ext {X : Cx} {k n : Nat} {cl : List (Str × Addr)} {fr : List Str} {S : PF} {f : Addr} {H H1 : Hp} (h : CalleeC X k n cl fr S f H) (e : LamX.ExtN H H1) : CalleeC X k n cl fr S f H1 := by
  rcases h with ⟨S0, h, e2⟩ | ⟨k', c', q, params, body, scope, a, b, c, d⟩
  · exact .inl ⟨S0, h.ext e, e2⟩
  · exact .inr ⟨k', c', q, params, body, scope, a, b, e _ _ c ntb_lam, e _ _ d ntb_code⟩
section
variable {X : Cx} {pins : List (Addr × Obj)} {σ : L2.St} {H HZ : Hp} {s s1 : Shared}
end
def CalCC (X : Cx) (k n : Nat) (cl : List (Str × Addr)) (fr : List Str) (S : PF) (i : Nat) : L2.St → Hp → Prop := fun σ H => ∃ f, σ[i]? = some (some (.ref f)) ∧ CalleeC X k n cl fr S f H
theorem CalCC.ext {X : Cx} {k n i : Nat} {cl : List (Str × Addr)} {fr : List Str} {S : PF} {σ : L2.St} {H H1 : Hp} (h : CalCC X k n cl fr S i σ H) (e : LamX.ExtN H H1) : CalCC X k n cl fr S i σ H1 := by
  obtain ⟨f, a, b⟩ := h
  exact ⟨f, a, b.ext e⟩
/-! the elements: own functions, lambdas of the one scope scL -/
section
variable {X : Cx} {k n : Nat} {fr : List Str} {scL : Scope}
end
section
variable {X : Cx} {W : WX}
end
end DL


set_option Elab.async false
set_option linter.all false
set_option maxRecDepth 100000
set_option maxHeartbeats 4000000
namespace DL
open PySem L2
/-! ### isinstance(x, ValueError), x an own error -/
variable [Tb]
section
variable {X : Cx} {W : WX} {a : Expr} {Fa : DF} {pos p : Pos}
end
end DL


set_option Elab.async false
set_option linter.all false
set_option maxRecDepth 100000
set_option maxHeartbeats 1000000
namespace DL
open PySem PySem.Spec PyProof.Rows L2
variable [Tb]
section
variable {X : Cx} {W : WX} {a e : Expr} {es : List Expr} {Fa : DF} {G : DFA} {pos p : Pos}
end
end DL


set_option Elab.async false
set_option linter.all false
set_option maxRecDepth 100000
set_option maxHeartbeats 1000000
/-! k not in d: d a dict of tuples that slot i owns -/
namespace DL
open PySem L2 PyProof.Rows
variable [Tb]
section
variable {X : Cx} {W : WX} {a b e : Expr} {Fa Fb : DF} {pos p : Pos}
end
end DL


set_option Elab.async false
set_option linter.all false
set_option maxRecDepth 100000
set_option maxHeartbeats 4000000
/-! d = {k: v for x in ..}, k tuples of whole numbers: the new dict in a variable -/
namespace DL
open PySem PySem.Spec L2 PyProof.Rows
section
variable {X : Cx} {pn : List (Addr × Obj)} {τ : L2.St} {G : Hp} {z : Shared}
end
section
variable {X : Cx}
end
end DL


set_option Elab.async false
set_option linter.all false
set_option maxRecDepth 100000
set_option maxHeartbeats 4000000
/-! {i: v for x in ..}, i whole numbers, as a new dict; len of a dict -/
namespace DL
open PySem PySem.Spec L2 PyProof.Rows
variable [Tb]
section
variable {X : Cx} {W : WX} {kx vx tg iter : Expr} {ifs : List Expr} {scope : Scope} {own : List (Str × Nat)} {pos spos py : Pos} {I : DFA} {T : DTg} {Ft : DFT} {Fk Fv : DF}
end
end DL


set_option Elab.async false
set_option linter.all false
set_option maxRecDepth 100000
set_option maxHeartbeats 4000000
/-! [x] * n as a new list; tuple.index of whole numbers (the method's call; that a heap tuple has no dict is not known: see LESSONS) -/
namespace DL
open PySem PySem.Spec L2 PyProof.Rows
variable [Tb]
section
variable {X : Cx} {W : WX} {a b e : Expr} {Fa Fb : DF} {pos p : Pos}
end
end DL


set_option Elab.async false
set_option linter.all false
set_option maxRecDepth 100000
set_option maxHeartbeats 4000000
namespace DL
open PySem L2
variable [Tb]
/-! ### what a slot owns is read in an expression and stays its own; other slots may own lists of plain values -/
section
variable {c : Ct} {L : List (Addr × HO)} {H0 B0 H H1 B B1 : Hp} {σ : L2.St} {s s1 : DS}
end
section
variable {X : Cx} {W : WX} {e : Expr} {Fa : DF}
end
end DL


set_option Elab.async false
set_option linter.all false
set_option maxRecDepth 100000
namespace DL
open PySem L2
variable {P : Program} {w : World} {K : PySem.W.Frag} {mg : Str → Option Value} {base : Heap} {x : Str} {ps : List Str}
end DL


set_option Elab.async false
set_option linter.all false
set_option maxRecDepth 100000
namespace DL
open PySem L2
variable {P : Program} {w : World} {K : PySem.W.Frag} {mg : Str → Option Value} {base : Heap} {x : Str} {ps : List Str}
/-- a def that gives a new list, for a caller that takes what it gives as it is -/
theorem Kn.frz [Tb] {CX : CXT} {k : Nat} {S S' : PF} (F : Kn P w K mg base CX k x ps S) (h : ∀ ds T post ex, S' ds T post ex → S ds T (fun y T' => post (.fz y.d) T') ex) : Kn P w K mg base CX k x ps S' := by
  obtain ⟨f, fd, o, r⟩ := F.ex
  refine ⟨f, fd, o.imp fun vs H Q E q => ?_, r⟩
  obtain ⟨q, B, ds, T, post, ex, a1, a2, a3, a4, c1, c2, c3⟩ := q
  refine ⟨q, B, ds, T, _, ex, a1, a2, a3, h ds T post ex a4, fun v H' B' d T' b r p => c1 v H' B' d T' b r p, fun p o H' B' d T' b hp ro pp => ?_, c3⟩
  exact c1 _ _ _ d T' (b.alloc hp ro.ntb) ((ro.mono (Le.upd (b.nB hp))).rep upd_same) pp
end DL


set_option Elab.async false
set_option linter.all false
set_option maxRecDepth 100000
set_option maxHeartbeats 4000000
namespace DL
open PySem L2
variable [Tb]
section
variable {X : Cx} {W : WX} {a : Expr} {p p2 pos : Pos}
end
end DL


set_option Elab.async false
set_option linter.all false
set_option maxRecDepth 100000
set_option maxHeartbeats 4000000
namespace DL
open PySem L2
section
variable [Tb] {X : Cx} {W : WX} {a b e : Expr} {G : DFA} {px py pz pt pos : Pos} {x y z : Str} {kt : Nat} {pt2 : Pos} {k2 : Nat} {i j l : Nat}
end
end DL


set_option Elab.async false
set_option linter.all false
set_option maxRecDepth 100000
set_option maxHeartbeats 0
namespace Law
open PySem L2 DL
open PySem.Spec PyProof.Rows
theorem exs_at {w : World} {h : Heap} {K : PySem.W.Frag} (c : He.SaysX fa fn [] tf ex w h K) (i : Nat) {b : Bool} (e : (exs K)[i]? = some b) : b = true := List.all_eq_true.mp (show (exs K).all id = true from c.more) b (List.mem_of_getElem? e)
/-- what the top has left -/
structure Txt (K : PySem.W.Frag) (mg : Str → Option Value) : Prop where
  b_ValueError : mg "ValueError" = none
  b_abs : mg "abs" = none
  b_all : mg "all" = none
  b_bool : mg "bool" = none
  b_enumerate : mg "enumerate" = none
  b_int : mg "int" = none
  b_isinstance : mg "isinstance" = none
  b_len : mg "len" = none
  b_list : mg "list" = none
  b_min : mg "min" = none
  b_range : mg "range" = none
  b_str : mg "str" = none
  b_super : mg "super" = none
  b_tuple : mg "tuple" = none
  b_zip : mg "zip" = none
  c_MOST_ROOMS : ∃ t, mg "MOST_ROOMS" = some (.int 12 t)
  c_MOST_DOORS : ∃ t, mg "MOST_DOORS" = some (.int 20 t)
  c_GREATEST : ∃ t, mg "GREATEST" = some (.int 999 t)
  c_MOST_CHANGES : ∃ t, mg "MOST_CHANGES" = some (.int 30 t)
  d_is_number : DefAt K mg "is_number" (topS 1) ["thing"]
  d_is_number_within : DefAt K mg "is_number_within" (topS 2) ["thing", "low", "high"]
  d_is_tuple_of : DefAt K mg "is_tuple_of" (topS 3) ["thing", "many"]
  d_is_list : DefAt K mg "is_list" (topS 4) ["thing"]
  d_can_be_folded : DefAt K mg "can_be_folded" (topS 15) ["door"]
  d_fold_of : DefAt K mg "fold_of" (topS 16) ["door"]
  d_doors_behind : DefAt K mg "doors_behind" (topS 17) ["doors", "at"]
  d_is_room_count : DefAt K mg "is_room_count" (topS 23) ["thing"]
  d_is_door : DefAt K mg "is_door" (topS 24) ["rooms", "thing"]
  d_is_door_number_houses : DefAs K mg "is_door_number_houses" "_is_door_number" (topS 25) ["thing"]
  d_are_doors : DefAt K mg "are_doors" (topS 27) ["rooms", "thing"]
  d__least_apart : DefAt K mg "_least_apart" (topS 28) ["rooms", "doors"]
  d_need_house : DefAt K mg "need_house" (topS 29) ["house"]
  d_is_room : DefAt K mg "is_room" (topS 30) ["house", "thing"]
  d_need_room : DefAt K mg "need_room" (topS 31) ["house", "room"]
  d_is_pass : DefAt K mg "is_pass" (topS 32) ["house", "thing"]
  d_ends_of : DefAt K mg "ends_of" (topS 33) ["house", "step"]
  d_is_change : DefAt K mg "is_change" (topS 36) ["house", "thing"]
  d_changed : DefAt K mg "changed" (topS 37) ["house", "change"]
  d_room_along : DefAt K mg "room_along" (topS 38) ["house", "change", "room"]
  d_changed_by : DefAt K mg "changed_by" (topS 39) ["house", "changes"]
  d__houses_met : DefAt K mg "_houses_met" (topS 40) ["house", "changes"]
  d__outcome : DefAt K mg "_outcome" (topS 41) ["house", "thing"]
  d__told : DefAt K mg "_told" (topS 42) ["house", "thing"]
  d_is_door_number_changing : DefAs K mg "is_door_number_changing" "_is_door_number" (topS 43) ["house", "thing"]
  d__folded : DefAt K mg "_folded" (topS 45) ["house", "at"]
  d__turned : DefAt K mg "_turned" (topS 46) ["house", "room"]
  d__swapped : DefAt K mg "_swapped" (topS 47) ["house", "at"]
  d__slid : DefAt K mg "_slid" (topS 48) ["house", "end", "over"]
  d__lowered : DefAt K mg "_lowered" (topS 49) ["number", "gone"]
  d__room_along : DefAt K mg "_room_along" (topS 50) ["house", "change", "room"]
  d__law_begun : DefAt K mg "_law_begun" (topS 52) ["script"]
  d__law_blended : DefAt K mg "_law_blended" (topS 53) ["state"]
  d__law_draw : DefAt K mg "_law_draw" (topS 54) ["state", "size_here"]
  d__law_pick : DefAt K mg "_law_pick" (topS 55) ["state", "several"]
  d__law_mixed : DefAt K mg "_law_mixed" (topS 56) ["state", "several"]
  d__law_caught : DefAt K mg "_law_caught" (topS 57) ["work"]
  d__law_is_truth : DefAt K mg "_law_is_truth" (topS 58) ["found", "due"]
  d__law_is_whole : DefAt K mg "_law_is_whole" (topS 59) ["item"]
  d__law_size : DefAt K mg "_law_size" (topS 60) ["state"]
  d__law_doors : DefAt K mg "_law_doors" (topS 61) ["state", "rooms_here", "more"]
  d__law_gate : DefAt K mg "_law_gate" (topS 62) ["doors_here", "step"]
  d__law_sides : DefAt K mg "_law_sides" (topS 63) ["many"]
  d__law_ch_house : DefAt K mg "_law_ch_house" (topS 64) ["state", "most", "more"]
  d__law_ch_is_door : DefAt K mg "_law_ch_is_door" (topS 65) ["taken", "rooms_here"]
  d__law_ch_is_step : DefAt K mg "_law_ch_is_step" (topS 66) ["doors_here", "taken"]
  d__law_ch_fold : DefAt K mg "_law_ch_fold" (topS 67) ["doors_here", "spot"]
  d__law_ch_less : DefAt K mg "_law_ch_less" (topS 68) ["item", "gone"]
  d__law_ch_folded : DefAt K mg "_law_ch_folded" (topS 69) ["doors_here", "spot"]
  d__law_ch_slid : DefAt K mg "_law_ch_slid" (topS 70) ["doors_here", "end", "over"]
  d__law_ch_raw : DefAt K mg "_law_ch_raw" (topS 71) ["rooms_here", "doors_here", "taken"]
  d__law_ch_behind : DefAt K mg "_law_ch_behind" (topS 72) ["rooms_here", "doors_here", "taken"]
  d__law_ch_slides : DefAt K mg "_law_ch_slides" (topS 73) ["doors_here"]
  d__law_ch_change : DefAt K mg "_law_ch_change" (topS 74) ["state", "rooms_here", "doors_here"]
  d__law_ch_room : DefAt K mg "_law_ch_room" (topS 75) ["doors_here", "change_here", "room_here"]
  d__law_ch_run : DefAt K mg "_law_ch_run" (topS 76) ["state", "rooms_here", "doors_here", "many"]
  d__law_ch_odd : DefAt K mg "_law_ch_odd" (topS 77) ["state"]
  d__law_near_changes : DefAt K mg "_law_near_changes" (topS 78) ["state", "rooms_here", "doors_here"]
  d__law_judged : DefAt K mg "_law_judged" (topS 79) ["rooms_here", "doors_here", "several"]
  d__law_runs : DefAt K mg "_law_runs" (topS 80) ["state", "rooms_here", "doors_here"]
  d_law : DefAt K mg "law" (topS 81) ["script"]
  e_BadChange : ExcT K mg "BadChange"
  e_BadChanges : ExcT K mg "BadChanges"
  e_BadDoors : ExcT K mg "BadDoors"
  e_BadHouse : ExcT K mg "BadHouse"
  e_BadRoom : ExcT K mg "BadRoom"
  e_BadRooms : ExcT K mg "BadRooms"
  cH : ∀ C, mg "House" = some (.ref C) → Cls K C ∧ NoAttr K C "rooms" ∧ NoAttr K C "doors"
  iH : ∀ (P : Program) (w : World) (base : Heap) [Tb] (k : Nat) (S : PF), (∀ f fd, Fun K "__init__" "House.__init__" (inClass (topS 22) 0) f fd → FnOk P w K mg base (L2.CX P w) k f fd ["self", "rooms", "doors"] (spI K mg "House" 2 S)) → KnI P w K mg base (L2.CX P w) k "House" ["rooms", "doors"] S
  q_House : ∀ (P : Program) (w : World) (base : Heap) [Tb] (k : Nat) (S : PF), (∀ f fd, Fun K "__eq__" "House.__eq__" (inClass (topS 22) 1) f fd → FnOk P w K mg base CX0 k f fd ["self", "other"] (spD K mg 2 S)) → KnEq P w K mg base k "House" S
  f_rooms : ∃ C, mg "House" = some (.ref C) ∧ Cls K C ∧ NoAttr K C "rooms"
  f_doors : ∃ C, mg "House" = some (.ref C) ∧ Cls K C ∧ NoAttr K C "doors"
  i_House : IsO K mg "House" [("House", true)] []
  hms : ∀ m ∈ (["Apart", "BadChange", "BadChanges", "BadDoors", "BadHouse", "BadRoom", "BadRooms"] : List Str), ∀ C, mg m = some (.ref C) → PySem.W.exmOne K (.ref C) (.ref (He.ga K "PullError")) = some true
  gP : mg "PullError" = some (.ref (He.ga K "PullError"))
  i_BadChange : IsO K mg "BadChange" [] [("Apart", false), ("BadChange", true), ("BadChanges", false), ("BadDoors", false), ("BadHouse", false), ("BadRoom", false), ("BadRooms", false)]
  i_BadChanges : IsO K mg "BadChanges" [] [("Apart", false), ("BadChange", false), ("BadChanges", true), ("BadDoors", false), ("BadHouse", false), ("BadRoom", false), ("BadRooms", false)]
  i_BadHouse : IsO K mg "BadHouse" [] [("Apart", false), ("BadChange", false), ("BadChanges", false), ("BadDoors", false), ("BadHouse", true), ("BadRoom", false), ("BadRooms", false)]
  i_BadRoom : IsO K mg "BadRoom" [] [("Apart", false), ("BadChange", false), ("BadChanges", false), ("BadDoors", false), ("BadHouse", false), ("BadRoom", true), ("BadRooms", false)]
theorem txt_of {w : World} {K : PySem.W.Frag} {h : Heap} {mg : Str → Option Value} (X : K.In h) (G : h.Ns mainGlobals mg) (c : He.SaysX fa fn [] tf ex w h K) : Txt K mg := ⟨
  He.free_ok X G (c.t.d.fact 74 rfl),
  He.free_ok X G (c.t.d.fact 75 rfl),
  He.free_ok X G (c.t.d.fact 76 rfl),
  He.free_ok X G (c.t.d.fact 77 rfl),
  He.free_ok X G (c.t.d.fact 78 rfl),
  He.free_ok X G (c.t.d.fact 79 rfl),
  He.free_ok X G (c.t.d.fact 80 rfl),
  He.free_ok X G (c.t.d.fact 81 rfl),
  He.free_ok X G (c.t.d.fact 82 rfl),
  He.free_ok X G (c.t.d.fact 83 rfl),
  He.free_ok X G (c.t.d.fact 84 rfl),
  He.free_ok X G (c.t.d.fact 85 rfl),
  He.free_ok X G (c.t.d.fact 86 rfl),
  He.free_ok X G (c.t.d.fact 87 rfl),
  He.free_ok X G (c.t.d.fact 88 rfl),
  He.int_ok X G (c.t.d.fact 15 rfl),
  He.int_ok X G (c.t.d.fact 16 rfl),
  He.int_ok X G (c.t.d.fact 17 rfl),
  He.int_ok X G (c.t.d.fact 29 rfl),
  defAt_of X G (c.t.d.fact 0 rfl) (c.t.d.def_ 0 rfl) (fun _ _ _ _ _ _ us hl => match us, hl with | [_], _ => rfl),
  defAt_of X G (c.t.d.fact 1 rfl) (c.t.d.def_ 1 rfl) (fun _ _ _ _ _ _ us hl => match us, hl with | [_, _, _], _ => rfl),
  defAt_of X G (c.t.d.fact 2 rfl) (c.t.d.def_ 2 rfl) (fun _ _ _ _ _ _ us hl => match us, hl with | [_, _], _ => rfl),
  defAt_of X G (c.t.d.fact 3 rfl) (c.t.d.def_ 3 rfl) (fun _ _ _ _ _ _ us hl => match us, hl with | [_], _ => rfl),
  defAt_of X G (c.t.d.fact 12 rfl) (c.t.d.def_ 4 rfl) (fun _ _ _ _ _ _ us hl => match us, hl with | [_], _ => rfl),
  defAt_of X G (c.t.d.fact 13 rfl) (c.t.d.def_ 5 rfl) (fun _ _ _ _ _ _ us hl => match us, hl with | [_], _ => rfl),
  defAt_of X G (c.t.d.fact 14 rfl) (c.t.d.def_ 6 rfl) (fun _ _ _ _ _ _ us hl => match us, hl with | [_, _], _ => rfl),
  defAt_of X G (c.t.d.fact 19 rfl) (c.t.d.def_ 9 rfl) (fun _ _ _ _ _ _ us hl => match us, hl with | [_], _ => rfl),
  defAt_of X G (c.t.d.fact 20 rfl) (c.t.d.def_ 10 rfl) (fun _ _ _ _ _ _ us hl => match us, hl with | [_, _], _ => rfl),
  defAs_of X G (c.t.d.fact 21 rfl) (c.t.d.def_ 11 rfl) (fun _ _ _ _ _ _ us hl => match us, hl with | [_], _ => rfl),
  defAt_of X G (c.t.d.fact 22 rfl) (c.t.d.def_ 12 rfl) (fun _ _ _ _ _ _ us hl => match us, hl with | [_, _], _ => rfl),
  defAt_of X G (c.t.d.fact 23 rfl) (c.t.d.def_ 13 rfl) (fun _ _ _ _ _ _ us hl => match us, hl with | [_, _], _ => rfl),
  defAt_of X G (c.t.d.fact 24 rfl) (c.t.d.def_ 14 rfl) (fun _ _ _ _ _ _ us hl => match us, hl with | [_], _ => rfl),
  defAt_of X G (c.t.d.fact 25 rfl) (c.t.d.def_ 15 rfl) (fun _ _ _ _ _ _ us hl => match us, hl with | [_, _], _ => rfl),
  defAt_of X G (c.t.d.fact 26 rfl) (c.t.d.def_ 16 rfl) (fun _ _ _ _ _ _ us hl => match us, hl with | [_, _], _ => rfl),
  defAt_of X G (c.t.d.fact 27 rfl) (c.t.d.def_ 17 rfl) (fun _ _ _ _ _ _ us hl => match us, hl with | [_, _], _ => rfl),
  defAt_of X G (c.t.d.fact 28 rfl) (c.t.d.def_ 18 rfl) (fun _ _ _ _ _ _ us hl => match us, hl with | [_, _], _ => rfl),
  defAt_of X G (c.t.d.fact 30 rfl) (c.t.d.def_ 19 rfl) (fun _ _ _ _ _ _ us hl => match us, hl with | [_, _], _ => rfl),
  defAt_of X G (c.t.d.fact 31 rfl) (c.t.d.def_ 20 rfl) (fun _ _ _ _ _ _ us hl => match us, hl with | [_, _], _ => rfl),
  defAt_of X G (c.t.d.fact 32 rfl) (c.t.d.def_ 21 rfl) (fun _ _ _ _ _ _ us hl => match us, hl with | [_, _, _], _ => rfl),
  defAt_of X G (c.t.d.fact 33 rfl) (c.t.d.def_ 22 rfl) (fun _ _ _ _ _ _ us hl => match us, hl with | [_, _], _ => rfl),
  defAt_of X G (c.t.d.fact 34 rfl) (c.t.d.def_ 23 rfl) (fun _ _ _ _ _ _ us hl => match us, hl with | [_, _], _ => rfl),
  defAt_of X G (c.t.d.fact 35 rfl) (c.t.d.def_ 24 rfl) (fun _ _ _ _ _ _ us hl => match us, hl with | [_, _], _ => rfl),
  defAt_of X G (c.t.d.fact 36 rfl) (c.t.d.def_ 25 rfl) (fun _ _ _ _ _ _ us hl => match us, hl with | [_, _], _ => rfl),
  defAs_of X G (c.t.d.fact 37 rfl) (c.t.d.def_ 26 rfl) (fun _ _ _ _ _ _ us hl => match us, hl with | [_, _], _ => rfl),
  defAt_of X G (c.t.d.fact 38 rfl) (c.t.d.def_ 27 rfl) (fun _ _ _ _ _ _ us hl => match us, hl with | [_, _], _ => rfl),
  defAt_of X G (c.t.d.fact 39 rfl) (c.t.d.def_ 28 rfl) (fun _ _ _ _ _ _ us hl => match us, hl with | [_, _], _ => rfl),
  defAt_of X G (c.t.d.fact 40 rfl) (c.t.d.def_ 29 rfl) (fun _ _ _ _ _ _ us hl => match us, hl with | [_, _], _ => rfl),
  defAt_of X G (c.t.d.fact 41 rfl) (c.t.d.def_ 30 rfl) (fun _ _ _ _ _ _ us hl => match us, hl with | [_, _, _], _ => rfl),
  defAt_of X G (c.t.d.fact 42 rfl) (c.t.d.def_ 31 rfl) (fun _ _ _ _ _ _ us hl => match us, hl with | [_, _], _ => rfl),
  defAt_of X G (c.t.d.fact 43 rfl) (c.t.d.def_ 32 rfl) (fun _ _ _ _ _ _ us hl => match us, hl with | [_, _, _], _ => rfl),
  defAt_of X G (c.t.d.fact 44 rfl) (c.t.d.def_ 33 rfl) (fun _ _ _ _ _ _ us hl => match us, hl with | [_], _ => rfl),
  defAt_of X G (c.t.d.fact 45 rfl) (c.t.d.def_ 34 rfl) (fun _ _ _ _ _ _ us hl => match us, hl with | [_], _ => rfl),
  defAt_of X G (c.t.d.fact 46 rfl) (c.t.d.def_ 35 rfl) (fun _ _ _ _ _ _ us hl => match us, hl with | [_, _], _ => rfl),
  defAt_of X G (c.t.d.fact 47 rfl) (c.t.d.def_ 36 rfl) (fun _ _ _ _ _ _ us hl => match us, hl with | [_, _], _ => rfl),
  defAt_of X G (c.t.d.fact 48 rfl) (c.t.d.def_ 37 rfl) (fun _ _ _ _ _ _ us hl => match us, hl with | [_, _], _ => rfl),
  defAt_of X G (c.t.d.fact 49 rfl) (c.t.d.def_ 38 rfl) (fun _ _ _ _ _ _ us hl => match us, hl with | [_], _ => rfl),
  defAt_of X G (c.t.d.fact 50 rfl) (c.t.d.def_ 39 rfl) (fun _ _ _ _ _ _ us hl => match us, hl with | [_, _], _ => rfl),
  defAt_of X G (c.t.d.fact 51 rfl) (c.t.d.def_ 40 rfl) (fun _ _ _ _ _ _ us hl => match us, hl with | [_], _ => rfl),
  defAt_of X G (c.t.d.fact 52 rfl) (c.t.d.def_ 41 rfl) (fun _ _ _ _ _ _ us hl => match us, hl with | [_], _ => rfl),
  defAt_of X G (c.t.d.fact 53 rfl) (c.t.d.def_ 42 rfl) (fun _ _ _ _ _ _ us hl => match us, hl with | [_, _, _], _ => rfl),
  defAt_of X G (c.t.d.fact 54 rfl) (c.t.d.def_ 43 rfl) (fun _ _ _ _ _ _ us hl => match us, hl with | [_, _], _ => rfl),
  defAt_of X G (c.t.d.fact 55 rfl) (c.t.d.def_ 44 rfl) (fun _ _ _ _ _ _ us hl => match us, hl with | [_], _ => rfl),
  defAt_of X G (c.t.d.fact 56 rfl) (c.t.d.def_ 45 rfl) (fun _ _ _ _ _ _ us hl => match us, hl with | [_, _, _], _ => rfl),
  defAt_of X G (c.t.d.fact 57 rfl) (c.t.d.def_ 46 rfl) (fun _ _ _ _ _ _ us hl => match us, hl with | [_, _], _ => rfl),
  defAt_of X G (c.t.d.fact 58 rfl) (c.t.d.def_ 47 rfl) (fun _ _ _ _ _ _ us hl => match us, hl with | [_, _], _ => rfl),
  defAt_of X G (c.t.d.fact 59 rfl) (c.t.d.def_ 48 rfl) (fun _ _ _ _ _ _ us hl => match us, hl with | [_, _], _ => rfl),
  defAt_of X G (c.t.d.fact 60 rfl) (c.t.d.def_ 49 rfl) (fun _ _ _ _ _ _ us hl => match us, hl with | [_, _], _ => rfl),
  defAt_of X G (c.t.d.fact 61 rfl) (c.t.d.def_ 50 rfl) (fun _ _ _ _ _ _ us hl => match us, hl with | [_, _], _ => rfl),
  defAt_of X G (c.t.d.fact 62 rfl) (c.t.d.def_ 51 rfl) (fun _ _ _ _ _ _ us hl => match us, hl with | [_, _, _], _ => rfl),
  defAt_of X G (c.t.d.fact 63 rfl) (c.t.d.def_ 52 rfl) (fun _ _ _ _ _ _ us hl => match us, hl with | [_, _, _], _ => rfl),
  defAt_of X G (c.t.d.fact 64 rfl) (c.t.d.def_ 53 rfl) (fun _ _ _ _ _ _ us hl => match us, hl with | [_, _, _], _ => rfl),
  defAt_of X G (c.t.d.fact 65 rfl) (c.t.d.def_ 54 rfl) (fun _ _ _ _ _ _ us hl => match us, hl with | [_], _ => rfl),
  defAt_of X G (c.t.d.fact 66 rfl) (c.t.d.def_ 55 rfl) (fun _ _ _ _ _ _ us hl => match us, hl with | [_, _, _], _ => rfl),
  defAt_of X G (c.t.d.fact 67 rfl) (c.t.d.def_ 56 rfl) (fun _ _ _ _ _ _ us hl => match us, hl with | [_, _, _], _ => rfl),
  defAt_of X G (c.t.d.fact 68 rfl) (c.t.d.def_ 57 rfl) (fun _ _ _ _ _ _ us hl => match us, hl with | [_, _, _, _], _ => rfl),
  defAt_of X G (c.t.d.fact 69 rfl) (c.t.d.def_ 58 rfl) (fun _ _ _ _ _ _ us hl => match us, hl with | [_], _ => rfl),
  defAt_of X G (c.t.d.fact 70 rfl) (c.t.d.def_ 59 rfl) (fun _ _ _ _ _ _ us hl => match us, hl with | [_, _, _], _ => rfl),
  defAt_of X G (c.t.d.fact 71 rfl) (c.t.d.def_ 60 rfl) (fun _ _ _ _ _ _ us hl => match us, hl with | [_, _, _], _ => rfl),
  defAt_of X G (c.t.d.fact 72 rfl) (c.t.d.def_ 61 rfl) (fun _ _ _ _ _ _ us hl => match us, hl with | [_, _, _], _ => rfl),
  defAt_of X G (c.t.d.fact 73 rfl) (c.t.d.def_ 62 rfl) (fun _ _ _ _ _ _ us hl => match us, hl with | [_], _ => rfl),
  excT_of X G (c.t.d.fact 6 rfl) (c.t.d.fact 89 rfl),
  excT_of X G (c.t.d.fact 7 rfl) (c.t.d.fact 90 rfl),
  excT_of X G (c.t.d.fact 8 rfl) (c.t.d.fact 91 rfl),
  excT_of X G (c.t.d.fact 9 rfl) (c.t.d.fact 92 rfl),
  excT_of X G (c.t.d.fact 10 rfl) (c.t.d.fact 93 rfl),
  excT_of X G (c.t.d.fact 11 rfl) (c.t.d.fact 94 rfl),
  fun C hC => by
    have e := (He.glo_ok X G (c.t.d.fact 18 rfl)).symm.trans hC
    cases e
    exact ⟨He.cls_ok (c.t.d.fact 103 rfl), He.noat_ok (c.t.d.fact 105 rfl), He.noat_ok (c.t.d.fact 106 rfl)⟩,
  fun P w base _ k S ok => knI_of (st := (inClass (topS 22) 0)) (q := "House.__init__") X G (c.t.d.fact 18 rfl) (c.t.d.fact 104 rfl) (c.t.d.def_ 7 rfl) (fun _ _ _ _ _ _ us hl => match us, hl with | [_, _, _], _ => rfl) ok,
  fun P w base _ k S ok => knEq_of (st := (inClass (topS 22) 1)) (q := "House.__eq__") X G (c.t.d.fact 18 rfl) (exs_at c 11 rfl) (c.t.d.def_ 8 rfl) (fun _ _ _ _ _ _ us hl => match us, hl with | [_, _], _ => rfl) ok,
  ⟨_, He.glo_ok X G (c.t.d.fact 18 rfl), He.cls_ok (c.t.d.fact 103 rfl), He.noat_ok (c.t.d.fact 105 rfl)⟩,
  ⟨_, He.glo_ok X G (c.t.d.fact 18 rfl), He.cls_ok (c.t.d.fact 103 rfl), He.noat_ok (c.t.d.fact 106 rfl)⟩,
  isO_of X G (c.t.d.fact 18 rfl) (exs_at c 2 rfl) (fun p hp => by
    rw [List.mem_singleton.mp hp]
    have k := (List.all_eq_true.mp (He.ba (exs_at c 2 rfl)).2) ("House", true) (by simp)
    exact ⟨c.t.d.fact 18 rfl, objB_ok (c.t.d.fact 103 rfl) (exs_at c 1 rfl) (of_decide_eq_true k)⟩) (fun p hp => absurd hp (by simp)),
  fun m hm C hC => by
    simp only [List.mem_cons, List.not_mem_nil, or_false] at hm
    rcases hm with rfl | rfl | rfl | rfl | rfl | rfl | rfl
    · have z := (He.glo_ok X G (c.t.d.fact 5 rfl)).symm.trans hC
      cases z
      exact He.exm_ok (c.t.d.fact 96 rfl)
    · have z := (He.glo_ok X G (c.t.d.fact 6 rfl)).symm.trans hC
      cases z
      exact He.exm_ok (c.t.d.fact 97 rfl)
    · have z := (He.glo_ok X G (c.t.d.fact 7 rfl)).symm.trans hC
      cases z
      exact He.exm_ok (c.t.d.fact 98 rfl)
    · have z := (He.glo_ok X G (c.t.d.fact 8 rfl)).symm.trans hC
      cases z
      exact He.exm_ok (c.t.d.fact 99 rfl)
    · have z := (He.glo_ok X G (c.t.d.fact 9 rfl)).symm.trans hC
      cases z
      exact He.exm_ok (c.t.d.fact 100 rfl)
    · have z := (He.glo_ok X G (c.t.d.fact 10 rfl)).symm.trans hC
      cases z
      exact He.exm_ok (c.t.d.fact 101 rfl)
    · have z := (He.glo_ok X G (c.t.d.fact 11 rfl)).symm.trans hC
      cases z
      exact He.exm_ok (c.t.d.fact 102 rfl),
  He.glo_ok X G (c.t.d.fact 4 rfl),
  isO_of X G (c.t.d.fact 6 rfl) (exs_at c 12 rfl) (fun p hp => absurd hp (by simp)) (fun p hp => by
    simp only [List.mem_cons, List.not_mem_nil, or_false] at hp
    rcases hp with rfl | rfl | rfl | rfl | rfl | rfl | rfl
    · exact ⟨c.t.d.fact 5 rfl, excB_ok (exs_at c 4 rfl)⟩
    · exact ⟨c.t.d.fact 6 rfl, excB_ok (exs_at c 5 rfl)⟩
    · exact ⟨c.t.d.fact 7 rfl, excB_ok (exs_at c 6 rfl)⟩
    · exact ⟨c.t.d.fact 8 rfl, excB_ok (exs_at c 7 rfl)⟩
    · exact ⟨c.t.d.fact 9 rfl, excB_ok (exs_at c 8 rfl)⟩
    · exact ⟨c.t.d.fact 10 rfl, excB_ok (exs_at c 9 rfl)⟩
    · exact ⟨c.t.d.fact 11 rfl, excB_ok (exs_at c 10 rfl)⟩),
  isO_of X G (c.t.d.fact 7 rfl) (exs_at c 13 rfl) (fun p hp => absurd hp (by simp)) (fun p hp => by
    simp only [List.mem_cons, List.not_mem_nil, or_false] at hp
    rcases hp with rfl | rfl | rfl | rfl | rfl | rfl | rfl
    · exact ⟨c.t.d.fact 5 rfl, excB_ok (exs_at c 4 rfl)⟩
    · exact ⟨c.t.d.fact 6 rfl, excB_ok (exs_at c 5 rfl)⟩
    · exact ⟨c.t.d.fact 7 rfl, excB_ok (exs_at c 6 rfl)⟩
    · exact ⟨c.t.d.fact 8 rfl, excB_ok (exs_at c 7 rfl)⟩
    · exact ⟨c.t.d.fact 9 rfl, excB_ok (exs_at c 8 rfl)⟩
    · exact ⟨c.t.d.fact 10 rfl, excB_ok (exs_at c 9 rfl)⟩
    · exact ⟨c.t.d.fact 11 rfl, excB_ok (exs_at c 10 rfl)⟩),
  isO_of X G (c.t.d.fact 9 rfl) (exs_at c 14 rfl) (fun p hp => absurd hp (by simp)) (fun p hp => by
    simp only [List.mem_cons, List.not_mem_nil, or_false] at hp
    rcases hp with rfl | rfl | rfl | rfl | rfl | rfl | rfl
    · exact ⟨c.t.d.fact 5 rfl, excB_ok (exs_at c 4 rfl)⟩
    · exact ⟨c.t.d.fact 6 rfl, excB_ok (exs_at c 5 rfl)⟩
    · exact ⟨c.t.d.fact 7 rfl, excB_ok (exs_at c 6 rfl)⟩
    · exact ⟨c.t.d.fact 8 rfl, excB_ok (exs_at c 7 rfl)⟩
    · exact ⟨c.t.d.fact 9 rfl, excB_ok (exs_at c 8 rfl)⟩
    · exact ⟨c.t.d.fact 10 rfl, excB_ok (exs_at c 9 rfl)⟩
    · exact ⟨c.t.d.fact 11 rfl, excB_ok (exs_at c 10 rfl)⟩),
  isO_of X G (c.t.d.fact 10 rfl) (exs_at c 15 rfl) (fun p hp => absurd hp (by simp)) (fun p hp => by
    simp only [List.mem_cons, List.not_mem_nil, or_false] at hp
    rcases hp with rfl | rfl | rfl | rfl | rfl | rfl | rfl
    · exact ⟨c.t.d.fact 5 rfl, excB_ok (exs_at c 4 rfl)⟩
    · exact ⟨c.t.d.fact 6 rfl, excB_ok (exs_at c 5 rfl)⟩
    · exact ⟨c.t.d.fact 7 rfl, excB_ok (exs_at c 6 rfl)⟩
    · exact ⟨c.t.d.fact 8 rfl, excB_ok (exs_at c 7 rfl)⟩
    · exact ⟨c.t.d.fact 9 rfl, excB_ok (exs_at c 8 rfl)⟩
    · exact ⟨c.t.d.fact 10 rfl, excB_ok (exs_at c 9 rfl)⟩
    · exact ⟨c.t.d.fact 11 rfl, excB_ok (exs_at c 10 rfl)⟩)⟩
variable [Tb]
/-- the defs that make lambdas -/
structure Lams (K : PySem.W.Frag) (mg : Str → Option Value) (base : Heap) : Prop where
  l__law_judged : DefL K mg base "_law_judged" (topS 79) ["rooms_here", "doors_here", "several"]
  l__law_runs : DefL K mg base "_law_runs" (topS 80) ["state", "rooms_here", "doors_here"]
  l_law : DefL K mg base "law" (topS 81) ["script"]
section
variable {P : Program} {w : World} {K : PySem.W.Frag} {mg : Str → Option Value} {base : Heap}
theorem sc__law_blended : FnScope ["state", "turn", "found", "prime", "blend", "cell"] ["state"] (defScope (topS 53)) := ⟨rfl, rfl, rfl, by decide +kernel, rfl, by decide +kernel, by decide +kernel⟩
theorem ok_blended {f : Addr} {fd : FuncData} (F : Fun K "_law_blended" "_law_blended" (topS 53) f fd) (bint : mg "int" = none) : FnOk P w K mg base CX0 1 f fd ["state"] spBlend := by
  refine F.ok sc__law_blended (fun vs H Q E h => ?_) (fun cdv A outer s H vs Q E hr h => ?_)
  · obtain ⟨a, g, l, gs, ls, left, turn, rfl, _⟩ := h
    rfl
  · obtain ⟨a, g, l, gs, ls, left, turn, rfl, S, ht, k⟩ := h
    have hu := hu_of hr
    have nd := sc__law_blended.nd
    refine ⟨_, pss_cons (ps_par (i := 1) (j := 2) rfl nd rfl rfl (by decide) rfl rfl (pa_cons (pe_op op_add (pe_dget hu (pv 0) pe_str (fun _ _ => rfl)) pe_int) (pa_cons pe_int pa_nil)) (by rfl))
      (pss_cons (ps_dput hu (pv 0) pe_str (pv 1) rfl)
      (pss_cons (ps_for PassesOwn.never rfl (pi_list (pe_lst (pa_cons pe_int (pa_cons pe_int (pa_cons pe_int pa_nil))))) (pg_name (i := 3) nd rfl (Or.inl rfl))
        (pss_cons (ps_set (i := 4) nd rfl (Or.inl rfl) (pe_op op_add (pe_op op_mul pe_int (pv 1)) (pe_op op_fdivN (pv 3) pe_int)))
        (pss_cons (ps_for PassesOwn.never rfl (pi_list (pe_dget hu (pv 0) pe_str (fun _ _ => rfl))) (pg_name (i := 5) nd rfl (Or.inl rfl))
          (pss_one (ps_set (i := 4) nd rfl (Or.inl rfl) (pe_op op_modN (pe_callTy call_int1 (by rfl) bint PyProof.Rows.boot_int (pa_cons (pe_op op_add (pe_op op_add (pe_op op_mul (pv 4) pe_int) (pv 5)) (pv 1)) pa_nil)) (pv 3)))))
        (pss_one (ps_set (i := 2) nd rfl (Or.inl rfl) (pe_op op_add (pe_op op_mul (pv 2) pe_int) (pe_op op_modN (pe_callTy call_int1 (by rfl) bint PyProof.Rows.boot_int (pa_cons (pe_op op_pow (pv 4) pe_int) pa_nil)) (pv 3))))))))
      (pss_one (ps_ret (pv 2))))), ?_⟩
    obtain ⟨ag, al, gl, hs, hg, hl, g0, gn, l0, ln, lf0, t0⟩ := S
    -- turn, found = state['turn'] + 1, 0; state['turn'] = turn
    refine ⟨_, rfl, a, _, rfl, get_turn hs, _, _, rfl, rfl, _, _, rfl, ?_⟩
    refine ⟨_, rfl, _, rfl, a, _, rfl, put_turn hs, by show 3 ≤ sizeLine; decide, fun p hp => ?_⟩
    have hp0 : H p = none := by
      by_cases z : p = a
      · rw [z, upd_same] at hp; cases hp
      · rwa [upd_ne z] at hp
    have pa : p ≠ a := fun z => by rw [z, upd_same] at hp; cases hp
    have pl : p ≠ l := fun z => by rw [z, hl] at hp0; cases hp0
    refine ⟨p, rfl, ⟨_, SqL.of upd_same⟩, for_list (K := K) (a := p) (xs := [.int 2147483587, .int 2147483563, .int 2147483549]) (fun i σ H2 => H2 = upd (upd H a (.dK (stK g l left (turn + 1)))) p (.lst [.int 2147483587, .int 2147483563, .int 2147483549]) ∧ ∃ (x : Int) (v3 v4 v5 : Option V), 0 ≤ x ∧ σ = [some (.ref a), some (.int (turn + 1)), some (.int x), v3, v4, v5])
      ⟨rfl, 0, none, none, none, Int.le_refl 0, rfl⟩ (fun i σ H2 _ ⟨e, _⟩ => by rw [e]; exact SqL.of upd_same) ?_ ?_⟩
    · rintro i y σ H2 hi ⟨rfl, x, v3, v4, v5, hx, rfl⟩
      obtain ⟨pr, rfl, hpr⟩ : ∃ pr, y = V.int pr ∧ (0 < pr ∧ pr < 2147483648) := by
        match i, hi with
        | 0, h => cases h; exact ⟨_, rfl, by decide⟩
        | 1, h => cases h; exact ⟨_, rfl, by decide⟩
        | 2, h => cases h; exact ⟨_, rfl, by decide⟩
        | n + 3, h => simp at h
      have hs2 : (upd (upd H a (.dK (stK g l left (turn + 1)))) p (.lst [.int 2147483587, .int 2147483563, .int 2147483549])) a = some (.dK (stK g l left (turn + 1))) := by rw [upd_ne pa.symm, upd_same]
      have hl2 : (upd (upd H a (.dK (stK g l left (turn + 1)))) p (.lst [.int 2147483587, .int 2147483563, .int 2147483549])) l = some (.lst (ls.map V.int)) := by rw [upd_ne pl.symm, upd_ne al.symm]; exact hl
      -- blend = 40692 * turn + prime // 61
      refine ⟨_, rfl, _, _, rfl, rfl, .inl ⟨by decide, by decide⟩, _, rfl, _, _, rfl, rfl, ⟨by decide, by decide⟩, _, _, rfl, rfl, ?_⟩
      have hd : 0 ≤ pr.fdiv 61 ∧ pr.fdiv 61 < 2147483648 := by
        rw [Int.fdiv_eq_ediv_of_nonneg _ (by decide)]
        omega
      refine ⟨_, rfl, a, _, rfl, get_cells hs2, l, rfl, ⟨_, SqL.of hl2⟩, ?_⟩
      refine for_list (K := K) (a := l) (xs := ls.map V.int) (fun i σ H2 => H2 = upd (upd H a (.dK (stK g l left (turn + 1)))) p (.lst [.int 2147483587, .int 2147483563, .int 2147483549]) ∧ ∃ (b : Int) (v5 : Option V), 0 ≤ b ∧ b < 4611686018427387904 ∧ σ = [some (.ref a), some (.int (turn + 1)), some (.int x), some (.int pr), some (.int b), v5])
        ⟨rfl, _, v5, ?_, ?_, rfl⟩ (fun i σ H2 _ ⟨e, _⟩ => by rw [e]; exact SqL.of hl2) ?_ ?_
      · omega
      · omega
      · rintro i y σ H2 hi ⟨rfl, b, v5, hb0, hb1, rfl⟩
        obtain ⟨z, rfl, hz⟩ := at_map hi
        refine ⟨_, rfl, _, _, rfl, rfl, .inr ⟨by decide, by decide⟩, _, rfl, _, _, rfl, rfl, _, rfl, _, _, rfl, rfl, .inl ⟨_, rfl, _, rfl, _, _, rfl, rfl, by omega, ?_⟩⟩
        obtain ⟨q1, q2⟩ := blend_next (b := b) (c := z) (t := turn + 1) hpr.1
        exact ⟨rfl, _, _, q1, by omega, rfl⟩
      · rintro σ H2 ⟨rfl, b, v5, hb0, hb1, rfl⟩
        refine ⟨_, rfl, _, _, rfl, rfl, .inr ⟨by decide, by decide⟩, _, rfl, _, _, rfl, rfl, ⟨by decide, by decide, by omega⟩, .inl ⟨_, rfl, _, rfl, _, _, rfl, rfl, by omega, _, _, rfl, rfl, ?_⟩⟩
        refine ⟨rfl, _, _, _, _, ?_, rfl⟩
        have q : 0 ≤ (b ^ (5 : Int).toNat).fmod pr := by
          rw [Int.fmod_eq_emod_of_nonneg _ (by omega)]
          exact Int.emod_nonneg _ (by omega)
        have q2 : 0 ≤ x * 2147483647 := Int.mul_nonneg hx (by decide)
        omega
    · rintro σ H2 ⟨rfl, x, v3, v4, v5, hx, rfl⟩
      refine ⟨_, rfl, k x _ hx (by rw [upd_ne pa.symm, upd_same]) fun b o n e => ?_⟩
      rw [upd_ne (ne_of_none e hp0), upd_ne n]
      exact e
theorem sc__law_draw : FnScope ["state", "size_here", "found"] ["state", "size_here"] (defScope (topS 54)) := ⟨rfl, rfl, rfl, by decide +kernel, rfl, by decide +kernel, by decide +kernel⟩
theorem ok_draw {f fB : Addr} {fd fdB : FuncData} (F : Fun K "_law_draw" "_law_draw" (topS 54) f fd) (bint : mg "int" = none) (GB : FnOk P w K mg base CX0 1 fB fdB ["state"] spBlend) (mB : mg "_law_blended" = some (.ref fB)) (kB : PySem.W.keepIn K (.ref fB) = true) (bB : Binds K fdB ["state"] []) :
    FnOk P w K mg base CX0 2 f fd ["state", "size_here"] (spD K mg 2 S__law_draw) := by
  refine F.ok sc__law_draw (fun vs H Q E h => ?_) (fun cdv A outer s H vs Q E hr h => ?_)
  · obtain ⟨q, B, ds, T, post, ex, h1, _⟩ := h
    exact h1
  · obtain ⟨q, B, ds, T, post, ex, h1, b, r, ⟨n, rfl, hn0, hn1, hT, hpost⟩, c1, _, _⟩ := h
    have hu := hu_of hr
    have nd := sc__law_draw.nd
    obtain ⟨v1, v2, rfl, r1, r2⟩ := repL_2 r
    unfold Rep at r1
    obtain ⟨a, g, l, hq, rfl⟩ := r1
    obtain rfl := rep_int r2
    obtain ⟨gs, ls, left, turn, S, ht⟩ := stAt_of hq b.draw
    refine ⟨_, pss_cons (ps_if (pt_cmpR op_eq (pe_dget hu (pv 0) pe_str (fun _ _ => rfl)) pe_int (nomark _))
        (pss_one (ps_dput hu (pv 0) pe_str (pe_ifExp (pt_cmpR (op_neD hr.units) (pe_dget hu (pv 0) pe_str (fun _ _ => rfl)) (pe_lst pa_nil) (nomark _))
          (pe_bm PySem.F.plainAttrs_list PySem.F.slot_list_pop PySem.F.type_list_pop mt_popAt (pe_dget hu (pv 0) pe_str (fun _ _ => rfl)) (pa_cons pe_int pa_nil))
          (by exact pe_call GB hr rfl mB kB bB .nil pass0 (pa_cons (pv 0) pa_nil))) rfl)) pss_nil)
      (pss_cons (ps_set (i := 2) nd rfl (Or.inl rfl) (pe_op op_modN (pe_callTy call_int1 (by rfl) bint PyProof.Rows.boot_int (pa_cons (pe_dget hu (pv 0) pe_str (fun _ _ => rfl)) pa_nil)) (pv 1)))
      (pss_cons (ps_dput hu (pv 0) pe_str (pe_op op_fdivW (pe_dget hu (pv 0) pe_str (fun _ _ => rfl)) (pv 1)) rfl)
      (pss_one (ps_ret (pv 2))))), ?_⟩
    let P1 : Hp → Prop := fun H1 => ∃ (gs1 : List Int) (left1 turn1 : Int), StAt H1 a g l gs1 ls left1 turn1 ∧ turn1 ≤ turn + 1 ∧ (∀ b o, b ≠ a → b ≠ g → H b = some o → H1 b = some o)
    refine ⟨_, rfl, a, _, rfl, get_left S.st, rfl, _, rfl, ?_⟩
    by_cases hz : V.int left = V.int 0
    · rw [decide_eq_true hz]
      refine iteT ⟨_, rfl, a, _, rfl, get_great S.st, by show 0 ≤ sizeLine; decide, fun p hp => ?_⟩
      have pa : p ≠ a := fun z => by rw [z, S.st] at hp; cases hp
      have pg : p ≠ g := fun z => by rw [z, S.gr] at hp; cases hp
      have pl : p ≠ l := fun z => by rw [z, S.ce] at hp; cases hp
      have S1 : StAt (upd H p (.lst [])) a g l gs ls left turn := ⟨S.ag, S.al, S.gl, by rw [upd_ne pa.symm]; exact S.st, by rw [upd_ne pg.symm]; exact S.gr, by rw [upd_ne pl.symm]; exact S.ce, S.g0, S.gn, S.l0, S.ln, S.left0, S.turn0⟩
      have kp : ∀ b o, H b = some o → (upd H p (.lst [])) b = some o := fun b o e => by rw [upd_ne (ne_of_none e hp)]; exact e
      refine ⟨_, _, Dp.lst (SqL.of S1.gr) (dp_ints gs), Dp.lst (SqL.of upd_same) .nil, shaped_ints gs, by decide +kernel, _, rfl, ?_⟩
      rw [eqv_ints]
      cases gs with
      | nil =>
        refine iteF ⟨_, rfl, a, g, l, _, ls, left, turn, rfl, S1, by omega, fun r H' h0 h1 h2 => ?_⟩
        have h1' : H' a = some (.dK (stK g l left (turn + 1))) := h1
        refine ⟨_, rfl, a, _, rfl, put_left h1', ?_⟩
        have key : P1 (upd H' a (.dK (stK g l r (turn + 1)))) := ⟨[], r, turn + 1, ⟨S.ag, S.al, S.gl, upd_same, by rw [upd_ne S.ag.symm]; exact h2 g _ S.ag.symm S1.gr, by rw [upd_ne S.al.symm]; exact h2 l _ S.al.symm S1.ce, S.g0, S.gn, S.l0, S.ln, h0, by have := S.turn0; omega⟩, Int.le_refl _, fun b o n1 n2 e => by rw [upd_ne n1]; exact h2 b o n1 (kp b o e)⟩
        revert key
        generalize (upd H' a (.dK (stK g l r (turn + 1)))) = H1
        intro key
        obtain ⟨gs1, left1, turn1, Z, ht1, kp1⟩ := key
        refine ⟨_, rfl, a, _, rfl, get_left Z.st, .inl ⟨_, rfl, _, rfl, _, _, rfl, rfl, by omega, _, rfl, a, _, rfl, get_left Z.st, _, rfl, _, _, rfl, rfl, divW hn0 hn1, _, rfl, a, _, rfl, put_left Z.st, _, rfl, ?_⟩⟩
        have hm : 0 ≤ left1.fmod n ∧ left1.fmod n < n := by
          rw [Int.fmod_eq_emod_of_nonneg _ (by omega)]
          exact ⟨Int.emod_nonneg _ (by omega), Int.emod_lt_of_pos _ hn0⟩
        have hd : 0 ≤ left1 / n := Int.ediv_nonneg Z.left0 (by omega)
        have Z2 : StAt (upd H1 a (.dK (stK g l (left1 / n) turn1))) a g l gs1 ls (left1 / n) turn1 := ⟨Z.ag, Z.al, Z.gl, upd_same, by rw [upd_ne Z.ag.symm]; exact Z.gr, by rw [upd_ne Z.al.symm]; exact Z.ce, Z.g0, Z.gn, Z.l0, Z.ln, hd, Z.turn0⟩
        refine c1 _ _ B _ (T + 1) (b.moved hq S Z2 (by omega) fun x o n1 n2 e => ?_) int_rep (hpost _ hm.1 hm.2)
        rw [upd_ne n1]
        exact kp1 x o n1 n2 e
      | cons z zs =>
        refine iteT ⟨_, rfl, a, _, rfl, get_great S1.st, .inl ⟨rfl, _, SqL.of S1.gr⟩, _, _, 0, 0, V.int z, rfl, rfl, S1.gr, by decide, by decide, by simp [seqIndex?], rfl, ?_⟩
        have ha2 : (upd (upd H p (.lst [])) g (.lst ((List.map V.int (z :: zs)).eraseIdx 0))) a = some (.dK (stK g l left turn)) := by rw [upd_ne S.ag]; exact S1.st
        refine ⟨_, rfl, a, _, rfl, put_left ha2, ?_⟩
        have key : P1 (upd (upd (upd H p (.lst [])) g (.lst ((List.map V.int (z :: zs)).eraseIdx 0))) a (.dK (stK g l z turn))) := ⟨zs, z, turn, ⟨S.ag, S.al, S.gl, upd_same, by rw [upd_ne S.ag.symm, upd_same]; rfl, by rw [upd_ne S.al.symm, upd_ne S.gl.symm]; exact S1.ce, fun x hx => S.g0 x (List.mem_cons_of_mem _ hx), by have := S.gn; simp only [List.length_cons] at this; omega, S.l0, S.ln, S.g0 z List.mem_cons_self, S.turn0⟩, by omega, fun b o n1 n2 e => by rw [upd_ne n1, upd_ne n2]; exact kp b o e⟩
        revert key
        generalize (upd (upd (upd H p (.lst [])) g (.lst ((List.map V.int (z :: zs)).eraseIdx 0))) a (.dK (stK g l z turn))) = H1
        intro key
        obtain ⟨gs1, left1, turn1, Z, ht1, kp1⟩ := key
        refine ⟨_, rfl, a, _, rfl, get_left Z.st, .inl ⟨_, rfl, _, rfl, _, _, rfl, rfl, by omega, _, rfl, a, _, rfl, get_left Z.st, _, rfl, _, _, rfl, rfl, divW hn0 hn1, _, rfl, a, _, rfl, put_left Z.st, _, rfl, ?_⟩⟩
        have hm : 0 ≤ left1.fmod n ∧ left1.fmod n < n := by
          rw [Int.fmod_eq_emod_of_nonneg _ (by omega)]
          exact ⟨Int.emod_nonneg _ (by omega), Int.emod_lt_of_pos _ hn0⟩
        have hd : 0 ≤ left1 / n := Int.ediv_nonneg Z.left0 (by omega)
        have Z2 : StAt (upd H1 a (.dK (stK g l (left1 / n) turn1))) a g l gs1 ls (left1 / n) turn1 := ⟨Z.ag, Z.al, Z.gl, upd_same, by rw [upd_ne Z.ag.symm]; exact Z.gr, by rw [upd_ne Z.al.symm]; exact Z.ce, Z.g0, Z.gn, Z.l0, Z.ln, hd, Z.turn0⟩
        refine c1 _ _ B _ (T + 1) (b.moved hq S Z2 (by omega) fun x o n1 n2 e => ?_) int_rep (hpost _ hm.1 hm.2)
        rw [upd_ne n1]
        exact kp1 x o n1 n2 e
    · rw [decide_eq_false hz]
      refine iteF ?_
      have key : P1 H := ⟨gs, left, turn, S, by omega, fun b o _ _ e => e⟩
      revert key
      generalize hH : H = H1
      intro key
      subst hH
      obtain ⟨gs1, left1, turn1, Z, ht1, kp1⟩ := key
      refine ⟨_, rfl, a, _, rfl, get_left Z.st, .inl ⟨_, rfl, _, rfl, _, _, rfl, rfl, by omega, _, rfl, a, _, rfl, get_left Z.st, _, rfl, _, _, rfl, rfl, divW hn0 hn1, _, rfl, a, _, rfl, put_left Z.st, _, rfl, ?_⟩⟩
      have hm : 0 ≤ left1.fmod n ∧ left1.fmod n < n := by
        rw [Int.fmod_eq_emod_of_nonneg _ (by omega)]
        exact ⟨Int.emod_nonneg _ (by omega), Int.emod_lt_of_pos _ hn0⟩
      have hd : 0 ≤ left1 / n := Int.ediv_nonneg Z.left0 (by omega)
      have Z2 : StAt (upd H a (.dK (stK g l (left1 / n) turn1))) a g l gs1 ls (left1 / n) turn1 := ⟨Z.ag, Z.al, Z.gl, upd_same, by rw [upd_ne Z.ag.symm]; exact Z.gr, by rw [upd_ne Z.al.symm]; exact Z.ce, Z.g0, Z.gn, Z.l0, Z.ln, hd, Z.turn0⟩
      refine c1 _ _ B _ (T + 1) (b.moved hq S Z2 (by omega) fun x o n1 n2 e => ?_) int_rep (hpost _ hm.1 hm.2)
      rw [upd_ne n1]
      exact kp1 x o n1 n2 e

theorem kn__law_draw (T : Txt K mg) : Kn P w K mg base CX0 2 "_law_draw" ["state", "size_here"] S__law_draw := by
  obtain ⟨f, fd, F, m, kp, b⟩ := T.d__law_blended.ex
  exact T.d__law_draw.kn fun f2 fd2 F2 => ok_draw F2 T.b_int (ok_blended F T.b_int) m kp b
theorem sc__law_begun : FnScope ["script", "great", "cell"] ["script"] (defScope (topS 52)) := ⟨rfl, rfl, rfl, by decide +kernel, rfl, by decide +kernel, by decide +kernel⟩
theorem ok_begun {f : Addr} {fd : FuncData} (F : Fun K "_law_begun" "_law_begun" (topS 52) f fd) (babs : mg "abs" = none) : FnOk P w K mg base CX0 1 f fd ["script"] (spBegun K) := by
  refine F.ok sc__law_begun (fun vs H Q E h => ?_) (fun cdv A outer s H vs Q E hr h => ?_)
  · obtain ⟨a, ns, rfl, _⟩ := h
    rfl
  · obtain ⟨a, ns, rfl, hS, hl, hT, hQ⟩ := h
    have nd := sc__law_begun.nd
    refine ⟨_, pss_cons (g_setLc (W := W0) (vs := [2]) (i := 1) (Ft := dTest (dOp (dCmpI fun i j => decide (j ≤ i)) F_abs F_big)) (Fe := dOp dSub F_abs F_big) rfl nd (i_seq (dv 0)) (blkOk_by (N := ["script", "great", "cell"]) (sc := defScope (topS 52)) (own := [("cell", 2)]) (by decide +kernel)) (fun _ _ _ _ _ => t_name (i := 2) nd)
        (fun _ _ _ _ _ => ts_one (d_cmpT o_ge (d_callB c_abs (by rfl) babs (by decide +kernel) (d_cons (dv 2) d_nil)) (d_op o_pow d_int d_int) (nomark _))) (fun _ _ _ _ _ => d_op o_sub (d_callB c_abs (by rfl) babs (by decide +kernel) (d_cons (dv 2) d_nil)) (d_op o_pow d_int d_int)) (sw_true rfl rfl rfl (by decide +kernel))).ps
      (pss_one (ps_ret (pe_disp (pps_cons pe_str (pe_var (i := 1) rfl (Or.inl rfl) (by decide) (by decide)) (pps_cons pe_str (d_lc (W := W0) (vs := [2]) (T := tgN 2) (Fe := F_abs) rfl nd (i_seq (dv 0)) (blkOk_by (N := ["script", "great", "cell"]) (sc := defScope (topS 52)) (own := [("cell", 2)]) (by decide +kernel)) (fun _ _ _ _ _ => t_name (i := 2) nd) (fun _ _ _ _ _ => ts_nil)
        (fun _ _ _ _ _ => d_callB c_abs (by rfl) babs (by decide +kernel) (d_cons (dv 2) d_nil))).pe (pps_cons pe_str pe_int (pps_cons pe_str pe_int pps_nil)))) rfl rfl (by simp) (by decide)))), ?_⟩
    obtain ⟨B, le, hB, nt, only⟩ := scr_part hS
    have b0 := bs_none (K := K) (mg := mg) (T := 0) le nt hT
    have at0 : At ⟨K, mg, ⟨none⟩⟩ [] H B (L2.start ["script", "great", "cell"] [.ref a]) H (startD 3 [.scr ns] 0) B := start_at b0 (by unfold RepL; exact ⟨.ref a, [], rfl, by unfold Rep; exact ⟨a, rfl, hB⟩, by unfold RepL; rfl⟩)
    refine ⟨⟨none⟩, [], H, B, startD 3 [.scr ns] 0, B, { nx := fun s => ∃ gs : List Int, s = ⟨[some (.fz (.scr ns)), some (.ow (.lst (gs.map D.int))), none], 0⟩ ∧ (∀ x ∈ gs, 0 ≤ x) ∧ gs.length ≤ 63, rt := fun _ _ => False, bk := fun _ => False, ct := fun _ => False, ex := fun _ _ _ => False }, at0, m_great ns hl 0 _ _ (fun gs h0 hn => ⟨gs, rfl, h0, hn⟩), ⟨fun σ H1 s1 B1 t1 l1 n1 => ?_, fun _ _ _ _ _ _ z => z.elim, fun _ _ _ _ _ _ z => z.elim, fun _ _ _ _ _ _ _ _ _ z => z.elim, fun _ _ _ _ _ _ _ _ _ _ _ z => z.elim, fun _ _ _ _ _ _ _ _ _ _ _ z => z.elim⟩⟩
    obtain ⟨gs, rfl, g0, gn⟩ := n1
    obtain ⟨g, og, hv, fg, _, _, _⟩ := t1.ow 1 _ rfl
    intro p hp
    refine ⟨.ref g, hv, ?_⟩
    have t2 := t1.holdNew (o := .dK []) hp (fun ps z => by cases z)
    refine ⟨⟨none⟩, _, H, B, _, B1, fun d s => s = ⟨[some (.fz (.scr ns)), some (.ow (.lst (gs.map D.int))), none], 0⟩ ∧ ∃ ls : List Int, d = .lst (ls.map D.int) ∧ (∀ x ∈ ls, 0 ≤ x) ∧ ls.length ≤ 63, fun _ _ _ => False, t2, m_cells ns hl _ _ _ _ (fun ls h0 hn => ⟨rfl, ls, rfl, h0, hn⟩), fun l o H2 d s2 B2 t3 l3 hl2 ro pp => ?_, fun _ _ _ _ _ _ _ _ _ _ z => z.elim⟩
    obtain ⟨rfl, ls, rfl, k0, kn⟩ := pp
    obtain ⟨ys, rfl, hy⟩ := ro
    obtain ⟨g', og, hv', _, _, hg2, zs, rfl, hz⟩ := t3.ow 1 _ rfl
    rw [hv] at hv'
    cases hv'
    cases repL_ints_eq hy
    cases repL_ints_eq hz
    obtain ⟨hp2, fp, _, _, _⟩ := t3.hold (p, .dK []) List.mem_cons_self
    have lg : g ≠ l := ne_of_none hg2 hl2
    have lp : p ≠ l := ne_of_none hp2 hl2
    have pg : p ≠ g := fun z => by
      rw [z, hg2] at hp2
      cases hp2
    refine ⟨(by rw [upd_ne lp]; exact hp2), stK g l 0 0, rfl, (by show 4 ≤ 15; decide), ?_⟩
    rw [st_merge]
    have bF := t3.bs.own (o := .lst (ls.map V.int)) hl2
    have keep : ∀ b o, H b = some o → (∀ ps, o ≠ .tbl ps) → upd (upd H2 l (.lst (ls.map V.int))) p (.dK (stK g l 0 0)) b = some o := fun b o e nt => by
      have q := bF.frame b o e (by simp [Ct.drs]) nt
      rw [upd_ne (fp.ne e nt)]
      exact q
    refine hQ p g l gs ls _ ⟨pg, lp, lg, upd_same, ?_, ?_, g0, gn, k0, kn, Int.le_refl 0, Int.le_refl 0⟩ fp fg (t3.bs.fresh hl2) keep ?_
    · rw [upd_ne pg.symm, upd_ne lg]; exact hg2
    · rw [upd_ne lp.symm, upd_same]
    · intro x hx
      obtain ⟨ps, e1, e2, e3⟩ := bF.tabs x hx
      have hp3 : upd H2 l (.lst (ls.map V.int)) p = some (.dK []) := by rw [upd_ne lp]; exact hp2
      have n1 : x.1 ≠ p := fun z => by rw [z, hp3] at e1; cases e1
      refine ⟨ps, by rw [upd_ne n1]; exact e1, e2, fun pos cv hc => ?_⟩
      obtain ⟨cc, q1, q2⟩ := e3 pos cv hc
      have n2 : cc ≠ p := fun z => by
        rw [z, hp3] at q2
        unfold LamX.CodeO at q2
        cases q2
      exact ⟨cc, q1, by rw [upd_ne n2]; exact q2⟩

end
section
variable {P : Program} {w : World} {K : PySem.W.Frag} {mg : Str → Option Value} {base : Heap}
theorem sc__law_caught : FnScope ["work", "caught", "error"] ["work"] (defScope (topS 57)) := ⟨rfl, rfl, rfl, by decide +kernel, rfl, by decide +kernel, by decide +kernel⟩
theorem kn_caught (T : Txt K mg) : KnC K mg (He.ga K "PullError") := by
  obtain ⟨g, fd, F, m, kp, b⟩ := T.d__law_caught.ex
  exact ⟨g, topS 57, fd, F, m, kp, b, sc__law_caught, Or.inl rfl, fun X cdv q e => caught_gives rfl rfl rfl (by rw [e]; exact T.gP)⟩
theorem sc_House_eq : FnScope ["self", "other"] ["self", "other"] (defScope (inClass (topS 22) 1)) := ⟨rfl, rfl, rfl, by decide +kernel, rfl, by decide +kernel, by decide +kernel⟩
theorem b_House_eq (T : Txt K mg) {f : Addr} {cdv : Value} {A : Around} {outer : List Env} {s : Shared} {H : Hp} {E : XK} (hr : Room 0 (A.deeper (PyProof.Rows.envOfC "House.__eq__" (defScope (inClass (topS 22) 1)) s.heap.objs.size f cdv))) :
    DPSs (cxOf CX0 P w K mg base ["self", "other"] "House.__eq__" (defScope (inClass (topS 22) 1)) f cdv A outer s H E).nox W0 (defBody (inClass (topS 22) 1)) G_House_eq0 := by
  exact (g_one (g_ret (d_and (d_isO T.b_isinstance T.i_House (dv 1)) (d_and (d_cmp (o_eq hr.units) (d_fld T.f_rooms (dv 0)) (d_fld T.f_rooms (dv 1)) (nomark _)) (d_one (d_cmp (o_eq hr.units) (d_fld T.f_doors (dv 0)) (d_fld T.f_doors (dv 1)) (nomark _)))))))
theorem kq_House (T : Txt K mg) : KnEq P w K mg base 1 "House" S_House_eq0 := T.q_House P w base 1 S_House_eq0 fun f fd F => fn_ok F sc_House_eq (fun cdv A outer s H E hr => b_House_eq T hr) fun ds T post ex hl hS => m_House_eq0 ds T post (fun _ _ _ => False) hl hS
theorem sc_is_number : FnScope ["thing"] ["thing"] (defScope (topS 1)) := ⟨rfl, rfl, rfl, by decide +kernel, rfl, by decide +kernel, by decide +kernel⟩
theorem b_is_number (T : Txt K mg)  {f : Addr} {cdv : Value} {A : Around} {outer : List Env} {s : Shared} {H : Hp} {E : XK} (hr : Room 0 (A.deeper (PyProof.Rows.envOfC "is_number" (defScope (topS 1)) s.heap.objs.size f cdv))) :
    DPSs (cxOf CX0 P w K mg base ["thing"] "is_number" (defScope (topS 1)) f cdv A outer s H E).nox W0 (defBody (topS 1)) G_is_number := by
  exact (g_one (g_ret (d_and (d_isTy T.b_isinstance T.b_int (by decide +kernel) (dv 0)) (d_one (d_not (d_isTy T.b_isinstance T.b_bool (by decide +kernel) (dv 0)))))))
theorem kn_is_number (T : Txt K mg) : Kn P w K mg base CX0 1 "is_number" ["thing"] S_is_number := T.d_is_number.kn fun f fd F => fn_ok F sc_is_number (fun cdv A outer s H E hr => b_is_number T  hr) fun ds T post ex hl hS => m_is_number ds T post (fun _ _ _ => False) hl hS
theorem sc_is_number_within : FnScope ["thing", "low", "high"] ["thing", "low", "high"] (defScope (topS 2)) := ⟨rfl, rfl, rfl, by decide +kernel, rfl, by decide +kernel, by decide +kernel⟩
theorem b_is_number_within (T : Txt K mg) (k_is_number : Kn P w K mg base CX0 1 "is_number" ["thing"] S_is_number) {f : Addr} {cdv : Value} {A : Around} {outer : List Env} {s : Shared} {H : Hp} {E : XK} (hr : Room 1 (A.deeper (PyProof.Rows.envOfC "is_number_within" (defScope (topS 2)) s.heap.objs.size f cdv))) :
    DPSs (cxOf CX0 P w K mg base ["thing", "low", "high"] "is_number_within" (defScope (topS 2)) f cdv A outer s H E).nox W0 (defBody (topS 2)) G_is_number_within := by
  exact (g_one (g_ret (d_and (d_call k_is_number (hr.mono (by decide)) (d_cons (dv 0) d_nil)) (d_one (d_chain o_le o_le (dv 1) (dv 0) (dv 2))))))
theorem kn_is_number_within (T : Txt K mg) : Kn P w K mg base CX0 2 "is_number_within" ["thing", "low", "high"] S_is_number_within := T.d_is_number_within.kn fun f fd F => fn_ok F sc_is_number_within (fun cdv A outer s H E hr => b_is_number_within T (kn_is_number T) hr) fun ds T post ex hl hS => m_is_number_within ds T post (fun _ _ _ => False) hl hS
theorem sc_is_tuple_of : FnScope ["thing", "many"] ["thing", "many"] (defScope (topS 3)) := ⟨rfl, rfl, rfl, by decide +kernel, rfl, by decide +kernel, by decide +kernel⟩
theorem b_is_tuple_of (T : Txt K mg)  {f : Addr} {cdv : Value} {A : Around} {outer : List Env} {s : Shared} {H : Hp} {E : XK} (hr : Room 0 (A.deeper (PyProof.Rows.envOfC "is_tuple_of" (defScope (topS 3)) s.heap.objs.size f cdv))) :
    DPSs (cxOf CX0 P w K mg base ["thing", "many"] "is_tuple_of" (defScope (topS 3)) f cdv A outer s H E).nox W0 (defBody (topS 3)) G_is_tuple_of := by
  exact (g_one (g_ret (d_and (d_isTy T.b_isinstance T.b_tuple (by decide +kernel) (dv 0)) (d_one (d_cmp (o_eq hr.units) (d_callB c_len (by rfl) T.b_len (by decide +kernel) (d_cons (dv 0) d_nil)) (dv 1) (nomark _))))))
theorem kn_is_tuple_of (T : Txt K mg) : Kn P w K mg base CX0 1 "is_tuple_of" ["thing", "many"] S_is_tuple_of := T.d_is_tuple_of.kn fun f fd F => fn_ok F sc_is_tuple_of (fun cdv A outer s H E hr => b_is_tuple_of T  hr) fun ds T post ex hl hS => m_is_tuple_of ds T post (fun _ _ _ => False) hl hS
theorem sc_is_list : FnScope ["thing"] ["thing"] (defScope (topS 4)) := ⟨rfl, rfl, rfl, by decide +kernel, rfl, by decide +kernel, by decide +kernel⟩
theorem b_is_list (T : Txt K mg)  {f : Addr} {cdv : Value} {A : Around} {outer : List Env} {s : Shared} {H : Hp} {E : XK} (hr : Room 0 (A.deeper (PyProof.Rows.envOfC "is_list" (defScope (topS 4)) s.heap.objs.size f cdv))) :
    DPSs (cxOf CX0 P w K mg base ["thing"] "is_list" (defScope (topS 4)) f cdv A outer s H E).nox W0 (defBody (topS 4)) G_is_listC := by
  exact (g_one (g_ret (d_isTy2 T.b_isinstance T.b_list T.b_tuple (by decide +kernel) (by decide +kernel) (dv 0))))
theorem kn_is_list (T : Txt K mg) : Kn P w K mg base CX0 1 "is_list" ["thing"] S_is_listC := T.d_is_list.kn fun f fd F => fn_ok F sc_is_list (fun cdv A outer s H E hr => b_is_list T  hr) fun ds T post ex hl hS => m_is_listC ds T post (fun _ _ _ => False) hl hS
theorem sc_can_be_folded : FnScope ["door", "near", "first", "far", "second"] ["door"] (defScope (topS 15)) := ⟨rfl, rfl, rfl, by decide +kernel, rfl, by decide +kernel, by decide +kernel⟩
theorem b_can_be_folded (T : Txt K mg)  {f : Addr} {cdv : Value} {A : Around} {outer : List Env} {s : Shared} {H : Hp} {E : XK} (hr : Room 0 (A.deeper (PyProof.Rows.envOfC "can_be_folded" (defScope (topS 15)) s.heap.objs.size f cdv))) :
    DPSs (cxOf CX0 P w K mg base ["door", "near", "first", "far", "second"] "can_be_folded" (defScope (topS 15)) f cdv A outer s H E).nox W0 (defBody (topS 15)) G_can_be_foldedC := by
  exact (g_cons (g_unp (vs := [1, 2, 3, 4]) (t_tup rfl (t_cons (t_name sc_can_be_folded.nd) (t_cons (t_name sc_can_be_folded.nd) (t_cons (t_name sc_can_be_folded.nd) (t_cons (t_name sc_can_be_folded.nd) t_nil))))) (dv 0))
      (g_one (g_ret (d_and (d_cmp (o_ne hr.units) (dv 1) (dv 3) (nomark _)) (d_one (d_or (d_cmp (o_eq hr.units) (d_callB c_abs (by rfl) T.b_abs (by decide +kernel) (d_cons (dv 2) d_nil)) d_int (nomark _)) (d_one (d_cmp (o_eq hr.units) (d_callB c_abs (by rfl) T.b_abs (by decide +kernel) (d_cons (dv 4) d_nil)) d_int (nomark _)))))))))
theorem kn_can_be_folded (T : Txt K mg) : Kn P w K mg base CX0 1 "can_be_folded" ["door"] S_can_be_foldedC := T.d_can_be_folded.kn fun f fd F => fn_ok F sc_can_be_folded (fun cdv A outer s H E hr => b_can_be_folded T  hr) fun ds T post ex hl hS => m_can_be_foldedC ds T post (fun _ _ _ => False) hl hS
theorem sc_fold_of : FnScope ["door", "near", "first", "far", "second"] ["door"] (defScope (topS 16)) := ⟨rfl, rfl, rfl, by decide +kernel, rfl, by decide +kernel, by decide +kernel⟩
theorem b_fold_of (T : Txt K mg)  {f : Addr} {cdv : Value} {A : Around} {outer : List Env} {s : Shared} {H : Hp} {E : XK} (hr : Room 0 (A.deeper (PyProof.Rows.envOfC "fold_of" (defScope (topS 16)) s.heap.objs.size f cdv))) :
    DPSs (cxOf CX0 P w K mg base ["door", "near", "first", "far", "second"] "fold_of" (defScope (topS 16)) f cdv A outer s H E).nox W0 (defBody (topS 16)) G_fold_ofC := by
  exact (g_cons (g_unp (vs := [1, 2, 3, 4]) (t_tup rfl (t_cons (t_name sc_fold_of.nd) (t_cons (t_name sc_fold_of.nd) (t_cons (t_name sc_fold_of.nd) (t_cons (t_name sc_fold_of.nd) t_nil))))) (dv 0))
      (g_cons (g_if (d_cmpT (o_eq hr.units) (d_callB c_abs (by rfl) T.b_abs (by decide +kernel) (d_cons (dv 4) d_nil)) d_int (nomark _)) (g_one (g_ret (d_tup (d_cons (dv 3) (d_cons (dv 1) (d_cons (d_op o_mul (dv 2) (dv 4)) d_nil)))))) g_nil)
      (g_one (g_ret (d_tup (d_cons (dv 1) (d_cons (dv 3) (d_cons (d_op o_mul (dv 2) (dv 4)) d_nil))))))))
theorem kn_fold_of (T : Txt K mg) : Kn P w K mg base CX0 1 "fold_of" ["door"] S_fold_ofC := T.d_fold_of.kn fun f fd F => fn_ok F sc_fold_of (fun cdv A outer s H E hr => b_fold_of T  hr) fun ds T post ex hl hS => m_fold_ofC ds T post (fun _ _ _ => False) hl hS
theorem sc_doors_behind : FnScope ["doors", "at", "gone", "kept", "times", "left", "other", "near", "first", "far", "second"] ["doors", "at"] (defScope (topS 17)) := ⟨rfl, rfl, rfl, by decide +kernel, rfl, by decide +kernel, by decide +kernel⟩
theorem b_doors_behind (T : Txt K mg) (k_fold_of : Kn P w K mg base CX0 1 "fold_of" ["door"] S_fold_ofC) {f : Addr} {cdv : Value} {A : Around} {outer : List Env} {s : Shared} {H : Hp} {E : XK} (hr : Room 1 (A.deeper (PyProof.Rows.envOfC "doors_behind" (defScope (topS 17)) s.heap.objs.size f cdv))) :
    DPSs (cxOf CX0 P w K mg base ["doors", "at", "gone", "kept", "times", "left", "other", "near", "first", "far", "second"] "doors_behind" (defScope (topS 17)) f cdv A outer s H E).nox W0 (defBody (topS 17)) G_doors_behindC := by
  exact (g_cons (g_unp (vs := [2, 3, 4]) (t_tup rfl (t_cons (t_name sc_doors_behind.nd) (t_cons (t_name sc_doors_behind.nd) (t_cons (t_name sc_doors_behind.nd) t_nil)))) (d_call k_fold_of (hr.mono (by decide)) (d_cons (d_ixV 0 (dv 1)) d_nil)))
      (g_cons (g_setO (i := 5) sc_doors_behind.nd (d_lst d_nil))
      (g_cons (g_for (vs := [6, 7, 8, 9, 10]) PassesOwn.never rfl (i_enumT T.b_enumerate (dv 0)) (t_tup rfl (t_cons (t_name sc_doors_behind.nd) (t_cons (t_tup rfl (t_cons (t_name sc_doors_behind.nd) (t_cons (t_name sc_doors_behind.nd) (t_cons (t_name sc_doors_behind.nd) (t_cons (t_name sc_doors_behind.nd) t_nil))))) t_nil))) (g_cons (g_if (d_cmpT (o_eq hr.units) (dv 6) (dv 1) (nomark _)) (g_one g_cont) g_nil)
      (g_cons (g_if (d_cmpT (o_eq hr.units) (dv 7) (dv 2) (nomark _)) (g_one (g_par (i := 7) (j := 8) rfl sc_doors_behind.nd (d_cons (dv 3) (d_cons (d_op o_mul (dv 8) (dv 4)) d_nil)))) g_nil)
      (g_cons (g_if (d_cmpT (o_eq hr.units) (dv 9) (dv 2) (nomark _)) (g_one (g_par (i := 9) (j := 10) rfl sc_doors_behind.nd (d_cons (dv 3) (d_cons (d_op o_mul (dv 10) (dv 4)) d_nil)))) g_nil)
      (g_one (g_app 5 (d_tup (d_cons (dv 7) (d_cons (dv 8) (d_cons (dv 9) (d_cons (dv 10) d_nil)))))))))))
      (g_one (g_ret (dv 5))))))
theorem kn_doors_behind (T : Txt K mg) : Kn P w K mg base CX0 2 "doors_behind" ["doors", "at"] S_doors_behindC := T.d_doors_behind.kn fun f fd F => fn_ok F sc_doors_behind (fun cdv A outer s H E hr => b_doors_behind T (kn_fold_of T) hr) fun ds T post ex hl hS => m_doors_behindC ds T post (fun _ _ _ => False) hl hS
theorem sc_is_room_count : FnScope ["thing"] ["thing"] (defScope (topS 23)) := ⟨rfl, rfl, rfl, by decide +kernel, rfl, by decide +kernel, by decide +kernel⟩
theorem b_is_room_count (T : Txt K mg) (k_is_number_within : Kn P w K mg base CX0 2 "is_number_within" ["thing", "low", "high"] S_is_number_within) {f : Addr} {cdv : Value} {A : Around} {outer : List Env} {s : Shared} {H : Hp} {E : XK} (hr : Room 2 (A.deeper (PyProof.Rows.envOfC "is_room_count" (defScope (topS 23)) s.heap.objs.size f cdv))) :
    DPSs (cxOf CX0 P w K mg base ["thing"] "is_room_count" (defScope (topS 23)) f cdv A outer s H E).nox W0 (defBody (topS 23)) G_is_room_count := by
  exact (g_one (g_ret (d_call k_is_number_within (hr.mono (by decide)) (d_cons (dv 0) (d_cons d_int (d_cons (d_gint T.c_MOST_ROOMS) d_nil))))))
theorem kn_is_room_count (T : Txt K mg) : Kn P w K mg base CX0 3 "is_room_count" ["thing"] S_is_room_count := T.d_is_room_count.kn fun f fd F => fn_ok F sc_is_room_count (fun cdv A outer s H E hr => b_is_room_count T (kn_is_number_within T) hr) fun ds T post ex hl hS => m_is_room_count ds T post (fun _ _ _ => False) hl hS
theorem sc_is_door_number_houses : FnScope ["thing"] ["thing"] (defScope (topS 25)) := ⟨rfl, rfl, rfl, by decide +kernel, rfl, by decide +kernel, by decide +kernel⟩
theorem b_is_door_number_houses (T : Txt K mg) (k_is_number_within : Kn P w K mg base CX0 2 "is_number_within" ["thing", "low", "high"] S_is_number_within) {f : Addr} {cdv : Value} {A : Around} {outer : List Env} {s : Shared} {H : Hp} {E : XK} (hr : Room 2 (A.deeper (PyProof.Rows.envOfC "_is_door_number" (defScope (topS 25)) s.heap.objs.size f cdv))) :
    DPSs (cxOf CX0 P w K mg base ["thing"] "_is_door_number" (defScope (topS 25)) f cdv A outer s H E).nox W0 (defBody (topS 25)) G__is_door_number := by
  exact (g_one (g_ret (d_and (d_call k_is_number_within (hr.mono (by decide)) (d_cons (dv 0) (d_cons (d_neg (d_gint T.c_GREATEST)) (d_cons (d_gint T.c_GREATEST) d_nil)))) (d_one (d_cmp (o_ne hr.units) (dv 0) d_int (nomark _))))))
theorem kn_is_door_number_houses (T : Txt K mg) : Kn P w K mg base CX0 3 "is_door_number_houses" ["thing"] S__is_door_number := T.d_is_door_number_houses.kn fun f fd F => fn_ok F sc_is_door_number_houses (fun cdv A outer s H E hr => b_is_door_number_houses T (kn_is_number_within T) hr) fun ds T post ex hl hS => m__is_door_number ds T post (fun _ _ _ => False) hl hS
theorem sc__least_apart : FnScope ["rooms", "doors", "reached", "_", "near", "far", "room"] ["rooms", "doors"] (defScope (topS 28)) := ⟨rfl, rfl, rfl, by decide +kernel, rfl, by decide +kernel, by decide +kernel⟩
theorem b__least_apart (T : Txt K mg)  {f : Addr} {cdv : Value} {A : Around} {outer : List Env} {s : Shared} {H : Hp} {E : XK} (hr : Room 0 (A.deeper (PyProof.Rows.envOfC "_least_apart" (defScope (topS 28)) s.heap.objs.size f cdv))) :
    DPSs (cxOf CX0 P w K mg base ["rooms", "doors", "reached", "_", "near", "far", "room"] "_least_apart" (defScope (topS 28)) f cdv A outer s H E).nox W0 (defBody (topS 28)) G__least_apart := by
  exact (g_cons (g_setLc (i := 2) rfl sc__least_apart.nd (i_range1 T.b_range (dv 0)) (blkOk_by (N := ["rooms", "doors", "reached", "_", "near", "far", "room"]) (sc := defScope (topS 28)) (own := [("room", 6)]) (by decide +kernel)) (fun _ _ _ _ _ => (t_name sc__least_apart.nd)) (fun _ _ _ _ _ => ts_nil) (fun _ _ _ _ _ => (d_cmp (o_eq hr.units) (dv 6) d_int (nomark _))) (sw_true rfl rfl rfl (by decide +kernel)))
      (g_cons (g_for (vs := [3]) PassesOwn.never rfl (i_range1 T.b_range (dv 0)) (t_name sc__least_apart.nd) (g_one (g_for (vs := [4, 3, 5, 3]) PassesOwn.never rfl (i_seq (dv 1)) (t_tup rfl (t_cons (t_name sc__least_apart.nd) (t_cons (t_name sc__least_apart.nd) (t_cons (t_name sc__least_apart.nd) (t_cons (t_name sc__least_apart.nd) t_nil))))) (g_one (g_if (DPW.pt (d_tor (d_test (d_ixV 2 (dv 4))) (d_tor1 (d_test (d_ixV 2 (dv 5)))))) (g_one (g_put2 2 2 d_bl (dv 4) (dv 5))) g_nil)))))
      (g_cons (g_if (d_test (d_callB (c_all (cr_all rfl)) (by rfl) T.b_all (by decide +kernel) (d_cons (dv 2) d_nil))) (g_one (g_ret d_non)) g_nil)
      (g_one (g_ret (d_index 2 d_bl))))))
theorem kn__least_apart (T : Txt K mg) : Kn P w K mg base CX0 1 "_least_apart" ["rooms", "doors"] S__least_apart := T.d__least_apart.kn fun f fd F => fn_ok F sc__least_apart (fun cdv A outer s H E hr => b__least_apart T  hr) fun ds T post ex hl hS => m__least_apart ds T post (fun _ _ _ => False) hl hS
theorem sc_need_house : FnScope ["house"] ["house"] (defScope (topS 29)) := ⟨rfl, rfl, rfl, by decide +kernel, rfl, by decide +kernel, by decide +kernel⟩
theorem b_need_house (T : Txt K mg)  {f : Addr} {cdv : Value} {A : Around} {outer : List Env} {s : Shared} {H : Hp} {E : XK} (hr : Room 0 (A.deeper (PyProof.Rows.envOfC "need_house" (defScope (topS 29)) s.heap.objs.size f cdv))) :
    DPSs (cxOf (L2.CX P w) P w K mg base ["house"] "need_house" (defScope (topS 29)) f cdv A outer s H E) (wE E) (defBody (topS 29)) G_need_house := by
  have tk : Takes (cxOf (L2.CX P w) P w K mg base ["house"] "need_house" (defScope (topS 29)) f cdv A outer s H E) (wE E) := takes_of rfl rfl rfl rfl
  exact (g_one (g_if (d_tnot (d_test (d_isO T.b_isinstance T.i_House (dv 0)))) (g_one (g_raise rfl tk T.e_BadHouse)) g_nil))
theorem kn_need_house (T : Txt K mg) : Kn P w K mg base (L2.CX P w) 1 "need_house" ["house"] S_need_house := T.d_need_house.kn fun f fd F => fn_okX F sc_need_house (fun cdv A outer s H E hr => b_need_house T  hr) fun ds T post ex hl hS => m_need_house ds T post ex hl hS
theorem sc_is_room : FnScope ["house", "thing"] ["house", "thing"] (defScope (topS 30)) := ⟨rfl, rfl, rfl, by decide +kernel, rfl, by decide +kernel, by decide +kernel⟩
theorem b_is_room (T : Txt K mg) (k_is_number_within : Kn P w K mg base CX0 2 "is_number_within" ["thing", "low", "high"] S_is_number_within) {f : Addr} {cdv : Value} {A : Around} {outer : List Env} {s : Shared} {H : Hp} {E : XK} (hr : Room 2 (A.deeper (PyProof.Rows.envOfC "is_room" (defScope (topS 30)) s.heap.objs.size f cdv))) :
    DPSs (cxOf CX0 P w K mg base ["house", "thing"] "is_room" (defScope (topS 30)) f cdv A outer s H E).nox W0 (defBody (topS 30)) G_is_room := by
  exact (g_one (g_ret (d_call k_is_number_within (hr.mono (by decide)) (d_cons (dv 1) (d_cons d_int (d_cons (d_op o_sub (d_fld T.f_rooms (dv 0)) d_int) d_nil))))))
theorem kn_is_room (T : Txt K mg) : Kn P w K mg base CX0 3 "is_room" ["house", "thing"] S_is_room := T.d_is_room.kn fun f fd F => fn_ok F sc_is_room (fun cdv A outer s H E hr => b_is_room T (kn_is_number_within T) hr) fun ds T post ex hl hS => m_is_room ds T post (fun _ _ _ => False) hl hS
theorem sc_need_room : FnScope ["house", "room"] ["house", "room"] (defScope (topS 31)) := ⟨rfl, rfl, rfl, by decide +kernel, rfl, by decide +kernel, by decide +kernel⟩
theorem b_need_room (T : Txt K mg) (k_is_room : Kn P w K mg base CX0 3 "is_room" ["house", "thing"] S_is_room) {f : Addr} {cdv : Value} {A : Around} {outer : List Env} {s : Shared} {H : Hp} {E : XK} (hr : Room 3 (A.deeper (PyProof.Rows.envOfC "need_room" (defScope (topS 31)) s.heap.objs.size f cdv))) :
    DPSs (cxOf (L2.CX P w) P w K mg base ["house", "room"] "need_room" (defScope (topS 31)) f cdv A outer s H E) (wE E) (defBody (topS 31)) G_need_room := by
  have tk : Takes (cxOf (L2.CX P w) P w K mg base ["house", "room"] "need_room" (defScope (topS 31)) f cdv A outer s H E) (wE E) := takes_of rfl rfl rfl rfl
  exact (g_one (g_if (d_tnot (d_test (d_call k_is_room (hr.mono (by decide)) (d_cons (dv 0) (d_cons (dv 1) d_nil))))) (g_one (g_raise rfl tk T.e_BadRoom)) g_nil))
theorem kn_need_room (T : Txt K mg) : Kn P w K mg base (L2.CX P w) 4 "need_room" ["house", "room"] S_need_room := T.d_need_room.kn fun f fd F => fn_okX F sc_need_room (fun cdv A outer s H E hr => b_need_room T (kn_is_room T) hr) fun ds T post ex hl hS => m_need_room ds T post ex hl hS
theorem sc_is_pass : FnScope ["house", "thing", "door", "side"] ["house", "thing"] (defScope (topS 32)) := ⟨rfl, rfl, rfl, by decide +kernel, rfl, by decide +kernel, by decide +kernel⟩
theorem b_is_pass (T : Txt K mg) (k_is_tuple_of : Kn P w K mg base CX0 1 "is_tuple_of" ["thing", "many"] S_is_tuple_of) (k_is_number_within : Kn P w K mg base CX0 2 "is_number_within" ["thing", "low", "high"] S_is_number_within) {f : Addr} {cdv : Value} {A : Around} {outer : List Env} {s : Shared} {H : Hp} {E : XK} (hr : Room 2 (A.deeper (PyProof.Rows.envOfC "is_pass" (defScope (topS 32)) s.heap.objs.size f cdv))) :
    DPSs (cxOf CX0 P w K mg base ["house", "thing", "door", "side"] "is_pass" (defScope (topS 32)) f cdv A outer s H E).nox W0 (defBody (topS 32)) G_is_pass := by
  exact (g_cons (g_if (d_tnot (d_test (d_call k_is_tuple_of (hr.mono (by decide)) (d_cons (dv 1) (d_cons d_int d_nil))))) (g_one (g_ret d_bl)) g_nil)
      (g_cons (g_unp (vs := [2, 3]) (t_tup rfl (t_cons (t_name sc_is_pass.nd) (t_cons (t_name sc_is_pass.nd) t_nil))) (dv 1))
      (g_one (g_ret (d_and (d_call k_is_number_within (hr.mono (by decide)) (d_cons (dv 2) (d_cons d_int (d_cons (d_op o_sub (d_callB c_len (by rfl) T.b_len (by decide +kernel) (d_cons (d_fld T.f_doors (dv 0)) d_nil)) d_int) d_nil)))) (d_one (d_call k_is_number_within (hr.mono (by decide)) (d_cons (dv 3) (d_cons d_int (d_cons d_int d_nil))))))))))
theorem kn_is_pass (T : Txt K mg) : Kn P w K mg base CX0 3 "is_pass" ["house", "thing"] S_is_pass := T.d_is_pass.kn fun f fd F => fn_ok F sc_is_pass (fun cdv A outer s H E hr => b_is_pass T (kn_is_tuple_of T) (kn_is_number_within T) hr) fun ds T post ex hl hS => m_is_pass ds T post (fun _ _ _ => False) hl hS
theorem sc_ends_of : FnScope ["house", "step", "door", "side", "near", "first", "far", "second"] ["house", "step"] (defScope (topS 33)) := ⟨rfl, rfl, rfl, by decide +kernel, rfl, by decide +kernel, by decide +kernel⟩
theorem b_ends_of (T : Txt K mg)  {f : Addr} {cdv : Value} {A : Around} {outer : List Env} {s : Shared} {H : Hp} {E : XK} (hr : Room 0 (A.deeper (PyProof.Rows.envOfC "ends_of" (defScope (topS 33)) s.heap.objs.size f cdv))) :
    DPSs (cxOf CX0 P w K mg base ["house", "step", "door", "side", "near", "first", "far", "second"] "ends_of" (defScope (topS 33)) f cdv A outer s H E).nox W0 (defBody (topS 33)) G_ends_of := by
  exact (g_cons (g_unp (vs := [2, 3]) (t_tup rfl (t_cons (t_name sc_ends_of.nd) (t_cons (t_name sc_ends_of.nd) t_nil))) (dv 1))
      (g_cons (g_unp (vs := [4, 5, 6, 7]) (t_tup rfl (t_cons (t_name sc_ends_of.nd) (t_cons (t_name sc_ends_of.nd) (t_cons (t_name sc_ends_of.nd) (t_cons (t_name sc_ends_of.nd) t_nil))))) (d_ix (d_fld T.f_doors (dv 0)) (dv 2)))
      (g_cons (g_if (d_cmpT (o_eq hr.units) (dv 3) d_int (nomark _)) (g_one (g_ret (d_tup (d_cons (dv 4) (d_cons (dv 5) (d_cons (dv 6) (d_cons (dv 7) d_nil))))))) g_nil)
      (g_one (g_ret (d_tup (d_cons (dv 6) (d_cons (dv 7) (d_cons (dv 4) (d_cons (dv 5) d_nil))))))))))
theorem kn_ends_of (T : Txt K mg) : Kn P w K mg base CX0 1 "ends_of" ["house", "step"] S_ends_of := T.d_ends_of.kn fun f fd F => fn_ok F sc_ends_of (fun cdv A outer s H E hr => b_ends_of T  hr) fun ds T post ex hl hS => m_ends_of ds T post (fun _ _ _ => False) hl hS
theorem sc_is_door_number_changing : FnScope ["house", "thing"] ["house", "thing"] (defScope (topS 43)) := ⟨rfl, rfl, rfl, by decide +kernel, rfl, by decide +kernel, by decide +kernel⟩
theorem b_is_door_number_changing (T : Txt K mg) (k_is_number_within : Kn P w K mg base CX0 2 "is_number_within" ["thing", "low", "high"] S_is_number_within) {f : Addr} {cdv : Value} {A : Around} {outer : List Env} {s : Shared} {H : Hp} {E : XK} (hr : Room 2 (A.deeper (PyProof.Rows.envOfC "_is_door_number" (defScope (topS 43)) s.heap.objs.size f cdv))) :
    DPSs (cxOf CX0 P w K mg base ["house", "thing"] "_is_door_number" (defScope (topS 43)) f cdv A outer s H E).nox W0 (defBody (topS 43)) G_is_door_number_changing := by
  exact (g_one (g_ret (d_call k_is_number_within (hr.mono (by decide)) (d_cons (dv 1) (d_cons d_int (d_cons (d_op o_sub (d_callB c_len (by rfl) T.b_len (by decide +kernel) (d_cons (d_fld T.f_doors (dv 0)) d_nil)) d_int) d_nil))))))
theorem kn_is_door_number_changing (T : Txt K mg) : Kn P w K mg base CX0 3 "is_door_number_changing" ["house", "thing"] S_is_door_number_changing := T.d_is_door_number_changing.kn fun f fd F => fn_ok F sc_is_door_number_changing (fun cdv A outer s H E hr => b_is_door_number_changing T (kn_is_number_within T) hr) fun ds T post ex hl hS => m_is_door_number_changing ds T post (fun _ _ _ => False) hl hS
theorem sc__turned : FnScope ["house", "room", "doors", "near", "first", "far", "second"] ["house", "room"] (defScope (topS 46)) := ⟨rfl, rfl, rfl, by decide +kernel, rfl, by decide +kernel, by decide +kernel⟩
theorem b__turned (T : Txt K mg) (k_is_room : Kn P w K mg base CX0 3 "is_room" ["house", "thing"] S_is_room) {f : Addr} {cdv : Value} {A : Around} {outer : List Env} {s : Shared} {H : Hp} {E : XK} (hr : Room 3 (A.deeper (PyProof.Rows.envOfC "_turned" (defScope (topS 46)) s.heap.objs.size f cdv))) :
    DPSs (cxOf CX0 P w K mg base ["house", "room", "doors", "near", "first", "far", "second"] "_turned" (defScope (topS 46)) f cdv A outer s H E).nox W0 (defBody (topS 46)) G__turnedC := by
  exact (g_cons (g_if (d_tnot (d_test (d_call k_is_room (hr.mono (by decide)) (d_cons (dv 0) (d_cons (dv 1) d_nil))))) (g_one (g_ret d_non)) g_nil)
      (g_cons (g_setLcF (i := 2) rfl sc__turned.nd (i_seq (d_fld T.f_doors (dv 0))) (blkOk_by (N := ["house", "room", "doors", "near", "first", "far", "second"]) (sc := defScope (topS 46)) (own := [("near", 3), ("first", 4), ("far", 5), ("second", 6)]) (by decide +kernel)) (fun _ _ _ _ _ => (t_tup rfl (t_cons (t_name sc__turned.nd) (t_cons (t_name sc__turned.nd) (t_cons (t_name sc__turned.nd) (t_cons (t_name sc__turned.nd) t_nil)))))) (fun _ _ _ _ _ => ts_nil) (fun _ _ _ _ _ => (d_tup (d_cons (dv 3) (d_cons (d_ifE (d_cmpT (o_eq hr.units) (dv 3) (dv 1) (nomark _)) (d_neg (dv 4)) (dv 4)) (d_cons (dv 5) (d_cons (d_ifE (d_cmpT (o_eq hr.units) (dv 5) (dv 1) (nomark _)) (d_neg (dv 6)) (dv 6)) d_nil)))))) (sw_true rfl rfl rfl (by decide +kernel)))
      (g_one (g_ret (d_tup (d_cons (d_fld T.f_rooms (dv 0)) (d_cons (dv 2) d_nil)))))))
theorem kn__turned (T : Txt K mg) : Kn P w K mg base CX0 4 "_turned" ["house", "room"] S__turnedC := T.d__turned.kn fun f fd F => fn_ok F sc__turned (fun cdv A outer s H E hr => b__turned T (kn_is_room T) hr) fun ds T post ex hl hS => m__turnedC ds T post (fun _ _ _ => False) hl hS
theorem sc__swapped : FnScope ["house", "at", "doors", "near", "first", "far", "second"] ["house", "at"] (defScope (topS 47)) := ⟨rfl, rfl, rfl, by decide +kernel, rfl, by decide +kernel, by decide +kernel⟩
theorem b__swapped (T : Txt K mg) (k_is_door_number_changing : Kn P w K mg base CX0 3 "is_door_number_changing" ["house", "thing"] S_is_door_number_changing) {f : Addr} {cdv : Value} {A : Around} {outer : List Env} {s : Shared} {H : Hp} {E : XK} (hr : Room 3 (A.deeper (PyProof.Rows.envOfC "_swapped" (defScope (topS 47)) s.heap.objs.size f cdv))) :
    DPSs (cxOf CX0 P w K mg base ["house", "at", "doors", "near", "first", "far", "second"] "_swapped" (defScope (topS 47)) f cdv A outer s H E).nox W0 (defBody (topS 47)) G__swappedC := by
  exact (g_cons (g_if (d_tnot (d_test (d_call k_is_door_number_changing (hr.mono (by decide)) (d_cons (dv 0) (d_cons (dv 1) d_nil))))) (g_one (g_ret d_non)) g_nil)
      (g_cons (g_setO (i := 2) sc__swapped.nd (d_listO T.b_list (d_fld T.f_doors (dv 0))))
      (g_cons (g_unp (vs := [3, 4, 5, 6]) (t_tup rfl (t_cons (t_name sc__swapped.nd) (t_cons (t_name sc__swapped.nd) (t_cons (t_name sc__swapped.nd) (t_cons (t_name sc__swapped.nd) t_nil))))) (d_ixV 2 (dv 1)))
      (g_cons (g_putN 2 (d_tup (d_cons (dv 5) (d_cons (dv 6) (d_cons (dv 3) (d_cons (dv 4) d_nil))))) (dv 1))
      (g_one (g_ret (d_tup (d_cons (d_fld T.f_rooms (dv 0)) (d_cons (dv 2) d_nil)))))))))
theorem kn__swapped (T : Txt K mg) : Kn P w K mg base CX0 4 "_swapped" ["house", "at"] S__swappedC := T.d__swapped.kn fun f fd F => fn_ok F sc__swapped (fun cdv A outer s H E hr => b__swapped T (kn_is_door_number_changing T) hr) fun ds T post ex hl hS => m__swappedC ds T post (fun _ _ _ => False) hl hS
theorem sc__slid : FnScope ["house", "end", "over", "room", "number", "far", "second", "start", "leaving", "there", "arriving", "doors"] ["house", "end", "over"] (defScope (topS 48)) := ⟨rfl, rfl, rfl, by decide +kernel, rfl, by decide +kernel, by decide +kernel⟩
theorem b__slid (T : Txt K mg) (k_is_pass : Kn P w K mg base CX0 3 "is_pass" ["house", "thing"] S_is_pass) (k_ends_of : Kn P w K mg base CX0 1 "ends_of" ["house", "step"] S_ends_of) {f : Addr} {cdv : Value} {A : Around} {outer : List Env} {s : Shared} {H : Hp} {E : XK} (hr : Room 3 (A.deeper (PyProof.Rows.envOfC "_slid" (defScope (topS 48)) s.heap.objs.size f cdv))) :
    DPSs (cxOf CX0 P w K mg base ["house", "end", "over", "room", "number", "far", "second", "start", "leaving", "there", "arriving", "doors"] "_slid" (defScope (topS 48)) f cdv A outer s H E).nox W0 (defBody (topS 48)) G__slidC := by
  exact (g_cons (g_if (DPW.pt (d_tor (d_tnot (d_test (d_call k_is_pass (hr.mono (by decide)) (d_cons (dv 0) (d_cons (dv 1) d_nil))))) (d_tor (d_tnot (d_test (d_call k_is_pass (hr.mono (by decide)) (d_cons (dv 0) (d_cons (dv 2) d_nil))))) (d_tor1 (d_cmpT (o_eq hr.units) (d_ixV 1 d_int) (d_ixV 2 d_int) (nomark _)))))) (g_one (g_ret d_non)) g_nil)
      (g_cons (g_unp (vs := [3, 4, 5, 6]) (t_tup rfl (t_cons (t_name sc__slid.nd) (t_cons (t_name sc__slid.nd) (t_cons (t_name sc__slid.nd) (t_cons (t_name sc__slid.nd) t_nil))))) (d_call k_ends_of (hr.mono (by decide)) (d_cons (dv 0) (d_cons (dv 1) d_nil))))
      (g_cons (g_unp (vs := [7, 8, 9, 10]) (t_tup rfl (t_cons (t_name sc__slid.nd) (t_cons (t_name sc__slid.nd) (t_cons (t_name sc__slid.nd) (t_cons (t_name sc__slid.nd) t_nil))))) (d_call k_ends_of (hr.mono (by decide)) (d_cons (dv 0) (d_cons (dv 2) d_nil))))
      (g_cons (g_if (DPW.pt (d_tor (d_cmpT (o_ne hr.units) (dv 3) (dv 7) (nomark _)) (d_tor1 (d_cmpT (o_ne hr.units) (d_op o_mod (dv 4) (dv 8)) d_int (nomark _))))) (g_one (g_ret d_non)) g_nil)
      (g_cons (g_setO (i := 11) sc__slid.nd (d_listO T.b_list (d_fld T.f_doors (dv 0))))
      (g_cons (g_set (i := 4) sc__slid.nd (d_op o_mul (d_op o_fdiv (dv 4) (dv 8)) (dv 10)))
      (g_cons (g_putN 11 (d_ifE (d_cmpT (o_eq hr.units) (d_ixV 1 d_int) d_int (nomark _)) (d_tup (d_cons (dv 9) (d_cons (dv 4) (d_cons (dv 5) (d_cons (dv 6) d_nil))))) (d_tup (d_cons (dv 5) (d_cons (dv 6) (d_cons (dv 9) (d_cons (dv 4) d_nil)))))) (d_ixV 1 d_int))
      (g_one (g_ret (d_tup (d_cons (d_fld T.f_rooms (dv 0)) (d_cons (dv 11) d_nil))))))))))))
theorem kn__slid (T : Txt K mg) : Kn P w K mg base CX0 4 "_slid" ["house", "end", "over"] S__slidC := T.d__slid.kn fun f fd F => fn_ok F sc__slid (fun cdv A outer s H E hr => b__slid T (kn_is_pass T) (kn_ends_of T) hr) fun ds T post ex hl hS => m__slidC ds T post (fun _ _ _ => False) hl hS
theorem sc__lowered : FnScope ["number", "gone"] ["number", "gone"] (defScope (topS 49)) := ⟨rfl, rfl, rfl, by decide +kernel, rfl, by decide +kernel, by decide +kernel⟩
theorem b__lowered (T : Txt K mg)  {f : Addr} {cdv : Value} {A : Around} {outer : List Env} {s : Shared} {H : Hp} {E : XK} (hr : Room 0 (A.deeper (PyProof.Rows.envOfC "_lowered" (defScope (topS 49)) s.heap.objs.size f cdv))) :
    DPSs (cxOf CX0 P w K mg base ["number", "gone"] "_lowered" (defScope (topS 49)) f cdv A outer s H E).nox W0 (defBody (topS 49)) G__loweredC := by
  exact (g_one (g_ret (d_ifE (d_cmpT o_gt (dv 0) (dv 1) (nomark _)) (d_op o_sub (dv 0) d_int) (dv 0))))
theorem kn__lowered (T : Txt K mg) : Kn P w K mg base CX0 1 "_lowered" ["number", "gone"] S__loweredC := T.d__lowered.kn fun f fd F => fn_ok F sc__lowered (fun cdv A outer s H E hr => b__lowered T  hr) fun ds T post ex hl hS => m__loweredC ds T post (fun _ _ _ => False) hl hS
theorem sc__room_along : FnScope ["house", "change", "room", "gone", "kept", "_"] ["house", "change", "room"] (defScope (topS 50)) := ⟨rfl, rfl, rfl, by decide +kernel, rfl, by decide +kernel, by decide +kernel⟩
theorem b__room_along (T : Txt K mg) (k_fold_of : Kn P w K mg base CX0 1 "fold_of" ["door"] S_fold_ofC) (k__lowered : Kn P w K mg base CX0 1 "_lowered" ["number", "gone"] S__loweredC) {f : Addr} {cdv : Value} {A : Around} {outer : List Env} {s : Shared} {H : Hp} {E : XK} (hr : Room 1 (A.deeper (PyProof.Rows.envOfC "_room_along" (defScope (topS 50)) s.heap.objs.size f cdv))) :
    DPSs (cxOf CX0 P w K mg base ["house", "change", "room", "gone", "kept", "_"] "_room_along" (defScope (topS 50)) f cdv A outer s H E).nox W0 (defBody (topS 50)) G__room_alongC := by
  exact (g_cons (g_if (d_cmpT (o_ne hr.units) (d_ixV 1 d_int) d_str (nomark _)) (g_one (g_ret (dv 2))) g_nil)
      (g_cons (g_unp (vs := [3, 4, 5]) (t_tup rfl (t_cons (t_name sc__room_along.nd) (t_cons (t_name sc__room_along.nd) (t_cons (t_name sc__room_along.nd) t_nil)))) (d_call k_fold_of (hr.mono (by decide)) (d_cons (d_ix (d_fld T.f_doors (dv 0)) (d_ixV 1 d_int)) d_nil)))
      (g_one (g_ret (d_call k__lowered (hr.mono (by decide)) (d_cons (d_ifE (d_cmpT (o_eq hr.units) (dv 2) (dv 3) (nomark _)) (dv 4) (dv 2)) (d_cons (dv 3) d_nil)))))))
theorem kn__room_along (T : Txt K mg) : Kn P w K mg base CX0 2 "_room_along" ["house", "change", "room"] S__room_alongC := T.d__room_along.kn fun f fd F => fn_ok F sc__room_along (fun cdv A outer s H E hr => b__room_along T (kn_fold_of T) (kn__lowered T) hr) fun ds T post ex hl hS => m__room_alongC ds T post (fun _ _ _ => False) hl hS
theorem sc__law_pick : FnScope ["state", "several"] ["state", "several"] (defScope (topS 55)) := ⟨rfl, rfl, rfl, by decide +kernel, rfl, by decide +kernel, by decide +kernel⟩
theorem b__law_pick (T : Txt K mg) (k__law_draw : Kn P w K mg base CX0 2 "_law_draw" ["state", "size_here"] S__law_draw) {f : Addr} {cdv : Value} {A : Around} {outer : List Env} {s : Shared} {H : Hp} {E : XK} (hr : Room 2 (A.deeper (PyProof.Rows.envOfC "_law_pick" (defScope (topS 55)) s.heap.objs.size f cdv))) :
    DPSs (cxOf CX0 P w K mg base ["state", "several"] "_law_pick" (defScope (topS 55)) f cdv A outer s H E).nox W0 (defBody (topS 55)) G__law_pick := by
  exact (g_one (g_ret (d_ixV 1 (d_call k__law_draw (hr.mono (by decide)) (d_cons (dv 0) (d_cons (d_callB c_len (by rfl) T.b_len (by decide +kernel) (d_cons (dv 1) d_nil)) d_nil))))))
theorem kn__law_pick (T : Txt K mg) : Kn P w K mg base CX0 3 "_law_pick" ["state", "several"] S__law_pick := T.d__law_pick.kn fun f fd F => fn_ok F sc__law_pick (fun cdv A outer s H E hr => b__law_pick T (kn__law_draw T) hr) fun ds T post ex hl hS => m__law_pick ds T post (fun _ _ _ => False) hl hS
theorem sc__law_mixed : FnScope ["state", "several", "left", "found"] ["state", "several"] (defScope (topS 56)) := ⟨rfl, rfl, rfl, by decide +kernel, rfl, by decide +kernel, by decide +kernel⟩
theorem b__law_mixed (T : Txt K mg) (k__law_draw : Kn P w K mg base CX0 2 "_law_draw" ["state", "size_here"] S__law_draw) {f : Addr} {cdv : Value} {A : Around} {outer : List Env} {s : Shared} {H : Hp} {E : XK} (hr : Room 2 (A.deeper (PyProof.Rows.envOfC "_law_mixed" (defScope (topS 56)) s.heap.objs.size f cdv))) :
    DPSs (cxOf CX0 P w K mg base ["state", "several", "left", "found"] "_law_mixed" (defScope (topS 56)) f cdv A outer s H E).nox W0 (defBody (topS 56)) G__law_mixed := by
  exact (g_cons (g_parOO (i := 2) (j := 3) rfl sc__law_mixed.nd (d_listO T.b_list (dv 1)) (d_lst d_nil))
      (g_cons (g_while PassesOwn.never (d_emptyNe 2 hr.units) (g_one (g_app 3 (d_popAt 2 (d_call k__law_draw (hr.mono (by decide)) (d_cons (dv 0) (d_cons (d_lenV 2 T.b_len) d_nil)))))))
      (g_one (g_ret (dv 3)))))
theorem kn__law_mixed (T : Txt K mg) : Kn P w K mg base CX0 3 "_law_mixed" ["state", "several"] S__law_mixed := T.d__law_mixed.kn fun f fd F => fn_ok F sc__law_mixed (fun cdv A outer s H E hr => b__law_mixed T (kn__law_draw T) hr) fun ds T post ex hl hS => m__law_mixed ds T post (fun _ _ _ => False) hl hS
theorem sc__law_is_truth : FnScope ["found", "due"] ["found", "due"] (defScope (topS 58)) := ⟨rfl, rfl, rfl, by decide +kernel, rfl, by decide +kernel, by decide +kernel⟩
theorem b__law_is_truth (T : Txt K mg)  {f : Addr} {cdv : Value} {A : Around} {outer : List Env} {s : Shared} {H : Hp} {E : XK} (hr : Room 0 (A.deeper (PyProof.Rows.envOfC "_law_is_truth" (defScope (topS 58)) s.heap.objs.size f cdv))) :
    DPSs (cxOf CX0 P w K mg base ["found", "due"] "_law_is_truth" (defScope (topS 58)) f cdv A outer s H E).nox W0 (defBody (topS 58)) G__law_is_truth := by
  exact (g_one (g_ret (d_ifE (d_test (dv 1)) (d_cmp o_isB (dv 0) d_bl (nomark _)) (d_cmp o_isB (dv 0) d_bl (nomark _)))))
theorem kn__law_is_truth (T : Txt K mg) : Kn P w K mg base CX0 1 "_law_is_truth" ["found", "due"] S__law_is_truth := T.d__law_is_truth.kn fun f fd F => fn_ok F sc__law_is_truth (fun cdv A outer s H E hr => b__law_is_truth T  hr) fun ds T post ex hl hS => m__law_is_truth ds T post (fun _ _ _ => False) hl hS
theorem sc__law_is_whole : FnScope ["item"] ["item"] (defScope (topS 59)) := ⟨rfl, rfl, rfl, by decide +kernel, rfl, by decide +kernel, by decide +kernel⟩
theorem b__law_is_whole (T : Txt K mg)  {f : Addr} {cdv : Value} {A : Around} {outer : List Env} {s : Shared} {H : Hp} {E : XK} (hr : Room 0 (A.deeper (PyProof.Rows.envOfC "_law_is_whole" (defScope (topS 59)) s.heap.objs.size f cdv))) :
    DPSs (cxOf CX0 P w K mg base ["item"] "_law_is_whole" (defScope (topS 59)) f cdv A outer s H E).nox W0 (defBody (topS 59)) G__law_is_whole := by
  exact (g_one (g_ret (d_and (d_isTy T.b_isinstance T.b_int (by decide +kernel) (dv 0)) (d_one (d_not (d_isTy T.b_isinstance T.b_bool (by decide +kernel) (dv 0)))))))
theorem kn__law_is_whole (T : Txt K mg) : Kn P w K mg base CX0 1 "_law_is_whole" ["item"] S__law_is_whole := T.d__law_is_whole.kn fun f fd F => fn_ok F sc__law_is_whole (fun cdv A outer s H E hr => b__law_is_whole T  hr) fun ds T post ex hl hS => m__law_is_whole ds T post (fun _ _ _ => False) hl hS
theorem sc__law_size : FnScope ["state", "size_here"] ["state"] (defScope (topS 60)) := ⟨rfl, rfl, rfl, by decide +kernel, rfl, by decide +kernel, by decide +kernel⟩
theorem b__law_size (T : Txt K mg) (k__law_pick : Kn P w K mg base CX0 3 "_law_pick" ["state", "several"] S__law_pick) {f : Addr} {cdv : Value} {A : Around} {outer : List Env} {s : Shared} {H : Hp} {E : XK} (hr : Room 3 (A.deeper (PyProof.Rows.envOfC "_law_size" (defScope (topS 60)) s.heap.objs.size f cdv))) :
    DPSs (cxOf CX0 P w K mg base ["state", "size_here"] "_law_size" (defScope (topS 60)) f cdv A outer s H E).nox W0 (defBody (topS 60)) G__law_size := by
  exact (g_cons (g_set (i := 1) sc__law_size.nd (d_call k__law_pick (hr.mono (by decide)) (d_cons (dv 0) (d_cons (d_ofO (d_lst (d_cons d_int (d_cons d_int (d_cons d_int (d_cons d_int (d_cons d_int (d_cons d_int (d_cons d_int (d_cons d_int (d_cons d_int (d_cons d_int (d_cons d_int (d_cons d_int d_nil)))))))))))))) d_nil))))
      (g_one (g_ret (d_op o_mul (dv 1) (d_call k__law_pick (hr.mono (by decide)) (d_cons (dv 0) (d_cons (d_ofO (d_lst (d_cons d_int (d_cons d_int (d_cons d_int (d_cons (d_neg d_int) d_nil)))))) d_nil)))))))
theorem kn__law_size (T : Txt K mg) : Kn P w K mg base CX0 4 "_law_size" ["state"] S__law_size := T.d__law_size.kn fun f fd F => fn_ok F sc__law_size (fun cdv A outer s H E hr => b__law_size T (kn__law_pick T) hr) fun ds T post ex hl hS => m__law_size ds T post (fun _ _ _ => False) hl hS
theorem sc__law_doors : FnScope ["state", "rooms_here", "more", "found", "room_here", "turn", "one", "other", "item"] ["state", "rooms_here", "more"] (defScope (topS 61)) := ⟨rfl, rfl, rfl, by decide +kernel, rfl, by decide +kernel, by decide +kernel⟩
theorem b__law_doors (T : Txt K mg) (k__law_size : Kn P w K mg base CX0 4 "_law_size" ["state"] S__law_size) (k__law_draw : Kn P w K mg base CX0 2 "_law_draw" ["state", "size_here"] S__law_draw) (k__law_mixed : Kn P w K mg base CX0 3 "_law_mixed" ["state", "several"] S__law_mixed) {f : Addr} {cdv : Value} {A : Around} {outer : List Env} {s : Shared} {H : Hp} {E : XK} (hr : Room 4 (A.deeper (PyProof.Rows.envOfC "_law_doors" (defScope (topS 61)) s.heap.objs.size f cdv))) :
    DPSs (cxOf CX0 P w K mg base ["state", "rooms_here", "more", "found", "room_here", "turn", "one", "other", "item"] "_law_doors" (defScope (topS 61)) f cdv A outer s H E).nox W0 (defBody (topS 61)) G__law_doors := by
  exact (g_cons (g_setO (i := 3) sc__law_doors.nd (d_lst d_nil))
      (g_cons (g_for (vs := [4]) PassesOwn.never rfl (i_range2 T.b_range d_int (dv 1)) (t_name sc__law_doors.nd) (g_one (g_app 3 (d_tup (d_cons (d_call k__law_draw (hr.mono (by decide)) (d_cons (dv 0) (d_cons (dv 4) d_nil))) (d_cons (d_call k__law_size (hr.mono (by decide)) (d_cons (dv 0) d_nil)) (d_cons (dv 4) (d_cons (d_call k__law_size (hr.mono (by decide)) (d_cons (dv 0) d_nil)) d_nil))))))))
      (g_cons (g_for (vs := [5]) PassesOwn.never rfl (i_range1 T.b_range (d_call k__law_draw (hr.mono (by decide)) (d_cons (dv 0) (d_cons (d_op o_add (dv 2) d_int) d_nil)))) (t_name sc__law_doors.nd) (g_cons (g_par (i := 6) (j := 7) rfl sc__law_doors.nd (d_cons (d_call k__law_draw (hr.mono (by decide)) (d_cons (dv 0) (d_cons (dv 1) d_nil))) (d_cons (d_call k__law_draw (hr.mono (by decide)) (d_cons (dv 0) (d_cons (dv 1) d_nil))) d_nil)))
      (g_one (g_app 3 (d_tup (d_cons (dv 6) (d_cons (d_call k__law_size (hr.mono (by decide)) (d_cons (dv 0) d_nil)) (d_cons (dv 7) (d_cons (d_call k__law_size (hr.mono (by decide)) (d_cons (dv 0) d_nil)) d_nil)))))))))
      (g_cons (g_setLc (i := 3) rfl sc__law_doors.nd (i_seq (dv 3)) (blkOk_by (N := ["state", "rooms_here", "more", "found", "room_here", "turn", "one", "other", "item"]) (sc := defScope (topS 61)) (own := [("item", 8)]) (by decide +kernel)) (fun _ _ _ _ _ => (t_name sc__law_doors.nd)) (fun _ _ _ _ _ => ts_nil) (fun _ _ _ _ _ => (d_ifE (d_cmpT (o_eq hr.units) (d_call k__law_draw (hr.mono (by decide)) (d_cons (dv 0) (d_cons d_int d_nil))) d_int (nomark _)) (dv 8) (d_tup (d_cons (d_ixV 8 d_int) (d_cons (d_ixV 8 d_int) (d_cons (d_ixV 8 d_int) (d_cons (d_ixV 8 d_int) d_nil))))))) (sw_true rfl rfl rfl (by decide +kernel)))
      (g_one (g_ret (d_callTy c_tuple (by rfl) T.b_tuple (by decide +kernel) (d_cons (d_call k__law_mixed (hr.mono (by decide)) (d_cons (dv 0) (d_cons (dv 3) d_nil))) d_nil))))))))
theorem kn__law_doors (T : Txt K mg) : Kn P w K mg base CX0 5 "_law_doors" ["state", "rooms_here", "more"] S__law_doors := T.d__law_doors.kn fun f fd F => fn_ok F sc__law_doors (fun cdv A outer s H E hr => b__law_doors T (kn__law_size T) (kn__law_draw T) (kn__law_mixed T) hr) fun ds T post ex hl hS => m__law_doors ds T post (fun _ _ _ => False) hl hS
theorem sc__law_gate : FnScope ["doors_here", "step", "near", "first", "far", "second"] ["doors_here", "step"] (defScope (topS 62)) := ⟨rfl, rfl, rfl, by decide +kernel, rfl, by decide +kernel, by decide +kernel⟩
theorem b__law_gate (T : Txt K mg)  {f : Addr} {cdv : Value} {A : Around} {outer : List Env} {s : Shared} {H : Hp} {E : XK} (hr : Room 0 (A.deeper (PyProof.Rows.envOfC "_law_gate" (defScope (topS 62)) s.heap.objs.size f cdv))) :
    DPSs (cxOf CX0 P w K mg base ["doors_here", "step", "near", "first", "far", "second"] "_law_gate" (defScope (topS 62)) f cdv A outer s H E).nox W0 (defBody (topS 62)) G__law_gate := by
  exact (g_cons (g_unp (vs := [2, 3, 4, 5]) (t_tup rfl (t_cons (t_name sc__law_gate.nd) (t_cons (t_name sc__law_gate.nd) (t_cons (t_name sc__law_gate.nd) (t_cons (t_name sc__law_gate.nd) t_nil))))) (d_ixV 0 (d_ixV 1 d_int)))
      (g_one (g_ret (d_ifE (d_cmpT (o_eq hr.units) (d_ixV 1 d_int) d_int (nomark _)) (d_tup (d_cons (dv 2) (d_cons (dv 3) (d_cons (dv 4) (d_cons (dv 5) d_nil))))) (d_tup (d_cons (dv 4) (d_cons (dv 5) (d_cons (dv 2) (d_cons (dv 3) d_nil)))))))))
theorem kn__law_gate (T : Txt K mg) : Kn P w K mg base CX0 1 "_law_gate" ["doors_here", "step"] S__law_gate := T.d__law_gate.kn fun f fd F => fn_ok F sc__law_gate (fun cdv A outer s H E hr => b__law_gate T  hr) fun ds T post ex hl hS => m__law_gate ds T post (fun _ _ _ => False) hl hS
theorem sc__law_sides : FnScope ["many", "found", "spot"] ["many"] (defScope (topS 63)) := ⟨rfl, rfl, rfl, by decide +kernel, rfl, by decide +kernel, by decide +kernel⟩
theorem b__law_sides (T : Txt K mg)  {f : Addr} {cdv : Value} {A : Around} {outer : List Env} {s : Shared} {H : Hp} {E : XK} (hr : Room 0 (A.deeper (PyProof.Rows.envOfC "_law_sides" (defScope (topS 63)) s.heap.objs.size f cdv))) :
    DPSs (cxOf CX0 P w K mg base ["many", "found", "spot"] "_law_sides" (defScope (topS 63)) f cdv A outer s H E).nox W0 (defBody (topS 63)) G__law_sides := by
  exact (g_cons (g_set (i := 1) sc__law_sides.nd (d_ofO (d_lst d_nil)))
      (g_cons (g_for (vs := [2]) PassesOwn.never rfl (i_range1 T.b_range (dv 0)) (t_name sc__law_sides.nd) (g_one (g_set (i := 1) sc__law_sides.nd (d_op o_add (dv 1) (d_ofO (d_lst (d_cons (d_tup (d_cons (dv 2) (d_cons d_int d_nil))) (d_cons (d_tup (d_cons (dv 2) (d_cons d_int d_nil))) d_nil))))))))
      (g_one (g_ret (dv 1)))))
theorem kn__law_sides (T : Txt K mg) : Kn P w K mg base CX0 1 "_law_sides" ["many"] S__law_sides := T.d__law_sides.kn fun f fd F => fn_ok F sc__law_sides (fun cdv A outer s H E hr => b__law_sides T  hr) fun ds T post ex hl hS => m__law_sides ds T post (fun _ _ _ => False) hl hS
theorem sc__law_ch_house : FnScope ["state", "most", "more", "rooms_here"] ["state", "most", "more"] (defScope (topS 64)) := ⟨rfl, rfl, rfl, by decide +kernel, rfl, by decide +kernel, by decide +kernel⟩
theorem b__law_ch_house (T : Txt K mg) (k__law_draw : Kn P w K mg base CX0 2 "_law_draw" ["state", "size_here"] S__law_draw) (k__law_doors : Kn P w K mg base CX0 5 "_law_doors" ["state", "rooms_here", "more"] S__law_doors) {f : Addr} {cdv : Value} {A : Around} {outer : List Env} {s : Shared} {H : Hp} {E : XK} (hr : Room 5 (A.deeper (PyProof.Rows.envOfC "_law_ch_house" (defScope (topS 64)) s.heap.objs.size f cdv))) :
    DPSs (cxOf CX0 P w K mg base ["state", "most", "more", "rooms_here"] "_law_ch_house" (defScope (topS 64)) f cdv A outer s H E).nox W0 (defBody (topS 64)) G__law_ch_house := by
  exact (g_cons (g_set (i := 3) sc__law_ch_house.nd (d_op o_add d_int (d_call k__law_draw (hr.mono (by decide)) (d_cons (dv 0) (d_cons (dv 1) d_nil)))))
      (g_one (g_ret (d_tup (d_cons (dv 3) (d_cons (d_call k__law_doors (hr.mono (by decide)) (d_cons (dv 0) (d_cons (dv 3) (d_cons (dv 2) d_nil)))) d_nil))))))
theorem kn__law_ch_house (T : Txt K mg) : Kn P w K mg base CX0 6 "_law_ch_house" ["state", "most", "more"] S__law_ch_house := T.d__law_ch_house.kn fun f fd F => fn_ok F sc__law_ch_house (fun cdv A outer s H E hr => b__law_ch_house T (kn__law_draw T) (kn__law_doors T) hr) fun ds T post ex hl hS => m__law_ch_house ds T post (fun _ _ _ => False) hl hS
theorem sc__law_ch_is_door : FnScope ["taken", "rooms_here", "item"] ["taken", "rooms_here"] (defScope (topS 65)) := ⟨rfl, rfl, rfl, by decide +kernel, rfl, by decide +kernel, by decide +kernel⟩
theorem b__law_ch_is_door (T : Txt K mg) (k__law_is_whole : Kn P w K mg base CX0 1 "_law_is_whole" ["item"] S__law_is_whole) {f : Addr} {cdv : Value} {A : Around} {outer : List Env} {s : Shared} {H : Hp} {E : XK} (hr : Room 1 (A.deeper (PyProof.Rows.envOfC "_law_ch_is_door" (defScope (topS 65)) s.heap.objs.size f cdv))) :
    DPSs (cxOf CX0 P w K mg base ["taken", "rooms_here", "item"] "_law_ch_is_door" (defScope (topS 65)) f cdv A outer s H E).nox W0 (defBody (topS 65)) G__law_ch_is_doorC := by
  exact (g_cons (g_if (DPW.pt (d_tor (d_tnot (d_test (d_isTy T.b_isinstance T.b_tuple (by decide +kernel) (dv 0)))) (d_tor1 (d_cmpT (o_ne hr.units) (d_callB c_len (by rfl) T.b_len (by decide +kernel) (d_cons (dv 0) d_nil)) d_int (nomark _))))) (g_one (g_ret d_bl)) g_nil)
      (g_cons (g_if (d_cmpT (o_ne hr.units) (d_ofO (d_lc rfl sc__law_ch_is_door.nd (i_seq (dv 0)) (blkOk_by (N := ["taken", "rooms_here", "item"]) (sc := defScope (topS 65)) (own := [("item", 2)]) (by decide +kernel)) (fun _ _ _ _ _ => (t_name sc__law_ch_is_door.nd)) (fun _ _ _ _ _ => (ts_one (d_tnot (d_test (d_call k__law_is_whole (hr.mono (by decide)) (d_cons (dv 2) d_nil)))))) (fun _ _ _ _ _ => d_int))) (d_ofO (d_lst d_nil)) (nomark _)) (g_one (g_ret d_bl)) g_nil)
      (g_cons (g_if (DPW.pt (d_tor (d_tnot (d_chainT o_le o_lt d_int (d_ixV 0 d_int) (dv 1))) (d_tor1 (d_tnot (d_chainT o_le o_lt d_int (d_ixV 0 d_int) (dv 1)))))) (g_one (g_ret d_bl)) g_nil)
      (g_one (g_ret (d_and (d_chain o_lt o_lt d_int (d_callB c_abs (by rfl) T.b_abs (by decide +kernel) (d_cons (d_ixV 0 d_int) d_nil)) d_int) (d_one (d_chain o_lt o_lt d_int (d_callB c_abs (by rfl) T.b_abs (by decide +kernel) (d_cons (d_ixV 0 d_int) d_nil)) d_int))))))))
theorem kn__law_ch_is_door (T : Txt K mg) : Kn P w K mg base CX0 2 "_law_ch_is_door" ["taken", "rooms_here"] S__law_ch_is_doorC := T.d__law_ch_is_door.kn fun f fd F => fn_ok F sc__law_ch_is_door (fun cdv A outer s H E hr => b__law_ch_is_door T (kn__law_is_whole T) hr) fun ds T post ex hl hS => m__law_ch_is_doorC ds T post (fun _ _ _ => False) hl hS
theorem sc__law_ch_is_step : FnScope ["doors_here", "taken"] ["doors_here", "taken"] (defScope (topS 66)) := ⟨rfl, rfl, rfl, by decide +kernel, rfl, by decide +kernel, by decide +kernel⟩
theorem b__law_ch_is_step (T : Txt K mg) (k__law_is_whole : Kn P w K mg base CX0 1 "_law_is_whole" ["item"] S__law_is_whole) {f : Addr} {cdv : Value} {A : Around} {outer : List Env} {s : Shared} {H : Hp} {E : XK} (hr : Room 1 (A.deeper (PyProof.Rows.envOfC "_law_ch_is_step" (defScope (topS 66)) s.heap.objs.size f cdv))) :
    DPSs (cxOf CX0 P w K mg base ["doors_here", "taken"] "_law_ch_is_step" (defScope (topS 66)) f cdv A outer s H E).nox W0 (defBody (topS 66)) G__law_ch_is_stepC := by
  exact (g_cons (g_if (DPW.pt (d_tor (d_tnot (d_test (d_isTy T.b_isinstance T.b_tuple (by decide +kernel) (dv 1)))) (d_tor (d_cmpT (o_ne hr.units) (d_callB c_len (by rfl) T.b_len (by decide +kernel) (d_cons (dv 1) d_nil)) d_int (nomark _)) (d_tor (d_tnot (d_test (d_call k__law_is_whole (hr.mono (by decide)) (d_cons (d_ixV 1 d_int) d_nil)))) (d_tor1 (d_tnot (d_test (d_call k__law_is_whole (hr.mono (by decide)) (d_cons (d_ixV 1 d_int) d_nil))))))))) (g_one (g_ret d_bl)) g_nil)
      (g_one (g_ret (d_and (d_chain o_le o_lt d_int (d_ixV 1 d_int) (d_callB c_len (by rfl) T.b_len (by decide +kernel) (d_cons (dv 0) d_nil))) (d_one (d_cmp (o_in hr.units65) (d_ixV 1 d_int) (d_tup (d_cons d_int (d_cons d_int d_nil))) (by rfl)))))))
theorem kn__law_ch_is_step (T : Txt K mg) : Kn P w K mg base CX0 2 "_law_ch_is_step" ["doors_here", "taken"] S__law_ch_is_stepC := T.d__law_ch_is_step.kn fun f fd F => fn_ok F sc__law_ch_is_step (fun cdv A outer s H E hr => b__law_ch_is_step T (kn__law_is_whole T) hr) fun ds T post ex hl hS => m__law_ch_is_stepC ds T post (fun _ _ _ => False) hl hS
theorem sc__law_ch_fold : FnScope ["doors_here", "spot", "near", "first", "far", "second"] ["doors_here", "spot"] (defScope (topS 67)) := ⟨rfl, rfl, rfl, by decide +kernel, rfl, by decide +kernel, by decide +kernel⟩
theorem b__law_ch_fold (T : Txt K mg)  {f : Addr} {cdv : Value} {A : Around} {outer : List Env} {s : Shared} {H : Hp} {E : XK} (hr : Room 0 (A.deeper (PyProof.Rows.envOfC "_law_ch_fold" (defScope (topS 67)) s.heap.objs.size f cdv))) :
    DPSs (cxOf CX0 P w K mg base ["doors_here", "spot", "near", "first", "far", "second"] "_law_ch_fold" (defScope (topS 67)) f cdv A outer s H E).nox W0 (defBody (topS 67)) G__law_ch_fold := by
  exact (g_cons (g_unp (vs := [2, 3, 4, 5]) (t_tup rfl (t_cons (t_name sc__law_ch_fold.nd) (t_cons (t_name sc__law_ch_fold.nd) (t_cons (t_name sc__law_ch_fold.nd) (t_cons (t_name sc__law_ch_fold.nd) t_nil))))) (d_ixV 0 (dv 1)))
      (g_cons (g_if (DPW.pt (d_tor (d_cmpT (o_eq hr.units) (dv 2) (dv 4) (nomark _)) (d_tor1 (DPW.pt (d_tand (d_cmpT (o_ne hr.units) (d_callB c_abs (by rfl) T.b_abs (by decide +kernel) (d_cons (dv 3) d_nil)) d_int (nomark _)) (d_tand1 (d_cmpT (o_ne hr.units) (d_callB c_abs (by rfl) T.b_abs (by decide +kernel) (d_cons (dv 5) d_nil)) d_int (nomark _)))))))) (g_one (g_ret d_non)) g_nil)
      (g_cons (g_if (d_cmpT (o_eq hr.units) (d_callB c_abs (by rfl) T.b_abs (by decide +kernel) (d_cons (dv 5) d_nil)) d_int (nomark _)) (g_one (g_ret (d_tup (d_cons (dv 4) (d_cons (dv 2) (d_cons (d_op o_mul (dv 3) (dv 5)) d_nil)))))) g_nil)
      (g_one (g_ret (d_tup (d_cons (dv 2) (d_cons (dv 4) (d_cons (d_op o_mul (dv 3) (dv 5)) d_nil)))))))))
theorem kn__law_ch_fold (T : Txt K mg) : Kn P w K mg base CX0 1 "_law_ch_fold" ["doors_here", "spot"] S__law_ch_fold := T.d__law_ch_fold.kn fun f fd F => fn_ok F sc__law_ch_fold (fun cdv A outer s H E hr => b__law_ch_fold T  hr) fun ds T post ex hl hS => m__law_ch_fold ds T post (fun _ _ _ => False) hl hS
theorem sc__law_ch_less : FnScope ["item", "gone"] ["item", "gone"] (defScope (topS 68)) := ⟨rfl, rfl, rfl, by decide +kernel, rfl, by decide +kernel, by decide +kernel⟩
theorem b__law_ch_less (T : Txt K mg)  {f : Addr} {cdv : Value} {A : Around} {outer : List Env} {s : Shared} {H : Hp} {E : XK} (hr : Room 0 (A.deeper (PyProof.Rows.envOfC "_law_ch_less" (defScope (topS 68)) s.heap.objs.size f cdv))) :
    DPSs (cxOf CX0 P w K mg base ["item", "gone"] "_law_ch_less" (defScope (topS 68)) f cdv A outer s H E).nox W0 (defBody (topS 68)) G__law_ch_less := by
  exact (g_one (g_ret (d_op o_sub (dv 0) (d_callTy c_int (by rfl) T.b_int (by decide +kernel) (d_cons (d_cmp o_gt (dv 0) (dv 1) (nomark _)) d_nil)))))
theorem kn__law_ch_less (T : Txt K mg) : Kn P w K mg base CX0 1 "_law_ch_less" ["item", "gone"] S__law_ch_less := T.d__law_ch_less.kn fun f fd F => fn_ok F sc__law_ch_less (fun cdv A outer s H E hr => b__law_ch_less T  hr) fun ds T post ex hl hS => m__law_ch_less ds T post (fun _ _ _ => False) hl hS
theorem sc__law_ch_folded : FnScope ["doors_here", "spot", "gone", "kept", "factor", "found", "at", "item", "ends_here", "side", "room_here", "size_here"] ["doors_here", "spot"] (defScope (topS 69)) := ⟨rfl, rfl, rfl, by decide +kernel, rfl, by decide +kernel, by decide +kernel⟩
theorem b__law_ch_folded (T : Txt K mg) (k__law_ch_fold : Kn P w K mg base CX0 1 "_law_ch_fold" ["doors_here", "spot"] S__law_ch_fold) (k__law_ch_less : Kn P w K mg base CX0 1 "_law_ch_less" ["item", "gone"] S__law_ch_less) {f : Addr} {cdv : Value} {A : Around} {outer : List Env} {s : Shared} {H : Hp} {E : XK} (hr : Room 1 (A.deeper (PyProof.Rows.envOfC "_law_ch_folded" (defScope (topS 69)) s.heap.objs.size f cdv))) :
    DPSs (cxOf CX0 P w K mg base ["doors_here", "spot", "gone", "kept", "factor", "found", "at", "item", "ends_here", "side", "room_here", "size_here"] "_law_ch_folded" (defScope (topS 69)) f cdv A outer s H E).nox W0 (defBody (topS 69)) G__law_ch_folded := by
  exact (g_cons (g_unp (vs := [2, 3, 4]) (t_tup rfl (t_cons (t_name sc__law_ch_folded.nd) (t_cons (t_name sc__law_ch_folded.nd) (t_cons (t_name sc__law_ch_folded.nd) t_nil)))) (d_call k__law_ch_fold (hr.mono (by decide)) (d_cons (dv 0) (d_cons (dv 1) d_nil))))
      (g_cons (g_setO (i := 5) sc__law_ch_folded.nd (d_lst d_nil))
      (g_cons (g_for (vs := [6, 7]) PassesOwn.never rfl (i_enumT T.b_enumerate (dv 0)) (t_tup rfl (t_cons (t_name sc__law_ch_folded.nd) (t_cons (t_name sc__law_ch_folded.nd) t_nil))) (g_one (g_if (d_cmpT (o_ne hr.units) (dv 6) (dv 1) (nomark _)) (g_cons (g_set (i := 8) sc__law_ch_folded.nd (d_ofO (d_lst d_nil)))
      (g_cons (g_for (vs := [9]) PassesOwn.never rfl (i_seq (d_tup (d_cons d_int (d_cons d_int d_nil)))) (t_name sc__law_ch_folded.nd) (g_cons (g_par (i := 10) (j := 11) rfl sc__law_ch_folded.nd (d_cons (d_ixV 7 (dv 9)) (d_cons (d_ixV 7 (d_op o_add (dv 9) d_int)) d_nil)))
      (g_cons (g_if (d_cmpT (o_eq hr.units) (dv 10) (dv 2) (nomark _)) (g_one (g_par (i := 10) (j := 11) rfl sc__law_ch_folded.nd (d_cons (dv 3) (d_cons (d_op o_mul (dv 11) (dv 4)) d_nil)))) g_nil)
      (g_one (g_set (i := 8) sc__law_ch_folded.nd (d_op o_add (dv 8) (d_ofO (d_lst (d_cons (d_call k__law_ch_less (hr.mono (by decide)) (d_cons (dv 10) (d_cons (dv 2) d_nil))) (d_cons (dv 11) d_nil))))))))))
      (g_one (g_app 5 (d_callTy c_tuple (by rfl) T.b_tuple (by decide +kernel) (d_cons (dv 8) d_nil)))))) g_nil)))
      (g_one (g_ret (dv 5))))))
theorem kn__law_ch_folded (T : Txt K mg) : Kn P w K mg base CX0 2 "_law_ch_folded" ["doors_here", "spot"] S__law_ch_folded := T.d__law_ch_folded.kn fun f fd F => fn_ok F sc__law_ch_folded (fun cdv A outer s H E hr => b__law_ch_folded T (kn__law_ch_fold T) (kn__law_ch_less T) hr) fun ds T post ex hl hS => m__law_ch_folded ds T post (fun _ _ _ => False) hl hS
theorem sc__law_ch_slid : FnScope ["doors_here", "end", "over", "one", "other", "found", "old", "part"] ["doors_here", "end", "over"] (defScope (topS 70)) := ⟨rfl, rfl, rfl, by decide +kernel, rfl, by decide +kernel, by decide +kernel⟩
theorem b__law_ch_slid (T : Txt K mg) (k__law_gate : Kn P w K mg base CX0 1 "_law_gate" ["doors_here", "step"] S__law_gate) {f : Addr} {cdv : Value} {A : Around} {outer : List Env} {s : Shared} {H : Hp} {E : XK} (hr : Room 1 (A.deeper (PyProof.Rows.envOfC "_law_ch_slid" (defScope (topS 70)) s.heap.objs.size f cdv))) :
    DPSs (cxOf CX0 P w K mg base ["doors_here", "end", "over", "one", "other", "found", "old", "part"] "_law_ch_slid" (defScope (topS 70)) f cdv A outer s H E).nox W0 (defBody (topS 70)) G__law_ch_slid := by
  exact (g_cons (g_par (i := 3) (j := 4) rfl sc__law_ch_slid.nd (d_cons (d_call k__law_gate (hr.mono (by decide)) (d_cons (dv 0) (d_cons (dv 1) d_nil))) (d_cons (d_call k__law_gate (hr.mono (by decide)) (d_cons (dv 0) (d_cons (dv 2) d_nil))) d_nil)))
      (g_cons (g_if (DPW.pt (d_tor (d_cmpT (o_eq hr.units) (d_ixV 1 d_int) (d_ixV 2 d_int) (nomark _)) (d_tor (d_cmpT (o_ne hr.units) (d_ixV 3 d_int) (d_ixV 4 d_int) (nomark _)) (d_tor1 (d_cmpT (o_ne hr.units) (d_op o_mod (d_callTy c_int (by rfl) T.b_int (by decide +kernel) (d_cons (d_ixV 3 d_int) d_nil)) (d_callB c_abs (by rfl) T.b_abs (by decide +kernel) (d_cons (d_ixV 4 d_int) d_nil))) d_int (nomark _)))))) (g_one (g_ret d_non)) g_nil)
      (g_cons (g_parOF (i := 5) (j := 6) rfl sc__law_ch_slid.nd (d_listO T.b_list (dv 0)) (d_ixV 0 (d_ixV 1 d_int)))
      (g_cons (g_set (i := 7) sc__law_ch_slid.nd (d_tup (d_cons (d_ixV 4 d_int) (d_cons (d_op o_mul (d_op o_fdiv (d_ixV 3 d_int) (d_ixV 4 d_int)) (d_ixV 4 d_int)) d_nil))))
      (g_cons (g_putN 5 (d_ifE (d_cmpT (o_eq hr.units) (d_ixV 1 d_int) d_int (nomark _)) (d_op o_add (dv 7) (d_sl (dv 6) (d_oAt d_int) d_oNo)) (d_op o_add (d_sl (dv 6) d_oNo (d_oAt d_int)) (dv 7))) (d_ixV 1 d_int))
      (g_one (g_ret (dv 5))))))))
theorem kn__law_ch_slid (T : Txt K mg) : Kn P w K mg base CX0 2 "_law_ch_slid" ["doors_here", "end", "over"] S__law_ch_slid := T.d__law_ch_slid.kn fun f fd F => fn_ok F sc__law_ch_slid (fun cdv A outer s H E hr => b__law_ch_slid T (kn__law_gate T) hr) fun ds T post ex hl hS => m__law_ch_slid ds T post (fun _ _ _ => False) hl hS
theorem sc__law_ch_raw : FnScope ["rooms_here", "doors_here", "taken", "word", "spot", "many", "found", "signs", "item", "one"] ["rooms_here", "doors_here", "taken"] (defScope (topS 71)) := ⟨rfl, rfl, rfl, by decide +kernel, rfl, by decide +kernel, by decide +kernel⟩
theorem b__law_ch_raw (T : Txt K mg) (k__law_ch_is_step : Kn P w K mg base CX0 2 "_law_ch_is_step" ["doors_here", "taken"] S__law_ch_is_stepC) (k__law_ch_slid : Kn P w K mg base CX0 2 "_law_ch_slid" ["doors_here", "end", "over"] S__law_ch_slid) (k__law_is_whole : Kn P w K mg base CX0 1 "_law_is_whole" ["item"] S__law_is_whole) (k__law_ch_fold : Kn P w K mg base CX0 1 "_law_ch_fold" ["doors_here", "spot"] S__law_ch_fold) (k__law_ch_folded : Kn P w K mg base CX0 2 "_law_ch_folded" ["doors_here", "spot"] S__law_ch_folded) {f : Addr} {cdv : Value} {A : Around} {outer : List Env} {s : Shared} {H : Hp} {E : XK} (hr : Room 2 (A.deeper (PyProof.Rows.envOfC "_law_ch_raw" (defScope (topS 71)) s.heap.objs.size f cdv))) :
    DPSs (cxOf CX0 P w K mg base ["rooms_here", "doors_here", "taken", "word", "spot", "many", "found", "signs", "item", "one"] "_law_ch_raw" (defScope (topS 71)) f cdv A outer s H E).nox W0 (defBody (topS 71)) G__law_ch_rawC := by
  exact (g_cons (g_if (DPW.pt (d_tor (d_tnot (d_test (d_isTy T.b_isinstance T.b_tuple (by decide +kernel) (dv 2)))) (d_tor (d_cmpT o_lt (d_callB c_len (by rfl) T.b_len (by decide +kernel) (d_cons (dv 2) d_nil)) d_int (nomark _)) (d_tor1 (d_tnot (d_test (d_isTy T.b_isinstance T.b_str (by decide +kernel) (d_ixV 2 d_int)))))))) (g_one (g_ret d_non)) g_nil)
      (g_cons (g_unp (vs := [3, 4, 5]) (t_tup rfl (t_cons (t_name sc__law_ch_raw.nd) (t_cons (t_name sc__law_ch_raw.nd) (t_cons (t_name sc__law_ch_raw.nd) t_nil)))) (d_tup (d_cons (d_ixV 2 d_int) (d_cons (d_ixV 2 d_int) (d_cons (d_callB c_len (by rfl) T.b_len (by decide +kernel) (d_cons (dv 1) d_nil)) d_nil)))))
      (g_cons (g_if (DPW.pt (d_tand (d_cmpT (o_eq hr.units) (dv 3) d_str (nomark _)) (d_tand1 (d_cmpT (o_eq hr.units) (d_callB c_len (by rfl) T.b_len (by decide +kernel) (d_cons (dv 2) d_nil)) d_int (nomark _))))) (g_cons (g_if (DPW.pt (d_tor (d_tnot (d_test (d_call k__law_ch_is_step (hr.mono (by decide)) (d_cons (dv 1) (d_cons (dv 4) d_nil))))) (d_tor1 (d_tnot (d_test (d_call k__law_ch_is_step (hr.mono (by decide)) (d_cons (dv 1) (d_cons (d_ixV 2 d_int) d_nil)))))))) (g_one (g_ret d_non)) g_nil)
      (g_cons (g_set (i := 6) sc__law_ch_raw.nd (d_call k__law_ch_slid (hr.mono (by decide)) (d_cons (dv 1) (d_cons (dv 4) (d_cons (d_ixV 2 d_int) d_nil)))))
      (g_one (g_ret (d_ifE (d_cmpT o_isN (dv 6) d_non (nomark _)) d_non (d_tup (d_cons (dv 0) (d_cons (dv 6) d_nil)))))))) g_nil)
      (g_cons (g_if (DPW.pt (d_tor (d_tnot (d_test (d_call k__law_is_whole (hr.mono (by decide)) (d_cons (dv 4) d_nil)))) (d_tor1 (d_cmpT o_lt (dv 4) d_int (nomark _))))) (g_one (g_ret d_non)) g_nil)
      (g_cons (g_if (DPW.pt (d_tand (d_cmpT (o_eq hr.units) (dv 3) d_str (nomark _)) (d_tand (d_cmpT (o_eq hr.units) (d_callB c_len (by rfl) T.b_len (by decide +kernel) (d_cons (dv 2) d_nil)) d_int (nomark _)) (d_tand1 (d_cmpT o_lt (dv 4) (dv 0) (nomark _)))))) (g_cons (g_if (DPW.pt (d_tor (d_tnot (d_test (d_call k__law_is_whole (hr.mono (by decide)) (d_cons (d_ixV 2 d_int) d_nil)))) (d_tor1 (d_cmpT (o_ne hr.units) (d_callB c_abs (by rfl) T.b_abs (by decide +kernel) (d_cons (d_ixV 2 d_int) d_nil)) d_int (nomark _))))) (g_one (g_ret d_non)) g_nil)
      (g_one (g_ret (d_tup (d_cons (d_op o_add (dv 0) d_int) (d_cons (d_op o_add (d_ofO (d_listO T.b_list (dv 1))) (d_ofO (d_lst (d_cons (d_tup (d_cons (dv 4) (d_cons (d_ixV 2 d_int) (d_cons (dv 0) (d_cons (d_ixV 2 d_int) d_nil))))) d_nil)))) d_nil)))))) g_nil)
      (g_cons (g_if (d_cmpT (o_ne hr.units) (d_callB c_len (by rfl) T.b_len (by decide +kernel) (d_cons (dv 2) d_nil)) d_int (nomark _)) (g_one (g_ret d_non)) g_nil)
      (g_cons (g_if (DPW.pt (d_tand (d_cmpT (o_eq hr.units) (dv 3) d_str (nomark _)) (d_tand (d_cmpT o_lt (dv 4) (dv 5) (nomark _)) (d_tand1 (d_cmpT o_notN (d_call k__law_ch_fold (hr.mono (by decide)) (d_cons (dv 1) (d_cons (dv 4) d_nil))) d_non (nomark _)))))) (g_one (g_ret (d_tup (d_cons (d_op o_sub (dv 0) d_int) (d_cons (d_call k__law_ch_folded (hr.mono (by decide)) (d_cons (dv 1) (d_cons (dv 4) d_nil))) d_nil))))) g_nil)
      (g_cons (g_if (DPW.pt (d_tand (d_cmpT (o_eq hr.units) (dv 3) d_str (nomark _)) (d_tand1 (d_cmpT o_lt (dv 4) (dv 0) (nomark _))))) (g_cons (g_setLcF (i := 7) rfl sc__law_ch_raw.nd (i_seq (dv 1)) (blkOk_by (N := ["rooms_here", "doors_here", "taken", "word", "spot", "many", "found", "signs", "item", "one"]) (sc := defScope (topS 71)) (own := [("item", 8)]) (by decide +kernel)) (fun _ _ _ _ _ => (t_name sc__law_ch_raw.nd)) (fun _ _ _ _ _ => ts_nil) (fun _ _ _ _ _ => (d_tup (d_cons (d_op o_sub d_int (d_op o_mul d_int (d_callTy c_int (by rfl) T.b_int (by decide +kernel) (d_cons (d_cmp (o_eq hr.units) (d_ixV 8 d_int) (dv 4) (nomark _)) d_nil)))) (d_cons (d_op o_sub d_int (d_op o_mul d_int (d_callTy c_int (by rfl) T.b_int (by decide +kernel) (d_cons (d_cmp (o_eq hr.units) (d_ixV 8 d_int) (dv 4) (nomark _)) d_nil)))) d_nil)))) (sw_true rfl rfl rfl (by decide +kernel)))
      (g_cons (g_setO (i := 6) sc__law_ch_raw.nd (d_lst d_nil))
      (g_cons (g_for (vs := [8, 9]) PassesOwn.never rfl (i_zipTL T.b_zip (dv 1) (dv 7)) (t_tup rfl (t_cons (t_name sc__law_ch_raw.nd) (t_cons (t_name sc__law_ch_raw.nd) t_nil))) (g_one (g_app 6 (d_tup (d_cons (d_ixV 8 d_int) (d_cons (d_op o_mul (d_ixV 8 d_int) (d_ixV 9 d_int)) (d_cons (d_ixV 8 d_int) (d_cons (d_op o_mul (d_ixV 8 d_int) (d_ixV 9 d_int)) d_nil))))))))
      (g_one (g_ret (d_tup (d_cons (dv 0) (d_cons (dv 6) d_nil)))))))) g_nil)
      (g_cons (g_if (DPW.pt (d_tand (d_cmpT (o_eq hr.units) (dv 3) d_str (nomark _)) (d_tand1 (d_cmpT o_lt (dv 4) (dv 5) (nomark _))))) (g_cons (g_set (i := 8) sc__law_ch_raw.nd (d_ixV 1 (dv 4)))
      (g_cons (g_setO (i := 6) sc__law_ch_raw.nd (d_listO T.b_list (dv 1)))
      (g_cons (g_putN 6 (d_op o_add (d_sl (dv 8) (d_oAt d_int) d_oNo) (d_sl (dv 8) d_oNo (d_oAt d_int))) (dv 4))
      (g_one (g_ret (d_tup (d_cons (dv 0) (d_cons (dv 6) d_nil)))))))) g_nil)
      (g_one (g_ret d_non)))))))))))
theorem kn__law_ch_raw (T : Txt K mg) : Kn P w K mg base CX0 3 "_law_ch_raw" ["rooms_here", "doors_here", "taken"] S__law_ch_rawC := T.d__law_ch_raw.kn fun f fd F => fn_ok F sc__law_ch_raw (fun cdv A outer s H E hr => b__law_ch_raw T (kn__law_ch_is_step T) (kn__law_ch_slid T) (kn__law_is_whole T) (kn__law_ch_fold T) (kn__law_ch_folded T) hr) fun ds T post ex hl hS => m__law_ch_rawC ds T post (fun _ _ _ => False) hl hS
theorem sc__law_ch_behind : FnScope ["rooms_here", "doors_here", "taken", "found", "item"] ["rooms_here", "doors_here", "taken"] (defScope (topS 72)) := ⟨rfl, rfl, rfl, by decide +kernel, rfl, by decide +kernel, by decide +kernel⟩
theorem b__law_ch_behind (T : Txt K mg) (k__law_ch_raw : Kn P w K mg base CX0 3 "_law_ch_raw" ["rooms_here", "doors_here", "taken"] S__law_ch_rawC) (k__law_ch_is_door : Kn P w K mg base CX0 2 "_law_ch_is_door" ["taken", "rooms_here"] S__law_ch_is_doorC) {f : Addr} {cdv : Value} {A : Around} {outer : List Env} {s : Shared} {H : Hp} {E : XK} (hr : Room 3 (A.deeper (PyProof.Rows.envOfC "_law_ch_behind" (defScope (topS 72)) s.heap.objs.size f cdv))) :
    DPSs (cxOf CX0 P w K mg base ["rooms_here", "doors_here", "taken", "found", "item"] "_law_ch_behind" (defScope (topS 72)) f cdv A outer s H E).nox W0 (defBody (topS 72)) G__law_ch_behindC := by
  exact (g_cons (g_set (i := 3) sc__law_ch_behind.nd (d_call k__law_ch_raw (hr.mono (by decide)) (d_cons (dv 0) (d_cons (dv 1) (d_cons (dv 2) d_nil)))))
      (g_cons (g_if (DPW.pt (d_tor (d_cmpT o_isN (dv 3) d_non (nomark _)) (d_tor (d_cmpT o_gt (d_ixV 3 d_int) d_int (nomark _)) (d_tor1 (d_cmpT o_gt (d_callB c_len (by rfl) T.b_len (by decide +kernel) (d_cons (d_ixV 3 d_int) d_nil)) d_int (nomark _)))))) (g_one (g_ret d_non)) g_nil)
      (g_cons (g_if (d_cmpT (o_ne hr.units) (d_ofO (d_lc rfl sc__law_ch_behind.nd (i_seq (d_ixV 3 d_int)) (blkOk_by (N := ["rooms_here", "doors_here", "taken", "found", "item"]) (sc := defScope (topS 72)) (own := [("item", 4)]) (by decide +kernel)) (fun _ _ _ _ _ => (t_name sc__law_ch_behind.nd)) (fun _ _ _ _ _ => (ts_one (d_tnot (d_test (d_call k__law_ch_is_door (hr.mono (by decide)) (d_cons (dv 4) (d_cons (d_ixV 3 d_int) d_nil))))))) (fun _ _ _ _ _ => d_int))) (d_ofO (d_lst d_nil)) (nomark _)) (g_one (g_ret d_non)) g_nil)
      (g_one (g_ret (d_tup (d_cons (d_ixV 3 d_int) (d_cons (d_callTy c_tuple (by rfl) T.b_tuple (by decide +kernel) (d_cons (d_ixV 3 d_int) d_nil)) d_nil))))))))
theorem kn__law_ch_behind (T : Txt K mg) : Kn P w K mg base CX0 4 "_law_ch_behind" ["rooms_here", "doors_here", "taken"] S__law_ch_behindC := T.d__law_ch_behind.kn fun f fd F => fn_ok F sc__law_ch_behind (fun cdv A outer s H E hr => b__law_ch_behind T (kn__law_ch_raw T) (kn__law_ch_is_door T) hr) fun ds T post ex hl hS => m__law_ch_behindC ds T post (fun _ _ _ => False) hl hS
theorem sc__law_ch_slides : FnScope ["doors_here", "found", "end", "over"] ["doors_here"] (defScope (topS 73)) := ⟨rfl, rfl, rfl, by decide +kernel, rfl, by decide +kernel, by decide +kernel⟩
theorem b__law_ch_slides (T : Txt K mg) (k__law_sides : Kn P w K mg base CX0 1 "_law_sides" ["many"] S__law_sides) (k__law_ch_slid : Kn P w K mg base CX0 2 "_law_ch_slid" ["doors_here", "end", "over"] S__law_ch_slid) {f : Addr} {cdv : Value} {A : Around} {outer : List Env} {s : Shared} {H : Hp} {E : XK} (hr : Room 2 (A.deeper (PyProof.Rows.envOfC "_law_ch_slides" (defScope (topS 73)) s.heap.objs.size f cdv))) :
    DPSs (cxOf CX0 P w K mg base ["doors_here", "found", "end", "over"] "_law_ch_slides" (defScope (topS 73)) f cdv A outer s H E).nox W0 (defBody (topS 73)) G__law_ch_slides := by
  exact (g_cons (g_setO (i := 1) sc__law_ch_slides.nd (d_lst d_nil))
      (g_cons (g_for (vs := [2]) PassesOwn.never rfl (i_seq (d_call k__law_sides (hr.mono (by decide)) (d_cons (d_callB c_len (by rfl) T.b_len (by decide +kernel) (d_cons (dv 0) d_nil)) d_nil))) (t_name sc__law_ch_slides.nd) (g_one (g_for (vs := [3]) PassesOwn.never rfl (i_seq (d_call k__law_sides (hr.mono (by decide)) (d_cons (d_callB c_len (by rfl) T.b_len (by decide +kernel) (d_cons (dv 0) d_nil)) d_nil))) (t_name sc__law_ch_slides.nd) (g_one (g_if (d_cmpT o_notN (d_call k__law_ch_slid (hr.mono (by decide)) (d_cons (dv 0) (d_cons (dv 2) (d_cons (dv 3) d_nil)))) d_non (nomark _)) (g_one (g_app 1 (d_tup (d_cons d_str (d_cons (dv 2) (d_cons (dv 3) d_nil)))))) g_nil)))))
      (g_one (g_ret (dv 1)))))
theorem kn__law_ch_slides (T : Txt K mg) : Kn P w K mg base CX0 3 "_law_ch_slides" ["doors_here"] S__law_ch_slides := T.d__law_ch_slides.kn fun f fd F => fn_ok F sc__law_ch_slides (fun cdv A outer s H E hr => b__law_ch_slides T (kn__law_sides T) (kn__law_ch_slid T) hr) fun ds T post ex hl hS => m__law_ch_slides ds T post (fun _ _ _ => False) hl hS
theorem sc__law_ch_change : FnScope ["state", "rooms_here", "doors_here", "way", "some", "size_here", "spot", "item"] ["state", "rooms_here", "doors_here"] (defScope (topS 74)) := ⟨rfl, rfl, rfl, by decide +kernel, rfl, by decide +kernel, by decide +kernel⟩
theorem b__law_ch_change (T : Txt K mg) (k__law_draw : Kn P w K mg base CX0 2 "_law_draw" ["state", "size_here"] S__law_draw) (k__law_ch_fold : Kn P w K mg base CX0 1 "_law_ch_fold" ["doors_here", "spot"] S__law_ch_fold) (k__law_ch_slides : Kn P w K mg base CX0 3 "_law_ch_slides" ["doors_here"] S__law_ch_slides) (k__law_pick : Kn P w K mg base CX0 3 "_law_pick" ["state", "several"] S__law_pick) (k__law_ch_behind : Kn P w K mg base CX0 4 "_law_ch_behind" ["rooms_here", "doors_here", "taken"] S__law_ch_behindC) {f : Addr} {cdv : Value} {A : Around} {outer : List Env} {s : Shared} {H : Hp} {E : XK} (hr : Room 4 (A.deeper (PyProof.Rows.envOfC "_law_ch_change" (defScope (topS 74)) s.heap.objs.size f cdv))) :
    DPSs (cxOf CX0 P w K mg base ["state", "rooms_here", "doors_here", "way", "some", "size_here", "spot", "item"] "_law_ch_change" (defScope (topS 74)) f cdv A outer s H E).nox W0 (defBody (topS 74)) G__law_ch_changeC := by
  exact (g_cons (g_par (i := 3) (j := 4) rfl sc__law_ch_change.nd (d_cons (d_call k__law_draw (hr.mono (by decide)) (d_cons (dv 0) (d_cons d_int d_nil))) (d_cons (d_ofO (d_lst d_nil)) d_nil)))
      (g_cons (g_if (d_cmpT o_lt (dv 3) d_int (nomark _)) (g_one (g_setLcF (i := 4) rfl sc__law_ch_change.nd (i_range1 T.b_range (d_callB c_len (by rfl) T.b_len (by decide +kernel) (d_cons (dv 2) d_nil))) (blkOk_by (N := ["state", "rooms_here", "doors_here", "way", "some", "size_here", "spot", "item"]) (sc := defScope (topS 74)) (own := [("spot", 6)]) (by decide +kernel)) (fun _ _ _ _ _ => (t_name sc__law_ch_change.nd)) (fun _ _ _ _ _ => (ts_one (d_cmpT o_notN (d_call k__law_ch_fold (hr.mono (by decide)) (d_cons (dv 2) (d_cons (dv 6) d_nil))) d_non (nomark _)))) (fun _ _ _ _ _ => (d_tup (d_cons d_str (d_cons (dv 6) d_nil)))) (sw_true rfl rfl rfl (by decide +kernel)))) (g_one (g_if (d_cmpT o_lt (dv 3) d_int (nomark _)) (g_one (g_set (i := 4) sc__law_ch_change.nd (d_call k__law_ch_slides (hr.mono (by decide)) (d_cons (dv 2) d_nil)))) (g_one (g_if (d_cmpT (o_eq hr.units) (dv 3) d_int (nomark _)) (g_one (g_setLcF (i := 4) rfl sc__law_ch_change.nd (i_range1 T.b_range (d_callB c_len (by rfl) T.b_len (by decide +kernel) (d_cons (dv 2) d_nil))) (blkOk_by (N := ["state", "rooms_here", "doors_here", "way", "some", "size_here", "spot", "item"]) (sc := defScope (topS 74)) (own := [("spot", 6)]) (by decide +kernel)) (fun _ _ _ _ _ => (t_name sc__law_ch_change.nd)) (fun _ _ _ _ _ => ts_nil) (fun _ _ _ _ _ => (d_tup (d_cons d_str (d_cons (dv 6) d_nil)))) (sw_true rfl rfl rfl (by decide +kernel)))) (g_one (g_if (d_cmpT (o_eq hr.units) (dv 3) d_int (nomark _)) (g_cons (g_set (i := 5) sc__law_ch_change.nd (d_call k__law_pick (hr.mono (by decide)) (d_cons (dv 0) (d_cons (d_ofO (d_lst (d_cons d_int (d_cons d_int (d_cons (d_neg d_int) (d_cons d_int (d_cons (d_neg d_int) (d_cons d_int (d_cons d_int d_nil))))))))) d_nil))))
      (g_one (g_set (i := 4) sc__law_ch_change.nd (d_ofO (d_lst (d_cons (d_tup (d_cons d_str (d_cons (d_call k__law_draw (hr.mono (by decide)) (d_cons (dv 0) (d_cons (dv 1) d_nil))) (d_cons (dv 5) (d_cons (d_call k__law_pick (hr.mono (by decide)) (d_cons (dv 0) (d_cons (d_ofO (d_lst (d_cons d_int (d_cons (d_neg d_int) d_nil)))) d_nil))) d_nil))))) d_nil)))))) g_nil)))))))
      (g_cons (g_setLcF (i := 4) rfl sc__law_ch_change.nd (i_seq (dv 4)) (blkOk_by (N := ["state", "rooms_here", "doors_here", "way", "some", "size_here", "spot", "item"]) (sc := defScope (topS 74)) (own := [("item", 7)]) (by decide +kernel)) (fun _ _ _ _ _ => (t_name sc__law_ch_change.nd)) (fun _ _ _ _ _ => (ts_one (d_cmpT o_notN (d_call k__law_ch_behind (hr.mono (by decide)) (d_cons (dv 1) (d_cons (dv 2) (d_cons (dv 7) d_nil)))) d_non (nomark _)))) (fun _ _ _ _ _ => (dv 7)) (sw_true rfl rfl rfl (by decide +kernel)))
      (g_one (g_ret (d_ifE (d_cmpT (o_ne hr.units) (dv 4) (d_ofO (d_lst d_nil)) (nomark _)) (d_call k__law_pick (hr.mono (by decide)) (d_cons (dv 0) (d_cons (dv 4) d_nil))) (d_tup (d_cons d_str (d_cons (d_call k__law_draw (hr.mono (by decide)) (d_cons (dv 0) (d_cons (dv 1) d_nil))) d_nil)))))))))
theorem kn__law_ch_change (T : Txt K mg) : Kn P w K mg base CX0 5 "_law_ch_change" ["state", "rooms_here", "doors_here"] S__law_ch_changeC := T.d__law_ch_change.kn fun f fd F => fn_ok F sc__law_ch_change (fun cdv A outer s H E hr => b__law_ch_change T (kn__law_draw T) (kn__law_ch_fold T) (kn__law_ch_slides T) (kn__law_pick T) (kn__law_ch_behind T) hr) fun ds T post ex hl hS => m__law_ch_changeC ds T post (fun _ _ _ => False) hl hS
theorem sc__law_ch_room : FnScope ["doors_here", "change_here", "room_here", "gone", "kept", "factor"] ["doors_here", "change_here", "room_here"] (defScope (topS 75)) := ⟨rfl, rfl, rfl, by decide +kernel, rfl, by decide +kernel, by decide +kernel⟩
theorem b__law_ch_room (T : Txt K mg) (k__law_ch_fold : Kn P w K mg base CX0 1 "_law_ch_fold" ["doors_here", "spot"] S__law_ch_fold) (k__law_ch_less : Kn P w K mg base CX0 1 "_law_ch_less" ["item", "gone"] S__law_ch_less) {f : Addr} {cdv : Value} {A : Around} {outer : List Env} {s : Shared} {H : Hp} {E : XK} (hr : Room 1 (A.deeper (PyProof.Rows.envOfC "_law_ch_room" (defScope (topS 75)) s.heap.objs.size f cdv))) :
    DPSs (cxOf CX0 P w K mg base ["doors_here", "change_here", "room_here", "gone", "kept", "factor"] "_law_ch_room" (defScope (topS 75)) f cdv A outer s H E).nox W0 (defBody (topS 75)) G__law_ch_room := by
  exact (g_cons (g_if (d_cmpT (o_ne hr.units) (d_ixV 1 d_int) d_str (nomark _)) (g_one (g_ret (dv 2))) g_nil)
      (g_cons (g_unp (vs := [3, 4, 5]) (t_tup rfl (t_cons (t_name sc__law_ch_room.nd) (t_cons (t_name sc__law_ch_room.nd) (t_cons (t_name sc__law_ch_room.nd) t_nil)))) (d_call k__law_ch_fold (hr.mono (by decide)) (d_cons (dv 0) (d_cons (d_ixV 1 d_int) d_nil))))
      (g_one (g_ret (d_call k__law_ch_less (hr.mono (by decide)) (d_cons (d_ifE (d_cmpT (o_eq hr.units) (dv 2) (dv 3) (nomark _)) (dv 4) (dv 2)) (d_cons (dv 3) d_nil)))))))
theorem kn__law_ch_room (T : Txt K mg) : Kn P w K mg base CX0 2 "_law_ch_room" ["doors_here", "change_here", "room_here"] S__law_ch_room := T.d__law_ch_room.kn fun f fd F => fn_ok F sc__law_ch_room (fun cdv A outer s H E hr => b__law_ch_room T (kn__law_ch_fold T) (kn__law_ch_less T) hr) fun ds T post ex hl hS => m__law_ch_room ds T post (fun _ _ _ => False) hl hS
theorem sc__law_ch_run : FnScope ["state", "rooms_here", "doors_here", "many", "changes_here", "found", "turn", "change_here"] ["state", "rooms_here", "doors_here", "many"] (defScope (topS 76)) := ⟨rfl, rfl, rfl, by decide +kernel, rfl, by decide +kernel, by decide +kernel⟩
theorem b__law_ch_run (T : Txt K mg) (k__law_ch_change : Kn P w K mg base CX0 5 "_law_ch_change" ["state", "rooms_here", "doors_here"] S__law_ch_changeC) (k__law_ch_behind : Kn P w K mg base CX0 4 "_law_ch_behind" ["rooms_here", "doors_here", "taken"] S__law_ch_behindC) {f : Addr} {cdv : Value} {A : Around} {outer : List Env} {s : Shared} {H : Hp} {E : XK} (hr : Room 5 (A.deeper (PyProof.Rows.envOfC "_law_ch_run" (defScope (topS 76)) s.heap.objs.size f cdv))) :
    DPSs (cxOf CX0 P w K mg base ["state", "rooms_here", "doors_here", "many", "changes_here", "found", "turn", "change_here"] "_law_ch_run" (defScope (topS 76)) f cdv A outer s H E).nox W0 (defBody (topS 76)) G__law_ch_run := by
  exact (g_cons (g_parOO (i := 4) (j := 5) rfl sc__law_ch_run.nd (d_lst d_nil) (d_lst (d_cons (d_tup (d_cons (dv 1) (d_cons (dv 2) d_nil))) d_nil)))
      (g_cons (g_for (vs := [6]) PassesOwn.never rfl (i_range1 T.b_range (dv 3)) (t_name sc__law_ch_run.nd) (g_cons (g_set (i := 7) sc__law_ch_run.nd (d_call k__law_ch_change (hr.mono (by decide)) (d_cons (dv 0) (d_cons (d_ix (d_ixV 5 (d_neg d_int)) d_int) (d_cons (d_ix (d_ixV 5 (d_neg d_int)) d_int) d_nil)))))
      (g_cons (g_app 4 (dv 7))
      (g_one (g_app 5 (d_call k__law_ch_behind (hr.mono (by decide)) (d_cons (d_ix (d_ixV 5 (d_neg d_int)) d_int) (d_cons (d_ix (d_ixV 5 (d_neg d_int)) d_int) (d_cons (dv 7) d_nil)))))))))
      (g_one (g_ret (d_tup (d_cons (dv 4) (d_cons (dv 5) d_nil)))))))
theorem kn__law_ch_run (T : Txt K mg) : Kn P w K mg base CX0 6 "_law_ch_run" ["state", "rooms_here", "doors_here", "many"] S__law_ch_run := T.d__law_ch_run.kn fun f fd F => fn_ok F sc__law_ch_run (fun cdv A outer s H E hr => b__law_ch_run T (kn__law_ch_change T) (kn__law_ch_behind T) hr) fun ds T post ex hl hS => m__law_ch_run ds T post (fun _ _ _ => False) hl hS
theorem sc__law_ch_odd : FnScope ["state"] ["state"] (defScope (topS 77)) := ⟨rfl, rfl, rfl, by decide +kernel, rfl, by decide +kernel, by decide +kernel⟩
theorem b__law_ch_odd (T : Txt K mg) (k__law_pick : Kn P w K mg base CX0 3 "_law_pick" ["state", "several"] S__law_pick) {f : Addr} {cdv : Value} {A : Around} {outer : List Env} {s : Shared} {H : Hp} {E : XK} (hr : Room 3 (A.deeper (PyProof.Rows.envOfC "_law_ch_odd" (defScope (topS 77)) s.heap.objs.size f cdv))) :
    DPSs (cxOf CX0 P w K mg base ["state"] "_law_ch_odd" (defScope (topS 77)) f cdv A outer s H E).nox W0 (defBody (topS 77)) G__law_ch_odd := by
  exact (g_one (g_ret (d_call k__law_pick (hr.mono (by decide)) (d_cons (dv 0) (d_cons (d_ofO (d_lst (d_cons d_non (d_cons d_int (d_cons d_bl (d_cons d_str (d_cons (d_tup d_nil) (d_cons (d_ofO (d_lst d_nil)) (d_cons (d_ofO d_dict0) (d_cons (d_tup (d_cons d_str d_nil)) (d_cons (d_tup (d_cons d_int (d_cons d_int d_nil))) (d_cons (d_tup (d_cons d_str (d_cons d_bl d_nil))) (d_cons (d_ofO (d_lst (d_cons d_str (d_cons d_int d_nil)))) d_nil))))))))))))) d_nil)))))
theorem kn__law_ch_odd (T : Txt K mg) : Kn P w K mg base CX0 4 "_law_ch_odd" ["state"] S__law_ch_odd := T.d__law_ch_odd.kn fun f fd F => fn_ok F sc__law_ch_odd (fun cdv A outer s H E hr => b__law_ch_odd T (kn__law_pick T) hr) fun ds T post ex hl hS => m__law_ch_odd ds T post (fun _ _ _ => False) hl hS
theorem sc__law_near_changes : FnScope ["state", "rooms_here", "doors_here", "one", "other", "some", "step", "over", "found"] ["state", "rooms_here", "doors_here"] (defScope (topS 78)) := ⟨rfl, rfl, rfl, by decide +kernel, rfl, by decide +kernel, by decide +kernel⟩
theorem b__law_near_changes (T : Txt K mg) (k__law_draw : Kn P w K mg base CX0 2 "_law_draw" ["state", "size_here"] S__law_draw) (k__law_sides : Kn P w K mg base CX0 1 "_law_sides" ["many"] S__law_sides) (k__law_pick : Kn P w K mg base CX0 3 "_law_pick" ["state", "several"] S__law_pick) (k__law_ch_odd : Kn P w K mg base CX0 4 "_law_ch_odd" ["state"] S__law_ch_odd) {f : Addr} {cdv : Value} {A : Around} {outer : List Env} {s : Shared} {H : Hp} {E : XK} (hr : Room 4 (A.deeper (PyProof.Rows.envOfC "_law_near_changes" (defScope (topS 78)) s.heap.objs.size f cdv))) :
    DPSs (cxOf CX0 P w K mg base ["state", "rooms_here", "doors_here", "one", "other", "some", "step", "over", "found"] "_law_near_changes" (defScope (topS 78)) f cdv A outer s H E).nox W0 (defBody (topS 78)) G__law_near_changes := by
  exact (g_cons (g_par (i := 3) (j := 4) rfl sc__law_near_changes.nd (d_cons (d_call k__law_draw (hr.mono (by decide)) (d_cons (dv 0) (d_cons (d_op o_add (d_callB c_len (by rfl) T.b_len (by decide +kernel) (d_cons (dv 2) d_nil)) d_int) d_nil))) (d_cons (d_call k__law_draw (hr.mono (by decide)) (d_cons (dv 0) (d_cons (d_op o_add (dv 1) d_int) d_nil))) d_nil)))
      (g_cons (g_set (i := 5) sc__law_near_changes.nd (d_op o_add (d_call k__law_sides (hr.mono (by decide)) (d_cons (d_callB c_len (by rfl) T.b_len (by decide +kernel) (d_cons (dv 2) d_nil)) d_nil)) (d_ofO (d_lst (d_cons (d_tup (d_cons (d_callB c_len (by rfl) T.b_len (by decide +kernel) (d_cons (dv 2) d_nil)) (d_cons d_int d_nil))) (d_cons (d_tup (d_cons d_int (d_cons d_int d_nil))) d_nil))))))
      (g_cons (g_par (i := 6) (j := 7) rfl sc__law_near_changes.nd (d_cons (d_call k__law_pick (hr.mono (by decide)) (d_cons (dv 0) (d_cons (dv 5) d_nil))) (d_cons (d_call k__law_pick (hr.mono (by decide)) (d_cons (dv 0) (d_cons (dv 5) d_nil))) d_nil)))
      (g_cons (g_setO (i := 8) sc__law_near_changes.nd (d_lst (d_cons (d_tup (d_cons d_str (d_cons (dv 3) d_nil))) (d_cons (d_tup (d_cons d_str (d_cons (d_op o_sub d_int (dv 3)) d_nil))) (d_cons (d_tup (d_cons d_str (d_cons (dv 4) d_nil))) (d_cons (d_tup (d_cons d_str (d_cons (dv 3) d_nil))) (d_cons (d_tup (d_cons d_str (d_cons d_bl d_nil))) (d_cons (d_tup (d_cons d_str (d_cons d_non d_nil))) d_nil))))))))
      (g_cons (g_setO (i := 8) sc__law_near_changes.nd (d_catO (dv 8) (d_ofO (d_lst (d_cons (d_tup (d_cons d_str (d_cons (dv 6) (d_cons (dv 7) d_nil)))) (d_cons (d_tup (d_cons d_str (d_cons (dv 7) (d_cons (dv 6) d_nil)))) (d_cons (d_tup (d_cons d_str (d_cons (dv 6) (d_cons (dv 6) d_nil)))) (d_cons (d_tup (d_cons d_str (d_cons (dv 6) d_nil))) d_nil))))))))
      (g_cons (g_setO (i := 8) sc__law_near_changes.nd (d_catO (dv 8) (d_ofO (d_lst (d_cons (d_tup (d_cons d_str (d_cons (d_ofO (d_listO T.b_list (dv 6))) (d_cons (dv 7) d_nil)))) (d_cons (d_tup (d_cons d_str (d_cons (dv 4) (d_cons d_int (d_cons d_int d_nil))))) (d_cons (d_tup (d_cons d_str (d_cons (dv 4) (d_cons d_int (d_cons (d_neg d_int) d_nil))))) d_nil)))))))
      (g_cons (g_app 8 (d_tup (d_cons d_str (d_cons (dv 4) (d_cons d_int (d_cons d_int d_nil))))))
      (g_cons (g_setO (i := 8) sc__law_near_changes.nd (d_catO (dv 8) (d_ofO (d_lst (d_cons (d_tup (d_cons d_str (d_cons (dv 4) (d_cons d_int (d_cons d_int d_nil))))) (d_cons (d_tup (d_cons d_str (d_cons (dv 4) (d_cons d_int (d_cons d_int d_nil))))) (d_cons (d_tup (d_cons d_str (d_cons (dv 4) (d_cons d_int (d_cons d_bl d_nil))))) (d_cons (d_tup (d_cons d_str (d_cons (dv 4) (d_cons d_bl (d_cons d_int d_nil))))) d_nil))))))))
      (g_cons (g_setO (i := 8) sc__law_near_changes.nd (d_catO (dv 8) (d_ofO (d_lst (d_cons (d_tup (d_cons d_str (d_cons (dv 4) (d_cons d_int d_nil)))) (d_cons (d_tup (d_cons d_str (d_cons (dv 3) (d_cons d_int d_nil)))) (d_cons (d_tup (d_cons d_str (d_cons (dv 3) (d_cons (dv 3) d_nil)))) (d_cons (d_ofO (d_lst (d_cons d_str (d_cons d_int d_nil)))) (d_cons (d_tup (d_cons d_str (d_cons d_int d_nil))) (d_cons (d_tup (d_cons d_str (d_cons d_int d_nil))) d_nil))))))))))
      (g_one (g_ret (d_op o_add (dv 8) (d_ofO (d_lst (d_cons (d_call k__law_ch_odd (hr.mono (by decide)) (d_cons (dv 0) d_nil)) (d_cons (d_tup (d_cons (d_tup (d_cons d_str (d_cons d_int d_nil))) d_nil)) (d_cons (d_tup (d_cons d_str (d_cons (d_tup (d_cons d_int d_nil)) d_nil))) d_nil)))))))))))))))))
theorem kn__law_near_changes (T : Txt K mg) : Kn P w K mg base CX0 5 "_law_near_changes" ["state", "rooms_here", "doors_here"] S__law_near_changes := T.d__law_near_changes.kn fun f fd F => fn_ok F sc__law_near_changes (fun cdv A outer s H E hr => b__law_near_changes T (kn__law_draw T) (kn__law_sides T) (kn__law_pick T) (kn__law_ch_odd T) hr) fun ds T post ex hl hS => m__law_near_changes ds T post (fun _ _ _ => False) hl hS
theorem sc_is_door : FnScope ["rooms", "thing", "near", "first", "far", "second", "joins"] ["rooms", "thing"] (defScope (topS 24)) := ⟨rfl, rfl, rfl, by decide +kernel, rfl, by decide +kernel, by decide +kernel⟩
theorem b_is_door (T : Txt K mg) (k_is_tuple_of : Kn P w K mg base CX0 1 "is_tuple_of" ["thing", "many"] S_is_tuple_of) (k_is_number_within : Kn P w K mg base CX0 2 "is_number_within" ["thing", "low", "high"] S_is_number_within) (k_is_door_number_houses : Kn P w K mg base CX0 3 "is_door_number_houses" ["thing"] S__is_door_number) {f : Addr} {cdv : Value} {A : Around} {outer : List Env} {s : Shared} {H : Hp} {E : XK} (hr : Room 3 (A.deeper (PyProof.Rows.envOfC "is_door" (defScope (topS 24)) s.heap.objs.size f cdv))) :
    DPSs (cxOf CX0 P w K mg base ["rooms", "thing", "near", "first", "far", "second", "joins"] "is_door" (defScope (topS 24)) f cdv A outer s H E).nox W0 (defBody (topS 24)) G_is_door := by
  exact (g_cons (g_if (d_tnot (d_test (d_call k_is_tuple_of (hr.mono (by decide)) (d_cons (dv 1) (d_cons d_int d_nil))))) (g_one (g_ret d_bl)) g_nil)
      (g_cons (g_unp (vs := [2, 3, 4, 5]) (t_tup rfl (t_cons (t_name sc_is_door.nd) (t_cons (t_name sc_is_door.nd) (t_cons (t_name sc_is_door.nd) (t_cons (t_name sc_is_door.nd) t_nil))))) (dv 1))
      (g_cons (g_set (i := 6) sc_is_door.nd (d_and (d_call k_is_number_within (hr.mono (by decide)) (d_cons (dv 2) (d_cons d_int (d_cons (d_op o_sub (dv 0) d_int) d_nil)))) (d_one (d_call k_is_number_within (hr.mono (by decide)) (d_cons (dv 4) (d_cons d_int (d_cons (d_op o_sub (dv 0) d_int) d_nil)))))))
      (g_one (g_ret (d_and (dv 6) (d_and (d_call k_is_door_number_houses (hr.mono (by decide)) (d_cons (dv 3) d_nil)) (d_one (d_call k_is_door_number_houses (hr.mono (by decide)) (d_cons (dv 5) d_nil))))))))))
theorem kn_is_door (T : Txt K mg) : Kn P w K mg base CX0 4 "is_door" ["rooms", "thing"] S_is_door := T.d_is_door.kn fun f fd F => fn_ok F sc_is_door (fun cdv A outer s H E hr => b_is_door T (kn_is_tuple_of T) (kn_is_number_within T) (kn_is_door_number_houses T) hr) fun ds T post ex hl hS => m_is_door ds T post (fun _ _ _ => False) hl hS
theorem sc_are_doors : FnScope ["rooms", "thing", "door"] ["rooms", "thing"] (defScope (topS 27)) := ⟨rfl, rfl, rfl, by decide +kernel, rfl, by decide +kernel, by decide +kernel⟩
theorem b_are_doors (T : Txt K mg) (k_is_door : Kn P w K mg base CX0 4 "is_door" ["rooms", "thing"] S_is_door) {f : Addr} {cdv : Value} {A : Around} {outer : List Env} {s : Shared} {H : Hp} {E : XK} (hr : Room 4 (A.deeper (PyProof.Rows.envOfC "are_doors" (defScope (topS 27)) s.heap.objs.size f cdv))) :
    DPSs (cxOf CX0 P w K mg base ["rooms", "thing", "door"] "are_doors" (defScope (topS 27)) f cdv A outer s H E).nox W0 (defBody (topS 27)) G_are_doors := by
  exact (g_cons (g_if (DPW.pt (d_tor (d_tnot (d_test (d_isTy T.b_isinstance T.b_tuple (by decide +kernel) (dv 1)))) (d_tor1 (d_cmpT o_gt (d_callB c_len (by rfl) T.b_len (by decide +kernel) (d_cons (dv 1) d_nil)) (d_gint T.c_MOST_DOORS) (nomark _))))) (g_one (g_ret d_bl)) g_nil)
      (g_one (g_ret (d_callB (c_all (cr_all rfl)) (by rfl) T.b_all (by decide +kernel) (d_cons (d_ofO (d_lc rfl sc_are_doors.nd (i_seq (dv 1)) (blkOk_by (N := ["rooms", "thing", "door"]) (sc := defScope (topS 27)) (own := [("door", 2)]) (by decide +kernel)) (fun _ _ _ _ _ => (t_name sc_are_doors.nd)) (fun _ _ _ _ _ => ts_nil) (fun _ _ _ _ _ => (d_call k_is_door (hr.mono (by decide)) (d_cons (dv 0) (d_cons (dv 2) d_nil)))))) d_nil)))))
theorem kn_are_doors (T : Txt K mg) : Kn P w K mg base CX0 5 "are_doors" ["rooms", "thing"] S_are_doors := T.d_are_doors.kn fun f fd F => fn_ok F sc_are_doors (fun cdv A outer s H E hr => b_are_doors T (kn_is_door T) hr) fun ds T post ex hl hS => m_are_doors ds T post (fun _ _ _ => False) hl hS
theorem sc__folded : FnScope ["house", "at", "gone", "_", "doors", "near", "first", "far", "second"] ["house", "at"] (defScope (topS 45)) := ⟨rfl, rfl, rfl, by decide +kernel, rfl, by decide +kernel, by decide +kernel⟩
theorem b__folded (T : Txt K mg) (k_is_door_number_changing : Kn P w K mg base CX0 3 "is_door_number_changing" ["house", "thing"] S_is_door_number_changing) (k_can_be_folded : Kn P w K mg base CX0 1 "can_be_folded" ["door"] S_can_be_foldedC) (k_fold_of : Kn P w K mg base CX0 1 "fold_of" ["door"] S_fold_ofC) (k_doors_behind : Kn P w K mg base CX0 2 "doors_behind" ["doors", "at"] S_doors_behindC) (k__lowered : Kn P w K mg base CX0 1 "_lowered" ["number", "gone"] S__loweredC) {f : Addr} {cdv : Value} {A : Around} {outer : List Env} {s : Shared} {H : Hp} {E : XK} (hr : Room 3 (A.deeper (PyProof.Rows.envOfC "_folded" (defScope (topS 45)) s.heap.objs.size f cdv))) :
    DPSs (cxOf CX0 P w K mg base ["house", "at", "gone", "_", "doors", "near", "first", "far", "second"] "_folded" (defScope (topS 45)) f cdv A outer s H E).nox W0 (defBody (topS 45)) G__foldedC := by
  exact (g_cons (g_if (DPW.pt (d_tor (d_tnot (d_test (d_call k_is_door_number_changing (hr.mono (by decide)) (d_cons (dv 0) (d_cons (dv 1) d_nil))))) (d_tor1 (d_tnot (d_test (d_call k_can_be_folded (hr.mono (by decide)) (d_cons (d_ix (d_fld T.f_doors (dv 0)) (dv 1)) d_nil))))))) (g_one (g_ret d_non)) g_nil)
      (g_cons (g_unp (vs := [2, 3, 3]) (t_tup rfl (t_cons (t_name sc__folded.nd) (t_cons (t_name sc__folded.nd) (t_cons (t_name sc__folded.nd) t_nil)))) (d_call k_fold_of (hr.mono (by decide)) (d_cons (d_ix (d_fld T.f_doors (dv 0)) (dv 1)) d_nil)))
      (g_cons (g_setLcF (i := 4) rfl sc__folded.nd (i_seq (d_call k_doors_behind (hr.mono (by decide)) (d_cons (d_fld T.f_doors (dv 0)) (d_cons (dv 1) d_nil)))) (blkOk_by (N := ["house", "at", "gone", "_", "doors", "near", "first", "far", "second"]) (sc := defScope (topS 45)) (own := [("near", 5), ("first", 6), ("far", 7), ("second", 8)]) (by decide +kernel)) (fun _ _ _ _ _ => (t_tup rfl (t_cons (t_name sc__folded.nd) (t_cons (t_name sc__folded.nd) (t_cons (t_name sc__folded.nd) (t_cons (t_name sc__folded.nd) t_nil)))))) (fun _ _ _ _ _ => ts_nil) (fun _ _ _ _ _ => (d_tup (d_cons (d_call k__lowered (hr.mono (by decide)) (d_cons (dv 5) (d_cons (dv 2) d_nil))) (d_cons (dv 6) (d_cons (d_call k__lowered (hr.mono (by decide)) (d_cons (dv 7) (d_cons (dv 2) d_nil))) (d_cons (dv 8) d_nil)))))) (sw_true rfl rfl rfl (by decide +kernel)))
      (g_one (g_ret (d_tup (d_cons (d_op o_sub (d_fld T.f_rooms (dv 0)) d_int) (d_cons (dv 4) d_nil))))))))
theorem kn__folded (T : Txt K mg) : Kn P w K mg base CX0 4 "_folded" ["house", "at"] S__foldedC := T.d__folded.kn fun f fd F => fn_ok F sc__folded (fun cdv A outer s H E hr => b__folded T (kn_is_door_number_changing T) (kn_can_be_folded T) (kn_fold_of T) (kn_doors_behind T) (kn__lowered T) hr) fun ds T post ex hl hS => m__foldedC ds T post (fun _ _ _ => False) hl hS
theorem sc__told : FnScope ["house", "thing", "word", "what", "_", "room", "first", "second"] ["house", "thing"] (defScope (topS 42)) := ⟨rfl, rfl, rfl, by decide +kernel, rfl, by decide +kernel, by decide +kernel⟩
theorem b__told (T : Txt K mg) (k_is_tuple_of : Kn P w K mg base CX0 1 "is_tuple_of" ["thing", "many"] S_is_tuple_of) (k__folded : Kn P w K mg base CX0 4 "_folded" ["house", "at"] S__foldedC) (k__turned : Kn P w K mg base CX0 4 "_turned" ["house", "room"] S__turnedC) (k__swapped : Kn P w K mg base CX0 4 "_swapped" ["house", "at"] S__swappedC) (k__slid : Kn P w K mg base CX0 4 "_slid" ["house", "end", "over"] S__slidC) (k_is_room : Kn P w K mg base CX0 3 "is_room" ["house", "thing"] S_is_room) (k_is_number : Kn P w K mg base CX0 1 "is_number" ["thing"] S_is_number) {f : Addr} {cdv : Value} {A : Around} {outer : List Env} {s : Shared} {H : Hp} {E : XK} (hr : Room 4 (A.deeper (PyProof.Rows.envOfC "_told" (defScope (topS 42)) s.heap.objs.size f cdv))) :
    DPSs (cxOf CX0 P w K mg base ["house", "thing", "word", "what", "_", "room", "first", "second"] "_told" (defScope (topS 42)) f cdv A outer s H E).nox W0 (defBody (topS 42)) G__toldC := by
  exact (g_cons (g_if (d_test (d_call k_is_tuple_of (hr.mono (by decide)) (d_cons (dv 1) (d_cons d_int d_nil)))) (g_cons (g_unp (vs := [2, 3]) (t_tup rfl (t_cons (t_name sc__told.nd) (t_cons (t_name sc__told.nd) t_nil))) (dv 1))
      (g_cons (g_if (d_cmpT (o_eq hr.units) (dv 2) d_str (nomark _)) (g_one (g_ret (d_call k__folded (hr.mono (by decide)) (d_cons (dv 0) (d_cons (dv 3) d_nil))))) g_nil)
      (g_cons (g_if (d_cmpT (o_eq hr.units) (dv 2) d_str (nomark _)) (g_one (g_ret (d_call k__turned (hr.mono (by decide)) (d_cons (dv 0) (d_cons (dv 3) d_nil))))) g_nil)
      (g_one (g_if (d_cmpT (o_eq hr.units) (dv 2) d_str (nomark _)) (g_one (g_ret (d_call k__swapped (hr.mono (by decide)) (d_cons (dv 0) (d_cons (dv 3) d_nil))))) g_nil))))) (g_one (g_if (DPW.pt (d_tand (d_test (d_call k_is_tuple_of (hr.mono (by decide)) (d_cons (dv 1) (d_cons d_int d_nil)))) (d_tand1 (d_cmpT (o_eq hr.units) (d_ixV 1 d_int) d_str (nomark _))))) (g_one (g_ret (d_call k__slid (hr.mono (by decide)) (d_cons (dv 0) (d_cons (d_ixV 1 d_int) (d_cons (d_ixV 1 d_int) d_nil)))))) (g_one (g_if (DPW.pt (d_tand (d_test (d_call k_is_tuple_of (hr.mono (by decide)) (d_cons (dv 1) (d_cons d_int d_nil)))) (d_tand1 (d_cmpT (o_eq hr.units) (d_ixV 1 d_int) d_str (nomark _))))) (g_cons (g_unp (vs := [4, 5, 6, 7]) (t_tup rfl (t_cons (t_name sc__told.nd) (t_cons (t_name sc__told.nd) (t_cons (t_name sc__told.nd) (t_cons (t_name sc__told.nd) t_nil))))) (dv 1))
      (g_one (g_if (DPW.pt (d_tand (d_test (d_call k_is_room (hr.mono (by decide)) (d_cons (dv 0) (d_cons (dv 5) d_nil)))) (d_tand (d_test (d_call k_is_number (hr.mono (by decide)) (d_cons (dv 7) d_nil))) (d_tand1 (d_cmpT (o_eq hr.units) (d_callB c_abs (by rfl) T.b_abs (by decide +kernel) (d_cons (dv 7) d_nil)) d_int (nomark _)))))) (g_one (g_ret (d_tup (d_cons (d_op o_add (d_fld T.f_rooms (dv 0)) d_int) (d_cons (d_op o_add (d_ofO (d_listO T.b_list (d_fld T.f_doors (dv 0)))) (d_ofO (d_lst (d_cons (d_tup (d_cons (dv 5) (d_cons (dv 6) (d_cons (d_fld T.f_rooms (dv 0)) (d_cons (dv 7) d_nil))))) d_nil)))) d_nil))))) g_nil))) g_nil)))))
      (g_one (g_ret d_non)))
theorem kn__told (T : Txt K mg) : Kn P w K mg base CX0 5 "_told" ["house", "thing"] S__toldC := T.d__told.kn fun f fd F => fn_ok F sc__told (fun cdv A outer s H E hr => b__told T (kn_is_tuple_of T) (kn__folded T) (kn__turned T) (kn__swapped T) (kn__slid T) (kn_is_room T) (kn_is_number T) hr) fun ds T post ex hl hS => m__toldC ds T post (fun _ _ _ => False) hl hS
end
abbrev sHouse : Stmt := inClass (topS 22) 0
abbrev nHouse : List Str := ["self", "rooms", "doors", "apart"]
theorem sc_House : FnScope nHouse ["self", "rooms", "doors"] (defScope sHouse) := ⟨rfl, rfl, rfl, by decide +kernel, rfl, by decide +kernel, by decide +kernel⟩
section
variable {P : Program} {w : World} {K : PySem.W.Frag} {mg : Str → Option Value} {base : Heap}
theorem ok_House {f : Addr} {fd : FuncData} {k : Nat} (F : Fun K "__init__" "House.__init__" sHouse f fd) (kR : Kn P w K mg base CX0 k "is_room_count" ["thing"] S_is_room_count) (kD : Kn P w K mg base CX0 k "are_doors" ["rooms", "thing"] S_are_doors) (kA : Kn P w K mg base CX0 k "_least_apart" ["rooms", "doors"] S__least_apart)
    (xR : ExcT K mg "BadRooms") (xD : ExcT K mg "BadDoors") (cH : ∀ C, mg "House" = some (.ref C) → Cls K C ∧ NoAttr K C "rooms" ∧ NoAttr K C "doors") : FnOk P w K mg base (L2.CX P w) (k + 1) f fd ["self", "rooms", "doors"] (spI K mg "House" 2 S_House) := by
  refine F.okX sc_House (fun vs H Q E h => ?_) (fun cdv A outer s H vs Q E hr h => ?_)
  · obtain ⟨q, B, x, C, dx, ds, T, post, ex, vs', rfl, hl, _⟩ := h
    show vs'.length + 1 = 3
    omega
  · obtain ⟨q, B, x, C, dx, ds, T, post, ex, vs', rfl, hl, hC, hx, b, rp, hS, c1, c2⟩ := h
    obtain ⟨r, d, rfl, pr, pd, pds, s1, s2⟩ := hS
    obtain ⟨v1, v2, rfl, r1, r2⟩ := repL_2 rp
    obtain ⟨cl, na1, na2⟩ := cH C hC
    have nd := sc_House.nd
    have tk : Takes (cxOf (L2.CX P w) P w K mg base nHouse "House.__init__" (defScope sHouse) f cdv A outer s H E) (wE E) := takes_of rfl rfl rfl rfl
    refine ⟨_, pss_cons (ps_if (d_tnot (W := wE E) (d_test (d_call kR hr (d_cons (dv 1) d_nil)))).pt (pss_one (g_raise rfl tk xR).ps) pss_nil)
      (pss_cons (ps_if (d_tnot (W := wE E) (d_test (d_call kD hr (d_cons (dv 1) (d_cons (dv 2) d_nil))))).pt (pss_one (g_raise rfl tk xD).ps) pss_nil)
      (pss_cons (ps_set (i := 3) nd rfl (Or.inl rfl) (d_call (W := wE E) kA hr (d_cons (dv 1) (d_cons (dv 2) d_nil))).pe)
      (pss_cons (ps_if (d_cmpT (W := wE E) o_notN (dv 3) d_non (nomark _)).pt pss_never pss_nil)
      (pss_cons (ps_fld (pv 0) (pv 1) rfl) (pss_one (ps_fld (pv 0) (pv 2) rfl)))))), ?_⟩
    let σ0 : L2.St := L2.start nHouse [.ref x, v1, v2]
    let s0 : DS := ⟨[none, some (.fz r), some (.fz d), none], T⟩
    have t00 : At ⟨K, mg, q⟩ [] (Hp.less H x) B σ0 (Hp.less H x) s0 B := by
      refine ⟨b, (by show 4 ≤ 4; decide), fun i dd h => ?_, fun i dd h => ?_, fun i j dd e p h => ?_, fun y hy => absurd hy (by simp)⟩
      · match i, h with
        | 0, h => cases h
        | 1, h => cases h; exact ⟨v1, rfl, r1⟩
        | 2, h => cases h; exact ⟨v2, rfl, r2⟩
        | 3, h => cases h
        | i + 4, h => cases h
      · match i, h with
        | 0, h => cases h
        | 1, h => cases h
        | 2, h => cases h
        | 3, h => cases h
        | i + 4, h => cases h
      · match i, h with
        | 0, h => cases h
        | 1, h => cases h
        | 2, h => cases h
        | 3, h => cases h
        | i + 4, h => cases h
    have t0 := t00.holdNew (p := x) (o := .ins C dx []) less_same (fun ps z => by cases z)
    rw [upd_less hx] at t0
    have noE : ∀ {L H0 B0 σ B} {W : WX}, Exs (⟨K, mg, q⟩ : Ct) L H0 B0 σ B (fun _ _ _ => False) W := fun _ _ _ _ _ _ _ _ _ _ z => z.elim
    -- rooms
    refine ⟨q, _, _, B, s0, B, fun k s' => s' = s0 ∧ k = !(within r 1 12), fun _ _ _ => False, t0, ⟨rfl, r, rfl, pr, rfl, rfl⟩, fun k H1 s1' B1 t1 l1 ⟨e1, e2⟩ => ?_, noE⟩
    subst e1
    have raise : ∀ {n : Str} {σ H1 B1} {D' : Ends}, At (⟨K, mg, q⟩ : Ct) [(x, .ins C dx [])] (Hp.less H x) B σ H1 s0 B1 → ex n [] T → LftS (cxOf (L2.CX P w) P w K mg base nHouse "House.__init__" (defScope sHouse) f cdv A outer s H E) (wE E) (gRaise n) D' σ H1 := fun {n σ H1 B1 D'} t1 hx => by
      refine ⟨q, _, _, B, s0, B1, { nx := fun _ => False, rt := fun _ _ => False, bk := fun _ => False, ct := fun _ => False, ex := fun n' fs s' => n' = n ∧ fs = [] ∧ s' = s0 }, t1, ⟨rfl, rfl, rfl⟩, ⟨fun _ _ _ _ _ _ z => z.elim, fun _ _ _ _ _ _ z => z.elim, fun _ _ _ _ _ _ z => z.elim, fun _ _ _ _ _ _ _ _ _ z => z.elim, fun _ _ _ _ _ _ _ _ _ _ _ z => z.elim, fun σ n' fs s' H' B' cls dd t' l' xr z => ?_⟩⟩
      obtain ⟨rfl, rfl, rfl⟩ := z
      exact c2 _ _ _ _ _ _ _ t'.bs xr hx
    cases hw : within r 1 12 with
    | false =>
      rw [hw] at e2
      subst e2
      exact iteT (raise t1 (s1 hw))
    | true =>
      rw [hw] at e2
      subst e2
      refine iteF ?_
      obtain ⟨n, rfl, n1, n12⟩ : ∃ n : Nat, r = .int n ∧ 1 ≤ n ∧ n ≤ 12 := by
        cases r with
        | int i =>
          have hw : (decide (1 ≤ i) && decide (i ≤ 12)) = true := hw
          simp only [Bool.and_eq_true, decide_eq_true_eq] at hw
          obtain ⟨m, rfl⟩ := Int.eq_ofNat_of_zero_le (show 0 ≤ i by omega)
          exact ⟨m, rfl, by omega, by omega⟩
        | _ => cases hw
      obtain ⟨d1, d2⟩ := s2 n rfl hw
      -- doors
      refine ⟨q, _, _, B, s0, B1, fun k s' => s' = s0 ∧ k = !(areDoors n d), fun _ _ _ => False, t1, ⟨rfl, n, d, rfl, pd, pds, rfl, rfl⟩, fun k H2 s2' B2 t2 l2 ⟨e1, e2⟩ => ?_, noE⟩
      subst e1
      cases hd : areDoors n d with
      | false =>
        rw [hd] at e2
        subst e2
        exact iteT (raise t2 (d1 hd))
      | true =>
        rw [hd] at e2
        subst e2
        refine iteF ?_
        obtain ⟨xs, rfl, ap, hpost⟩ := d2 hd
        have hd : (decide (xs.length ≤ 20) && xs.all (isDoor n)) = true := hd
        obtain ⟨hlen, hall⟩ := Bool.and_eq_true_iff.mp hd
        have hlen := of_decide_eq_true hlen
        have doors : ∀ y ∈ xs, DoorOf n y := fun y hy => doorOf_of (List.all_eq_true.mp hall y hy)
        -- apart
        refine ⟨q, _, _, B, s0, B2, fun dd s' => dd = .non ∧ s' = s0, fun _ _ _ => False, t2, ⟨rfl, n, xs, none, rfl, n1, n12, by omega, doors, ap, rfl, rfl⟩, fun v H3 dd s3' B3 t3 l3 rv ⟨e1, e2⟩ => ?_, noE⟩
        subst e1 e2
        have t4 := t3.setFz (i := 3) rv
        refine ⟨q, _, _, B, s0.put 3 (.fz .non), B3, fun k s' => s' = s0.put 3 (.fz .non) ∧ k = false, fun _ _ _ => False, t4, ⟨rfl, rfl⟩, fun k H4 s4' B4 t5 l5 ⟨e1, e2⟩ => ?_, noE⟩
        subst e1 e2
        refine iteF ?_
        have hx4 := (t5.hold (x, .ins C dx []) List.mem_cons_self).1
        refine ⟨v1, rfl, .ref x, rfl, x, C, dx, [], rfl, hx4, cl, na1, by decide, v2, rfl, .ref x, rfl, x, C, dx, _, rfl, upd_same, cl, na2, (by show 1 < 1000; decide), ?_⟩
        rw [upd_upd]
        obtain ⟨g1, g2, g3⟩ := t5.let (fun z e => by unfold LamX.CodeO at e; cases e) (fun y hy => absurd hy (by simp))
        have eput : putF "doors" v2 (putF "rooms" v1 []) = ([("rooms", v1), ("doors", v2)] : List (Str × V)) := by
          have h1 : ¬ ("rooms" : Str) = "doors" := by decide +kernel
          simp [putF, h1]
        rw [show upd H4 x (.ins C dx (putF "doors" v2 (putF "rooms" v1 []))) = upd (Hp.less H4 x) x (.ins C dx (putF "doors" v2 (putF "rooms" v1 []))) from by rw [g2, upd_upd, ← g2], eput]
        obtain ⟨u1, w1, z1⟩ := t5.fz 1 _ rfl
        obtain ⟨u2, w2, z2⟩ := t5.fz 2 _ rfl
        cases w1
        cases w2
        refine c1 _ _ _ (.obj "House" [("rooms", .int n), ("doors", .tup xs)]) T g3.bs g1 ⟨C, dx, _, rfl, hC, ?_⟩ hpost
        unfold RepF
        refine ⟨_, _, rfl, z1, ?_⟩
        unfold RepF
        refine ⟨_, _, rfl, z2, ?_⟩
        unfold RepF
        rfl
end

section
variable {P : Program} {w : World} {K : PySem.W.Frag} {mg : Str → Option Value} {base : Heap}
theorem kn_House (T : Txt K mg) : KnI P w K mg base (L2.CX P w) 6 "House" ["rooms", "doors"] S_House := T.iH P w base 6 S_House fun f fd F => ok_House F ((kn_is_room_count T).up (by decide)) ((kn_are_doors T).up (by decide)) ((kn__least_apart T).up (by decide)) T.e_BadRooms T.e_BadDoors T.cH
theorem sc__outcome : FnScope ["house", "thing", "told", "rooms", "doors"] ["house", "thing"] (defScope (topS 41)) := ⟨rfl, rfl, rfl, by decide +kernel, rfl, by decide +kernel, by decide +kernel⟩
theorem b__outcome (T : Txt K mg) (k__told : Kn P w K mg base CX0 5 "_told" ["house", "thing"] S__toldC) (k_is_room_count : Kn P w K mg base CX0 3 "is_room_count" ["thing"] S_is_room_count) (k_are_doors : Kn P w K mg base CX0 5 "are_doors" ["rooms", "thing"] S_are_doors) (kI_House : KnI P w K mg base (L2.CX P w) 6 "House" ["rooms", "doors"] S_House) {f : Addr} {cdv : Value} {A : Around} {outer : List Env} {s : Shared} {H : Hp} {E : XK} (hr : Room 7 (A.deeper (PyProof.Rows.envOfC "_outcome" (defScope (topS 41)) s.heap.objs.size f cdv))) :
    DPSs (cxOf CX0 P w K mg base ["house", "thing", "told", "rooms", "doors"] "_outcome" (defScope (topS 41)) f cdv A outer s H E).nox W0 (defBody (topS 41)) G__outcomeC := by
  exact (g_cons (g_set (i := 2) sc__outcome.nd (d_call k__told (hr.mono (by decide)) (d_cons (dv 0) (d_cons (dv 1) d_nil))))
      (g_cons (g_if (d_cmpT o_isN (dv 2) d_non (nomark _)) (g_one (g_ret d_non)) g_nil)
      (g_cons (g_par (i := 3) (j := 4) rfl sc__outcome.nd (d_cons (d_ixV 2 d_int) (d_cons (d_callTy c_tuple (by rfl) T.b_tuple (by decide +kernel) (d_cons (d_ixV 2 d_int) d_nil)) d_nil)))
      (g_one (g_ret (d_ifE (DPW.pt (d_tand (d_test (d_call k_is_room_count (hr.mono (by decide)) (d_cons (dv 3) d_nil))) (d_tand1 (d_test (d_call k_are_doors (hr.mono (by decide)) (d_cons (dv 3) (d_cons (dv 4) d_nil))))))) (d_ofO (d_make0 kI_House (hr.mono (by decide)) (d_cons (dv 3) (d_cons (dv 4) d_nil)))) d_non))))))
theorem kn__outcome (T : Txt K mg) : Kn P w K mg base CX0 8 "_outcome" ["house", "thing"] S__outcomeC := T.d__outcome.kn fun f fd F => fn_ok F sc__outcome (fun cdv A outer s H E hr => b__outcome T (kn__told T) (kn_is_room_count T) (kn_are_doors T) (kn_House T) hr) fun ds T post ex hl hS => m__outcomeC ds T post (fun _ _ _ => False) hl hS
theorem sc_is_change : FnScope ["house", "thing"] ["house", "thing"] (defScope (topS 36)) := ⟨rfl, rfl, rfl, by decide +kernel, rfl, by decide +kernel, by decide +kernel⟩
theorem b_is_change (T : Txt K mg) (k_need_house : Kn P w K mg base (L2.CX P w) 1 "need_house" ["house"] S_need_house) (k__outcome : Kn P w K mg base CX0 8 "_outcome" ["house", "thing"] S__outcomeC) {f : Addr} {cdv : Value} {A : Around} {outer : List Env} {s : Shared} {H : Hp} {E : XK} (hr : Room 8 (A.deeper (PyProof.Rows.envOfC "is_change" (defScope (topS 36)) s.heap.objs.size f cdv))) :
    DPSs (cxOf (L2.CX P w) P w K mg base ["house", "thing"] "is_change" (defScope (topS 36)) f cdv A outer s H E) (wE E) (defBody (topS 36)) G_is_changeC := by
  have tk : Takes (cxOf (L2.CX P w) P w K mg base ["house", "thing"] "is_change" (defScope (topS 36)) f cdv A outer s H E) (wE E) := takes_of rfl rfl rfl rfl
  exact (g_cons (g_drop (d_callX tk k_need_house (hr.mono (by decide)) (d_cons (dv 0) d_nil)))
      (g_one (g_ret (d_cmp o_notN (d_call k__outcome (hr.mono (by decide)) (d_cons (dv 0) (d_cons (dv 1) d_nil))) d_non (nomark _)))))
theorem kn_is_change (T : Txt K mg) : Kn P w K mg base (L2.CX P w) 9 "is_change" ["house", "thing"] S_is_changeC := T.d_is_change.kn fun f fd F => fn_okX F sc_is_change (fun cdv A outer s H E hr => b_is_change T (kn_need_house T) (kn__outcome T) hr) fun ds T post ex hl hS => m_is_changeC ds T post ex hl hS
theorem sc_changed : FnScope ["house", "change", "outcome"] ["house", "change"] (defScope (topS 37)) := ⟨rfl, rfl, rfl, by decide +kernel, rfl, by decide +kernel, by decide +kernel⟩
theorem b_changed (T : Txt K mg) (k_need_house : Kn P w K mg base (L2.CX P w) 1 "need_house" ["house"] S_need_house) (k__outcome : Kn P w K mg base CX0 8 "_outcome" ["house", "thing"] S__outcomeC) {f : Addr} {cdv : Value} {A : Around} {outer : List Env} {s : Shared} {H : Hp} {E : XK} (hr : Room 8 (A.deeper (PyProof.Rows.envOfC "changed" (defScope (topS 37)) s.heap.objs.size f cdv))) :
    DPSs (cxOf (L2.CX P w) P w K mg base ["house", "change", "outcome"] "changed" (defScope (topS 37)) f cdv A outer s H E) (wE E) (defBody (topS 37)) G_changedC := by
  have tk : Takes (cxOf (L2.CX P w) P w K mg base ["house", "change", "outcome"] "changed" (defScope (topS 37)) f cdv A outer s H E) (wE E) := takes_of rfl rfl rfl rfl
  exact (g_cons (g_drop (d_callX tk k_need_house (hr.mono (by decide)) (d_cons (dv 0) d_nil)))
      (g_cons (g_set (i := 2) sc_changed.nd (d_call k__outcome (hr.mono (by decide)) (d_cons (dv 0) (d_cons (dv 1) d_nil))))
      (g_cons (g_if (d_cmpT o_isN (dv 2) d_non (nomark _)) (g_one (g_raise rfl tk T.e_BadChange)) g_nil)
      (g_one (g_ret (dv 2))))))
theorem kn_changed (T : Txt K mg) : Kn P w K mg base (L2.CX P w) 9 "changed" ["house", "change"] S_changedC := T.d_changed.kn fun f fd F => fn_okX F sc_changed (fun cdv A outer s H E hr => b_changed T (kn_need_house T) (kn__outcome T) hr) fun ds T post ex hl hS => m_changedC ds T post ex hl hS
theorem sc_room_along : FnScope ["house", "change", "room"] ["house", "change", "room"] (defScope (topS 38)) := ⟨rfl, rfl, rfl, by decide +kernel, rfl, by decide +kernel, by decide +kernel⟩
theorem b_room_along (T : Txt K mg) (k_changed : Kn P w K mg base (L2.CX P w) 9 "changed" ["house", "change"] S_changedC) (k_need_room : Kn P w K mg base (L2.CX P w) 4 "need_room" ["house", "room"] S_need_room) (k__room_along : Kn P w K mg base CX0 2 "_room_along" ["house", "change", "room"] S__room_alongC) {f : Addr} {cdv : Value} {A : Around} {outer : List Env} {s : Shared} {H : Hp} {E : XK} (hr : Room 9 (A.deeper (PyProof.Rows.envOfC "room_along" (defScope (topS 38)) s.heap.objs.size f cdv))) :
    DPSs (cxOf (L2.CX P w) P w K mg base ["house", "change", "room"] "room_along" (defScope (topS 38)) f cdv A outer s H E) (wE E) (defBody (topS 38)) G_room_alongC := by
  have tk : Takes (cxOf (L2.CX P w) P w K mg base ["house", "change", "room"] "room_along" (defScope (topS 38)) f cdv A outer s H E) (wE E) := takes_of rfl rfl rfl rfl
  exact (g_cons (g_drop (d_callX tk k_changed (hr.mono (by decide)) (d_cons (dv 0) (d_cons (dv 1) d_nil))))
      (g_cons (g_drop (d_callX tk k_need_room (hr.mono (by decide)) (d_cons (dv 0) (d_cons (dv 2) d_nil))))
      (g_one (g_ret (d_call k__room_along (hr.mono (by decide)) (d_cons (dv 0) (d_cons (dv 1) (d_cons (dv 2) d_nil))))))))
theorem kn_room_along (T : Txt K mg) : Kn P w K mg base (L2.CX P w) 10 "room_along" ["house", "change", "room"] S_room_alongC := T.d_room_along.kn fun f fd F => fn_okX F sc_room_along (fun cdv A outer s H E hr => b_room_along T (kn_changed T) (kn_need_room T) (kn__room_along T) hr) fun ds T post ex hl hS => m_room_alongC ds T post ex hl hS
theorem sc__houses_met : FnScope ["house", "changes", "met", "change", "outcome"] ["house", "changes"] (defScope (topS 40)) := ⟨rfl, rfl, rfl, by decide +kernel, rfl, by decide +kernel, by decide +kernel⟩
theorem b__houses_met (T : Txt K mg) (k_need_house : Kn P w K mg base (L2.CX P w) 1 "need_house" ["house"] S_need_house) (k_is_list : Kn P w K mg base CX0 1 "is_list" ["thing"] S_is_listC) (k__outcome : Kn P w K mg base CX0 8 "_outcome" ["house", "thing"] S__outcomeC) {f : Addr} {cdv : Value} {A : Around} {outer : List Env} {s : Shared} {H : Hp} {E : XK} (hr : Room 8 (A.deeper (PyProof.Rows.envOfC "_houses_met" (defScope (topS 40)) s.heap.objs.size f cdv))) :
    DPSs (cxOf (L2.CX P w) P w K mg base ["house", "changes", "met", "change", "outcome"] "_houses_met" (defScope (topS 40)) f cdv A outer s H E) (wE E) (defBody (topS 40)) G__houses_metC := by
  have tk : Takes (cxOf (L2.CX P w) P w K mg base ["house", "changes", "met", "change", "outcome"] "_houses_met" (defScope (topS 40)) f cdv A outer s H E) (wE E) := takes_of rfl rfl rfl rfl
  exact (g_cons (g_drop (d_callX tk k_need_house (hr.mono (by decide)) (d_cons (dv 0) d_nil)))
      (g_cons (g_if (DPW.pt (d_tor (d_tnot (d_test (d_call k_is_list (hr.mono (by decide)) (d_cons (dv 1) d_nil)))) (d_tor1 (d_cmpT o_gt (d_callB c_len (by rfl) T.b_len (by decide +kernel) (d_cons (dv 1) d_nil)) (d_gint T.c_MOST_CHANGES) (nomark _))))) (g_one (g_raise rfl tk T.e_BadChanges)) g_nil)
      (g_cons (g_setO (i := 2) sc__houses_met.nd (d_lst (d_cons (dv 0) d_nil)))
      (g_cons (g_for (vs := [3]) PassesOwn.leaving rfl (i_seq (dv 1)) (t_name sc__houses_met.nd) (g_cons (g_set (i := 4) sc__houses_met.nd (d_call k__outcome (hr.mono (by decide)) (d_cons (d_ixV 2 (d_neg d_int)) (d_cons (dv 3) d_nil))))
      (g_cons (g_if (d_cmpT o_isN (dv 4) d_non (nomark _)) (g_one (g_raise rfl tk T.e_BadChanges)) g_nil)
      (g_one (g_app 2 (dv 4))))))
      (g_one (g_ret (dv 2)))))))
theorem kn__houses_met (T : Txt K mg) : Kn P w K mg base (L2.CX P w) 9 "_houses_met" ["house", "changes"] S__houses_metC := T.d__houses_met.kn fun f fd F => fn_okX F sc__houses_met (fun cdv A outer s H E hr => b__houses_met T (kn_need_house T) (kn_is_list T) (kn__outcome T) hr) fun ds T post ex hl hS => m__houses_metC ds T post ex hl hS
theorem kK_changed_change_house (T : Txt K mg) : KnK P w K mg base (L2.CX P w) 9 "changed" ["house", "change"] ["change", "house"] [1, 0] S_changedC := knK_of T.d_changed (fun _ _ _ _ _ _ ws hl => match ws, hl with | [a0, a1], _ => rfl) (fun f fd F => fn_okX F sc_changed (fun cdv A outer s H E hr => b_changed T (kn_need_house T) (kn__outcome T) hr) fun ds T post ex hl hS => m_changedC ds T post ex hl hS)
theorem kK_is_change_thing_house (T : Txt K mg) : KnK P w K mg base (L2.CX P w) 9 "is_change" ["house", "thing"] ["thing", "house"] [1, 0] S_is_changeC := knK_of T.d_is_change (fun _ _ _ _ _ _ ws hl => match ws, hl with | [a0, a1], _ => rfl) (fun f fd F => fn_okX F sc_is_change (fun cdv A outer s H E hr => b_is_change T (kn_need_house T) (kn__outcome T) hr) fun ds T post ex hl hS => m_is_changeC ds T post ex hl hS)
theorem kK_room_along_at2_room (T : Txt K mg) : KnKM P w K mg base (L2.CX P w) 10 "room_along" ["house", "change", "room"] 2 ["room"] [0] S_room_alongC := knKM_of T.d_room_along (fun _ _ _ _ _ _ us ws hu hl => match us, hu, ws, hl with | [b0, b1], _, [a0], _ => rfl) (fun f fd F => fn_okX F sc_room_along (fun cdv A outer s H E hr => b_room_along T (kn_changed T) (kn_need_room T) (kn__room_along T) hr) fun ds T post ex hl hS => m_room_alongC ds T post ex hl hS)
theorem sc__law_judged : FnScope ["rooms_here", "doors_here", "several", "house_here", "taken", "due", "found", "room_here"] ["rooms_here", "doors_here", "several"] (defScope (topS 79)) := ⟨rfl, rfl, rfl, by decide +kernel, rfl, by decide +kernel, by decide +kernel⟩
theorem b__law_judged (T : Txt K mg) (k__law_ch_behind : Kn P w K mg base CX0 4 "_law_ch_behind" ["rooms_here", "doors_here", "taken"] S__law_ch_behindC) (k__law_is_truth : Kn P w K mg base CX0 1 "_law_is_truth" ["found", "due"] S__law_is_truth) (k_changed : Kn P w K mg base (L2.CX P w) 9 "changed" ["house", "change"] S_changedC) (k__law_ch_room : Kn P w K mg base CX0 2 "_law_ch_room" ["doors_here", "change_here", "room_here"] S__law_ch_room) (kK_changed_change_house : KnK P w K mg base (L2.CX P w) 9 "changed" ["house", "change"] ["change", "house"] [1, 0] S_changedC) (kK_is_change_thing_house : KnK P w K mg base (L2.CX P w) 9 "is_change" ["house", "thing"] ["thing", "house"] [1, 0] S_is_changeC) (kK_room_along_at2_room : KnKM P w K mg base (L2.CX P w) 10 "room_along" ["house", "change", "room"] 2 ["room"] [0] S_room_alongC) (kI_House : KnI P w K mg base (L2.CX P w) 6 "House" ["rooms", "doors"] S_House) (kq_House : KnEq P w K mg base 1 "House" S_House_eq0) {f : Addr} {cdv : Value} {A : Around} {outer : List Env} {s : Shared} {H : Hp} {E : XK} (C : KnC K mg (He.ga K "PullError")) (I : LamIn (cxOf CX0 P w K mg base ["rooms_here", "doors_here", "several", "house_here", "taken", "due", "found", "room_here"] "_law_judged" (defScope (topS 79)) f cdv A outer s H E).nox) (hr : Room 12 (A.deeper (PyProof.Rows.envOfC "_law_judged" (defScope (topS 79)) s.heap.objs.size f cdv))) :
    DPSs (cxOf CX0 P w K mg base ["rooms_here", "doors_here", "several", "house_here", "taken", "due", "found", "room_here"] "_law_judged" (defScope (topS 79)) f cdv A outer s H E).nox W0 (defBody (topS 79)) G__law_judged := by
  exact (g_cons (g_set (i := 3) sc__law_judged.nd (d_ofO (d_make0 kI_House (hr.mono (by decide)) (d_cons (dv 0) (d_cons (dv 1) d_nil)))))
      (g_cons (g_for (vs := [4]) PassesOwn.never rfl (i_seq (dv 2)) (t_name sc__law_judged.nd) (g_cons (g_set (i := 5) sc__law_judged.nd (d_call k__law_ch_behind (hr.mono (by decide)) (d_cons (dv 0) (d_cons (dv 1) (d_cons (dv 4) d_nil)))))
      (g_cons (g_if (d_tnot (d_test (d_call k__law_is_truth (hr.mono (by decide)) (d_cons (d_callKX0 kK_is_change_thing_house (hr.mono (by decide)) (k_cons (dv 4) (k_cons (dv 3) k_nil))) (d_cons (d_cmp o_notN (dv 5) d_non (nomark _)) d_nil))))) (g_one (g_ret d_bl)) g_nil)
      (g_one (g_if (d_cmpT o_isN (dv 5) d_non (nomark _)) (g_one (g_if (d_tnot (d_test (d_isO T.b_isinstance T.i_BadChange (d_caught (k := 10) C T.hms I (hr.mono (by decide)) (LamX.lamS_by (sc := defScope (topS 79)) (by decide +kernel)) (fun A outer s H E f c' hr => (d_callX (takes_of rfl rfl rfl rfl) k_changed (hr.mono (by decide)) (d_cons (dv 3) (d_cons (dv 4) d_nil)))))))) (g_one (g_ret d_bl)) g_nil)) (g_cons (g_set (i := 6) sc__law_judged.nd (d_callKX0 kK_changed_change_house (hr.mono (by decide)) (k_cons (dv 4) (k_cons (dv 3) k_nil))))
      (g_cons (g_if (DPW.pt (d_tor (d_cmpT (o_ne hr.units) (d_tup (d_cons (d_fld T.f_rooms (dv 6)) (d_cons (d_fld T.f_doors (dv 6)) d_nil))) (dv 5) (nomark _)) (d_tor1 (d_ownNeT kq_House (hr.mono (by decide)) (dv 6) (d_ofO (d_make0 kI_House (hr.mono (by decide)) (d_cons (d_ixV 5 d_int) (d_cons (d_ixV 5 d_int) d_nil)))))))) (g_one (g_ret d_bl)) g_nil)
      (g_one (g_for (vs := [7]) PassesOwn.never rfl (i_range1 T.b_range (dv 0)) (t_name sc__law_judged.nd) (g_cons (g_set (i := 5) sc__law_judged.nd (d_call k__law_ch_room (hr.mono (by decide)) (d_cons (dv 1) (d_cons (dv 4) (d_cons (dv 7) d_nil)))))
      (g_one (g_if (d_cmpT (o_ne hr.units) (d_callKMX0 kK_room_along_at2_room (hr.mono (by decide)) (d_cons (dv 3) (d_cons (dv 4) d_nil)) (k_cons (dv 7) k_nil)) (dv 5) (nomark _)) (g_one (g_ret d_bl)) g_nil))))))))))))
      (g_one (g_ret (d_cmp (o_eq hr.units) (d_tup (d_cons (d_fld T.f_rooms (dv 3)) (d_cons (d_fld T.f_doors (dv 3)) d_nil))) (d_tup (d_cons (dv 0) (d_cons (dv 1) d_nil))) (nomark _))))))
theorem kn__law_judged (T : Txt K mg) (Lm : Lams K mg base) : Kn P w K mg base CX0 13 "_law_judged" ["rooms_here", "doors_here", "several"] S__law_judged := Lm.l__law_judged.kn sc__law_judged (fun f c A outer s H E I hr => b__law_judged T (kn__law_ch_behind T) (kn__law_is_truth T) (kn_changed T) (kn__law_ch_room T) (kK_changed_change_house T) (kK_is_change_thing_house T) (kK_room_along_at2_room T) (kn_House T) (kq_House T) (kn_caught T) I hr) fun ds T post ex hl hS => m__law_judged ds T post (fun _ _ _ => False) hl hS
theorem sc_changed_by : FnScope ["house", "changes"] ["house", "changes"] (defScope (topS 39)) := ⟨rfl, rfl, rfl, by decide +kernel, rfl, by decide +kernel, by decide +kernel⟩
theorem b_changed_by (T : Txt K mg) (k__houses_met : Kn P w K mg base (L2.CX P w) 9 "_houses_met" ["house", "changes"] S__houses_metC) {f : Addr} {cdv : Value} {A : Around} {outer : List Env} {s : Shared} {H : Hp} {E : XK} (hr : Room 9 (A.deeper (PyProof.Rows.envOfC "changed_by" (defScope (topS 39)) s.heap.objs.size f cdv))) :
    DPSs (cxOf (L2.CX P w) P w K mg base ["house", "changes"] "changed_by" (defScope (topS 39)) f cdv A outer s H E) (wE E) (defBody (topS 39)) G_changed_byC := by
  have tk : Takes (cxOf (L2.CX P w) P w K mg base ["house", "changes"] "changed_by" (defScope (topS 39)) f cdv A outer s H E) (wE E) := takes_of rfl rfl rfl rfl
  exact (g_one (g_ret (d_ix (d_callX tk k__houses_met (hr.mono (by decide)) (d_cons (dv 0) (d_cons (dv 1) d_nil))) (d_neg d_int))))
theorem kn_changed_by (T : Txt K mg) : Kn P w K mg base (L2.CX P w) 10 "changed_by" ["house", "changes"] S_changed_byC := T.d_changed_by.kn fun f fd F => fn_okX F sc_changed_by (fun cdv A outer s H E hr => b_changed_by T (kn__houses_met T) hr) fun ds T post ex hl hS => m_changed_byC ds T post ex hl hS
theorem kK_changed_by_changes_house (T : Txt K mg) : KnK P w K mg base (L2.CX P w) 10 "changed_by" ["house", "changes"] ["changes", "house"] [1, 0] S_changed_byC := knK_of T.d_changed_by (fun _ _ _ _ _ _ ws hl => match ws, hl with | [a0, a1], _ => rfl) (fun f fd F => fn_okX F sc_changed_by (fun cdv A outer s H E hr => b_changed_by T (kn__houses_met T) hr) fun ds T post ex hl hS => m_changed_byC ds T post ex hl hS)
theorem sc__law_runs : FnScope ["state", "rooms_here", "doors_here", "changes_here", "places_here", "house_here", "kept", "found", "bad"] ["state", "rooms_here", "doors_here"] (defScope (topS 80)) := ⟨rfl, rfl, rfl, by decide +kernel, rfl, by decide +kernel, by decide +kernel⟩
theorem b__law_runs (T : Txt K mg) (k__law_ch_run : Kn P w K mg base CX0 6 "_law_ch_run" ["state", "rooms_here", "doors_here", "many"] S__law_ch_run) (k__law_draw : Kn P w K mg base CX0 2 "_law_draw" ["state", "size_here"] S__law_draw) (k_changed_by : Kn P w K mg base (L2.CX P w) 10 "changed_by" ["house", "changes"] S_changed_byC) (kK_changed_by_changes_house : KnK P w K mg base (L2.CX P w) 10 "changed_by" ["house", "changes"] ["changes", "house"] [1, 0] S_changed_byC) (kI_House : KnI P w K mg base (L2.CX P w) 6 "House" ["rooms", "doors"] S_House) (kq_House : KnEq P w K mg base 1 "House" S_House_eq0) {f : Addr} {cdv : Value} {A : Around} {outer : List Env} {s : Shared} {H : Hp} {E : XK} (C : KnC K mg (He.ga K "PullError")) (I : LamIn (cxOf CX0 P w K mg base ["state", "rooms_here", "doors_here", "changes_here", "places_here", "house_here", "kept", "found", "bad"] "_law_runs" (defScope (topS 80)) f cdv A outer s H E).nox) (hr : Room 12 (A.deeper (PyProof.Rows.envOfC "_law_runs" (defScope (topS 80)) s.heap.objs.size f cdv))) :
    DPSs (cxOf CX0 P w K mg base ["state", "rooms_here", "doors_here", "changes_here", "places_here", "house_here", "kept", "found", "bad"] "_law_runs" (defScope (topS 80)) f cdv A outer s H E).nox W0 (defBody (topS 80)) G__law_runs := by
  exact (g_cons (g_unp (vs := [3, 4]) (t_tup rfl (t_cons (t_name sc__law_runs.nd) (t_cons (t_name sc__law_runs.nd) t_nil))) (d_call k__law_ch_run (hr.mono (by decide)) (d_cons (dv 0) (d_cons (dv 1) (d_cons (dv 2) (d_cons (d_call k__law_draw (hr.mono (by decide)) (d_cons (dv 0) (d_cons d_int d_nil))) d_nil))))))
      (g_cons (g_unp (vs := [5, 6]) (t_tup rfl (t_cons (t_name sc__law_runs.nd) (t_cons (t_name sc__law_runs.nd) t_nil))) (d_tup (d_cons (d_ofO (d_make0 kI_House (hr.mono (by decide)) (d_cons (dv 1) (d_cons (dv 2) d_nil)))) (d_cons (d_ofO (d_listO T.b_list (dv 3))) d_nil))))
      (g_cons (g_set (i := 7) sc__law_runs.nd (d_callKX0 kK_changed_by_changes_house (hr.mono (by decide)) (k_cons (dv 3) (k_cons (dv 5) k_nil))))
      (g_cons (g_if (DPW.pt (d_tor (d_cmpT (o_ne hr.units) (d_tup (d_cons (d_fld T.f_rooms (dv 7)) (d_cons (d_fld T.f_doors (dv 7)) d_nil))) (d_ixV 4 (d_neg d_int)) (nomark _)) (d_tor1 (d_cmpT (o_ne hr.units) (dv 3) (dv 6) (nomark _))))) (g_one (g_ret d_bl)) g_nil)
      (g_cons (g_if (d_ownNeT kq_House (hr.mono (by decide)) (d_callX0 k_changed_by (hr.mono (by decide)) (d_cons (dv 5) (d_cons (d_callTy c_tuple (by rfl) T.b_tuple (by decide +kernel) (d_cons (dv 6) d_nil)) d_nil))) (dv 7)) (g_one (g_ret d_bl)) g_nil)
      (g_cons (g_for (vs := [8]) PassesOwn.never rfl (i_seq (d_ofO (d_lst (d_cons (d_op o_add (dv 6) (d_ofO (d_lst (d_cons (d_tup (d_cons d_str (d_cons d_int d_nil))) d_nil)))) (d_cons d_non (d_cons d_int (d_cons (d_op o_mul (d_ofO (d_lst (d_cons (d_tup (d_cons d_str (d_cons d_int d_nil))) d_nil))) d_int) (d_cons (d_op o_add (dv 6) (d_ofO (d_lst (d_cons (d_tup (d_cons d_str (d_cons (d_ix (d_ixV 4 (d_neg d_int)) d_int) d_nil))) d_nil)))) (d_cons (d_ofO d_dict0) d_nil))))))))) (t_name sc__law_runs.nd) (g_one (g_if (d_tnot (d_test (d_isO T.b_isinstance T.i_BadChanges (d_caught (k := 10) C T.hms I (hr.mono (by decide)) (LamX.lamS_by (sc := defScope (topS 80)) (by decide +kernel)) (fun A outer s H E f c' hr => (d_callX (takes_of rfl rfl rfl rfl) k_changed_by (hr.mono (by decide)) (d_cons (dv 5) (d_cons (dv 8) d_nil)))))))) (g_one (g_ret d_bl)) g_nil)))
      (g_one (g_ret (d_and (d_ownEq kq_House (hr.mono (by decide)) (d_callX0 k_changed_by (hr.mono (by decide)) (d_cons (dv 5) (d_cons (d_op o_mul (d_ofO (d_lst (d_cons (d_tup (d_cons d_str (d_cons d_int d_nil))) d_nil))) d_int) d_nil))) (dv 5)) (d_one (d_ownEq kq_House (hr.mono (by decide)) (d_callX0 k_changed_by (hr.mono (by decide)) (d_cons (dv 5) (d_cons (d_ofO (d_lst d_nil)) d_nil))) (dv 5))))))))))))
theorem kn__law_runs (T : Txt K mg) (Lm : Lams K mg base) : Kn P w K mg base CX0 13 "_law_runs" ["state", "rooms_here", "doors_here"] S__law_runs := Lm.l__law_runs.kn sc__law_runs (fun f c A outer s H E I hr => b__law_runs T (kn__law_ch_run T) (kn__law_draw T) (kn_changed_by T) (kK_changed_by_changes_house T) (kn_House T) (kq_House T) (kn_caught T) I hr) fun ds T post ex hl hS => m__law_runs ds T post (fun _ _ _ => False) hl hS
/-! derivations whose promises are still to come -/
theorem sc_law : FnScope ["script", "state", "turn", "rooms_here", "doors_here", "several", "house_here", "odd", "bad", "full", "many", "three", "fold", "put", "cases", "taken", "lap", "spot"] ["script"] (defScope (topS 81)) := ⟨rfl, rfl, rfl, by decide +kernel, rfl, by decide +kernel, by decide +kernel⟩
theorem b_law (T : Txt K mg) (k__law_ch_house : Kn P w K mg base CX0 16 "_law_ch_house" ["state", "most", "more"] S__law_ch_house) (k__law_ch_change : Kn P w K mg base CX0 16 "_law_ch_change" ["state", "rooms_here", "doors_here"] S__law_ch_changeC) (k__law_near_changes : Kn P w K mg base CX0 16 "_law_near_changes" ["state", "rooms_here", "doors_here"] S__law_near_changes) (k__law_ch_slides : Kn P w K mg base CX0 16 "_law_ch_slides" ["doors_here"] S__law_ch_slides) (k__law_judged : Kn P w K mg base CX0 16 "_law_judged" ["rooms_here", "doors_here", "several"] S__law_judged) (k__law_runs : Kn P w K mg base CX0 16 "_law_runs" ["state", "rooms_here", "doors_here"] S__law_runs) (k__law_pick : Kn P w K mg base CX0 16 "_law_pick" ["state", "several"] S__law_pick) (k_is_change : Kn P w K mg base (L2.CX P w) 16 "is_change" ["house", "thing"] S_is_changeC) (k_changed : Kn P w K mg base (L2.CX P w) 16 "changed" ["house", "change"] S_changedC) (k_room_along : Kn P w K mg base (L2.CX P w) 16 "room_along" ["house", "change", "room"] S_room_alongC) (kI_House : KnI P w K mg base (L2.CX P w) 16 "House" ["rooms", "doors"] S_House) {f : Addr} {cdv : Value} {A : Around} {outer : List Env} {s : Shared} {H : Hp} {E : XK} (C : KnC K mg (He.ga K "PullError")) (I : LamIn (cxOf CX0 P w K mg base ["script", "state", "turn", "rooms_here", "doors_here", "several", "house_here", "odd", "bad", "full", "many", "three", "fold", "put", "cases", "taken", "lap", "spot"] "law" (defScope (topS 81)) f cdv A outer s H E).nox) (hgd : A.guards = some []) (hr : Room 20 (A.deeper (PyProof.Rows.envOfC "law" (defScope (topS 81)) s.heap.objs.size f cdv))) :
    DPSs (cxOf CX0 P w K mg base ["script", "state", "turn", "rooms_here", "doors_here", "several", "house_here", "odd", "bad", "full", "many", "three", "fold", "put", "cases", "taken", "lap", "spot"] "law" (defScope (topS 81)) f cdv A outer s H E).nox W0 (defBody (topS 81)).tail G_law := by
  exact (g_cons (g_for (vs := [2]) PassesOwn.never rfl (i_range1 T.b_range (d_op o_add d_int (d_callB (c_min2 rfl) (by rfl) T.b_min (by decide +kernel) (d_cons (d_callB c_len (by rfl) T.b_len (by decide +kernel) (d_cons (dv 0) d_nil)) (d_cons d_int d_nil))))) (t_name sc_law.nd) (g_cons (g_unp (vs := [3, 4]) (t_tup rfl (t_cons (t_name sc_law.nd) (t_cons (t_name sc_law.nd) t_nil))) (d_call k__law_ch_house (hr.mono (by decide)) (d_cons (dv 1) (d_cons d_int (d_cons d_int d_nil)))))
      (g_cons (g_setLcF (i := 5) rfl sc_law.nd (i_range1 T.b_range d_int) (blkOk_by (N := ["script", "state", "turn", "rooms_here", "doors_here", "several", "house_here", "odd", "bad", "full", "many", "three", "fold", "put", "cases", "taken", "lap", "spot"]) (sc := defScope (topS 81)) (own := [("lap", 16)]) (by decide +kernel)) (fun _ _ _ _ _ => (t_name sc_law.nd)) (fun _ _ _ _ _ => ts_nil) (fun _ _ _ _ _ => (d_call k__law_ch_change (hr.mono (by decide)) (d_cons (dv 1) (d_cons (dv 3) (d_cons (dv 4) d_nil))))) (sw_true rfl rfl rfl (by decide +kernel)))
      (g_cons (g_set (i := 5) sc_law.nd (d_op o_add (d_op o_add (dv 5) (d_call k__law_near_changes (hr.mono (by decide)) (d_cons (dv 1) (d_cons (dv 3) (d_cons (dv 4) d_nil))))) (d_sl (d_call k__law_ch_slides (hr.mono (by decide)) (d_cons (dv 4) d_nil)) d_oNo (d_oAt d_int))))
      (g_cons (g_if (DPW.pt (d_tor (d_tnot (d_test (d_call k__law_judged (hr.mono (by decide)) (d_cons (dv 3) (d_cons (dv 4) (d_cons (dv 5) d_nil)))))) (d_tor1 (d_tnot (d_test (d_call k__law_runs (hr.mono (by decide)) (d_cons (dv 1) (d_cons (dv 3) (d_cons (dv 4) d_nil))))))))) (g_one (g_ret d_bl)) g_nil)
      (g_cons (g_unp (vs := [6, 7]) (t_tup rfl (t_cons (t_name sc_law.nd) (t_cons (t_name sc_law.nd) t_nil))) (d_tup (d_cons (d_ofO (d_make0 kI_House (hr.mono (by decide)) (d_cons (dv 3) (d_cons (dv 4) d_nil)))) (d_cons (d_call k__law_pick (hr.mono (by decide)) (d_cons (dv 1) (d_cons (d_ofO (d_lst (d_cons d_non (d_cons d_int (d_cons (d_tup (d_cons d_int (d_cons (d_tup d_nil) d_nil))) (d_cons (dv 4) d_nil)))))) d_nil))) d_nil))))
      (g_cons (g_if (d_tnot (d_test (d_isO T.b_isinstance T.i_BadHouse (d_caught (k := 18) C T.hms I (hr.mono (by decide)) (LamX.lamS_by (sc := defScope (topS 81)) (by decide +kernel)) (fun A outer s H E f c' hr => (d_callX (takes_of rfl rfl rfl rfl) k_is_change (hr.mono (by decide)) (d_cons (dv 7) (d_cons d_non d_nil)))))))) (g_one (g_ret d_bl)) g_nil)
      (g_cons (g_if (d_tnot (d_test (d_isO T.b_isinstance T.i_BadHouse (d_caught (k := 18) C T.hms I (hr.mono (by decide)) (LamX.lamS_by (sc := defScope (topS 81)) (by decide +kernel)) (fun A outer s H E f c' hr => (d_callX (takes_of rfl rfl rfl rfl) k_changed (hr.mono (by decide)) (d_cons (dv 7) (d_cons d_non d_nil)))))))) (g_one (g_ret d_bl)) g_nil)
      (g_one (g_for (vs := [8]) PassesOwn.never rfl (i_seq (d_ofO (d_lst (d_cons d_non (d_cons d_bl (d_cons (d_neg d_int) (d_cons (dv 3) (d_cons (d_tup (d_cons d_int d_nil)) d_nil)))))))) (t_name sc_law.nd) (g_cons (g_if (d_tnot (d_test (d_isO T.b_isinstance T.i_BadRoom (d_caught (k := 18) C T.hms I (hr.mono (by decide)) (LamX.lamS_by (sc := defScope (topS 81)) (by decide +kernel)) (fun A outer s H E f c' hr => (d_callX (takes_of rfl rfl rfl rfl) k_room_along (hr.mono (by decide)) (d_cons (dv 6) (d_cons (d_tup (d_cons d_str (d_cons d_int d_nil))) (d_cons (dv 8) d_nil))))))))) (g_one (g_ret d_bl)) g_nil)
      (g_one (g_if (d_tnot (d_test (d_isO T.b_isinstance T.i_BadChange (d_caught (k := 18) C T.hms I (hr.mono (by decide)) (LamX.lamS_by (sc := defScope (topS 81)) (by decide +kernel)) (fun A outer s H E f c' hr => (d_callX (takes_of rfl rfl rfl rfl) k_room_along (hr.mono (by decide)) (d_cons (dv 6) (d_cons (d_tup (d_cons d_str (d_cons d_int d_nil))) (d_cons (dv 8) d_nil))))))))) (g_one (g_ret d_bl)) g_nil)))))))))))))
      (g_cons (g_set (i := 9) sc_law.nd (d_callTy c_tuple (by rfl) T.b_tuple (by decide +kernel) (d_cons (d_ofO (d_lc rfl sc_law.nd (i_range2 T.b_range d_int d_int) (blkOk_by (N := ["script", "state", "turn", "rooms_here", "doors_here", "several", "house_here", "odd", "bad", "full", "many", "three", "fold", "put", "cases", "taken", "lap", "spot"]) (sc := defScope (topS 81)) (own := [("spot", 17)]) (by decide +kernel)) (fun _ _ _ _ _ => (t_name sc_law.nd)) (fun _ _ _ _ _ => ts_nil) (fun _ _ _ _ _ => (d_tup (d_cons d_int (d_cons d_int (d_cons (dv 17) (d_cons d_int d_nil)))))))) d_nil)))
      (g_cons (g_if (d_cmpT o_notB (d_callX0 k_is_change (hr.mono (by decide)) (d_cons (d_ofO (d_make0 kI_House (hr.mono (by decide)) (d_cons d_int (d_cons (dv 9) d_nil)))) (d_cons (d_tup (d_cons d_str (d_cons d_int (d_cons d_int (d_cons d_int d_nil))))) d_nil))) d_bl (nomark _)) (g_one (g_ret d_bl)) g_nil)
      (g_cons (g_if (d_cmpT o_notB (d_callX0 k_is_change (hr.mono (by decide)) (d_cons (d_ofO (d_make0 kI_House (hr.mono (by decide)) (d_cons d_int (d_cons (dv 9) d_nil)))) (d_cons (d_tup (d_cons d_str (d_cons d_int d_nil))) d_nil))) d_bl (nomark _)) (g_one (g_ret d_bl)) g_nil)
      (g_cons (g_set (i := 10) sc_law.nd (d_op o_mul (d_tup (d_cons (d_tup (d_cons d_int (d_cons d_int (d_cons d_int (d_cons d_int d_nil))))) d_nil)) d_int))
      (g_cons (g_if (d_cmpT o_notB (d_callX0 k_is_change (hr.mono (by decide)) (d_cons (d_ofO (d_make0 kI_House (hr.mono (by decide)) (d_cons d_int (d_cons (dv 10) d_nil)))) (d_cons (d_tup (d_cons d_str (d_cons d_int (d_cons d_int (d_cons d_int d_nil))))) d_nil))) d_bl (nomark _)) (g_one (g_ret d_bl)) g_nil)
      (g_cons (g_if (d_cmpT o_notB (d_callX0 k_is_change (hr.mono (by decide)) (d_cons (d_ofO (d_make0 kI_House (hr.mono (by decide)) (d_cons d_int (d_cons (d_sl (dv 10) d_oNo (d_oAt d_int)) d_nil)))) (d_cons (d_tup (d_cons d_str (d_cons d_int (d_cons d_int (d_cons d_int d_nil))))) d_nil))) d_bl (nomark _)) (g_one (g_ret d_bl)) g_nil)
      (g_cons (g_unp (vs := [11, 12, 13]) (t_tup rfl (t_cons (t_name sc_law.nd) (t_cons (t_name sc_law.nd) (t_cons (t_name sc_law.nd) t_nil)))) (d_tup (d_cons (d_tup (d_cons d_int (d_cons d_int (d_cons d_int (d_cons d_int d_nil))))) (d_cons (d_tup (d_cons d_str (d_cons d_int d_nil))) (d_cons (d_tup (d_cons d_str (d_cons d_int (d_cons (d_neg d_int) (d_cons d_int d_nil))))) d_nil)))))
      (g_cons (g_setO (i := 14) sc_law.nd (d_lst (d_cons (d_tup (d_cons d_int (d_cons (d_tup (d_cons (d_tup (d_cons d_int (d_cons d_int (d_cons d_int (d_cons d_int d_nil))))) (d_cons (dv 11) d_nil))) (d_cons (d_tup (d_cons d_str (d_cons (d_tup (d_cons d_int (d_cons d_int d_nil))) (d_cons (d_tup (d_cons d_int (d_cons d_int d_nil))) d_nil)))) d_nil)))) (d_cons (d_tup (d_cons d_int (d_cons (d_tup (d_cons (dv 11) d_nil)) (d_cons (d_tup (d_cons d_str (d_cons d_int (d_cons (d_neg d_int) (d_cons d_int d_nil))))) d_nil)))) d_nil))))
      (g_cons (g_setO (i := 14) sc_law.nd (d_catO (dv 14) (d_ofO (d_lst (d_cons (d_tup (d_cons d_int (d_cons (d_tup (d_cons (d_tup (d_cons d_int (d_cons d_int (d_cons d_int (d_cons d_int d_nil))))) (d_cons (d_tup (d_cons d_int (d_cons d_int (d_cons d_int (d_cons d_int d_nil))))) d_nil))) (d_cons (d_tup (d_cons d_str (d_cons (d_tup (d_cons d_int (d_cons d_int d_nil))) (d_cons (d_tup (d_cons d_int (d_cons d_int d_nil))) d_nil)))) d_nil)))) (d_cons (d_tup (d_cons d_int (d_cons (d_tup (d_cons (dv 11) d_nil)) (d_cons (dv 13) d_nil)))) d_nil))))))
      (g_cons (g_setO (i := 14) sc_law.nd (d_catO (dv 14) (d_ofO (d_lst (d_cons (d_tup (d_cons d_int (d_cons (d_tup (d_cons (dv 11) d_nil)) (d_cons (d_tup (d_cons d_str (d_cons d_int (d_cons d_int (d_cons d_int d_nil))))) d_nil)))) (d_cons (d_tup (d_cons d_int (d_cons (d_tup (d_cons (d_tup (d_cons d_int (d_cons d_int (d_cons d_int (d_cons d_int d_nil))))) (d_cons (d_tup (d_cons d_int (d_cons d_int (d_cons d_int (d_cons d_int d_nil))))) d_nil))) (d_cons (dv 12) d_nil)))) d_nil))))))
      (g_cons (g_setO (i := 14) sc_law.nd (d_catO (dv 14) (d_ofO (d_lst (d_cons (d_tup (d_cons d_int (d_cons (d_tup (d_cons (d_tup (d_cons d_int (d_cons d_int (d_cons d_int (d_cons d_int d_nil))))) (d_cons (d_tup (d_cons d_int (d_cons d_int (d_cons d_int (d_cons d_int d_nil))))) d_nil))) (d_cons (dv 12) d_nil)))) (d_cons (d_tup (d_cons d_int (d_cons (d_tup (d_cons (d_tup (d_cons d_int (d_cons d_int (d_cons d_int (d_cons (d_neg d_int) d_nil))))) (d_cons (d_tup (d_cons d_int (d_cons d_int (d_cons d_int (d_cons d_int d_nil))))) d_nil))) (d_cons (dv 12) d_nil)))) d_nil))))))
      (g_cons (g_app 14 (d_tup (d_cons d_int (d_cons (d_tup (d_cons (d_tup (d_cons d_int (d_cons d_int (d_cons d_int (d_cons d_int d_nil))))) (d_cons (d_tup (d_cons d_int (d_cons d_int (d_cons d_int (d_cons d_int d_nil))))) d_nil))) (d_cons (dv 12) d_nil)))))
      (g_cons (g_for (vs := [3, 4, 15]) PassesOwn.never rfl (i_seq (dv 14)) (t_tup rfl (t_cons (t_name sc_law.nd) (t_cons (t_name sc_law.nd) (t_cons (t_name sc_law.nd) t_nil)))) (g_one (g_if (d_tnot (d_test (d_call k__law_judged (hr.mono (by decide)) (d_cons (dv 3) (d_cons (dv 4) (d_cons (d_ofO (d_lst (d_cons (dv 15) d_nil))) d_nil)))))) (g_one (g_ret d_bl)) g_nil)))
      (g_one (g_ret d_bl))))))))))))))))
end
omit [Tb] in
theorem law_ok : DL.LawFnG PySem.Challenge.rw_pulledrooms_k85_changes_and_what_comes_o fa fn tf ex 21 := by
  intro w K h mg f X G hm c
  have T := txt_of X G c
  obtain ⟨f', fd, F, m, kp, b⟩ := T.d_law.ex
  have e : f' = f := by
    rw [m] at hm
    cases hm
    rfl
  subst e
  obtain ⟨oc, od, kV, doc, pm, an, cdv, ct, osl, hfd, lk, hcd⟩ := F.ex
  refine ⟨fd, fun s v => ?_, fun base X2 G2 hT => ?_⟩
  · rw [hfd]
    exact .of_eq rfl
  · letI : Tb := ⟨tbOf K tf⟩
    have D : DefL K mg base "law" (topS 81) ["script"] := defL_of X G (c.t.d.fact 73 rfl) (c.t.d.def_ 62 rfl) (fun _ _ _ _ _ _ us hl => match us, hl with | [_], _ => rfl) (List.mem_cons_of_mem _ (List.mem_cons_of_mem _ List.mem_cons_self)) hT (of_decide_eq_true (exs_at c 16 rfl))
    obtain ⟨f2, fd2, c2, Pt, FL, m2, kp2, b2, tb, hmT, hu⟩ := D.ex
    have e2 : f2 = f' := by
      rw [m] at m2
      cases m2
      rfl
    subst e2
    have e3 : fd2 = fd := by
      obtain ⟨oc2, od2, kV2, doc2, pm2, an2, ct2, osl2, hfd2, lk2, hcd2⟩ := FL.ex
      have z := lk.symm.trans lk2
      injection z with z
      injection z with _ _ z _
      injection z with z
      exact z.symm
    subst e3
    have Lm : Lams K mg base := ⟨defL_of X G (c.t.d.fact 71 rfl) (c.t.d.def_ 60 rfl) (fun _ _ _ _ _ _ us hl => match us, hl with | [_, _, _], _ => rfl) List.mem_cons_self hT (of_decide_eq_true (exs_at c 16 rfl)),
      defL_of X G (c.t.d.fact 72 rfl) (c.t.d.def_ 61 rfl) (fun _ _ _ _ _ _ us hl => match us, hl with | [_, _, _], _ => rfl) (List.mem_cons_of_mem _ List.mem_cons_self) hT (of_decide_eq_true (exs_at c 16 rfl)),
      defL_of X G (c.t.d.fact 73 rfl) (c.t.d.def_ 62 rfl) (fun _ _ _ _ _ _ us hl => match us, hl with | [_], _ => rfl) (List.mem_cons_of_mem _ (List.mem_cons_of_mem _ List.mem_cons_self)) hT (of_decide_eq_true (exs_at c 16 rfl))⟩
    obtain ⟨fB, fdB, FB, mB, kB, bB⟩ := T.d__law_begun.ex
    exact law_okLG (k := 20) (G := G_law) FL sc_law rfl rfl (by first | exact Or.inl rfl | exact Or.inr (Or.inl rfl)) (by first | exact Or.inl rfl | exact Or.inr rfl) rfl ((ok_begun FB T.b_abs).mono (by decide)) mB kB bB (fun A outer s H E gd hr => b_law T ((kn__law_ch_house T).up (by decide)) ((kn__law_ch_change T).up (by decide)) ((kn__law_near_changes T).up (by decide)) ((kn__law_ch_slides T).up (by decide)) ((kn__law_judged T Lm).up (by decide)) ((kn__law_runs T Lm).up (by decide)) ((kn__law_pick T).up (by decide)) ((kn_is_change T).up (by decide)) ((kn_changed T).up (by decide)) ((kn_room_along T).up (by decide)) ((kn_House T).up (by decide)) (kn_caught T) ⟨c2, Pt, rfl, tb, hmT, hu⟩ gd hr) (fun ns hl => m_law ns hl)

end Law
open PySem PySem.W PySem.Calls PyProof.Rows
set_option maxRecDepth 100000 in
set_option maxHeartbeats 0 in
theorem PySem.Challenge.cw_pulledrooms_k85_changes_and_what_comes_o_holds : PySem.Challenge.rw_pulledrooms_k85_changes_and_what_comes_o.Holds := by
  w_on; o_law
  refine HandSHeadRun.head_any (r := OpenLaw.row PySem.Challenge.rw_pulledrooms_k85_changes_and_what_comes_o) (q := view (OpenLaw.row PySem.Challenge.rw_pulledrooms_k85_changes_and_what_comes_o).prog [81]) (H := Law.hk) (ob := Law.ob) (M := 9000) (loose := Law.names) (d := HandSHeadRun.topDef (OpenLaw.row PySem.Challenge.rw_pulledrooms_k85_changes_and_what_comes_o).prog 81) (kwd := []) Law.ob_eq
    (by kernel_rfl) (fun s => by kernel_rfl) Law.run (by kernel_rfl) (by kernel_rfl) (by kernel_rfl) (by rfl) (by first | assumption | decide +kernel) (by decide +kernel) ⟨rfl, rfl, rfl, rfl, rfl, by decide +kernel⟩ ?hw ?hc
  case hw => w_witness2
  case hc => exact DL.law_walkG (n := 5) rfl (by kernel_rfl) ⟨rfl, by decide, by decide⟩ (by kernel_rfl) Law.law_ok
