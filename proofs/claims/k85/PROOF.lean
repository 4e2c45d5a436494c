import PyProof.Rows.All
import Wide.All
import OpenK.AllK
import Wide.FinOn
import KE.KStateDown
import HandS.Head0
import HandS.Head1
import HandS.Head2
import HandS.HeadEnd
import HandS.HeadHook1
import HandS.HeadHook2
import HandS.HeadHook3
import HandS.HeadHook4
import HandS.ForMost
import HandS.Wide
import HandS.Evl
import HandS.Rev
import HandS.Style
import HandS.IsInst
import HandS.Defaults
import HandS.DictComp
import HandS.WideBits
import KE.GoesEnum
import HandS.TupAny
import HandS.OwnEq
import PyProof.InstNe
import HandS.TryOnly
import HandS.DeepEq
import PyProof.NeKinds
import HandS.TupLe
import HandS.CallLocal
import HandS.Lambda
import HandS.Small
import HandS.Iter
import HandS.More
import KE.KDflt
import HandS.MakeKw
import HandS.MakeKwOnly
import PyProof.Rows.ChunkEnd
import HandS.RevRange
import PyProof.Rows.CountFlat
import HandS.Flow
import HandS.Conv
import KE.OsArith
import HandS.Text
import KE.KBits
import KE.BitLaws
import HandS.HeadWalk
import PySem.Challenge.RW_thirtybits_k85_factorials
set_option Elab.async false
set_option linter.all false
set_option maxRecDepth 100000
set_option maxHeartbeats 0
set_option Elab.async false
set_option linter.all false
set_option maxRecDepth 100000
set_option maxHeartbeats 0
namespace VL
open PySem
/-! what is looked at behind the start: the things at places that are told, not those found by walking -/
def obsL (as0 : List Addr) (fa : List He.Fa) (fn : List He.DefD) (tf : List He.Defn) (ex : PySem.W.Frag → Bool) (g : Addr → Option Obj) : He.AlX := ((He.obsD fa fn (He.frT g as0), []), ex (He.frT g as0) && He.tabsB g tf (He.frT g as0))
theorem tabL {g : Addr → Option Obj} {K : PySem.W.Frag} {p : He.Defn} (h : (PySem.W.codeHdIn K (He.cT K p).1 (He.cT K p).2 && (match g (He.cT K p).2 with
    | some o => He.emptyTab o
    | none => false)) = true) : PySem.W.codeHdIn K (He.cT K p).1 (He.cT K p).2 = true ∧ ∃ o, g (He.cT K p).2 = some o ∧ He.emptyTab o = true := by
  rw [Bool.and_eq_true] at h
  refine ⟨h.1, ?_⟩
  revert h
  generalize g (He.cT K p).2 = u
  cases u with
  | none => exact fun h => nomatch h.2
  | some o => exact fun h => ⟨o, rfl, h.2⟩
theorem saysL {as0 : List Addr} {fa : List He.Fa} {fn : List He.DefD} {tf : List He.Defn} {ex : PySem.W.Frag → Bool} {w : World} {h : Heap} (e : obsL as0 fa fn tf ex h.get? = He.valX fn [] w) : He.SaysX fa fn [] tf ex w h (He.frT h.get? as0) := by
  obtain ⟨e1, e2⟩ := Prod.mk.inj e
  rw [Bool.and_eq_true] at e2
  have ts := List.all_eq_true.mp e2.2
  refine { t := e1, more := e2.1, hd := fun p m => (tabL (ts p m)).1, out := fun p m => ?_, empty := fun p m => ?_ }
  · obtain ⟨_, o, q, z⟩ := tabL (ts p m)
    exact He.frT_none q z
  · obtain ⟨_, o, q, z⟩ := tabL (ts p m)
    rw [q, He.emptyTab_eq z]
def hookL (as0 : List Addr) (fa : List He.Fa) (fn : List He.DefD) (tf : List He.Defn) (ex : PySem.W.Frag → Bool) : PySem.W.Hook :=
  ⟨He.AlX, fun s => obsL as0 fa fn tf ex s.heap.get?, fun w => He.valX fn [] w, fun w h => ∃ K : PySem.W.Frag, K.In h ∧ He.SaysX fa fn [] tf ex w h K,
   fun _ _ e => ⟨_, He.frT_in, saysL e⟩, fun _ _ _ ⟨K, i, c⟩ k => ⟨K, i.keeps k, c.t, c.more, c.hd, c.out, fun p m => k _ _ (c.empty p m)⟩⟩
theorem obsL_eq {as0 : List Addr} {fa : List He.Fa} {fn : List He.DefD} {tf : List He.Defn} {ex : PySem.W.Frag → Bool} {g : Addr → Option Obj} {s : PySem.Shared} (h : ∀ a, g a = s.heap.get? a) : obsL as0 fa fn tf ex g = (hookL as0 fa fn tf ex).obs s := by
  show _ = obsL as0 fa fn tf ex s.heap.get?
  rw [show g = s.heap.get? from funext h]
/-- from, how many -/
def addrs (a : Nat) : Nat → List Addr
  | 0 => []
  | n + 1 => a :: addrs (a + 1) n
end VL

namespace VL
open PySem L2 PyProof.Rows
def mwords : List Str := ["short", "sum", "product", "quotient", "corrected", "restored", "shifted", "combined", "complemented", "looked"]
def ownB (K : PySem.W.Frag) (C f : Addr) : Bool := match K.lookup C with
  | some ⟨.type t, _, .cls cd, sl⟩ => (match cd.mro, sl.toList with
    | [.ref C', .type b], [_, _, _, _, some (.builtin n), _] => decide (t = "type") && (decide (C' = C) && (decide (b = "object") && (!cd.hasDel && (PySem.W.nsOkIn K cd.ns && (He.eqO (PySem.W.nsIn K cd.ns "__ne__") (some none) && (He.eqO (PySem.W.nsIn K cd.ns "__eq__") (some (some (.ref f))) &&
        (match K.lookup f with
          | some ⟨.type u, _, _, _⟩ => decide (u = "function")
          | _ => false)))))))
    | _, _ => false)
  | _ => false
end VL
namespace P
open PySem L2 VL
def topS (i : Nat) : Stmt := PySem.Challenge.pw_thirtybits_k85_factorials.main.body.getD i (.Pass ⟨0, 0, 0, 0⟩)
abbrev s_is_integer : Stmt := topS 7
abbrev s_is_between : Stmt := topS 8
abbrev s_Mach_step : Stmt := inClass (topS 12) 6
abbrev s_Mach_enter : Stmt := inClass (topS 12) 7
abbrev s_Mach_reset : Stmt := inClass (topS 12) 5
abbrev s_Mach_tally : Stmt := inClass (topS 12) 3
abbrev s_Mach_walk : Stmt := inClass (topS 12) 4
abbrev s_Mach_parts : Stmt := inClass (topS 12) 2
abbrev s_Mach_init : Stmt := inClass (topS 12) 0
abbrev s_Big_eq : Stmt := inClass (topS 21) 1
abbrev s_Big_digits : Stmt := inClass (topS 21) 3
abbrev s_Big_sign : Stmt := inClass (topS 21) 2
abbrev s_Big_bits : Stmt := inClass (topS 21) 4
abbrev s_order_of : Stmt := topS 28
abbrev s_Big_init : Stmt := inClass (topS 21) 0
abbrev s_check_machine : Stmt := topS 13
abbrev s_top_digit : Stmt := topS 16
abbrev s_size_of : Stmt := topS 17
abbrev s_low_part : Stmt := topS 19
abbrev s_row_of : Stmt := topS 18
abbrev s_check_big : Stmt := topS 22
abbrev s_check_fit : Stmt := topS 25
abbrev s_check_one : Stmt := topS 23
abbrev s_check_two : Stmt := topS 24
abbrev s_big_of : Stmt := topS 26
abbrev s_are_compact : Stmt := topS 27
abbrev s_big : Stmt := topS 29
abbrev s_plain : Stmt := topS 30
abbrev s_ones_of : Stmt := topS 31
abbrev s_check_shift : Stmt := topS 35
abbrev s_shifted_left : Stmt := topS 36
abbrev s_shift_left : Stmt := topS 34
abbrev s_added : Stmt := topS 38
abbrev s_joined_room : Stmt := topS 39
abbrev s_product_by_rows : Stmt := topS 41
abbrev s_parts_of : Stmt := topS 48
abbrev s_room_above : Stmt := topS 49
abbrev s_whole_room : Stmt := topS 50
abbrev s_multiplied : Stmt := topS 45
abbrev s_lopsided_product : Stmt := topS 46
abbrev s_karatsuba_product : Stmt := topS 47
abbrev s_product_of : Stmt := topS 44
abbrev s_multiply : Stmt := topS 43
abbrev s_product_from : Stmt := topS 58
abbrev s_odd_product : Stmt := topS 57
abbrev s_factorial_of : Stmt := topS 56
abbrev s_factorial : Stmt := topS 55
abbrev s__law_mixed : Stmt := topS 60
abbrev s__law_source : Stmt := topS 61
abbrev s__law_draw : Stmt := topS 62
abbrev s__law_one : Stmt := topS 63
abbrev s__law_engines : Stmt := topS 64
abbrev s__law_digits : Stmt := topS 65
abbrev s__law_is : Stmt := topS 66
abbrev s__law_ran : Stmt := topS 67
abbrev s__law_world : Stmt := topS 68
abbrev s__law_as_world : Stmt := topS 69
abbrev s__law_odds : Stmt := topS 70
abbrev s__law_due : Stmt := topS 71
abbrev s__law_right : Stmt := topS 72
abbrev s_law : Stmt := topS 73
def iclsB (K : PySem.W.Frag) (C : Addr) : Bool := He.eqO (PySem.W.findIn K (.ref C) "__class__") (some (some (.builtin "object.__class__"))) && (He.eqO (PySem.W.specialIn K (.builtin "object.__class__") "__get__") (some (some (.builtin "getset_descriptor.__get__"))) &&
  (decide (PySem.W.takesIn K (.builtin "object.__class__") = some true) && (decide (PySem.W.mroIn K C (.type "object") = some true) && decide (PySem.W.kitOne K (.ref C) (.ref C) = some true))))
def tfs : List He.Defn := [("_law_odds", none), ("_law_due", none)]
def d_is_integer : He.DefD := ⟨("is_integer", none), "is_integer", "is_integer", defArgs s_is_integer, defBody s_is_integer, defScope s_is_integer, [], []⟩
def d_is_between : He.DefD := ⟨("is_between", none), "is_between", "is_between", defArgs s_is_between, defBody s_is_between, defScope s_is_between, [], []⟩
def d_order_of : He.DefD := ⟨("order_of", none), "order_of", "order_of", defArgs s_order_of, defBody s_order_of, defScope s_order_of, [], []⟩
def d_check_machine : He.DefD := ⟨("check_machine", none), "check_machine", "check_machine", defArgs s_check_machine, defBody s_check_machine, defScope s_check_machine, [], []⟩
def d_top_digit : He.DefD := ⟨("top_digit", none), "top_digit", "top_digit", defArgs s_top_digit, defBody s_top_digit, defScope s_top_digit, [], []⟩
def d_size_of : He.DefD := ⟨("size_of", none), "size_of", "size_of", defArgs s_size_of, defBody s_size_of, defScope s_size_of, [], []⟩
def d_low_part : He.DefD := ⟨("low_part", none), "low_part", "low_part", defArgs s_low_part, defBody s_low_part, defScope s_low_part, [], []⟩
def d_row_of : He.DefD := ⟨("row_of", none), "row_of", "row_of", defArgs s_row_of, defBody s_row_of, defScope s_row_of, [], []⟩
def d_check_big : He.DefD := ⟨("check_big", none), "check_big", "check_big", defArgs s_check_big, defBody s_check_big, defScope s_check_big, [], []⟩
def d_check_fit : He.DefD := ⟨("check_fit", none), "check_fit", "check_fit", defArgs s_check_fit, defBody s_check_fit, defScope s_check_fit, [], []⟩
def d_check_one : He.DefD := ⟨("check_one", none), "check_one", "check_one", defArgs s_check_one, defBody s_check_one, defScope s_check_one, [], []⟩
def d_check_two : He.DefD := ⟨("check_two", none), "check_two", "check_two", defArgs s_check_two, defBody s_check_two, defScope s_check_two, [], []⟩
def d_big_of : He.DefD := ⟨("big_of", none), "big_of", "big_of", defArgs s_big_of, defBody s_big_of, defScope s_big_of, [], []⟩
def d_are_compact : He.DefD := ⟨("are_compact", none), "are_compact", "are_compact", defArgs s_are_compact, defBody s_are_compact, defScope s_are_compact, [], []⟩
def d_big : He.DefD := ⟨("big", none), "big", "big", defArgs s_big, defBody s_big, defScope s_big, [], []⟩
def d_plain : He.DefD := ⟨("plain", none), "plain", "plain", defArgs s_plain, defBody s_plain, defScope s_plain, [], []⟩
def d_ones_of : He.DefD := ⟨("ones_of", none), "ones_of", "ones_of", defArgs s_ones_of, defBody s_ones_of, defScope s_ones_of, [], []⟩
def d_check_shift : He.DefD := ⟨("check_shift", none), "check_shift", "check_shift", defArgs s_check_shift, defBody s_check_shift, defScope s_check_shift, [], []⟩
def d_shifted_left : He.DefD := ⟨("shifted_left", none), "shifted_left", "shifted_left", defArgs s_shifted_left, defBody s_shifted_left, defScope s_shifted_left, [], []⟩
def d_shift_left : He.DefD := ⟨("shift_left", none), "shift_left", "shift_left", defArgs s_shift_left, defBody s_shift_left, defScope s_shift_left, [], []⟩
def d_added : He.DefD := ⟨("added", none), "added", "added", defArgs s_added, defBody s_added, defScope s_added, [], []⟩
def d_joined_room : He.DefD := ⟨("joined_room", none), "joined_room", "joined_room", defArgs s_joined_room, defBody s_joined_room, defScope s_joined_room, [], []⟩
def d_product_by_rows : He.DefD := ⟨("product_by_rows", none), "product_by_rows", "product_by_rows", defArgs s_product_by_rows, defBody s_product_by_rows, defScope s_product_by_rows, [], []⟩
def d_parts_of : He.DefD := ⟨("parts_of", none), "parts_of", "parts_of", defArgs s_parts_of, defBody s_parts_of, defScope s_parts_of, [], []⟩
def d_room_above : He.DefD := ⟨("room_above", none), "room_above", "room_above", defArgs s_room_above, defBody s_room_above, defScope s_room_above, [], []⟩
def d_whole_room : He.DefD := ⟨("whole_room", none), "whole_room", "whole_room", defArgs s_whole_room, defBody s_whole_room, defScope s_whole_room, [], []⟩
def d_multiplied : He.DefD := ⟨("multiplied", none), "multiplied", "multiplied", defArgs s_multiplied, defBody s_multiplied, defScope s_multiplied, [], []⟩
def d_lopsided_product : He.DefD := ⟨("lopsided_product", none), "lopsided_product", "lopsided_product", defArgs s_lopsided_product, defBody s_lopsided_product, defScope s_lopsided_product, [], []⟩
def d_karatsuba_product : He.DefD := ⟨("karatsuba_product", none), "karatsuba_product", "karatsuba_product", defArgs s_karatsuba_product, defBody s_karatsuba_product, defScope s_karatsuba_product, [], []⟩
def d_product_of : He.DefD := ⟨("product_of", none), "product_of", "product_of", defArgs s_product_of, defBody s_product_of, defScope s_product_of, [], []⟩
def d_multiply : He.DefD := ⟨("multiply", none), "multiply", "multiply", defArgs s_multiply, defBody s_multiply, defScope s_multiply, [], []⟩
def d_product_from : He.DefD := ⟨("product_from", none), "product_from", "product_from", defArgs s_product_from, defBody s_product_from, defScope s_product_from, [], []⟩
def d_odd_product : He.DefD := ⟨("odd_product", none), "odd_product", "odd_product", defArgs s_odd_product, defBody s_odd_product, defScope s_odd_product, [], []⟩
def d_factorial_of : He.DefD := ⟨("factorial_of", none), "factorial_of", "factorial_of", defArgs s_factorial_of, defBody s_factorial_of, defScope s_factorial_of, [], []⟩
def d_factorial : He.DefD := ⟨("factorial", none), "factorial", "factorial", defArgs s_factorial, defBody s_factorial, defScope s_factorial, [], []⟩
def d__law_mixed : He.DefD := ⟨("_law_mixed", none), "_law_mixed", "_law_mixed", defArgs s__law_mixed, defBody s__law_mixed, defScope s__law_mixed, [], []⟩
def d__law_source : He.DefD := ⟨("_law_source", none), "_law_source", "_law_source", defArgs s__law_source, defBody s__law_source, defScope s__law_source, [], []⟩
def d__law_draw : He.DefD := ⟨("_law_draw", none), "_law_draw", "_law_draw", defArgs s__law_draw, defBody s__law_draw, defScope s__law_draw, [], []⟩
def d__law_one : He.DefD := ⟨("_law_one", none), "_law_one", "_law_one", defArgs s__law_one, defBody s__law_one, defScope s__law_one, [], []⟩
def d__law_engines : He.DefD := ⟨("_law_engines", none), "_law_engines", "_law_engines", defArgs s__law_engines, defBody s__law_engines, defScope s__law_engines, [], []⟩
def d__law_digits : He.DefD := ⟨("_law_digits", none), "_law_digits", "_law_digits", defArgs s__law_digits, defBody s__law_digits, defScope s__law_digits, [], []⟩
def d__law_is : He.DefD := ⟨("_law_is", none), "_law_is", "_law_is", defArgs s__law_is, defBody s__law_is, defScope s__law_is, [], []⟩
def d__law_ran : He.DefD := ⟨("_law_ran", none), "_law_ran", "_law_ran", defArgs s__law_ran, defBody s__law_ran, defScope s__law_ran, [], []⟩
def d__law_world : He.DefD := ⟨("_law_world", none), "_law_world", "_law_world", defArgs s__law_world, defBody s__law_world, defScope s__law_world, [], []⟩
def d__law_as_world : He.DefD := ⟨("_law_as_world", none), "_law_as_world", "_law_as_world", defArgs s__law_as_world, defBody s__law_as_world, defScope s__law_as_world, [], []⟩
def d__law_odds : He.DefD := ⟨("_law_odds", none), "_law_odds", "_law_odds", defArgs s__law_odds, defBody s__law_odds, defScope s__law_odds, [], []⟩
def d__law_due : He.DefD := ⟨("_law_due", none), "_law_due", "_law_due", defArgs s__law_due, defBody s__law_due, defScope s__law_due, [], []⟩
def d__law_right : He.DefD := ⟨("_law_right", none), "_law_right", "_law_right", defArgs s__law_right, defBody s__law_right, defScope s__law_right, [], []⟩
def d_law : He.DefD := ⟨("law", none), "law", "law", defArgs s_law, defBody s_law, defScope s_law, [], []⟩
def d_Mach_step : He.DefD := ⟨("Machine", some "step"), "step", "Machine.step", defArgs s_Mach_step, defBody s_Mach_step, defScope s_Mach_step, [], []⟩
def d_Mach_enter : He.DefD := ⟨("Machine", some "enter"), "enter", "Machine.enter", defArgs s_Mach_enter, defBody s_Mach_enter, defScope s_Mach_enter, [], []⟩
def d_Mach_reset : He.DefD := ⟨("Machine", some "reset"), "reset", "Machine.reset", defArgs s_Mach_reset, defBody s_Mach_reset, defScope s_Mach_reset, [], []⟩
def d_Mach_tally : He.DefD := ⟨("Machine", some "tally"), "tally", "Machine.tally", defArgs s_Mach_tally, defBody s_Mach_tally, defScope s_Mach_tally, [], []⟩
def d_Mach_walk : He.DefD := ⟨("Machine", some "walk"), "walk", "Machine.walk", defArgs s_Mach_walk, defBody s_Mach_walk, defScope s_Mach_walk, [], []⟩
def d_Mach_parts : He.DefD := ⟨("Machine", some "parts"), "parts", "Machine.parts", defArgs s_Mach_parts, defBody s_Mach_parts, defScope s_Mach_parts, [], []⟩
def d_Mach_init : He.DefD := ⟨("Machine", some "__init__"), "__init__", "Machine.__init__", defArgs s_Mach_init, defBody s_Mach_init, defScope s_Mach_init, [.int 30, .int 70], []⟩
def d_Big_init : He.DefD := ⟨("Big", some "__init__"), "__init__", "Big.__init__", defArgs s_Big_init, defBody s_Big_init, defScope s_Big_init, [], []⟩
def d_Big_eq : He.DefD := ⟨("Big", some "__eq__"), "__eq__", "Big.__eq__", defArgs s_Big_eq, defBody s_Big_eq, defScope s_Big_eq, [], []⟩
def d_Big_digits : He.DefD := ⟨("Big", some "digits"), "digits", "Big.digits", defArgs s_Big_digits, defBody s_Big_digits, defScope s_Big_digits, [], []⟩
def d_Big_sign : He.DefD := ⟨("Big", some "sign"), "sign", "Big.sign", defArgs s_Big_sign, defBody s_Big_sign, defScope s_Big_sign, [], []⟩
def d_Big_bits : He.DefD := ⟨("Big", some "bits"), "bits", "Big.bits", defArgs s_Big_bits, defBody s_Big_bits, defScope s_Big_bits, [], []⟩
def fa0 : List He.Fa := [.cls "Machine", .noat "Machine" "width", .noat "Machine" "cutoff", .noat "Machine" "counts", .noat "Machine" "entered", .cls "Big", .noat "Big" "width", .noat "Big" "side", .noat "Big" "row", .noat "Big" "value", .free "isinstance", .free "int", .free "bool", .glo "is_integer", .glo "is_between", .meth "Machine" "step", .free "len", .int "LONGEST_WALK" 1000, .meth "Machine" "enter", .glo "WORDS", .meth "Machine" "reset", .meth "Machine" "tally", .free "list", .meth "Machine" "walk", .meth "Machine" "parts", .glo "Machine", .mkr "Machine", .glo "Big", .meth "Big" "__eq__", .meth "Big" "digits"]
def fa1 : List He.Fa := [.meth "Big" "sign", .meth "Big" "bits", .glo "order_of", .free "tuple", .mkr "Big", .glo "check_machine", .glo "top_digit", .glo "size_of", .glo "low_part", .glo "row_of", .int "LONGEST_LOOP" 32, .free "range", .glo "check_big", .glo "check_fit", .glo "check_one", .glo "check_two", .free "abs", .glo "big_of", .glo "are_compact", .glo "big", .glo "plain", .glo "ones_of", .glo "check_shift", .glo "shifted_left", .int "GREATEST_SHIFT" 100000, .glo "shift_left", .free "max", .glo "added", .glo "joined_room", .glo "product_by_rows"]
def fa2 : List He.Fa := [.glo "parts_of", .glo "room_above", .glo "whole_room", .glo "multiplied", .glo "lopsided_product", .glo "karatsuba_product", .free "min", .glo "product_of", .glo "multiply", .glo "product_from", .glo "odd_product", .int "WORD_BITS" 64, .int "SHORT_FACTORIAL" 20, .free "reversed", .glo "factorial_of", .int "GREATEST_FACTORIAL" 1100, .glo "factorial", .glo "_law_mixed", .glo "_law_source", .glo "_law_draw", .glo "_law_one", .glo "_law_engines", .glo "_law_digits", .glo "_law_is", .glo "_law_ran", .glo "_law_world", .glo "_law_as_world", .glo "_law_odds", .free "sum", .glo "_law_due"]
def fa3 : List He.Fa := [.glo "_law_right", .glo "law"]
def fa : List He.Fa := fa0 ++ fa1 ++ fa2 ++ fa3
def fn : List He.DefD := [d_is_integer, d_is_between, d_order_of, d_check_machine, d_top_digit, d_size_of, d_low_part, d_row_of, d_check_big, d_check_fit, d_check_one, d_check_two, d_big_of, d_are_compact, d_big, d_plain, d_ones_of, d_check_shift, d_shifted_left, d_shift_left, d_added, d_joined_room, d_product_by_rows, d_parts_of, d_room_above, d_whole_room, d_multiplied, d_lopsided_product, d_karatsuba_product, d_product_of, d_multiply, d_product_from, d_odd_product, d_factorial_of, d_factorial, d__law_mixed, d__law_source, d__law_draw, d__law_one, d__law_engines, d__law_digits, d__law_is, d__law_ran, d__law_world, d__law_as_world, d__law_odds, d__law_due, d__law_right, d_law, d_Mach_step, d_Mach_enter, d_Mach_reset, d_Mach_tally, d_Mach_walk, d_Mach_parts, d_Mach_init, d_Big_init, d_Big_eq, d_Big_digits, d_Big_sign, d_Big_bits]
def tabsApart (K : PySem.W.Frag) : Bool := decide (((tfs.map fun p => (He.cT K p).2)).Nodup)
def exB (K : PySem.W.Frag) : Bool := He.tupB K "WORDS" (mwords.map He.Dv.str) && (iclsB K (He.ga K "Machine") && (iclsB K (He.ga K "Big") && ownB K (He.ga K "Big") (He.ma K (He.ga K "Big") "__eq__"))) && tabsApart K
def loose0 : List Str := ["BitsError", "InvalidMachine", "InvalidBound", "TooGreat", "shown", "is_integer", "is_between", "WORDS", "LONGEST_WALK", "Machine", "check_machine", "LONGEST_LOOP", "top_digit", "size_of", "row_of", "low_part", "Big", "check_big", "check_one", "check_two", "check_fit", "big_of", "are_compact", "order_of", "big", "plain", "ones_of", "GREATEST_SHIFT", "shift_left", "check_shift"]
def loose1 : List Str := ["shifted_left", "added", "joined_room", "product_by_rows", "multiply", "product_of", "multiplied", "lopsided_product", "karatsuba_product", "parts_of", "room_above", "whole_room", "WORD_BITS", "GREATEST_FACTORIAL", "SHORT_FACTORIAL", "factorial", "factorial_of", "odd_product", "product_from", "_law_mixed", "_law_source", "_law_draw", "_law_one", "_law_engines", "_law_digits", "_law_is", "_law_ran", "_law_world", "_law_as_world", "_law_odds"]
def loose2 : List Str := ["_law_due", "_law_right"]
def loose : List Str := loose0 ++ loose1 ++ loose2
abbrev R : PySem.W.OpenRow := PySem.W.OpenLaw.row PySem.Challenge.rw_thirtybits_k85_factorials
abbrev hk : PySem.W.Hook := hookL (addrs 0 1200) fa fn tfs exB
def ob (s : PySem.W.SharedT) : He.AlX := obsL (addrs 0 1200) fa fn tfs exB (HandSHeadRun.getT s)
theorem ob_eq (s : PySem.W.SharedT) : ob s = hk.obs s.abs := obsL_eq (HandSHeadRun.getT_eq s)
theorem run (w : World) : HandSHeadRun.RunEq R (PySem.W.view R.prog [73]) hk ob 12000 loose w := by
  intro os
  kernel_rfl
end P
set_option maxHeartbeats 200000
set_option Elab.async false
set_option linter.all false
set_option maxRecDepth 100000
/-! What a body does, by values: Holds (the frozen part, the changing things, by place), Env (the slots), XG, XE, XT, XA, XS. -/
namespace VL
open PySem L2

/-! ### the frozen part and the changing things -/
structure VA where
  P : Hp → V → Prop
  mono : ∀ {F F' : Hp} {v : V}, Same F F' → P F v → P F' v
structure OA where
  P : Hp → Hp → Prop
  mono : ∀ {F F' t : Hp}, Same F F' → P F t → P F' t

def Holds (F : Hp) (Ω : List OA) (H : Hp) : Prop :=
  ∃ ts : Nat → Hp, (∀ (i : Nat) (o : OA), Ω[i]? = some o → o.P F (ts i)) ∧ Same F H ∧ (∀ i : Nat, i < Ω.length → Same (ts i) H) ∧
    (∀ (i : Nat) (b : Addr) (o : HO), i < Ω.length → ts i b = some o → F b = none) ∧
    ∀ (i j : Nat) (b : Addr) (o : HO), i < Ω.length → j < Ω.length → i ≠ j → ts i b = some o → ts j b = none

theorem getlt {α : Type} {l : List α} {i : Nat} {a : α} (h : l[i]? = some a) : i < l.length := (List.getElem?_eq_some_iff.mp h).1
theorem nn {F : Hp} {b : Addr} {o : HO} (h : F b = some o) (h' : F b = none) : False := by rw [h] at h'; cases h'
theorem same_upd {H : Hp} {p : Addr} {o : HO} (h : H p = none) : Same H (upd H p o) := fun b x e => by
  rw [upd_ne (ne_of_none e h)]; exact e

section
variable {F F' H H' : Hp} {Ω : List OA} {o o' : OA} {i j : Nat} {a p : Addr} {u u' : HO}
theorem Holds.same (h : Holds F Ω H) : Same F H := let ⟨_, _, q, _⟩ := h; q
theorem Holds.nil (h : Same F H) : Holds F [] H := ⟨fun _ _ => none, fun i o q => by simp at q, h, fun i q => absurd q (Nat.not_lt_zero _), fun i _ _ q => absurd q (Nat.not_lt_zero _), fun i _ _ _ q => absurd q (Nat.not_lt_zero _)⟩
/-- a new frozen object -/
theorem Holds.newF (h : Holds F Ω H) (n : H p = none) : Holds (upd F p u) Ω (upd H p u) ∧ Same F (upd F p u) := by
  obtain ⟨ts, h1, h2, h3, h4, h5⟩ := h
  have nF : F p = none := h2.free n
  have sF : Same F (upd F p u) := same_upd nF
  have nt : ∀ i, i < Ω.length → ts i p = none := fun i q => (h3 i q).free n
  refine ⟨⟨ts, fun i o q => o.mono sF (h1 i o q), fun b x e => ?_, fun i q => (h3 i q).trans (same_upd n), fun i b x q e => ?_, h5⟩, sF⟩
  · by_cases hb : b = p
    · subst hb; rw [upd_same] at e ⊢; exact e
    · rw [upd_ne hb] at e ⊢; exact h2 b x e
  · have hb : b ≠ p := fun z => by subst z; exact nn e (nt i q)
    rw [upd_ne hb]; exact h4 i b x q e
theorem app_at {α : Type} {l : List α} {a : α} : (l ++ [a])[l.length]? = some a := by simp
theorem app_lt {α : Type} {l : List α} {a b : α} {i : Nat} (h : l[i]? = some b) : (l ++ [a])[i]? = some b := by
  rw [List.getElem?_append_left (getlt h)]; exact h
/-- a new changing thing, behind the others -/
theorem Holds.newO {t : Hp} (h : Holds F Ω H) (n : ∀ b x, t b = some x → H b = none) (e : Same H H') (et : Same t H') (ok : o.P F t) : Holds F (Ω ++ [o]) H' := by
  obtain ⟨ts, h1, h2, h3, h4, h5⟩ := h
  have len : (Ω ++ [o]).length = Ω.length + 1 := by simp
  refine ⟨fun k => if k = Ω.length then t else ts k, fun i x q => ?_, h2.trans e, fun i q => ?_, fun i b x q r => ?_, fun i j b x qi qj ne r => ?_⟩
  · show x.P F (if i = Ω.length then t else ts i)
    by_cases hi : i = Ω.length
    · subst hi; rw [app_at] at q; cases q; rw [if_pos rfl]; exact ok
    · rw [if_neg hi]
      have lt : i < Ω.length := by have := getlt q; omega
      rw [List.getElem?_append_left lt] at q
      exact h1 i x q
  · show Same (if i = Ω.length then t else ts i) H'
    by_cases hi : i = Ω.length
    · rw [if_pos hi]; exact et
    · rw [if_neg hi]; exact (h3 i (by omega)).trans e
  · have r : (if i = Ω.length then t else ts i) b = some x := r
    by_cases hi : i = Ω.length
    · rw [if_pos hi] at r; exact h2.free (n b x r)
    · rw [if_neg hi] at r; exact h4 i b x (by omega) r
  · have r : (if i = Ω.length then t else ts i) b = some x := r
    show (if j = Ω.length then t else ts j) b = none
    by_cases hi : i = Ω.length
    · rw [if_pos hi] at r
      rw [if_neg (fun z => ne (hi.trans z.symm))]
      exact (h3 j (by omega)).free (n b x r)
    · rw [if_neg hi] at r
      by_cases hj : j = Ω.length
      · rw [if_pos hj]
        cases q : t b with
        | none => rfl
        | some y => exact (nn (h3 i (by omega) b x r) (n b y q)).elim
      · rw [if_neg hj]; exact h5 i j b x (by omega) (by omega) ne r
theorem sng_some {b : Addr} {x : HO} (e : upd (fun _ => none) p u b = some x) : b = p := by
  by_cases h : b = p
  · exact h
  · rw [upd_ne h] at e; cases e
theorem Holds.newL (h : Holds F Ω H) (n : H p = none) (ok : o.P F (upd (fun _ => none) p u)) : Holds F (Ω ++ [o]) (upd H p u) :=
  h.newO (t := upd (fun _ => none) p u) (fun b x e => by rw [sng_some e]; exact n) (same_upd n) (fun b x e => by
    have hb := sng_some e
    subst hb; rw [upd_same] at e ⊢; exact e) ok
/-- the thing at i: its part of the heap; it may be changed there -/
theorem Holds.get (h : Holds F Ω H) (q : Ω[i]? = some o) : ∃ t, o.P F t ∧ Same t H ∧ (∀ b x, t b = some x → F b = none) ∧
    ∀ (o' : OA) (a : Addr) (u u' : HO), t a = some u → o'.P F (upd t a u') → Holds F (Ω.set i o') (upd H a u') := by
  obtain ⟨ts, h1, h2, h3, h4, h5⟩ := h
  have lt := getlt q
  refine ⟨ts i, h1 i o q, h3 i lt, fun b x e => h4 i b x lt e, fun o' a u u' ha ok => ?_⟩
  have nF : F a = none := h4 i a u lt ha
  have tj : ∀ j, j < Ω.length → j ≠ i → ts j a = none := fun j lj ne => h5 i j a u lt lj (fun z => ne z.symm) ha
  refine ⟨fun k => if k = i then upd (ts i) a u' else ts k, fun k x r => ?_, fun b x e => ?_, fun k lk b x e => ?_, fun k b x lk e => ?_, fun k m b x lk lm ne e => ?_⟩
  · show x.P F (if k = i then _ else ts k)
    by_cases hk : k = i
    · subst hk
      rw [List.getElem?_set_self lt] at r; cases r; rw [if_pos rfl]; exact ok
    · rw [if_neg hk]
      rw [List.getElem?_set_ne (fun z => hk z.symm)] at r
      exact h1 k x r
  · rw [upd_ne (ne_of_none e nF)]; exact h2 b x e
  · rw [List.length_set] at lk
    have e : (if k = i then upd (ts i) a u' else ts k) b = some x := e
    by_cases hk : k = i
    · rw [if_pos hk] at e
      by_cases hb : b = a
      · subst hb; rw [upd_same] at e ⊢; exact e
      · rw [upd_ne hb] at e ⊢; exact h3 i lt b x e
    · rw [if_neg hk] at e
      rw [upd_ne (ne_of_none e (tj k lk hk))]; exact h3 k lk b x e
  · rw [List.length_set] at lk
    have e : (if k = i then upd (ts i) a u' else ts k) b = some x := e
    by_cases hk : k = i
    · rw [if_pos hk] at e
      by_cases hb : b = a
      · subst hb; exact nF
      · rw [upd_ne hb] at e; exact h4 i b x lt e
    · rw [if_neg hk] at e; exact h4 k b x lk e
  · rw [List.length_set] at lk lm
    have e : (if k = i then upd (ts i) a u' else ts k) b = some x := e
    show (if m = i then upd (ts i) a u' else ts m) b = none
    by_cases hk : k = i
    · rw [if_pos hk] at e
      have hm : m ≠ i := fun z => ne (hk.trans z.symm)
      rw [if_neg hm]
      by_cases hb : b = a
      · subst hb; exact tj m lm hm
      · rw [upd_ne hb] at e; exact h5 i m b x lt lm (fun z => hm z.symm) e
    · rw [if_neg hk] at e
      by_cases hm : m = i
      · rw [if_pos hm]
        have hb : b ≠ a := ne_of_none e (tj k lk hk)
        rw [upd_ne hb]; exact h5 k i b x lk lt hk e
      · rw [if_neg hm]; exact h5 k m b x lk lm ne e
/-- the last thing is left -/
theorem Holds.drop (h : Holds F (Ω ++ [o]) H) : Holds F Ω H := by
  obtain ⟨ts, h1, h2, h3, h4, h5⟩ := h
  have len : (Ω ++ [o]).length = Ω.length + 1 := by simp
  exact ⟨ts, fun i x q => h1 i x (app_lt q), h2, fun i q => h3 i (by omega), fun i b x q => h4 i b x (by omega), fun i j b x qi qj => h5 i j b x (by omega) (by omega)⟩
/-- two maps with nothing in common -/
def cup (F t : Hp) : Hp := fun b => match F b with | some o => some o | none => t b
theorem cup_l {F t : Hp} : Same F (cup F t) := fun b x e => by show (match F b with | some o => some o | none => t b) = _; rw [e]
theorem cup_r {F t : Hp} (d : ∀ b x, t b = some x → F b = none) : Same t (cup F t) := fun b x e => by show (match F b with | some o => some o | none => t b) = _; rw [d b x e]; exact e
theorem cup_or {F t : Hp} {b : Addr} {x : HO} (e : cup F t b = some x) : F b = some x ∨ t b = some x := by
  have e : (match F b with | some o => some o | none => t b) = some x := e
  cases h : F b with
  | none => rw [h] at e; exact .inr e
  | some y => rw [h] at e; exact .inl e
/-- the last thing becomes frozen -/
theorem Holds.freeze (h : Holds F (Ω ++ [o]) H) : ∃ F' t, Same F F' ∧ Same t F' ∧ o.P F t ∧ Holds F' Ω H := by
  obtain ⟨ts, h1, h2, h3, h4, h5⟩ := h
  have len : (Ω ++ [o]).length = Ω.length + 1 := by simp
  have d : ∀ b x, ts Ω.length b = some x → F b = none := fun b x e => h4 Ω.length b x (by omega) e
  refine ⟨cup F (ts Ω.length), ts Ω.length, cup_l, cup_r d, h1 _ _ app_at, ts, fun i x q => x.mono cup_l (h1 i x (app_lt q)), fun b x e => ?_, fun i q => h3 i (by omega), fun i b x q e => ?_, fun i j b x qi qj => h5 i j b x (by omega) (by omega)⟩
  · rcases cup_or e with e | e
    · exact h2 b x e
    · exact h3 Ω.length (by omega) b x e
  · cases z : cup F (ts Ω.length) b with
    | none => rfl
    | some y =>
      rcases cup_or z with z | z
      · exact (nn z (h4 i b x (by omega) e)).elim
      · exact (nn z (h5 i Ω.length b x (by omega) (by omega) (by omega) e)).elim
/-- the last thing is taken into the thing at i -/
theorem Holds.merge {o2 : OA} (h : Holds F (Ω ++ [o2]) H) (q : Ω[i]? = some o) : ∃ t t2, o.P F t ∧ o2.P F t2 ∧ Same t H ∧ Same t2 H ∧ (∀ b x, t b = some x → t2 b = none) ∧
    (∀ o' : OA, o'.P F (cup t t2) → Holds F (Ω.set i o') H) := by
  obtain ⟨ts, h1, h2, h3, h4, h5⟩ := h
  have len : (Ω ++ [o2]).length = Ω.length + 1 := by simp
  have lt := getlt q
  refine ⟨ts i, ts Ω.length, h1 i o (app_lt q), h1 _ _ app_at, h3 i (by omega), h3 _ (by omega), fun b x e => h5 i Ω.length b x (by omega) (by omega) (by omega) e, fun o' ok => ?_⟩
  refine ⟨fun k => if k = i then cup (ts i) (ts Ω.length) else ts k, fun k x r => ?_, h2, fun k lk b x e => ?_, fun k b x lk e => ?_, fun k m b x lk lm ne e => ?_⟩
  · show x.P F (if k = i then _ else ts k)
    by_cases hk : k = i
    · subst hk
      rw [List.getElem?_set_self lt] at r; cases r; rw [if_pos rfl]; exact ok
    · rw [if_neg hk]
      rw [List.getElem?_set_ne (fun z => hk z.symm)] at r
      exact h1 k x (app_lt r)
  · rw [List.length_set] at lk
    have e : (if k = i then cup (ts i) (ts Ω.length) else ts k) b = some x := e
    by_cases hk : k = i
    · rw [if_pos hk] at e
      rcases cup_or e with e | e
      · exact h3 i (by omega) b x e
      · exact h3 Ω.length (by omega) b x e
    · rw [if_neg hk] at e; exact h3 k (by omega) b x e
  · rw [List.length_set] at lk
    have e : (if k = i then cup (ts i) (ts Ω.length) else ts k) b = some x := e
    by_cases hk : k = i
    · rw [if_pos hk] at e
      rcases cup_or e with e | e
      · exact h4 i b x (by omega) e
      · exact h4 Ω.length b x (by omega) e
    · rw [if_neg hk] at e; exact h4 k b x (by omega) e
  · rw [List.length_set] at lk lm
    have e : (if k = i then cup (ts i) (ts Ω.length) else ts k) b = some x := e
    show (if m = i then cup (ts i) (ts Ω.length) else ts m) b = none
    by_cases hk : k = i
    · rw [if_pos hk] at e
      have hm : m ≠ i := fun z => ne (hk.trans z.symm)
      rw [if_neg hm]
      rcases cup_or e with e | e
      · exact h5 i m b x (by omega) (by omega) (by omega) e
      · exact h5 Ω.length m b x (by omega) (by omega) (by omega) e
    · rw [if_neg hk] at e
      by_cases hm : m = i
      · rw [if_pos hm]
        cases z : cup (ts i) (ts Ω.length) b with
        | none => rfl
        | some y =>
          rcases cup_or z with z | z
          · exact (nn z (h5 k i b x (by omega) (by omega) hk e)).elim
          · exact (nn z (h5 k Ω.length b x (by omega) (by omega) (by omega) e)).elim
      · rw [if_neg hm]; exact h5 k m b x (by omega) (by omega) ne e
end

/-! ### values by what they stand for -/
structure TC where
  K : PySem.W.Frag
  C : Nat → Addr
class Rp (α : Type) where
  rep : TC → Hp → V → α → Prop
  mono : ∀ {T : TC} {F F' : Hp} {v : V} {a : α}, Same F F' → rep T F v a → rep T F' v a
def va (T : TC) {α : Type} [Rp α] (a : α) : VA := ⟨fun F v => Rp.rep T F v a, Rp.mono⟩
def vr (p : Addr) : VA := ⟨fun _ v => v = .ref p, fun _ h => h⟩
def vx (v0 : V) : VA := ⟨fun _ v => v = v0, fun _ h => h⟩
instance : Rp Int := ⟨fun _ _ v n => v = .int n, fun _ h => h⟩
instance : Rp Bool := ⟨fun _ _ v n => v = .bl n, fun _ h => h⟩
instance : Rp Str := ⟨fun _ _ v n => v = .str n, fun _ h => h⟩
instance : Rp Unit := ⟨fun _ _ v _ => v = .non, fun _ h => h⟩
/-- a list that stays, a tuple of one kind, a pair, a triple -/
structure LF (α : Type) where
  l : List α
structure TF (α : Type) where
  l : List α
/-- the script -/
structure SF (α : Type) where
  l : List α
structure T3 (α β γ : Type) where
  a : α
  b : β
  c : γ
def Al {α : Type} [Rp α] (T : TC) (F : Hp) (vs : List V) (l : List α) : Prop := Paired (fun v a => Rp.rep T F v a) vs l
theorem Al.mono {α : Type} [Rp α] {T : TC} {F F' : Hp} (e : Same F F') : ∀ {vs : List V} {l : List α}, Al T F vs l → Al T F' vs l
  | _, _, .nil => .nil
  | _, _, .cons h t => .cons (Rp.mono e h) (Al.mono e t)
theorem Same.tup {K : PySem.W.Frag} {H H' : Hp} {a : Addr} {xs : List V} (e : Same H H') (h : SqT K H a xs) : SqT K H' a xs := by
  rcases h with (h | ⟨o, h⟩) | h
  · exact .inl (.inl (e _ _ h))
  · exact .inl (.inr ⟨o, e _ _ h⟩)
  · exact .inr h
instance {α : Type} [Rp α] : Rp (LF α) := ⟨fun T F v l => ∃ p vs, v = .ref p ∧ F p = some (.lst vs) ∧ Al T F vs l.l, fun e ⟨p, vs, h1, h2, h3⟩ => ⟨p, vs, h1, e _ _ h2, h3.mono e⟩⟩
instance {α : Type} [Rp α] : Rp (SF α) := ⟨fun T F v l => ∃ p vs, v = .ref p ∧ SqL T.K F p vs ∧ Al T F vs l.l, fun e ⟨p, vs, h1, h2, h3⟩ => ⟨p, vs, h1, e.seq h2, h3.mono e⟩⟩
instance {α : Type} [Rp α] : Rp (TF α) := ⟨fun T F v l => ∃ p vs, v = .ref p ∧ SqT T.K F p vs ∧ Al T F vs l.l, fun e ⟨p, vs, h1, h2, h3⟩ => ⟨p, vs, h1, Same.tup e h2, h3.mono e⟩⟩
instance {α β : Type} [Rp α] [Rp β] : Rp (α × β) := ⟨fun T F v l => ∃ p x y, v = .ref p ∧ SqT T.K F p [x, y] ∧ Rp.rep T F x l.1 ∧ Rp.rep T F y l.2, fun e ⟨p, x, y, h1, h2, h3, h4⟩ => ⟨p, x, y, h1, Same.tup e h2, Rp.mono e h3, Rp.mono e h4⟩⟩
instance {α β γ : Type} [Rp α] [Rp β] [Rp γ] : Rp (T3 α β γ) := ⟨fun T F v l => ∃ p x y z, v = .ref p ∧ SqT T.K F p [x, y, z] ∧ Rp.rep T F x l.a ∧ Rp.rep T F y l.b ∧ Rp.rep T F z l.c, fun e ⟨p, x, y, z, h1, h2, h3, h4, h5⟩ => ⟨p, x, y, z, h1, Same.tup e h2, Rp.mono e h3, Rp.mono e h4, Rp.mono e h5⟩⟩
theorem al_int {T : TC} {F : Hp} : ∀ {vs : List V} {l : List Int}, Al T F vs l → vs = l.map V.int
  | _, _, .nil => rfl
  | _, _, .cons h t => by rw [List.map_cons, ← al_int t, show _ = V.int _ from h]
theorem al_of_int {T : TC} {F : Hp} : ∀ {l : List Int}, Al T F (l.map V.int) l
  | [] => .nil
  | x :: r => .cons (show V.int x = V.int x from rfl) al_of_int
theorem al_len {α : Type} [Rp α] {T : TC} {F : Hp} : ∀ {vs : List V} {l : List α}, Al T F vs l → vs.length = l.length
  | _, _, .nil => rfl
  | _, _, .cons _ t => congrArg (· + 1) (al_len t)
theorem al_get {α : Type} [Rp α] {T : TC} {F : Hp} : ∀ {vs : List V} {l : List α} {i : Nat} {a : α}, Al T F vs l → l[i]? = some a → ∃ v, vs[i]? = some v ∧ Rp.rep T F v a
  | _, _, _, _, .nil, e => by simp at e
  | _, _, 0, _, .cons h _, e => by cases e; exact ⟨_, rfl, h⟩
  | _, _, i + 1, _, .cons _ t, e => al_get (i := i) t e
theorem al_set {α : Type} [Rp α] {T : TC} {F : Hp} {v : V} {a : α} (h : Rp.rep T F v a) : ∀ {vs : List V} {l : List α} (i : Nat), Al T F vs l → Al T F (vs.set i v) (l.set i a)
  | _, _, _, .nil => .nil
  | _, _, 0, .cons _ t => .cons h t
  | _, _, i + 1, .cons q t => .cons q (al_set h i t)
theorem al_app {α : Type} [Rp α] {T : TC} {F : Hp} : ∀ {vs ws : List V} {l m : List α}, Al T F vs l → Al T F ws m → Al T F (vs ++ ws) (l ++ m)
  | _, _, _, _, .nil, h => h
  | _, _, _, _, .cons q t, h => .cons q (al_app t h)
theorem al_take {α : Type} [Rp α] {T : TC} {F : Hp} : ∀ {vs : List V} {l : List α} (n : Nat), Al T F vs l → Al T F (vs.take n) (l.take n)
  | _, _, 0, _ => .nil
  | _, _, _ + 1, .nil => .nil
  | _, _, n + 1, .cons q t => .cons q (al_take n t)
theorem al_drop {α : Type} [Rp α] {T : TC} {F : Hp} : ∀ {vs : List V} {l : List α} (n : Nat), Al T F vs l → Al T F (vs.drop n) (l.drop n)
  | _, _, 0, h => h
  | _, _, _ + 1, .nil => .nil
  | _, _, n + 1, .cons _ t => al_drop n t
/-- a list that changes -/
def lstA (T : TC) {α : Type} [Rp α] (p : Addr) (l : List α) : OA := ⟨fun F t => ∃ vs, t p = some (.lst vs) ∧ Al T F vs l, fun e ⟨vs, h1, h2⟩ => ⟨vs, h1, h2.mono e⟩⟩

/-! ### slots -/
def Env (F : Hp) (σ : St) (Γ : List (Option VA)) : Prop := σ.length = Γ.length ∧ ∀ (i : Nat) (A : VA), Γ[i]? = some (some A) → ∃ v, σ[i]? = some (some v) ∧ A.P F v
theorem Env.mono {F F' : Hp} {σ : St} {Γ : List (Option VA)} (h : Env F σ Γ) (e : Same F F') : Env F' σ Γ := ⟨h.1, fun i A q => let ⟨v, h1, h2⟩ := h.2 i A q; ⟨v, h1, A.mono e h2⟩⟩
theorem Env.set {F : Hp} {σ : St} {Γ : List (Option VA)} {i : Nat} {v : V} {A : VA} (h : Env F σ Γ) (a : A.P F v) : Env F (σ.set i (some v)) (Γ.set i (some A)) := by
  refine ⟨by rw [List.length_set, List.length_set]; exact h.1, fun k B q => ?_⟩
  by_cases hk : i = k
  · subst hk
    have lt : i < Γ.length := by have := getlt q; rwa [List.length_set] at this
    rw [List.getElem?_set_self lt] at q
    cases q
    exact ⟨v, by rw [List.getElem?_set_self (by rw [h.1]; exact lt)], a⟩
  · rw [List.getElem?_set_ne hk] at q
    obtain ⟨w, h1, h2⟩ := h.2 k B q
    exact ⟨w, by rw [List.getElem?_set_ne hk]; exact h1, h2⟩
/-- what is known of slots is left -/
theorem Env.weak {F : Hp} {σ : St} {Γ Γ' : List (Option VA)} (h : Env F σ Γ) (hl : Γ'.length = Γ.length) (k : ∀ (i : Nat) A, Γ'[i]? = some (some A) → Γ[i]? = some (some A)) : Env F σ Γ' := ⟨h.1.trans hl.symm, fun i A q => h.2 i A (k i A q)⟩

/-! ### expressions -/
def XG (te : TE) (Γ : List (Option VA)) (Ω : List OA) (R : Hp → V → List OA → Prop) : Prop :=
  ∀ F σ H, Env F σ Γ → Holds F Ω H → ∀ Q : VK, (∀ F' v H' Ω', Same F F' → Holds F' Ω' H' → R F' v Ω' → Q v H') → te σ H Q
abbrev XE (te : TE) (Γ : List (Option VA)) (Ω : List OA) (A : VA) (Ω2 : List OA) : Prop := XG te Γ Ω fun F v Ω' => A.P F v ∧ Ω' = Ω2
def XT (t : TT) (Γ : List (Option VA)) (Ω : List OA) (b : Bool) (Ω2 : List OA) : Prop :=
  ∀ F σ H, Env F σ Γ → Holds F Ω H → ∀ Q : Bool → Hp → Prop, (∀ F' H', Same F F' → Holds F' Ω2 H' → Q b H') → t σ H Q
def AlA (F : Hp) (vs : List V) (As : List VA) : Prop := Paired (fun v (A : VA) => A.P F v) vs As
theorem AlA.mono {F F' : Hp} (e : Same F F') : ∀ {vs : List V} {As : List VA}, AlA F vs As → AlA F' vs As
  | _, _, .nil => .nil
  | _, _, .cons (b := A) h t => .cons (A.mono e h) (AlA.mono e t)
theorem AlA.len {F : Hp} : ∀ {vs : List V} {As : List VA}, AlA F vs As → vs.length = As.length
  | _, _, .nil => rfl
  | _, _, .cons _ t => congrArg (· + 1) (AlA.len t)
theorem AlA.app {F : Hp} : ∀ {vs ws : List V} {As Bs : List VA}, AlA F vs As → AlA F ws Bs → AlA F (vs ++ ws) (As ++ Bs)
  | _, _, _, _, .nil, h => h
  | _, _, _, _, .cons q t, h => .cons q (AlA.app t h)
def XA (t : TA) (Γ : List (Option VA)) (Ω : List OA) (As : List VA) (Ω2 : List OA) : Prop :=
  ∀ F σ H, Env F σ Γ → Holds F Ω H → ∀ Q : List V → Hp → Prop, (∀ F' vs H', Same F F' → Holds F' Ω2 H' → AlA F' vs As → Q vs H') → t σ H Q
/-- a one-place, two-place operation on values, a call on values -/
def RO (r : R2) (Ω : List OA) (A B C : VA) : Prop := ∀ F H x y, Holds F Ω H → A.P F x → B.P F y → ∀ Q : VK, (∀ F' v H', Same F F' → Holds F' Ω H' → C.P F' v → Q v H') → r x y H Q
def RU (r : V → Hp → VK → Prop) (Ω : List OA) (A C : VA) : Prop := ∀ F H x, Holds F Ω H → A.P F x → ∀ Q : VK, (∀ F' v H', Same F F' → Holds F' Ω H' → C.P F' v → Q v H') → r x H Q
def RC (r : List V → Hp → VK → Prop) (Ω : List OA) (As : List VA) (C : VA) : Prop := ∀ F H vs, Holds F Ω H → AlA F vs As → ∀ Q : VK, (∀ F' v H', Same F F' → Holds F' Ω H' → C.P F' v → Q v H') → r vs H Q

section
variable {T : TC} {Γ : List (Option VA)} {Ω Ω1 Ω2 : List OA} {A B C : VA} {ta tb te : TE} {t u : TT} {i j n m : Int} {b c : Bool}
theorem xe_var {i : Nat} (h : Γ[i]? = some (some A)) : XE (tVar i) Γ Ω A Ω := fun F σ H e hh Q q => by
  obtain ⟨v, h1, h2⟩ := e.2 i A h
  exact ⟨v, h1, q F v H Ω (Same.refl F) hh ⟨h2, rfl⟩⟩
theorem xe_c {v : V} (h : ∀ F, A.P F v) : XE (tC v) Γ Ω A Ω := fun F σ H e hh Q q => q F v H Ω (Same.refl F) hh ⟨h F, rfl⟩
theorem xe_int : XE (tC (.int n)) Γ Ω (va T n) Ω := xe_c fun _ => rfl
theorem xe_bl : XE (tC (.bl b)) Γ Ω (va T b) Ω := xe_c fun _ => rfl
theorem xe_str {s : Str} : XE (tC (.str s)) Γ Ω (va T s) Ω := xe_c fun _ => rfl
theorem xe_op {r : R2} (ha : XE ta Γ Ω A Ω1) (hb : XE tb Γ Ω1 B Ω2) (hr : RO r Ω2 A B C) : XE (tOp r ta tb) Γ Ω C Ω2 := fun F σ H e hh Q q => by
  refine ha F σ H e hh _ fun F1 x H1 Ω' e1 hh1 ⟨a1, o1⟩ => ?_
  subst o1
  refine hb F1 σ H1 (e.mono e1) hh1 _ fun F2 y H2 Ω'' e2 hh2 ⟨a2, o2⟩ => ?_
  subst o2
  exact hr F2 H2 x y hh2 (A.mono e2 a1) a2 Q fun F3 v H3 e3 hh3 a3 => q F3 v H3 _ ((e1.trans e2).trans e3) hh3 ⟨a3, rfl⟩
theorem xe_un {r : V → Hp → VK → Prop} (ha : XE ta Γ Ω A Ω1) (hr : RU r Ω1 A C) : XE (tUn r ta) Γ Ω C Ω1 := fun F σ H e hh Q q => by
  refine ha F σ H e hh _ fun F1 x H1 Ω' e1 hh1 ⟨a1, o1⟩ => ?_
  subst o1
  exact hr F1 H1 x hh1 a1 Q fun F3 v H3 e3 hh3 a3 => q F3 v H3 _ (e1.trans e3) hh3 ⟨a3, rfl⟩
theorem xa_nil : XA tNil Γ Ω [] Ω := fun F σ H e hh Q q => q F [] H (Same.refl F) hh .nil
theorem xa_cons {tr : TA} {As : List VA} (ha : XE ta Γ Ω A Ω1) (hr : XA tr Γ Ω1 As Ω2) : XA (tCons ta tr) Γ Ω (A :: As) Ω2 := fun F σ H e hh Q q => by
  refine ha F σ H e hh _ fun F1 x H1 Ω' e1 hh1 ⟨a1, o1⟩ => ?_
  subst o1
  refine hr F1 σ H1 (e.mono e1) hh1 _ fun F2 xs H2 e2 hh2 a2 => ?_
  exact q F2 (x :: xs) H2 (e1.trans e2) hh2 (.cons (A.mono e2 a1) a2)
theorem xe_cb {r : List V → Hp → VK → Prop} {t : TA} {As : List VA} (ha : XA t Γ Ω As Ω1) (hr : RC r Ω1 As C) : XE (tCB r t) Γ Ω C Ω1 := fun F σ H e hh Q q => by
  refine ha F σ H e hh _ fun F1 xs H1 e1 hh1 a1 => ?_
  exact hr F1 H1 xs hh1 a1 Q fun F3 v H3 e3 hh3 a3 => q F3 v H3 _ (e1.trans e3) hh3 ⟨a3, rfl⟩
/-- the same with another word for it -/
theorem XG.imp {R R' : Hp → V → List OA → Prop} (h : XG te Γ Ω R) (k : ∀ F v Ω', R F v Ω' → R' F v Ω') : XG te Γ Ω R' := fun F σ H e hh Q q => h F σ H e hh Q fun F' v H' Ω' e' hh' r => q F' v H' Ω' e' hh' (k _ _ _ r)
theorem XE.to (h : XE te Γ Ω A Ω1) (k : ∀ F v, A.P F v → B.P F v) : XE te Γ Ω B Ω1 := h.imp fun F v Ω' ⟨a, o⟩ => ⟨k F v a, o⟩
theorem xe_eq {α : Type} [Rp α] {a a' : α} (h : XE te Γ Ω (va T a) Ω1) (e : a = a') : XE te Γ Ω (va T a') Ω1 := e ▸ h

/-! ints -/
theorem ro_I0 {g : Int → Int → V} (h : ∀ F, C.P F (g i j)) : RO (rI0 g) Ω (va T i) (va T j) C := fun F H x y hh a1 a2 Q q => ⟨i, j, a1, a2, q F _ H (Same.refl F) hh (h F)⟩
theorem ro_I {D : Int → Int → Prop} {g : Int → Int → V} (hd : D i j) (h : ∀ F, C.P F (g i j)) : RO (rI D g) Ω (va T i) (va T j) C := fun F H x y hh a1 a2 Q q => ⟨i, j, a1, a2, hd, q F _ H (Same.refl F) hh (h F)⟩
theorem ro_int {g : Int → Int → Int} : RO (rI0 fun i j => .int (g i j)) Ω (va T i) (va T j) (va T (g i j)) := ro_I0 fun _ => rfl
theorem ro_intD {D : Int → Int → Prop} {g : Int → Int → Int} (hd : D i j) : RO (rI D fun i j => .int (g i j)) Ω (va T i) (va T j) (va T (g i j)) := ro_I hd fun _ => rfl
theorem ro_bl {g : Int → Int → Bool} : RO (rI0 fun i j => .bl (g i j)) Ω (va T i) (va T j) (va T (g i j)) := ro_I0 fun _ => rfl
theorem ru_int {g : Int → Int} : RU (rU fun i => .int (g i)) Ω (va T i) (va T (g i)) := fun F H x hh a1 Q q => ⟨i, a1, q F _ H (Same.refl F) hh rfl⟩
theorem ro_eqI : RO rEq Ω (va T i) (va T j) (va T (decide (i = j))) := fun F H x y hh a1 a2 Q q => by
  have a1 : x = .int i := a1
  have a2 : y = .int j := a2
  subst a1 a2
  refine ⟨rfl, q F _ H (Same.refl F) hh ?_⟩
  show V.bl _ = V.bl _
  congr 1
  exact decide_eq_decide.mpr ⟨V.int.inj, fun h => by rw [h]⟩
theorem ro_neI : RO rNe Ω (va T i) (va T j) (va T (!decide (i = j))) := fun F H x y hh a1 a2 Q q => by
  have a1 : x = .int i := a1
  have a2 : y = .int j := a2
  subst a1 a2
  refine ⟨rfl, q F _ H (Same.refl F) hh ?_⟩
  show V.bl _ = V.bl _
  congr 2
  exact decide_eq_decide.mpr ⟨V.int.inj, fun h => by rw [h]⟩
theorem ro_eqB : RO rEq Ω (va T b) (va T c) (va T (decide (b = c))) := fun F H x y hh a1 a2 Q q => by
  have a1 : x = .bl b := a1
  have a2 : y = .bl c := a2
  subst a1 a2
  refine ⟨rfl, q F _ H (Same.refl F) hh ?_⟩
  show V.bl _ = V.bl _
  congr 1
  exact decide_eq_decide.mpr ⟨V.bl.inj, fun h => by rw [h]⟩
/-! tests -/
theorem xt_test (h : XE te Γ Ω (va T b) Ω1) : XT (tTest te) Γ Ω b Ω1 := fun F σ H e hh Q q => by
  refine h F σ H e hh _ fun F1 x H1 Ω' e1 hh1 ⟨a1, o1⟩ => ?_
  subst o1
  exact ⟨b, a1, q F1 H1 e1 hh1⟩
theorem xt_tB (h : XE te Γ Ω (va T b) Ω1) : XT (tB te) Γ Ω b Ω1 := xt_test (T := T) h
theorem xt_and (h1 : XT t Γ Ω b Ω1) (h2 : b = true → XT u Γ Ω1 c Ω2) (h3 : b = false → Ω1 = Ω2) : XT (tAnd t u) Γ Ω (b && c) Ω2 := fun F σ H e hh Q q => by
  refine h1 F σ H e hh _ fun F1 H1 e1 hh1 => ?_
  cases b with
  | true => rw [if_pos rfl]; exact h2 rfl F1 σ H1 (e.mono e1) hh1 Q fun F2 H2 e2 hh2 => q F2 H2 (e1.trans e2) hh2
  | false => rw [if_neg Bool.false_ne_true]; exact q F1 H1 e1 (h3 rfl ▸ hh1)
theorem xt_or (h1 : XT t Γ Ω b Ω1) (h2 : b = false → XT u Γ Ω1 c Ω2) (h3 : b = true → Ω1 = Ω2) : XT (tOr t u) Γ Ω (b || c) Ω2 := fun F σ H e hh Q q => by
  refine h1 F σ H e hh _ fun F1 H1 e1 hh1 => ?_
  cases b with
  | false => rw [if_neg Bool.false_ne_true]; exact h2 rfl F1 σ H1 (e.mono e1) hh1 Q fun F2 H2 e2 hh2 => q F2 H2 (e1.trans e2) hh2
  | true => rw [if_pos rfl]; exact q F1 H1 e1 (h3 rfl ▸ hh1)
theorem xt_not (h1 : XT t Γ Ω b Ω1) : XT (tNot t) Γ Ω (!b) Ω1 := fun F σ H e hh Q q => h1 F σ H e hh _ q
theorem xt_eq (h : XT t Γ Ω b Ω1) (e : b = c) : XT t Γ Ω c Ω1 := e ▸ h
theorem xe_if (h : XT t Γ Ω b Ω1) (h1 : b = true → XE ta Γ Ω1 A Ω2) (h2 : b = false → XE tb Γ Ω1 A Ω2) : XE (tIf t ta tb) Γ Ω A Ω2 := fun F σ H e hh Q q => by
  refine h F σ H e hh _ fun F1 H1 e1 hh1 => ?_
  cases b with
  | true => rw [if_pos rfl]; exact h1 rfl F1 σ H1 (e.mono e1) hh1 Q fun F2 v H2 Ω' e2 hh2 r => q F2 v H2 Ω' (e1.trans e2) hh2 r
  | false => rw [if_neg Bool.false_ne_true]; exact h2 rfl F1 σ H1 (e.mono e1) hh1 Q fun F2 v H2 Ω' e2 hh2 r => q F2 v H2 Ω' (e1.trans e2) hh2 r
theorem xe_andV (h1 : XE ta Γ Ω (va T b) Ω) (h2 : b = true → XE tb Γ Ω (va T c) Ω) : XE (tAndV ta tb) Γ Ω (va T (b && c)) Ω := fun F σ H e hh Q q => by
  refine h1 F σ H e hh _ fun F1 x H1 Ω' e1 hh1 ⟨a1, o1⟩ => ?_
  subst o1
  refine ⟨b, a1, ?_⟩
  cases b with
  | true => rw [if_pos rfl]; exact h2 rfl F1 σ H1 (e.mono e1) hh1 Q fun F2 v H2 Ω'' e2 hh2 r => q F2 v H2 Ω'' (e1.trans e2) hh2 r
  | false => rw [if_neg Bool.false_ne_true]; exact q F1 _ H1 _ e1 hh1 ⟨rfl, rfl⟩
theorem xe_notV (h1 : XE ta Γ Ω (va T b) Ω1) : XE (tNotV ta) Γ Ω (va T (!b)) Ω1 := fun F σ H e hh Q q => by
  refine h1 F σ H e hh _ fun F1 x H1 Ω' e1 hh1 ⟨a1, o1⟩ => ?_
  exact ⟨b, a1, q F1 _ H1 _ e1 hh1 ⟨rfl, o1⟩⟩
theorem xe_chain {r r' : R2} {D : VA} {tc : TE} (ha : XE ta Γ Ω A Ω) (hb : XE tb Γ Ω B Ω) (hr : RO r Ω A B (va T b)) (hc : b = true → XE tc Γ Ω D Ω) (hr' : b = true → RO r' Ω B D (va T c)) : XE (tChain r r' ta tb tc) Γ Ω (va T (b && c)) Ω := fun F σ H e hh Q q => by
  refine ha F σ H e hh _ fun F1 x H1 Ω' e1 hh1 ⟨a1, o1⟩ => ?_
  subst o1
  refine hb F1 σ H1 (e.mono e1) hh1 _ fun F2 y H2 Ω'' e2 hh2 ⟨a2, o2⟩ => ?_
  subst o2
  refine hr F2 H2 x y hh2 (A.mono e2 a1) a2 _ fun F3 v H3 e3 hh3 a3 => ⟨b, a3, ?_⟩
  cases b with
  | true =>
    rw [if_pos rfl]
    refine hc rfl F3 σ H3 (e.mono ((e1.trans e2).trans e3)) hh3 _ fun F4 z H4 Ω3 e4 hh4 ⟨a4, o4⟩ => ?_
    subst o4
    exact hr' rfl F4 H4 y z hh4 (B.mono (e3.trans e4) a2) a4 Q fun F5 w H5 e5 hh5 a5 => q F5 w H5 _ ((((e1.trans e2).trans e3).trans e4).trans e5) hh5 ⟨a5, rfl⟩
  | false => rw [if_neg Bool.false_ne_true]; exact q F3 _ H3 _ ((e1.trans e2).trans e3) hh3 ⟨rfl, rfl⟩
end
end VL

set_option Elab.async false
set_option linter.all false
set_option maxRecDepth 100000
/-! lists, fields, calls, statements -/
namespace VL
open PySem L2

/-! ### defs' promises -/
/-- a promise: of the arguments As in the state Ω, what comes of it -/
abbrev PreT := List VA → List OA → (Hp → V → List OA → Prop) → Prop
def mkSp (Pre : PreT) : Sp := fun vs H Q _ => ∃ F Ω As R, Pre As Ω R ∧ AlA F vs As ∧ Holds F Ω H ∧ ∀ F' v H' Ω', Same F F' → Holds F' Ω' H' → R F' v Ω' → Q v H'
/-- hands back a, leaves Ω2 -/
abbrev RV (A : VA) (Ω2 : List OA) : Hp → V → List OA → Prop := fun F v Ω' => A.P F v ∧ Ω' = Ω2
/-- hands back a new changing thing -/
abbrev RN (Ω2 : List OA) (o : Addr → OA) : Hp → V → List OA → Prop := fun F v Ω' => ∃ p, v = .ref p ∧ Ω' = Ω2 ++ [o p]

/-! ### the changing things by place: those of the caller at the places ks, then a def's own -/
def apk (Ω : List OA) : List (Nat × OA) → List OA
  | [] => Ω
  | p :: r => (apk Ω r).set p.1 p.2
def stt (Ω : List OA) (ks : List (Nat × OA)) (L : List OA) : List OA := apk Ω ks ++ L
theorem apk_len {Ω : List OA} : ∀ ks : List (Nat × OA), (apk Ω ks).length = Ω.length
  | [] => rfl
  | p :: r => by unfold apk; rw [List.length_set, apk_len r]
/-- the places differ and are there -/
structure Okk (Ω : List OA) (keys : List Nat) : Prop where
  nd : keys.Nodup
  lt : ∀ k ∈ keys, k < Ω.length
theorem apk_get {Ω : List OA} : ∀ {ks : List (Nat × OA)} {i : Nat} {k : Nat} {o : OA}, (ks.map (·.1)).Nodup → k < Ω.length → ks[i]? = some (k, o) → (apk Ω ks)[k]? = some o
  | [], _, _, _, _, _, h => by simp at h
  | p :: r, 0, k, o, _, lt, h => by
    cases h
    unfold apk
    rw [List.getElem?_set_self (by rw [apk_len]; exact lt)]
  | p :: r, i + 1, k, o, nd, lt, h => by
    have h : r[i]? = some (k, o) := h
    unfold apk
    obtain ⟨h1, h2⟩ := List.nodup_cons.mp (show (p.1 :: r.map (·.1)).Nodup from nd)
    have ne : p.1 ≠ k := fun e => h1 (List.mem_map.mpr ⟨(k, o), List.mem_of_getElem? h, e.symm⟩)
    rw [List.getElem?_set_ne ne]
    exact apk_get h2 lt h
theorem apk_set {Ω : List OA} : ∀ {ks : List (Nat × OA)} {i : Nat} {k : Nat} {o o' : OA}, (ks.map (·.1)).Nodup → ks[i]? = some (k, o) → (apk Ω ks).set k o' = apk Ω (ks.set i (k, o'))
  | [], _, _, _, _, _, h => by simp at h
  | p :: r, 0, k, o, o', _, h => by
    cases h
    show ((apk Ω r).set k o).set k o' = (apk Ω r).set k o'
    rw [List.set_set]
  | p :: r, i + 1, k, o, o', nd, h => by
    have h : r[i]? = some (k, o) := h
    obtain ⟨h1, h2⟩ := List.nodup_cons.mp (show (p.1 :: r.map (·.1)).Nodup from nd)
    have ne : p.1 ≠ k := fun e => h1 (List.mem_map.mpr ⟨(k, o), List.mem_of_getElem? h, e.symm⟩)
    show ((apk Ω r).set p.1 p.2).set k o' = (apk Ω (r.set i (k, o'))).set p.1 p.2
    rw [List.set_comm _ _ ne, apk_set h2 h]
theorem apk_self {Ω : List OA} : ∀ {ks : List (Nat × OA)}, (∀ p ∈ ks, Ω[p.1]? = some p.2) → apk Ω ks = Ω
  | [], _ => rfl
  | p :: r, h => by
    unfold apk
    rw [apk_self fun q hq => h q (List.mem_cons_of_mem _ hq)]
    apply List.ext_getElem?
    intro k
    have hp := h p List.mem_cons_self
    by_cases e : p.1 = k
    · subst e; rw [List.getElem?_set_self (getlt hp), hp]
    · rw [List.getElem?_set_ne e]
section
variable {Ω : List OA} {keys : List Nat} {ks : List (Nat × OA)} {L : List OA} {i j k : Nat} {o o' : OA}
theorem stt_get (ok : Okk Ω keys) (h : ks[i]? = some (k, o)) (hk : ks.map (·.1) = keys := by rfl) : (stt Ω ks L)[k]? = some o := by
  subst hk
  have hm : k ∈ ks.map (·.1) := List.mem_map.mpr ⟨(k, o), List.mem_of_getElem? h, rfl⟩
  have lt := ok.lt k hm
  unfold stt
  rw [List.getElem?_append_left (by rw [apk_len]; exact lt)]
  exact apk_get ok.nd lt h
theorem stt_set (ok : Okk Ω keys) (h : ks[i]? = some (k, o)) (hk : ks.map (·.1) = keys := by rfl) : (stt Ω ks L).set k o' = stt Ω (ks.set i (k, o')) L := by
  subst hk
  have hm : k ∈ ks.map (·.1) := List.mem_map.mpr ⟨(k, o), List.mem_of_getElem? h, rfl⟩
  have lt := ok.lt k hm
  unfold stt
  rw [List.set_append_left _ _ (by rw [apk_len]; exact lt), apk_set ok.nd h]
theorem stt_getL (h : L[j]? = some o) : (stt Ω ks L)[Ω.length + j]? = some o := by
  unfold stt
  rw [List.getElem?_append_right (by rw [apk_len]; omega), apk_len, Nat.add_sub_cancel_left]
  exact h
theorem stt_setL : (stt Ω ks L).set (Ω.length + j) o' = stt Ω ks (L.set j o') := by
  unfold stt
  rw [List.set_append_right _ _ (by rw [apk_len]; omega), apk_len, Nat.add_sub_cancel_left]
theorem stt_app : stt Ω ks L ++ [o] = stt Ω ks (L ++ [o]) := List.append_assoc _ _ _
theorem stt_self (h : ∀ p ∈ ks, Ω[p.1]? = some p.2) : stt Ω ks [] = Ω := by
  unfold stt
  rw [apk_self h, List.append_nil]
theorem stt_nil : stt Ω ks [] = apk Ω ks := List.append_nil _
theorem apk_out {Ω : List OA} : ∀ {ks : List (Nat × OA)}, k ∉ ks.map (·.1) → (apk Ω ks)[k]? = Ω[k]?
  | [], _ => rfl
  | p :: r, h => by
    unfold apk
    have h : k ∉ p.1 :: r.map (·.1) := h
    rw [List.getElem?_set_ne (fun e => h (by rw [e]; exact List.mem_cons_self))]
    exact apk_out fun m => h (List.mem_cons_of_mem _ m)
theorem stt_getU (h : Ω[k]? = some o) (hn : k ∉ ks.map (·.1) := by simp) : (stt Ω ks L)[k]? = some o := by
  unfold stt
  rw [List.getElem?_append_left (by rw [apk_len]; exact getlt h), apk_out hn]
  exact h
theorem ne_kL (h : k < Ω.length) : k ≠ Ω.length + j := by omega
theorem cal0 : stt (stt Ω ks L) [] [] = stt Ω ks L := List.append_nil _
theorem stt_one {Ω : List OA} : stt Ω [(k, o)] [] = Ω.set k o := List.append_nil _
theorem cal1 (ok : Okk Ω keys) (h : ks[i]? = some (k, o)) (hk : ks.map (·.1) = keys := by rfl) : stt (stt Ω ks L) [(k, o')] [] = stt Ω (ks.set i (k, o')) L := stt_one.trans (stt_set ok h hk)
theorem cal1L : stt (stt Ω ks L) [(Ω.length + j, o')] [] = stt Ω ks (L.set j o') := stt_one.trans stt_setL
theorem stt_two {Ω : List OA} {m : Nat} {o2 : OA} : stt Ω [(k, o), (m, o2)] [] = stt (stt Ω [(m, o2)] []) [(k, o)] [] := by
  rw [stt_one, stt_one]
  exact List.append_nil _
theorem okk0 : Okk Ω [] := ⟨by simp, fun k h => by cases h⟩
theorem okk1 (h : Ω[k]? = some o) : Okk Ω [k] := ⟨by simp, fun m hm => by rw [List.mem_singleton.mp hm]; exact getlt h⟩
theorem okk2 (h : Ω[k]? = some o) (h2 : Ω[j]? = some o') (ne : k ≠ j) : Okk Ω [k, j] := ⟨by simp [ne], fun m hm => by
  rcases List.mem_cons.mp hm with e | e
  · rw [e]; exact getlt h
  · rw [List.mem_singleton.mp e]; exact getlt h2⟩
end
section
variable {T : TC} {Γ : List (Option VA)} {Ω Ω1 Ω2 : List OA} {A B C : VA} {As : List VA} {ta tb te : TE} {t u : TT} {i j n m : Int} {b c : Bool}
theorem xg_call {Pre : PreT} {E : XK} {t : TA} {R : Hp → V → List OA → Prop} (ha : XA t Γ Ω As Ω1) (hp : Pre As Ω1 R) : XG (tCall (mkSp Pre) [] E t) Γ Ω R := fun F σ H e hh Q q => by
  refine ha F σ H e hh _ fun F1 xs H1 e1 hh1 a1 => ?_
  refine ⟨F1, Ω1, As, R, hp, by rw [List.append_nil]; exact a1, hh1, fun F' v H' Ω' e' hh' r => q F' v H' Ω' (e1.trans e') hh' r⟩
/-! ### the state ahead of a statement -/
def NX (F0 : Hp) (Γ : List (Option VA)) (Ω : List OA) : St → Hp → Prop := fun σ H => ∃ F, Same F0 F ∧ Env F σ Γ ∧ Holds F Ω H
def RT (F0 : Hp) (R : Hp → V → List OA → Prop) : VK → Prop := fun Q => ∀ F v H Ω, Same F0 F → Holds F Ω H → R F v Ω → Q v H
def XS (t : TS) (D : Ends) (F0 : Hp) (Γ : List (Option VA)) (Ω : List OA) : Prop := ∀ σ H, NX F0 Γ Ω σ H → t D σ H
theorem RT.mono {F0 F1 : Hp} {R : Hp → V → List OA → Prop} {Q : VK} (k : RT F0 R Q) (e : Same F0 F1) : RT F1 R Q := fun F v H Ω f hh r => k F v H Ω (e.trans f) hh r
variable {D : Ends} {F0 : Hp} {t1 t2 ts : TS} {R : Hp → V → List OA → Prop}
theorem xs_set {k : Nat} (h : XE te Γ Ω A Ω1) (q : XS ts D F0 (Γ.set k (some A)) Ω1) : XS (tSeq (tAsg te (gName k)) ts) D F0 Γ Ω := fun σ H ⟨F, f0, e, hh⟩ =>
  h F σ H e hh _ fun F1 v H1 Ω' e1 hh1 ⟨a1, o1⟩ => q _ H1 ⟨F1, f0.trans e1, (e.mono e1).set a1, o1 ▸ hh1⟩
theorem xs_setN {k : Nat} {o : Addr → OA} (h : XG te Γ Ω (RN Ω1 o)) (q : ∀ p, XS ts D F0 (Γ.set k (some (vr p))) (Ω1 ++ [o p])) : XS (tSeq (tAsg te (gName k)) ts) D F0 Γ Ω := fun σ H ⟨F, f0, e, hh⟩ =>
  h F σ H e hh _ fun F1 v H1 Ω' e1 hh1 ⟨p, a1, o1⟩ => q p _ H1 ⟨F1, f0.trans e1, (e.mono e1).set (A := vr p) a1, o1 ▸ hh1⟩
theorem xs_drop (h : XE te Γ Ω A Ω1) (q : XS ts D F0 Γ Ω1) : XS (tSeq (tDrop te) ts) D F0 Γ Ω := fun σ H ⟨F, f0, e, hh⟩ =>
  h F σ H e hh _ fun F1 v H1 Ω' e1 hh1 ⟨_, o1⟩ => q σ H1 ⟨F1, f0.trans e1, e.mono e1, o1 ▸ hh1⟩
/-- the same as the block's last statement -/
theorem xs_set1 {k : Nat} (h : XE te Γ Ω A Ω1) (q : ∀ σ H, NX F0 (Γ.set k (some A)) Ω1 σ H → D.nx σ H) : XS (tAsg te (gName k)) D F0 Γ Ω := fun σ H ⟨F, f0, e, hh⟩ =>
  h F σ H e hh _ fun F1 v H1 Ω' e1 hh1 ⟨a1, o1⟩ => q _ H1 ⟨F1, f0.trans e1, (e.mono e1).set a1, o1 ▸ hh1⟩
theorem xs_drop1 (h : XE te Γ Ω A Ω1) (q : ∀ σ H, NX F0 Γ Ω1 σ H → D.nx σ H) : XS (tDrop te) D F0 Γ Ω := fun σ H ⟨F, f0, e, hh⟩ =>
  h F σ H e hh _ fun F1 v H1 Ω' e1 hh1 ⟨_, o1⟩ => q σ H1 ⟨F1, f0.trans e1, e.mono e1, o1 ▸ hh1⟩
theorem xs_ret (h : XG te Γ Ω R) (q : RT F0 R D.rt) : XS (tRet te) D F0 Γ Ω := fun σ H ⟨F, f0, e, hh⟩ =>
  h F σ H e hh _ fun F1 v H1 Ω' e1 hh1 r => q F1 v H1 Ω' (f0.trans e1) hh1 r
/-- what is made in a def and not told is left -/
theorem RT.drop {Q : VK} {A : VA} {o : OA} (k : RT F0 (RV A Ω) Q) : RT F0 (RV A (Ω ++ [o])) Q := fun F v H Ω' f hh ⟨a, e⟩ => by
  subst e
  exact k F v H Ω f hh.drop ⟨a, rfl⟩
theorem xs_ifT (h : XT t Γ Ω true Ω1) (q : XS t1 { D with nx := ts D } F0 Γ Ω1) : XS (tSeq (tIfS t t1 t2) ts) D F0 Γ Ω := fun σ H ⟨F, f0, e, hh⟩ =>
  h F σ H e hh _ fun F1 H1 e1 hh1 => by rw [if_pos rfl]; exact q σ H1 ⟨F1, f0.trans e1, e.mono e1, hh1⟩
theorem xs_ifF (h : XT t Γ Ω false Ω1) (q : XS t2 { D with nx := ts D } F0 Γ Ω1) : XS (tSeq (tIfS t t1 t2) ts) D F0 Γ Ω := fun σ H ⟨F, f0, e, hh⟩ =>
  h F σ H e hh _ fun F1 H1 e1 hh1 => by rw [if_neg Bool.false_ne_true]; exact q σ H1 ⟨F1, f0.trans e1, e.mono e1, hh1⟩
theorem xs_ifT1 (h : XT t Γ Ω true Ω1) (q : XS t1 D F0 Γ Ω1) : XS (tIfS t t1 t2) D F0 Γ Ω := fun σ H ⟨F, f0, e, hh⟩ =>
  h F σ H e hh _ fun F1 H1 e1 hh1 => by rw [if_pos rfl]; exact q σ H1 ⟨F1, f0.trans e1, e.mono e1, hh1⟩
theorem xs_ifF1 (h : XT t Γ Ω false Ω1) (q : XS t2 D F0 Γ Ω1) : XS (tIfS t t1 t2) D F0 Γ Ω := fun σ H ⟨F, f0, e, hh⟩ =>
  h F σ H e hh _ fun F1 H1 e1 hh1 => by rw [if_neg Bool.false_ne_true]; exact q σ H1 ⟨F1, f0.trans e1, e.mono e1, hh1⟩
/-- a statement, a word between, the rest -/
theorem xs_cut {Γ' : List (Option VA)} {Ω' : List OA} (h : XS t1 { D with nx := NX F0 Γ' Ω' } F0 Γ Ω) (k : XS ts D F0 Γ' Ω') : XS (Evl.tCut t1 ts) D F0 Γ Ω := fun σ H n => ⟨NX F0 Γ' Ω', h σ H n, fun σ' H' m => k σ' H' m⟩
/-- what is known is left -/
theorem NX.weak {Γ' : List (Option VA)} {σ : St} {H : Hp} (h : NX F0 Γ Ω σ H) (hl : Γ'.length = Γ.length) (k : ∀ (i : Nat) A, Γ'[i]? = some (some A) → Γ[i]? = some (some A)) : NX F0 Γ' Ω σ H :=
  let ⟨F, f0, e, hh⟩ := h
  ⟨F, f0, e.weak hl k, hh⟩
theorem NX.drop {o : OA} {σ : St} {H : Hp} (h : NX F0 Γ (Ω ++ [o]) σ H) : NX F0 Γ Ω σ H := let ⟨F, f0, e, hh⟩ := h; ⟨F, f0, e, hh.drop⟩
/-- what an expression makes anew becomes frozen -/
theorem xe_fz {α : Type} [Rp α] {l : List α} (h : XG te Γ Ω (RN Ω1 fun p => lstA T p l)) : XE te Γ Ω (va T (LF.mk l)) Ω1 := fun F σ H e hh Q q =>
  h F σ H e hh Q fun F1 v H1 Ω' e1 hh1 ⟨p, hv, o1⟩ => by
    subst o1
    obtain ⟨F', t, s1, s2, ⟨vs, ht, al⟩, hh'⟩ := hh1.freeze
    exact q F' v H1 _ (e1.trans s1) hh' ⟨⟨p, vs, hv, s2 _ _ ht, al.mono s1⟩, rfl⟩
theorem xs_seq (h : XS t1 { D with nx := ts D } F0 Γ Ω) : XS (tSeq t1 ts) D F0 Γ Ω := h
/-! ### tests whose second part may be undefined -/
theorem xt_andO {mb : Option Bool} {v : Bool} (h1 : XT t Γ Ω b Ω) (hm : (if b = true then mb else some false) = some v) (h2 : ∀ v, mb = some v → XT u Γ Ω v Ω) : XT (tAnd t u) Γ Ω v Ω := fun F σ H e hh Q q => by
  refine h1 F σ H e hh _ fun F1 H1 e1 hh1 => ?_
  cases b with
  | true =>
    rw [if_pos rfl] at hm ⊢
    exact h2 v hm F1 σ H1 (e.mono e1) hh1 Q fun F2 H2 e2 hh2 => q F2 H2 (e1.trans e2) hh2
  | false =>
    rw [if_neg Bool.false_ne_true] at hm ⊢
    cases hm
    exact q F1 H1 e1 hh1
/-- a known way through a test -/
theorem xt_orF (h1 : XT t Γ Ω false Ω1) (h2 : XT u Γ Ω1 false Ω2) : XT (tOr t u) Γ Ω false Ω2 := xt_or (b := false) (c := false) h1 (fun _ => h2) (fun h => nomatch h)
theorem xe_andT (h1 : XE ta Γ Ω (va T true) Ω1) (h2 : XE tb Γ Ω1 (va T b) Ω2) : XE (tAndV ta tb) Γ Ω (va T b) Ω2 := fun F σ H e hh Q q => by
  refine h1 F σ H e hh _ fun F1 x H1 Ω' e1 hh1 ⟨a1, o1⟩ => ?_
  subst o1
  refine ⟨true, a1, ?_⟩
  rw [if_pos rfl]
  exact h2 F1 σ H1 (e.mono e1) hh1 Q fun F2 v H2 Ω'' e2 hh2 r => q F2 v H2 Ω'' (e1.trans e2) hh2 r
theorem xt_notF (h1 : XT t Γ Ω true Ω1) : XT (tNot t) Γ Ω false Ω1 := xt_not h1
/-- what an expression's value must be to go on -/
def chk (b : Bool) : Option Unit := if b = true then some () else none
theorem xs_setO {k : Nat} {ks : List (Nat × OA)} {L : List OA} {o : Addr → OA} {Ω0 : List OA} (h : XG te Γ Ω0 (RN (stt Ω ks L) o)) (q : ∀ p, XS ts D F0 (Γ.set k (some (vr p))) (stt Ω ks (L ++ [o p]))) : XS (tSeq (tAsg te (gName k)) ts) D F0 Γ Ω0 :=
  xs_setN h fun p => by rw [stt_app]; exact q p
theorem xe_call {Pre : PreT} {E : XK} {t : TA} {Ω' : List OA} (ha : XA t Γ Ω As Ω1) (hp : Pre As Ω1 (RV A Ω')) (he : Ω' = Ω2) : XE (tCall (mkSp Pre) [] E t) Γ Ω A Ω2 := he ▸ xg_call ha hp
theorem xn_call {Pre : PreT} {E : XK} {t : TA} {Ω' : List OA} {o : Addr → OA} (ha : XA t Γ Ω As Ω1) (hp : Pre As Ω1 (RN Ω' o)) (he : Ω' = Ω2) : XG (tCall (mkSp Pre) [] E t) Γ Ω (RN Ω2 o) := he ▸ xg_call ha hp
theorem NX.forget {σ : L2.St} {H : Hp} (h : NX F0 Γ Ω σ H) (k : Nat) : NX F0 (Γ.set k none) Ω σ H := h.weak (by rw [List.length_set]) fun i A q => by
  by_cases e : k = i
  · subst e
    have lt : k < Γ.length := by have := getlt q; rwa [List.length_set] at this
    rw [List.getElem?_set_self lt] at q
    cases q
  · rwa [List.getElem?_set_ne e] at q
/-- nothing -/
def nilA : OA := ⟨fun _ _ => True, fun _ _ => trivial⟩
theorem Holds.freezeAt {F H : Hp} {Ω : List OA} {o : OA} {i : Nat} (h : Holds F Ω H) (q : Ω[i]? = some o) : ∃ F' t, Same F F' ∧ Same t F' ∧ o.P F t ∧ Holds F' (Ω.set i nilA) H := by
  obtain ⟨ts, h1, h2, h3, h4, h5⟩ := h
  have lt := getlt q
  have d : ∀ b x, ts i b = some x → F b = none := fun b x e => h4 i b x lt e
  refine ⟨cup F (ts i), ts i, cup_l, cup_r d, h1 _ _ q, fun k => if k = i then (fun _ => none) else ts k, fun k x r => ?_, fun b x e => ?_, fun k r b x e => ?_, fun k b x r e => ?_, fun k m b x r r2 ne e => ?_⟩
  · show x.P _ (if k = i then (fun _ => none) else ts k)
    by_cases hk : k = i
    · subst hk
      rw [List.getElem?_set_self lt] at r
      cases r
      exact trivial
    · rw [if_neg hk]
      rw [List.getElem?_set_ne (fun z => hk z.symm)] at r
      exact x.mono cup_l (h1 k x r)
  · rcases cup_or e with e | e
    · exact h2 b x e
    · exact h3 i lt b x e
  · rw [List.length_set] at r
    have e : (if k = i then (fun _ => none) else ts k) b = some x := e
    by_cases hk : k = i
    · rw [if_pos hk] at e; cases e
    · rw [if_neg hk] at e; exact h3 k r b x e
  · rw [List.length_set] at r
    have e : (if k = i then (fun _ => none) else ts k) b = some x := e
    by_cases hk : k = i
    · rw [if_pos hk] at e; cases e
    · rw [if_neg hk] at e
      cases z : cup F (ts i) b with
      | none => rfl
      | some y =>
        rcases cup_or z with z | z
        · exact (nn z (h4 k b x r e)).elim
        · exact (nn z (h5 k i b x r lt hk e)).elim
  · rw [List.length_set] at r r2
    have e : (if k = i then (fun _ => none) else ts k) b = some x := e
    show (if m = i then (fun _ => none) else ts m) b = none
    by_cases hm : m = i
    · rw [if_pos hm]
    · rw [if_neg hm]
      by_cases hk : k = i
      · rw [if_pos hk] at e; cases e
      · rw [if_neg hk] at e; exact h5 k m b x r r2 ne e
theorem NX.fzJ {α : Type} [Rp α] {l : List α} {p : Addr} {k j : Nat} {ks : List (Nat × OA)} {L : List OA} {σ : L2.St} {H : Hp} (h : NX F0 Γ (stt Ω ks L) σ H) (hk : Γ[k]? = some (some (vr p))) (hj : L[j]? = some (lstA T p l)) : NX F0 (Γ.set k (some (va T (LF.mk l)))) (stt Ω ks (L.set j nilA)) σ H := by
  obtain ⟨F, f0, e, hh⟩ := h
  obtain ⟨F', t, s1, s2, ⟨vs, ht, al⟩, hh'⟩ := hh.freezeAt (stt_getL hj)
  rw [stt_setL] at hh'
  obtain ⟨v, h1, h2⟩ := e.2 k _ hk
  have e2 := (e.mono s1).set (i := k) (v := v) (A := va T (LF.mk l)) ⟨p, vs, h2, s2 _ _ ht, al.mono s1⟩
  have es : σ.set k (some v) = σ := by
    apply List.ext_getElem?
    intro m
    by_cases hm : k = m
    · subst hm; rw [List.getElem?_set_self (getlt h1)]; exact h1.symm
    · rw [List.getElem?_set_ne hm]
  rw [es] at e2
  exact ⟨F', f0.trans s1, e2, hh'⟩
theorem xs_fzJ {α : Type} [Rp α] {l : List α} {p : Addr} {k j : Nat} {ks : List (Nat × OA)} {L : List OA} (hk : Γ[k]? = some (some (vr p))) (hj : L[j]? = some (lstA T p l)) (q : XS ts D F0 (Γ.set k (some (va T (LF.mk l)))) (stt Ω ks (L.set j nilA))) : XS ts D F0 Γ (stt Ω ks L) := fun σ H n => q σ H (n.fzJ hk hj)
/-- one of a def's own things stays, the others are left -/
theorem Holds.sel {F H : Hp} {Ω L : List OA} {o : OA} {j : Nat} (h : Holds F (Ω ++ L) H) (q : L[j]? = some o) : Holds F (Ω ++ [o]) H := by
  obtain ⟨ts, h1, h2, h3, h4, h5⟩ := h
  have lj := getlt q
  have len : (Ω ++ L).length = Ω.length + L.length := List.length_append
  have len1 : (Ω ++ [o]).length = Ω.length + 1 := by simp
  have ix : ∀ k, k < Ω.length + 1 → (if k = Ω.length then Ω.length + j else k) < (Ω ++ L).length := fun k hk => by
    split <;> omega
  have inj : ∀ k m, k < Ω.length + 1 → m < Ω.length + 1 → k ≠ m → (if k = Ω.length then Ω.length + j else k) ≠ (if m = Ω.length then Ω.length + j else m) := fun k m hk hm ne => by
    split <;> split <;> omega
  refine ⟨fun k => ts (if k = Ω.length then Ω.length + j else k), fun k x r => ?_, h2, fun k r => h3 _ (ix k (by omega)), fun k b x r e => h4 _ b x (ix k (by omega)) e, fun k m b x r r2 ne e => h5 _ _ b x (ix k (by omega)) (ix m (by omega)) (inj k m (by omega) (by omega) ne) e⟩
  by_cases hk : k = Ω.length
  · subst hk
    rw [app_at] at r
    cases r
    show o.P F (ts (if Ω.length = Ω.length then Ω.length + j else Ω.length))
    rw [if_pos rfl]
    refine h1 _ _ ?_
    rw [List.getElem?_append_right (by omega), Nat.add_sub_cancel_left]
    exact q
  · have lt : k < Ω.length := by have := getlt r; omega
    show x.P F (ts (if k = Ω.length then Ω.length + j else k))
    rw [if_neg hk]
    rw [List.getElem?_append_left lt] at r
    refine h1 _ _ ?_
    rw [List.getElem?_append_left lt]
    exact r
theorem Holds.all {F H : Hp} {Ω : List OA} {ks : List (Nat × OA)} {L : List OA} (h : Holds F (stt Ω ks L) H) : Holds F (stt Ω ks []) H := by
  obtain ⟨ts, h1, h2, h3, h4, h5⟩ := h
  have len : (stt Ω ks L).length = (apk Ω ks).length + L.length := List.length_append
  have e : stt Ω ks [] = apk Ω ks := stt_nil
  rw [e]
  exact ⟨ts, fun i o q => h1 i o (by unfold stt; rw [List.getElem?_append_left (getlt q)]; exact q), h2, fun i q => h3 i (by omega), fun i b x q => h4 i b x (by omega), fun i j b x qi qj => h5 i j b x (by omega) (by omega)⟩
theorem RT.all {Q : VK} {A : VA} {ks : List (Nat × OA)} {L : List OA} (k : RT F0 (RV A (stt Ω ks [])) Q) : RT F0 (RV A (stt Ω ks L)) Q := fun F v H Ω' f hh ⟨a, e⟩ => by
  subst e
  exact k F v H _ f hh.all ⟨a, rfl⟩
/-- the thing at j of a def's own is handed back -/
theorem RT.hand {Q : VK} {o : Addr → OA} {p : Addr} {j : Nat} {ks : List (Nat × OA)} {L : List OA} (k : RT F0 (RN (stt Ω ks []) o) Q) (hj : L[j]? = some (o p)) : RT F0 (RV (vr p) (stt Ω ks L)) Q := fun F v H Ω' f hh ⟨a, e⟩ => by
  subst e
  refine k F v H _ f (Holds.sel (Ω := apk Ω ks) hh hj) ⟨p, a, ?_⟩
  rw [stt_nil]
theorem RT.allN {Q : VK} {o : Addr → OA} {ks : List (Nat × OA)} {L : List OA} (k : RT F0 (RN (stt Ω ks []) o) Q) : RT F0 (RN (stt Ω ks L) o) Q := fun F v H Ω' f hh ⟨p, a, e⟩ => by
  subst e
  rw [stt_app] at hh
  refine k F v H _ f (Holds.sel (Ω := apk Ω ks) (o := o p) (j := L.length) hh app_at) ⟨p, a, ?_⟩
  rw [stt_nil]
/-! ### loops -/
inductive Stp (S ρ : Type) where
  | nx (s : S) | rt (r : ρ) | bk (s : S)
def whileM {S ρ : Type} (c : S → Option Bool) (b : S → Option (Stp S ρ)) : Nat → S → Option (Stp S ρ)
  | 0, _ => none
  | n + 1, s => (c s).bind fun v => if v = true then (b s).bind fun
      | .nx s' => whileM c b n s'
      | .rt r => some (.rt r)
      | .bk s' => some (.nx s')
    else some (.nx s)
def forM' {α S ρ : Type} (b : α → S → Option (Stp S ρ)) : List α → S → Option (Stp S ρ)
  | [], s => some (.nx s)
  | x :: r, s => (b x s).bind fun
      | .nx s' => forM' b r s'
      | .rt v => some (.rt v)
      | .bk s' => some (.nx s')
/-- what a loop hands on -/
def nxt {S ρ : Type} : Stp S ρ → Option S
  | .nx s => some s
  | _ => none
def aft {S ρ : Type} (st : Stp S ρ) (k : S → Option ρ) : Option ρ := match st with
  | .nx s => k s
  | .rt r => some r
  | .bk _ => none
/-- what a block's end must lead to: st by the block's own word -/
structure To {S ρ : Type} (D : Ends) (F0 : Hp) (st : Stp S ρ) (N B : S → St → Hp → Prop) (RR : ρ → Hp → V → List OA → Prop) : Prop where
  nx : ∀ s, st = .nx s → ∀ σ H, N s σ H → D.nx σ H
  ct : ∀ s, st = .nx s → ∀ σ H, N s σ H → D.ct σ H
  bk : ∀ s, st = .bk s → ∀ σ H, B s σ H → D.bk σ H
  rt : ∀ r, st = .rt r → RT F0 (RR r) D.rt
theorem bnd_some {α β : Type} {o : Option α} {f : α → Option β} {r : β} (h : o.bind f = some r) : ∃ a, o = some a ∧ f a = some r := by
  cases o with
  | none => cases h
  | some a => exact ⟨a, rfl, h⟩
theorem xs_while {S ρ : Type} {c : S → Option Bool} {bd : S → Option (Stp S ρ)} {fuel : Nat} {s0 : S} {st : Stp S ρ} {tc : TT} {tb : TS} (G : S → List (Option VA)) (O : S → List OA) (RR : ρ → Hp → V → List OA → Prop)
    (hm : whileM c bd fuel s0 = some st)
    (hc : ∀ s v, c s = some v → XT tc (G s) (O s) v (O s))
    (hb : ∀ s s', c s = some true → bd s = some s' → ∀ F1 D', Same F0 F1 → To D' F1 s' (fun s => NX F1 (G s) (O s)) (fun s => NX F1 (G s) (O s)) RR → XS tb D' F1 (G s) (O s))
    (hn : ∀ s, st = .nx s → ∀ σ H, NX F0 (G s) (O s) σ H → D.nx σ H) (hr : ∀ r, st = .rt r → RT F0 (RR r) D.rt) : XS (tWhile tc tb) D F0 (G s0) (O s0) := by
  intro σ H n0
  refine ⟨fun m σ H => ∃ s, whileM c bd m s = some st ∧ NX F0 (G s) (O s) σ H, ⟨fuel, s0, hm, n0⟩, ?_⟩
  rintro m σ H ⟨s, hs, F, f0, e, hh⟩
  cases m with
  | zero => cases hs
  | succ m =>
    obtain ⟨v, hv, hs⟩ := bnd_some hs
    refine hc s v hv F σ H e hh _ fun F1 H1 e1 hh1 => ?_
    cases v with
    | false =>
      rw [if_neg Bool.false_ne_true]
      rw [if_neg Bool.false_ne_true] at hs
      cases hs
      exact hn s rfl σ H1 ⟨F1, f0.trans e1, e.mono e1, hh1⟩
    | true =>
      rw [if_pos rfl] at hs ⊢
      obtain ⟨s', hs', hs⟩ := bnd_some hs
      have hN : ∀ σ' H', (∃ s2, s' = .nx s2 ∧ NX F0 (G s2) (O s2) σ' H') → ∃ m', m' < m + 1 ∧ ∃ s, whileM c bd m' s = some st ∧ NX F0 (G s) (O s) σ' H' := by
        rintro σ' H' ⟨s2, rfl, n2⟩
        exact ⟨m, Nat.lt_succ_self _, s2, hs, n2⟩
      refine ⟨fun σ' H' => ∃ s2, s' = .nx s2 ∧ NX F0 (G s2) (O s2) σ' H', hN, ?_⟩
      refine hb s s' hv hs' F0 { D with nx := fun σ' H' => ∃ s2, s' = .nx s2 ∧ NX F0 (G s2) (O s2) σ' H', ct := fun σ' H' => ∃ s2, s' = .nx s2 ∧ NX F0 (G s2) (O s2) σ' H', bk := D.nx } (Same.refl _) ⟨fun s2 z σ' H' n2 => ⟨s2, z, n2⟩, fun s2 z σ' H' n2 => ⟨s2, z, n2⟩, fun s2 z σ' H' n2 => ?_, fun r z => ?_⟩ σ H1 ⟨F1, f0.trans e1, e.mono e1, hh1⟩
      · subst z
        cases hs
        exact hn s2 rfl σ' H' n2
      · subst z
        cases hs
        exact hr r rfl
/-- what a for's target does with its item -/
def Tgt (g : TG) (A : VA) (f : List (Option VA) → List (Option VA)) (js : List Nat) : Prop := ∀ F σ Γ x H Ω, Env F σ Γ → Holds F Ω H → A.P F x → ∀ Q : L2.St → Hp → Prop,
  (∀ F' σ' H', Same F F' → Env F' σ' (f Γ) → Holds F' Ω H' → (∀ vs, (∀ j ∈ js, j ∈ vs) → wipe σ' vs = wipe σ vs) → Q σ' H') → g x σ H Q
theorem wipe_set {σ : L2.St} {j : Nat} {v : Option V} : ∀ {vs : List Nat}, j ∈ vs → wipe (σ.set j v) vs = wipe σ vs := by
  intro vs hj
  apply List.ext_getElem?
  intro k
  have len : (wipe (σ.set j v) vs).length = (wipe σ vs).length := by rw [wipe_length, wipe_length, List.length_set]
  by_cases hk : k ∈ vs
  · have : ∀ (τ : L2.St) (vs : List Nat), k ∈ vs → k < τ.length → (wipe τ vs)[k]? = some none := by
      intro τ vs
      induction vs with
      | nil => intro h; cases h
      | cons a r ih =>
        intro h lt
        unfold wipe
        by_cases ha : a = k
        · subst ha; rw [List.getElem?_set_self (by rw [wipe_length]; exact lt)]
        · rw [List.getElem?_set_ne ha]
          rcases List.mem_cons.mp h with z | z
          · exact absurd z.symm ha
          · exact ih z lt
    by_cases lt : k < σ.length
    · rw [this σ vs hk lt, this _ vs hk (by rw [List.length_set]; exact lt)]
    · rw [List.getElem?_eq_none (by rw [wipe_length, List.length_set]; omega), List.getElem?_eq_none (by rw [wipe_length]; omega)]
  · rw [wipe_out hk, wipe_out hk]
    have ne : j ≠ k := fun e => hk (e ▸ hj)
    rw [List.getElem?_set_ne ne]
theorem tgt_name {k : Nat} : Tgt (gName k) A (fun Γ => Γ.set k (some A)) [k] := fun F σ Γ x H Ω e hh a Q q => q F _ H (Same.refl F) (e.set a) hh fun vs h => wipe_set (h k List.mem_cons_self)
theorem tgt_pair {α β : Type} [Rp α] [Rp β] {x : α × β} {k l : Nat} : Tgt (gTup T.K 2 (gCons (gName k) (gCons (gName l) gNil))) (va T x) (fun Γ => (Γ.set k (some (va T x.1))).set l (some (va T x.2))) [k, l] := fun F σ Γ v H Ω e hh a Q q => by
  obtain ⟨p, y, z, rfl, ht, ry, rz⟩ := a
  refine ⟨p, [y, z], rfl, Same.tup hh.same ht, rfl, y, [z], rfl, z, [], rfl, rfl, ?_⟩
  exact q F _ H (Same.refl F) ((e.set (A := va T x.1) ry).set (A := va T x.2) rz) hh fun vs h => (wipe_set (h l (by simp))).trans (wipe_set (h k (by simp)))
theorem tgt_triple {α β γ : Type} [Rp α] [Rp β] [Rp γ] {x : T3 α β γ} {k l m : Nat} : Tgt (gTup T.K 3 (gCons (gName k) (gCons (gName l) (gCons (gName m) gNil)))) (va T x) (fun Γ => ((Γ.set k (some (va T x.a))).set l (some (va T x.b))).set m (some (va T x.c))) [k, l, m] := fun F σ Γ v H Ω e hh a Q q => by
  obtain ⟨p, y, z, w, rfl, ht, ry, rz, rw⟩ := a
  refine ⟨p, [y, z, w], rfl, Same.tup hh.same ht, rfl, y, [z, w], rfl, z, [w], rfl, w, [], rfl, rfl, ?_⟩
  exact q F _ H (Same.refl F) (((e.set (A := va T x.a) ry).set (A := va T x.b) rz).set (A := va T x.c) rw) hh fun vs h => (wipe_set (h m (by simp))).trans ((wipe_set (h l (by simp))).trans (wipe_set (h k (by simp))))
structure Wk {α : Type} (J : It) (Sx : Hp → Prop) (xs : List α) (A : α → VA) : Prop where
  mono : ∀ F F', Same F F' → Sx F → Sx F'
  go : ∀ (i : Nat) F Ω H, Sx F → Holds F Ω H → i < xs.length → J.go i H
  stop : ∀ F Ω H, Sx F → Holds F Ω H → J.stop xs.length H
  yld : ∀ (i : Nat) a F Ω H x H', Sx F → Holds F Ω H → xs[i]? = some a → J.yld i H x H' → ∃ F', Same F F' ∧ Holds F' Ω H' ∧ (A a).P F' x
def XI {α : Type} (wi : TI) (Γ : List (Option VA)) (Ω : List OA) (xs : List α) (A : α → VA) (Ω2 : List OA) : Prop :=
  ∀ F σ H, Env F σ Γ → Holds F Ω H → ∀ R : It → Hp → Prop, (∀ F' J H' Sx, Same F F' → Holds F' Ω2 H' → Wk J Sx xs A → Sx F' → R J H') → wi σ H R
theorem xs_for {α S ρ : Type} {bd : α → S → Option (Stp S ρ)} {s0 : S} {st : Stp S ρ} {wi : TI} {tb : TS} {g : TG} {xs : List α} {A : α → VA} {f : α → List (Option VA) → List (Option VA)} (G : S → List (Option VA)) (O : S → List OA) (RR : ρ → Hp → V → List OA → Prop)
    (hm : forM' bd xs s0 = some st) (hi : XI wi (G s0) Ω xs A (O s0)) {js : List Nat} (ht : ∀ a, Tgt g (A a) (f a) js)
    (hb : ∀ a s s', a ∈ xs → bd a s = some s' → ∀ F1 D', Same F0 F1 → To D' F1 s' (fun s => NX F1 (G s) (O s)) (fun s => NX F1 (G s) (O s)) RR → XS tb D' F1 (f a (G s)) (O s))
    (hn : ∀ s, st = .nx s → ∀ σ H, NX F0 (G s) (O s) σ H → D.nx σ H) (hr : ∀ r, st = .rt r → RT F0 (RR r) D.rt) : XS (tFor wi g tb) D F0 (G s0) Ω := by
  rintro σ H ⟨F, f0, e, hh⟩
  refine hi F σ H e hh _ fun F1 J H1 Sx e1 hh1 W sx => ?_
  refine ⟨fun i m σ H => m = xs.length - i ∧ i ≤ xs.length ∧ ∃ s F, forM' bd (xs.drop i) s = some st ∧ Same F0 F ∧ Sx F ∧ Env F σ (G s) ∧ Holds F (O s) H, ⟨xs.length, by simp, Nat.zero_le _, s0, F1, by rw [List.drop_zero]; exact hm, f0.trans e1, sx, e.mono e1, hh1⟩, ?_⟩
  rintro i m σ H ⟨rfl, hi, s, F, hs, f0, sx, e, hh⟩
  by_cases hlt : i < xs.length
  · refine .inr ⟨W.go i F (O s) H sx hh hlt, ?_⟩
    have hx : xs[i]? = some xs[i] := List.getElem?_eq_getElem hlt
    rw [List.drop_eq_getElem_cons hlt] at hs
    obtain ⟨s', h1, hs⟩ := bnd_some hs
    refine ⟨fun σ' H' => ∃ s2, s' = .nx s2 ∧ ∃ F, Same F0 F ∧ Sx F ∧ Env F σ' (G s2) ∧ Holds F (O s2) H', ?_, fun x H' y => ?_⟩
    · rintro σ' H' ⟨s2, rfl, F', f0', sx', e', hh'⟩
      exact ⟨xs.length - (i + 1), by omega, rfl, hlt, s2, F', hs, f0', sx', e', hh'⟩
    · obtain ⟨F2, e2, hh2, a2⟩ := W.yld i _ F (O s) H x H' sx hh hx y
      refine ht xs[i] F2 σ (G s) x H' (O s) (e.mono e2) hh2 a2 _ fun F3 σ3 H3 e3 en3 hh3 _ => ?_
      have sx3 := W.mono _ _ (e2.trans e3) sx
      have f3 : Same F0 F3 := f0.trans (e2.trans e3)
      have gN : ∀ (s2 : S) (σ' : L2.St) (H' : Hp), NX F3 (G s2) (O s2) σ' H' → ∃ F, Same F0 F ∧ Sx F ∧ Env F σ' (G s2) ∧ Holds F (O s2) H' := fun s2 σ' H' ⟨F4, f4, e4, hh4⟩ => ⟨F4, f3.trans f4, W.mono _ _ f4 sx3, e4, hh4⟩
      have gW : ∀ (s2 : S) (σ' : L2.St) (H' : Hp), NX F3 (G s2) (O s2) σ' H' → NX F0 (G s2) (O s2) σ' H' := fun s2 σ' H' ⟨F4, f4, e4, hh4⟩ => ⟨F4, f3.trans f4, e4, hh4⟩
      refine hb xs[i] s s' (List.getElem_mem hlt) h1 F3 { D with nx := fun σ' H' => ∃ s2, s' = .nx s2 ∧ ∃ F, Same F0 F ∧ Sx F ∧ Env F σ' (G s2) ∧ Holds F (O s2) H', ct := fun σ' H' => ∃ s2, s' = .nx s2 ∧ ∃ F, Same F0 F ∧ Sx F ∧ Env F σ' (G s2) ∧ Holds F (O s2) H', bk := D.nx } f3 ⟨fun s2 z σ' H' n2 => ⟨s2, z, gN s2 σ' H' n2⟩, fun s2 z σ' H' n2 => ⟨s2, z, gN s2 σ' H' n2⟩, fun s2 z σ' H' n2 => ?_, fun r z => ?_⟩ σ3 H3 ⟨F3, Same.refl _, en3, hh3⟩
      · subst z
        cases hs
        exact hn s2 rfl σ' H' (gW s2 σ' H' n2)
      · subst z
        cases hs
        exact (hr r rfl).mono f3
  · have ei : i = xs.length := by omega
    subst ei
    refine .inl ⟨W.stop F (O s) H sx hh, ?_⟩
    rw [List.drop_length] at hs
    cases hs
    exact hn s rfl σ H ⟨F, f0, e, hh⟩
theorem xs_whileS {S ρ : Type} {c : S → Option Bool} {bd : S → Option (Stp S ρ)} {fuel : Nat} {s0 : S} {st : Stp S ρ} {tc : TT} {tb : TS} (G : S → List (Option VA)) (O : S → List OA) (RR : ρ → Hp → V → List OA → Prop)
    (hm : whileM c bd fuel s0 = some st)
    (hc : ∀ s v, c s = some v → XT tc (G s) (O s) v (O s))
    (hb : ∀ s s', c s = some true → bd s = some s' → ∀ F1 D', Same F0 F1 → To D' F1 s' (fun s => NX F1 (G s) (O s)) (fun s => NX F1 (G s) (O s)) RR → XS tb D' F1 (G s) (O s))
    (hn : ∀ s, st = .nx s → XS ts D F0 (G s) (O s)) (hr : ∀ r, st = .rt r → RT F0 (RR r) D.rt) : XS (tSeq (tWhile tc tb) ts) D F0 (G s0) (O s0) :=
  xs_seq (xs_while G O RR hm hc hb (fun s e σ H n => hn s e σ H n) hr)
theorem xs_forS {α S ρ : Type} {bd : α → S → Option (Stp S ρ)} {s0 : S} {st : Stp S ρ} {wi : TI} {tb : TS} {g : TG} {xs : List α} {A : α → VA} {f : α → List (Option VA) → List (Option VA)} (G : S → List (Option VA)) (O : S → List OA) (RR : ρ → Hp → V → List OA → Prop)
    (hm : forM' bd xs s0 = some st) (hi : XI wi (G s0) Ω xs A (O s0)) {js : List Nat} (ht : ∀ a, Tgt g (A a) (f a) js)
    (hb : ∀ a s s', a ∈ xs → bd a s = some s' → ∀ F1 D', Same F0 F1 → To D' F1 s' (fun s => NX F1 (G s) (O s)) (fun s => NX F1 (G s) (O s)) RR → XS tb D' F1 (f a (G s)) (O s))
    (hn : ∀ s, st = .nx s → XS ts D F0 (G s) (O s)) (hr : ∀ r, st = .rt r → RT F0 (RR r) D.rt) : XS (tSeq (tFor wi g tb) ts) D F0 (G s0) Ω :=
  xs_seq (xs_for G O RR hm hi ht hb (fun s e σ H n => hn s e σ H n) hr)
end
end VL

set_option Elab.async false
set_option linter.all false
set_option maxRecDepth 100000
/-! lists, fields, the machine, the numbers, defs -/
namespace VL
open PySem L2

theorem alA_map {α : Type} [Rp α] {T : TC} {F : Hp} : ∀ {vs : List V} {l : List α}, AlA F vs (l.map (va T)) → Al T F vs l
  | _, [], h => by cases h; exact .nil
  | _, a :: r, h => by cases h with | cons h t => exact .cons h (alA_map t)
def cut {α : Type} (l : List α) (lo hi : Option Int) : List α := (l.drop (HT.sIx l.length 0 lo)).take (HT.sIx l.length l.length hi - HT.sIx l.length 0 lo)
theorem al_cut {α : Type} [Rp α] {T : TC} {F : Hp} {vs : List V} {l : List α} (lo hi : Option Int) (h : Al T F vs l) : Al T F (cutV vs lo hi) (cut l lo hi) := by
  unfold cut cutV
  rw [al_len h]
  exact al_take _ (al_drop _ h)
theorem al_at {α : Type} [Rp α] {T : TC} {F : Hp} {vs : List V} {l : List α} {i : Int} {a : α} (h : Al T F vs l) (e : atI l i = some a) : ∃ v, atI vs i = some v ∧ Rp.rep T F v a := by
  unfold atI at e ⊢
  rw [al_len h]
  cases hx : ixN l.length i with
  | none => rw [hx] at e; cases e
  | some k =>
    rw [hx] at e
    exact al_get h e

section
variable {T : TC} {Γ : List (Option VA)} {Ω Ω1 Ω2 Ω3 : List OA} {A B C : VA} {As : List VA} {ta tb te : TE} {t u : TT} {i j n m : Int} {b c : Bool} {α : Type} [Rp α] {l l2 : List α} {F0 : Hp} {D : Ends} {ts : TS}

/-! ### what a list holds, whoever holds it -/
def IsL (T : TC) (Ω : List OA) (A : VA) (l : List α) : Prop := ∀ F H v, Holds F Ω H → A.P F v → ∃ p vs, v = .ref p ∧ SqL T.K H p vs ∧ Al T F vs l
def IsLs (T : TC) (Ω : List OA) (A : VA) (l : List α) : Prop := ∀ F H v, Holds F Ω H → A.P F v → ∃ p vs, v = .ref p ∧ H p = some (.lst vs) ∧ Al T F vs l
def IsT (T : TC) (Ω : List OA) (A : VA) (l : List α) : Prop := ∀ F H v, Holds F Ω H → A.P F v → ∃ p vs, v = .ref p ∧ SqT T.K H p vs ∧ Al T F vs l
theorem isLs_LF : IsLs T Ω (va T (LF.mk l)) l := fun F H v hh ⟨p, vs, h1, h2, h3⟩ => ⟨p, vs, h1, hh.same _ _ h2, h3⟩
theorem isL_LF : IsL T Ω (va T (LF.mk l)) l := fun F H v hh ⟨p, vs, h1, h2, h3⟩ => ⟨p, vs, h1, SqL.of (hh.same _ _ h2), h3⟩
theorem isT_TF : IsT T Ω (va T (TF.mk l)) l := fun F H v hh ⟨p, vs, h1, h2, h3⟩ => ⟨p, vs, h1, Same.tup hh.same h2, h3⟩
theorem isLs_M {k : Nat} {p : Addr} (h : Ω[k]? = some (lstA T p l)) : IsLs T Ω (vr p) l := fun F H v hh e => by
  obtain ⟨t, ⟨vs, h1, h2⟩, st, _⟩ := hh.get h
  exact ⟨p, vs, e, st _ _ h1, h2⟩
theorem isL_M {k : Nat} {p : Addr} (h : Ω[k]? = some (lstA T p l)) : IsL T Ω (vr p) l := fun F H v hh e => by
  obtain ⟨t, ⟨vs, h1, h2⟩, st, _⟩ := hh.get h
  exact ⟨p, vs, e, SqL.of (st _ _ h1), h2⟩

def rLen (K : PySem.W.Frag) : List V → Hp → VK → Prop := fun xs H Q => ∃ p ys, xs = [.ref p] ∧ (SqL K H p ys ∨ SqT K H p ys) ∧ Q (.int ys.length) H
theorem cr_len {X : Cx} : CallR X (.builtin "len") (rLen X.K) := call_len_seq
theorem alA1 {F : Hp} {vs : List V} (h : AlA F vs [A]) : ∃ v, vs = [v] ∧ A.P F v := by
  cases h with
  | cons h t => cases t; exact ⟨_, rfl, h⟩
theorem alA2 {F : Hp} {vs : List V} (h : AlA F vs [A, B]) : ∃ v w, vs = [v, w] ∧ A.P F v ∧ B.P F w := by
  cases h with
  | cons h t => cases t with | cons h2 t => cases t; exact ⟨_, _, rfl, h, h2⟩
theorem rc_lenL (h : IsL T Ω A l) : RC (rLen T.K) Ω [A] (va T (l.length : Int)) := fun F H vs hh a Q q => by
  obtain ⟨v, rfl, a1⟩ := alA1 a
  obtain ⟨p, ws, e, hs, al⟩ := h F H v hh a1
  refine ⟨p, ws, by rw [e], .inl hs, q F _ H (Same.refl F) hh ?_⟩
  show V.int _ = V.int _
  rw [al_len al]
theorem xe_lenL (ha : XE te Γ Ω A Ω1) (h : IsL T Ω1 A l) : XE (tCB (rLen T.K) (tCons te tNil)) Γ Ω (va T (l.length : Int)) Ω1 := xe_cb (xa_cons ha xa_nil) (rc_lenL h)
theorem ro_ixL {a : α} (h : IsL T Ω A l) (e : atI l i = some a) : RO (rIx T.K) Ω A (va T i) (va T a) := fun F H x y hh a1 a2 Q q => by
  obtain ⟨p, ws, rfl, hs, al⟩ := h F H x hh a1
  obtain ⟨v, hv, rv⟩ := al_at al e
  exact .inl ⟨p, ws, i, v, rfl, a2, hs, hv, q F v H (Same.refl F) hh rv⟩
/-! new lists -/
theorem xe_lst {ta : TA} (h : XA ta Γ Ω (l.map (va T)) Ω1) (hz : l.length ≤ sizeLine) : XE (tLst ta) Γ Ω (va T (LF.mk l)) Ω1 := fun F σ H e hh Q q => by
  refine h F σ H e hh _ fun F1 xs H1 e1 hh1 a1 => ?_
  have al := alA_map a1
  refine ⟨by rw [al_len al]; exact hz, fun p hp => ?_⟩
  obtain ⟨hh2, e2⟩ := hh1.newF (u := .lst xs) hp
  exact q _ _ _ _ (e1.trans e2) hh2 ⟨⟨p, xs, rfl, upd_same, al.mono e2⟩, rfl⟩
theorem xn_lst {ta : TA} (h : XA ta Γ Ω (l.map (va T)) Ω1) (hz : l.length ≤ sizeLine) : XG (tLst ta) Γ Ω (RN Ω1 fun p => lstA T p l) := fun F σ H e hh Q q => by
  refine h F σ H e hh _ fun F1 xs H1 e1 hh1 a1 => ?_
  have al := alA_map a1
  refine ⟨by rw [al_len al]; exact hz, fun p hp => ?_⟩
  exact q F1 _ _ _ e1 (hh1.newL (o := lstA T p l) hp ⟨xs, upd_same, al⟩) ⟨p, rfl, rfl⟩
theorem xe_tup2 {β : Type} [Rp β] {a : α} {x : β} {ta : TA} (h : XA ta Γ Ω [va T a, va T x] Ω1) : XE (tTup ta) Γ Ω (va T (a, x)) Ω1 := fun F σ H e hh Q q => by
  refine h F σ H e hh _ fun F1 xs H1 e1 hh1 a1 => ?_
  obtain ⟨v, w, rfl, h1, h2⟩ := alA2 a1
  refine ⟨by show 2 ≤ sizeLine; decide, fun p hp => ?_⟩
  obtain ⟨hh2, e2⟩ := hh1.newF (u := .tup [v, w]) hp
  exact q _ _ _ _ (e1.trans e2) hh2 ⟨⟨p, v, w, rfl, SqT.of upd_same, Rp.mono e2 h1, Rp.mono e2 h2⟩, rfl⟩
theorem xe_tup3 {β γ : Type} [Rp β] [Rp γ] {a : α} {x : β} {y : γ} {ta : TA} (h : XA ta Γ Ω [va T a, va T x, va T y] Ω1) : XE (tTup ta) Γ Ω (va T (T3.mk a x y)) Ω1 := fun F σ H e hh Q q => by
  refine h F σ H e hh _ fun F1 xs H1 e1 hh1 a1 => ?_
  cases a1 with
  | cons h1 a1 =>
    obtain ⟨v, w, rfl, h2, h3⟩ := alA2 a1
    refine ⟨by show 3 ≤ sizeLine; decide, fun p hp => ?_⟩
    obtain ⟨hh2, e2⟩ := hh1.newF (u := .tup [_, v, w]) hp
    exact q _ _ _ _ (e1.trans e2) hh2 ⟨⟨p, _, v, w, rfl, SqT.of upd_same, Rp.mono e2 h1, Rp.mono e2 h2, Rp.mono e2 h3⟩, rfl⟩
/-- xs + ys -/
theorem ro_cat (h : IsLs T Ω A l) (h2 : IsLs T Ω B l2) (hz : l.length + l2.length ≤ sizeLine) : RO rCat Ω A B (va T (LF.mk (l ++ l2))) := fun F H x y hh a1 a2 Q q => by
  obtain ⟨p, vs, rfl, hp, al⟩ := h F H x hh a1
  obtain ⟨p2, vs2, rfl, hp2, al2⟩ := h2 F H y hh a2
  refine ⟨p, p2, vs, vs2, rfl, rfl, hp, hp2, by rw [al_len al, al_len al2]; exact hz, fun d hd => ?_⟩
  obtain ⟨hh2, e2⟩ := hh.newF (u := .lst (vs ++ vs2)) hd
  exact q _ _ _ e2 hh2 ⟨d, _, rfl, upd_same, (al_app al al2).mono e2⟩
/-- list(xs) -/
def rList (K : PySem.W.Frag) : List V → Hp → VK → Prop := fun xs H Q => ∃ p ys, xs = [.ref p] ∧ (SqL K H p ys ∨ SqT K H p ys) ∧ ∀ l, H l = none → Q (.ref l) (upd H l (.lst ys))
theorem cr_list {X : Cx} : CallR X (.type "list") (rList X.K) := call_list_of
theorem xe_listT (ha : XE te Γ Ω A Ω1) (h : IsT T Ω1 A l) : XE (tCB (rList T.K) (tCons te tNil)) Γ Ω (va T (LF.mk l)) Ω1 := xe_cb (xa_cons ha xa_nil) fun F H vs hh a Q q => by
  obtain ⟨v, rfl, a1⟩ := alA1 a
  obtain ⟨p, ws, e, hs, al⟩ := h F H v hh a1
  refine ⟨p, ws, by rw [e], .inr hs, fun d hd => ?_⟩
  obtain ⟨hh2, e2⟩ := hh.newF (u := .lst ws) hd
  exact q _ _ _ e2 hh2 ⟨d, _, rfl, upd_same, al.mono e2⟩
/-- tuple(xs): of a list, a new one; of a tuple, itself -/
def rTuple (K : PySem.W.Frag) : List V → Hp → VK → Prop := fun xs H Q => ∃ p ys, xs = [.ref p] ∧ ((SqL K H p ys ∧ ∀ l, H l = none → Q (.ref l) (upd H l (.tup ys))) ∨ (SqT K H p ys ∧ Q (.ref p) H))
theorem cr_tuple {X : Cx} : CallR X (.type "tuple") (rTuple X.K) := call_tuple_of
theorem xe_tupleL (ha : XE te Γ Ω A Ω1) (h : IsL T Ω1 A l) : XE (tCB (rTuple T.K) (tCons te tNil)) Γ Ω (va T (TF.mk l)) Ω1 := xe_cb (xa_cons ha xa_nil) fun F H vs hh a Q q => by
  obtain ⟨v, rfl, a1⟩ := alA1 a
  obtain ⟨p, ws, e, hs, al⟩ := h F H v hh a1
  refine ⟨p, ws, by rw [e], .inl ⟨hs, fun d hd => ?_⟩⟩
  obtain ⟨hh2, e2⟩ := hh.newF (u := .tup ws) hd
  exact q _ _ _ e2 hh2 ⟨d, _, rfl, SqT.of upd_same, al.mono e2⟩
theorem xe_tupleT (ha : XE te Γ Ω (va T (TF.mk l)) Ω1) : XE (tCB (rTuple T.K) (tCons te tNil)) Γ Ω (va T (TF.mk l)) Ω1 := xe_cb (xa_cons ha xa_nil) fun F H vs hh a Q q => by
  obtain ⟨v, rfl, a1⟩ := alA1 a
  obtain ⟨p, ws, e, hs, al⟩ := id a1
  exact ⟨p, ws, by rw [e], .inr ⟨Same.tup hh.same hs, q F _ H (Same.refl F) hh (e ▸ a1)⟩⟩
/-! slices -/
def XO (to : TO) (Γ : List (Option VA)) (Ω : List OA) (o : Option Int) : Prop := ∀ F σ H, Env F σ Γ → Holds F Ω H → ∀ Q : Option Int → Hp → Prop, (∀ F' H', Same F F' → Holds F' Ω H' → Q o H') → to σ H Q
theorem xo_none : XO tNoPart Γ Ω none := fun F σ H e hh Q q => q F H (Same.refl F) hh
theorem xo_some (h : XE te Γ Ω (va T i) Ω) : XO (tPart te) Γ Ω (some i) := fun F σ H e hh Q q => by
  refine h F σ H e hh _ fun F1 x H1 Ω' e1 hh1 ⟨a1, o1⟩ => ?_
  subst o1
  exact ⟨i, a1, q F1 H1 e1 hh1⟩
theorem xe_sliceL {tl th : TO} {lo hi : Option Int} (ha : XE te Γ Ω A Ω1) (hl : XO tl Γ Ω1 lo) (hu : XO th Γ Ω1 hi) (h : IsL T Ω1 A l) : XE (tSl (rSlL T.K) te tl th) Γ Ω (va T (LF.mk (cut l lo hi))) Ω1 := fun F σ H e hh Q q => by
  refine ha F σ H e hh _ fun F1 x H1 Ω' e1 hh1 ⟨a1, o1⟩ => ?_
  subst o1
  refine hl F1 σ H1 (e.mono e1) hh1 _ fun F2 H2 e2 hh2 => ?_
  refine hu F2 σ H2 ((e.mono e1).mono e2) hh2 _ fun F3 H3 e3 hh3 => ?_
  obtain ⟨p, ws, rfl, hs, al⟩ := h F3 H3 x hh3 (A.mono (e2.trans e3) a1)
  refine ⟨p, ws, rfl, hs, fun d hd => ?_⟩
  obtain ⟨hh4, e4⟩ := hh3.newF (u := .lst (cutV ws lo hi)) hd
  exact q _ _ _ _ (((e1.trans e2).trans e3).trans e4) hh4 ⟨⟨d, _, rfl, upd_same, (al_cut lo hi al).mono e4⟩, rfl⟩
/-! lists that change -/
theorem xe_app {k : Nat} {p : Addr} {a : α} (h0 : Ω[k]? = some (lstA T p l2)) (hk : Ω1[k]? = some (lstA T p l)) (ha : XE ta Γ Ω (vr p) Ω) (hb : XE tb Γ Ω (va T a) Ω1) (hz : l.length < sizeLine) :
    XE (tBM T.K "list" rAppend ta (tCons tb tNil)) Γ Ω (va T ()) (Ω1.set k (lstA T p (l ++ [a]))) := fun F σ H e hh Q q => by
  refine ha F σ H e hh _ fun F1 x H1 Ω' e1 hh1 ⟨a1, o1⟩ => ?_
  subst o1
  obtain ⟨p0, vs0, e0, h00, _⟩ := isLs_M h0 F1 H1 x hh1 a1
  have a1 : x = .ref p := a1
  subst a1
  cases e0
  refine ⟨.inl ⟨rfl, _, SqL.of h00⟩, ?_⟩
  refine hb F1 σ H1 (e.mono e1) hh1 _ fun F2 y H2 Ω'' e2 hh2 ⟨a2, o2⟩ => ?_
  subst o2
  obtain ⟨t, ⟨vs, h1, al⟩, st, _, wr⟩ := hh2.get hk
  refine ⟨p, vs, y, rfl, rfl, st _ _ h1, by rw [al_len al]; exact hz, ?_⟩
  exact q F2 _ _ _ (e1.trans e2) (wr (lstA T p (l ++ [a])) p _ _ h1 ⟨_, upd_same, al_app al (.cons a2 .nil)⟩) ⟨rfl, rfl⟩
/-- xs[i] = e, xs a name's own list -/
theorem xs_setL {k : Nat} {p : Addr} {a : α} {to ti : TE} {jn : Nat} (hv : XE te Γ Ω (va T a) Ω1) (ho : XE to Γ Ω1 (vr p) Ω1) (hi : XE ti Γ Ω1 (va T i) Ω1) (hk : Ω1[k]? = some (lstA T p l)) (hj : ixN l.length i = some jn) (q : XS ts D F0 Γ (Ω1.set k (lstA T p (l.set jn a)))) :
    XS (tSeq (tAsg te (gSub to ti rSetL)) ts) D F0 Γ Ω := fun σ H ⟨F, f0, e, hh⟩ => by
  refine hv F σ H e hh _ fun F1 v H1 Ω' e1 hh1 ⟨a1, o1⟩ => ?_
  subst o1
  refine ho F1 σ H1 (e.mono e1) hh1 _ fun F2 o H2 Ω' e2 hh2 ⟨a2, o2⟩ => ?_
  subst o2
  refine hi F2 σ H2 ((e.mono e1).mono e2) hh2 _ fun F3 x H3 Ω' e3 hh3 ⟨a3, o3⟩ => ?_
  subst o3
  obtain ⟨t, ⟨vs, h1, al⟩, st, _, wr⟩ := hh3.get hk
  refine ⟨p, vs, i, jn, a2, a3, st _ _ h1, by rw [al_len al]; exact hj, ?_⟩
  exact q σ _ ⟨F3, f0.trans ((e1.trans e2).trans e3), ((e.mono e1).mono e2).mono e3, wr (lstA T p (l.set jn a)) p _ _ h1 ⟨_, upd_same, al_set (Rp.mono (e2.trans e3) a1) jn al⟩⟩
/-! walks -/
theorem wk_list {p : Addr} {vs : List V} : Wk (Itl T.K p) (fun F => SqL T.K F p vs ∧ Al T F vs l) l (fun a => va T a) where
  mono := fun F F' e ⟨h1, h2⟩ => ⟨e.seq h1, h2.mono e⟩
  go := fun i F Ω H ⟨h1, h2⟩ hh hi => ⟨vs, vs[i]'(by rw [al_len h2]; exact hi), hh.same.seq h1, List.getElem?_eq_getElem _⟩
  stop := fun F Ω H ⟨h1, h2⟩ hh => ⟨vs, hh.same.seq h1, by rw [al_len h2]; exact Nat.le_refl _⟩
  yld := fun i a F Ω H x H' ⟨h1, h2⟩ hh hx y => by
    obtain ⟨e, y⟩ := y
    subst e
    obtain ⟨v, hv, rv⟩ := al_get h2 hx
    have ev := y vs (hh.same.seq h1)
    rw [hv] at ev
    cases ev
    exact ⟨F, Same.refl F, hh, rv⟩
theorem wk_tup {p : Addr} {vs : List V} : Wk (Itt T.K p) (fun F => SqT T.K F p vs ∧ Al T F vs l) l (fun a => va T a) where
  mono := fun F F' e ⟨h1, h2⟩ => ⟨Same.tup e h1, h2.mono e⟩
  go := fun i F Ω H ⟨h1, h2⟩ hh hi => ⟨vs, vs[i]'(by rw [al_len h2]; exact hi), Same.tup hh.same h1, List.getElem?_eq_getElem _⟩
  stop := fun F Ω H ⟨h1, h2⟩ hh => ⟨vs, Same.tup hh.same h1, by rw [al_len h2]; exact Nat.le_refl _⟩
  yld := fun i a F Ω H x H' ⟨h1, h2⟩ hh hx y => by
    obtain ⟨e, y⟩ := y
    subst e
    obtain ⟨v, hv, rv⟩ := al_get h2 hx
    have ev := y vs (Same.tup hh.same h1)
    rw [hv] at ev
    cases ev
    exact ⟨F, Same.refl F, hh, rv⟩
theorem wk_range {n : Nat} {lo : Int} : Wk (Itr lo n) (fun _ => True) ((List.range n).map fun (k : Nat) => lo + (k : Int)) (fun a => va T a) where
  mono := fun _ _ _ _ => trivial
  go := fun i F Ω H _ _ hi => by
    have hi : i < n := by simpa using hi
    exact hi
  stop := fun F Ω H _ _ => by show n ≤ _; simp
  yld := fun i a F Ω H x H' _ hh hx y => by
    obtain ⟨e, y⟩ := y
    subst e y
    refine ⟨F, Same.refl F, hh, ?_⟩
    show V.int _ = V.int a
    rw [List.getElem?_map] at hx
    cases hr : (List.range n)[i]? with
    | none => rw [hr] at hx; cases hx
    | some k =>
      rw [hr] at hx
      have hk : i = k := by
        obtain ⟨h1, h2⟩ := List.getElem?_eq_some_iff.mp hr
        rw [List.getElem_range] at h2
        exact h2
      subst hk
      cases hx
      rfl
theorem xi_list (ha : XE te Γ Ω A Ω1) (h : ∀ F v, A.P F v → ∃ p vs, v = .ref p ∧ SqL T.K F p vs ∧ Al T F vs l) : XI (iList T.K te) Γ Ω l (fun a => va T a) Ω1 := fun F σ H e hh R r => by
  refine ha F σ H e hh _ fun F1 x H1 Ω' e1 hh1 ⟨a1, o1⟩ => ?_
  subst o1
  obtain ⟨p, vs, rfl, h1, al⟩ := h F1 x a1
  exact ⟨p, rfl, ⟨vs, hh1.same.seq h1⟩, r F1 _ H1 _ e1 hh1 wk_list ⟨h1, al⟩⟩
theorem xi_LF (ha : XE te Γ Ω (va T (LF.mk l)) Ω1) : XI (iList T.K te) Γ Ω l (fun a => va T a) Ω1 := xi_list ha fun F v ⟨p, vs, h1, h2, h3⟩ => ⟨p, vs, h1, SqL.of h2, h3⟩
/-- the ints from lo on, so many -/
def rng (lo : Int) (n : Nat) : List Int := (List.range n).map fun (k : Nat) => lo + (k : Int)
theorem xi_range1 {ta : TA} (ha : XA ta Γ Ω [va T i] Ω1) (h1 : -(2 ^ 62) ≤ i) (h2 : i < 2 ^ 62) : XI (iRng1 ta) Γ Ω (rng 0 i.toNat) (fun a => va T a) Ω1 := fun F σ H e hh R r => by
  refine ha F σ H e hh _ fun F1 vs H1 e1 hh1 a1 => ?_
  obtain ⟨v, rfl, b1⟩ := alA1 a1
  have b1 : v = .int i := b1
  subst b1
  exact ⟨i, rfl, h1, h2, r F1 _ H1 _ e1 hh1 wk_range trivial⟩
theorem xi_range2 {ta : TA} (ha : XA ta Γ Ω [va T i, va T j] Ω1) (h1 : -(2 ^ 62) ≤ i ∧ i < 2 ^ 62 ∧ -(2 ^ 62) ≤ j ∧ j < 2 ^ 62) : XI (iRng2 ta) Γ Ω (rng i (j - i).toNat) (fun a => va T a) Ω1 := fun F σ H e hh R r => by
  refine ha F σ H e hh _ fun F1 vs H1 e1 hh1 a1 => ?_
  obtain ⟨v, w, rfl, a1, a2⟩ := alA2 a1
  have a1 : v = .int i := a1
  have a2 : w = .int j := a2
  subst a1 a2
  exact ⟨i, j, rfl, h1, r F1 _ H1 _ e1 hh1 wk_range trivial⟩
/-! ### a list comprehension -/
/-- b x s: whether the item is taken, its value, the state behind -/
def lcM {β γ S : Type} (b : β → S → Option (Option γ × S)) : List β → S → Option (List γ × S)
  | [], s => some ([], s)
  | x :: r, s => (b x s).bind fun (o, s') => (lcM b r s').bind fun (ys, s'') => some ((match o with | some y => y :: ys | none => ys), s'')
/-- what is known behind the wiping of the slots vs -/
def wip (Γ : List (Option VA)) : List Nat → List (Option VA)
  | [] => Γ
  | i :: r => (wip Γ r).set i none
theorem env_none {F : Hp} {σ : L2.St} {k : Nat} (h : Env F σ Γ) : Env F (σ.set k none) (Γ.set k none) := by
  refine ⟨by rw [List.length_set, List.length_set]; exact h.1, fun i A q => ?_⟩
  by_cases hk : k = i
  · subst hk
    have lt : k < Γ.length := by have := getlt q; rwa [List.length_set] at this
    rw [List.getElem?_set_self lt] at q
    cases q
  · rw [List.getElem?_set_ne hk] at q
    obtain ⟨w, h1, h2⟩ := h.2 i A q
    exact ⟨w, by rw [List.getElem?_set_ne hk]; exact h1, h2⟩
theorem wip_env {F : Hp} {σ : L2.St} (h : Env F σ Γ) : ∀ vs : List Nat, Env F (wipe σ vs) (wip Γ vs)
  | [] => h
  | i :: r => env_none (wip_env h r)
theorem wipe_wipe {σ : L2.St} (vs : List Nat) : wipe (wipe σ vs) vs = wipe σ vs := by
  have : ∀ (r : List Nat) (τ : L2.St), (∀ i ∈ r, i ∈ vs) → wipe (wipe τ r) vs = wipe τ vs := by
    intro r
    induction r with
    | nil => intro τ _; rfl
    | cons a r ih =>
      intro τ h
      show wipe ((wipe τ r).set a none) vs = _
      rw [wipe_set (h a List.mem_cons_self)]
      exact ih τ fun i hi => h i (List.mem_cons_of_mem _ hi)
  exact this vs σ fun _ h => h
theorem set_last {β : Type} {l : List β} {a b : β} : (l ++ [a]).set l.length b = l ++ [b] := by
  rw [List.set_append_right _ _ (Nat.le_refl _)]; simp
theorem xn_lc {β γ S : Type} [Rp γ] {b : β → S → Option (Option γ × S)} {xs : List β} {s0 s1 : S} {ys : List γ} {wi : TI} {g : TG} {tt : TT} {vs : List Nat} {A : β → VA} {f : β → List (Option VA) → List (Option VA)} {js : List Nat} (O : S → List OA)
    (hm : lcM b xs s0 = some (ys, s1)) (hi : XI wi Γ Ω xs A (O s0)) (ht : ∀ a, Tgt g (A a) (f a) js) (hj : ∀ j ∈ js, j ∈ vs) (hz : xs.length ≤ sizeLine)
    (hb : ∀ a s o s', a ∈ xs → b a s = some (o, s') → ∀ X : OA, (o = none → XT tt (f a (wip Γ vs)) (O s ++ [X]) false (O s' ++ [X])) ∧
      (∀ y, o = some y → XT tt (f a (wip Γ vs)) (O s ++ [X]) true (O s ++ [X]) ∧ XE te (f a (wip Γ vs)) (O s ++ [X]) (va T y) (O s' ++ [X]))) :
    XG (tLc wi g tt te vs) Γ Ω (RN (O s1) fun p => lstA T p ys) := by
  intro F σ H e hh Q q
  refine hi F σ H e hh _ fun F1 J H1 Sx e1 hh1 W sx => fun d hd => ?_
  refine ⟨fun i m H => m = xs.length - i ∧ i ≤ xs.length ∧ ∃ s F acc r, lcM b (xs.drop i) s = some (r, s1) ∧ acc ++ r = ys ∧ acc.length ≤ i ∧ Same F1 F ∧ Sx F ∧ Holds F (O s ++ [lstA T d acc]) H,
    ⟨xs.length, by simp, Nat.zero_le _, s0, F1, [], ys, by rw [List.drop_zero]; exact hm, rfl, Nat.zero_le _, Same.refl _, sx, hh1.newL (o := lstA T d ([] : List γ)) hd ⟨[], upd_same, .nil⟩⟩, ?_⟩
  rintro i m H ⟨rfl, hi, s, F, acc, r, hs, he, hl, f1, sx, hh⟩
  by_cases hlt : i < xs.length
  · refine .inr ⟨W.go i F _ H sx hh hlt, ?_⟩
    have hx : xs[i]? = some xs[i] := List.getElem?_eq_getElem hlt
    rw [List.drop_eq_getElem_cons hlt] at hs
    obtain ⟨⟨o, s'⟩, h1, hs⟩ := bnd_some hs
    obtain ⟨⟨r2, s2⟩, h2, hs⟩ := bnd_some hs
    cases hs
    refine ⟨fun H' => ∃ s F acc r, lcM b (xs.drop (i + 1)) s = some (r, s1) ∧ acc ++ r = ys ∧ acc.length ≤ i + 1 ∧ Same F1 F ∧ Sx F ∧ Holds F (O s ++ [lstA T d acc]) H', fun H' n => ⟨xs.length - (i + 1), by omega, rfl, hlt, n⟩, fun x H' y => ?_⟩
    obtain ⟨F2, e2, hh2, a2⟩ := W.yld i _ F _ H x H' sx hh hx y
    have en : Env F2 (wipe σ vs) (wip Γ vs) := wip_env ((e.mono e1).mono (f1.trans e2)) vs
    refine ht xs[i] F2 (wipe σ vs) (wip Γ vs) x H' _ en hh2 a2 _ fun F3 σ3 H3 e3 en3 hh3 hw => ⟨(hw vs hj).trans (wipe_wipe vs), ?_⟩
    obtain ⟨c1, c2⟩ := hb xs[i] s o s' (List.getElem_mem hlt) h1 (lstA T d acc)
    have f3 : Same F1 F3 := f1.trans (e2.trans e3)
    have sx3 := W.mono _ _ (e2.trans e3) sx
    cases o with
    | none =>
      refine c1 rfl F3 σ3 H3 en3 hh3 _ fun F4 H4 e4 hh4 => ?_
      rw [if_neg Bool.false_ne_true]
      exact ⟨s', F4, acc, r2, h2, he, by omega, f3.trans e4, W.mono _ _ e4 sx3, hh4⟩
    | some y =>
      obtain ⟨c3, c4⟩ := c2 y rfl
      refine c3 F3 σ3 H3 en3 hh3 _ fun F4 H4 e4 hh4 => ?_
      rw [if_pos rfl]
      refine c4 F4 σ3 H4 (en3.mono e4) hh4 _ fun F5 v H5 Ω5 e5 hh5 ⟨a5, o5⟩ => ?_
      subst o5
      have hk : (O s' ++ [lstA T d acc])[(O s').length]? = some (lstA T d acc) := app_at
      obtain ⟨t, ⟨ws, w1, al⟩, st, _, wr⟩ := hh5.get hk
      refine ⟨ws, st _ _ w1, by rw [al_len al]; omega, ?_⟩
      have hh6 := wr (lstA T d (acc ++ [y])) d _ (.lst (ws ++ [v])) w1 ⟨_, upd_same, al_app al (.cons a5 .nil)⟩
      rw [set_last] at hh6
      refine ⟨s', F5, acc ++ [y], r2, h2, by rw [List.append_assoc]; exact he, by rw [List.length_append]; simp; omega, f3.trans (e4.trans e5), W.mono _ _ (e4.trans e5) sx3, hh6⟩
  · have ei : i = xs.length := by omega
    subst ei
    refine .inl ⟨W.stop F _ H sx hh, ?_⟩
    rw [List.drop_length] at hs
    cases hs
    rw [List.append_nil] at he
    subst he
    exact q F (.ref d) H _ (e1.trans f1) hh ⟨d, rfl, rfl⟩
theorem xn_lcS {β γ S : Type} [Rp γ] {b : β → S → Option (Option γ × S)} {xs : List β} {s0 s1 : S} {ys : List γ} {wi : TI} {g : TG} {tt : TT} {vs : List Nat} {A : β → VA} {f : β → List (Option VA) → List (Option VA)} {js : List Nat} {Ω0 : List OA} (ks : S → List (Nat × OA)) (L : S → List OA)
    (hm : lcM b xs s0 = some (ys, s1)) (hi : XI wi Γ Ω0 xs A (stt Ω (ks s0) (L s0))) (ht : ∀ a, Tgt g (A a) (f a) js) (hj : ∀ j ∈ js, j ∈ vs) (hz : xs.length ≤ sizeLine)
    (hb : ∀ a s o s', a ∈ xs → b a s = some (o, s') → ∀ X : OA, (o = none → XT tt (f a (wip Γ vs)) (stt Ω (ks s) (L s ++ [X])) false (stt Ω (ks s') (L s' ++ [X]))) ∧
      (∀ y, o = some y → XT tt (f a (wip Γ vs)) (stt Ω (ks s) (L s ++ [X])) true (stt Ω (ks s) (L s ++ [X])) ∧ XE te (f a (wip Γ vs)) (stt Ω (ks s) (L s ++ [X])) (va T y) (stt Ω (ks s') (L s' ++ [X])))) :
    XG (tLc wi g tt te vs) Γ Ω0 (RN (stt Ω (ks s1) (L s1)) fun p => lstA T p ys) :=
  xn_lc (fun s => stt Ω (ks s) (L s)) hm hi ht hj hz fun a s o s' ha h X => by
    simp only [stt_app]
    exact hb a s o s' ha h X
/-- no test -/
theorem xt_yes : XT tYes Γ Ω true Ω := fun F σ H e hh Q q => q F H (Same.refl F) hh
end
end VL

set_option Elab.async false
set_option linter.all false
set_option maxRecDepth 100000
/-! defs, the machine, the numbers -/
namespace VL
open PySem L2
open PyProof.Rows (envOfC)

/-! ### a def by its body -/
/-- a body at a promise's arguments -/
def Bod (X : Cx) (body : List Stmt) (Γ : List (Option VA)) (Ω : List OA) (F0 : Hp) (R : Hp → V → List OA → Prop) : Prop :=
  ∃ t, PSs X body t ∧ ∀ D : Ends, RT F0 R D.rt → (∀ F σ H Ω', Same F0 F → Holds F Ω' H → R F .non Ω' → D.nx σ H) → XS t D F0 Γ Ω
theorem start_env {F : Hp} {N : List Str} {vs : List V} {As : List VA} (h : AlA F vs As) : Env F (L2.start N vs) (As.map some ++ List.replicate (N.length - As.length) none) := by
  have hl := h.len
  refine ⟨by unfold L2.start; simp [hl], fun i A q => ?_⟩
  by_cases hi : i < As.length
  · rw [List.getElem?_append_left (by simpa using hi), List.getElem?_map] at q
    have : ∀ {vs : List V} {As : List VA} {i : Nat}, AlA F vs As → (As[i]?).map some = some (some A) → ∃ v, vs[i]? = some v ∧ A.P F v := by
      intro vs As i h
      induction h generalizing i with
      | nil => intro q; simp at q
      | cons a t ih =>
        intro q
        cases i with
        | zero => simp at q; subst q; exact ⟨_, rfl, a⟩
        | succ i => simpa using ih (by simpa using q)
    obtain ⟨v, h1, h2⟩ := this h q
    refine ⟨v, ?_, h2⟩
    unfold L2.start
    rw [List.getElem?_append_left (by rw [List.length_map]; exact getlt h1), List.getElem?_map, h1]
    rfl
  · rw [List.getElem?_append_right (by simpa using hi), List.getElem?_replicate] at q
    split at q <;> cases q
section
variable {P : Program} {w : World} {K : PySem.W.Frag} {mg : Str → Option Value} {base : Heap}
theorem fn_ok {x qual : Str} {st : Stmt} {f : Addr} {fd : FuncData} {N ps : List Str} {k : Nat} {Pre : PreT} (F : Fun K x qual st f fd) (S : FnScope N ps (defScope st)) (hl : ∀ As Ω R, Pre As Ω R → As.length = ps.length)
    (hb : ∀ (cdv : Value) (A : Around) (outer : List PySem.Env) (s : Shared) (H : Hp) (E : XK), Room k (A.deeper (envOfC qual (defScope st) s.heap.objs.size f cdv)) → ∀ As Ω R F0, Pre As Ω R →
      Bod (cxOf CX0 P w K mg base N qual (defScope st) f cdv A outer s H E).nox (defBody st) (As.map some ++ List.replicate (N.length - As.length) none) Ω F0 R) : FnOk P w K mg base CX0 (k + 1) f fd ps (mkSp Pre) := by
  refine F.ok S (fun vs H Q E h => ?_) (fun cdv A outer s H vs Q E hr h => ?_)
  · obtain ⟨F, Ω, As, R, hp, ha, _⟩ := h
    rw [ha.len]; exact hl _ _ _ hp
  · obtain ⟨F0, Ω, As, R, hp, ha, hh, hq⟩ := h
    obtain ⟨t, h1, h2⟩ := hb cdv A outer s H E hr As Ω R F0 hp
    refine ⟨t, h1, h2 _ (fun F v H Ω' e hh r => hq F v H Ω' e hh r) (fun F σ H Ω' e hh r => hq F .non H Ω' e hh r) _ _ ⟨F0, Same.refl F0, start_env ha, hh⟩⟩

/-! ### a def that may be called -/
structure Cal (P : Program) (w : World) (K : PySem.W.Frag) (mg : Str → Option Value) (base : Heap) (k : Nat) (x : Str) (ps : List Str) (sp : Sp) : Prop where
  ex : ∃ f fd, FnOk P w K mg base CX0 k f fd ps sp ∧ mg x = some (.ref f) ∧ PySem.W.keepIn K (.ref f) = true ∧ Binds K fd ps []
theorem pe_cal {X : Cx} {k : Nat} {x : Str} {ps : List Str} {sp : Sp} {p pos : Pos} {e : Expr} {es : List Expr} {t : TA} (C : Cal X.prog X.w X.K X.mg X.base k x ps sp) (hr : Room k X.A) (hg : Gl X x) (ha : PA X (e :: es) t)
    (hdb : (x == ("__debug__" : Str)) = false := by decide) (he : starEach (e :: es) X.env = (false, eval e X.env) :: starEach es X.env := by rfl) (hpl : (backTo pos (starEach es X.env)).any (·.1) = false := by rfl) :
    PE X (.Call (.Name x p) (e :: es) [] pos) (tCall sp [] E0 t) := by
  obtain ⟨f, fd, F, hm, hk, hb⟩ := C.ex
  exact pe_call F hr hg hm hk hb .nil pass0 ha hdb he hpl
/-- a method -/
structure CalM (P : Program) (w : World) (K : PySem.W.Frag) (mg : Str → Option Value) (base : Heap) (k : Nat) (C : Addr) (m : Str) (ps : List Str) (sp : Sp) : Prop where
  ex : ∃ f fd, FnOk P w K mg base CX0 k f fd ps sp ∧ Meth K C m f ∧ Binds K fd ps []
  cl : Cls K C
end

/-! ### the machine -/
structure MS where
  w : Int
  c : Int
  cnt : Str → Int
  wk : List (T3 Str Int Int)
def mf (s : MS) (d e : Addr) : List (Str × V) := [("width", .int s.w), ("cutoff", .int s.c), ("counts", .ref d), ("entered", .ref e)]
def mkv (s : MS) : List (Key × V) := mwords.map fun w => (Sum.inr w, V.int (s.cnt w))
def MachAt (T : TC) (p dx d e : Addr) (ws : List V) (s : MS) (F t : Hp) : Prop := t p = some (.ins (T.C 0) dx (mf s d e)) ∧ t d = some (.dK (mkv s)) ∧ t e = some (.lst ws) ∧ Al T F ws s.wk
def machA (T : TC) (p : Addr) (s : MS) : OA := ⟨fun F t => ∃ dx d e ws, MachAt T p dx d e ws s F t, fun h ⟨dx, d, e, ws, h1, h2, h3, h4⟩ => ⟨dx, d, e, ws, h1, h2, h3, h4.mono h⟩⟩
section
variable {T : TC} {Γ : List (Option VA)} {Ω Ω1 Ω2 : List OA} {A B C : VA} {ta tb te : TE} {s : MS} {p : Addr} {k : Nat}
/-- machine.width, machine.cutoff -/
theorem xe_mw (cl : Cls T.K (T.C 0)) (na : NoAttr T.K (T.C 0) "width") (ha : XE ta Γ Ω (vr p) Ω1) (hk : Ω1[k]? = some (machA T p s)) : XE (tFld T.K ta "width") Γ Ω (va T s.w) Ω1 := fun F σ H e hh Q q => by
  refine ha F σ H e hh _ fun F1 x H1 Ω' e1 hh1 ⟨a1, o1⟩ => ?_
  subst o1
  obtain ⟨t, ⟨dx, d, en, ws, h1, h2, h3, h4⟩, st, _⟩ := hh1.get hk
  exact ⟨p, _, dx, _, _, a1, st _ _ h1, cl, na, rfl, q F1 _ H1 _ e1 hh1 ⟨rfl, rfl⟩⟩
theorem xe_mc (cl : Cls T.K (T.C 0)) (na : NoAttr T.K (T.C 0) "cutoff") (ha : XE ta Γ Ω (vr p) Ω1) (hk : Ω1[k]? = some (machA T p s)) : XE (tFld T.K ta "cutoff") Γ Ω (va T s.c) Ω1 := fun F σ H e hh Q q => by
  refine ha F σ H e hh _ fun F1 x H1 Ω' e1 hh1 ⟨a1, o1⟩ => ?_
  subst o1
  obtain ⟨t, ⟨dx, d, en, ws, h1, h2, h3, h4⟩, st, _⟩ := hh1.get hk
  exact ⟨p, _, dx, _, _, a1, st _ _ h1, cl, na, rfl, q F1 _ H1 _ e1 hh1 ⟨rfl, rfl⟩⟩
end

/-! ### the numbers -/
structure Bg where
  w : Int
  row : List Int
  v : Int
/-- the sign of a number -/
def sgn (v : Int) : Int := if v < 0 then -1 else if v = 0 then 0 else 1
instance : Rp Bg := ⟨fun T F v b => ∃ p dx r vs, v = .ref p ∧ F p = some (.ins (T.C 1) dx [("width", .int b.w), ("side", .int (sgn b.v)), ("row", .ref r), ("value", .int b.v)]) ∧ SqT T.K F r vs ∧ Al T F vs b.row,
  fun e ⟨p, dx, r, vs, h1, h2, h3, h4⟩ => ⟨p, dx, r, vs, h1, e _ _ h2, Same.tup e h3, h4.mono e⟩⟩
section
variable {T : TC} {Γ : List (Option VA)} {Ω Ω1 Ω2 : List OA} {A B C : VA} {ta tb te : TE} {x : Bg} {p : Addr} {k : Nat}
theorem xe_bw (cl : Cls T.K (T.C 1)) (na : NoAttr T.K (T.C 1) "width") (ha : XE ta Γ Ω (va T x) Ω1) : XE (tFld T.K ta "width") Γ Ω (va T x.w) Ω1 := fun F σ H e hh Q q => by
  refine ha F σ H e hh _ fun F1 v H1 Ω' e1 hh1 ⟨⟨p, dx, r, vs, h1, h2, h3, h4⟩, o1⟩ => ?_
  subst o1
  exact ⟨p, _, dx, _, _, h1, hh1.same _ _ h2, cl, na, rfl, q F1 _ H1 _ e1 hh1 ⟨rfl, rfl⟩⟩
theorem xe_bs (cl : Cls T.K (T.C 1)) (na : NoAttr T.K (T.C 1) "side") (ha : XE ta Γ Ω (va T x) Ω1) : XE (tFld T.K ta "side") Γ Ω (va T (sgn x.v)) Ω1 := fun F σ H e hh Q q => by
  refine ha F σ H e hh _ fun F1 v H1 Ω' e1 hh1 ⟨⟨p, dx, r, vs, h1, h2, h3, h4⟩, o1⟩ => ?_
  subst o1
  exact ⟨p, _, dx, _, _, h1, hh1.same _ _ h2, cl, na, rfl, q F1 _ H1 _ e1 hh1 ⟨rfl, rfl⟩⟩
theorem xe_br (cl : Cls T.K (T.C 1)) (na : NoAttr T.K (T.C 1) "row") (ha : XE ta Γ Ω (va T x) Ω1) : XE (tFld T.K ta "row") Γ Ω (va T (TF.mk x.row)) Ω1 := fun F σ H e hh Q q => by
  refine ha F σ H e hh _ fun F1 v H1 Ω' e1 hh1 ⟨⟨p, dx, r, vs, h1, h2, h3, h4⟩, o1⟩ => ?_
  subst o1
  exact ⟨p, _, dx, _, _, h1, hh1.same _ _ h2, cl, na, rfl, q F1 _ H1 _ e1 hh1 ⟨⟨r, vs, rfl, h3, h4⟩, rfl⟩⟩
theorem xe_bv (cl : Cls T.K (T.C 1)) (na : NoAttr T.K (T.C 1) "value") (ha : XE ta Γ Ω (va T x) Ω1) : XE (tFld T.K ta "value") Γ Ω (va T x.v) Ω1 := fun F σ H e hh Q q => by
  refine ha F σ H e hh _ fun F1 v H1 Ω' e1 hh1 ⟨⟨p, dx, r, vs, h1, h2, h3, h4⟩, o1⟩ => ?_
  subst o1
  exact ⟨p, _, dx, _, _, h1, hh1.same _ _ h2, cl, na, rfl, q F1 _ H1 _ e1 hh1 ⟨rfl, rfl⟩⟩
end
/-! ### things in the making -/
def rawA (t0 : Hp) : OA := ⟨fun _ t => Same t0 t, fun _ h => h⟩
section
variable {F F' H H' : Hp} {Ω : List OA} {o o' : OA} {i j : Nat} {a p : Addr} {u u' : HO}
theorem Holds.conv (h : Holds F Ω H) (q : Ω[i]? = some o) (k : ∀ t, o.P F t → o'.P F t) : Holds F (Ω.set i o') H := by
  obtain ⟨ts, h1, h2, h3, h4, h5⟩ := h
  have lt := getlt q
  refine ⟨ts, fun k x r => ?_, h2, fun k r => h3 k (by rwa [List.length_set] at r), fun k b x r => h4 k b x (by rwa [List.length_set] at r), fun k m b x r r2 => h5 k m b x (by rwa [List.length_set] at r) (by rwa [List.length_set] at r2)⟩
  by_cases hk : i = k
  · subst hk
    rw [List.getElem?_set_self lt] at r
    cases r
    exact k _ (h1 _ _ q)
  · rw [List.getElem?_set_ne hk] at r
    exact h1 k x r
/-- the thing at i, its part of the heap laid open -/
theorem Holds.opened (h : Holds F Ω H) (q : Ω[i]? = some o) : ∃ t, o.P F t ∧ Same t H ∧ Holds F (Ω.set i (rawA t)) H := by
  obtain ⟨ts, h1, h2, h3, h4, h5⟩ := h
  have lt := getlt q
  refine ⟨ts i, h1 i o q, h3 i lt, ts, fun k x r => ?_, h2, fun k r => h3 k (by rwa [List.length_set] at r), fun k b x r => h4 k b x (by rwa [List.length_set] at r), fun k m b x r r2 => h5 k m b x (by rwa [List.length_set] at r) (by rwa [List.length_set] at r2)⟩
  by_cases hk : i = k
  · subst hk
    rw [List.getElem?_set_self lt] at r
    cases r
    exact Same.refl _
  · rw [List.getElem?_set_ne hk] at r
    exact h1 k x r
theorem Holds.rawWrite {t : Hp} (h : Holds F Ω H) (q : Ω[i]? = some (rawA t)) (ha : t a = some u) : Holds F (Ω.set i (rawA (upd t a u'))) (upd H a u') := by
  obtain ⟨t2, s2, st, _, wr⟩ := h.get q
  refine wr (rawA (upd t a u')) a u u' (s2 _ _ ha) fun b x e => ?_
  by_cases hb : b = a
  · subst hb; rw [upd_same] at e ⊢; exact e
  · rw [upd_ne hb] at e ⊢; exact s2 _ _ e
theorem Holds.rawHas {t : Hp} (h : Holds F Ω H) (q : Ω[i]? = some (rawA t)) : Same t H := let ⟨_, s2, st, _⟩ := h.get q; fun b x e => st _ _ (s2 b x e)
end
/-- a new instance, nothing in it -/
def newA (C p : Addr) : OA := ⟨fun _ t => ∃ dx, t p = some (.ins C dx []), fun _ h => h⟩
section
variable {T : TC} {Γ : List (Option VA)} {Ω Ω1 Ω2 : List OA} {A B C : VA} {As Ds : List VA} {ta tb te : TE} {D : Ends} {F0 : Hp} {ts : TS}
theorem xn_make {C : Addr} {Pre : PreT} {E : XK} {t : TA} {dvs : List V} {o : Addr → OA} (ha : XA t Γ Ω As Ω1) (hd : ∀ F, AlA F dvs Ds) (hp : ∀ x, Pre (vr x :: (As ++ Ds)) (Ω1 ++ [newA C x]) (RV (va T ()) (Ω1 ++ [o x]))) :
    XG (tMake C (mkSp Pre) dvs E t) Γ Ω (RN Ω1 o) := fun F σ H e hh Q q => by
  refine ha F σ H e hh _ fun F1 xs H1 e1 hh1 a1 => ?_
  intro x dx nx ndx nex
  have hh2 : Holds F1 (Ω1 ++ [newA C x]) (upd (upd H1 dx (.own x)) x (.ins C dx [])) := by
    refine hh1.newO (t := upd (fun _ => none) x (.ins C dx [])) (fun b y r => by rw [sng_some r]; exact nx) (fun b y r => ?_) (fun b y r => ?_) ⟨dx, upd_same⟩
    · rw [upd_ne (ne_of_none r nx), upd_ne (ne_of_none r ndx)]; exact r
    · have hb := sng_some r
      subst hb
      rw [upd_same] at r ⊢; exact r
  refine ⟨F1, Ω1 ++ [newA C x], vr x :: (As ++ Ds), _, hp x, .cons rfl (a1.app (hd F1)), hh2, fun F' v H' Ω' e' hh' ⟨hv, ho⟩ => ⟨hv, ?_⟩⟩
  subst ho
  exact q F' _ H' _ (e1.trans e') hh' ⟨x, rfl, rfl⟩
def bigA (T : TC) (p : Addr) (b : Bg) : OA := ⟨fun F t => ∃ dx r vs, t p = some (.ins (T.C 1) dx [("width", .int b.w), ("side", .int (sgn b.v)), ("row", .ref r), ("value", .int b.v)]) ∧ SqT T.K F r vs ∧ Al T F vs b.row,
  fun e ⟨dx, r, vs, h2, h3, h4⟩ => ⟨dx, r, vs, h2, Same.tup e h3, h4.mono e⟩⟩
theorem xe_fzB {b : Bg} (h : XG te Γ Ω (RN Ω1 fun p => bigA T p b)) : XE te Γ Ω (va T b) Ω1 := fun F σ H e hh Q q =>
  h F σ H e hh Q fun F1 v H1 Ω' e1 hh1 ⟨p, hv, o1⟩ => by
    subst o1
    obtain ⟨F', t, s1, s2, ⟨dx, r, vs, h2, h3, h4⟩, hh'⟩ := hh1.freeze
    exact q F' v H1 _ (e1.trans s1) hh' ⟨⟨p, dx, r, vs, hv, s2 _ _ h2, Same.tup s1 h3, h4.mono s1⟩, rfl⟩
end
/-! ### what the machine's methods do -/
def MS.step (s : MS) (w : Str) (n : Int) : MS := { s with cnt := fun x => if x = w then s.cnt x + n else s.cnt x }
def MS.enter (s : MS) (w : Str) (m n : Int) : MS := { s with wk := if s.wk.length < 1000 then s.wk ++ [T3.mk w m n] else s.wk }
def MS.fresh (w c : Int) : MS := ⟨w, c, fun _ => 0, []⟩
def MS.reset (s : MS) : MS := MS.fresh s.w s.c
theorem mwords_nd : mwords.Nodup := by decide +kernel
theorem val_words {f : Str → Int} : ∀ {ws : List Str} {w : Str}, w ∈ ws → valV (ws.map fun w => ((Sum.inr w : Key), V.int (f w))) (Sum.inr w) = some (V.int (f w)) := by
  intro ws w hw
  unfold valV
  induction ws with
  | nil => cases hw
  | cons a r ih =>
    rw [List.map_cons, List.find?_cons]
    by_cases h : a = w
    · subst h; simp
    · have : decide ((Sum.inr a : Key) = Sum.inr w) = false := decide_eq_false fun e => h (Sum.inr.inj e)
      simp only [this]
      rcases List.mem_cons.mp hw with e | e
      · exact absurd e.symm h
      · exact ih e
end VL

set_option Elab.async false
set_option linter.all false
set_option maxRecDepth 100000
/-! the machine's methods, the numbers' -/
namespace VL
open PySem L2
theorem putK_words {f : Str → Int} {w : Str} (n : Int) {ws : List Str} (hw : w ∈ ws) :
    putK (ws.map fun x => ((Sum.inr x : Key), V.int (f x))) (Sum.inr w) (V.int n) = ws.map fun x => ((Sum.inr x : Key), V.int (if x = w then n else f x)) := by
  have any : ((ws.map fun x => ((Sum.inr x : Key), V.int (f x))).any fun kv => decide (kv.1 = Sum.inr w)) = true :=
    List.any_eq_true.mpr ⟨_, List.mem_map.mpr ⟨w, hw, rfl⟩, decide_eq_true rfl⟩
  unfold putK
  rw [if_pos any, List.map_map]
  apply List.map_congr_left
  intro x _
  show (if (Sum.inr x : Key) = Sum.inr w then ((Sum.inr x : Key), V.int n) else (Sum.inr x, V.int (f x))) = _
  by_cases e : x = w
  · rw [if_pos (by rw [e]), if_pos e]
  · rw [if_neg (fun z => e (Sum.inr.inj z)), if_neg e]
theorem mwords_len (s : MS) : (mkv s).length < sizeLine := by
  unfold mkv
  rw [List.length_map]
  decide +kernel
section
variable {T : TC} {Γ : List (Option VA)} {Ω Ω1 Ω2 : List OA} {A B C : VA} {As Ds : List VA} {ta tb te : TE} {D : Ends} {F0 : Hp} {ts : TS} {s : MS} {p : Addr} {k : Nat}
/-- what the machine's class must be -/
structure MCls (K : PySem.W.Frag) (C : Addr) : Prop where
  cl : Cls K C
  nw : NoAttr K C "width"
  nc : NoAttr K C "cutoff"
  nt : NoAttr K C "counts"
  ne : NoAttr K C "entered"
structure BCls (K : PySem.W.Frag) (C : Addr) : Prop where
  cl : Cls K C
  nw : NoAttr K C "width"
  ns : NoAttr K C "side"
  nr : NoAttr K C "row"
  nv : NoAttr K C "value"
theorem look_ne {a b : Str} {v : V} {fs : List (Str × V)} (h : (b == a) = false) : ((a, v) :: fs).lookup b = fs.lookup b := by
  rw [List.lookup_cons, h]
theorem mf_counts (d e : Addr) : (mf s d e).lookup ("counts" : Str) = some (V.ref d) := by
  unfold mf
  rw [look_ne (by decide +kernel), look_ne (by decide +kernel)]
  rfl
theorem mf_entered (d e : Addr) : (mf s d e).lookup ("entered" : Str) = some (V.ref e) := by
  unfold mf
  rw [look_ne (by decide +kernel), look_ne (by decide +kernel), look_ne (by decide +kernel)]
  rfl
theorem putF_hit {f : Str} {v x : V} {fs : List (Str × V)} : putF f v ((f, x) :: fs) = (f, v) :: fs := by
  show (if f = f then (f, v) :: fs else _) = _
  rw [if_pos rfl]
theorem putF_miss {f g : Str} {v x : V} {fs : List (Str × V)} (h : ¬ g = f) : putF f v ((g, x) :: fs) = (g, x) :: putF f v fs := by
  show (if g = f then _ else (g, x) :: putF f v fs) = _
  rw [if_neg h]
/-- self.counts[word] += many -/
theorem xs_step {wd : Str} {n : Int} (mc : MCls T.K (T.C 0)) (h0 : Γ[0]? = some (some (vr p))) (h1 : Γ[1]? = some (some (va T wd))) (h2 : Γ[2]? = some (some (va T n))) (hk : Ω[k]? = some (machA T p s)) (hw : wd ∈ mwords)
    (q : ∀ σ H, NX F0 Γ (Ω.set k (machA T p (s.step wd n))) σ H → D.nx σ H) : XS (sDAug (tFld T.K (tVar 0) "counts") (tVar 1) (tVar 2) rAdd) D F0 Γ Ω := fun σ H ⟨F, f0, e, hh⟩ => by
  obtain ⟨v0, a0, b0⟩ := e.2 0 _ h0
  obtain ⟨v1, a1, b1⟩ := e.2 1 _ h1
  obtain ⟨v2, a2, b2⟩ := e.2 2 _ h2
  have b1 : v1 = .str wd := b1
  have b2 : v2 = .int n := b2
  subst b1 b2
  obtain ⟨t, ⟨dx, d, en, ws, m1, m2, m3, m4⟩, st, _, wr⟩ := hh.get hk
  refine ⟨v0, a0, p, _, dx, _, _, b0, st _ _ m1, mc.cl, mc.nt, mf_counts d en, .str wd, a1, d, .int (s.cnt wd), rfl, ?_, .int n, a2, s.cnt wd, n, rfl, rfl, ?_⟩
  · have g := DGet.k (k := Sum.inr wd) (st _ _ m2)
    rw [show valV (mkv s) (Sum.inr wd) = some (V.int (s.cnt wd)) from val_words hw] at g
    exact g
  · refine ⟨_, DPut.k (k := Sum.inr wd) (st _ _ m2) (mwords_len s), q σ _ ⟨F, f0, e, wr (machA T p (s.step wd n)) d _ _ m2 ⟨dx, d, en, ws, ?_, ?_, ?_, m4⟩⟩⟩
    · rw [upd_ne (by intro z; rw [z, m2] at m1; cases m1)]; exact m1
    · rw [upd_same]
      unfold mkv
      rw [putK_words _ hw]
      congr 2
      apply List.map_congr_left
      intro x _
      show (Sum.inr x, V.int _) = (Sum.inr x, V.int (if x = wd then s.cnt x + n else s.cnt x))
      by_cases z : x = wd
      · rw [if_pos z, if_pos z, z]
      · rw [if_neg z, if_neg z]
    · rw [upd_ne (by intro z; rw [z, m2] at m3; cases m3)]; exact m3
/-- if len(self.entered) < 1000: self.entered.append((word, m, n)) -/
theorem xs_enter {wd : Str} {m n : Int} (mc : MCls T.K (T.C 0)) (h0 : Γ[0]? = some (some (vr p))) (h1 : Γ[1]? = some (some (va T wd))) (h2 : Γ[2]? = some (some (va T m))) (h3 : Γ[3]? = some (some (va T n))) (hk : Ω[k]? = some (machA T p s))
    (q : ∀ σ H, NX F0 Γ (Ω.set k (machA T p (s.enter wd m n))) σ H → D.nx σ H) :
    XS (tIfS (tTest (tOp (rI0 fun i j => .bl (decide (i < j))) (tCB (rLen T.K) (tCons (tFld T.K (tVar 0) "entered") tNil)) (tC (.int 1000))))
      (tDrop (tBM T.K "list" rAppend (tFld T.K (tVar 0) "entered") (tCons (tTup (tCons (tVar 1) (tCons (tVar 2) (tCons (tVar 3) tNil)))) tNil))) tNext) D F0 Γ Ω := fun σ H ⟨F, f0, e, hh⟩ => by
  obtain ⟨v0, a0, b0⟩ := e.2 0 _ h0
  obtain ⟨v1, a1, b1⟩ := e.2 1 _ h1
  obtain ⟨v2, a2, b2⟩ := e.2 2 _ h2
  obtain ⟨v3, a3, b3⟩ := e.2 3 _ h3
  obtain ⟨t, ⟨dx, d, en, ws, m1, m2, m3, m4⟩, st, _, wr⟩ := hh.get hk
  refine ⟨v0, a0, p, _, dx, _, _, b0, st _ _ m1, mc.cl, mc.ne, mf_entered d en, en, ws, rfl, .inl (SqL.of (st _ _ m3)), (ws.length : Int), 1000, rfl, rfl, _, rfl, ite2 (fun h => ?_) (fun h => ?_)⟩
  · have lt : ws.length < 1000 := by have := of_decide_eq_true h; omega
    refine ⟨v0, a0, p, _, dx, _, _, b0, st _ _ m1, mc.cl, mc.ne, mf_entered d en, .inl ⟨rfl, _, SqL.of (st _ _ m3)⟩, v1, a1, v2, a2, v3, a3, by show 3 ≤ sizeLine; decide, fun x hx => ?_⟩
    obtain ⟨hh2, e2⟩ := hh.newF (u := .tup [v1, v2, v3]) hx
    obtain ⟨t', ⟨dx', d', en', ws', m1', m2', m3', m4'⟩, st', _, wr'⟩ := hh2.get hk
    have nx : ∀ b y, H b = some y → b ≠ x := fun b y r => ne_of_none r hx
    have i1 := (st' _ _ m1').symm.trans ((upd_ne (nx _ _ (st _ _ m1))).trans (st _ _ m1))
    have i1 : mf s d' en' = mf s d en := by
      have := Option.some.inj i1
      injection this
    have i2 : en' = en := by
      unfold mf at i1
      injection i1 with _ i1
      injection i1 with _ i1
      injection i1 with _ i1
      injection i1 with i1 _
      injection i1 with _ i1
      injection i1
    subst i2
    have i3 := (st' _ _ m3').symm.trans ((upd_ne (nx _ _ (st _ _ m3))).trans (st _ _ m3))
    cases i3
    refine ⟨en', ws, _, rfl, rfl, st' _ _ m3', Nat.lt_trans lt (by decide), q σ _ ⟨_, f0.trans e2, e.mono e2, wr' (machA T p (s.enter wd m n)) en' _ _ m3' ⟨dx', d', en', _, ?_, ?_, upd_same, ?_⟩⟩⟩
    · rw [upd_ne (by intro z; rw [z, m3'] at m1'; cases m1')]; exact m1'
    · rw [upd_ne (by intro z; rw [z, m3'] at m2'; cases m2')]; exact m2'
    · have hl : s.wk.length < 1000 := by rw [← al_len m4]; exact lt
      show Al T _ _ (if s.wk.length < 1000 then s.wk ++ [T3.mk wd m n] else s.wk)
      rw [if_pos hl]
      exact al_app m4' (.cons ⟨x, v1, v2, v3, rfl, SqT.of upd_same, Rp.mono (α := Str) e2 b1, Rp.mono (α := Int) e2 b2, Rp.mono (α := Int) e2 b3⟩ .nil)
  · have ge : ¬ s.wk.length < 1000 := by
      intro z
      apply h
      rw [← al_len m4] at z
      exact decide_eq_true (by omega)
    refine q σ H ⟨F, f0, e, ?_⟩
    have es : s.enter wd m n = s := by
      unfold MS.enter
      rw [if_neg ge]
    rw [es]
    have : Ω.set k (machA T p s) = Ω := by
      apply List.ext_getElem?
      intro j
      by_cases z : k = j
      · subst z; rw [List.getElem?_set_self (getlt hk), hk]
      · rw [List.getElem?_set_ne z]
    rw [this]
    exact hh
/-! ### a thing in the making: its attributes stored one by one -/
theorem xs_fldV {C : Addr} {f : Str} {v0 : V} {t : Hp} {dx : Addr} {fs : List (Str × V)} {j : Nat} (cl : Cls T.K C) (na : NoAttr T.K C f) (h : XE te Γ Ω (vx v0) Ω) (hj : Γ[j]? = some (some (vr p))) (hk : Ω[k]? = some (rawA t)) (ht : t p = some (.ins C dx fs)) (hl : fs.length < 1000)
    (q : XS ts D F0 Γ (Ω.set k (rawA (upd t p (.ins C dx (putF f v0 fs)))))) : XS (tSeq (sFld T.K (tVar j) te f) ts) D F0 Γ Ω := fun σ H ⟨F, f0, e, hh⟩ => by
  refine h F σ H e hh _ fun F1 v H1 Ω' e1 hh1 ⟨a1, o1⟩ => ?_
  subst o1
  have a1 : v = v0 := a1
  subst a1
  obtain ⟨x, h1, h2⟩ := e.2 j _ hj
  refine ⟨x, h1, p, C, dx, fs, h2, hh1.rawHas hk _ _ ht, cl, na, hl, ?_⟩
  exact q σ _ ⟨F1, f0.trans e1, e.mono e1, hh1.rawWrite hk ht⟩
theorem xs_fldN {C : Addr} {f : Str} {u : HO} {t : Hp} {dx : Addr} {fs : List (Str × V)} {j : Nat} (cl : Cls T.K C) (na : NoAttr T.K C f) (h : XG te Γ Ω (RN Ω fun r => rawA (upd (fun _ => none) r u))) (hj : Γ[j]? = some (some (vr p))) (hk : Ω[k]? = some (rawA t)) (ht : t p = some (.ins C dx fs)) (hl : fs.length < 1000)
    (q : ∀ r, t r = none → XS ts D F0 Γ (Ω.set k (rawA (upd (upd t r u) p (.ins C dx (putF f (.ref r) fs)))))) : XS (tSeq (sFld T.K (tVar j) te f) ts) D F0 Γ Ω := fun σ H ⟨F, f0, e, hh⟩ => by
  refine h F σ H e hh _ fun F1 v H1 Ω' e1 hh1 ⟨r, a1, o1⟩ => ?_
  subst o1 a1
  obtain ⟨x, h1, h2⟩ := e.2 j _ hj
  obtain ⟨t1, t2, s1, s2, _, _, dj, kk⟩ := hh1.merge hk
  have nt : t r = none := by
    cases z : t r with
    | none => rfl
    | some y => exact (nn (s2 r u upd_same) (dj r y (s1 _ _ z))).elim
  have hh2 : Holds F1 (Ω.set k (rawA (upd t r u))) H1 := kk _ fun b y e => by
    by_cases hb : b = r
    · subst hb
      rw [upd_same] at e
      cases e
      refine cup_r (fun c y z => ?_) b u (s2 b u upd_same)
      cases w : t1 c with
      | none => rfl
      | some y2 => exact (nn z (dj c y2 w)).elim
    · rw [upd_ne hb] at e
      exact cup_l b y (s1 b y e)
  have hk2 : (Ω.set k (rawA (upd t r u)))[k]? = some (rawA (upd t r u)) := List.getElem?_set_self (getlt hk)
  have np : p ≠ r := ne_of_none ht nt
  have ht2 : upd t r u p = some (.ins C dx fs) := by rw [upd_ne np]; exact ht
  refine ⟨x, h1, p, C, dx, fs, h2, hh2.rawHas hk2 _ _ ht2, cl, na, hl, ?_⟩
  have hh3 := hh2.rawWrite (u' := .ins C dx (putF f (.ref r) fs)) hk2 ht2
  rw [List.set_set] at hh3
  exact q r nt σ _ ⟨F1, f0.trans e1, e.mono e1, hh3⟩
theorem NX.conv {o o' : OA} {σ : L2.St} {H : Hp} (h : NX F0 Γ Ω σ H) (hk : Ω[k]? = some o) (c : ∀ F t, Same F0 F → o.P F t → o'.P F t) : NX F0 Γ (Ω.set k o') σ H :=
  let ⟨F, f0, e, hh⟩ := h
  ⟨F, f0, e, hh.conv hk fun t => c F t f0⟩
/-- {word: 0 for word in WORDS} -/
theorem xn_zeros {aW : Addr} {i : Nat} {vs : List Nat} (hW : ∀ H, SqT T.K H aW (mwords.map V.str)) (hi : i ∈ vs) (hlt : i < Γ.length) :
    XG (tDc (iTup T.K (tC (.ref aW))) (gName i) tYes (tVar i) (tC (.int 0)) vs) Γ Ω (RN Ω fun r => rawA (upd (fun _ => none) r (.dK (mwords.map fun w => (Sum.inr w, V.int 0))))) := fun F σ H e hh Q q => by
  refine ⟨aW, rfl, ⟨_, hW H⟩, fun d hd => ?_⟩
  refine dc_tup (xs := mwords.map V.str) (fun m H' => Holds F (Ω ++ [rawA (upd (fun _ => none) d (.dK ((mwords.take m).map fun w => (Sum.inr w, V.int 0))))]) H') (hh.newL hd (Same.refl _)) (fun _ H' _ _ => hW H') (fun m x H' hx p => ?_) (fun H' p => ?_)
  · rw [List.getElem?_map] at hx
    cases hw : mwords[m]? with
    | none => rw [hw] at hx; cases hx
    | some wd =>
      rw [hw] at hx
      cases hx
      refine ⟨(wipe_set hi).trans (wipe_wipe vs), ?_⟩
      simp only [tYes, ↓reduceIte]
      have li : i < (wipe σ vs).length := by rw [wipe_length, e.1]; exact hlt
      refine ⟨.str wd, by rw [List.getElem?_set_self li], _, Sum.inr wd, rfl, p.rawHas app_at d _ upd_same, ?_, ?_⟩
      · rw [List.length_map, List.length_take]
        exact Nat.lt_of_le_of_lt (Nat.min_le_right _ _) (by decide +kernel)
      · have hh2 := p.rawWrite (u' := .dK (putK ((mwords.take m).map fun w => ((Sum.inr w : Key), V.int 0)) (Sum.inr wd) (.int 0))) app_at upd_same
        rw [set_last, upd_upd] at hh2
        have nin : valV ((mwords.take m).map fun w => ((Sum.inr w : Key), V.int 0)) (Sum.inr wd) = none := by
          cases z : valV ((mwords.take m).map fun w => ((Sum.inr w : Key), V.int 0)) (Sum.inr wd) with
          | none => rfl
          | some y =>
            have hm := valV_in z
            rw [List.map_map] at hm
            obtain ⟨w2, h2, e2⟩ := List.mem_map.mp hm
            have e2 : w2 = wd := Sum.inr.inj e2
            subst e2
            obtain ⟨j2, h3, h4⟩ := List.mem_take_iff_getElem.mp h2
            have hlt3 : j2 < mwords.length := by omega
            have eq2 : mwords[j2]? = some w2 := by rw [List.getElem?_eq_getElem hlt3, h4]
            have := nd_ix mwords_nd eq2 hw
            omega
        rw [putK_new _ nin] at hh2
        rw [List.take_add_one, hw, List.map_append, putK_new _ nin]
        exact hh2
  · rw [show (mwords.map V.str).length = mwords.length from List.length_map _, List.take_length] at p
    exact q F (.ref d) H' _ (Same.refl F) p ⟨d, rfl, rfl⟩
/-- the whole of a machine's __init__ behind its checks: four stores -/
theorem mf_put {w c : Int} {d e : Addr} : putF "entered" (.ref e) (putF "counts" (.ref d) (putF "cutoff" (.int c) (putF "width" (.int w) []))) = ([("width", .int w), ("cutoff", .int c), ("counts", .ref d), ("entered", .ref e)] : List (Str × V)) := by
  rw [show putF "width" (.int w) [] = [(("width" : Str), V.int w)] from rfl, putF_miss (f := "cutoff") (g := "width") (by decide +kernel), show putF "cutoff" (.int c) [] = [(("cutoff" : Str), V.int c)] from rfl,
    putF_miss (f := "counts") (g := "width") (by decide +kernel), putF_miss (f := "counts") (g := "cutoff") (by decide +kernel), show putF "counts" (.ref d) [] = [(("counts" : Str), V.ref d)] from rfl,
    putF_miss (f := "entered") (g := "width") (by decide +kernel), putF_miss (f := "entered") (g := "cutoff") (by decide +kernel), putF_miss (f := "entered") (g := "counts") (by decide +kernel)]
  all_goals rfl
theorem mf_reset {d e d2 e2 : Addr} : putF "entered" (.ref e2) (putF "counts" (.ref d2) (mf s d e)) = mf s d2 e2 := by
  unfold mf
  rw [putF_miss (f := "counts") (g := "width") (by decide +kernel), putF_miss (f := "counts") (g := "cutoff") (by decide +kernel), putF_hit,
    putF_miss (f := "entered") (g := "width") (by decide +kernel), putF_miss (f := "entered") (g := "cutoff") (by decide +kernel), putF_miss (f := "entered") (g := "counts") (by decide +kernel), putF_hit]
theorem set_get {l : List OA} {k : Nat} {o o' : OA} (h : l[k]? = some o) : (l.set k o')[k]? = some o' := List.getElem?_set_self (getlt h)
/-- self.width = bits; self.cutoff = cutoff; self.counts = {..}; self.entered = [] -/
theorem xs_minit {w c : Int} {aW : Addr} {i : Nat} {vs : List Nat} (mc : MCls T.K (T.C 0)) (hW : ∀ H, SqT T.K H aW (mwords.map V.str)) (hi : i ∈ vs) (hlt : i < Γ.length)
    (h0 : Γ[0]? = some (some (vr p))) (h1 : Γ[1]? = some (some (va T w))) (h2 : Γ[2]? = some (some (va T c))) (hk : Ω[k]? = some (newA (T.C 0) p)) (q : ∀ σ H, NX F0 Γ (Ω.set k (machA T p (MS.fresh w c))) σ H → D.nx σ H) :
    XS (tSeq (sFld T.K (tVar 0) (tVar 1) "width") (tSeq (sFld T.K (tVar 0) (tVar 2) "cutoff") (tSeq (sFld T.K (tVar 0) (tDc (iTup T.K (tC (.ref aW))) (gName i) tYes (tVar i) (tC (.int 0)) vs) "counts") (sFld T.K (tVar 0) (tLst tNil) "entered")))) D F0 Γ Ω := by
  intro σ H ⟨F, f0, e, hh⟩
  obtain ⟨t, ⟨dx, ht⟩, _, hh2⟩ := hh.opened hk
  have hk2 : (Ω.set k (rawA t))[k]? = some (rawA t) := set_get hk
  have iv : ∀ {j : Nat} {n : Int} {Ω' : List OA}, Γ[j]? = some (some (va T n)) → XE (tVar j) Γ Ω' (vx (.int n)) Ω' := fun h => (xe_var h).to fun F v a => a
  refine xs_fldV (D := D) (ts := (tSeq (sFld T.K (tVar 0) (tVar 2) "cutoff") (tSeq (sFld T.K (tVar 0) (tDc (iTup T.K (tC (.ref aW))) (gName i) tYes (tVar i) (tC (.int 0)) vs) "counts") (sFld T.K (tVar 0) (tLst tNil) "entered")))) mc.cl mc.nw (iv h1) h0 hk2 ht (by decide) ?_ σ H ⟨F, Same.refl F, e, hh2⟩
  rw [List.set_set]
  refine xs_fldV mc.cl mc.nc (iv h2) h0 (set_get hk) upd_same (by show 1 < 1000; decide) ?_
  rw [List.set_set, upd_upd]
  refine xs_fldN mc.cl mc.nt (xn_zeros hW hi hlt) h0 (set_get hk) upd_same (by rw [show putF "width" (V.int w) [] = [(("width" : Str), V.int w)] from rfl, putF_miss (by decide +kernel)]; show 2 < 1000; decide) fun d hd => ?_
  rw [List.set_set]
  refine fun σ H n => xs_fldN (ts := tNext) mc.cl mc.ne (u := .lst []) (p := p) ?_ h0 (set_get hk) upd_same ?_ (fun en he => ?_) σ H n
  · exact fun F σ H e hh Q q => ⟨Nat.zero_le _, fun r hr => q F (.ref r) _ _ (Same.refl F) (hh.newL (o := rawA (upd (fun _ => none) r (.lst []))) hr (Same.refl _)) ⟨r, rfl, rfl⟩⟩
  · rw [show putF "width" (V.int w) [] = [(("width" : Str), V.int w)] from rfl, putF_miss (by decide +kernel), show putF "cutoff" (V.int c) [] = [(("cutoff" : Str), V.int c)] from rfl, putF_miss (by decide +kernel), putF_miss (by decide +kernel)]
    show 3 < 1000
    decide
  · rw [List.set_set, mf_put]
    intro σ H n
    have npd : d ≠ p := fun z => by rw [z, upd_same] at hd; cases hd
    have npe : en ≠ p := fun z => by rw [z, upd_same] at he; cases he
    have nde : d ≠ en := fun z => by rw [← z, upd_ne npd, upd_same] at he; cases he
    have n2 := n.conv (o' := machA T p (MS.fresh w c)) (set_get hk) fun F t f st => ⟨dx, d, en, [], st p _ upd_same, st d _ (by rw [upd_ne npd, upd_ne nde, upd_ne npd, upd_same]; rfl), st en _ (by rw [upd_ne npe, upd_same]), .nil⟩
    rw [List.set_set] at n2
    obtain ⟨F2, f2, e2, hh3⟩ := n2
    exact q σ H ⟨F2, f0.trans f2, e2, hh3⟩
/-- self.counts = {..}; self.entered = [] -/
theorem xs_mreset {aW : Addr} {i : Nat} {vs : List Nat} (mc : MCls T.K (T.C 0)) (hW : ∀ H, SqT T.K H aW (mwords.map V.str)) (hi : i ∈ vs) (hlt : i < Γ.length)
    (h0 : Γ[0]? = some (some (vr p))) (hk : Ω[k]? = some (machA T p s)) (q : ∀ σ H, NX F0 Γ (Ω.set k (machA T p s.reset)) σ H → D.nx σ H) :
    XS (tSeq (sFld T.K (tVar 0) (tDc (iTup T.K (tC (.ref aW))) (gName i) tYes (tVar i) (tC (.int 0)) vs) "counts") (sFld T.K (tVar 0) (tLst tNil) "entered")) D F0 Γ Ω := by
  intro σ H ⟨F, f0, e, hh⟩
  obtain ⟨t, ⟨dx, d0, e0, ws, ht, _⟩, _, hh2⟩ := hh.opened hk
  have hk2 : (Ω.set k (rawA t))[k]? = some (rawA t) := set_get hk
  refine xs_fldN (D := D) (ts := sFld T.K (tVar 0) (tLst tNil) "entered") mc.cl mc.nt (xn_zeros hW hi hlt) h0 hk2 ht (by show 4 < 1000; decide) (fun d hd => ?_) σ H ⟨F, Same.refl F, e, hh2⟩
  rw [List.set_set]
  refine fun σ H n => xs_fldN (ts := tNext) mc.cl mc.ne (u := .lst []) (p := p) ?_ h0 (set_get hk) upd_same ?_ (fun en he => ?_) σ H n
  · exact fun F σ H e hh Q q => ⟨Nat.zero_le _, fun r hr => q F (.ref r) _ _ (Same.refl F) (hh.newL (o := rawA (upd (fun _ => none) r (.lst []))) hr (Same.refl _)) ⟨r, rfl, rfl⟩⟩
  · unfold mf
    rw [putF_miss (by decide +kernel), putF_miss (by decide +kernel), putF_hit]
    show 4 < 1000
    decide
  · rw [List.set_set, mf_reset]
    intro σ H n
    have npd : d ≠ p := fun z => by rw [z, ht] at hd; cases hd
    have npe : en ≠ p := fun z => by rw [z, upd_same] at he; cases he
    have nde : d ≠ en := fun z => by rw [← z, upd_ne npd, upd_same] at he; cases he
    have n2 := n.conv (o' := machA T p s.reset) (set_get hk) fun F t f st => ⟨dx, d, en, [], st p _ upd_same, st d _ (by rw [upd_ne npd, upd_ne nde, upd_ne npd, upd_same]; rfl), st en _ (by rw [upd_ne npe, upd_same]), .nil⟩
    rw [List.set_set] at n2
    obtain ⟨F2, f2, e2, hh3⟩ := n2
    exact q σ H ⟨F2, f0.trans f2, e2, hh3⟩
/-- self.counts[word] -/
theorem xe_cnt {wd : Str} {i j : Nat} (mc : MCls T.K (T.C 0)) (ha : Γ[j]? = some (some (vr p))) (hy : Γ[i]? = some (some (va T wd))) (hk : Ω[k]? = some (machA T p s)) (hw : wd ∈ mwords) : XE (tDGet (tFld T.K (tVar j) "counts") (tVar i)) Γ Ω (va T (s.cnt wd)) Ω := fun F σ H e hh Q q => by
  obtain ⟨v0, a0, b0⟩ := e.2 j _ ha
  obtain ⟨v1, a1, b1⟩ := e.2 i _ hy
  have b1 : v1 = .str wd := b1
  subst b1
  obtain ⟨t, ⟨dx, d, en, ws, m1, m2, m3, m4⟩, st, _⟩ := hh.get hk
  refine ⟨v0, a0, p, _, dx, _, _, b0, st _ _ m1, mc.cl, mc.nt, mf_counts d en, .str wd, a1, d, .int (s.cnt wd), rfl, ?_, q F _ H _ (Same.refl F) hh ⟨rfl, rfl⟩⟩
  have g := DGet.k (k := Sum.inr wd) (st _ _ m2)
  rw [show valV (mkv s) (Sum.inr wd) = some (V.int (s.cnt wd)) from val_words hw] at g
  exact g
/-- self.entered, as a list -/
theorem xe_walk {j : Nat} (mc : MCls T.K (T.C 0)) (ha : Γ[j]? = some (some (vr p))) (hk : Ω[k]? = some (machA T p s)) : XE (tCB (rList T.K) (tCons (tFld T.K (tVar j) "entered") tNil)) Γ Ω (va T (LF.mk s.wk)) Ω := fun F σ H e hh Q q => by
  obtain ⟨v0, a0, b0⟩ := e.2 j _ ha
  obtain ⟨t, ⟨dx, d, en, ws, m1, m2, m3, m4⟩, st, _⟩ := hh.get hk
  refine ⟨v0, a0, p, _, dx, _, _, b0, st _ _ m1, mc.cl, mc.ne, mf_entered d en, en, ws, rfl, .inl (SqL.of (st _ _ m3)), fun l hl => ?_⟩
  obtain ⟨hh2, e2⟩ := hh.newF (u := .lst ws) hl
  exact q _ _ _ _ e2 hh2 ⟨⟨l, ws, rfl, upd_same, m4.mono e2⟩, rfl⟩
/-- the words of the tally -/
theorem xi_words {aW : Addr} (hW : ∀ H, SqT T.K H aW (mwords.map V.str)) : XI (iTup T.K (tC (.ref aW))) Γ Ω mwords (fun a => va T a) Ω := fun F σ H e hh R r => by
  have al : ∀ l : List Str, Al T F (l.map V.str) l := fun l => by
    induction l with
    | nil => exact .nil
    | cons a r ih => exact .cons rfl ih
  exact ⟨aW, rfl, ⟨_, hW H⟩, r F _ H _ (Same.refl F) hh wk_tup ⟨hW F, al mwords⟩⟩
theorem lcM_all {β γ : Type} (f : β → γ) : ∀ l : List β, lcM (fun x (_ : Unit) => some (some (f x), ())) l () = some (l.map f, ())
  | [] => rfl
  | x :: r => by
    show ((lcM (fun x (_ : Unit) => some (some (f x), ())) r ()).bind fun (ys, s'') => some (f x :: ys, s'')) = _
    rw [lcM_all f r]
    rfl
def MS.tally (s : MS) : List (Str × Int) := mwords.map fun w => (w, s.cnt w)
theorem xe_tally {aW : Addr} {i j : Nat} {vs : List Nat} (mc : MCls T.K (T.C 0)) (hW : ∀ H, SqT T.K H aW (mwords.map V.str)) (hi : i ∈ vs) (ha : ((wip Γ vs).set i none)[j]? = some (some (vr p))) (hlt : i < (wip Γ vs).length) (hk : Ω[k]? = some (machA T p s)) :
    XE (tLc (iTup T.K (tC (.ref aW))) (gName i) tYes (tTup (tCons (tVar i) (tCons (tDGet (tFld T.K (tVar j) "counts") (tVar i)) tNil))) vs) Γ Ω (va T (LF.mk s.tally)) Ω := by
  refine xe_fz (xn_lc (fun _ : Unit => Ω) (lcM_all (fun w => (w, s.cnt w)) mwords) (xi_words hW) (fun a => tgt_name) (fun m hm => by rw [List.mem_singleton.mp hm]; exact hi) (by decide +kernel) fun a s1 o s2 hm h X => ⟨fun e => ?_, fun y e => ?_⟩)
  · subst e; cases h
  · subst e
    cases h
    have hj : ((wip Γ vs).set i (some (va T a)))[j]? = some (some (vr p)) := by
      have ne : i ≠ j := fun z => by
        subst z
        rw [List.getElem?_set_self hlt] at ha
        cases ha
      rw [List.getElem?_set_ne ne] at ha ⊢
      exact ha
    have hi' : ((wip Γ vs).set i (some (va T a)))[i]? = some (some (va T a)) := List.getElem?_set_self hlt
    exact ⟨xt_yes, xe_tup2 (xa_cons (xe_var hi') (xa_cons (xe_cnt mc hj hi' (app_lt hk) hm) xa_nil))⟩
/-- a frozen thing stored -/
theorem xs_fldR {C : Addr} {f : Str} {t : Hp} {dx : Addr} {fs : List (Str × V)} {j : Nat} {row : List Int} (cl : Cls T.K C) (na : NoAttr T.K C f) (h : ∀ Ω', XE te Γ Ω' (va T (TF.mk row)) Ω') (hj : Γ[j]? = some (some (vr p))) (hk : Ω[k]? = some (rawA t)) (ht : t p = some (.ins C dx fs)) (hl : fs.length < 1000)
    (q : ∀ F1 r vs, Same F0 F1 → SqT T.K F1 r vs → Al T F1 vs row → XS ts D F1 Γ (Ω.set k (rawA (upd t p (.ins C dx (putF f (.ref r) fs)))))) : XS (tSeq (sFld T.K (tVar j) te f) ts) D F0 Γ Ω := fun σ H ⟨F, f0, e, hh⟩ => by
  refine h Ω F σ H e hh _ fun F1 v H1 Ω' e1 hh1 ⟨⟨r, vs, hv, s1, a1⟩, o1⟩ => ?_
  subst o1 hv
  obtain ⟨x, h1, h2⟩ := e.2 j _ hj
  refine ⟨x, h1, p, C, dx, fs, h2, hh1.rawHas hk _ _ ht, cl, na, hl, ?_⟩
  exact q F1 r vs (f0.trans e1) s1 a1 σ _ ⟨F1, Same.refl F1, e.mono e1, hh1.rawWrite hk ht⟩
/-- a number's __init__ -/
theorem bg_put {w s v : Int} {r : Addr} : putF "value" (.int v) (putF "row" (.ref r) (putF "side" (.int s) (putF "width" (.int w) []))) = ([("width", .int w), ("side", .int s), ("row", .ref r), ("value", .int v)] : List (Str × V)) := by
  rw [show putF "width" (V.int w) [] = [(("width" : Str), V.int w)] from rfl, putF_miss (f := "side") (g := "width") (by decide +kernel), show putF "side" (V.int s) [] = [(("side" : Str), V.int s)] from rfl,
    putF_miss (f := "row") (g := "width") (by decide +kernel), putF_miss (f := "row") (g := "side") (by decide +kernel), show putF "row" (V.ref r) [] = [(("row" : Str), V.ref r)] from rfl,
    putF_miss (f := "value") (g := "width") (by decide +kernel), putF_miss (f := "value") (g := "side") (by decide +kernel), putF_miss (f := "value") (g := "row") (by decide +kernel)]
  rfl
theorem xs_binit {ts1 : TE} {w v : Int} {row : List Int} (bc : BCls T.K (T.C 1)) (h0 : Γ[0]? = some (some (vr p))) (h1 : Γ[1]? = some (some (va T w))) (h2 : Γ[2]? = some (some (va T v)))
    (hs : ∀ Ω', XE ts1 Γ Ω' (va T (sgn v)) Ω') (h3 : ∀ Ω', XE te Γ Ω' (va T (TF.mk row)) Ω') (hk : Ω[k]? = some (newA (T.C 1) p)) (q : ∀ σ H, NX F0 Γ (Ω.set k (bigA T p ⟨w, row, v⟩)) σ H → D.nx σ H) :
    XS (tSeq (sFld T.K (tVar 0) (tVar 1) "width") (tSeq (sFld T.K (tVar 0) ts1 "side") (tSeq (sFld T.K (tVar 0) te "row") (sFld T.K (tVar 0) (tVar 2) "value")))) D F0 Γ Ω := by
  intro σ H ⟨F, f0, e, hh⟩
  obtain ⟨t, ⟨dx, ht⟩, _, hh2⟩ := hh.opened hk
  have hk2 : (Ω.set k (rawA t))[k]? = some (rawA t) := set_get hk
  have iv : ∀ {j : Nat} {n : Int} {Ω' : List OA}, Γ[j]? = some (some (va T n)) → XE (tVar j) Γ Ω' (vx (.int n)) Ω' := fun h => (xe_var h).to fun F v a => a
  refine xs_fldV (D := D) (ts := (tSeq (sFld T.K (tVar 0) ts1 "side") (tSeq (sFld T.K (tVar 0) te "row") (sFld T.K (tVar 0) (tVar 2) "value")))) bc.cl bc.nw (iv h1) h0 hk2 ht (by decide) ?_ σ H ⟨F, Same.refl F, e, hh2⟩
  rw [List.set_set]
  refine xs_fldV (v0 := .int (sgn v)) bc.cl bc.ns ((hs _).to fun F u a => a) h0 (set_get hk) upd_same (by show 1 < 1000; decide) ?_
  rw [List.set_set, upd_upd]
  refine xs_fldR bc.cl bc.nr h3 h0 (set_get hk) upd_same (by rw [show putF "width" (V.int w) [] = [(("width" : Str), V.int w)] from rfl, putF_miss (by decide +kernel)]; show 2 < 1000; decide) fun F1 r vs e1 s1 a1 => ?_
  rw [List.set_set, upd_upd]
  refine fun σ H n => xs_fldV (ts := tNext) bc.cl bc.nv (iv h2) h0 (set_get hk) upd_same ?_ ?_ σ H n
  · rw [show putF "width" (V.int w) [] = [(("width" : Str), V.int w)] from rfl, putF_miss (by decide +kernel), show putF "side" (V.int (sgn v)) [] = [(("side" : Str), V.int (sgn v))] from rfl, putF_miss (by decide +kernel), putF_miss (by decide +kernel)]
    show 3 < 1000
    decide
  · rw [List.set_set, upd_upd, bg_put]
    intro σ H n
    have n2 := n.conv (o' := bigA T p ⟨w, row, v⟩) (set_get hk) fun F t f st => ⟨dx, r, vs, st p _ upd_same, Same.tup f s1, a1.mono f⟩
    rw [List.set_set] at n2
    obtain ⟨F2, f2, e2, hh3⟩ := n2
    exact q σ H ⟨F2, f0.trans (e1.trans f2), e2, hh3⟩
end
end VL

set_option Elab.async false
set_option linter.all false
set_option maxRecDepth 100000
/-! what the printed texts lean on -/
namespace VL
open PySem L2
open PyProof.Rows (envOfC)
section
variable {P : Program} {w : World} {K : PySem.W.Frag} {mg : Str → Option Value} {base : Heap}
theorem fn_okD {x qual : Str} {params : Arguments} {body : List Stmt} {scope : Scope} {dvs : List V} {f : Addr} {fd : FuncData} {N ps : List Str} {k : Nat} {Pre : PreT} (F : FunD K x qual params body scope dvs [] f fd) (S : FnScope N ps scope) (hl : ∀ As Ω R, Pre As Ω R → As.length = ps.length)
    (hb : ∀ (cdv : Value) (A : Around) (outer : List PySem.Env) (s : Shared) (H : Hp) (E : XK), Room k (A.deeper (envOfC qual scope s.heap.objs.size f cdv)) → ∀ As Ω R F0, Pre As Ω R →
      Bod (cxOf CX0 P w K mg base N qual scope f cdv A outer s H E).nox body (As.map some ++ List.replicate (N.length - As.length) none) Ω F0 R) : FnOk P w K mg base CX0 (k + 1) f fd ps (mkSp Pre) := by
  refine F.ok S (fun vs H Q E h => ?_) (fun cdv A outer s H vs Q E hr h => ?_)
  · obtain ⟨F, Ω, As, R, hp, ha, _⟩ := h
    rw [ha.len]; exact hl _ _ _ hp
  · obtain ⟨F0, Ω, As, R, hp, ha, hh, hq⟩ := h
    obtain ⟨t, h1, h2⟩ := hb cdv A outer s H E hr As Ω R F0 hp
    exact ⟨t, h1.nox, h2 _ (fun F v H Ω' e hh r => hq F v H Ω' e hh r) (fun F σ H Ω' e hh r => hq F .non H Ω' e hh r) _ _ ⟨F0, Same.refl F0, start_env ha, hh⟩⟩
/-- a class that may be made: dvs fill up what is not written -/
structure CalC (P : Program) (w : World) (K : PySem.W.Frag) (mg : Str → Option Value) (base : Heap) (k : Nat) (x : Str) (C : Addr) (ps : List Str) (dvs : List V) (sp : Sp) : Prop where
  ex : ∃ f fd ds, FnOk P w K mg base CX0 k f fd ps sp ∧ mg x = some (.ref C) ∧ Mk K C f ∧ Vals dvs ds ∧ Binds K fd ps ds
section
variable {X : Cx} {k : Nat} {x m : Str} {C : Addr} {ps : List Str} {dvs : List V} {sp : Sp} {p pos apos : Pos} {e o : Expr} {es : List Expr} {t : TA} {ta : TE}
theorem pe_calC (c : CalC X.prog X.w X.K X.mg X.base k x C ps dvs sp) (hr : Room (k + 1) X.A) (hg : Gl X x) (ha : PA X (e :: es) t)
    (hdb : (x == ("__debug__" : Str)) = false := by decide) (he : starEach (e :: es) X.env = (false, eval e X.env) :: starEach es X.env := by rfl) (hpl : (backTo pos (starEach es X.env)).any (·.1) = false := by rfl) :
    PE X (.Call (.Name x p) (e :: es) [] pos) (tMake C sp dvs E0 t) := by
  obtain ⟨f, fd, ds, F, hm, M, hv, hb⟩ := c.ex
  exact pe_make M F hr hg hm hb hv pass0 ha hdb he hpl
theorem pe_calM {pl : Sem Bool} (he : PE X o ta) (c : CalM X.prog X.w X.K X.mg X.base k C m ps sp) (hr : Room k X.A) (ha : PA X (e :: es) t)
    (hst : starEach (e :: es) X.env = (false, eval e X.env) :: starEach es X.env := by rfl) (hpl : (backTo pos (starEach es X.env)).any (·.1) = false := by rfl)
    (ht : eval (.Call (.Attribute o m apos) (e :: es) [] pos) X.env = (do
      let ov ← eval o X.env
      standAt apos.atName
      let (f, first) ← holding [ov] (getMethod ov m pl)
      callWith pos f first (backTo pos (starEach (e :: es) X.env)) (backToKw pos (keywordEach [] X.env))) := by rfl) :
    PE X (.Call (.Attribute o m apos) (e :: es) [] pos) (tMeth C m sp [] E0 ta t) := by
  obtain ⟨f, fd, F, hm, hb⟩ := c.ex
  exact pe_meth he c.cl hm F hr hb .nil pass0 ha hst hpl ht
theorem pe_calM0 {pl : Sem Bool} (he : PE X o ta) (c : CalM X.prog X.w X.K X.mg X.base k C m ps sp) (hr : Room k X.A)
    (ht : eval (.Call (.Attribute o m apos) [] [] pos) X.env = (do
      let ov ← eval o X.env
      standAt apos.atName
      let (f, first) ← holding [ov] (getMethod ov m pl)
      callWith pos f first (backTo pos (starEach [] X.env)) (backToKw pos (keywordEach [] X.env))) := by rfl) :
    PE X (.Call (.Attribute o m apos) [] [] pos) (tMeth C m sp [] E0 ta tNil) := by
  obtain ⟨f, fd, F, hm, hb⟩ := c.ex
  exact pe_meth0 he c.cl hm F hr hb .nil pass0 ht
/-- a module's constant -/
theorem pe_gl {x : Str} {v : V} {pos : Pos} (hg : Gl X x) (hm : ∃ u, X.mg x = some u ∧ RelV v u) (hd : (x == ("__debug__" : Str)) = false := by decide) : PE X (.Name x pos) (tC v) := by
  obtain ⟨u, h1, h2⟩ := hm
  exact pe_glob hg h1 h2 hd
end
end
section
variable {X : Cx}
theorem op_mulG : OpR X (binaryOp .Mult) (rI IntMulOk fun i j => .int (i * j)) := L2.opI fun _ _ _ _ _ _ _ hc q => PyProof.Rows.mul_int q hc
/-- + of ints, of lists; * of ints, of a list and an int -/
def rAddQ : R2 := fun x y H Q => rI0 (fun i j => .int (i + j)) x y H Q ∨ rCat x y H Q
theorem op_addQ : OpR X (binaryOp .Add) rAddQ := op_add.or op_cat
def rMulQ : R2 := fun x y H Q => rI IntMulOk (fun i j => .int (i * j)) x y H Q ∨ rRep x y H Q
theorem op_mulQ : OpR X (binaryOp .Mult) rMulQ := op_mulG.or op_rep
/-- int(x) -/
def rInt : List V → Hp → VK → Prop := fun xs H Q => (∃ i, xs = [.int i] ∧ Q (.int i) H) ∨ ∃ k, xs = [.bl k] ∧ Q (.int (if k then 1 else 0)) H
theorem cr_int : CallR X (.type "int") rInt := call_int1
def rAbs : List V → Hp → VK → Prop := fun xs H Q => ∃ i, xs = [.int i] ∧ Q (.int (if i < 0 then -i else i)) H
theorem cr_abs : CallR X (.builtin "abs") rAbs := call_abs
def rMax2 : List V → Hp → VK → Prop := fun xs H Q => ∃ i j, xs = [.int i, .int j] ∧ Q (.int (if j > i then j else i)) H
theorem cr_max2 (hc : X.calm = true) : CallR X (.builtin "max") rMax2 := call_max2 hc
def rMin2 : List V → Hp → VK → Prop := fun xs H Q => ∃ i j, xs = [.int i, .int j] ∧ Q (.int (if j < i then j else i)) H
theorem cr_min2 (hc : X.calm = true) : CallR X (.builtin "min") rMin2 := call_min2 hc
/-- x op= y by the operator's rule -/
theorem ip_of {op : Operator} {r : R2} (h : OpR X (inplaceOp op) r) : PIp X op r := h
end
section
variable {T : TC} {Γ : List (Option VA)} {Ω Ω1 Ω2 : List OA} {A B C : VA} {As Ds : List VA} {ta tb te : TE} {t u : TT} {D : Ends} {F0 : Hp} {ts : TS} {i j : Int} {b c : Bool} {α : Type} [Rp α] {l l2 : List α} {p : Addr} {k : Nat} {s : MS} {R : Hp → V → List OA → Prop}
theorem ro_or1 {r r' : R2} (h : RO r Ω A B C) : RO (fun x y H Q => r x y H Q ∨ r' x y H Q) Ω A B C := fun F H x y hh a1 a2 Q q => .inl (h F H x y hh a1 a2 Q q)
theorem ro_or2 {r r' : R2} (h : RO r' Ω A B C) : RO (fun x y H Q => r x y H Q ∨ r' x y H Q) Ω A B C := fun F H x y hh a1 a2 Q q => .inr (h F H x y hh a1 a2 Q q)
theorem xe_add (ha : XE ta Γ Ω (va T i) Ω1) (hb : XE tb Γ Ω1 (va T j) Ω2) : XE (tOp rAddQ ta tb) Γ Ω (va T (i + j)) Ω2 := xe_op ha hb (ro_or1 ro_int)
theorem xe_sub (ha : XE ta Γ Ω (va T i) Ω1) (hb : XE tb Γ Ω1 (va T j) Ω2) : XE (tOp (rI0 fun i j => .int (i - j)) ta tb) Γ Ω (va T (i - j)) Ω2 := xe_op ha hb ro_int
theorem xe_mul (h : IntMulOk i j) (ha : XE ta Γ Ω (va T i) Ω1) (hb : XE tb Γ Ω1 (va T j) Ω2) : XE (tOp rMulQ ta tb) Γ Ω (va T (i * j)) Ω2 := xe_op ha hb (ro_or1 (ro_intD h))
theorem xe_fdiv (h : CDivW i j) (ha : XE ta Γ Ω (va T i) Ω1) (hb : XE tb Γ Ω1 (va T j) Ω2) : XE (tOp (rI CDivW fun i j => .int (i / j)) ta tb) Γ Ω (va T (i / j)) Ω2 := xe_op ha hb (ro_intD h)
theorem xe_mod (h : 0 < j) (ha : XE ta Γ Ω (va T i) Ω1) (hb : XE tb Γ Ω1 (va T j) Ω2) : XE (tOp (rI (fun _ j => 0 < j) fun i j => .int (i % j)) ta tb) Γ Ω (va T (i % j)) Ω2 := xe_op ha hb (ro_intD (D := fun _ j => 0 < j) h)
theorem xe_shl (h : CShl i j) (ha : XE ta Γ Ω (va T i) Ω1) (hb : XE tb Γ Ω1 (va T j) Ω2) : XE (tOp (rI CShl fun i j => .int (i * 2 ^ j.toNat)) ta tb) Γ Ω (va T (i * 2 ^ j.toNat)) Ω2 := xe_op ha hb (ro_intD h)
theorem xe_shr (h : 0 ≤ j) (ha : XE ta Γ Ω (va T i) Ω1) (hb : XE tb Γ Ω1 (va T j) Ω2) : XE (tOp (rI (fun _ j => 0 ≤ j) fun i j => .int (i / 2 ^ j.toNat)) ta tb) Γ Ω (va T (i / 2 ^ j.toNat)) Ω2 := xe_op ha hb (ro_intD (D := fun _ j => 0 ≤ j) h)
theorem xe_pow (h : CPow i j) (ha : XE ta Γ Ω (va T i) Ω1) (hb : XE tb Γ Ω1 (va T j) Ω2) : XE (tOp (rI CPow fun i j => .int (i ^ j.toNat)) ta tb) Γ Ω (va T (i ^ j.toNat)) Ω2 := xe_op ha hb (ro_intD h)
theorem xe_band (ha : XE ta Γ Ω (va T i) Ω1) (hb : XE tb Γ Ω1 (va T j) Ω2) : XE (tOp (rI0 fun i j => .int (Builtin.bitAnd i j)) ta tb) Γ Ω (va T (Builtin.bitAnd i j)) Ω2 := xe_op ha hb ro_int
theorem xe_neg (ha : XE ta Γ Ω (va T i) Ω1) : XE (tUn (rU fun i => .int (-i)) ta) Γ Ω (va T (-i)) Ω1 := xe_un ha ru_int
theorem xe_cat {A B : VA} (ha : XE ta Γ Ω A Ω1) (hb : XE tb Γ Ω1 B Ω2) (h : IsLs T Ω2 A l) (h2 : IsLs T Ω2 B l2) (hz : l.length + l2.length ≤ sizeLine) : XE (tOp rAddQ ta tb) Γ Ω (va T (LF.mk (l ++ l2))) Ω2 := xe_op ha hb (ro_or2 (ro_cat h h2 hz))
theorem xe_ix {A : VA} {a : α} (ha : XE ta Γ Ω A Ω1) (hb : XE tb Γ Ω1 (va T i) Ω2) (h : IsL T Ω2 A l) (e : atI l i = some a) : XE (tOp (rIx T.K) ta tb) Γ Ω (va T a) Ω2 := xe_op ha hb (ro_ixL h e)
theorem xe_int1 (ha : XE te Γ Ω (va T i) Ω1) : XE (tCB rInt (tCons te tNil)) Γ Ω (va T i) Ω1 := xe_cb (xa_cons ha xa_nil) fun F H vs hh a Q q => by
  obtain ⟨v, rfl, a1⟩ := alA1 a
  have a1 : v = .int i := a1
  subst a1
  exact .inl ⟨i, rfl, q F _ H (Same.refl F) hh rfl⟩
theorem xe_intb (ha : XE te Γ Ω (va T b) Ω1) : XE (tCB rInt (tCons te tNil)) Γ Ω (va T (if b = true then (1 : Int) else 0)) Ω1 := xe_cb (xa_cons ha xa_nil) fun F H vs hh a Q q => by
  obtain ⟨v, rfl, a1⟩ := alA1 a
  have a1 : v = .bl b := a1
  subst a1
  refine .inr ⟨b, rfl, q F _ H (Same.refl F) hh ?_⟩
  cases b <;> rfl
theorem xe_abs (ha : XE te Γ Ω (va T i) Ω1) : XE (tCB rAbs (tCons te tNil)) Γ Ω (va T ((i.natAbs : Nat) : Int)) Ω1 := xe_cb (xa_cons ha xa_nil) fun F H vs hh a Q q => by
  obtain ⟨v, rfl, a1⟩ := alA1 a
  have a1 : v = .int i := a1
  subst a1
  refine ⟨i, rfl, q F _ H (Same.refl F) hh ?_⟩
  show V.int _ = V.int _
  congr 1
  split <;> omega
theorem xe_max2 (ha : XE ta Γ Ω (va T i) Ω1) (hb : XE tb Γ Ω1 (va T j) Ω2) : XE (tCB rMax2 (tCons ta (tCons tb tNil))) Γ Ω (va T (max i j)) Ω2 := xe_cb (xa_cons ha (xa_cons hb xa_nil)) fun F H vs hh a Q q => by
  obtain ⟨v, w, rfl, a1, a2⟩ := alA2 a
  have a1 : v = .int i := a1
  have a2 : w = .int j := a2
  subst a1 a2
  refine ⟨i, j, rfl, q F _ H (Same.refl F) hh ?_⟩
  show V.int _ = V.int _
  congr 1
  split <;> omega
theorem xe_min2 (ha : XE ta Γ Ω (va T i) Ω1) (hb : XE tb Γ Ω1 (va T j) Ω2) : XE (tCB rMin2 (tCons ta (tCons tb tNil))) Γ Ω (va T (min i j)) Ω2 := xe_cb (xa_cons ha (xa_cons hb xa_nil)) fun F H vs hh a Q q => by
  obtain ⟨v, w, rfl, a1, a2⟩ := alA2 a
  have a1 : v = .int i := a1
  have a2 : w = .int j := a2
  subst a1 a2
  refine ⟨i, j, rfl, q F _ H (Same.refl F) hh ?_⟩
  show V.int _ = V.int _
  congr 1
  split <;> omega
theorem xe_sum {l : List Int} {A : VA} (ha : XE te Γ Ω A Ω1) (h : IsL T Ω1 A l) : XE (tCB (rSum T.K) (tCons te tNil)) Γ Ω (va T l.sum) Ω1 := xe_cb (xa_cons ha xa_nil) fun F H vs hh a Q q => by
  obtain ⟨v, rfl, a1⟩ := alA1 a
  obtain ⟨p, ws, e, hs, al⟩ := h F H v hh a1
  rw [al_int al] at hs
  exact ⟨p, l, by rw [e], hs, q F _ H (Same.refl F) hh rfl⟩
theorem xe_bits (ha : XE te Γ Ω (va T i) Ω1) : XE (tBits te) Γ Ω (va T ((Builtin.Int.intBits i : Nat) : Int)) Ω1 := fun F σ H e hh Q q => by
  refine ha F σ H e hh _ fun F1 x H1 Ω' e1 hh1 ⟨a1, o1⟩ => ?_
  subst o1
  exact ⟨i, a1, q F1 _ H1 _ e1 hh1 ⟨rfl, rfl⟩⟩
theorem xe_ite {a a' : α} (h : XT t Γ Ω b Ω1) (h1 : XE ta Γ Ω1 (va T a) Ω2) (h2 : XE tb Γ Ω1 (va T a') Ω2) : XE (tIf t ta tb) Γ Ω (va T (if b = true then a else a')) Ω2 :=
  xe_if h (fun e => xe_eq h1 (by rw [if_pos e])) (fun e => xe_eq h2 (by rw [if_neg (by rw [e]; exact Bool.false_ne_true)]))
theorem xe_lt (ha : XE ta Γ Ω (va T i) Ω1) (hb : XE tb Γ Ω1 (va T j) Ω2) : XE (tOp (rI0 fun i j => .bl (decide (i < j))) ta tb) Γ Ω (va T (decide (i < j))) Ω2 := (xe_op ha hb ro_bl)
theorem xe_le (ha : XE ta Γ Ω (va T i) Ω1) (hb : XE tb Γ Ω1 (va T j) Ω2) : XE (tOp (rI0 fun i j => .bl (decide (i ≤ j))) ta tb) Γ Ω (va T (decide (i ≤ j))) Ω2 := (xe_op ha hb ro_bl)
theorem xe_gt (ha : XE ta Γ Ω (va T i) Ω1) (hb : XE tb Γ Ω1 (va T j) Ω2) : XE (tOp (rI0 fun i j => .bl (decide (j < i))) ta tb) Γ Ω (va T (decide (j < i))) Ω2 := (xe_op ha hb (ro_bl (g := fun i j => decide (j < i))))
theorem xe_ge (ha : XE ta Γ Ω (va T i) Ω1) (hb : XE tb Γ Ω1 (va T j) Ω2) : XE (tOp (rI0 fun i j => .bl (decide (j ≤ i))) ta tb) Γ Ω (va T (decide (j ≤ i))) Ω2 := (xe_op ha hb (ro_bl (g := fun i j => decide (j ≤ i))))
/-! == by values, by data -/
def rEqX (K : PySem.W.Frag) : R2 := fun x y H Q => rEq x y H Q ∨ rEqD K x y H Q
theorem op_eqX {X : Cx} (hu : X.A.units + 64 < cLine) : OpR X (compareOp .Eq) (rEqX X.K) := op_eq.or (op_eqD hu)
def rNeX (K : PySem.W.Frag) : R2 := fun x y H Q => rNe x y H Q ∨ rNeD K x y H Q
theorem op_neX {X : Cx} (hu : X.A.units + 64 < cLine) : OpR X (compareOp .NotEq) (rNeX X.K) := op_ne.or (op_neD hu)
theorem xe_eqI (ha : XE ta Γ Ω (va T i) Ω1) (hb : XE tb Γ Ω1 (va T j) Ω2) : XE (tOp (rEqX T.K) ta tb) Γ Ω (va T (decide (i = j))) Ω2 := xe_op ha hb (ro_or1 ro_eqI)
theorem xe_neI (ha : XE ta Γ Ω (va T i) Ω1) (hb : XE tb Γ Ω1 (va T j) Ω2) : XE (tOp (rNeX T.K) ta tb) Γ Ω (va T (!decide (i = j))) Ω2 := xe_op ha hb (ro_or1 ro_neI)
theorem xe_eqB (ha : XE ta Γ Ω (va T b) Ω1) (hb : XE tb Γ Ω1 (va T c) Ω2) : XE (tOp (rEqX T.K) ta tb) Γ Ω (va T (decide (b = c))) Ω2 := xe_op ha hb (ro_or1 ro_eqB)
/-! statements, further -/
theorem xs_ifN {t1 : TS} (h : XT t Γ Ω false Ω1) (q : XS ts D F0 Γ Ω1) : XS (tSeq (tIfS t t1 tNext) ts) D F0 Γ Ω := xs_ifF h q
theorem nt {b : Bool} (h : ¬ b = true) : b = false := by cases b with
  | true => exact absurd rfl h
  | false => rfl
variable {n : Int}
theorem xs_augI {k : Nat} {g : Int → Int → Int} (hx : Γ[k]? = some (some (va T i))) (h : XE te Γ Ω (va T j) Ω1) (e : g i j = n) (q : XS ts D F0 (Γ.set k (some (va T n))) Ω1) : XS (tSeq (tAug k te (rI0 fun i j => .int (g i j))) ts) D F0 Γ Ω := fun σ H ⟨F, f0, en, hh⟩ => by
  subst e
  obtain ⟨x, h1, h2⟩ := en.2 k _ hx
  refine ⟨x, h1, ?_⟩
  refine h F σ H en hh _ fun F1 v H1 Ω' e1 hh1 ⟨a1, o1⟩ => ?_
  exact ⟨i, j, h2, a1, q _ H1 ⟨F1, f0.trans e1, (en.mono e1).set (A := va T (g i j)) rfl, o1 ▸ hh1⟩⟩
theorem xs_augI1 {k : Nat} {g : Int → Int → Int} (hx : Γ[k]? = some (some (va T i))) (h : XE te Γ Ω (va T j) Ω1) (e : g i j = n) (q : ∀ σ H, NX F0 (Γ.set k (some (va T n))) Ω1 σ H → D.nx σ H) : XS (tAug k te (rI0 fun i j => .int (g i j))) D F0 Γ Ω := fun σ H m => xs_augI (ts := tNext) hx h e q σ H m
theorem xs_augD {k : Nat} {Dd : Int → Int → Prop} {g : Int → Int → Int} (hx : Γ[k]? = some (some (va T i))) (hd : Dd i j) (h : XE te Γ Ω (va T j) Ω1) (e : g i j = n) (q : XS ts D F0 (Γ.set k (some (va T n))) Ω1) : XS (tSeq (tAug k te (rI Dd fun i j => .int (g i j))) ts) D F0 Γ Ω := fun σ H ⟨F, f0, en, hh⟩ => by
  subst e
  obtain ⟨x, h1, h2⟩ := en.2 k _ hx
  refine ⟨x, h1, ?_⟩
  refine h F σ H en hh _ fun F1 v H1 Ω' e1 hh1 ⟨a1, o1⟩ => ?_
  exact ⟨i, j, h2, a1, hd, q _ H1 ⟨F1, f0.trans e1, (en.mono e1).set (A := va T (g i j)) rfl, o1 ▸ hh1⟩⟩
theorem xs_augD1 {k : Nat} {Dd : Int → Int → Prop} {g : Int → Int → Int} (hx : Γ[k]? = some (some (va T i))) (hd : Dd i j) (h : XE te Γ Ω (va T j) Ω1) (e : g i j = n) (q : ∀ σ H, NX F0 (Γ.set k (some (va T n))) Ω1 σ H → D.nx σ H) : XS (tAug k te (rI Dd fun i j => .int (g i j))) D F0 Γ Ω := fun σ H m => xs_augD (ts := tNext) hx hd h e q σ H m
theorem xs_asgG {g : TG} {f : List (Option VA) → List (Option VA)} {js : List Nat} (h : XE te Γ Ω A Ω1) (ht : Tgt g A f js) (q : XS ts D F0 (f Γ) Ω1) : XS (tSeq (tAsg te g) ts) D F0 Γ Ω := fun σ H ⟨F, f0, en, hh⟩ => by
  refine h F σ H en hh _ fun F1 v H1 Ω' e1 hh1 ⟨a1, o1⟩ => ?_
  subst o1
  exact ht F1 σ Γ v H1 _ (en.mono e1) hh1 a1 _ fun F2 σ2 H2 e2 en2 hh2 _ => q σ2 H2 ⟨F2, f0.trans (e1.trans e2), en2, hh2⟩
theorem xs_asgG1 {g : TG} {f : List (Option VA) → List (Option VA)} {js : List Nat} (h : XE te Γ Ω A Ω1) (ht : Tgt g A f js) (q : ∀ σ H, NX F0 (f Γ) Ω1 σ H → D.nx σ H) : XS (tAsg te g) D F0 Γ Ω := fun σ H n => xs_asgG (ts := tNext) h ht q σ H n
theorem mf_none {m : Str} {d e : Addr} (h : (m == "width" || m == "cutoff" || m == "counts" || m == "entered") = false) : (mf s d e).lookup m = none := by
  simp only [Bool.or_eq_false_iff] at h
  unfold mf
  rw [look_ne h.1.1.1, look_ne h.1.1.2, look_ne h.1.2, look_ne h.2]
  rfl
/-- a method of the machine -/
theorem xe_mcall {m : Str} {Pre : PreT} {E : XK} {ta : TE} {t : TA} {Ω' : List OA} (ha : XE ta Γ Ω (vr p) Ω) (hk : Ω[k]? = some (machA T p s)) (hx : XA t Γ Ω As Ω1) (hp : Pre (vr p :: As) Ω1 (RV A Ω')) (he : Ω' = Ω2)
    (hm : (m == "width" || m == "cutoff" || m == "counts" || m == "entered") = false := by decide +kernel) : XE (tMeth (T.C 0) m (mkSp Pre) [] E ta t) Γ Ω A Ω2 := fun F σ H e hh Q q => by
  subst he
  refine ha F σ H e hh _ fun F1 x H1 Ωa e1 hh1 ⟨a1, o1⟩ => ?_
  subst o1
  obtain ⟨t0, ⟨dx, d, en, ws, m1, m2, m3, m4⟩, st, _⟩ := hh1.get hk
  refine ⟨p, dx, _, a1, st _ _ m1, mf_none hm, ?_⟩
  refine hx F1 σ H1 (e.mono e1) hh1 _ fun F2 vs H2 e2 hh2 a2 => ?_
  refine ⟨F2, Ω1, vr p :: As, _, hp, ?_, hh2, fun F' v H' Ω3 e' hh' r => q F' v H' Ω3 ((e1.trans e2).trans e') hh' r⟩
  rw [List.append_nil]
  exact .cons a1 a2
end
section
variable {T : TC} {Γ : List (Option VA)} {Ω Ω1 Ω2 : List OA} {A B C : VA} {ta tb te tc : TE} {i j : Int} {b : Bool}
def rIsi (K : PySem.W.Frag) : List V → Hp → VK → Prop := fun xs H Q => ∃ (x c : V) (t u : Value) (b : Bool), xs = [x, c] ∧ ClsV c u ∧ TyX K H x t ∧ PySem.W.kitOne K t u = some b ∧ Q (.bl b) H
theorem cr_isi {X : Cx} : CallR X (.builtin "isinstance") (rIsi X.K) := call_isi
/-- what a class must be that isinstance asks for -/
structure ICls (K : PySem.W.Frag) (C : Addr) : Prop where
  cl : Cls K C
  ha : PySem.W.findIn K (.ref C) "__class__" = some (some (.builtin "object.__class__"))
  hn : PySem.W.specialIn K (.builtin "object.__class__") "__get__" = some (some (.builtin "getset_descriptor.__get__"))
  htk : PySem.W.takesIn K (.builtin "object.__class__") = some true
  hm : PySem.W.mroIn K C (.type "object") = some true
  kit : PySem.W.kitOne K (.ref C) (.ref C) = some true
theorem xe_isi {c : V} {t u : Value} (ha : XE ta Γ Ω A Ω1) (hb : XE tc Γ Ω1 (vx c) Ω1) (hc : ClsV c u) (ht : ∀ F H v, Holds F Ω1 H → A.P F v → TyX T.K H v t) (hk : PySem.W.kitOne T.K t u = some b) :
    XE (tCB (rIsi T.K) (tCons ta (tCons tc tNil))) Γ Ω (va T b) Ω1 := xe_cb (xa_cons ha (xa_cons hb xa_nil)) fun F H vs hh a Q q => by
  obtain ⟨v, w, rfl, a1, a2⟩ := alA2 a
  have a2 : w = c := a2
  subst a2
  exact ⟨v, w, t, u, b, rfl, hc, ht F H v hh a1, hk, q F _ H (Same.refl F) hh rfl⟩
theorem xe_vx {c : V} : XE (tC c) Γ Ω (vx c) Ω := xe_c fun _ => rfl
theorem ty_int {F H : Hp} {v : V} (_ : Holds F Ω H) (a : (va T i).P F v) : TyX T.K H v (.type "int") := by
  have a : v = .int i := a
  subst a
  exact .base (.int i)
theorem ty_mach {F H : Hp} {v : V} {p : Addr} {k : Nat} {s : MS} (ic : ICls T.K (T.C 0)) (hk : Ω[k]? = some (machA T p s)) (hh : Holds F Ω H) (a : (vr p).P F v) : TyX T.K H v (.ref (T.C 0)) := by
  have a : v = .ref p := a
  subst a
  obtain ⟨t, ⟨dx, d, en, ws, m1, _⟩, st, _⟩ := hh.get hk
  exact .base (.ins (st _ _ m1) ic.cl ic.ha ic.hn ic.htk ic.hm)
theorem ty_big {F H : Hp} {v : V} {x : Bg} (ic : ICls T.K (T.C 1)) (hh : Holds F Ω H) (a : (va T x).P F v) : TyX T.K H v (.ref (T.C 1)) := by
  obtain ⟨p, dx, r, vs, rfl, h2, _⟩ := a
  exact .base (.ins (hh.same _ _ h2) ic.cl ic.ha ic.hn ic.htk ic.hm)
end
section
variable {X : Cx} {K : PySem.W.Frag} {e o tg l : Expr} {es : List Expr} {f m name : Str} {pos p1 p2 p3 apos cpos : Pos} {te ta tl : TE} {t : TA} {k : Nat} {id Tn : String} {r : V → List V → Hp → VK → Prop}
/-! the rules, the written part named (within a comprehension's block) -/
theorem pe_fldK (he : PE X e ta) (hb : attributeBase e f X.env (eval e X.env) = eval e X.env) (hK : X.K = K) : PE X (.Attribute e f pos) (tFld K ta f) := hK ▸ pe_fld he hb
theorem cr_lenK (hK : X.K = K) : CallR X (.builtin "len") (rLen K) := hK ▸ cr_len
theorem cr_listK (hK : X.K = K) : CallR X (.type "list") (rList K) := hK ▸ cr_list
theorem cr_isiK (hK : X.K = K) : CallR X (.builtin "isinstance") (rIsi K) := hK ▸ cr_isi
theorem cr_sumK (hc : X.calm = true) (hK : X.K = K) : CallR X (.builtin "sum") (rSum K) := hK ▸ cr_sum hc
theorem ix_seqK (hK : X.K = K) : IxR X (rIx K) := hK ▸ ix_seq
theorem sl_listK (hK : X.K = K) : SlR X (rSlL K) := hK ▸ sl_list
theorem op_eqXK (hu : X.A.units + 64 < cLine) (hK : X.K = K) : OpR X (compareOp .Eq) (rEqX K) := hK ▸ op_eqX hu
theorem op_neXK (hu : X.A.units + 64 < cLine) (hK : X.K = K) : OpR X (compareOp .NotEq) (rNeX K) := hK ▸ op_neX hu
theorem pi_listK (hl : PE X l tl) (hK : X.K = K) : PI X tg l (iList K tl) := hK ▸ pi_list hl
theorem pg_tupK {es : List Expr} {k : Nat} {t : TGs} {n : Nat} (hK : X.K = K) (hc : X.calm = true) (h : PGs X es t)
    (hn : (assignEach es X.env).length = n := by rfl) (hst : (assignEach es X.env).findIdx? (·.1) = none := by rfl) : PG X (.Tuple es k pos) (gTup K n t) := hK ▸ pg_tup hc h hn hst
end
theorem neK_ {α : Type} [DecidableEq α] {a b : α} (h : a = b) : (!decide (a = b)) = false := by rw [decide_eq_true h]; rfl
/-! ### promises of the machine's and the numbers' methods -/
def Pre_Mach_step (T : TC) : PreT := fun As Ω R => ∃ (k : Nat) (p : Addr) (s : MS) (wd : Str) (n : Int), As = [vr p, va T wd, va T n] ∧ Ω[k]? = some (machA T p s) ∧ wd ∈ mwords ∧ R = RV (va T ()) (stt Ω [(k, machA T p (s.step wd n))] [])
def Pre_Mach_enter (T : TC) : PreT := fun As Ω R => ∃ (k : Nat) (p : Addr) (s : MS) (wd : Str) (m n : Int), As = [vr p, va T wd, va T m, va T n] ∧ Ω[k]? = some (machA T p s) ∧ R = RV (va T ()) (stt Ω [(k, machA T p (s.enter wd m n))] [])
def Pre_Mach_reset (T : TC) : PreT := fun As Ω R => ∃ (k : Nat) (p : Addr) (s : MS), As = [vr p] ∧ Ω[k]? = some (machA T p s) ∧ R = RV (va T ()) (stt Ω [(k, machA T p s.reset)] [])
def Pre_Mach_tally (T : TC) : PreT := fun As Ω R => ∃ (k : Nat) (p : Addr) (s : MS), As = [vr p] ∧ Ω[k]? = some (machA T p s) ∧ R = RV (va T (LF.mk s.tally)) Ω
def Pre_Mach_walk (T : TC) : PreT := fun As Ω R => ∃ (k : Nat) (p : Addr) (s : MS), As = [vr p] ∧ Ω[k]? = some (machA T p s) ∧ R = RV (va T (LF.mk s.wk)) Ω
def Pre_Mach_parts (T : TC) : PreT := fun As Ω R => ∃ (k : Nat) (p : Addr) (s : MS), As = [vr p] ∧ Ω[k]? = some (machA T p s) ∧ R = RV (va T (s.w, s.c)) Ω
def Pre_Machine (T : TC) : PreT := fun As Ω R => ∃ (Ω0 : List OA) (p : Addr) (w c : Int), As = [vr p, va T w, va T c] ∧ ((8 ≤ w ∧ w ≤ 30) ∧ 2 ≤ c ∧ c ≤ 1000) ∧ Ω = Ω0 ++ [newA (T.C 0) p] ∧ R = RV (va T ()) (Ω0 ++ [machA T p (MS.fresh w c)])
def Pre_Big (T : TC) : PreT := fun As Ω R => ∃ (Ω0 : List OA) (p : Addr) (w v : Int) (row : List Int) (B : VA), (B = va T (LF.mk row) ∨ B = va T (TF.mk row)) ∧ As = [vr p, va T w, va T v, B] ∧ Ω = Ω0 ++ [newA (T.C 1) p] ∧ R = RV (va T ()) (Ω0 ++ [bigA T p ⟨w, row, v⟩])
/-- what must hold to go on -/
noncomputable def chkP (p : Prop) : Option Unit := @ite _ p (Classical.propDecidable p) (some ()) none
theorem chkP_some {p : Prop} {r : Unit} (h : chkP p = some r) : p := by
  unfold chkP at h
  split at h
  · assumption
  · cases h
end VL

set_option Elab.async false
set_option linter.all false
set_option maxRecDepth 100000
/-! == of data; new things side by side -/
namespace VL
open PySem L2
class Dat (α : Type) [Rp α] where
  dat : α → PyData
  ok : α → Prop
  dep : Nat
  dp : ∀ {T : TC} {F H : Hp} {v : V} {a : α}, Same F H → Rp.rep T F v a → Dp T.K H v (dat a)
  lay : ∀ {a : α}, ok a → (dat a).canLay0 = true
  depth : ∀ {a : α}, (dat a).depth ≤ dep
  eqv : ∀ {a b : α}, PyData.eqv (dat a) (dat b) = true ↔ a = b
instance : Dat Int := ⟨.int, fun _ => True, 0, fun _ h => by
    rw [show _ = V.int _ from h]; exact .int _, fun _ => rfl, Nat.le_refl _, fun {a b} => by
    show (a == b) = true ↔ a = b
    exact beq_iff_eq⟩
instance : Dat Bool := ⟨.bool, fun _ => True, 0, fun _ h => by
    rw [show _ = V.bl _ from h]; exact .bl _, fun _ => rfl, Nat.le_refl _, fun {a b} => by
    show (a == b) = true ↔ a = b
    exact beq_iff_eq⟩
instance : Dat Str := ⟨.str, fun s => (PyData.str s).canLay0 = true, 0, fun _ h => by
    rw [show _ = V.str _ from h]; exact .str _, fun h => h, Nat.le_refl _, fun {a b} => by
    show (a == b) = true ↔ a = b
    exact beq_iff_eq⟩
section
variable {α : Type} [Rp α] [Dat α]
theorem dp_all {T : TC} {F H : Hp} (e : Same F H) : ∀ {vs : List V} {l : List α}, Al T F vs l → DpAll T.K H vs (l.map Dat.dat)
  | _, _, .nil => .nil
  | _, _, .cons h t => .cons (Dat.dp e h) (dp_all e t)
theorem lay_all : ∀ {l : List α}, (∀ x ∈ l, Dat.ok x) → PyData.canLayAll0 (l.map Dat.dat) = true
  | [], _ => rfl
  | x :: r, h => by
    show (PyData.canLay0 (Dat.dat x) && PyData.canLayAll0 (r.map Dat.dat)) = true
    rw [Dat.lay (h x List.mem_cons_self), lay_all fun y hy => h y (List.mem_cons_of_mem _ hy)]
    rfl
theorem dep_all : ∀ {l : List α}, PyData.depthAll (l.map Dat.dat) ≤ Dat.dep α
  | [] => Nat.zero_le _
  | x :: r => by
    show max (PyData.depth (Dat.dat x)) (PyData.depthAll (r.map Dat.dat)) ≤ _
    exact Nat.max_le.mpr ⟨Dat.depth, dep_all⟩
theorem eqv_all : ∀ {l m : List α}, PyData.eqvAll (l.map Dat.dat) (m.map Dat.dat) = true ↔ l = m
  | [], [] => by simp [PyData.eqvAll]
  | [], _ :: _ => by simp [PyData.eqvAll]
  | _ :: _, [] => by simp [PyData.eqvAll]
  | x :: r, y :: s => by
    simp only [List.map_cons, PyData.eqvAll, Bool.and_eq_true, Dat.eqv, eqv_all, List.cons.injEq]
end
theorem depth_list {ds : List PyData} : (PyData.list ds).depth = PyData.depthAll ds + 1 := by simp [PyData.depth]
theorem depth_tuple {ds : List PyData} : (PyData.tuple ds).depth = PyData.depthAll ds + 1 := by simp [PyData.depth]
instance {α : Type} [Rp α] [Dat α] : Dat (LF α) := ⟨fun l => .list (l.l.map Dat.dat), fun l => ∀ x ∈ l.l, Dat.ok x, Dat.dep α + 1, fun e ⟨p, vs, h1, h2, h3⟩ => by
    rw [h1]; exact .lst (SqL.of (e _ _ h2)) (dp_all e h3), fun h => by show PyData.canLayAll0 _ = true; exact lay_all h, fun {a} => by rw [depth_list]; exact Nat.succ_le_succ dep_all, fun {a b} => by
    show PyData.eqvAll _ _ = true ↔ a = b
    rw [eqv_all]
    cases a; cases b; simp⟩
instance {α : Type} [Rp α] [Dat α] : Dat (TF α) := ⟨fun l => .tuple (l.l.map Dat.dat), fun l => ∀ x ∈ l.l, Dat.ok x, Dat.dep α + 1, fun e ⟨p, vs, h1, h2, h3⟩ => by
    rw [h1]; exact .tup (Same.tup e h2) (dp_all e h3), fun h => by show PyData.canLayAll0 _ = true; exact lay_all h, fun {a} => by rw [depth_tuple]; exact Nat.succ_le_succ dep_all, fun {a b} => by
    show PyData.eqvAll _ _ = true ↔ a = b
    rw [eqv_all]
    cases a; cases b; simp⟩
instance {α β : Type} [Rp α] [Rp β] [Dat α] [Dat β] : Dat (α × β) := ⟨fun l => .tuple [Dat.dat l.1, Dat.dat l.2], fun l => Dat.ok l.1 ∧ Dat.ok l.2, max (Dat.dep α) (Dat.dep β) + 1, fun e ⟨p, x, y, h1, h2, h3, h4⟩ => by
    rw [h1]; exact .tup (Same.tup e h2) (.cons (Dat.dp e h3) (.cons (Dat.dp e h4) .nil)), fun h => by
    show (PyData.canLay0 (Dat.dat _) && (PyData.canLay0 (Dat.dat _) && true)) = true
    rw [Dat.lay h.1, Dat.lay h.2]; rfl, fun {a} => by
    rw [depth_tuple]
    refine Nat.succ_le_succ ?_
    show max (PyData.depth (Dat.dat a.1)) (max (PyData.depth (Dat.dat a.2)) 0) ≤ _
    have h1 := Dat.depth (a := a.1)
    have h2 := Dat.depth (a := a.2)
    omega, fun {a b} => by
    show (PyData.eqv (Dat.dat a.1) (Dat.dat b.1) && (PyData.eqv (Dat.dat a.2) (Dat.dat b.2) && true)) = true ↔ a = b
    rw [Bool.and_true, Bool.and_eq_true, Dat.eqv, Dat.eqv]
    exact Prod.ext_iff.symm⟩
instance {α β γ : Type} [Rp α] [Rp β] [Rp γ] [Dat α] [Dat β] [Dat γ] : Dat (T3 α β γ) := ⟨fun l => .tuple [Dat.dat l.a, Dat.dat l.b, Dat.dat l.c], fun l => Dat.ok l.a ∧ Dat.ok l.b ∧ Dat.ok l.c, max (Dat.dep α) (max (Dat.dep β) (Dat.dep γ)) + 1, fun e ⟨p, x, y, z, h1, h2, h3, h4, h5⟩ => by
    rw [h1]; exact .tup (Same.tup e h2) (.cons (Dat.dp e h3) (.cons (Dat.dp e h4) (.cons (Dat.dp e h5) .nil))), fun h => by
    show (PyData.canLay0 (Dat.dat _) && (PyData.canLay0 (Dat.dat _) && (PyData.canLay0 (Dat.dat _) && true))) = true
    rw [Dat.lay h.1, Dat.lay h.2.1, Dat.lay h.2.2]; rfl, fun {a} => by
    rw [depth_tuple]
    refine Nat.succ_le_succ ?_
    show max (PyData.depth (Dat.dat a.a)) (max (PyData.depth (Dat.dat a.b)) (max (PyData.depth (Dat.dat a.c)) 0)) ≤ _
    have h1 := Dat.depth (a := a.a)
    have h2 := Dat.depth (a := a.b)
    have h3 := Dat.depth (a := a.c)
    omega, fun {a b} => by
    show (PyData.eqv (Dat.dat a.a) (Dat.dat b.a) && (PyData.eqv (Dat.dat a.b) (Dat.dat b.b) && (PyData.eqv (Dat.dat a.c) (Dat.dat b.c) && true))) = true ↔ a = b
    rw [Bool.and_true, Bool.and_eq_true, Bool.and_eq_true, Dat.eqv, Dat.eqv, Dat.eqv]
    cases a; cases b; simp⟩
/-- == -/
def eqD {α : Type} [Rp α] [Dat α] (x y : α) : Bool := PyData.eqv (Dat.dat x) (Dat.dat y)
theorem eqD_iff {α : Type} [Rp α] [Dat α] {x y : α} : eqD x y = true ↔ x = y := Dat.eqv
/-- A is data d -/
def IsD (T : TC) (Ω : List OA) (A : VA) (d : PyData) : Prop := ∀ F H v, Holds F Ω H → A.P F v → Dp T.K H v d
section
variable {T : TC} {Γ : List (Option VA)} {Ω Ω1 Ω2 Ω3 : List OA} {A B C : VA} {ta tb te : TE} {D : Ends} {F0 : Hp} {ts : TS} {b : Bool} {α : Type} [Rp α] [Dat α] {x y : α} {l m : List α} {p : Addr} {k : Nat}
theorem isD_va : IsD T Ω (va T x) (Dat.dat x) := fun F H v hh a => Dat.dp hh.same a
theorem shp {x : α} (h : Dat.ok x) (hd : Dat.dep α ≤ 64) : SeqAt.shaped (Dat.dat x) = true := by
  unfold SeqAt.shaped
  rw [Dat.lay h, Bool.true_and]
  exact decide_eq_true (Nat.le_trans Dat.depth hd)
theorem ro_eqD {d e : PyData} (h1 : IsD T Ω A d) (h2 : IsD T Ω B e) (s1 : SeqAt.shaped d = true) (s2 : SeqAt.shaped e = true) : RO (rEqX T.K) Ω A B (va T (PyData.eqv d e)) := fun F H x y hh a1 a2 Q q =>
  .inr ⟨d, e, h1 F H x hh a1, h2 F H y hh a2, s1, s2, q F _ H (Same.refl F) hh rfl⟩
theorem ro_neD {d e : PyData} (h1 : IsD T Ω A d) (h2 : IsD T Ω B e) (s1 : SeqAt.shaped d = true) (s2 : SeqAt.shaped e = true) : RO (rNeX T.K) Ω A B (va T (!PyData.eqv d e)) := fun F H x y hh a1 a2 Q q =>
  .inr ⟨d, e, h1 F H x hh a1, h2 F H y hh a2, s1, s2, q F _ H (Same.refl F) hh rfl⟩
theorem xe_neK (h : x = y ∧ Dat.ok x) (hd : Dat.dep α ≤ 64) (ha : XE ta Γ Ω A Ω1) (hb : XE tb Γ Ω1 B Ω2) (i1 : IsD T Ω2 A (Dat.dat x)) (i2 : IsD T Ω2 B (Dat.dat y)) : XE (tOp (rNeX T.K) ta tb) Γ Ω (va T false) Ω2 := by
  obtain ⟨h, o⟩ := h
  subst h
  have := xe_op ha hb (ro_neD i1 i2 (shp o hd) (shp o hd))
  rw [Dat.eqv.mpr rfl] at this
  exact this
theorem xe_appE {k : Nat} {p : Addr} {a : α} {l l2 : List α} {Ω2 : List OA} (h0 : Ω[k]? = some (lstA T p l2)) (hk : Ω1[k]? = some (lstA T p l)) (ha : XE ta Γ Ω (vr p) Ω) (hb : XE tb Γ Ω (va T a) Ω1) (hz : l.length < sizeLine) (he : Ω1.set k (lstA T p (l ++ [a])) = Ω2) :
    XE (tBM T.K "list" rAppend ta (tCons tb tNil)) Γ Ω (va T ()) Ω2 := he ▸ xe_app h0 hk ha hb hz
/-- == of data -/
theorem xe_eqD (h : Dat.ok x ∧ Dat.ok y) (hd : Dat.dep α ≤ 64) (ha : XE ta Γ Ω A Ω1) (hb : XE tb Γ Ω1 B Ω2) (i1 : IsD T Ω2 A (Dat.dat x)) (i2 : IsD T Ω2 B (Dat.dat y)) : XE (tOp (rEqX T.K) ta tb) Γ Ω (va T (eqD x y)) Ω2 := xe_op ha hb (ro_eqD i1 i2 (shp h.1 hd) (shp h.2 hd))
/-- things made in a turn are left -/
theorem Holds.cutL {F H : Hp} {Ω : List OA} {ks : List (Nat × OA)} {L M : List OA} (h : Holds F (stt Ω ks (L ++ M)) H) : Holds F (stt Ω ks L) H := by
  have e : stt Ω ks (L ++ M) = stt Ω ks L ++ M := (List.append_assoc _ _ _).symm
  rw [e] at h
  obtain ⟨ts, h1, h2, h3, h4, h5⟩ := h
  have len : (stt Ω ks L ++ M).length = (stt Ω ks L).length + M.length := List.length_append
  exact ⟨ts, fun i o q => h1 i o (by rw [List.getElem?_append_left (getlt q)]; exact q), h2, fun i q => h3 i (by omega), fun i b x q => h4 i b x (by omega), fun i j b x qi qj => h5 i j b x (by omega) (by omega)⟩
theorem NX.cutL {ks : List (Nat × OA)} {σ : L2.St} {H : Hp} {L' : List OA} (L M : List OA) (h : NX F0 Γ (stt Ω ks L') σ H) (e : L' = L ++ M := by rfl) : NX F0 Γ (stt Ω ks L) σ H := by
  subst e
  let ⟨F, f0, en, hh⟩ := h
  exact ⟨F, f0, en, hh.cutL⟩
end
/-! ### keyword arguments -/
/-- the parameters' values out of those that are written, by place -/
def prm {α : Type} (ix : List Nat) (l : List α) : List α := ix.filterMap fun i => l[i]?
theorem prm_rel {R : V → Value → Prop} : ∀ (ix : List Nat) {vs : List V} {us : List Value}, Paired R vs us → Paired R (prm ix vs) (prm ix us)
  | [], _, _, _ => .nil
  | i :: r, vs, us, h => by
    have hl := PySem.Paired.length h
    have ih := prm_rel r h
    have key : ∀ (vs : List V) (us : List Value), Paired R vs us → ∀ i : Nat, (vs[i]? = none ∧ us[i]? = none) ∨ ∃ v u, vs[i]? = some v ∧ us[i]? = some u ∧ R v u := by
      intro vs us h
      induction h with
      | nil => intro i; exact .inl ⟨by simp, by simp⟩
      | cons a t ih =>
        intro i
        cases i with
        | zero => exact .inr ⟨_, _, rfl, rfl, a⟩
        | succ i => simpa using ih i
    unfold prm
    rw [List.filterMap_cons, List.filterMap_cons]
    rcases key vs us h i with ⟨h1, h2⟩ | ⟨v, u, h1, h2, rr⟩
    · rw [h1, h2]; exact ih
    · rw [h1, h2]; exact .cons rr ih
theorem prm_relA {F : Hp} : ∀ (ix : List Nat) {vs : List V} {As : List VA}, AlA F vs As → AlA F (prm ix vs) (prm ix As)
  | [], _, _, _ => .nil
  | i :: r, vs, As, h => by
    have ih := prm_relA r h
    have key : ∀ (vs : List V) (As : List VA), AlA F vs As → ∀ i : Nat, (vs[i]? = none ∧ As[i]? = none) ∨ ∃ v A, vs[i]? = some v ∧ As[i]? = some A ∧ A.P F v := by
      intro vs As h
      induction h with
      | nil => intro i; exact .inl ⟨by simp, by simp⟩
      | cons a t ih =>
        intro i
        cases i with
        | zero => exact .inr ⟨_, _, rfl, rfl, a⟩
        | succ i => simpa using ih i
    unfold prm
    rw [List.filterMap_cons, List.filterMap_cons]
    rcases key vs As h i with ⟨h1, h2⟩ | ⟨v, u, h1, h2, rr⟩
    · rw [h1, h2]; exact ih
    · rw [h1, h2]; exact .cons rr ih
structure CalK (P : Program) (w : World) (K : PySem.W.Frag) (mg : Str → Option Value) (base : Heap) (k : Nat) (x : Str) (ps : List Str) (n : Nat) (ks : List Str) (ix : List Nat) (sp : Sp) : Prop where
  ex : ∃ f fd, FnOk P w K mg base CX0 k f fd ps sp ∧ mg x = some (.ref f) ∧ PySem.W.keepIn K (.ref f) = true ∧ KBn K fd ps n ks (fun us ws => prm ix (us ++ ws)) (fun vs zs => prm ix (vs ++ zs))
theorem kbn_of {K : PySem.W.Frag} {x qual : Str} {st : Stmt} {f : Addr} {fd : FuncData} {ps ks : List Str} {n : Nat} {ix : List Nat} (F : Fun K x qual st f fd)
    (h : ∀ (kV doc pm : Value) (an : Option Addr) (cdv ct : Value) (us ws : List Value), us.length = n → ws.length = ks.length → bindArgs (PySem.W.fnOf x qual (defArgs st) (defBody st) (defScope st) .none kV doc pm an cdv ct) ⟨us, ks.zip ws⟩ = pure (ps.zip (prm ix (us ++ ws)))) :
    KBn K fd ps n ks (fun us ws => prm ix (us ++ ws)) (fun vs zs => prm ix (vs ++ zs)) := by
  obtain ⟨oc, od, kV, doc, pm, an, cdv, ct, osl, rfl, lk, hcd⟩ := F.ex
  exact ⟨fun s us ws _ h1 h2 => .of_eq (h kV doc pm an cdv ct us ws h1 h2), fun r1 r2 => prm_rel ix (Vals.append r1 r2)⟩
section
variable {X : Cx} {k n : Nat} {x : Str} {ps ks : List Str} {ix : List Nat} {sp : Sp} {p pos : Pos} {e : Expr} {es : List Expr} {kws : List Keyword} {t tk : TA}
/-- keywords alone -/
theorem pe_calK0 (c : CalK X.prog X.w X.K X.mg X.base k x ps 0 ks ix sp) (hr : Room k X.A) (hg : Gl X x)
    (hkw : PK X kws tk) (hall : (backToKw pos (keywordEach kws X.env)).all (·.1.isSome) = true := by rfl) (hks : (backToKw pos (keywordEach kws X.env)).filterMap (·.1) = ks := by rfl)
    (hdb : (x == ("__debug__" : Str)) = false := by decide)
    (hpl : ((backTo pos (starEach [] X.env)).any (·.1) || (backToKw pos (keywordEach kws X.env)).any (·.1.isNone)) = false := by rfl) :
    PE X (.Call (.Name x p) [] kws pos) (tCallN 0 ks.length sp (fun vs zs => prm ix (vs ++ zs)) E0 tNil tk) := by
  obtain ⟨f, fd, F, hm, hk, hb⟩ := c.ex
  refine ⟨fun pins s σ H Q I h => ?_⟩
  refine PySem.wpAny_Call_Name_kw (ld_glob I hg hm ?_ hdb)
  refine PySem.W.callWith_KW0 (h₀ := X.base) I.ok.mod.kin hk hall ?_ hpl
  refine L2.thn (hkw.run pos pins s σ H _ I h) fun ws s2 ⟨zs, H2, I2, rz, l1, l2, q2⟩ => ⟨I2.kIn, ?_⟩
  rw [hks]
  exact run_fnN (us := []) (vs := []) F hr hb pass0 I2 .nil rz l1 l2 q2
end
section
variable {T : TC} {Γ : List (Option VA)} {Ω Ω1 Ω2 Ω3 : List OA} {A : VA} {As Ks : List VA}
theorem xe_callN {Pre : PreT} {E : XK} {t tk : TA} {ix : List Nat} {n m : Nat} {Ω' : List OA} (ha : XA t Γ Ω As Ω1) (hk : XA tk Γ Ω1 Ks Ω2) (hp : Pre (prm ix (As ++ Ks)) Ω2 (RV A Ω')) (he : Ω' = Ω3) (h1 : As.length = n := by rfl) (h2 : Ks.length = m := by rfl) :
    XE (tCallN n m (mkSp Pre) (fun vs zs => prm ix (vs ++ zs)) E t tk) Γ Ω A Ω3 := fun F σ H e hh Q q => by
  subst he
  refine ha F σ H e hh _ fun F1 xs H1 e1 hh1 a1 => ?_
  refine hk F1 σ H1 (e.mono e1) hh1 _ fun F2 zs H2 e2 hh2 a2 => ?_
  refine ⟨a1.len.trans h1, a2.len.trans h2, F2, Ω2, _, _, hp, prm_relA ix ((a1.mono e2).app a2), hh2, fun F' v H' Ω4 e' hh' r => q F' v H' Ω4 ((e1.trans e2).trans e') hh' r⟩
end
end VL

set_option Elab.async false
set_option linter.all false
set_option maxRecDepth 100000
/-! frozen dicts from texts to ints; zip; pairs by place -/
namespace VL
open PySem L2 PyProof.Rows
structure DF where
  l : List (Str × Int)
def dkv (l : List (Str × Int)) : List (Key × V) := l.map fun q => (Sum.inr q.1, V.int q.2)
instance : Rp DF := ⟨fun T F v d => ∃ p od, v = .ref p ∧ F p = some (.frz od (.dK (dkv d.l))), fun e ⟨p, od, h1, h2⟩ => ⟨p, od, h1, e _ _ h2⟩⟩
/-- what an expression makes is locked for good -/
def tFz (te : TE) : TE := fun σ H Q => te σ H fun v H1 => ∃ p kvs, v = .ref p ∧ H1 p = some (.dK kvs) ∧ ∀ od, Q v (upd H1 p (.frz od (.dK kvs)))
/-! ### a dict on its way -/
def rawD (p : Addr) (kvs : List (Key × V)) : OA := ⟨fun _ t => t p = some (.dK kvs), fun _ h => h⟩
theorem Holds.newD {F H : Hp} {Ω : List OA} {p : Addr} {kvs : List (Key × V)} (h : Holds F Ω H) (n : H p = none) : Holds F (Ω ++ [rawD p kvs]) (upd H p (.dK kvs)) := by
  refine h.newO (t := upd (fun _ => none) p (.dK kvs)) (fun b x e => ?_) (same_upd n) (fun b x e => ?_) upd_same
  · by_cases hb : b = p
    · rw [hb]; exact n
    · rw [upd_ne hb] at e; cases e
  · by_cases hb : b = p
    · subst hb; rw [upd_same] at e ⊢; exact e
    · rw [upd_ne hb] at e; cases e
section
variable {T : TC} {Γ : List (Option VA)} {Ω Ω1 Ω2 Ω3 : List OA} {A B C : VA} {ta tb te : TE} {D : Ends} {F0 : Hp} {ts : TS}
theorem val_dkv {k : Str} {v : Int} : ∀ {l : List (Str × Int)}, l.lookup k = some v → valV (dkv l) (Sum.inr k) = some (V.int v)
  | [], h => by cases h
  | x :: r, h => by
    by_cases e : x.1 = k
    · have hb : (k == x.1) = true := by rw [e]; exact beq_self_eq_true k
      have h2 : (match k == x.1 with | true => some x.2 | false => r.lookup k) = some v := h
      rw [hb] at h2
      have h3 : x.2 = v := Option.some.inj h2
      show valV ((Sum.inr x.1, V.int x.2) :: dkv r) (Sum.inr k) = _
      rw [valV_pos (p := ((Sum.inr x.1 : Key), V.int x.2)) (by show (Sum.inr x.1 : Key) = Sum.inr k; rw [e])]
      show some (V.int x.2) = _
      rw [h3]
    · have hb : (k == x.1) = false := by
        cases q : k == x.1 with
        | false => rfl
        | true => exact absurd (beq_iff_eq.mp q).symm e
      have h2 : (match k == x.1 with | true => some x.2 | false => r.lookup k) = some v := h
      rw [hb] at h2
      have ih := val_dkv (l := r) h2
      show valV ((Sum.inr x.1, V.int x.2) :: dkv r) (Sum.inr k) = _
      unfold valV at ih ⊢
      rw [List.find?_cons_of_neg (by simp [e])]
      exact ih
/-! ### a display -/
def XPs (trs : List (TE × TE)) (Γ : List (Option VA)) (Ω : List OA) (kvs : List (Str × Int)) : Prop :=
  ∀ F σ H, Env F σ Γ → Holds F Ω H → ∀ Q : List (V × V) → Hp → Prop, (∀ F' H', Same F F' → Holds F' Ω H' → Q (kvs.map fun q => (V.str q.1, V.int q.2)) H') → tPairs trs σ H Q
/-! ### dict(pairs) -/
def rDictP (K : PySem.W.Frag) : List V → Hp → VK → Prop := fun xs H Q => ∃ (a : Addr) (ps : List Addr) (kvs : List (Key × V)), xs = [.ref a] ∧ SqL K H a (ps.map V.ref) ∧ Paired (fun p kv => SqT K H p [kV kv.1, kv.2]) ps kvs ∧
    ∀ p, H p = none → Q (.ref p) (upd H p (.dK (mergeK [] kvs)))
/-! ### == where it is known to hold -/
def rEqF : R2 := fun x y H Q => ∃ a b oa ob ks ls, x = .ref a ∧ y = .ref b ∧ H a = some (.frz oa (.dK ks)) ∧ H b = some (.frz ob (.dK ls)) ∧ ks.length = ls.length ∧ (∀ p ∈ ks, valV ls p.1 = some p.2 ∧ flatB p.2 = true) ∧ Q (.bl true) H
/-- the same keys, the same numbers -/
def sameD (l m : List (Str × Int)) : Prop := l.length = m.length ∧ ∀ x ∈ l, m.lookup x.1 = some x.2
/-! ### a pair's part -/
theorem xe_fst {α β : Type} [Rp α] [Rp β] {z : α × β} (ha : XE te Γ Ω (va T z) Ω1) : XE (tOp (rIx T.K) te (tC (.int 0))) Γ Ω (va T z.1) Ω1 := xe_op ha (xe_int (T := T) (n := 0)) fun F H x y hh a1 a2 Q q => by
  obtain ⟨p, u, v, rfl, hs, r1, r2⟩ := a1
  exact .inr (.inl ⟨p, _, 0, u, rfl, a2, Same.tup hh.same hs, rfl, q F u H (Same.refl F) hh r1⟩)
theorem xs_parNV {i j : Nat} {ks ks2 : List (Nat × OA)} {L : List OA} {M : Addr → List OA} {o : Addr → OA} {Ω0 : List OA} (h1 : XG ta Γ Ω0 (RN (stt Ω ks L) o)) (h2 : ∀ p, XE tb Γ (stt Ω ks (L ++ [o p])) A (stt Ω ks2 (M p)))
    (q : ∀ p, XS ts D F0 ((Γ.set i (some (vr p))).set j (some A)) (stt Ω ks2 (M p))) : XS (tSeq (tPar i j (tCons ta (tCons tb tNil))) ts) D F0 Γ Ω0 := fun σ H ⟨F, f0, e, hh⟩ => by
  refine h1 F σ H e hh _ fun F1 x H1 Ω' e1 hh1 ⟨p, a1, o1⟩ => ?_
  subst a1 o1
  rw [stt_app] at hh1
  refine h2 p F1 σ H1 (e.mono e1) hh1 _ fun F2 y H2 Ω' e2 hh2 ⟨a2, o2⟩ => ?_
  subst o2
  exact ⟨_, _, rfl, q p _ H2 ⟨F2, f0.trans (e1.trans e2), (((e.mono e1).mono e2).set (A := vr p) rfl).set a2, hh2⟩⟩
def rSumT (K : PySem.W.Frag) : List V → Hp → VK → Prop := fun vs H Q => ∃ (a : Addr) (ns : List Int), vs = [V.ref a] ∧ SqT K H a (ns.map V.int) ∧ Q (.int ns.sum) H
end
end VL

set_option Elab.async false
set_option linter.all false
set_option maxRecDepth 100000
/-! enumerate over a tuple; a truth whose second part may have no value; slices of tuples -/
namespace VL
open PySem L2 PyProof.Rows
/-- the tuple at a, its items in new pairs with their places -/
def IteT (K : PySem.W.Frag) (a : Addr) : It :=
  ⟨fun i H => ∃ xs x, SqT K H a xs ∧ xs[i]? = some x, fun i H v H' => ∃ p x, v = .ref p ∧ H p = none ∧ H' = upd H p (.tup [.int (i : Nat), x]) ∧ ∀ xs, SqT K H a xs → xs[i]? = some x, fun i H => ∃ xs, SqT K H a xs ∧ xs.length = i⟩
def iEnumT (K : PySem.W.Frag) (ta : TA) : TI := fun σ H R => ta σ H fun vs H1 => ∃ a xs, vs = [.ref a] ∧ SqT K H1 a xs ∧ R (IteT K a) H1
section
variable {T : TC} {Γ : List (Option VA)} {Ω Ω1 Ω2 Ω3 : List OA} {A B C : VA} {ta tb te : TE} {b : Bool} {α : Type} [Rp α] {l : List α}
/-- the items with their places -/
def nums (l : List α) : List (Int × α) := (rng 0 l.length).zip l
/-! ### a pair of a new list and a value -/
def RNP (T : TC) (Ω2 : List OA) (o : Addr → OA) (B : VA) : Hp → V → List OA → Prop := fun F v Ω' => ∃ p t w, v = .ref t ∧ SqT T.K F t [.ref p, w] ∧ B.P F w ∧ Ω' = Ω2 ++ [o p]
def RNQ (T : TC) (Ω2 : List OA) (p : Addr) (B : VA) : Hp → V → List OA → Prop := fun F v Ω' => ∃ t w, v = .ref t ∧ SqT T.K F t [.ref p, w] ∧ B.P F w ∧ Ω' = Ω2
end
end VL

set_option Elab.async false
set_option linter.all false
set_option maxRecDepth 100000
/-! == and != by the text's own __eq__ -/
namespace VL
open PySem L2 PyProof.Rows
/-- the class at C: a plain one, with its own __eq__ at f, without __ne__ -/
theorem ns_some {K : PySem.W.Frag} {h : Heap} {N : Addr} {mp : Str → Option Value} {k : Str} {v : Value} (X : K.In h) (ns : h.Ns N mp) (found : PySem.W.nsIn K N k = some (some v)) : mp k = some v := by
  obtain ⟨ob, ents, cnt, at1, data1, _, find1⟩ := ns
  unfold PySem.W.nsIn at found
  split at found
  · rename_i c d ents2 n' sl q
    have same := X _ _ q
    rw [at1] at same
    cases same
    cases data1
    split at found
    · rename_i entry hit
      cases found
      rw [← find1]
      unfold nsFind findBy
      rw [← Array.find?_toList, hit] <;> rfl
    · split at found <;> cases found
  · cases found
theorem lookup_eq : typeLookup (.type "object") "__eq__" = pure (some (.builtin "object.__eq__")) := by rw [typeLookup_type, builtinLookup_eq_fast]; kernel_rfl
theorem own_ne {K : PySem.W.Frag} {h : Heap} {C f x dx : Addr} {mA : Str → Option Value} (X : K.In h) (q : ownB K C f = true) (hx : ObjM h x dx C mA) : h.OwnEqNoNe x C f "object" [.type "object"] := by
  unfold ownB at q
  split at q
  · rename_i t dd cd sl lk
    split at q
    · rename_i C' b k0 k1 k2 k3 n k5 em es
      obtain ⟨q1, q⟩ := He.ba q
      obtain ⟨q2, q⟩ := He.ba q
      obtain ⟨q3, q⟩ := He.ba q
      obtain ⟨q4, q⟩ := He.ba q
      obtain ⟨q5, q⟩ := He.ba q
      obtain ⟨q6, q⟩ := He.ba q
      obtain ⟨q7, q8⟩ := He.ba q
      have q1 := of_decide_eq_true q1
      have q2 := of_decide_eq_true q2
      have q3 := of_decide_eq_true q3
      subst q1 q2 q3
      obtain ⟨nm, bases, mro, ns, qn, hd, sn, sub, ab, col, del⟩ := cd
      simp only [Bool.not_eq_true'] at em q4 q5 q6 q7
      subst em q4
      obtain ⟨sl⟩ := sl
      simp only at es
      subst es
      split at q8
      · rename_i u fd2 fdt fsl lf
        have q8 := of_decide_eq_true q8
        subst q8
        exact ⟨_, _, nm, qn, ns, bases, hd, sn, sub, ab, col, dd, k0, k1, k2, k3, k5, n, _, _, hx.obj, rfl, X _ _ lk, .of_isNs (PySem.W.isNs_of_in X q5), (ns_some X (.of_isNs (PySem.W.isNs_of_in X q5)) (He.eqO_ok q7)), X _ _ lf, rfl, PySem.F.mro_object, lookup_eq, PySem.W.nsMap_none_of_in X q5 (He.eqO_ok q6)⟩
      · cases q8
    · cases q
  · cases q
/-- x == y, x != y of two instances of the class at C: what its own __eq__ promises -/
def rOwnEq (C : Addr) (sp : Sp) : R2 := fun x y H Q => ∃ a b dx dy fs gs, x = .ref a ∧ y = .ref b ∧ H a = some (.ins C dx fs) ∧ H b = some (.ins C dy gs) ∧ sp [x, y] H (fun v H' => ∃ r, v = .bl r ∧ Q (.bl r) H') E0
def rOwnNe (C : Addr) (sp : Sp) : R2 := fun x y H Q => ∃ a b dx dy fs gs, x = .ref a ∧ y = .ref b ∧ H a = some (.ins C dx fs) ∧ H b = some (.ins C dy gs) ∧ sp [x, y] H (fun v H' => ∃ r, v = .bl r ∧ Q (.bl (!r)) H') E0
section
variable {X : Cx} {n : Nat} {C f : Addr} {fd : FuncData} {ps : List Str} {sp : Sp}
/-- the call of __eq__ at a place with room -/
theorem call_own {A : Around} (F : FnOk X.prog X.w X.K X.mg X.base CX0 n f fd ps sp) (hb : Binds X.K fd ps []) (room : Room n A) (fr : A.frames = X.A.frames) {pins : List (Addr × Obj)} {σ : L2.St} {H : Hp} {s : Shared} {x y : V} {u v : Value} {Q : VK} (I : Inv X pins σ H s) (r1 : RelV x u) (r2 : RelV y v) (q : sp [x, y] H Q E0) :
    wpAny (model X.prog X.w) A (call (.ref f) [u, v]) (EP X pins σ Q) X.xe s := by
  have e0 : Env0 X.prog X.w X.K X.mg X.base A X.stack s H := by
    have b := I.env0
    exact ⟨by rw [fr]; exact b.frames, b.mod, b.bs, b.bsz, b.funs, b.frf, b.hok, b.bare⟩
  have len := F.len _ _ _ _ q
  have two : Vals [x, y] [u, v] := .cons r1 (.cons r2 .nil)
  refine wpAny_call (codeAny_mono (F.run A X.stack s H ⟨[u, v], []⟩ [u, v] [x, y] Q E0 room e0 (by
    have z := hb s [u, v] I.kIn (by simpa using len)
    simpa using z) two q) fun res s' out => ?_)
  cases res with
  | error e => exact False.elim out
  | ok fl =>
    cases fl with
    | ret w => exact I.after out
    | next => exact False.elim out
    | brk => exact False.elim out
    | cont => exact False.elim out
theorem op_ownNe (F : FnOk X.prog X.w X.K X.mg X.base CX0 n f fd ps sp) (own : ownB X.K C f = true) (hb : Binds X.K fd ps []) (room : Room (n + 1) X.A) : OpR X (compareOp .NotEq) (rOwnNe C sp) := by
  intro pins s σ H x y v u Q I r1 r2 h
  obtain ⟨a, b, dx, dy, fs, gs, rfl, rfl, ha, hb', q⟩ := h
  obtain rfl : v = Value.ref a := r1
  obtain rfl : u = Value.ref b := r2
  obtain ⟨mA, J, _⟩ := ins_get I.hok ha
  obtain ⟨mB, J', _⟩ := ins_get I.hok hb'
  have ne := own_ne I.kIn own J
  have hy := J'.obj
  have r3 := call_own F hb room.in1 rfl I (show RelV (V.ref a) (Value.ref a) from rfl) (show RelV (V.ref b) (Value.ref b) from rfl) q
  obtain ⟨hp, g, d, t, os⟩ := s
  refine compareOp_ne_ownEq PySem.F.cmp_object ne hy rfl ?_ (wpAny_mono r3 (fun w s' z => ?_) fun _ _ z => z)
  · have := room.un
    omega
  · obtain ⟨z, H', I', rz, r, ez, q'⟩ := z
    subst ez
    obtain rfl : w = Value.bool r := rz
    exact ⟨r, rfl, .bl (!r), H', I', rfl, q'⟩
end
section
variable {T : TC} {Γ : List (Option VA)} {Ω Ω1 Ω2 Ω3 : List OA} {A B C : VA} {ta tb te : TE} {x y : Bg} {r : Bool}
theorem xe_ownNe {Pre : PreT} {Ω' : List OA} (ha : XE ta Γ Ω (va T x) Ω1) (hb : XE tb Γ Ω1 (va T y) Ω2) (hp : Pre [va T x, va T y] Ω2 (RV (va T r) Ω')) (he : Ω' = Ω2) : XE (tOp (rOwnNe (T.C 1) (mkSp Pre)) ta tb) Γ Ω (va T (!r)) Ω2 := xe_op ha hb fun F H u v hh a1 a2 Q q => by
  subst he
  obtain ⟨p, dx, r1, vs, rfl, h1, h2, h3⟩ := id a1
  obtain ⟨p2, dx2, r2, vs2, rfl, g1, g2, g3⟩ := id a2
  refine ⟨p, p2, dx, dx2, _, _, rfl, rfl, hh.same _ _ h1, hh.same _ _ g1, F, _, _, _, hp, .cons a1 (.cons a2 .nil), hh, fun F' w H' Ω'' s' hh' ⟨aw, eo⟩ => ?_⟩
  subst eo
  exact ⟨r, aw, q F' _ H' s' hh' rfl⟩
/-- a method of a number -/
theorem xe_mcallB {m : Str} {Pre : PreT} {E : XK} {t : TA} {As : List VA} {Ω' : List OA} (ha : XE ta Γ Ω (va T x) Ω1) (hx : XA t Γ Ω1 As Ω2) (hp : Pre (va T x :: As) Ω2 (RV A Ω')) (he : Ω' = Ω3)
    (hm : (m == "width" || m == "side" || m == "row" || m == "value") = false := by decide +kernel) : XE (tMeth (T.C 1) m (mkSp Pre) [] E ta t) Γ Ω A Ω3 := fun F σ H e hh Q q => by
  subst he
  refine ha F σ H e hh _ fun F1 v H1 Ωa e1 hh1 ⟨a1, o1⟩ => ?_
  subst o1
  obtain ⟨p, dx, r1, vs, rfl, h1, h2, h3⟩ := id a1
  simp only [Bool.or_eq_false_iff] at hm
  refine ⟨p, dx, _, rfl, hh1.same _ _ h1, by rw [look_ne hm.1.1.1, look_ne hm.1.1.2, look_ne hm.1.2, look_ne hm.2]; rfl, ?_⟩
  refine hx F1 σ H1 (e.mono e1) hh1 _ fun F2 ws H2 e2 hh2 a2 => ?_
  refine ⟨F2, Ω2, va T x :: As, _, hp, ?_, hh2, fun F' w H' Ω3 e' hh' r => q F' w H' Ω3 ((e1.trans e2).trans e') hh' r⟩
  rw [List.append_nil]
  exact .cons ((va T x).mono e2 a1) a2
end
structure CalEq (P : Program) (w : World) (K : PySem.W.Frag) (mg : Str → Option Value) (base : Heap) (n : Nat) (C : Addr) (sp : Sp) : Prop where
  ex : ∃ f fd, FnOk P w K mg base CX0 n f fd ["self", "other"] sp ∧ ownB K C f = true ∧ Meth K C "__eq__" f ∧ Binds K fd ["self", "other"] []
section
variable {X : Cx} {n : Nat} {C : Addr} {sp : Sp}
theorem op_neC (c : CalEq X.prog X.w X.K X.mg X.base n C sp) (room : Room (n + 1) X.A) : OpR X (compareOp .NotEq) (rOwnNe C sp) := by
  obtain ⟨f, fd, F, own, _, hb⟩ := c.ex
  exact op_ownNe F own hb room
end
end VL

set_option Elab.async false
set_option linter.all false
set_option maxRecDepth 100000
/-! bits joined; tuples of four -/
namespace VL
open PySem L2
structure T4 (α β γ δ : Type) where
  a : α
  b : β
  c : γ
  d : δ
instance {α β γ δ : Type} [Rp α] [Rp β] [Rp γ] [Rp δ] : Rp (T4 α β γ δ) := ⟨fun T F v l => ∃ p x y z u, v = .ref p ∧ SqT T.K F p [x, y, z, u] ∧ Rp.rep T F x l.a ∧ Rp.rep T F y l.b ∧ Rp.rep T F z l.c ∧ Rp.rep T F u l.d,
  fun e ⟨p, x, y, z, u, h1, h2, h3, h4, h5, h6⟩ => ⟨p, x, y, z, u, h1, Same.tup e h2, Rp.mono e h3, Rp.mono e h4, Rp.mono e h5, Rp.mono e h6⟩⟩
section
variable {T : TC} {Γ : List (Option VA)} {Ω Ω1 Ω2 Ω3 : List OA} {A B C : VA} {As : List VA} {ta tb te : TE} {t u : TT} {i j n m : Int} {b c : Bool}
theorem xe_bor (ha : XE ta Γ Ω (va T i) Ω1) (hb : XE tb Γ Ω1 (va T j) Ω2) : XE (tOp (rI0 fun i j => .int (Builtin.bitOr i j)) ta tb) Γ Ω (va T (Builtin.bitOr i j)) Ω2 := xe_op ha hb ro_int
theorem xe_bxor (ha : XE ta Γ Ω (va T i) Ω1) (hb : XE tb Γ Ω1 (va T j) Ω2) : XE (tOp (rI0 fun i j => .int (Builtin.bitXor i j)) ta tb) Γ Ω (va T (Builtin.bitXor i j)) Ω2 := xe_op ha hb ro_int
theorem xe_tup4 {α β γ δ : Type} [Rp α] [Rp β] [Rp γ] [Rp δ] {a : α} {x : β} {y : γ} {z : δ} {ta : TA} (h : XA ta Γ Ω [va T a, va T x, va T y, va T z] Ω1) : XE (tTup ta) Γ Ω (va T (T4.mk a x y z)) Ω1 := fun F σ H e hh Q q => by
  refine h F σ H e hh _ fun F1 xs H1 e1 hh1 a1 => ?_
  cases a1 with
  | cons h1 a1 =>
    cases a1 with
    | cons h2 a1 =>
      obtain ⟨v, w, rfl, h3, h4⟩ := alA2 a1
      refine ⟨by show 4 ≤ sizeLine; decide, fun p hp => ?_⟩
      obtain ⟨hh2, e2⟩ := hh1.newF (u := .tup [_, _, v, w]) hp
      exact q _ _ _ _ (e1.trans e2) hh2 ⟨⟨p, _, _, v, w, rfl, SqT.of upd_same, Rp.mono e2 h1, Rp.mono e2 h2, Rp.mono e2 h3, Rp.mono e2 h4⟩, rfl⟩
theorem tgt_quad {α β γ δ : Type} [Rp α] [Rp β] [Rp γ] [Rp δ] {x : T4 α β γ δ} {k l m n : Nat} : Tgt (gTup T.K 4 (gCons (gName k) (gCons (gName l) (gCons (gName m) (gCons (gName n) gNil))))) (va T x) (fun Γ => (((Γ.set k (some (va T x.a))).set l (some (va T x.b))).set m (some (va T x.c))).set n (some (va T x.d))) [k, l, m, n] := fun F σ Γ v H Ω e hh a Q q => by
  obtain ⟨p, y, z, w, u, rfl, ht, ry, rz, rw, ru⟩ := a
  refine ⟨p, [y, z, w, u], rfl, Same.tup hh.same ht, rfl, y, [z, w, u], rfl, z, [w, u], rfl, w, [u], rfl, u, [], rfl, rfl, ?_⟩
  exact q F _ H (Same.refl F) ((((e.set (A := va T x.a) ry).set (A := va T x.b) rz).set (A := va T x.c) rw).set (A := va T x.d) ru) hh fun vs h => (wipe_set (h n (by simp))).trans ((wipe_set (h m (by simp))).trans ((wipe_set (h l (by simp))).trans (wipe_set (h k (by simp)))))
theorem cal0' {Ω : List OA} : stt Ω [] [] = Ω := List.append_nil _
end
end VL

set_option Elab.async false
set_option linter.all false
set_option maxRecDepth 100000
/-! texts compared; items of a dict; enumerate over a list; lists unpacked; extend -/
namespace VL
open PySem L2
section
variable {T : TC} {Γ : List (Option VA)} {Ω Ω1 Ω2 Ω3 : List OA} {A B C : VA} {As : List VA} {ta tb te ti : TE} {t u : TT} {i j n m : Int} {b c : Bool} {x y : Str}
theorem ro_eqS : RO rEq Ω (va T x) (va T y) (va T (decide (x = y))) := fun F H v w hh a1 a2 Q q => by
  have a1 : v = .str x := a1
  have a2 : w = .str y := a2
  subst a1 a2
  refine ⟨rfl, q F _ H (Same.refl F) hh ?_⟩
  show V.bl _ = V.bl _
  congr 1
  exact decide_eq_decide.mpr ⟨V.str.inj, fun h => by rw [h]⟩
theorem xe_eqS (ha : XE ta Γ Ω (va T x) Ω1) (hb : XE tb Γ Ω1 (va T y) Ω2) : XE (tOp (rEqX T.K) ta tb) Γ Ω (va T (decide (x = y))) Ω2 := xe_op ha hb (ro_or1 ro_eqS)
def un2 {α : Type} : List α → Option (α × α)
  | [a, b] => some (a, b)
  | _ => none
/-! xs.extend(ys) -/
theorem xe_ext {α : Type} [Rp α] {l l2 m : List α} {k : Nat} {p : Addr} {Ω2 : List OA} (h0 : Ω[k]? = some (lstA T p l2)) (hk : Ω1[k]? = some (lstA T p l)) (ha : XE ta Γ Ω (vr p) Ω) (hb : XE tb Γ Ω (va T (LF.mk m)) Ω1) (hz : l.length + m.length ≤ sizeLine) (he : Ω1.set k (lstA T p (l ++ m)) = Ω2) :
    XE (tBM T.K "list" rExtend ta (tCons tb tNil)) Γ Ω (va T ()) Ω2 := fun F σ H e hh Q q => by
  subst he
  refine ha F σ H e hh _ fun F1 x H1 Ω' e1 hh1 ⟨a1, o1⟩ => ?_
  subst o1
  obtain ⟨p0, vs0, e0, h00, _⟩ := isLs_M h0 F1 H1 x hh1 a1
  have a1 : x = .ref p := a1
  subst a1
  cases e0
  refine ⟨.inl ⟨rfl, _, SqL.of h00⟩, ?_⟩
  refine hb F1 σ H1 (e.mono e1) hh1 _ fun F2 y H2 Ω'' e2 hh2 ⟨a2, o2⟩ => ?_
  subst o2
  obtain ⟨t, ⟨vs, h1, al⟩, st, _, wr⟩ := hh2.get hk
  obtain ⟨b, ws, rfl, hb2, al2⟩ := a2
  refine ⟨p, b, vs, ws, rfl, rfl, st _ _ h1, hh2.same _ _ hb2, by rw [al_len al, al_len al2]; exact hz, ?_⟩
  exact q F2 _ _ _ (e1.trans e2) (wr (lstA T p (l ++ m)) p _ _ h1 ⟨_, upd_same, al_app al al2⟩) ⟨rfl, rfl⟩
end
instance {α β γ δ : Type} [Rp α] [Rp β] [Rp γ] [Rp δ] [Dat α] [Dat β] [Dat γ] [Dat δ] : Dat (T4 α β γ δ) := ⟨fun l => .tuple [Dat.dat l.a, Dat.dat l.b, Dat.dat l.c, Dat.dat l.d], fun l => Dat.ok l.a ∧ Dat.ok l.b ∧ Dat.ok l.c ∧ Dat.ok l.d, max (Dat.dep α) (max (Dat.dep β) (max (Dat.dep γ) (Dat.dep δ))) + 1, fun e ⟨p, x, y, z, u, h1, h2, h3, h4, h5, h6⟩ => by
    rw [h1]; exact .tup (Same.tup e h2) (.cons (Dat.dp e h3) (.cons (Dat.dp e h4) (.cons (Dat.dp e h5) (.cons (Dat.dp e h6) .nil)))), fun h => by
    show (PyData.canLay0 (Dat.dat _) && (PyData.canLay0 (Dat.dat _) && (PyData.canLay0 (Dat.dat _) && (PyData.canLay0 (Dat.dat _) && true)))) = true
    rw [Dat.lay h.1, Dat.lay h.2.1, Dat.lay h.2.2.1, Dat.lay h.2.2.2]; rfl, fun {a} => by
    rw [depth_tuple]
    refine Nat.succ_le_succ ?_
    show max (PyData.depth (Dat.dat a.a)) (max (PyData.depth (Dat.dat a.b)) (max (PyData.depth (Dat.dat a.c)) (max (PyData.depth (Dat.dat a.d)) 0))) ≤ _
    have h1 := Dat.depth (a := a.a)
    have h2 := Dat.depth (a := a.b)
    have h3 := Dat.depth (a := a.c)
    have h4 := Dat.depth (a := a.d)
    omega, fun {a b} => by
    show (PyData.eqv (Dat.dat a.a) (Dat.dat b.a) && (PyData.eqv (Dat.dat a.b) (Dat.dat b.b) && (PyData.eqv (Dat.dat a.c) (Dat.dat b.c) && (PyData.eqv (Dat.dat a.d) (Dat.dat b.d) && true)))) = true ↔ a = b
    rw [Bool.and_true, Bool.and_eq_true, Bool.and_eq_true, Bool.and_eq_true, Dat.eqv, Dat.eqv, Dat.eqv, Dat.eqv]
    cases a; cases b; simp⟩
section
variable {X : Cx} {K : PySem.W.Frag} {e : Expr} {ta : TA} {p pos tpos : Pos} {elts : List Expr} {kk : Nat}
theorem pg_lstK {es : List Expr} {k : Nat} {t : TGs} {n : Nat} (hK : X.K = K) (hc : X.calm = true) (h : PGs X es t)
    (hn : (assignEach es X.env).length = n := by rfl) (hst : (assignEach es X.env).findIdx? (·.1) = none := by rfl) : PG X (.Tuple es k pos) (gLst K n t) := hK ▸ pg_lst hc h hn hst
end
end VL

set_option Elab.async false
set_option linter.all false
set_option maxRecDepth 100000
/-! != of tuples item by item; == and != of pairs (frozen dict, data) that are equal -/
namespace VNe
open PySem
end VNe
namespace VL
open PySem L2 PyProof.Rows
/-- two frozen dicts of the same keys and flat values -/
def FD (H : Hp) (x y : V) : Prop := ∃ a b oa ob ks ls, x = .ref a ∧ y = .ref b ∧ H a = some (.frz oa (.dK ks)) ∧ H b = some (.frz ob (.dK ls)) ∧ ks.length = ls.length ∧ ∀ p ∈ ks, valV ls p.1 = some p.2 ∧ flatB p.2 = true
/-- the same data -/
def FS (K : PySem.W.Frag) (H : Hp) (x y : V) : Prop := ∃ d, Dp K H x d ∧ Dp K H y d ∧ d.canLay0 = true ∧ d.depth ≤ 60 ∧ PyData.eqv d d = true
section
variable {X : Cx} {pins : List (Addr × Obj)} {σ : L2.St} {H : Hp} {s : Shared}
end
def PkE (K : PySem.W.Frag) (x y : V) (H : Hp) : Prop := ∃ a b x1 x2 y1 y2, x = .ref a ∧ y = .ref b ∧ SqT K H a [x1, x2] ∧ SqT K H b [y1, y2] ∧ FD H x1 y1 ∧ FS K H x2 y2
def rPkEq (K : PySem.W.Frag) : R2 := fun x y H Q => PkE K x y H ∧ Q (.bl true) H
def rPkNe (K : PySem.W.Frag) : R2 := fun x y H Q => PkE K x y H ∧ Q (.bl false) H
section
variable {X : Cx} {pins : List (Addr × Obj)} {σ : L2.St} {H : Hp} {s : Shared}
end
section
variable {T : TC} {Γ : List (Option VA)} {Ω Ω1 Ω2 : List OA} {ta tb : TE} {α : Type} [Rp α] [Dat α] {x y : DF × α}
end
/-! d.get(k, x) -/
theorem val_dkvN {k : Str} : ∀ {l : List (Str × Int)}, l.lookup k = none → valV (dkv l) (Sum.inr k) = none
  | [], _ => rfl
  | x :: r, h => by
    have e : (k == x.1) = false := by
      cases q : k == x.1 with
      | false => rfl
      | true =>
        have h2 : (match k == x.1 with | true => some x.2 | false => r.lookup k) = none := h
        rw [q] at h2
        cases h2
    have h2 : (match k == x.1 with | true => some x.2 | false => r.lookup k) = none := h
    rw [e] at h2
    have ih := val_dkvN (l := r) h2
    have ne : x.1 ≠ k := fun z => by rw [z, beq_self_eq_true] at e; cases e
    show valV ((Sum.inr x.1, V.int x.2) :: dkv r) (Sum.inr k) = _
    unfold valV at ih ⊢
    rw [List.find?_cons_of_neg (by simp [ne])]
    exact ih
theorem val_dkvO {k : Str} {l : List (Str × Int)} : valV (dkv l) (Sum.inr k) = (l.lookup k).map V.int := by
  cases h : l.lookup k with
  | some v => exact val_dkv h
  | none => exact val_dkvN h
section
variable {T : TC} {Γ : List (Option VA)} {Ω Ω1 Ω2 Ω3 : List OA} {ta tb tc : TE}
end
end VL

set_option Elab.async false
set_option linter.all false
set_option maxRecDepth 100000
/-! != of lists whose items have a text's own __eq__; a list unpacked into three -/
namespace VNe
open PySem PySem.SeqAt
end VNe
namespace VL
open PySem L2 PyProof.Rows
/-- pair by pair the own __eq__ says yes; both lists stay -/
def WL (C : Addr) (sp : Sp) (a b : Addr) (xs ys : List V) : List (V × V) → Hp → (Hp → Prop) → Prop
  | [], H, Q => Q H
  | z :: r, H, Q => ∃ p q dx dy fs gs, z.1 = .ref p ∧ z.2 = .ref q ∧ H p = some (.ins C dx fs) ∧ H q = some (.ins C dy gs) ∧ (p = q → WL C sp a b xs ys r H Q) ∧
    (p ≠ q → sp [z.1, z.2] H (fun v H' => v = .bl true ∧ H' a = some (.lst xs) ∧ H' b = some (.lst ys) ∧ WL C sp a b xs ys r H' Q) E0)
def rOwnL (C : Addr) (sp : Sp) (r : Bool) : R2 := fun x y H Q => ∃ a b xs ys, x = .ref a ∧ y = .ref b ∧ H a = some (.lst xs) ∧ H b = some (.lst ys) ∧ xs.length = ys.length ∧ WL C sp a b xs ys (xs.zip ys) H (fun H' => Q (.bl r) H')
section
variable {X : Cx} {n : Nat} {C f : Addr} {fd : FuncData} {ps : List Str} {sp : Sp}
/-- what the loop keeps -/
def LI (X : Cx) (pins : List (Addr × Obj)) (σ : L2.St) (C : Addr) (sp : Sp) (a b : Addr) (xs ys : List V) (Q : Hp → Prop) (i : Nat) (s : Shared) : Prop := ∃ H, Inv X pins σ H s ∧ H a = some (.lst xs) ∧ H b = some (.lst ys) ∧ WL C sp a b xs ys ((xs.zip ys).drop i) H Q
end
section
variable {T : TC} {Γ : List (Option VA)} {Ω Ω1 Ω2 Ω3 : List OA} {ta tb te : TE} {l m : List Bg}
def un3 {α : Type} : List α → Option (α × α × α)
  | [a, b, c] => some (a, b, c)
  | _ => none
end
end VL

set_option Elab.async false
set_option linter.all false
set_option maxRecDepth 100000
/-! None behind a list of numbers; a pair of a new list and a value, kept in a name -/
namespace VL
open PySem L2
inductive OI where
  | i (n : Int)
  | no
def OI.v : OI → V
  | .i n => .int n
  | .no => .non
def OI.d : OI → PyData
  | .i n => .int n
  | .no => .none
instance : Rp OI := ⟨fun _ _ v a => v = a.v, fun _ h => h⟩
instance : Dat OI := ⟨OI.d, fun _ => True, 0, fun {T F H v a} _ h => by
    rw [show v = a.v from h]
    cases a
    · exact .int _
    · exact .non, fun {a} _ => by cases a <;> rfl, fun {a} => by cases a <;> exact Nat.le_refl _, fun {a b} => by
    cases a <;> cases b
    · rename_i m n
      show (m == n) = true ↔ _
      rw [beq_iff_eq]
      exact ⟨fun e => by rw [e], fun e => by cases e; rfl⟩
    · exact ⟨(fun e => nomatch e), (fun e => nomatch e)⟩
    · exact ⟨(fun e => nomatch e), (fun e => nomatch e)⟩
    · exact ⟨fun _ => rfl, fun _ => rfl⟩⟩
/-- a pair of a list that changes, at p, and a value -/
def pvA (T : TC) (p : Addr) (B : VA) : VA := ⟨fun F v => ∃ t w, v = .ref t ∧ SqT T.K F t [.ref p, w] ∧ B.P F w, fun e ⟨t, w, a, b, c⟩ => ⟨t, w, a, Same.tup e b, B.mono e c⟩⟩
section
variable {T : TC} {Γ : List (Option VA)} {Ω Ω1 Ω2 Ω3 : List OA} {A B C : VA} {ta tb te : TE} {D : Ends} {F0 : Hp} {ts : TS} {p : Addr}
end
/-! ### walks over a list that may change, and doesn't -/
section
variable {T : TC} {Γ : List (Option VA)} {Ω Ω0 Ω1 Ω2 : List OA} {A B : VA} {te ta tb : TE} {D : Ends} {F0 : Hp} {ts : TS}
structure Wk2 (k : Nat) (o : OA) {α : Type} (J : It) (Sx : Hp → Prop) (xs : List α) (A : α → VA) : Prop where
  mono : ∀ F F', Same F F' → Sx F → Sx F'
  go : ∀ (i : Nat) F Ω H, Sx F → Holds F Ω H → Ω[k]? = some o → i < xs.length → J.go i H
  stop : ∀ F Ω H, Sx F → Holds F Ω H → Ω[k]? = some o → J.stop xs.length H
  yld : ∀ (i : Nat) a F Ω H x H', Sx F → Holds F Ω H → Ω[k]? = some o → xs[i]? = some a → J.yld i H x H' → ∃ F', Same F F' ∧ Holds F' Ω H' ∧ (A a).P F' x
def XI2 (k : Nat) (o : OA) {α : Type} (wi : TI) (Γ : List (Option VA)) (Ω : List OA) (xs : List α) (A : α → VA) (Ω2 : List OA) : Prop :=
  ∀ F σ H, Env F σ Γ → Holds F Ω H → ∀ R : It → Hp → Prop, (∀ F' J H' Sx, Same F F' → Holds F' Ω2 H' → Wk2 k o J Sx xs A → Sx F' → R J H') → wi σ H R
end
end VL

set_option Elab.async false
set_option linter.all false
set_option maxRecDepth 100000
/-! the parts of a pair with a list that changes -/
namespace VL
open PySem L2
section
variable {T : TC} {Γ : List (Option VA)} {Ω Ω1 Ω2 : List OA} {B : VA} {te : TE} {p : Addr}
end
end VL

set_option Elab.async false
set_option linter.all false
set_option maxRecDepth 100000
/-! an own __eq__ beside a number or a list; is, of truths; a new list of a tuple; a new machine handed over at once -/
namespace VL
open PySem L2 PyProof.Rows
/-- neither an int nor a list comes ahead of the class at C, nor is one of it -/
def otherB (K : PySem.W.Frag) (C : Addr) : Bool := PySem.W.notFirst K C (.type "int") && (PySem.W.notFirst K C (.type "list") && (decide (PySem.W.kitOne K (.type "int") (.ref C) = some false) && decide (PySem.W.kitOne K (.type "list") (.ref C) = some false)))
/-- an int or a list -/
def IsO (H : Hp) (y : V) : Prop := (∃ i, y = .int i) ∨ ∃ b vs, y = .ref b ∧ H b = some (.lst vs)
def rOwnX (K : PySem.W.Frag) (C : Addr) (sp : Sp) : R2 := fun x y H Q => ∃ a dx fs, x = .ref a ∧ H a = some (.ins C dx fs) ∧ IsO H y ∧ sp [x, y] H (fun v H' => v = .bl false ∧ Q (.bl false) H') E0
section
variable {X : Cx} {n : Nat} {C f : Addr} {fd : FuncData} {ps : List Str} {sp : Sp}
structure CalEqX (P : Program) (w : World) (K : PySem.W.Frag) (mg : Str → Option Value) (base : Heap) (n : Nat) (C : Addr) (sp : Sp) : Prop where
  ex : ∃ f fd, FnOk P w K mg base CX0 n f fd ["self", "other"] sp ∧ otherB K C = true ∧ Meth K C "__eq__" f ∧ Binds K fd ["self", "other"] []
end
/-- what __eq__ tells of a number beside an int or a list -/
def PreX (T : TC) : PreT := fun As Ω R => ∃ (x0 : Bg) (A : VA), As = [va T x0, A] ∧ (∀ F H v, Holds F Ω H → A.P F v → IsO H v) ∧ R = RV (va T false) (stt Ω [] [])
section
variable {T : TC} {Γ : List (Option VA)} {Ω Ω0 Ω1 Ω2 : List OA} {A B : VA} {ta tb te : TE} {x : Bg} {b c : Bool}
def rIsB : R2 := fun x y H Q => ∃ a b, x = .bl a ∧ y = .bl b ∧ Q (.bl (decide (a = b))) H
end
end VL

set_option Elab.async false
set_option linter.all false
set_option maxRecDepth 100000
/-! VL18: a name that holds one of several defs; and/or whose second part changes things. -/
namespace VL
open PySem L2
/-- one of several defs, by its number -/
structure FT where
  i : Nat
instance : Rp FT := ⟨fun T _ v a => v = .ref (T.C (200 + a.i)), fun _ h => h⟩
structure HeldF (P : Program) (w : World) (K : PySem.W.Frag) (mg : Str → Option Value) (base : Heap) (k : Nat) (f : Addr) (sp : Sp) : Prop where
  ex : ∃ (fd : FuncData) (ps : List Str), FnOk P w K mg base CX0 k f fd ps sp ∧ PySem.W.keepIn K (.ref f) = true ∧ Binds K fd ps []
structure HeldFK (P : Program) (w : World) (K : PySem.W.Frag) (mg : Str → Option Value) (base : Heap) (k : Nat) (f : Addr) (n : Nat) (ks : List Str) (ix : List Nat) (sp : Sp) : Prop where
  ex : ∃ (fd : FuncData) (ps : List Str), FnOk P w K mg base CX0 k f fd ps sp ∧ PySem.W.keepIn K (.ref f) = true ∧ KBn K fd ps n ks (fun us ws => prm ix (us ++ ws)) (fun vs zs => prm ix (vs ++ zs))
def tCallFn (i : Nat) (S : Addr → Sp → Prop) (t : TA) : TE := fun σ H Q => ∃ f sp, σ[i]? = some (some (.ref f)) ∧ S f sp ∧ t σ H fun vs H1 => sp (vs ++ []) H1 Q E0
def tCallFnN (i : Nat) (S : Addr → Sp → Prop) (n m : Nat) (g : List V → List V → List V) (t tk : TA) : TE := fun σ H Q => ∃ f sp, σ[i]? = some (some (.ref f)) ∧ S f sp ∧ tCallN n m sp g E0 t tk σ H Q
section
variable {X : Cx} {k i n : Nat} {S : Addr → Sp → Prop} {x : Str} {ks : List Str} {ix : List Nat} {p pos : Pos} {e : Expr} {es : List Expr} {kws : List Keyword} {t tk : TA}
end
section
variable {T : TC} {Γ : List (Option VA)} {Ω Ω1 Ω2 Ω3 : List OA} {A : VA} {As Ks : List VA} {a : FT} {i : Nat} {S : Addr → Sp → Prop}
theorem xt_andNO {α : Type} {m : Option α} {cur z : α} {O : α → List OA} {b : Bool} {t u : TT} (h1 : XT t Γ Ω b (O cur)) (hz : (if b = true then m else some cur) = some z) (h2 : ∀ v, m = some v → XT u Γ (O cur) false (O v)) : XT (tAnd t u) Γ Ω false (O z) := by
  cases b with
  | true =>
    rw [if_pos rfl] at hz
    exact xt_and h1 (fun _ => h2 z hz) (fun h => nomatch h)
  | false =>
    rw [if_neg Bool.false_ne_true] at hz
    cases hz
    exact xt_and (c := false) h1 (fun h => nomatch h) (fun _ => rfl)
end
end VL

set_option Elab.async false
set_option linter.all false
set_option maxRecDepth 100000
set_option maxHeartbeats 2000000
/-! VL19: a lambda without parameters handed to a def that calls it: what it makes of the caller's machine. -/
namespace VL
open PySem PySem.Spec PyProof.Rows L2 LamX
/-- the table at P in t: its code objects stand in F -/
def TabF (F t : Hp) (P : Addr) (q : Str) : Prop := ∃ ps : Array Value, t P = some (.tbl ps) ∧ TriplesOk ps.toList ∧ ∀ (pos : Pos) (cv : Value), codeAmong pos ps.toList = some cv → ∃ c, cv = .ref c ∧ F c = some (CodeO c q)
theorem TabF.mono {F F' t : Hp} {P : Addr} {q : Str} (e : Same F F') : TabF F t P q → TabF F' t P q := fun ⟨ps, h1, h2, h3⟩ => ⟨ps, h1, h2, fun pos cv h => let ⟨c, a, b⟩ := h3 pos cv h; ⟨c, a, e _ _ b⟩⟩
/-- all the tables of a law -/
def tabA (l : List (Addr × Str)) : OA := ⟨fun F t => ∀ p ∈ l, TabF F t p.1 p.2, fun e h p hp => (h p hp).mono e⟩
/-- the table's part of the heap behind a lambda's making: H as it was, or a new code object at c' -/
def Grown (H : Hp) (P : Addr) (q : Str) (H1 : Hp) (c' : Addr) : Prop :=
  (H1 = H ∧ ∃ (ps : Array Value) (pos : Pos), H P = some (.tbl ps) ∧ codeAmong pos ps.toList = some (.ref c')) ∨
  ∃ (ps more : Array Value), H P = some (.tbl ps) ∧ H c' = none ∧ H1 = upd (upd H P (.tbl (ps ++ more))) c' (CodeO c' q) ∧ (TriplesOk ps.toList → TriplesOk (ps ++ more).toList) ∧
    ∀ (pos : Pos) (cv : Value), TriplesOk ps.toList → codeAmong pos (ps ++ more).toList = some cv → codeAmong pos ps.toList = some cv ∨ cv = .ref c'
theorem set_own {α : Type} {l : List α} {i : Nat} {a : α} (h : l[i]? = some a) : l.set i a = l := by
  apply List.ext_getElem?
  intro j
  by_cases e : i = j
  · subst e; rw [List.getElem?_set_self (getlt h), h]
  · rw [List.getElem?_set_ne e]
theorem grown_holds {F H H1 : Hp} {Ω : List OA} {l : List (Addr × Str)} {kt : Nat} {P c' : Addr} {q : Str} (hh : Holds F Ω H) (ht : Ω[kt]? = some (tabA l)) (hm : (P, q) ∈ l) (hu : ∀ p ∈ l, p.1 = P → p.2 = q) (g : Grown H P q H1 c') :
    ∃ F1, Same F F1 ∧ Holds F1 Ω H1 ∧ F1 c' = some (CodeO c' q) := by
  rcases g with ⟨rfl, ps, pos, e1, e2⟩ | ⟨ps, more, e1, e2, e3, e4, e5⟩
  · obtain ⟨t, h1, h2, _, _⟩ := hh.get ht
    obtain ⟨ps', a1, a2, a3⟩ := h1 _ hm
    have := (h2 _ _ a1).symm.trans e1
    cases this
    obtain ⟨c, b1, b2⟩ := a3 pos _ e2
    cases b1
    exact ⟨F, Same.refl F, hh, b2⟩
  · have nP : P ≠ c' := ne_of_none e1 e2
    obtain ⟨hh1, s1⟩ := hh.newF (u := CodeO c' q) e2
    obtain ⟨t, h1, h2, h3, h4⟩ := hh1.get ht
    have eP : t P = some (.tbl ps) := by
      obtain ⟨ps', a1, _⟩ := h1 _ hm
      have z := h2 _ _ a1
      rw [upd_ne nP, e1] at z
      cases z
      exact a1
    have key := h4 (tabA l) P (.tbl ps) (.tbl (ps ++ more)) eP fun p hp => by
      obtain ⟨ps', a1, a2, a3⟩ := h1 p hp
      by_cases hb : p.1 = P
      · have hq := hu p hp hb
        rw [hb] at a1 ⊢
        rw [hq] at a3 ⊢
        have := a1.symm.trans eP
        cases this
        refine ⟨_, upd_same, e4 a2, fun pos cv hc => ?_⟩
        rcases e5 pos cv a2 hc with z | z
        · exact a3 pos cv z
        · exact ⟨c', z, upd_same⟩
      · exact ⟨ps', by rw [upd_ne hb]; exact a1, a2, a3⟩
    rw [set_own ht] at key
    refine ⟨_, s1, ?_, upd_same⟩
    have e6 : H1 = upd (upd H c' (CodeO c' q)) P (.tbl (ps ++ more)) := by
      rw [e3]
      funext b
      by_cases b1 : b = P
      · subst b1
        rw [upd_ne nP, upd_same, upd_same]
      · by_cases b2 : b = c'
        · subst b2; rw [upd_same, upd_ne b1, upd_same]
        · rw [upd_ne b2, upd_ne b1, upd_ne b1, upd_ne b2]
    rw [e6]
    exact key
section
variable {X : Cx} {pins : List (Addr × Obj)} {σ : L2.St} {H : Hp} {s : Shared}
/-- the lambda is made -/
theorem lam_mk {c P : Addr} {params : Arguments} {body : Expr} {scope : Scope} {pos : Pos} {E : Value → Shared → Prop} {Q : Value → Shared → Prop} (I : Inv X pins σ H s) (TB : TabB X.base X.mg c P) (hcode : X.env.code = .ref c)
    {ps : Array Value} (hP : H P = some (.tbl ps)) (ht : TriplesOk ps.toList) (ha : ∀ (pos : Pos) (cv : Value), codeAmong pos ps.toList = some cv → ∃ c, cv = .ref c ∧ H c = some (CodeO c (X.env.qual ++ "<lambda>")))
    (hdef : defaultsOf params X.env = ([], [])) (hfree : ∀ y ∈ scope.names, y.2 = .free → ∃ c, X.env.cells.lookup y.1 = some c)
    (h : ∀ (f c' : Addr) (pm ctv : Value) (H1 : Hp) (s' : Shared), Inv X pins σ H1 s' → Grown H P (X.env.qual ++ "<lambda>") H1 c' →
      s'.heap.get? f = some (PySem.W.kla_obj "<lambda>" (X.env.qual ++ "<lambda>") params body scope (cloFrom X.env.cells scope.names []) pm c' ctv) → H1 f = none → f ∉ frs X.stack → Q (.ref f) s') :
    wpAny (model X.prog X.w) X.A (eval (.Lambda params body scope pos) X.env) Q E s := by
  refine PySem.W.kla_eval hdef ?_
  have bP : s.heap.BuiltinsAt X.mg P := TB.bm.keeps I.bk
  have oP : s.heap.get? P = some { cls := .none, data := .fields ps } := I.hok P _ hP
  have away : ∀ f, s.heap.objs.size ≤ f → f ∉ frs X.stack := fun f hf z => by
    rcases List.mem_cons.mp (I.stkSub _ z) with e | e
    · have h1 := I.lt
      rw [← e] at h1
      exact Nat.lt_irrefl _ (Nat.lt_of_lt_of_le h1 hf)
    · exact I.nofs hf e
  cases hc : codeAmong pos ps.toList with
  | some cv =>
    obtain ⟨c', e, hco⟩ := ha pos cv hc
    subst e
    refine PySem.W.kla_makeFunctionHit (mg := X.mg) (c := c) (P := P) (ps := ps) (closure_ok hfree) I.ok.glob (I.mod.glob.keeps I.bk) hcode (TB.code.keeps I.bk) oP ht hc bP fun ctv h' tk hx hsz => ?_
    exact h h'.objs.size c' _ ctv H _ (I.kept (h' := h'.push (PySem.W.kla_obj "<lambda>" (X.env.qual ++ "<lambda>") params body scope (cloFrom X.env.cells scope.names []) ((X.mg "__name__").getD .none) c' ctv)) (t' := tk) fun b o e => Heap.get?_push_of_some _ (hx b o e)) (.inl ⟨rfl, ps, pos, hP, hc⟩) (Heap.get?_push_size _ rfl) (I.hok.fresh hsz) (away _ hsz)
  | none =>
    refine PySem.W.kla_makeFunction (mg := X.mg) (c := c) (P := P) (ps := ps) (closure_ok hfree) I.ok.glob (I.mod.glob.keeps I.bk) hcode (TB.code.keeps I.bk) oP ht hc TB.gP bP fun c' ctv h' tk hx hge hlt hrec htb => ?_
    obtain ⟨c2, oc, vs, t, e2, hoc, hd, hv⟩ := hrec
    cases e2
    have nC : H c' = none := I.hok.fresh hge
    have hsz : s.heap.objs.size ≤ h'.objs.size := Nat.le_of_lt (Nat.lt_of_le_of_lt hge hlt)
    refine h h'.objs.size c' ((X.mg "__name__").getD .none) ctv _ _ (inv_table (t' := tk) (more := #[rawInt pos.line, rawInt pos.col, .ref c']) (h' := h'.push (PySem.W.kla_obj "<lambda>" (X.env.qual ++ "<lambda>") params body scope (cloFrom X.env.cells scope.names []) ((X.mg "__name__").getD .none) c' ctv)) I hP
        (fun b o hb e => Heap.get?_push_of_some _ (hx b o hb e)) (Heap.get?_push_of_some _ htb) hge ⟨oc, vs, t, Heap.get?_push_of_some _ hoc, hd, hv⟩) ?_ (Heap.get?_push_size _ rfl) ?_ (away _ hsz)
    · refine .inr ⟨ps, #[rawInt pos.line, rawInt pos.col, .ref c'], hP, nC, rfl, fun z => ?_, fun pos2 cv z hcv => ?_⟩
      · rw [Array.toList_append]; exact PySem.TriplesOk_snoc _ _ _ _ z
      · rw [Array.toList_append] at hcv
        exact among_app _ z hcv
    · have n1 : h'.objs.size ≠ c' := Nat.ne_of_gt hlt
      have n2 : h'.objs.size ≠ P := Nat.ne_of_gt (Nat.lt_of_lt_of_le (Heap.lt_size oP) hsz)
      rw [upd_ne n1, upd_ne n2]
      exact I.hok.fresh hsz
end
/-! ### a def that is handed a lambda -/
/-- what its name makes: act -/
def tAct (i : Nat) (f c' : Addr) (q : Str) (act : Hp → VK → Prop) : TE := fun σ H Q => σ[i]? = some (some (.ref f)) ∧ H c' = some (CodeO c' q) ∧ act H Q
/-- in each def's context that is entered at s: a call of the name that holds the lambda -/
def ActH (P : Program) (w : World) (K : PySem.W.Frag) (mg : Str → Option Value) (base : Heap) (k : Nat) (A : Around) (outer : List PySem.Env) (s : Shared) (H : Hp) (f c' : Addr) (q : Str) (act : Hp → VK → Prop) : Prop :=
  ∀ (Ng : List Str) (qg : Str) (sg : Scope) (g : Addr) (cdg : Value) (i : Nat) (a : Str) (p1 p2 : Pos), Room (k + 1) (A.deeper (envOfC qg sg s.heap.objs.size g cdg)) → Ng[i]? = some a → Vis sg a → (a == ("__debug__" : Str)) = false → (a == ("__classdict__" : Str)) = false →
    PE (cxOf CX0 P w K mg base Ng qg sg g cdg A outer s H E0).nox (.Call (.Name a p1) [] [] p2) (tAct i f c' q act)
abbrev PreLT := Addr → Addr → Str → (Hp → VK → Prop) → PreT
/-- that def: k, its depth; kl, that of the lambda's body -/
structure CalL (P : Program) (w : World) (K : PySem.W.Frag) (mg : Str → Option Value) (base : Heap) (kl k : Nat) (x : Str) (ps : List Str) (Pre : PreLT) : Prop where
  ex : ∃ g fd, mg x = some (.ref g) ∧ PySem.W.keepIn K (.ref g) = true ∧ Binds K fd ps [] ∧ (∀ f c' q act As Ω R, Pre f c' q act As Ω R → As.length = ps.length) ∧
    ∀ (A : Around) (outer : List PySem.Env) (s : Shared) (H : Hp) (us : List Value) (vs : List V) (Q : VK) (f c' : Addr) (q : Str) (act : Hp → VK → Prop), Room k A → Env0 P w K mg base A outer s H → BindsTo s fd ⟨us, []⟩ (ps.zip us) → Vals vs us →
      ActH P w K mg base kl A outer s H f c' q act → mkSp (Pre f c' q act) vs H Q E0 → codeAny (model P w) A (.call (.ref g) ⟨us, []⟩) (CR CX0 outer P w H s Q E0) s
section
variable {P : Program} {w : World} {K : PySem.W.Frag} {mg : Str → Option Value} {base : Heap}
end
/-! ### x(e, lambda: body) -/
def tLam (P : Addr) (q : Str) (Pre : PreLT) (ta tb : TE) : TE := fun σ H Q => ta σ H fun v H0 => (∃ ps : Array Value, H0 P = some (.tbl ps) ∧ TriplesOk ps.toList ∧ ∀ (pos : Pos) (cv : Value), codeAmong pos ps.toList = some cv → ∃ c, cv = .ref c ∧ H0 c = some (CodeO c q)) ∧
  ∀ f c' H1, Grown H0 P q H1 c' → mkSp (Pre f c' q fun H' Q' => tb σ H' Q') [v, .ref f] H1 Q E0
section
variable {X : Cx}
end
/-! ### what it makes of a machine -/
/-- the name's value: the lambda f, which takes the machine at k0 from m to r.2 and tells r.1 -/
def askA (T : TC) {α : Type} [Rp α] (f c' : Addr) (q : Str) (act : Hp → VK → Prop) (Ω : List OA) (k0 : Nat) (p0 : Addr) (M : MS → Option (α × MS)) : VA :=
  ⟨fun F v => v = .ref f ∧ F c' = some (CodeO c' q) ∧ ∀ m r, M m = some r → ∀ F1 H1, Same F F1 → Holds F1 (stt Ω [(k0, machA T p0 m)] []) H1 → ∀ Q : VK, (∀ F2 v H2, Same F1 F2 → Holds F2 (stt Ω [(k0, machA T p0 r.2)] []) H2 → (va T r.1).P F2 v → Q v H2) → act H1 Q,
   fun e ⟨h1, h2, h3⟩ => ⟨h1, e _ _ h2, fun m r hm F1 H1 e1 => h3 m r hm F1 H1 (e.trans e1)⟩⟩
section
variable {T : TC} {Γ : List (Option VA)} {Ω Ω1 : List OA} {α : Type} [Rp α]
end
section
variable {T : TC} {Γ : List (Option VA)} {Ω Ω1 Ω2 : List OA} {α : Type} [Rp α]
theorem xe_st {te : TE} {A : VA} {Ωa Ωb Ωa' Ωb' : List OA} (e1 : Ωa = Ωa') (e2 : Ωb = Ωb') (h : XE te Γ Ωa' A Ωb') : XE te Γ Ωa A Ωb := by
  subst e1 e2
  exact h
end
/-! ### a def whose code object is known -/
def CodeIs (K : PySem.W.Frag) (g c : Addr) : Prop := ∀ (oc : Value) (od : Option Addr) (x qual : Str) (ar : Arguments) (body : List Stmt) (sc : Scope) (dV kV doc pm : Value) (an : Option Addr) (cdv ct : Value) (osl : Array (Option Value)),
  K.lookup g = some ⟨oc, od, .func (PySem.W.fnOf x qual ar body sc dV kV doc pm an cdv ct), osl⟩ → PySem.W.codeIn K cdv qual = true → cdv = .ref c
section
variable {P : Program} {w : World} {K : PySem.W.Frag} {mg : Str → Option Value} {base : Heap}
theorem fn_okC {x qual : Str} {st : Stmt} {f c : Addr} {fd : FuncData} {N ps : List Str} {k : Nat} {Pre : PreT} (F : Fun K x qual st f fd) (hc : CodeIs K f c) (S : FnScope N ps (defScope st)) (hl : ∀ As Ω R, Pre As Ω R → As.length = ps.length)
    (hb : ∀ (A : Around) (outer : List PySem.Env) (s : Shared) (H : Hp) (E : XK), Room k (A.deeper (envOfC qual (defScope st) s.heap.objs.size f (.ref c))) → ∀ As Ω R F0, Pre As Ω R →
      Bod (cxOf CX0 P w K mg base N qual (defScope st) f (.ref c) A outer s H E).nox (defBody st) (As.map some ++ List.replicate (N.length - As.length) none) Ω F0 R) : FnOk P w K mg base CX0 (k + 1) f fd ps (mkSp Pre) := by
  obtain ⟨oc, od, kV, doc, pm, an, cdv, ct, osl, rfl, lk, hcd⟩ := F.ex
  obtain rfl := hc _ _ _ _ _ _ _ _ _ _ _ _ _ _ _ lk hcd
  refine fn_of lk hcd S (fun vs H Q E h => ?_) fun A outer s H vs Q E hr h => ?_
  · obtain ⟨F, Ω, As, R, hp, ha, _⟩ := h
    rw [ha.len]; exact hl _ _ _ hp
  · obtain ⟨F0, Ω, As, R, hp, ha, hh, hq⟩ := h
    obtain ⟨t, h1, h2⟩ := hb A outer s H E hr As Ω R F0 hp
    exact ⟨t, h1.nox, h2 _ (fun F v H Ω' e hh r => hq F v H Ω' e hh r) (fun F σ H Ω' e hh r => hq F .non H Ω' e hh r) _ _ ⟨F0, Same.refl F0, start_env ha, hh⟩⟩
end
/-- the law's start: the tables apart from all else -/
theorem tab_start {K : PySem.W.Frag} {H : Hp} {l : List (Addr × Str)} {a : Addr} {xs : List V} (hH : ∀ p ∈ l, H p.1 = some (.tbl #[])) (hS : SqL K H a xs) : ∃ F, SqL K F a xs ∧ Holds F [tabA l] H := by
  let inT : Addr → Prop := fun b => ∃ p ∈ l, p.1 = b
  have dec : ∀ b, Decidable (inT b) := fun b => Classical.propDecidable _
  let F : Hp := fun b => if inT b then none else H b
  let t : Hp := fun b => if inT b then some (.tbl #[]) else none
  have hHt : ∀ b, inT b → H b = some (.tbl #[]) := fun b ⟨p, hp, e⟩ => e ▸ hH p hp
  have sF : Same F H := fun b x e => by
    by_cases q : inT b
    · have e : (if inT b then none else H b) = some x := e
      rw [if_pos q] at e; cases e
    · have e : (if inT b then none else H b) = some x := e
      rw [if_neg q] at e; exact e
  have sT : Same t H := fun b x e => by
    by_cases q : inT b
    · have e : (if inT b then some (HO.tbl #[]) else none) = some x := e
      rw [if_pos q] at e; rw [← e]; exact hHt b q
    · have e : (if inT b then some (HO.tbl #[]) else none) = some x := e
      rw [if_neg q] at e; cases e
  have at_ : ∀ u, H a = some u → u ≠ .tbl #[] → F a = some u := fun u e n => by
    show (if inT a then none else H a) = some u
    rw [if_neg (fun q => n (Option.some.inj (e.symm.trans (hHt a q)))), e]
  refine ⟨F, ?_, fun _ => t, fun i o q => ?_, sF, fun i _ => sT, fun i b x _ e => ?_, fun i j b x hi hj ne _ => ?_⟩
  · rcases hS with (h | ⟨o, h⟩) | h
    · exact .inl (.inl (at_ _ h fun z => by cases z))
    · exact .inl (.inr ⟨o, at_ _ h fun z => by cases z⟩)
    · exact .inr h
  · cases i with
    | zero =>
      cases q
      intro p hp
      refine ⟨#[], ?_, True.intro, fun pos cv hc => ?_⟩
      · show (if inT p.1 then some (HO.tbl #[]) else none) = _
        exact if_pos ⟨p, hp, rfl⟩
      · have z : codeAmong pos [] = some cv := hc
        simp [codeAmong] at z
    | succ i => simp at q
  · have e : (if inT b then some (HO.tbl #[]) else none) = some x := e
    show (if inT b then none else H b) = none
    by_cases q : inT b
    · exact if_pos q
    · rw [if_neg q] at e; cases e
  · simp at hi hj
    omega
end VL

set_option Elab.async false
set_option linter.all false
set_option maxRecDepth 100000
/-! VL20: the script with a list behind it; divmod; tests whose parts change things. -/
namespace VL
open PySem PySem.Spec PyProof.Rows L2
def rCatS (K : PySem.W.Frag) : R2 := fun x y H Q => ∃ l b xs zs, x = .ref l ∧ y = .ref b ∧ SqL K H l xs ∧ H b = some (.lst zs) ∧ xs.length + zs.length ≤ sizeLine ∧ ∀ p, H p = none → Q (.ref p) (upd H p (.lst (xs ++ zs)))
theorem op_catS {X : Cx} : OpR X (binaryOp .Add) (rCatS X.K) := by
  intro pins s σ H x y v u Q I rx ry h
  obtain ⟨l, b, xs, zs, rfl, rfl, hH, hB, hz, q⟩ := h
  obtain rfl : v = Value.ref l := rx
  obtain rfl : u = Value.ref b := ry
  obtain ⟨its, r, ⟨⟨cls, dd, data, sl⟩, n, ho, hc, hdn, hd⟩, hlen⟩ := I.list hH
  have hc1 : cls = Value.type "list" := hc
  have hd1 : data = Data.seq its.toArray n := hd
  subst hc1 hd1
  have hl := r.length
  obtain ⟨z2, its2, n2, r2, hl2, e2⟩ := I.lstM hB
  have hsz : its.toArray.size + its2.toArray.size ≤ sizeLine := by rw [List.size_toArray, List.size_toArray]; omega
  refine concat_meets ⟨_, ho, rfl⟩ ⟨_, e2, rfl⟩ noFill_list_add seq_list_add PySem.F.slot_list_add PySem.F.entry_list_add (PySem.F.args_list_add_2 _ _) (list_addW l b its.toArray its2.toArray n n2 dd none sl #[] hsz) ⟨ho, e2, ?_⟩
  have ea : its.toArray ++ its2.toArray = (its ++ its2).toArray := by simp
  rw [ea]
  exact ⟨.ref _, _, I.lnew (t' := s.toks) (r.append r2) (by rw [List.length_append]; omega), rfl, q _ I.fresh⟩
theorem op_catSK {X : Cx} {K : PySem.W.Frag} (h : X.K = K) : OpR X (binaryOp .Add) (rCatS K) := h ▸ op_catS
/-- divmod by what is not 0 -/
def CDivF (_ j : Int) : Prop := j ≠ 0 ∧ j.natAbs.log2 < 9000
def rDivmod : List V → Hp → VK → Prop := fun xs H Q => ∃ i j, xs = [.int i, .int j] ∧ CDivF i j ∧ ∀ p, H p = none → Q (.ref p) (upd H p (.tup [.int (i.fdiv j), .int (i.fmod j)]))
section
variable {T : TC} {ts : TA} {Γ : List (Option VA)} {Ω Ω1 Ω2 : List OA} {A : VA} {ta tb : TE} {t u : TT} {i j : Int} {b : Bool}
theorem xe_catS {α : Type} [Rp α] {l m : List α} (ha : XE ta Γ Ω (va T (SF.mk l)) Ω1) (hb : XE tb Γ Ω1 A Ω2) (h : IsLs T Ω2 A m) (hz : l.length + m.length ≤ sizeLine) : XE (tOp (rCatS T.K) ta tb) Γ Ω (va T (LF.mk (l ++ m))) Ω2 := xe_op ha hb fun F H x y hh a1 a2 Q q => by
  obtain ⟨p, vs, rfl, h1, h2⟩ := a1
  obtain ⟨p2, vs2, rfl, h3, h4⟩ := h F H y hh a2
  refine ⟨p, p2, vs, vs2, rfl, rfl, hh.same.seq h1, h3, by rw [al_len h2, al_len h4]; exact hz, fun r hr => ?_⟩
  obtain ⟨hh', s'⟩ := hh.newF (u := .lst (vs ++ vs2)) hr
  exact q _ _ _ s' hh' ⟨r, vs ++ vs2, rfl, upd_same, al_app (h2.mono s') (h4.mono s')⟩
end
end VL

set_option Elab.async false
set_option linter.all false
set_option maxRecDepth 100000
/-! VL21: == and != of tuples whose items are numbers by their own __eq__, frozen dicts and data. -/
namespace VNe
open PySem PySem.SeqAt
end VNe
namespace VL
open PySem L2 PyProof.Rows
/-- pair by pair: equal dicts, equal data, or the own __eq__ says yes -/
def WT (K : PySem.W.Frag) (C : Addr) (sp : Sp) : List (V × V) → Hp → (Hp → Prop) → Prop
  | [], H, Q => Q H
  | z :: r, H, Q => (FD H z.1 z.2 ∧ WT K C sp r H Q) ∨ (FS K H z.1 z.2 ∧ WT K C sp r H Q) ∨
    ∃ p q dx dy fs gs, z.1 = .ref p ∧ z.2 = .ref q ∧ H p = some (.ins C dx fs) ∧ H q = some (.ins C dy gs) ∧ (p = q → WT K C sp r H Q) ∧ (p ≠ q → sp [z.1, z.2] H (fun v H' => v = .bl true ∧ WT K C sp r H' Q) E0)
def rOwnT (K : PySem.W.Frag) (C : Addr) (sp : Sp) (b : Bool) : R2 := fun x y H Q => ∃ a c xs ys, x = .ref a ∧ y = .ref c ∧ SqT K H a xs ∧ SqT K H c ys ∧ xs.length = ys.length ∧ WT K C sp (xs.zip ys) H (fun H' => Q (.bl b) H')
section
variable {X : Cx} {n : Nat} {C f : Addr} {fd : FuncData} {ps : List Str} {sp : Sp}
/-- what the walk keeps -/
def TI (X : Cx) (pins : List (Addr × Obj)) (σ : L2.St) (C : Addr) (sp : Sp) (Q : Hp → Prop) (zs : List (Value × Value)) (s : Shared) : Prop :=
  ∃ H, Inv X pins σ H s ∧ ∃ us : List (V × V), us.length = zs.length ∧ (∀ i (h : i < us.length) (h2 : i < zs.length), RelV us[i].1 zs[i].1 ∧ RelV us[i].2 zs[i].2) ∧ WT X.K C sp us H Q
end
section
variable {T : TC} {Γ : List (Option VA)} {Ω Ω1 Ω2 : List OA} {ta tb : TE} {Pre : PreT}
/-- two items that compare alike -/
def ItE (T : TC) (Ω : List OA) (sp : Sp) (A B : VA) : Prop := ∀ F H x y r k, Holds F Ω H → A.P F x → B.P F y → (∀ F' H', Same F F' → Holds F' Ω H' → WT T.K (T.C 1) sp r H' k) → WT T.K (T.C 1) sp ((x, y) :: r) H k
end
end VL

set_option Elab.async false
set_option linter.all false
set_option maxRecDepth 100000
/-! VL22: a dict that changes: made, written, read, locked where it is read as a value. -/
namespace VL
open PySem L2 PyProof.Rows
/-- a dict that is locked from now on, at its old place -/
def fzDA (p : Addr) (l : List (Str × Int)) : OA := ⟨fun F _ => ∃ od, F p = some (.frz od (.dK (dkv l))), fun e ⟨od, h⟩ => ⟨od, e _ _ h⟩⟩
/-- written in its place, or at the end -/
def dput (l : List (Str × Int)) (k : Str) (v : Int) : List (Str × Int) := if (l.any fun p => decide (p.1 = k)) = true then l.map (fun p => if p.1 = k then (p.1, v) else p) else l ++ [(k, v)]
section
variable {T : TC} {Γ : List (Option VA)} {Ω Ω1 Ω2 Ω3 : List OA} {A B C : VA} {ta tb te : TE} {D : Ends} {F0 : Hp} {ts : TS}
/-! written -/
/-- a target that writes a thing -/
def Tgo (g : TG) (A : VA) (Γ : List (Option VA)) (Ω Ω2 : List OA) : Prop := ∀ F σ v H, Env F σ Γ → Holds F Ω H → A.P F v → ∀ Q : L2.St → Hp → Prop, (∀ F' H', Same F F' → Holds F' Ω2 H' → Q σ H') → g v σ H Q
end
/-! != of two dicts, where they are known to be alike -/
def rNeF : R2 := fun x y H Q => ∃ a b oa ob ks ls, x = .ref a ∧ y = .ref b ∧ H a = some (.frz oa (.dK ks)) ∧ H b = some (.frz ob (.dK ls)) ∧ ks.length = ls.length ∧ (∀ p ∈ ks, valV ls p.1 = some p.2 ∧ flatB p.2 = true) ∧ Q (.bl false) H
end VL

set_option Elab.async false
set_option linter.all false
set_option maxRecDepth 100000
/-! VL23: range downwards, one by one; isinstance and len of pairs. -/
namespace VL
open PySem L2 PyProof.Rows
section
variable {T : TC} {Γ : List (Option VA)} {Ω Ω1 Ω2 : List OA} {A B C : VA} {ta tb te : TE}
/-- i, i - 1, .. (n of them) -/
def rngD (i : Int) (n : Nat) : List Int := (List.range n).map fun (k : Nat) => i + (k : Int) * (-1)
theorem wk_rangeD {n : Nat} {lo : Int} : Wk (Itc lo (-1) n) (fun _ => True) (rngD lo n) (fun a => va T a) where
  mono := fun _ _ _ _ => trivial
  go := fun i F Ω H _ _ hi => by
    have hi : i < n := by simpa [rngD] using hi
    exact hi
  stop := fun F Ω H _ _ => by show n ≤ _; simp [rngD]
  yld := fun i a F Ω H x H' _ hh hx y => by
    obtain ⟨e, y⟩ := y
    subst e y
    refine ⟨F, Same.refl F, hh, ?_⟩
    show V.int _ = V.int a
    unfold rngD at hx
    rw [List.getElem?_map] at hx
    cases hr : (List.range n)[i]? with
    | none => rw [hr] at hx; cases hx
    | some k =>
      rw [hr] at hx
      have hk : i = k := by
        obtain ⟨h1, h2⟩ := List.getElem?_eq_some_iff.mp hr
        rw [List.getElem_range] at h2
        exact h2
      subst hk
      cases hx
      rfl
theorem xi_range3 {i j : Int} {ta : TA} (ha : XA ta Γ Ω [va T i, va T j, va T (-1 : Int)] Ω1) (h1 : -(2 ^ 62) ≤ i ∧ i < 2 ^ 62 ∧ -(2 ^ 62) ≤ j ∧ j < 2 ^ 62) : XI (iRng3 ta) Γ Ω (rngD i (i - j).toNat) (fun a => va T a) Ω1 := fun F σ H e hh R r => by
  refine ha F σ H e hh _ fun F1 vs H1 e1 hh1 a1 => ?_
  cases a1 with
  | cons a1 t =>
    obtain ⟨v, w, rfl, a2, a3⟩ := alA2 t
    have a1 : _ = V.int i := a1
    have a2 : v = .int j := a2
    have a3 : w = .int (-1) := a3
    subst a1 a2 a3
    exact ⟨i, j, -1, (i - j).toNat, rfl, RgC.neg h1.1 h1.2.1 h1.2.2.1 h1.2.2.2, r F1 _ H1 _ e1 hh1 wk_rangeD trivial⟩
end
end VL

set_option Elab.async false
set_option linter.all false
set_option maxRecDepth 100000
/-! VL24: a pair of a dict and a list that both change: made, handed on, its parts; get of a dict that changes. -/
namespace VL
open PySem L2 PyProof.Rows
section
variable {T : TC} {Γ : List (Option VA)} {Ω Ω1 Ω2 Ω3 : List OA} {A B C : VA} {ta tb tc te : TE} {D : Ends} {F0 : Hp} {ts : TS}
theorem xe_dget2O {l : List (Str × Int)} {key : Str} {d : Int} {p : Addr} {k : Nat} (ha : XE ta Γ Ω (vr p) Ω1) (hb : XE tb Γ Ω1 (va T key) Ω2) (hc : XE tc Γ Ω2 (va T d) Ω3) (h1 : Ω1[k]? = some (rawD p (dkv l))) (hk : Ω3[k]? = some (rawD p (dkv l))) : XE (tDGet2 ta tb tc) Γ Ω (va T ((l.lookup key).getD d)) Ω3 := fun F σ H e hh Q q => by
  refine ha F σ H e hh _ fun F1 x H1 Ω' e1 hh1 ⟨a1, o1⟩ => ?_
  subst o1
  have a1 : x = V.ref p := a1
  subst a1
  obtain ⟨t1, g1, g3, _⟩ := hh1.get h1
  have g1 : t1 p = some (.dK (dkv l)) := g1
  refine ⟨p, rfl, .inl ⟨dkv l, .inl (g3 _ _ g1)⟩, ?_⟩
  refine hb F1 σ H1 (e.mono e1) hh1 _ fun F2 y H2 Ω' e2 hh2 ⟨a2, o2⟩ => ?_
  subst o2
  refine hc F2 σ H2 (e.mono (e1.trans e2)) hh2 _ fun F3 z H3 Ω' e3 hh3 ⟨a3, o3⟩ => ?_
  subst o3
  have a2 : y = V.str key := a2
  have a3 : z = V.int d := a3
  subst a2 a3
  obtain ⟨t, h1, h3, _⟩ := hh3.get hk
  have h1 : t p = some (.dK (dkv l)) := h1
  refine ⟨(l.lookup key).map V.int, .inl ⟨dkv l, Sum.inr key, .inl (h3 _ _ h1), rfl, val_dkvO.symm⟩, ?_⟩
  have ez : ((l.lookup key).map V.int).getD (V.int d) = V.int ((l.lookup key).getD d) := by cases l.lookup key <;> rfl
  rw [ez]
  exact q F3 _ H3 _ ((e1.trans e2).trans e3) hh3 ⟨rfl, rfl⟩
/-- dict(d): a new one, from a locked one -/
def rDictD : List V → Hp → VK → Prop := fun xs H Q => ∃ (a : Addr) (kvs : List (Key × V)), xs = [.ref a] ∧ Rd H a (.dK kvs) ∧ ∀ p, H p = none → Q (.ref p) (upd H p (.dK kvs))
end
end VL

set_option Elab.async false
set_option linter.all false
set_option maxRecDepth 100000
set_option maxHeartbeats 2000000
/-! VL25: a lambda with one parameter that has an int for its default, handed to a def that calls it without arguments. -/
namespace VL
open PySem PySem.Spec PyProof.Rows L2 LamX
structure LamSD (N : List Str) (nm : Str) (sc scope : Scope) : Prop where
  kind : scope.kind = .function
  co : scope.isCoroutine = false
  gen : scope.isGenerator = false
  own : ∀ y ∈ scope.names, y.2 ≠ .cell ∧ (y.2 = .local → y.1 ∉ N)
  free : ∀ y ∈ scope.names, y.2 = .free → sc.names.lookup y.1 = some .cell ∨ sc.names.lookup y.1 = some .free
  par : scope.names.lookup nm = some .local
def lamSDB (N : List Str) (nm : Str) (sc scope : Scope) : Bool :=
  decide (scope.kind = .function) && !scope.isCoroutine && !scope.isGenerator && (scope.names.all fun y => !decide (y.2 = .cell) && (!decide (y.2 = .local) || !decide (y.1 ∈ N)) && (!decide (y.2 = .free) || decide (sc.names.lookup y.1 = some .cell) || decide (sc.names.lookup y.1 = some .free))) && decide (scope.names.lookup nm = some .local)
theorem lamSD_by {N : List Str} {nm : Str} {sc scope : Scope} (h : lamSDB N nm sc scope = true) : LamSD N nm sc scope := by
  unfold lamSDB at h
  simp only [Bool.and_eq_true, Bool.or_eq_true, Bool.not_eq_true', decide_eq_true_eq, decide_eq_false_iff_not, List.all_eq_true] at h
  obtain ⟨⟨⟨⟨h1, h2⟩, h3⟩, h4⟩, h5⟩ := h
  refine ⟨h1, h2, h3, fun y hy => ⟨(h4 y hy).1.1, fun e => ?_⟩, fun y hy e => ?_, h5⟩
  · rcases (h4 y hy).1.2 with z | z
    · exact absurd e z
    · exact z
  · rcases (h4 y hy).2 with (z | z) | z
    · exact absurd e z
    · exact .inl z
    · exact .inr z
theorem LamSD.has {X : Cx} {N : List Str} {nm : Str} {scope : Scope} (L : LamSD N nm X.env.scope scope) (ok : X.Ok) : ∀ y ∈ scope.names, y.2 = .free → ∃ c, X.env.cells.lookup y.1 = some c := fun y hy e => by
  rcases L.free y hy e with k | k
  · exact ok.has _ (.inl k)
  · exact ok.has _ (.inr k)
section
variable {X : Cx} {pins : List (Addr × Obj)} {σ : L2.St} {H : Hp} {s : Shared}
end
section
variable {X : Cx} {pins : List (Addr × Obj)} {σ : L2.St} {H HZ : Hp} {s s1 : Shared}
end
section
variable {X : Cx}
end
section
variable {X : Cx}
end
section
variable {T : TC} {Γ : List (Option VA)} {Ω Ω1 Ω2 : List OA} {ta tb : TE} {i j : Int}
end
end VL

set_option Elab.async false
set_option linter.all false
set_option maxRecDepth 100000
/-! VL26: the first and the last of four. -/
namespace VL
open PySem L2 PyProof.Rows
section
variable {T : TC} {Γ : List (Option VA)} {Ω Ω1 Ω2 : List OA} {te ti : TE}
end
end VL

set_option Elab.async false
set_option linter.all false
set_option maxRecDepth 100000
/-! VL27: == and != of tuples among whose items stand pairs of numbers with an own __eq__; a call with a new thing ahead of arguments that change things. -/
namespace VL
open PySem L2 PyProof.Rows
/-- pair by pair, as WT, or two tuples within -/
def WT2 (K : PySem.W.Frag) (C : Addr) (sp : Sp) : List (V × V) → Hp → (Hp → Prop) → Prop
  | [], H, Q => Q H
  | z :: r, H, Q => WT K C sp [z] H (fun H' => WT2 K C sp r H' Q) ∨
    ∃ p q xs ys, z.1 = .ref p ∧ z.2 = .ref q ∧ SqT K H p xs ∧ SqT K H q ys ∧ xs.length = ys.length ∧ (p = q → WT2 K C sp r H Q) ∧ (p ≠ q → WT K C sp (xs.zip ys) H (fun H' => WT2 K C sp r H' Q))
def rOwnT2 (K : PySem.W.Frag) (C : Addr) (sp : Sp) (b : Bool) : R2 := fun x y H Q => ∃ a c xs ys, x = .ref a ∧ y = .ref c ∧ SqT K H a xs ∧ SqT K H c ys ∧ xs.length = ys.length ∧ WT2 K C sp (xs.zip ys) H (fun H' => Q (.bl b) H')
section
variable {X : Cx} {n : Nat} {C f : Addr} {fd : FuncData} {ps : List Str} {sp : Sp}
def TI2 (X : Cx) (pins : List (Addr × Obj)) (σ : L2.St) (C : Addr) (sp : Sp) (Q : Hp → Prop) (zs : List (Value × Value)) (s : Shared) : Prop :=
  ∃ H, Inv X pins σ H s ∧ ∃ us : List (V × V), us.length = zs.length ∧ (∀ i (h : i < us.length) (h2 : i < zs.length), RelV us[i].1 zs[i].1 ∧ RelV us[i].2 zs[i].2) ∧ WT2 X.K C sp us H Q
end
section
variable {T : TC} {Γ : List (Option VA)} {Ω Ω1 Ω2 : List OA} {ta tb : TE} {Pre : PreT}
def ItE2 (T : TC) (Ω : List OA) (sp : Sp) (A B : VA) : Prop := ∀ F H x y r k, Holds F Ω H → A.P F x → B.P F y → (∀ F' H', Same F F' → Holds F' Ω H' → WT2 T.K (T.C 1) sp r H' k) → WT2 T.K (T.C 1) sp ((x, y) :: r) H k
end
end VL

set_option Elab.async false
set_option linter.all false
set_option maxRecDepth 100000
/-! VL28: a pair of a new list and a value out of one of several defs; such a pair handed on at once; a new list and two values in one assignment. -/
namespace VL
open PySem L2 PyProof.Rows
section
variable {T : TC} {Γ : List (Option VA)} {Ω Ω0 Ω1 Ω2 Ω3 : List OA} {A B C : VA} {As Ks : List VA} {a : FT} {i : Nat} {S : Addr → Sp → Prop} {ta tb te : TE} {D : Ends} {F0 : Hp} {ts : TS}
/-- arguments, among them a pair of a new list at p -/
def XAN (t : TA) (Γ : List (Option VA)) (Ω : List OA) (As : Addr → List VA) (Ω2 : Addr → List OA) : Prop :=
  ∀ F σ H, Env F σ Γ → Holds F Ω H → ∀ Q : List V → Hp → Prop, (∀ F' vs H' p, Same F F' → Holds F' (Ω2 p) H' → AlA F' vs (As p) → Q vs H') → t σ H Q
end
end VL

set_option Elab.async false
set_option linter.all false
set_option maxRecDepth 100000
/-! VL29: == and != of machines, with a new one, with a tuple; a machine made by keywords; in of a dict that changes; new lists told by a machine; a method of a new machine. -/
namespace VL
open PySem L2 PyProof.Rows
section
variable {T : TC} {Γ : List (Option VA)} {Ω Ω0 Ω1 Ω2 Ω3 : List OA} {A B C : VA} {As Ks : List VA} {ta tb te : TE} {D : Ends} {F0 : Hp} {ts : TS} {p p2 : Addr} {k k2 : Nat} {x y s : MS} {r : Bool}
end
/-! ### machine == a tuple -/
def otherT (K : PySem.W.Frag) (C : Addr) : Bool := PySem.W.notFirst K C (.type "tuple") && decide (PySem.W.kitOne K (.type "tuple") (.ref C) = some false)
def rOwnXT (K : PySem.W.Frag) (C : Addr) (sp : Sp) : R2 := fun x y H Q => ∃ a dx fs b xs, x = .ref a ∧ H a = some (.ins C dx fs) ∧ y = .ref b ∧ SqT K H b xs ∧ sp [x, y] H (fun v H' => v = .bl false ∧ Q (.bl false) H') E0
section
variable {X : Cx} {n : Nat} {C f : Addr} {fd : FuncData} {ps : List Str} {sp : Sp}
structure CalEqT (P : Program) (w : World) (K : PySem.W.Frag) (mg : Str → Option Value) (base : Heap) (n : Nat) (C : Addr) (sp : Sp) : Prop where
  ex : ∃ f fd, FnOk P w K mg base CX0 n f fd ["self", "other"] sp ∧ otherT K C = true ∧ Meth K C "__eq__" f ∧ Binds K fd ["self", "other"] []
end
/-- what __eq__ of a machine tells beside a tuple -/
def PreXT (T : TC) : PreT := fun As Ω R => ∃ (k0 : Nat) (p0 : Addr) (x0 : MS) (A : VA), As = [vr p0, A] ∧ Ω[k0]? = some (machA T p0 x0) ∧ (∀ F H v, Holds F Ω H → A.P F v → ∃ b xs, v = .ref b ∧ SqT T.K H b xs) ∧ R = RV (va T false) (stt Ω [] [])
section
variable {T : TC} {Γ : List (Option VA)} {Ω Ω0 Ω1 Ω2 Ω3 : List OA} {A B C : VA} {As Ks : List VA} {ta tb te : TE} {p : Addr} {k : Nat} {x s : MS} {r : Bool}
def rNoN : R2 := fun x y H Q => y = .non ∧ Q (.bl (!decide (x = .non))) H
/-! ### new lists that a machine tells -/
def Pre_Mach_tallyN (T : TC) : PreT := fun As Ω R => ∃ (k : Nat) (p : Addr) (s : MS), As = [vr p] ∧ Ω[k]? = some (machA T p s) ∧ R = RN Ω (fun q => lstA T q s.tally)
def Pre_Mach_walkN (T : TC) : PreT := fun As Ω R => ∃ (k : Nat) (p : Addr) (s : MS), As = [vr p] ∧ Ω[k]? = some (machA T p s) ∧ R = RN Ω (fun q => lstA T q s.wk)
structure CalCK (P : Program) (w : World) (K : PySem.W.Frag) (mg : Str → Option Value) (base : Heap) (k : Nat) (x : Str) (C : Addr) (ps ks : List Str) (ix : List Nat) (sp : Sp) : Prop where
  ex : ∃ f fd g, FnOk P w K mg base CX0 k f fd ps sp ∧ mg x = some (.ref C) ∧ Mk K C f ∧ KBn K fd ps 1 ks g (fun vs zs => prm ix (vs ++ zs))
end
end VL

set_option Elab.async false
set_option linter.all false
set_option maxRecDepth 100000
/-! VL30: a dict with three numbers, a dict and a list that change (a law's own tally and walk): made, its parts; ways that are never taken; ranges by a step; max of a list. -/
namespace VL
open PySem L2 PyProof.Rows
def wkv (b c B : Int) (d e : Addr) : List (Key × V) := [(Sum.inr ("bits" : Str), .int b), (Sum.inr ("cutoff" : Str), .int c), (Sum.inr ("base" : Str), .int B), (Sum.inr ("counts" : Str), .ref d), (Sum.inr ("walk" : Str), .ref e)]
section
variable {b c B : Int} {d e : Addr}
theorem valV_hit {k : Key} {v : V} {r : List (Key × V)} : valV ((k, v) :: r) k = some v := by
  unfold valV
  rw [List.find?_cons_of_pos (p := fun kv : Key × V => decide (kv.1 = k)) (decide_eq_true rfl)]
  rfl
theorem valV_miss {j k : Key} {v : V} {r : List (Key × V)} (h : j ≠ k) : valV ((j, v) :: r) k = valV r k := by
  unfold valV
  rw [List.find?_cons_of_neg (p := fun kv : Key × V => decide (kv.1 = k)) (fun q => h (of_decide_eq_true q))]
theorem ks_ne {x y : Str} (h : x ≠ y) : (Sum.inr x : Key) ≠ Sum.inr y := fun e => h (Sum.inr.inj e)
end
section
variable {T : TC} {Γ : List (Option VA)} {Ω Ω0 Ω1 Ω2 Ω3 : List OA} {A B' C : VA} {ta tb te : TE} {D : Ends} {F0 : Hp} {ts : TS} {b c B : Int} {p : Addr} {k : Nat}
theorem xe_wget {kvs : List (Key × V)} {key : Str} {v : V} (ha : XE ta Γ Ω (vr p) Ω1) (hb : XE tb Γ Ω1 (va T key) Ω2) (hk : Ω2[k]? = some (rawD p kvs)) (hv : valV kvs (Sum.inr key : Key) = some v) (hA : ∀ F, A.P F v) : XE (tDGet ta tb) Γ Ω A Ω2 := fun F σ H e hh Q q => by
  refine ha F σ H e hh _ fun F1 x H1 Ω' e1 hh1 ⟨a1, o1⟩ => ?_
  subst o1
  refine hb F1 σ H1 (e.mono e1) hh1 _ fun F2 y H2 Ω' e2 hh2 ⟨a2, o2⟩ => ?_
  subst o2
  have a1 : x = V.ref p := a1
  have a2 : y = V.str key := a2
  subst a1 a2
  obtain ⟨t, h1, h3, _⟩ := hh2.get hk
  have h1 : t p = some (.dK kvs) := h1
  exact ⟨p, v, rfl, .inl ⟨kvs, Sum.inr key, .inl (h3 _ _ h1), rfl, hv.symm⟩, q F2 _ H2 _ (e1.trans e2) hh2 ⟨hA F2, rfl⟩⟩
/-- such a dict, new -/
def RNW (T : TC) (Ω2 : List OA) (b c B : Int) : Hp → V → List OA → Prop := fun _ v Ω' => ∃ p d e, v = .ref p ∧ Ω' = Ω2 ++ [rawD p (wkv b c B d e), rawD d (dkv []), lstA T e ([] : List (T3 Str Int Int))]
theorem stt_apps {ks : List (Nat × OA)} {L M : List OA} : stt Ω ks L ++ M = stt Ω ks (L ++ M) := List.append_assoc _ _ _
/-! ### is None -/
def rIsNo : R2 := fun x y H Q => y = .non ∧ Q (.bl (decide (x = .non))) H
def tNo : TE := fun _ _ _ => False
/-! ### max of a list -/
def maxL : List Int → Int
  | [] => 0
  | [a] => a
  | a :: r => max a (maxL r)
end
end VL
namespace VL
open PySem L2 PyProof.Rows
/-! ### range(0, j, c) -/
def rngS (c : Int) (n : Nat) : List Int := (List.range n).map fun (k : Nat) => 0 + (k : Int) * c
def CRg (j c : Int) : Prop := 0 < c ∧ c < 2 ^ 30 ∧ 0 ≤ j ∧ j < 2 ^ 30
theorem wk_rangeS {n : Nat} {c : Int} {T : TC} : Wk (Itc 0 c n) (fun _ => True) (rngS c n) (fun a => va T a) where
  mono := fun _ _ _ _ => trivial
  go := fun i F Ω H _ _ hi => by
    have hi : i < n := by simpa [rngS] using hi
    exact hi
  stop := fun F Ω H _ _ => by show n ≤ _; simp [rngS]
  yld := fun i a F Ω H x H' _ hh hx y => by
    obtain ⟨e, y⟩ := y
    subst e y
    refine ⟨F, Same.refl F, hh, ?_⟩
    show V.int _ = V.int a
    unfold rngS at hx
    rw [List.getElem?_map] at hx
    cases hr : (List.range n)[i]? with
    | none => rw [hr] at hx; cases hx
    | some k =>
      rw [hr] at hx
      have hk : i = k := by
        obtain ⟨h1, h2⟩ := List.getElem?_eq_some_iff.mp hr
        rw [List.getElem_range] at h2
        exact h2
      subst hk
      cases hx
      rfl
theorem rgc_ok {j c : Int} (h : CRg j c) : RgC 0 j c ((j + c - 1) / c).toNat := by
  obtain ⟨h1, h2, h3, h4⟩ := h
  have e := rangeSize_pos (len := j) (c := c) (by omega) h3
  have q0 : 0 ≤ (j + c - 1) / c := Int.ediv_nonneg (by omega) (by omega)
  have q1 : (j + c - 1) / c ≤ j + c - 1 := Int.ediv_le_self _ (by omega)
  refine ⟨by omega, by omega, ?_, by rw [e]; omega⟩
  unfold Builtin.Range.small
  rw [e]
  simp only [Builtin.Range.rangeFitsLong, Bool.and_eq_true, Bool.or_eq_true, decide_eq_true_eq, beq_iff_eq, show c > 0 from h1, if_true]
  omega
section
variable {T : TC} {Γ : List (Option VA)} {Ω Ω1 Ω2 : List OA} {B' : VA} {As : List VA}
theorem xi_rangeS {j c : Int} {ta : TA} (ha : XA ta Γ Ω [va T (0 : Int), va T j, va T c] Ω1) (h : CRg j c) : XI (iRng3 ta) Γ Ω (rngS c ((j + c - 1) / c).toNat) (fun a => va T a) Ω1 := fun F σ H e hh R r => by
  refine ha F σ H e hh _ fun F1 vs H1 e1 hh1 a1 => ?_
  cases a1 with
  | cons a1 t =>
    obtain ⟨v, w, rfl, a2, a3⟩ := alA2 t
    have a1 : _ = V.int 0 := a1
    have a2 : v = .int j := a2
    have a3 : w = .int c := a3
    subst a1 a2 a3
    exact ⟨0, j, c, _, rfl, rgc_ok h, r F1 _ H1 _ e1 hh1 wk_rangeS trivial⟩
end
end VL

set_option Elab.async false
set_option linter.all false
set_option maxRecDepth 100000
/-! VL31: reversed(range(n)). -/
namespace VL
open PySem L2 PyProof.Rows
section
variable {T : TC} {Γ : List (Option VA)} {Ω Ω1 Ω2 : List OA} {A B C : VA} {ta tb te : TE}
theorem xi_revR {i : Int} (ha : XE te Γ Ω (va T i) Ω1) (h1 : -(2 ^ 62) ≤ i ∧ i < 2 ^ 62) : XI (iRevR (tRg1 te)) Γ Ω (rngD (i - 1) i.toNat) (fun a => va T a) Ω1 := fun F σ H e hh R r => by
  refine ha F σ H e hh _ fun F1 v H1 Ω' e1 hh1 ⟨a1, o1⟩ => ?_
  subst o1
  have a1 : v = .int i := a1
  refine ⟨i, a1, by omega, by decide, h1.1, h1.2, ?_⟩
  by_cases hi : 0 ≤ i
  · have e1' : (0 : Int) + (((i - 0).toNat : Nat) : Int) - 1 = i - 1 := by omega
    have e2' : (i - 0).toNat = i.toNat := by omega
    rw [e1', e2']
    exact r F1 _ H1 _ e1 hh1 wk_rangeD trivial
  · have e2' : (i - 0).toNat = 0 := by omega
    have e3' : i.toNat = 0 := by omega
    have hz : rngD (i - 1) i.toNat = rngD (0 + ((0 : Nat) : Int) - 1) 0 := by rw [e3']; rfl
    rw [hz] at r
    rw [e2']
    exact r F1 _ H1 _ e1 hh1 wk_rangeD trivial
end
end VL

set_option Elab.async false
set_option linter.all false
set_option maxRecDepth 100000
/-! VL32: defs with defaults and keyword-only parameters. -/
namespace VL
open PySem L2
open PyProof.Rows (envOfC)
section
variable {P : Program} {w : World} {K : PySem.W.Frag} {mg : Str → Option Value} {base : Heap}
/-- a def that may be called, what is not written filled up -/
structure CalD (P : Program) (w : World) (K : PySem.W.Frag) (mg : Str → Option Value) (base : Heap) (k : Nat) (x : Str) (ps : List Str) (dvs : List V) (sp : Sp) : Prop where
  ex : ∃ f fd ds, FnOk P w K mg base CX0 k f fd ps sp ∧ mg x = some (.ref f) ∧ PySem.W.keepIn K (.ref f) = true ∧ Vals dvs ds ∧ Binds K fd ps ds
structure CalKD (P : Program) (w : World) (K : PySem.W.Frag) (mg : Str → Option Value) (base : Heap) (k : Nat) (x : Str) (ps : List Str) (n : Nat) (ks : List Str) (dvs : List V) (ix : List Nat) (sp : Sp) : Prop where
  ex : ∃ f fd g, FnOk P w K mg base CX0 k f fd ps sp ∧ mg x = some (.ref f) ∧ PySem.W.keepIn K (.ref f) = true ∧ KBn K fd ps n ks g (fun vs zs => prm ix (vs ++ (dvs ++ zs)))
end
section
variable {X : Cx} {k n : Nat} {x : Str} {ps ks : List Str} {dvs : List V} {ix : List Nat} {sp : Sp} {p pos : Pos} {e : Expr} {es : List Expr} {kws : List Keyword} {t tk : TA}
end
section
variable {T : TC} {Γ : List (Option VA)} {Ω Ω1 Ω2 Ω3 : List OA} {A : VA} {As Ks Ds : List VA} {dvs : List V}
end
end VL

set_option Elab.async false
set_option linter.all false
set_option maxRecDepth 100000
/-! VL33: a list of two new machines. -/
namespace VL
open PySem L2
theorem Holds.reidx {F H : Hp} {Ω Ω' : List OA} (h : Holds F Ω H) (f : Nat → Nat) (hf : ∀ i o, Ω'[i]? = some o → Ω[f i]? = some o) (inj : ∀ i j, i < Ω'.length → j < Ω'.length → f i = f j → i = j) : Holds F Ω' H := by
  obtain ⟨ts, h1, h2, h3, h4, h5⟩ := h
  have lt : ∀ i, i < Ω'.length → f i < Ω.length := fun i q => getlt (hf i _ (List.getElem?_eq_getElem q))
  exact ⟨fun i => ts (f i), fun i o q => h1 _ o (hf i o q), h2, fun i q => h3 _ (lt i q), fun i b x q e => h4 _ b x (lt i q) e, fun i j b x qi qj ne e => h5 _ _ b x (lt i qi) (lt j qj) (fun z => ne (inj i j qi qj z)) e⟩
theorem Holds.dropAt {F H : Hp} {Ω M : List OA} {o : OA} (h : Holds F (Ω ++ o :: M) H) : Holds F (Ω ++ M) H := by
  refine h.reidx (fun i => if i < Ω.length then i else i + 1) (fun i x q => ?_) (fun i j _ _ e => ?_)
  · show (Ω ++ o :: M)[if i < Ω.length then i else i + 1]? = some x
    by_cases c : i < Ω.length
    · rw [if_pos c, List.getElem?_append_left c]; rwa [List.getElem?_append_left c] at q
    · rw [if_neg c, List.getElem?_append_right (by omega)]
      rw [List.getElem?_append_right (by omega)] at q
      rw [show i + 1 - Ω.length = (i - Ω.length) + 1 from by omega]
      exact q
  · have e : (if i < Ω.length then i else i + 1) = if j < Ω.length then j else j + 1 := e
    split at e <;> split at e <;> omega
def rawLA (d : Addr) (vs : List V) : OA := ⟨fun _ t => t d = some (.lst vs), fun _ h => h⟩
/-- hands back a list of two new machines -/
abbrev RMM (T : TC) (Ω2 : List OA) (s1 s2 : MS) : Hp → V → List OA → Prop := fun F v Ω' => ∃ p q1 q2, v = .ref p ∧ F p = some (.lst [.ref q1, .ref q2]) ∧ Ω' = Ω2 ++ [machA T q1 s1, machA T q2 s2]
section
variable {T : TC} {Γ : List (Option VA)} {Ω Ω0 Ω1 Ω2 : List OA} {As : List VA} {ta tb te : TE}
theorem xg_lcMM {β : Type} {xs : List β} {wi : L2.TI} {g : TG} {tt : TT} {vs : List Nat} {A : β → VA} {f : β → List (Option VA) → List (Option VA)} {js : List Nat} {s : MS}
    (hi : XI wi Γ Ω0 xs A Ω1) (ht : ∀ a, Tgt g (A a) (f a) js) (hj : ∀ j ∈ js, j ∈ vs) (hx : xs.length = 2)
    (htt : ∀ a Ωx, XT tt (f a (wip Γ vs)) Ωx true Ωx) (hb : ∀ a Ωx, XG te (f a (wip Γ vs)) Ωx (RN Ωx fun q => machA T q s)) :
    XG (tLc wi g tt te vs) Γ Ω0 (RMM T Ω1 s s) := by
  intro F σ H e hh Q q
  refine hi F σ H e hh _ fun F1 J H1 Sx e1 hh1 W sx => fun d hd => ?_
  refine ⟨fun i m H => m = 2 - i ∧ i ≤ 2 ∧ ∃ (F : Hp) (qs : List Addr), qs.length = i ∧ Same F1 F ∧ Sx F ∧ Holds F (Ω1 ++ rawLA d (qs.map V.ref) :: qs.map (fun q => machA T q s)) H,
    ⟨2, rfl, Nat.zero_le _, F1, [], rfl, Same.refl _, sx, hh1.newL (o := rawLA d []) hd upd_same⟩, ?_⟩
  rintro i m H ⟨rfl, hi, F, qs, hq, f1, sx, hh⟩
  by_cases hlt : i < xs.length
  · refine .inr ⟨W.go i F _ H sx hh hlt, ?_⟩
    have hx : xs[i]? = some xs[i] := List.getElem?_eq_getElem hlt
    refine ⟨fun H' => ∃ (F : Hp) (qs : List Addr), qs.length = i + 1 ∧ Same F1 F ∧ Sx F ∧ Holds F (Ω1 ++ rawLA d (qs.map V.ref) :: qs.map (fun q => machA T q s)) H', fun H' n => ⟨2 - (i + 1), by omega, rfl, by omega, n⟩, fun x H' y => ?_⟩
    obtain ⟨F2, e2, hh2, a2⟩ := W.yld i _ F _ H x H' sx hh hx y
    have en : Env F2 (wipe σ vs) (wip Γ vs) := wip_env ((e.mono e1).mono (f1.trans e2)) vs
    refine ht xs[i] F2 (wipe σ vs) (wip Γ vs) x H' _ en hh2 a2 _ fun F3 σ3 H3 e3 en3 hh3 hw => ⟨(hw vs hj).trans (wipe_wipe vs), ?_⟩
    refine htt xs[i] _ F3 σ3 H3 en3 hh3 _ fun F4 H4 e4 hh4 => ?_
    rw [if_pos rfl]
    refine hb xs[i] _ F4 σ3 H4 (en3.mono e4) hh4 _ fun F5 v H5 Ω5 e5 hh5 ⟨p, ev, o5⟩ => ?_
    subst ev o5
    have hk : (Ω1 ++ rawLA d (qs.map V.ref) :: qs.map (fun q => machA T q s) ++ [machA T p s])[Ω1.length]? = some (rawLA d (qs.map V.ref)) := by simp
    obtain ⟨t, w1, st, _, wr⟩ := hh5.get hk
    refine ⟨qs.map V.ref, st _ _ w1, by rw [List.length_map, hq]; exact Nat.lt_of_lt_of_le (show i < 3 by omega) (by decide), ?_⟩
    have hh6 := wr (rawLA d ((qs ++ [p]).map V.ref)) d _ (.lst (qs.map V.ref ++ [V.ref p])) w1 (by show upd t d _ d = _; rw [upd_same, List.map_append]; rfl)
    refine ⟨F5, qs ++ [p], by rw [List.length_append, hq]; rfl, f1.trans (e2.trans (e3.trans (e4.trans e5))), W.mono _ _ (e2.trans (e3.trans (e4.trans e5))) sx, ?_⟩
    have es : (Ω1 ++ rawLA d (qs.map V.ref) :: qs.map (fun q => machA T q s) ++ [machA T p s]).set Ω1.length (rawLA d ((qs ++ [p]).map V.ref)) = Ω1 ++ rawLA d ((qs ++ [p]).map V.ref) :: (qs ++ [p]).map (fun q => machA T q s) := by
      rw [List.append_assoc, List.set_append_right _ _ (Nat.le_refl _), Nat.sub_self, List.cons_append, List.set_cons_zero, List.map_append (f := fun q => machA T q s)]
      rfl
    rw [es] at hh6
    exact hh6
  · have ei : i = 2 := by omega
    subst ei
    refine .inl ⟨W.stop F _ H sx hh |> fun z => (by
      have : xs.length = 2 := hx
      rw [this] at z
      exact z), ?_⟩
    match qs, hq with
    | [q1, q2], _ =>
      have hk : (Ω1 ++ rawLA d [V.ref q1, V.ref q2] :: [machA T q1 s, machA T q2 s])[Ω1.length]? = some (rawLA d [V.ref q1, V.ref q2]) := by simp
      obtain ⟨F', t, s1, s2, w1, hh'⟩ := Holds.freezeAt (show Holds F (Ω1 ++ rawLA d [V.ref q1, V.ref q2] :: [machA T q1 s, machA T q2 s]) H from hh) hk
      rw [List.set_append_right _ _ (Nat.le_refl _), Nat.sub_self, List.set_cons_zero] at hh'
      exact q F' (.ref d) H _ (e1.trans (f1.trans s1)) hh'.dropAt ⟨d, q1, q2, rfl, s2 _ _ w1, rfl⟩
theorem xn_callMM {Pre : PreT} {E : XK} {t : TA} {Ω' : List OA} {s1 s2 : MS} (ha : XA t Γ Ω As Ω1) (hp : Pre As Ω1 (RMM T Ω' s1 s2)) (he : Ω' = Ω2) : XG (tCall (mkSp Pre) [] E t) Γ Ω (RMM T Ω2 s1 s2) := he ▸ xg_call ha hp
variable {F0 : Hp}
theorem Holds.dropMany {F H : Hp} {Ω L M : List OA} (h : Holds F (Ω ++ L ++ M) H) : Holds F (Ω ++ M) H := by
  refine h.reidx (fun i => if i < Ω.length then i else i + L.length) (fun i x q => ?_) (fun i j _ _ e => ?_)
  · show (Ω ++ L ++ M)[if i < Ω.length then i else i + L.length]? = some x
    rw [List.append_assoc]
    by_cases c : i < Ω.length
    · rw [if_pos c, List.getElem?_append_left c]; rwa [List.getElem?_append_left c] at q
    · rw [if_neg c, List.getElem?_append_right (by omega), List.getElem?_append_right (by omega)]
      rw [List.getElem?_append_right (by omega)] at q
      rw [show i + L.length - Ω.length - L.length = i - Ω.length from by omega]
      exact q
  · have e : (if i < Ω.length then i else i + L.length) = if j < Ω.length then j else j + L.length := e
    split at e <;> split at e <;> omega
theorem RT.allMM {Q : VK} {ks : List (Nat × OA)} {L : List OA} {s1 s2 : MS} (k : RT F0 (RMM T (stt Ω ks []) s1 s2) Q) : RT F0 (RMM T (stt Ω ks L) s1 s2) Q := fun F v H Ω' f hh ⟨p, q1, q2, a, b, e⟩ => by
  subst e
  refine k F v H _ f (Holds.dropMany (Ω := stt Ω ks []) (L := L) ?_) ⟨p, q1, q2, a, b, rfl⟩
  have es : stt Ω ks [] ++ L = stt Ω ks L := by unfold stt; rw [List.append_nil]
  rw [es]
  exact hh
end
end VL

set_option Elab.async false
set_option linter.all false
set_option maxRecDepth 100000
/-! VL34: count of a text in a list of texts. -/
namespace VL
open PySem L2
/-- how often -/
def cntStr (k : Str) (l : List Str) : Nat := l.countP (· == k)
def rCntS (K : PySem.W.Frag) : V → List V → Hp → VK → Prop := fun x xs H Q => ∃ (p : Addr) (l : List Str) (k : Str), x = .ref p ∧ xs = [.str k] ∧ SqL K H p (l.map V.str) ∧ Q (.int (cntStr k l : Nat)) H
section
variable {T : TC} {Ω Ω1 Ω2 : List OA}
end
end VL

set_option Elab.async false
set_option linter.all false
set_option maxRecDepth 100000
set_option maxHeartbeats 1000000
/-! VL35: list(reversed(l)) of a list. -/
namespace VLR
open PySem PySem.Spec PyProof.Rows RT
section
variable {prog : Program} {w : World} {A : Around} {E : Value → Shared → Prop} {s : Shared}
end
end VLR
namespace VL
open PySem PySem.Spec PyProof.Rows L2 _root_.RT
section
variable {X : Cx}
def tListRev (K : PySem.W.Frag) (te : TE) : TE := fun σ H Q => te σ H fun v H1 => ∃ (a : Addr) (xs : List V), v = .ref a ∧ SqL K H1 a xs ∧ ∀ q, H1 q = none → Q (.ref q) (upd H1 q (.lst xs.reverse))
end
section
variable {T : TC} {Ω Ω1 : List OA}
end
section
variable {T : TC} {Ω Ω1 Ω2 : List OA}
/-- a text among texts -/
def inS (k : Str) (l : List Str) : Bool := l.any fun y => y == k
end
end VL

set_option Elab.async false
set_option linter.all false
set_option maxRecDepth 100000
/-! VL36: a tuple of one thing and a pair make a triple. -/
namespace VL
open PySem L2
section
variable {T : TC} {Ω Ω1 Ω2 : List OA}
end
end VL

set_option Elab.async false
set_option linter.all false
set_option maxRecDepth 100000
/-! VL37: a dict that changed, locked within a pair that is handed back; both things of a pair one by one. -/
namespace VL
open PySem L2 PyProof.Rows
/-- some dict is locked for good -/
def tFzA (te : TE) : TE := fun σ H Q => te σ H fun v H1 => ∃ p kvs, H1 p = some (.dK kvs) ∧ ∀ od, Q v (upd H1 p (.frz od (.dK kvs)))
section
variable {T : TC} {Γ : List (Option VA)} {Ω Ω1 Ω2 Ω3 : List OA} {A B C : VA} {ta tb te : TE} {D : Ends} {F0 : Hp} {ts : TS}
end
end VL

set_option Elab.async false
set_option linter.all false
set_option maxRecDepth 100000
set_option maxHeartbeats 2000000
/-! VL38: a lambda with one parameter, handed to a def that calls it with a machine. -/
namespace VL
open PySem PySem.Spec PyProof.Rows L2 LamX
/-- the context of the body of such a lambda: the caller's names and its own -/
def lamCx1 (X : Cx) (nm : Str) (A : Around) (outer : List PySem.Env) (s : Shared) (H : Hp) (E : XK) (scope : Scope) (f c' : Addr) : Cx := { lamCx X A outer s H E scope f c' with N := X.N ++ [nm] }
section
variable {X : Cx} {pins : List (Addr × Obj)} {σ : L2.St} {H HZ : Hp} {s s1 : Shared}
theorem lam_start1 {A : Around} {outer : List PySem.Env} {E : XK} {scope : Scope} {nm : Str} {f c' : Addr} {h₁ : Heap} {tk : Nat} {v : V} {u : Value} (I : Inv X pins σ H s) (L : LamSD X.N nm X.env.scope scope) (e0 : Env0 X.prog X.w X.K X.mg X.base A outer s1 HZ) (hd : A.handled = none)
    (un : Un (frs X.stack) [] H HZ s.heap s1.heap) (rv : RelV v u) (hns : h₁.Ns s1.heap.objs.size fun y => ([(nm, u)] : List (Str × Value)).reverse.lookup y) (kp : ∀ b o, s1.heap.get? b = some o → h₁.get? b = some o) :
    Inv (lamCx1 X nm A outer s1 HZ E scope f c') [] (σ ++ [some v]) HZ { s1 with heap := h₁, toks := tk } := by
  have hfree := L.has I.ok
  have cm : ∀ {y c}, (cloFrom X.env.cells scope.names []).lookup y = some c → X.env.cells.lookup y = some c := fun {y c} e => by
    rcases cloFrom_mem (PySem.mem_of_lookup e) with hm | ⟨h1, h2⟩
    · cases hm
    · obtain ⟨c1, hc⟩ := hfree _ h1 rfl
      have hc : X.env.cells.lookup y = some c1 := hc
      have e2 : c = c1 := by
        rw [h2, hc] <;> rfl
      rw [e2]
      exact hc
  have look : ∀ {y}, scope.names.lookup y = some .free → ∃ c, (cloFrom X.env.cells scope.names []).lookup y = some c := fun {y} hl => by
    have hy : (y, NameKind.free) ∈ scope.names := PySem.mem_of_lookup hl
    exact mem_lookup (cloFrom_has (cells := X.env.cells) (acc := []) hy)
  have cellK : ∀ {c : Addr} {v : Option Value}, H c = none → s.heap.IsCell c v → h₁.IsCell c v := fun {c v} n ⟨o, ho, hd⟩ => by
    obtain ⟨sl, q⟩ := un.any ho n (by simp)
    exact ⟨_, kp _ _ q, hd⟩
  have noA : ∀ b : Addr, b ∉ (lamCx1 X nm A outer s1 HZ E scope f c').ex := fun b z => absurd (show b ∈ ([] : List Addr) from z) (by simp)
  refine ⟨⟨e0.mod, L.kind, rfl, rfl, Nat.le_refl _, fun y z c e1 e2 => I.ok.inj y z c (cm e1) (cm e2), fun y hy => ?_, fun y c z _ => ?_, fun _ => hd, Around.frames_deeper e0.frames, .inr ⟨rfl, rfl⟩, fun b z => absurd z (noA b), e0.bs, e0.bsz, fun b _ _ => noA b,
      fun b z => absurd z (noA b), e0.funs, e0.frf⟩,
    rfl, e0.bare, Un.kept kp, ⟨_, hns, fun i y v' e1 e2 e3 => ?_⟩, fun y c e => ?_, e0.hok.fresh (Nat.le_refl _), fun y c e => ?_, fun q hq => absurd (show q ∈ ([] : List (Addr × Obj)) ++ [] from hq) (by simp), e0.hok.kept kp, ?_⟩
  · have hy : scope.names.lookup y = some .cell ∨ scope.names.lookup y = some .free := hy
    rcases hy with hy | hy
    · exact absurd rfl (L.own _ (PySem.mem_of_lookup hy)).1
    · exact look hy
  · have z : false = true := z
    cases z
  · have e1 : (X.N ++ [nm])[i]? = some y := e1
    have ll := I.len
    by_cases hi : i < X.N.length
    · rw [List.getElem?_append_left hi] at e1
      rw [List.getElem?_append_left (by rw [ll]; exact hi)] at e2
      have e3 : Vis scope y := e3
      rcases e3 with k | k | k
      · have hN : y ∈ X.N := List.mem_of_getElem? e1
        exact absurd hN ((L.own _ (PySem.mem_of_lookup k)).2 rfl)
      · exact absurd rfl (L.own _ (PySem.mem_of_lookup k)).1
      · obtain ⟨m, hn, hl⟩ := I.loc
        have hvis : Vis X.env.scope y := (L.free _ (PySem.mem_of_lookup k) rfl).elim (fun k => .inr (.inl k)) (fun k => .inr (.inr k))
        obtain ⟨w', r, q⟩ := hl i y v' e1 e2 hvis
        obtain ⟨c2, h2⟩ := look k
        refine ⟨w', r, .inr ⟨.inr k, c2, h2, ?_⟩⟩
        have c1 := cm h2
        rcases q with ⟨k', _⟩ | ⟨_, c3, e', z⟩
        · have k' : X.env.scope.names.lookup y = some .local := k'
          rcases L.free _ (PySem.mem_of_lookup k) rfl with k2 | k2 <;> rw [show X.env.scope.names.lookup y = _ from k2] at k' <;> cases k'
        · rw [c1] at e'
          cases e'
          exact cellK (I.freeC y _ c1) z
    · have hi2 : i = X.N.length := by
        have := getlt e1
        rw [List.length_append] at this
        have : i < X.N.length + 1 := this
        omega
      subst hi2
      rw [List.getElem?_append_right (Nat.le_refl _), Nat.sub_self] at e1
      rw [← ll, List.getElem?_append_right (Nat.le_refl _), Nat.sub_self] at e2
      have e1 : some nm = some y := e1
      have e2 : some (some v) = some (some v') := e2
      cases e1
      cases e2
      refine ⟨u, rv, .inl ⟨L.par, ?_⟩⟩
      show ([(nm, u)] : List (Str × Value)).reverse.lookup nm = some u
      simp [List.lookup]
  · obtain ⟨w', z⟩ := I.cell y c (cm e)
    exact ⟨w', cellK (I.freeC y c (cm e)) z⟩
  · obtain ⟨v, o, ho, hd⟩ := I.cell y c (cm e)
    exact un.free c o ho (I.freeC y c (cm e)) (by simp)
  · show (σ ++ [some v]).length = (X.N ++ [nm]).length
    rw [List.length_append, List.length_append, I.len]
    rfl
/-- what a call of the name with one value makes -/
def tAct1 (i : Nat) (f c' : Addr) (q : Str) (act : V → Hp → VK → Prop) (te : TE) : TE := fun σ H Q => σ[i]? = some (some (.ref f)) ∧ te σ H fun v H1 => H1 c' = some (CodeO c' q) ∧ act v H1 Q
theorem pe_act1 {CXg : CXT} {Eg : XK} {Ng : List Str} {qg : Str} {sg : Scope} {g f c' : Addr} {cdg pm ctv : Value} {nm : Str} {params : Arguments} {body : Expr} {scope : Scope} {k i : Nat} {a : Str} {pn : List (Addr × Obj)} {xe : Value → Shared → Prop} {W : WX} {E : XK} {tb te : TE} {p1 p2 : Pos} {e : Expr}
    (I : Inv X pins σ H s) (L : LamSD X.N nm X.env.scope scope) (hf : s.heap.get? f = some (PySem.W.kla_obj "<lambda>" (X.env.qual ++ "<lambda>") params body scope (cloFrom X.env.cells scope.names []) pm c' ctv)) (hfn : H f = none) (hfr : f ∉ frs X.stack)
    (hbind : ∀ u : Value, bindArgs (PySem.W.kla_fn "<lambda>" (X.env.qual ++ "<lambda>") params body scope (cloFrom X.env.cells scope.names []) pm (.ref c') ctv) ⟨[u], []⟩ = pure [(nm, u)])
    (tk : Takes ((cxOf CXg X.prog X.w X.K X.mg X.base Ng qg sg g cdg X.A X.stack s H Eg).tr pn xe) W) (hW : ∀ cls d σ' H', E cls d H' → W cls d σ' H') (hr : Room (k + 1) (X.A.deeper (envOfC qg sg s.heap.objs.size g cdg)))
    (hbody : ∀ (A : Around) (outer : List PySem.Env) (s : Shared) (H : Hp), Room k (A.deeper (lamEnv X scope s.heap.objs.size f c')) → PE (lamCx1 X nm A outer s H E scope f c') body tb)
    (hN : Ng[i]? = some a) (hv : Vis sg a)
    (he : PE ((cxOf CXg X.prog X.w X.K X.mg X.base Ng qg sg g cdg X.A X.stack s H Eg).tr pn xe) e te) (hst : starEach [e] (envOfC qg sg s.heap.objs.size g cdg) = (false, eval e (envOfC qg sg s.heap.objs.size g cdg)) :: starEach [] (envOfC qg sg s.heap.objs.size g cdg))
    (hd : (a == ("__debug__" : Str)) = false := by decide) (hcd : (a == ("__classdict__" : Str)) = false := by decide) :
    PE ((cxOf CXg X.prog X.w X.K X.mg X.base Ng qg sg g cdg X.A X.stack s H Eg).tr pn xe) (.Call (.Name a p1) [e] [] p2)
      (tAct1 i f c' (X.env.qual ++ "<lambda>") (fun v HZ Q => tb (σ ++ [some v]) HZ Q) te) := by
  refine ⟨fun pinsZ sZ σZ HZ Q IZ h => ?_⟩
  obtain ⟨hs, h⟩ := h
  refine wpAny_Call_Name_kw (thn ((pe_var (pos := p1) (i := i) hN hv hd hcd).run pinsZ sZ σZ HZ (fun v H1 => v = .ref f ∧ H1 = HZ) IZ ⟨.ref f, hs, rfl, rfl⟩) fun u s1 ⟨v, H1, I1, r1, q1⟩ => ?_)
  obtain ⟨ev, eH⟩ := q1
  subst ev
  rw [eH] at I1
  obtain rfl : u = Value.ref f := r1
  have of1 : s1.heap.get? f = some (PySem.W.kla_obj "<lambda>" (X.env.qual ++ "<lambda>") params body scope (cloFrom X.env.cells scope.names []) pm c' ctv) := I1.base.keep f _ hf hfn hfr (fun z => nomatch (show f ∈ ([] : List Addr) from z))
  refine PySem.W.callWith_F (first := []) ⟨_, _, _, _, of1⟩ ?_ hst (by rfl)
  show wpAny _ _ (spliced (backTo p2 (starEach [e] (envOfC qg sg s.heap.objs.size g cdg)))) _ _ s1
  rw [hst]
  show wpAny _ _ (spliced ((false, eval e (envOfC qg sg s.heap.objs.size g cdg)) :: [])) _ _ s1
  refine Calls.spliced_cons (thn (he.run pinsZ s1 σZ HZ _ I1 h) fun u s2 ⟨v, H2, I2, r2, hc, ht⟩ => ?_)
  have of2 : s2.heap.get? f = some (PySem.W.kla_obj "<lambda>" (X.env.qual ++ "<lambda>") params body scope (cloFrom X.env.cells scope.names []) pm c' ctv) := I2.base.keep f _ hf hfn hfr (fun z => nomatch (show f ∈ ([] : List Addr) from z))
  refine Calls.spliced_nil ⟨⟨_, _, _, _, of2⟩, ?_⟩
  have un : Un (frs X.stack) [] H H2 s.heap s2.heap := I2.base
  obtain ⟨⟨oc, vs, t, hoc, hdc, hvc⟩, _, _⟩ := I2.hok c' _ hc
  have rc : codeAny (model X.prog X.w) (X.A.deeper (envOfC qg sg s.heap.objs.size g cdg)) (.call (.ref f) ⟨[u], []⟩) (CR (L2.CX X.prog X.w) (envOfC qg sg s.heap.objs.size g cdg :: X.stack) X.prog X.w H2 s2 Q E) s2 := by
    refine PySem.W.kla_callFunE hr.depth of2 rfl L.co L.gen rfl ⟨c', oc, vs, t, rfl, hoc, hdc, hvc⟩ ?_
    rw [hbind u]
    refine wpAny_pure (wpAny_newFunctionEnv (fun y hy => (L.own y hy).1) (fun y hy => by rw [List.mem_singleton.mp hy]; exact L.par) (fun h₁ hns hsb => ⟨I2.nolimit.fresh _ hsb, ?_⟩) L.kind)
    show codeAny _ _ (.expr body (lamEnv X scope s2.heap.objs.size f c')) _ _
    have kp : ∀ b o, s2.heap.get? b = some o → h₁.get? b = some o := fun b o e => hsb.extBut b o (Nat.ne_of_lt (Heap.lt_size e)) (Heap.get?_push_of_some _ e)
    have J : Inv (lamCx1 X nm (X.A.deeper (envOfC qg sg s.heap.objs.size g cdg)) (envOfC qg sg s.heap.objs.size g cdg :: X.stack) s2 H2 E scope f c') [] (σ ++ [some v]) H2 { s2 with heap := h₁, toks := s2.toks + ([(nm, u)] : List (Str × Value)).length } :=
      lam_start1 I L I2.env0 hr.hd un r2 hns kp
    refine PySem.W.kla_codeExpr (wpAny_mono ((hbody _ _ s2 H2 (hr.deeper _)).run [] _ _ H2 Q J ht) (fun v s' hq => ?_) fun e s' hq => hq)
    obtain ⟨w', H', J', rv, q⟩ := hq
    exact ⟨w', H', J'.os, J'.bare, J'.base, J'.hok, rv, q⟩
  have hx : Passes (L2.CX X.prog X.w) ((cxOf CXg X.prog X.w X.K X.mg X.base Ng qg sg g cdg X.A X.stack s H Eg).tr pn xe) E := passes_call tk hW
  refine wpAny_call (codeAny_mono rc fun r s' hq => ?_)
  cases r with
  | error e => exact hx pinsZ σZ H2 s2 e s' I2 hq
  | ok fl =>
    cases fl with
    | ret u => exact I2.after hq
    | next => exact False.elim hq
    | brk => exact False.elim hq
    | cont => exact False.elim hq
end
/-! ### a def that is handed such a lambda -/
def ActH1 (P : Program) (w : World) (K : PySem.W.Frag) (mg : Str → Option Value) (base : Heap) (k : Nat) (A : Around) (outer : List PySem.Env) (s : Shared) (H : Hp) (f c' : Addr) (q : Str) (act : V → Hp → VK → Prop) : Prop :=
  ∀ (Ng : List Str) (qg : Str) (sg : Scope) (g : Addr) (cdg : Value) (i : Nat) (a : Str) (p1 p2 : Pos) (e : Expr) (te : TE), Room (k + 1) (A.deeper (envOfC qg sg s.heap.objs.size g cdg)) → Ng[i]? = some a → Vis sg a → (a == ("__debug__" : Str)) = false → (a == ("__classdict__" : Str)) = false →
    PE (cxOf CX0 P w K mg base Ng qg sg g cdg A outer s H E0).nox e te → starEach [e] (envOfC qg sg s.heap.objs.size g cdg) = (false, eval e (envOfC qg sg s.heap.objs.size g cdg)) :: starEach [] (envOfC qg sg s.heap.objs.size g cdg) →
    PE (cxOf CX0 P w K mg base Ng qg sg g cdg A outer s H E0).nox (.Call (.Name a p1) [e] [] p2) (tAct1 i f c' q act te)
abbrev PreLT1 := Addr → Addr → Str → (V → Hp → VK → Prop) → PreT
structure CalL1 (P : Program) (w : World) (K : PySem.W.Frag) (mg : Str → Option Value) (base : Heap) (kl k : Nat) (x : Str) (ps : List Str) (Pre : PreLT1) : Prop where
  ex : ∃ g fd, mg x = some (.ref g) ∧ PySem.W.keepIn K (.ref g) = true ∧ Binds K fd ps [] ∧ (∀ f c' q act As Ω R, Pre f c' q act As Ω R → As.length = ps.length) ∧
    ∀ (A : Around) (outer : List PySem.Env) (s : Shared) (H : Hp) (us : List Value) (vs : List V) (Q : VK) (f c' : Addr) (q : Str) (act : V → Hp → VK → Prop), Room k A → Env0 P w K mg base A outer s H → BindsTo s fd ⟨us, []⟩ (ps.zip us) → Vals vs us →
      ActH1 P w K mg base kl A outer s H f c' q act → mkSp (Pre f c' q act) vs H Q E0 → codeAny (model P w) A (.call (.ref g) ⟨us, []⟩) (CR CX0 outer P w H s Q E0) s
section
variable {P : Program} {w : World} {K : PySem.W.Frag} {mg : Str → Option Value} {base : Heap}
theorem fnL_ok1 {x qual : Str} {st : Stmt} {g : Addr} {fd : FuncData} {N ps : List Str} {k kl : Nat} {Pre : PreLT1} (F : Fun K x qual st g fd) (S : FnScope N ps (defScope st)) (hl : ∀ f c' q act As Ω R, Pre f c' q act As Ω R → As.length = ps.length) (hk : kl + 1 ≤ k)
    (hb : ∀ (cdv : Value) (A : Around) (outer : List PySem.Env) (s : Shared) (H : Hp) (f c' : Addr) (q : Str) (act : V → Hp → VK → Prop), Room k (A.deeper (envOfC qual (defScope st) s.heap.objs.size g cdv)) →
      (∀ (i : Nat) (a : Str) (p1 p2 : Pos) (e : Expr) (te : TE), N[i]? = some a → Vis (defScope st) a → (a == ("__debug__" : Str)) = false → (a == ("__classdict__" : Str)) = false → PE (cxOf CX0 P w K mg base N qual (defScope st) g cdv A outer s H E0).nox e te →
        starEach [e] (envOfC qual (defScope st) s.heap.objs.size g cdv) = (false, eval e (envOfC qual (defScope st) s.heap.objs.size g cdv)) :: starEach [] (envOfC qual (defScope st) s.heap.objs.size g cdv) → PE (cxOf CX0 P w K mg base N qual (defScope st) g cdv A outer s H E0).nox (.Call (.Name a p1) [e] [] p2) (tAct1 i f c' q act te)) →
      ∀ As Ω R F0, Pre f c' q act As Ω R → Bod (cxOf CX0 P w K mg base N qual (defScope st) g cdv A outer s H E0).nox (defBody st) (As.map some ++ List.replicate (N.length - As.length) none) Ω F0 R)
    (hm : mg x = some (.ref g)) (hbd : Binds K fd ps []) : CalL1 P w K mg base kl (k + 1) x ps Pre := by
  refine ⟨g, fd, hm, F.kp, hbd, hl, fun A outer s H us vs Q f c' q act hr e0 hbt rv hact h => ?_⟩
  obtain ⟨F0, Ω, As, R, hp, ha, hh, hq⟩ := h
  obtain ⟨oc, od, kV, doc, pm, an, cdv, ct, osl, rfl, lk, hcd⟩ := F.ex
  refine run_ofS (N := N) (vs := vs) lk hcd S hr e0 hbt rv (by rw [ha.len]; exact hl _ _ _ _ _ _ _ hp) fun hr' => ?_
  obtain ⟨t, h1, h2⟩ := hb cdv A outer s H f c' q act hr' (fun i a p1 p2 e te hN hv hd hcd he hst => hact N qual (defScope st) g cdv i a p1 p2 e te (hr'.mono hk) hN hv hd hcd he hst) As Ω R F0 hp
  exact ⟨t, h1.nox, h2 _ (fun F v H Ω' e hh r => hq F v H Ω' e hh r) (fun F σ H Ω' e hh r => hq F .non H Ω' e hh r) _ _ ⟨F0, Same.refl F0, start_env ha, hh⟩⟩
end
def tLam1 (P : Addr) (q : Str) (Pre : PreLT1) (ta tb : TE) : TE := fun σ H Q => ta σ H fun v H0 => (∃ ps : Array Value, H0 P = some (.tbl ps) ∧ TriplesOk ps.toList ∧ ∀ (pos : Pos) (cv : Value), codeAmong pos ps.toList = some cv → ∃ c, cv = .ref c ∧ H0 c = some (CodeO c q)) ∧
  ∀ f c' H1, Grown H0 P q H1 c' → mkSp (Pre f c' q fun u H' Q' => tb (σ ++ [some u]) H' Q') [v, .ref f] H1 Q E0
section
variable {X : Cx}
theorem pe_lam1 {k kl : Nat} {x nm : Str} {ps : List Str} {Pre : PreLT1} {c P : Addr} {e : Expr} {ta tb : TE} {params : Arguments} {body : Expr} {scope : Scope} {p lpos pos : Pos} (C : CalL1 X.prog X.w X.K X.mg X.base kl k x ps Pre) (hr : Room k X.A) (hg : Gl X x)
    (he : PE X e ta) (TB : TabB X.base X.mg c P) (hcode : X.env.code = .ref c) (L : LamSD X.N nm X.env.scope scope)
    (hbody : ∀ (A : Around) (outer : List PySem.Env) (s : Shared) (H : Hp) (f c' : Addr), Room kl (A.deeper (lamEnv X scope s.heap.objs.size f c')) → PE (lamCx1 X nm A outer s H E0 scope f c') body tb)
    (hdef : defaultsOf params X.env = ([], []) := by rfl)
    (hbind : ∀ (q : Str) (cl : List (Str × Addr)) (pm cv ctv u : Value), bindArgs (PySem.W.kla_fn "<lambda>" q params body scope cl pm cv ctv) ⟨[u], []⟩ = pure [(nm, u)] := by intros; rfl)
    (hdb : (x == ("__debug__" : Str)) = false := by decide) (hst : starEach [e, .Lambda params body scope lpos] X.env = (false, eval e X.env) :: [(false, eval (.Lambda params body scope lpos) X.env)] := by rfl) :
    PE X (.Call (.Name x p) [e, .Lambda params body scope lpos] [] pos) (tLam1 P (X.env.qual ++ "<lambda>") Pre ta tb) := by
  obtain ⟨g, fd, hm, hk, hb, hlen, hrun⟩ := C.ex
  refine ⟨fun pins s σ H Q I h => ?_⟩
  refine wpAny_Call_Name_kw (ld_glob I hg hm ?_ hdb)
  refine PySem.W.callWith_K (h₀ := X.base) I.ok.mod.kin hk ?_ hst (by rfl)
  rw [hst]
  show wpAny _ _ (spliced ((false, eval e X.env) :: [(false, eval (.Lambda params body scope lpos) X.env)])) _ _ s
  refine Calls.spliced_cons (thn (he.run pins s σ H _ I h) fun u s1 ⟨v, H0, I1, r1, ⟨tps, hP, ht, hcs⟩, hq⟩ => ?_)
  refine Calls.spliced_cons (lam_mk I1 TB hcode hP ht hcs hdef (L.has I.ok) fun f c' pm' ctv H1 s' I2 gr hf hfn hfr => ?_)
  refine Calls.spliced_nil ⟨I2.kIn, ?_⟩
  have sp := hq f c' H1 gr
  have hls : ps.length = 2 := by
    obtain ⟨F0, Ω, As, R, hp, ha, _⟩ := sp
    rw [← hlen _ _ _ _ _ _ _ hp, ← ha.len]; rfl
  have rc : codeAny (model X.prog X.w) X.A (.call (.ref g) ⟨[u, .ref f], []⟩) (CR CX0 X.stack X.prog X.w H1 s' Q E0) s' := by
    refine hrun X.A X.stack s' H1 [u, .ref f] [v, .ref f] Q f c' _ _ hr I2.env0 ?_ (.cons r1 (.cons rfl .nil)) (fun Ng qg sg gg cdg i a p1 p2 e te hr' hN hv hd hcd he hst => ?_) sp
    · have := hb s' [u, .ref f] I2.kIn (by rw [hls]; rfl)
      rwa [List.append_nil] at this
    · exact pe_act1 (CXg := CX0) (Eg := E0) (pn := []) (xe := fun _ _ => False) (E := E0) I2 L hf hfn hfr (hbind _ _ _ _ _) takes0 (fun _ _ _ _ z => z) hr' (fun A outer s H hr2 => hbody A outer s H f c' hr2) hN hv he hst hd hcd
  refine wpAny_call (codeAny_mono rc fun r s2 hq => ?_)
  cases r with
  | error e => exact (show False from hq).elim
  | ok fl =>
    cases fl with
    | ret u => exact I2.after hq
    | next => exact False.elim hq
    | brk => exact False.elim hq
    | cont => exact False.elim hq
end
/-- the name's value: the lambda f, which takes the machine at k0, handed over, from m to r.2 and tells r.1 -/
def askA1 (T : TC) {α : Type} [Rp α] (f c' : Addr) (q : Str) (act : V → Hp → VK → Prop) (Ω : List OA) (k0 : Nat) (p0 : Addr) (M : MS → Option (α × MS)) : VA :=
  ⟨fun F v => v = .ref f ∧ F c' = some (CodeO c' q) ∧ ∀ m r, M m = some r → ∀ F1 H1, Same F F1 → Holds F1 (stt Ω [(k0, machA T p0 m)] []) H1 → ∀ Q : VK, (∀ F2 v H2, Same F1 F2 → Holds F2 (stt Ω [(k0, machA T p0 r.2)] []) H2 → (va T r.1).P F2 v → Q v H2) → act (.ref p0) H1 Q,
   fun e ⟨h1, h2, h3⟩ => ⟨h1, e _ _ h2, fun m r hm F1 H1 e1 => h3 m r hm F1 H1 (e.trans e1)⟩⟩
section
variable {T : TC} {Γ : List (Option VA)} {Ω Ω1 Ω2 : List OA} {α : Type} [Rp α]
theorem xe_ask1 {i k0 : Nat} {p0 f c' : Addr} {q : Str} {act : V → Hp → VK → Prop} {M : MS → Option (α × MS)} {m : MS} {r : α × MS} {te : TE} {Ωa Ωb : List OA} (h : Γ[i]? = some (some (askA1 T f c' q act Ω k0 p0 M))) (ha : XE te Γ Ωa (vr p0) Ωa) (e1 : Ωa = stt Ω [(k0, machA T p0 m)] []) (e2 : stt Ω [(k0, machA T p0 r.2)] [] = Ωb) (hm : M m = some r) :
    XE (tAct1 i f c' q act te) Γ Ωa (va T r.1) Ωb := fun F σ H e hh Q q => by
  subst e1 e2
  obtain ⟨v, h1, rfl, h2, h3⟩ := e.2 i _ h
  refine ⟨h1, ha F σ H e hh _ fun F1 x H1 Ω' e1 hh1 ⟨a1, o1⟩ => ?_⟩
  subst o1
  have a1 : x = .ref p0 := a1
  subst a1
  exact ⟨hh1.same _ _ (e1 _ _ h2), h3 m r hm F1 H1 e1 hh1 Q fun F2 v H2 e2 hh2 a => q F2 v H2 _ (e1.trans e2) hh2 ⟨a, rfl⟩⟩
theorem xg_lam1 {P : Addr} {q : Str} {Pre : PreLT1} {ta tb : TE} {l : List (Addr × Str)} {kt k0 : Nat} {pw p0 : Addr} {M : MS → Option (α × MS)} {R : Hp → V → List OA → Prop} (ha : XE ta Γ Ω (vr pw) Ω) (ht : Ω[kt]? = some (tabA l)) (hm : (P, q) ∈ l) (hu : ∀ p ∈ l, p.1 = P → p.2 = q)
    (hb : ∀ m r, M m = some r → XE tb (Γ ++ [some (vr p0)]) (stt Ω [(k0, machA T p0 m)] []) (va T r.1) (stt Ω [(k0, machA T p0 r.2)] []))
    (hp : ∀ f c' act, Pre f c' q act [vr pw, askA1 T f c' q act Ω k0 p0 M] Ω R) : XG (tLam1 P q Pre ta tb) Γ Ω R := fun F σ H e hh Q hq => by
  refine ha F σ H e hh _ fun F1 v H1 Ω' e1 hh1 ⟨a1, o1⟩ => ?_
  subst o1
  obtain ⟨t, h1, h2, h3, _⟩ := hh1.get ht
  obtain ⟨ps, b1, b2, b3⟩ := h1 _ hm
  refine ⟨⟨ps, h2 _ _ b1, b2, fun pos cv hc => ?_⟩, fun f c' H2 gr => ?_⟩
  · obtain ⟨c, d1, d2⟩ := b3 pos cv hc
    exact ⟨c, d1, hh1.same _ _ d2⟩
  · obtain ⟨F2, e2, hh2, hc⟩ := grown_holds hh1 ht hm hu gr
    refine ⟨F2, _, _, R, hp f c' _, .cons (VA.mono _ e2 a1) (.cons ⟨rfl, hc, fun m r hM F3 H3 e3 hh3 Q' hQ' => ?_⟩ .nil), hh2, fun F' v H' Ω' e' hh' r => hq F' v H' Ω' ((e1.trans e2).trans e') hh' r⟩
    have e4 := e.mono ((e1.trans e2).trans e3)
    refine hb m r hM F3 (σ ++ [some (.ref p0)]) H3 ⟨by rw [List.length_append, List.length_append, e4.1]; rfl, fun i A hA => ?_⟩ hh3 Q' fun F4 v H4 Ω4 e4 hh4 ⟨a4, o4⟩ => hQ' F4 v H4 e4 (o4 ▸ hh4) a4
    by_cases hi : i < Γ.length
    · rw [List.getElem?_append_left hi] at hA
      obtain ⟨v, hv1, hv2⟩ := e4.2 i A hA
      exact ⟨v, by rw [List.getElem?_append_left (by rw [e4.1]; exact hi)]; exact hv1, hv2⟩
    · have hlt := getlt hA
      rw [List.length_append] at hlt
      have hlt : i < Γ.length + 1 := hlt
      have hi2 : i = Γ.length := by omega
      subst hi2
      rw [List.getElem?_append_right (Nat.le_refl _), Nat.sub_self] at hA
      have hA : some (some (vr p0)) = some (some A) := hA
      cases hA
      refine ⟨.ref p0, ?_, rfl⟩
      rw [← e4.1, List.getElem?_append_right (Nat.le_refl _), Nat.sub_self]
      rfl
theorem xe_lam1 {P : Addr} {q : Str} {Pre : PreLT1} {ta tb : TE} {l : List (Addr × Str)} {kt k0 : Nat} {pw p0 : Addr} {M : MS → Option (α × MS)} {A : VA} {Ω' : List OA} (ha : XE ta Γ Ω (vr pw) Ω) (ht : Ω[kt]? = some (tabA l)) (hm : (P, q) ∈ l) (hu : ∀ p ∈ l, p.1 = P → p.2 = q)
    (hb : ∀ m r, M m = some r → XE tb (Γ ++ [some (vr p0)]) (stt Ω [(k0, machA T p0 m)] []) (va T r.1) (stt Ω [(k0, machA T p0 r.2)] []))
    (hp : ∀ f c' act, Pre f c' q act [vr pw, askA1 T f c' q act Ω k0 p0 M] Ω (RV A Ω')) (he : Ω' = Ω2) : XE (tLam1 P q Pre ta tb) Γ Ω A Ω2 := he ▸ xg_lam1 ha ht hm hu hb hp
theorem stt_2own {k1 k2 : Nat} {A B : OA} (h : Ω[k2]? = some B) : stt Ω [(k1, A), (k2, B)] [] = stt Ω [(k1, A)] [] := by
  show ((Ω.set k2 B).set k1 A) ++ [] = (Ω.set k1 A) ++ []
  rw [set_own h]
end
/-! ### a dict with a machine, a list and a dict -/
def wev (m e d : Addr) : List (Key × V) := [(Sum.inr ("engine" : Str), .ref m), (Sum.inr ("walk" : Str), .ref e), (Sum.inr ("counts" : Str), .ref d)]
section
variable {m e d : Addr}
theorem wev_engine : valV (wev m e d) (Sum.inr ("engine" : Str) : Key) = some (V.ref m) := valV_hit
theorem wev_walk : valV (wev m e d) (Sum.inr ("walk" : Str) : Key) = some (V.ref e) := (valV_miss (ks_ne (by decide +kernel))).trans valV_hit
theorem wev_counts : valV (wev m e d) (Sum.inr ("counts" : Str) : Key) = some (V.ref d) := (valV_miss (ks_ne (by decide +kernel))).trans ((valV_miss (ks_ne (by decide +kernel))).trans valV_hit)
end
section
variable {T : TC} {Γ : List (Option VA)} {Ω Ω0 Ω1 Ω2 Ω3 : List OA} {A B' C : VA} {ta tb te : TE} {D : Ends} {F0 : Hp} {ts : TS} {p m : Addr} {k : Nat}
/-- such a dict, new, about the machine at m -/
def RNE (T : TC) (Ω2 : List OA) (m : Addr) : Hp → V → List OA → Prop := fun _ v Ω' => ∃ p e d, v = .ref p ∧ Ω' = Ω2 ++ [rawD p (wev m e d), lstA T e ([] : List (T3 Str Int Int)), rawD d (dkv [])]
theorem merge_wev {m e d : Addr} : mergeK [] (wev m e d) = wev m e d := by
  unfold wev mergeK putK
  rfl
theorem xg_worldE {t1 t2 : TE} {ks : List (Nat × OA)} {L : List OA} (h1 : ∀ X, XE t1 Γ (stt Ω ks (L ++ [X])) (vr m) (stt Ω ks (L ++ [X])))
    (h2 : ∀ X, XG t2 Γ (stt Ω ks (L ++ [X])) (RN (stt Ω ks (L ++ [X])) (fun q => lstA T q ([] : List (T3 Str Int Int))))) :
    XG (tDisp [(tC (.str "engine"), t1), (tC (.str "walk"), t2), (tC (.str "counts"), tDNewK)]) Γ (stt Ω ks L) (RNE T (stt Ω ks L) m) := fun F σ H e hh Q q => by
  intro p hp
  have hh1 := hh.newD (kvs := []) hp
  rw [stt_apps] at hh1
  refine h1 _ F σ _ e hh1 _ fun F1 x1 H1 Ωa e1 hh1 ⟨a1, o1⟩ => ?_
  subst o1
  refine h2 _ F1 σ H1 (e.mono e1) hh1 _ fun F4 x5 H4 Ωa e4 hh5 ⟨l, a5, o5⟩ => ?_
  subst o5
  have a1 : x1 = .ref m := a1
  subst a1 a5
  rw [stt_apps, List.append_assoc] at hh5
  intro d hd
  have hh6 := hh5.newD (kvs := []) hd
  rw [stt_apps, List.append_assoc] at hh6
  have hg : (stt Ω ks (L ++ (([rawD p []] ++ [lstA T l ([] : List (T3 Str Int Int))]) ++ [rawD d []])))[Ω.length + L.length]? = some (rawD p []) := stt_getL (j := L.length) (by simp)
  obtain ⟨t, g1, g3, g4, g5⟩ := hh6.get hg
  have g1 : t p = some (.dK []) := g1
  refine ⟨g3 _ _ g1, wev m l d, rfl, by show 3 ≤ 15; decide, ?_⟩
  rw [merge_wev]
  have := g5 (rawD p (wev m l d)) p (.dK []) (.dK (wev m l d)) g1 upd_same
  refine q F4 _ _ _ (e1.trans e4) this ⟨p, l, d, rfl, ?_⟩
  rw [stt_setL, stt_apps, List.set_append_right _ _ (Nat.le_refl _), Nat.sub_self]
  rfl
end
end VL

set_option Elab.async false
set_option linter.all false
set_option maxRecDepth 100000
/-! VL39: a list of two machines by its name: kept, taken apart, handed over; a dict with a machine out of a def. -/
namespace VL
open PySem L2 PyProof.Rows
/-- a list of the things at q1 and q2, for good -/
def mmA (q1 q2 : Addr) : VA := ⟨fun F v => ∃ p, v = .ref p ∧ F p = some (.lst [.ref q1, .ref q2]), fun e ⟨p, a, b⟩ => ⟨p, a, e _ _ b⟩⟩
section
variable {T : TC} {Γ : List (Option VA)} {Ω Ω0 Ω1 Ω2 Ω3 : List OA} {A B C : VA} {As : List VA} {ta tb te : TE} {D : Ends} {F0 : Hp} {ts : TS} {p m q1 q2 : Addr}
theorem xs_setMM {i : Nat} {ks : List (Nat × OA)} {L : List OA} {s1 s2 : MS} (h : XG ta Γ Ω0 (RMM T (stt Ω ks L) s1 s2)) (q : ∀ q1 q2, XS ts D F0 (Γ.set i (some (mmA q1 q2))) (stt Ω ks (L ++ [machA T q1 s1, machA T q2 s2]))) :
    XS (tSeq (tAsg ta (gName i)) ts) D F0 Γ Ω0 := fun σ H ⟨F, f0, e, hh⟩ => by
  refine h F σ H e hh _ fun F1 x H1 Ω' e1 hh1 ⟨p, q1, q2, a1, a2, o1⟩ => ?_
  subst a1 o1
  rw [stt_apps] at hh1
  exact q q1 q2 _ H1 ⟨F1, f0.trans e1, (e.mono e1).set (A := mmA q1 q2) ⟨p, rfl, a2⟩, hh1⟩
theorem tgt_mm {k l : Nat} : Tgt (gLst T.K 2 (gCons (gName k) (gCons (gName l) gNil))) (mmA q1 q2) (fun Γ => (Γ.set k (some (vr q1))).set l (some (vr q2))) [k, l] := fun F σ Γ v H Ω e hh a Q q => by
  obtain ⟨p, rfl, hp⟩ := a
  refine ⟨p, [.ref q1, .ref q2], rfl, SqL.of (hh.same _ _ hp), rfl, .ref q1, [.ref q2], rfl, .ref q2, [], rfl, rfl, ?_⟩
  exact q F _ H (Same.refl F) ((e.set (A := vr q1) rfl).set (A := vr q2) rfl) hh fun vs h => (wipe_set (h l (by simp))).trans (wipe_set (h k (by simp)))
theorem xn_callWE {Pre : PreT} {E : XK} {t : TA} {Ω' : List OA} (ha : XA t Γ Ω As Ω1) (hp : Pre As Ω1 (RNE T Ω' m)) (he : Ω' = Ω2) : XG (tCall (mkSp Pre) [] E t) Γ Ω (RNE T Ω2 m) := he ▸ xg_call ha hp
theorem xs_parWE {i j : Nat} {ks : List (Nat × OA)} {L : List OA} (h1 : XG ta Γ Ω0 (RNE T (stt Ω ks L) m)) (h2 : ∀ p e d, XE tb Γ (stt Ω ks (L ++ [rawD p (wev m e d), lstA T e ([] : List (T3 Str Int Int)), rawD d (dkv [])])) B (stt Ω ks (L ++ [rawD p (wev m e d), lstA T e ([] : List (T3 Str Int Int)), rawD d (dkv [])])))
    (q : ∀ p e d, XS ts D F0 ((Γ.set i (some (vr p))).set j (some B)) (stt Ω ks (L ++ [rawD p (wev m e d), lstA T e ([] : List (T3 Str Int Int)), rawD d (dkv [])]))) : XS (tSeq (tPar i j (tCons ta (tCons tb tNil))) ts) D F0 Γ Ω0 := fun σ H ⟨F, f0, e, hh⟩ => by
  refine h1 F σ H e hh _ fun F1 x H1 Ω' e1 hh1 ⟨p, l, d, a1, o1⟩ => ?_
  subst a1 o1
  rw [stt_apps] at hh1
  refine h2 p l d F1 σ H1 (e.mono e1) hh1 _ fun F2 y H2 Ω' e2 hh2 ⟨a2, o2⟩ => ?_
  subst o2
  exact ⟨_, _, rfl, q p l d _ H2 ⟨F2, f0.trans (e1.trans e2), (((e.mono e1).mono e2).set (A := vr p) rfl).set a2, hh2⟩⟩
end
end VL

set_option Elab.async false
set_option linter.all false
set_option maxRecDepth 100000
/-! VL40: x *= e; two names for one value; range(a, j, c). -/
namespace VL
open PySem L2 PyProof.Rows
theorem iop_mulQ {X : Cx} : OpR X (inplaceOp .Mult) (rI IntMulOk fun i j => .int (i * j)) := opI fun _ _ _ _ _ _ _ hc q => imul_int q hc
section
variable {T : TC} {Γ : List (Option VA)} {Ω Ω0 Ω1 Ω2 : List OA} {A B' : VA} {As : List VA} {te : TE} {D : Ends} {F0 : Hp} {ts : TS}
theorem xs_set2 {k l : Nat} (h : XE te Γ Ω A Ω1) (q : XS ts D F0 ((Γ.set k (some A)).set l (some A)) Ω1) : XS (tSeq (tAsg2 te (gName k) (gName l)) ts) D F0 Γ Ω := fun σ H ⟨F, f0, e, hh⟩ => by
  refine h F σ H e hh _ fun F1 x H1 Ω' e1 hh1 ⟨a1, o1⟩ => ?_
  subst o1
  exact q _ H1 ⟨F1, f0.trans e1, ((e.mono e1).set a1).set a1, hh1⟩
def rngA (a c : Int) (n : Nat) : List Int := (List.range n).map fun (k : Nat) => a + (k : Int) * c
def CRgA (a j c : Int) : Prop := 0 < c ∧ c < 2 ^ 30 ∧ 0 ≤ a ∧ a ≤ j ∧ j < 2 ^ 30
theorem wk_rangeA {n : Nat} {a c : Int} {T : TC} : Wk (Itc a c n) (fun _ => True) (rngA a c n) (fun a => va T a) where
  mono := fun _ _ _ _ => trivial
  go := fun i F Ω H _ _ hi => by
    have hi : i < n := by simpa [rngA] using hi
    exact hi
  stop := fun F Ω H _ _ => by show n ≤ _; simp [rngA]
  yld := fun i a F Ω H x H' _ hh hx y => by
    obtain ⟨e, y⟩ := y
    subst e y
    refine ⟨F, Same.refl F, hh, ?_⟩
    show V.int _ = V.int a
    unfold rngA at hx
    rw [List.getElem?_map] at hx
    cases hr : (List.range n)[i]? with
    | none => rw [hr] at hx; cases hx
    | some k =>
      rw [hr] at hx
      have hk : i = k := by
        obtain ⟨h1, h2⟩ := List.getElem?_eq_some_iff.mp hr
        rw [List.getElem_range] at h2
        exact h2
      subst hk
      cases hx
      rfl
theorem rgA_ok {a j c : Int} (h : CRgA a j c) : RgC a j c ((j - a + c - 1) / c).toNat := by
  obtain ⟨h1, h2, h3, h4, h5⟩ := h
  have e0 : Builtin.Range.rangeSize a j c = Builtin.Range.rangeSize 0 (j - a) c := by
    unfold Builtin.Range.rangeSize
    rw [if_pos h1, if_pos h1]
    by_cases z : a < j
    · rw [if_pos z, if_pos (by omega), show j - a - 0 - 1 = j - a - 1 from by omega]
    · rw [if_neg z, if_neg (by omega)]
  have e := e0.trans (rangeSize_pos (len := j - a) (c := c) (by omega) (by omega))
  have q0 : 0 ≤ (j - a + c - 1) / c := Int.ediv_nonneg (by omega) (by omega)
  have q1 : (j - a + c - 1) / c ≤ j - a + c - 1 := Int.ediv_le_self _ (by omega)
  refine ⟨by omega, by omega, ?_, by rw [e]; omega⟩
  unfold Builtin.Range.small
  rw [e]
  simp only [Builtin.Range.rangeFitsLong, Bool.and_eq_true, Bool.or_eq_true, decide_eq_true_eq, beq_iff_eq, show c > 0 from h1, if_true]
  omega
theorem xi_rangeA {a j c : Int} {ta : TA} (ha : XA ta Γ Ω [va T a, va T j, va T c] Ω1) (h : CRgA a j c) : XI (iRng3 ta) Γ Ω (rngA a c ((j - a + c - 1) / c).toNat) (fun a => va T a) Ω1 := fun F σ H e hh R r => by
  refine ha F σ H e hh _ fun F1 vs H1 e1 hh1 a1 => ?_
  cases a1 with
  | cons a1 t =>
    obtain ⟨v, w, rfl, a2, a3⟩ := alA2 t
    have a1 : _ = V.int a := a1
    have a2 : v = .int j := a2
    have a3 : w = .int c := a3
    subst a1 a2 a3
    exact ⟨a, j, c, _, rfl, rgA_ok h, r F1 _ H1 _ e1 hh1 wk_rangeA trivial⟩
end
end VL

set_option Elab.async false
set_option linter.all false
set_option maxRecDepth 100000
/-! VL41: list(range(a, j, c)); the first part of a triple. -/
namespace VL
open PySem PySem.Spec L2 PyProof.Rows
def rgVC (a c : Int) (n : Nat) : List V := (rngA a c n).map V.int
theorem vals_rgC {a c : Int} {n : Nat} {acc : Array Value} (h : ItemsOf (fun i v => ∃ t, v = .int (a + i * c) t) acc n) : Vals (rgVC a c n) acc.toList := by
  have e : rgVC a c n = (List.range acc.toList.length).map fun i : Nat => V.int (a + (i : Int) * c) := by
    unfold rgVC rngA
    rw [List.map_map, Array.length_toList, h.1]
    rfl
  rw [e]
  refine vals_of_get _ _ fun j u hu => ?_
  obtain ⟨t, ht⟩ := h.2 j u (by rw [← Array.getElem?_toList]; exact hu)
  exact ⟨t, ht⟩
def tLstRgC (ta : TA) : TE := fun σ H Q => ta σ H fun vs H1 => ∃ (i j c : Int) (n : Nat), vs = [.int i, .int j, .int c] ∧ RgC i j c n ∧ n ≤ 2 ^ 24 ∧ ∀ q, H1 q = none → Q (.ref q) (upd H1 q (.lst (rgVC i c n)))
section
variable {X : Cx}
theorem pe_listRgC {a b c : Expr} {ta : TA} {p p2 pos pos2 : Pos} (hc : X.calm = true) (hg : Gl X "list") (hm : X.mg "list" = none) (hg2 : Gl X "range") (hm2 : X.mg "range" = none) (ha : PA X [a, b, c] ta)
    (hs : starEach [a, b, c] X.env = (false, eval a X.env) :: starEach [b, c] X.env := by rfl) (hpl : (backTo pos2 (starEach [b, c] X.env)).any (·.1) = false := by rfl)
    (na : starEach [.Call (.Name "range" p2) [a, b, c] [] pos2] X.env = (false, eval (.Call (.Name "range" p2) [a, b, c] [] pos2) X.env) :: starEach [] X.env := by rfl) :
    PE X (.Call (.Name "list" p) [.Call (.Name "range" p2) [a, b, c] [] pos2] [] pos) (tLstRgC ta) := by
  refine ⟨fun pins s σ H Q I h => ?_⟩
  refine Call_ (ld_blt I hg hm boot_list (PyProof.Rows.callWith_type1 (args_cons (Q := fun vs s' => wpAny (model X.prog X.w) X.A (call (.type "list") vs) (EP X pins σ Q) X.xe s') (wpAny_mono (Q := fun x s1 => ∃ r i j k t u v H1 n, x = .ref r ∧ IsRange s1.heap r i j k t u v ∧ Inv X pins σ H1 s1 ∧ RgC i j k n ∧ n ≤ 2 ^ 24 ∧ ∀ q, H1 q = none → Q (.ref q) (upd H1 q (.lst (rgVC i k n)))) ?_ (fun x s1 ⟨r, i, j, k, t, u, v, H1, n, ex, hr, I1, ok, ln, q⟩ => args_nil ?_) fun _ _ z => z) na) na))
  · refine Call_ (ld_blt I hg2 hm2 boot_range (PyProof.Rows.callWith_type1 (thn (ha.run pos2 pins s σ H _ I h) fun us s1 ⟨vs, H1, I1, r1, q1⟩ => ?_) hs hpl))
    obtain ⟨i, j, k, n, e, ⟨c0, c1, c2, c3⟩, ln, q⟩ := q1
    subst e
    cases r1 with
    | cons r rr =>
      cases rr with
      | cons r' rr =>
        cases rr with
        | cons r'' rr =>
          cases rr
          obtain ⟨t, rfl⟩ := r
          obtain ⟨t', rfl⟩ := r'
          obtain ⟨t'', rfl⟩ := r''
          refine call_range_3 c0 ?_ (.inl (PyProof.noPylong_small c1))
          exact ⟨_, i, j, k, _, _, _, H1, n, rfl, IsRange.new _ _ _ _ _ _ _, I1.kept fun b u e => Heap.get?_push_of_some _ e, ⟨c0, c1, c2, c3⟩, ln, q⟩
  · subst ex
    obtain ⟨c0, c1, c2, c3⟩ := ok
    refine call_list_range (n := n) (I1.ok.hd hc) hr c2 c3 ln fun h' tk acc c' hk e' hi => ?_
    refine ⟨.ref s1.heap.objs.size, upd H1 s1.heap.objs.size (.lst (rgVC i k n)), I1.laid hk (Nat.le_refl _) (show ObjOk X.prog X.w _ _ _ (.lst (rgVC i k n)) from ⟨?_, acc.toList, c', vals_rgC hi, ?_⟩), rfl, q _ (I1.hok.fresh (Nat.le_refl _))⟩
    · unfold rgVC rngA
      rw [List.length_map, List.length_map, List.length_range, sizeLine_eq]; omega
    · rw [Array.toArray_toList]; exact e'
end
section
variable {T : TC} {Γ : List (Option VA)} {Ω Ω1 : List OA} {te : TE}
theorem xe_listRgC {a j c : Int} {ta : TA} (ha : XA ta Γ Ω [va T a, va T j, va T c] Ω1) (h : CRgA a j c ∧ ((j - a + c - 1) / c).toNat ≤ 16777216) : XE (tLstRgC ta) Γ Ω (va T (LF.mk (rngA a c ((j - a + c - 1) / c).toNat))) Ω1 := fun F σ H e hh Q q => by
  refine ha F σ H e hh _ fun F1 vs H1 e1 hh1 a1 => ?_
  cases a1 with
  | cons a1 t =>
    obtain ⟨v, w, rfl, a2, a3⟩ := alA2 t
    have a1 : _ = V.int a := a1
    have a2 : v = .int j := a2
    have a3 : w = .int c := a3
    subst a1 a2 a3
    refine ⟨a, j, c, _, rfl, rgA_ok h.1, h.2, fun r hr => ?_⟩
    obtain ⟨hh2, e2⟩ := hh1.newF (u := .lst (rgVC a c ((j - a + c - 1) / c).toNat)) hr
    exact q _ _ _ _ (e1.trans e2) hh2 ⟨⟨r, _, rfl, upd_same, al_of_int⟩, rfl⟩
theorem xe_t0 {α β γ : Type} [Rp α] [Rp β] [Rp γ] {z : T3 α β γ} (ha : XE te Γ Ω (va T z) Ω1) : XE (tOp (rIx T.K) te (tC (.int 0))) Γ Ω (va T z.a) Ω1 := xe_op ha (xe_int (T := T) (n := 0)) fun F H x y hh a1 a2 Q q => by
  obtain ⟨p, u, v, w, rfl, hs, r1, r2, r3⟩ := a1
  exact .inr (.inl ⟨p, _, 0, u, rfl, a2, Same.tup hh.same hs, rfl, q F u H (Same.refl F) hh r1⟩)
end
end VL

set_option Elab.async false
set_option linter.all false
/-! the mathematics: loops by invariants, digits, bits -/
namespace VL
open PySem L2
theorem chkP_eq {p : Prop} (h : p) : chkP p = some () := by unfold chkP; exact if_pos h
theorem bnd_of {α β : Type} {o : Option α} {a : α} {f : α → Option β} {r : Option β} (h : o = some a) (k : f a = r) : o.bind f = r := by rw [h]; exact k
theorem nxt_nx {S ρ : Type} {s : S} : nxt (Stp.nx (ρ := ρ) s) = some s := rfl
/-! ### loops -/
section
variable {α S ρ : Type} {b : α → S → Option (Stp S ρ)}
theorem forM_cons {x : α} {r : List α} {s s' : S} (h : b x s = some (.nx s')) : forM' b (x :: r) s = forM' b r s' := by
  show (b x s).bind _ = _
  rw [h]
  rfl
theorem forM_ind (I : Nat → S → Prop) : ∀ (xs : List α) (k : Nat) (s : S), (∀ i x s, xs[i]? = some x → I (k + i) s → ∃ s', b x s = some (.nx s') ∧ I (k + i + 1) s') → I k s → ∃ s', forM' b xs s = some (.nx s') ∧ I (k + xs.length) s'
  | [], k, s, _, h => ⟨s, rfl, h⟩
  | x :: r, k, s, hs, h => by
    obtain ⟨s1, e1, i1⟩ := hs 0 x s rfl h
    obtain ⟨s2, e2, i2⟩ := forM_ind I r (k + 1) s1 (fun i y t hy ht => by
      obtain ⟨t', e, q⟩ := hs (i + 1) y t hy (by rw [show k + (i + 1) = k + 1 + i from by omega]; exact ht)
      exact ⟨t', e, by rw [show k + 1 + i + 1 = k + (i + 1) + 1 from by omega]; exact q⟩) i1
    exact ⟨s2, by rw [forM_cons e1, e2], by rw [List.length_cons, show k + (r.length + 1) = k + 1 + r.length from by omega]; exact i2⟩
theorem whileM_f {c : S → Option Bool} {bd : S → Option (Stp S ρ)} {n : Nat} {s : S} (h : c s = some false) : whileM c bd (n + 1) s = some (.nx s) := by
  show (c s).bind _ = _
  rw [h]
  rfl
theorem whileM_t {c : S → Option Bool} {bd : S → Option (Stp S ρ)} {n : Nat} {s s' : S} (h : c s = some true) (h2 : bd s = some (.nx s')) : whileM c bd (n + 1) s = whileM c bd n s' := by
  show (c s).bind _ = _
  rw [h]
  show (bd s).bind _ = _
  rw [h2]
  rfl
end
/-! ### bits -/
def bl (a : Nat) : Nat := if a = 0 then 0 else a.log2 + 1
theorem intBits_nat (a : Nat) : Builtin.Int.intBits (a : Int) = bl a := by
  unfold Builtin.Int.intBits bl
  by_cases h : a = 0
  · subst h; rfl
  · rw [if_neg h, if_neg (by simpa using h), Int.natAbs_natCast]
def pc (a : Nat) : Nat := if h : a = 0 then 0 else a % 2 + pc (a / 2)
termination_by a
decreasing_by omega
theorem pc0 : pc 0 = 0 := by unfold pc; rfl
theorem pc_half (a : Nat) : pc a = a % 2 + pc (a / 2) := by
  by_cases h : a = 0
  · subst h; rw [Nat.zero_div, pc0]
  · rw [pc, dif_neg h]
theorem pc_kern : ∀ (n : Nat) {a : Nat}, a ≤ n → a ≠ 0 → pc a = pc (a &&& (a - 1)) + 1
  | 0, a, h, h0 => absurd (Nat.le_zero.mp h) h0
  | n + 1, a, h, h0 => by
    have hx2 : (a &&& (a - 1)) % 2 = 0 := by
      have := @Nat.and_mod_two_pow a (a - 1) 1
      rw [Nat.pow_one] at this
      rw [this]
      rcases Nat.mod_two_eq_zero_or_one a with e | e
      · rw [e, Nat.zero_and]
      · rw [show (a - 1) % 2 = 0 from by omega, Nat.and_zero]
    rw [pc_half a, pc_half (a &&& (a - 1)), hx2, Nat.and_div_two]
    rcases Nat.mod_two_eq_zero_or_one a with e | e
    · have q : (a - 1) / 2 = a / 2 - 1 := by omega
      rw [q, e, pc_kern n (a := a / 2) (by omega) (by omega)]
      omega
    · have q : (a - 1) / 2 = a / 2 := by omega
      rw [q, e, Nat.and_self]
      omega
theorem kern_lt {a : Nat} (h : a ≠ 0) : a &&& (a - 1) < a := Nat.lt_of_le_of_lt Nat.and_le_right (by omega)
/-! ### digits -/
def dg (w a : Nat) : List Int := if h : a = 0 ∨ w = 0 then [] else ((a % 2 ^ w : Nat) : Int) :: dg w (a / 2 ^ w)
termination_by a
decreasing_by
  have h1 : a ≠ 0 := fun e => h (.inl e)
  have h2 : w ≠ 0 := fun e => h (.inr e)
  exact Nat.div_lt_self (by omega) (Nat.one_lt_two_pow h2)
theorem dg_zero (w : Nat) : dg w 0 = [] := by unfold dg; rfl
theorem dg_pos {w a : Nat} (hw : w ≠ 0) (h : a ≠ 0) : dg w a = ((a % 2 ^ w : Nat) : Int) :: dg w (a / 2 ^ w) := by
  rw [dg, dif_neg (fun e => e.elim h hw)]
theorem dg_ind {w : Nat} (hw : w ≠ 0) {p : Nat → Prop} (h0 : p 0) (hs : ∀ a, a ≠ 0 → p (a / 2 ^ w) → p a) : ∀ a, p a := fun a => by
  induction a using Nat.strongRecOn with
  | ind a ih =>
    by_cases h : a = 0
    · subst h; exact h0
    · exact hs a h (ih _ (Nat.div_lt_self (by omega) (Nat.one_lt_two_pow hw)))
section
variable {w : Nat} (hw : w ≠ 0)
include hw
theorem dg_mem : ∀ a, ∀ x ∈ dg w a, ∃ d : Nat, x = (d : Int) ∧ d < 2 ^ w := by
  refine dg_ind hw (fun x hx => by rw [dg_zero] at hx; cases hx) fun a h ih x hx => ?_
  rw [dg_pos hw h] at hx
  rcases List.mem_cons.mp hx with e | e
  · exact ⟨_, e, Nat.mod_lt _ (Nat.two_pow_pos w)⟩
  · exact ih x e
theorem dg_len : ∀ a m, a < 2 ^ (w * m) → (dg w a).length ≤ m := by
  refine dg_ind hw (fun m _ => by rw [dg_zero]; exact Nat.zero_le _) fun a h ih m hm => ?_
  rw [dg_pos hw h, List.length_cons]
  cases m with
  | zero => rw [Nat.mul_zero, Nat.pow_zero] at hm; omega
  | succ m =>
    have := ih m (by
      rw [Nat.div_lt_iff_lt_mul (Nat.two_pow_pos w), ← Nat.pow_add, show w * m + w = w * (m + 1) from by rw [Nat.mul_succ]]
      exact hm)
    omega
end
/-! ### rows from the last digit on, compared -/
def vm (B : Int) : List Int → Int
  | [] => 0
  | d :: r => d * B ^ r.length + vm B r
theorem vm_snoc {B : Int} : ∀ {r : List Int} {d : Int}, vm B (r ++ [d]) = vm B r * B + d
  | [], d => by show d * B ^ 0 + 0 = 0 * B + d; simp
  | e :: r, d => by
    show e * B ^ (r ++ [d]).length + vm B (r ++ [d]) = (e * B ^ r.length + vm B r) * B + d
    rw [vm_snoc (r := r), List.length_append, show [d].length = 1 from rfl, Int.pow_succ, Int.add_mul, ← Int.mul_assoc, Int.add_assoc]
theorem vm_bound {B : Int} (hB : 0 < B) : ∀ {r : List Int}, (∀ x ∈ r, 0 ≤ x ∧ x < B) → 0 ≤ vm B r ∧ vm B r < B ^ r.length
  | [], _ => ⟨Int.le_refl _, by show (0 : Int) < B ^ 0; rw [Int.pow_zero]; decide⟩
  | d :: r, h => by
    obtain ⟨i0, i1⟩ := vm_bound hB (r := r) fun x hx => h x (List.mem_cons_of_mem _ hx)
    obtain ⟨d0, d1⟩ := h d List.mem_cons_self
    have hp : 0 < B ^ r.length := Int.pow_pos hB
    have h0 : 0 ≤ d * B ^ r.length := Int.mul_nonneg d0 (by omega)
    have h1 : (d + 1) * B ^ r.length ≤ B * B ^ r.length := Int.mul_le_mul_of_nonneg_right (by omega) (by omega)
    rw [Int.add_mul, Int.one_mul] at h1
    show 0 ≤ d * B ^ r.length + vm B r ∧ d * B ^ r.length + vm B r < B ^ (r.length + 1)
    rw [Int.pow_succ, Int.mul_comm (B ^ r.length) B]
    omega
theorem vm_dg {w : Nat} (hw : w ≠ 0) : ∀ a : Nat, vm (2 ^ w) (dg w a).reverse = (a : Int) := by
  refine dg_ind hw (by rw [dg_zero]; rfl) fun a h ih => ?_
  rw [dg_pos hw h, List.reverse_cons, vm_snoc, ih]
  have := Nat.div_add_mod a (2 ^ w)
  have q : (a : Int) = ((2 ^ w * (a / 2 ^ w) + a % 2 ^ w : Nat) : Int) := by rw [this]
  conv => rhs; rw [q]
  push_cast
  rw [Int.mul_comm]
theorem dg_bound {w : Nat} (hw : w ≠ 0) (a : Nat) : a < 2 ^ (w * (dg w a).length) := by
  have h := (vm_bound (B := 2 ^ w) (Int.pow_pos (by decide)) (r := (dg w a).reverse) fun x hx => by
    obtain ⟨d, rfl, lt⟩ := dg_mem hw a x (List.mem_reverse.mp hx)
    have : ((d : Nat) : Int) < ((2 ^ w : Nat) : Int) := Int.ofNat_lt.mpr lt
    rw [Int.natCast_pow] at this
    exact ⟨by omega, this⟩).2
  rw [vm_dg hw, List.length_reverse] at h
  have e : (((2 ^ w) ^ (dg w a).length : Nat) : Int) = ((2 : Int) ^ w) ^ (dg w a).length := by rw [Int.natCast_pow, Int.natCast_pow]; rfl
  rw [← e] at h
  rw [Nat.pow_mul]
  exact Int.ofNat_lt.mp h
def cp : List Int → List Int → Nat
  | x :: r, y :: t => if x = y then cp r t + 1 else 0
  | _, _ => 0
end VL

set_option Elab.async false
set_option linter.all false
/-! rows from the first digit on; masks of any number -/
namespace VL
open PySem L2
theorem mod_neg (t : Nat) {M : Nat} (hM : 0 < M) : (-(t : Int) - 1) % (M : Int) = (M : Int) - 1 - ((t % M : Nat) : Int) := by
  have h := Nat.div_add_mod t M
  have lt := Nat.mod_lt t hM
  have e : (-(t : Int) - 1) = ((M : Int) - 1 - ((t % M : Nat) : Int)) + (M : Int) * (-((t / M : Nat) : Int) - 1) := by
    have q : (t : Int) = ((M * (t / M) + t % M : Nat) : Int) := by rw [h]
    rw [q, Int.mul_sub, Int.mul_neg, Int.mul_one]
    push_cast
    omega
  rw [e, Int.add_mul_emod_self_left, Int.emod_eq_of_lt (by omega) (by omega)]
theorem and_low (x : Int) (W : Nat) : Builtin.bitAnd x ((2 ^ W - 1 : Nat) : Int) = x % 2 ^ W := by
  have hp : 0 < 2 ^ W := Nat.two_pow_pos W
  have e2 : ((2 : Int) ^ W) = ((2 ^ W : Nat) : Int) := by rw [Int.natCast_pow]; rfl
  rw [e2]
  by_cases h : 0 ≤ x
  · obtain ⟨a, rfl⟩ := Int.eq_ofNat_of_zero_le h
    rw [PySem.W.os_band, Nat.and_two_pow_sub_one_eq_mod]
    exact Int.natCast_emod _ _
  · obtain ⟨t, ht⟩ := Int.eq_ofNat_of_zero_le (a := -x - 1) (by omega)
    have ex : x = -(t : Int) - 1 := by omega
    have en : Builtin.bitNot x = (t : Int) := by show -x - 1 = (t : Int); exact ht
    unfold Builtin.bitAnd
    rw [decide_eq_false h, decide_eq_true (show (0 : Int) ≤ ((2 ^ W - 1 : Nat) : Int) from by omega)]
    show ((2 ^ W - 1 : Nat) : Int) - (((((2 ^ W - 1 : Nat) : Int)).toNat &&& (Builtin.bitNot x).toNat : Nat) : Int) = _
    rw [en, Int.toNat_natCast, Int.toNat_natCast, Nat.and_comm, Nat.and_two_pow_sub_one_eq_mod, ex, mod_neg t hp]
    omega
def lv (B : Int) : List Int → Int
  | [] => 0
  | d :: r => d + B * lv B r
end VL

set_option Elab.async false
set_option linter.all false
/-! sizes; rows of so many digits; differences -/
namespace VL
open PySem L2
theorem intBits_abs (n : Int) : Builtin.Int.intBits n = bl n.natAbs := by
  rw [← intBits_nat]
  unfold Builtin.Int.intBits
  rw [Int.natAbs_natCast]
  by_cases h : n = 0
  · subst h; rfl
  · rw [if_neg (by simpa using h), if_neg (by simpa using h)]
theorem bl_lt (a : Nat) : a < 2 ^ bl a := by
  unfold bl
  by_cases h : a = 0
  · subst h; decide
  · rw [if_neg h]; exact Nat.lt_log2_self
theorem bl_le {a k : Nat} : bl a ≤ k ↔ a < 2 ^ k := by
  constructor
  · intro h
    exact Nat.lt_of_lt_of_le (bl_lt a) (Nat.pow_le_pow_right (by decide) h)
  · intro h
    unfold bl
    by_cases e : a = 0
    · rw [if_pos e]; exact Nat.zero_le _
    · rw [if_neg e]
      have := (Nat.log2_lt e).mpr h
      omega
/-- how many digits -/
def sz (W a : Nat) : Nat := (bl a + W - 1) / W
theorem sz_le {W : Nat} (hw : W ≠ 0) {a k : Nat} : sz W a ≤ k ↔ a < 2 ^ (W * k) := by
  rw [← bl_le]
  unfold sz
  constructor
  · intro h
    have h1 := Nat.div_add_mod (bl a + W - 1) W
    have h2 := Nat.mod_lt (bl a + W - 1) (Nat.pos_of_ne_zero hw)
    have h3 : W * ((bl a + W - 1) / W) ≤ W * k := Nat.mul_le_mul_left W h
    omega
  · intro h
    have : bl a + W - 1 < W * (k + 1) := by rw [Nat.mul_succ]; omega
    have := (Nat.div_lt_iff_lt_mul (Nat.pos_of_ne_zero hw)).mpr (by rw [Nat.mul_comm]; exact this : bl a + W - 1 < (k + 1) * W)
    omega
theorem eq_of_le {x y : Nat} (h : ∀ k, x ≤ k ↔ y ≤ k) : x = y := by
  have h1 := (h y).mpr (Nat.le_refl _)
  have h2 := (h x).mp (Nat.le_refl _)
  omega
theorem dg_size {W : Nat} (hw : W ≠ 0) (a : Nat) : (dg W a).length = sz W a := eq_of_le fun k => by
  rw [sz_le hw]
  exact ⟨fun h => Nat.lt_of_lt_of_le (dg_bound hw a) (Nat.pow_le_pow_right (by decide) (Nat.mul_le_mul_left W h)), fun h => dg_len hw a k h⟩
theorem sz_zero {W : Nat} (hw : W ≠ 0) {a : Nat} : sz W a = 0 ↔ a = 0 := by
  have h := sz_le hw (a := a) (k := 0)
  rw [Nat.mul_zero, Nat.pow_zero] at h
  omega
theorem sz0 {W : Nat} (hw : W ≠ 0) : sz W 0 = 0 := (sz_zero hw).mpr rfl
theorem sz_one {W : Nat} (hw : W ≠ 0) {a : Nat} : sz W a ≤ 1 ↔ bl a ≤ W := by
  rw [sz_le hw, Nat.mul_one, ← bl_le]
theorem xor_zero {a b : Nat} : a ^^^ b = 0 ↔ a = b := by
  constructor
  · intro h
    apply Nat.eq_of_testBit_eq
    intro i
    have := congrArg (fun x => x.testBit i) h
    simp only [Nat.testBit_xor, Nat.zero_testBit] at this
    revert this
    cases a.testBit i <;> cases b.testBit i <;> decide
  · intro h; subst h; exact Nat.xor_self a
/-! rows of so many digits -/
def rw_ (W : Nat) (n : Int) : Nat → List Int
  | 0 => []
  | k + 1 => (n % 2 ^ W) :: rw_ W (n / 2 ^ W) k
theorem p2 (k : Nat) : (2 : Int) ^ k = ((2 ^ k : Nat) : Int) := by rw [Int.natCast_pow]; rfl
theorem ppos (k : Nat) : (0 : Int) < 2 ^ k := Int.pow_pos (by decide)
theorem rw_len (W : Nat) : ∀ (k : Nat) (n : Int), (rw_ W n k).length = k
  | 0, _ => rfl
  | k + 1, n => by show (rw_ W (n / 2 ^ W) k).length + 1 = _; rw [rw_len W k]
theorem ediv_pow (n : Int) (a b : Nat) : n / 2 ^ a / 2 ^ b = n / 2 ^ (a + b) := by
  rw [Int.pow_add, Int.ediv_ediv_of_nonneg (Int.le_of_lt (ppos a))]
theorem rw_app (W : Nat) : ∀ (k : Nat) (n : Int) (m : Nat), rw_ W n (k + m) = rw_ W n k ++ rw_ W (n / 2 ^ (k * W)) m
  | 0, n, m => by rw [Nat.zero_mul, Int.pow_zero, Int.ediv_one, Nat.zero_add]; rfl
  | k + 1, n, m => by
    rw [show k + 1 + m = (k + m) + 1 from by omega]
    show (n % 2 ^ W) :: rw_ W (n / 2 ^ W) (k + m) = _
    rw [rw_app W k, ediv_pow, show W + k * W = (k + 1) * W from by rw [Nat.succ_mul]; omega]
    rfl
theorem mod_div_pow (n : Int) (a b : Nat) : n % 2 ^ (a + b) / 2 ^ a = n / 2 ^ a % 2 ^ b := by
  have ha := ppos a
  have hb := ppos b
  have e : n % 2 ^ (a + b) = n - 2 ^ (a + b) * (n / 2 ^ (a + b)) := Int.emod_def ..
  rw [e, ← ediv_pow, Int.pow_add, Int.mul_assoc, Int.sub_eq_add_neg, ← Int.mul_neg, Int.add_mul_ediv_left _ _ (by omega), Int.emod_def]
  omega
theorem mod_mod_pow (n : Int) (a b : Nat) : n % 2 ^ (a + b) % 2 ^ a = n % 2 ^ a := by
  rw [Int.pow_add]
  exact Int.emod_emod_of_dvd n (Int.dvd_mul_right _ _)
theorem rw_mod (W : Nat) : ∀ (k : Nat) (n : Int), rw_ W (n % 2 ^ (k * W)) k = rw_ W n k
  | 0, _ => rfl
  | k + 1, n => by
    show ((n % 2 ^ ((k + 1) * W)) % 2 ^ W) :: rw_ W (n % 2 ^ ((k + 1) * W) / 2 ^ W) k = (n % 2 ^ W) :: rw_ W (n / 2 ^ W) k
    rw [show (k + 1) * W = W + k * W from by rw [Nat.succ_mul]; omega, mod_mod_pow, mod_div_pow, rw_mod W k]
theorem rw_dg {W : Nat} (hw : W ≠ 0) (a : Nat) : rw_ W (a : Int) (sz W a) = dg W a := by
  rw [← dg_size hw]
  revert a
  refine dg_ind hw (by rw [dg_zero]; rfl) fun a h ih => ?_
  rw [dg_pos hw h]
  show ((a : Int) % 2 ^ W) :: rw_ W ((a : Int) / 2 ^ W) (dg W (a / 2 ^ W)).length = _
  rw [p2, ← Int.natCast_emod, ← Int.natCast_ediv, ih]
theorem int_of {n : Int} {k : Nat} (h : n.natAbs < 2 ^ k) : -(2 ^ k) < n ∧ n < 2 ^ k := by
  rw [p2]
  omega
theorem shl_ok {n i : Int} {k : Nat} (h : n.natAbs < 2 ^ k) (h0 : 0 ≤ i) (h2 : (k : Int) + i ≤ 2 ^ 27) : CShl n i := ⟨h0, by
  rw [intBits_abs]
  have := bl_le.mpr h
  omega⟩
theorem mul_small {a b : Int} (h : a.natAbs < 2 ^ 64) : IntMulOk a b := by
  have h := int_of h
  exact .of_left (PySem.intBits_le_64 h.1 h.2)
theorem mul_small' {a b : Int} (h : b.natAbs < 2 ^ 64) : IntMulOk a b := by
  have h := int_of h
  exact .of_right (PySem.intBits_le_64 h.1 h.2)
end VL
/-! ### a value that is there, and of which something holds -/
namespace VL
open PySem L2
def Sat {α : Type} (o : Option α) (P : α → Prop) : Prop := ∃ r, o = some r ∧ P r
section
variable {α β S ρ : Type} {o : Option α} {P : α → Prop} {Q : β → Prop} {f : α → Option β} {a : α}
theorem sat_bind (h : Sat o P) (k : ∀ r, P r → Sat (f r) Q) : Sat (o.bind f) Q := by
  obtain ⟨r, e, p⟩ := h
  rw [e]
  exact k r p
theorem sat_eq (h : o = some a) (k : Sat (f a) Q) : Sat (o.bind f) Q := by rw [h]; exact k
theorem sat_let (k : Sat (f a) Q) : Sat ((some a).bind f) Q := k
theorem sat_chk {p : Prop} {f : Unit → Option β} (h : p) (k : Sat (f ()) Q) : Sat ((chkP p).bind f) Q := by rw [chkP_eq h]; exact k
theorem sat_some {a : β} (h : Q a) : Sat (some a) Q := ⟨a, rfl, h⟩
theorem sat_get (h : Sat o (fun r => r = a)) : o = some a := by
  obtain ⟨r, e, p⟩ := h
  rw [e, p]
variable {γ : Type}
theorem sat_for {b : γ → S → Option (Stp S ρ)} {xs : List γ} {s0 : S} {g : Stp S ρ → Option β} (I : Nat → S → Prop)
    (h : ∀ i x s, xs[i]? = some x → I i s → Sat (b x s) (fun st => ∃ s', st = .nx s' ∧ I (i + 1) s')) (h0 : I 0 s0) (k : ∀ s, I xs.length s → Sat (g (.nx s)) Q) : Sat ((forM' b xs s0).bind g) Q := by
  obtain ⟨s', e, i⟩ := forM_ind (b := b) I xs 0 s0 (fun i x s hx hi => by
    rw [Nat.zero_add] at hi
    obtain ⟨st, e, s', e2, q⟩ := h i x s hx hi
    exact ⟨s', by rw [e, e2], by rw [Nat.zero_add]; exact q⟩) h0
  rw [e]
  rw [Nat.zero_add] at i
  exact k s' i
theorem sat_forA {b : γ → S → Option (Stp S ρ)} {xs : List γ} {s0 : S} {g : Stp S ρ → Option β} (I : S → Prop)
    (h : ∀ x ∈ xs, ∀ s, I s → Sat (b x s) (fun st => ∃ s', st = .nx s' ∧ I s')) (h0 : I s0) (k : ∀ s, I s → Sat (g (.nx s)) Q) : Sat ((forM' b xs s0).bind g) Q :=
  sat_for (fun _ => I) (fun i x s hx hi => h x (List.mem_of_getElem? hx) s hi) h0 fun s hi => k s hi
theorem sat_nx {s : S} {g : S → Option β} (k : Sat (g s) Q) : Sat ((nxt (Stp.nx (ρ := ρ) s)).bind g) Q := k
theorem sat_end {s : S} {I : S → Prop} (h : I s) : Sat (some (Stp.nx (ρ := ρ) s)) (fun st => ∃ s', st = .nx s' ∧ I s') := ⟨_, rfl, s, rfl, h⟩
end
theorem rng_len (lo : Int) (n : Nat) : (rng lo n).length = n := by unfold rng; rw [List.length_map, List.length_range]
theorem rng_get {lo : Int} {n i : Nat} {x : Int} (h : (rng lo n)[i]? = some x) : i < n ∧ x = lo + (i : Int) := by
  have lt := getlt h
  rw [rng_len] at lt
  unfold rng at h
  rw [List.getElem?_map, List.getElem?_range lt] at h
  exact ⟨lt, (Option.some.inj h).symm⟩
theorem sat_atI {α β : Type} {Q : β → Prop} {l : List α} {i : Int} {f : α → Option β} (h0 : 0 ≤ i) (h : i < (l.length : Int)) (k : ∀ x ∈ l, Sat (f x) Q) : Sat ((atI l i).bind f) Q := by
  obtain ⟨n, rfl⟩ := Int.eq_ofNat_of_zero_le h0
  have lt : n < l.length := by omega
  rw [atI_nat (List.getElem?_eq_getElem lt)]
  exact k _ (List.getElem_mem lt)
theorem cdiv_s {i j : Int} (h : 0 < j) (h2 : j < 2 ^ 64) : CDivW i j := ⟨h, by
  have : j.natAbs < 2 ^ 64 := by omega
  have h0 : j.natAbs ≠ 0 := by omega
  have := (Nat.log2_lt h0 (k := 64)).mpr this
  omega⟩
theorem size_lt {n m : Nat} (h : n ≤ m) (hm : m < 16777216) : n < sizeLine := Nat.lt_of_le_of_lt h (by show m < 2 ^ 24; exact hm)
theorem size_le {n m : Nat} (h : n ≤ m) (hm : m ≤ 16777216) : n ≤ sizeLine := Nat.le_trans h (by show m ≤ 2 ^ 24; exact hm)
/-- the words with numbers above 0 -/
def posL (l : List (Str × Int)) : List (Str × Int) := l.filter fun p => decide (0 < p.2)
theorem mem_lookup {l : List (Str × Int)} {k : Str} {v : Int} (h : l.lookup k = some v) : (k, v) ∈ l := by
  induction l with
  | nil => cases h
  | cons a r ih =>
    rw [show (a :: r) = ((a.1, a.2) :: r) from rfl, List.lookup_cons] at h
    cases q : k == a.1 with
    | true =>
      rw [q] at h
      have h := Option.some.inj h
      rw [beq_iff_eq.mp q, ← h]
      exact List.mem_cons_self
    | false => rw [q] at h; exact List.mem_cons_of_mem _ (ih h)
theorem mem_tally {S : MS} {x : Str × Int} : x ∈ S.tally ↔ x.1 ∈ mwords ∧ x.2 = S.cnt x.1 := by
  unfold MS.tally
  constructor
  · intro h
    obtain ⟨w, hw, rfl⟩ := List.mem_map.mp h
    exact ⟨hw, rfl⟩
  · rintro ⟨h1, h2⟩
    exact List.mem_map.mpr ⟨x.1, h1, by rw [← h2]⟩
/-- the same above 0 -/
def Cnt (S : MS) (l : List (Str × Int)) : Prop := (l.map (·.1)).Nodup ∧ (∀ x ∈ l, x.1 ∈ mwords) ∧ ∀ w ∈ mwords, (∀ n, l.lookup w = some n → 0 < n → S.cnt w = n) ∧ (0 < S.cnt w → l.lookup w = some (S.cnt w))
end VL
namespace VL
open PySem L2
theorem bxor_nat (a b : Nat) : Builtin.bitXor (a : Int) (b : Int) = ((a ^^^ b : Nat) : Int) := by
  rw [Bits.bitXor_pp (Int.natCast_nonneg a) (Int.natCast_nonneg b), Int.toNat_natCast, Int.toNat_natCast]
end VL
namespace VL
open PySem L2
end VL
namespace VL
open PySem L2
def WkOk (l : List (T3 Str Int Int)) : Prop := ∀ x ∈ l, (PyData.str x.a).canLay0 = true
theorem wkok_dat {l : List (T3 Str Int Int)} (h : WkOk l) : Dat.ok (LF.mk l) := fun x hx => ⟨h x hx, trivial, trivial⟩
theorem wkok_nil : WkOk [] := fun x h => (by cases h)
theorem wkok_enter {S : MS} {w : Str} {m n : Int} (h : WkOk S.wk) (hw : (PyData.str w).canLay0 = true := by decide +kernel) : WkOk (S.enter w m n).wk := by
  unfold MS.enter
  show WkOk (if S.wk.length < 1000 then S.wk ++ [T3.mk w m n] else S.wk)
  split
  · intro x hx
    rcases List.mem_append.mp hx with z | z
    · exact h x z
    · rw [List.mem_singleton.mp z]; exact hw
  · exact h
end VL
namespace VL
open PySem L2
theorem nab_mul {a b : Int} {j k : Nat} (ha : a.natAbs < 2 ^ j) (hb : b.natAbs < 2 ^ k) : (a * b).natAbs < 2 ^ (j + k) := by
  rw [Int.natAbs_mul, Nat.pow_add]
  exact Nat.mul_lt_mul'' ha hb
end VL

set_option Elab.async false
set_option linter.all false
/-! bits of any integers -/
namespace VL
open PySem L2 PyProof.Rows
abbrev band := Builtin.bitAnd
theorem half (x y : Int) : band x y = 2 * band (x / 2) (y / 2) + (if x % 2 = 1 ∧ y % 2 = 1 then 1 else 0) := PySem.W.kbt_halves x y
theorem hl_div (h l : Int) (k : Nat) (h0 : 0 ≤ l) (h1 : l < 2 ^ (k + 1)) : (h * 2 ^ (k + 1) + l) / 2 = h * 2 ^ k + l / 2 ∧ (h * 2 ^ (k + 1) + l) % 2 = l % 2 ∧ 0 ≤ l / 2 ∧ l / 2 < 2 ^ k := by
  rw [Int.pow_succ] at h1 ⊢
  have e : h * (2 ^ k * 2) = 2 * (h * 2 ^ k) := by rw [← Int.mul_assoc, Int.mul_comm (h * 2 ^ k) 2]
  rw [e]
  omega
/-- both parts join by themselves -/
theorem band_split : ∀ (k : Nat) (h g l m : Int), 0 ≤ l → l < 2 ^ k → 0 ≤ m → m < 2 ^ k → band (h * 2 ^ k + l) (g * 2 ^ k + m) = band h g * 2 ^ k + band l m
  | 0, h, g, l, m, l0, l1, m0, m1 => by
    rw [Int.pow_zero] at l1 m1 ⊢
    have e1 : l = 0 := by omega
    have e2 : m = 0 := by omega
    subst e1 e2
    rw [show band 0 0 = 0 from rfl, Int.mul_one, Int.mul_one, Int.mul_one, Int.add_zero, Int.add_zero, Int.add_zero]
  | k + 1, h, g, l, m, l0, l1, m0, m1 => by
    obtain ⟨a1, a2, a3, a4⟩ := hl_div h l k l0 l1
    obtain ⟨b1, b2, b3, b4⟩ := hl_div g m k m0 m1
    rw [half (h * 2 ^ (k + 1) + l), a1, a2, b1, b2, band_split k h g _ _ a3 a4 b3 b4, half l m, Int.pow_succ, ← Int.mul_assoc, Int.mul_add, Int.mul_comm (band h g * 2 ^ k) 2]
    omega
theorem bor_eq (x y : Int) : Builtin.bitOr x y = x + y - band x y := bitOr_and x y
theorem bxor_eq (x y : Int) : Builtin.bitXor x y = x + y - 2 * band x y := bitXor_and x y
/-! one bit -/
def bit (x : Int) (i : Nat) : Int := x / 2 ^ i % 2
theorem bit_or (x : Int) (i : Nat) : bit x i = 0 ∨ bit x i = 1 := by unfold bit; omega
theorem bit_zero (x : Int) : bit x 0 = x % 2 := by unfold bit; rw [Int.pow_zero, Int.ediv_one]
theorem bit_succ (x : Int) (i : Nat) : bit x (i + 1) = bit (x / 2) i := by
  unfold bit
  rw [show (i + 1) = 1 + i from by omega, ← ediv_pow, show (2 : Int) ^ 1 = 2 from rfl]
theorem bit_band : ∀ (i : Nat) (x y : Int), bit (band x y) i = bit x i * bit y i
  | 0, x, y => by
    rw [bit_zero, bit_zero, bit_zero, half]
    rcases (show x % 2 = 0 ∨ x % 2 = 1 by omega) with a | a <;> rcases (show y % 2 = 0 ∨ y % 2 = 1 by omega) with b | b <;> rw [a, b] <;> simp <;> omega
  | i + 1, x, y => by
    rw [bit_succ, bit_succ, bit_succ, ← bit_band i]
    congr 1
    rw [half x y]
    split <;> omega
theorem bit_ext {x y : Int} (h : ∀ i, bit x i = bit y i) : x = y := by
  have key : ∀ (n : Nat) (x y : Int), x.natAbs + y.natAbs ≤ n → (∀ i, bit x i = bit y i) → x = y := by
    intro n
    induction n with
    | zero => intro x y hn _; omega
    | succ n ih =>
      intro x y hn h
      have h0 := h 0
      rw [bit_zero, bit_zero] at h0
      by_cases sm : (x / 2).natAbs + (y / 2).natAbs ≤ n
      · have := ih (x / 2) (y / 2) sm fun i => by rw [← bit_succ, ← bit_succ]; exact h (i + 1)
        omega
      · have hx : x = 0 ∨ x = -1 := by omega
        have hy : y = 0 ∨ y = -1 := by omega
        rcases hx with e | e <;> rcases hy with f | f <;> subst e f <;> first | rfl | (exfalso; revert h0; decide)
  exact key _ x y (Nat.le_refl _) h
end VL

set_option Elab.async false
set_option linter.all false
set_option maxRecDepth 100000
/-! VD: long division digit by digit, by numbers: the guess, how often it is corrected, what each place finds. -/
namespace VL
open PySem L2
section
variable {B E b r : Nat}
variable {h v1 v2 : Nat}
end
/-! ### the steps, by the two numbers that are divided: b has all its digits, E stands behind its last two -/
/-- what is divided at place i: the rest so far and the next digit -/
def dvR (B A b i : Nat) : Nat := A / B ^ (i + 1) % b * B + A / B ^ i % B
def dvS (B E A b i : Nat) : T4 Int Int Bool Int :=
  ⟨((dvR B A b i / E / B / (b / E / B) : Nat) : Int), ((dvR B A b i / E / B / (b / E / B) : Nat) : Int) - ((dvR B A b i / E / (b / E) : Nat) : Int), decide (dvR B A b i / b < dvR B A b i / E / (b / E)), ((dvR B A b i / b : Nat) : Int)⟩
/-- the steps of k places, from the top -/
def dvSteps (B E A b : Nat) : Nat → List (T4 Int Int Bool Int)
  | 0 => []
  | k + 1 => dvS B E A b k :: dvSteps B E A b k
end VL

set_option Elab.async false
set_option linter.all false
set_option maxRecDepth 100000
set_option maxHeartbeats 4000000
namespace P
open PySem L2 VL
section
variable {P : Program} {w : World} {mg : Str → Option Value} {base : Heap} {T : TC}

abbrev qual__law_odds : Str := (("_law_odds" : Str) ++ ".<locals>.") ++ "<lambda>"
abbrev qual__law_due : Str := (("_law_due" : Str) ++ ".<locals>.") ++ "<lambda>"
def tbs (T : TC) : List (Addr × Str) := [(T.C 100, qual__law_odds), (T.C 101, qual__law_due)]
theorem mem__law_odds (T : TC) : (T.C 100, qual__law_odds) ∈ tbs T := by simp [tbs]
theorem mem__law_due (T : TC) : (T.C 101, qual__law_due) ∈ tbs T := by simp [tbs]
noncomputable def M_is_integer (x0 : Int) : Option Bool :=
  some (true && (!false))
def Pre_is_integer (T : TC) : PreT := fun As Ω R => ∃ (x0 : Int) (r : Bool), As = [va T x0] ∧ M_is_integer x0 = some r ∧ R = RV (va T r) (stt Ω [] [])
theorem sc_is_integer : FnScope ["value"] ["value"] (defScope s_is_integer) := ⟨rfl, rfl, rfl, by decide +kernel, rfl, by decide +kernel, by decide +kernel⟩
theorem ok_is_integer {f : Addr} {fd : FuncData} (F : Fun T.K "is_integer" "is_integer" s_is_integer f fd) (z_isinstance : mg "isinstance" = none) (z_int : mg "int" = none) (z_bool : mg "bool" = none) : FnOk P w T.K mg base CX0 1 f fd ["value"] (mkSp (Pre_is_integer T)) := by
  refine fn_ok F sc_is_integer (fun As Ω R h => ?_) (fun cdv A outer s H E hr As Ω R F0 h => ?_)
  · obtain ⟨x0, r, rfl, _⟩ := h
    rfl
  obtain ⟨x0, r, rfl, hm, rfl⟩ := h
  refine ⟨_, (pss_one (ps_ret (pe_and (pe_callB (cr_isiK (K := T.K) rfl) (by rfl) z_isinstance (by decide +kernel) (pa_cons (pv 0) (pa_cons (pe_bltn (v := .ty "int") (by rfl) z_int (by decide +kernel) rfl) pa_nil))) (pe_one (pe_not (pe_callB (cr_isiK (K := T.K) rfl) (by rfl) z_isinstance (by decide +kernel) (pa_cons (pv 0) (pa_cons (pe_bltn (v := .ty "bool") (by rfl) z_bool (by decide +kernel) rfl) pa_nil)))))))), fun D hrt hnx => ?_⟩
  have ok : Okk Ω [] := okk0
  suffices hx : XS _ D F0 [some (va T x0)] (stt Ω [] []) by
    rw [show (stt Ω [] []) = Ω from stt_self (by simp)] at hx
    exact hx
  unfold M_is_integer at hm
  obtain rfl := Option.some.inj hm
  refine xs_ret (xe_andV (xe_isi (xe_var (i := 0) rfl) xe_vx (.ty _) (fun F H v hh a => ty_int hh a) (kit_ty (by decide +kernel))) (fun _ => (xe_notV (xe_isi (xe_var (i := 0) rfl) xe_vx (.ty _) (fun F H v hh a => ty_int hh a) (kit_ty (by decide +kernel)))))) hrt.all
noncomputable def M_is_between (x0 : Int) (x1 : Int) (x2 : Int) : Option Bool :=
  (M_is_integer x0).bind fun z1 => some (z1 && (decide (x1 ≤ x0) && decide (x0 ≤ x2)))
def Pre_is_between (T : TC) : PreT := fun As Ω R => ∃ (x0 : Int) (x1 : Int) (x2 : Int) (r : Bool), As = [va T x0, va T x1, va T x2] ∧ M_is_between x0 x1 x2 = some r ∧ R = RV (va T r) (stt Ω [] [])
theorem sc_is_between : FnScope ["value", "low", "high"] ["value", "low", "high"] (defScope s_is_between) := ⟨rfl, rfl, rfl, by decide +kernel, rfl, by decide +kernel, by decide +kernel⟩
theorem ok_is_between {f : Addr} {fd : FuncData} (F : Fun T.K "is_between" "is_between" s_is_between f fd) (c_is_integer : Cal P w T.K mg base 1 "is_integer" ["value"] (mkSp (Pre_is_integer T))) : FnOk P w T.K mg base CX0 2 f fd ["value", "low", "high"] (mkSp (Pre_is_between T)) := by
  refine fn_ok F sc_is_between (fun As Ω R h => ?_) (fun cdv A outer s H E hr As Ω R F0 h => ?_)
  · obtain ⟨x0, x1, x2, r, rfl, _⟩ := h
    rfl
  obtain ⟨x0, x1, x2, r, rfl, hm, rfl⟩ := h
  refine ⟨_, (pss_one (ps_ret (pe_and (pe_cal c_is_integer (hr.mono (by decide)) (by rfl) (pa_cons (pv 0) pa_nil)) (pe_one (pe_chain op_le op_le (pv 1) (pv 0) (pv 2)))))), fun D hrt hnx => ?_⟩
  have ok : Okk Ω [] := okk0
  suffices hx : XS _ D F0 [some (va T x0), some (va T x1), some (va T x2)] (stt Ω [] []) by
    rw [show (stt Ω [] []) = Ω from stt_self (by simp)] at hx
    exact hx
  unfold M_is_between at hm
  obtain ⟨z1, hz1, hm⟩ := bnd_some hm
  obtain rfl := Option.some.inj hm
  refine xs_ret (xe_andV (xe_call (xa_cons (xe_var (i := 0) rfl) xa_nil) ⟨x0, z1, rfl, hz1, rfl⟩ cal0) (fun _ => (xe_chain (xe_var (i := 1) rfl) (xe_var (i := 0) rfl) ro_bl (fun _ => (xe_var (i := 2) rfl)) (fun _ => ro_bl)))) hrt.all
theorem sc_Mach_step : FnScope ["self", "word", "many"] ["self", "word", "many"] (defScope s_Mach_step) := ⟨rfl, rfl, rfl, by decide +kernel, rfl, by decide +kernel, by decide +kernel⟩
theorem ok_Mach_step {f : Addr} {fd : FuncData} (F : Fun T.K "step" "Machine.step" s_Mach_step f fd) (mc : MCls T.K (T.C 0))  : FnOk P w T.K mg base CX0 1 f fd ["self", "word", "many"] (mkSp (Pre_Mach_step T)) := by
  refine fn_ok F sc_Mach_step (fun As Ω R h => ?_) (fun cdv A outer s H E hr As Ω R F0 h => ?_)
  · obtain ⟨k, p, x, wd, n, rfl, _⟩ := h; rfl
  obtain ⟨k, p, x, wd, n, rfl, hk, hw, rfl⟩ := h
  refine ⟨_, pss_one (ps_daug (hu_of hr) (pe_fld (pv 0) (by rfl)) (pv 1) (pv 2) in_add (fun _ _ _ => rfl)), fun D hrt hnx => ?_⟩
  exact xs_step mc rfl rfl rfl hk hw fun σ H ⟨F, f0, e, hh⟩ => hnx F σ H _ f0 hh ⟨rfl, stt_one.symm⟩
theorem sc_Mach_enter : FnScope ["self", "word", "m", "n"] ["self", "word", "m", "n"] (defScope s_Mach_enter) := ⟨rfl, rfl, rfl, by decide +kernel, rfl, by decide +kernel, by decide +kernel⟩
theorem ok_Mach_enter {f : Addr} {fd : FuncData} (F : Fun T.K "enter" "Machine.enter" s_Mach_enter f fd) (mc : MCls T.K (T.C 0)) (z_len : mg "len" = none) (g_LONGEST_WALK : ∃ u, mg "LONGEST_WALK" = some u ∧ RelV (.int 1000) u) : FnOk P w T.K mg base CX0 1 f fd ["self", "word", "m", "n"] (mkSp (Pre_Mach_enter T)) := by
  refine fn_ok F sc_Mach_enter (fun As Ω R h => ?_) (fun cdv A outer s H E hr As Ω R F0 h => ?_)
  · obtain ⟨k, p, x, wd, m, n, rfl, _⟩ := h; rfl
  obtain ⟨k, p, x, wd, m, n, rfl, hk, rfl⟩ := h
  refine ⟨_, pss_one (ps_if (pt_cmpR op_lt (pe_callB cr_len (by rfl) z_len PySem.boot_len (pa_cons (pe_fld (pv 0) (by rfl)) pa_nil)) (pe_gl rfl g_LONGEST_WALK) (nomark _)) (pss_one (ps_expr (pe_bm PySem.F.plainAttrs_list PySem.F.slot_list_append PySem.F.type_list_append mt_append (pe_fld (pv 0) (by rfl)) (pa_cons (pe_tup (pa_cons (pv 1) (pa_cons (pv 2) (pa_cons (pv 3) pa_nil)))) pa_nil)))) pss_nil), fun D hrt hnx => ?_⟩
  exact xs_enter mc rfl rfl rfl rfl hk fun σ H ⟨F, f0, e, hh⟩ => hnx F σ H _ f0 hh ⟨rfl, stt_one.symm⟩
theorem sc_Mach_reset : FnScope ["self", "word"] ["self"] (defScope s_Mach_reset) := ⟨rfl, rfl, rfl, by decide +kernel, rfl, by decide +kernel, by decide +kernel⟩
theorem ok_Mach_reset {f : Addr} {fd : FuncData} (F : Fun T.K "reset" "Machine.reset" s_Mach_reset f fd) (mc : MCls T.K (T.C 0)) {aW : Addr} (g_WORDS : ∃ u, mg "WORDS" = some u ∧ RelV (.ref aW) u) (hW : ∀ H, SqT T.K H aW (mwords.map V.str)) : FnOk P w T.K mg base CX0 1 f fd ["self"] (mkSp (Pre_Mach_reset T)) := by
  refine fn_ok F sc_Mach_reset (fun As Ω R h => ?_) (fun cdv A outer s H E hr As Ω R F0 h => ?_)
  · obtain ⟨k, p, x, rfl, _⟩ := h; rfl
  obtain ⟨k, p, x, rfl, hk, rfl⟩ := h
  refine ⟨_, pss_cons (ps_fld (pv 0) (pe_dc (own := [("word", 1)]) rfl sc_Mach_reset.nd (pi_tup (pe_gl rfl g_WORDS)) (blkOk_by (N := ["self", "word"]) (sc := defScope s_Mach_reset) (by decide +kernel)) (fun _ _ _ _ _ => pg_name (i := 1) sc_Mach_reset.nd rfl (.inl rfl)) (fun _ _ _ _ _ => pts_nil) (fun _ _ _ _ _ => pv 1) (fun _ _ _ _ _ => pe_int)) rfl) (pss_one (ps_fld (pv 0) (pe_lst pa_nil) rfl)), fun D hrt hnx => ?_⟩
  exact xs_mreset mc hW (by simp) (by simp) rfl hk fun σ H ⟨F, f0, e, hh⟩ => hnx F σ H _ f0 hh ⟨rfl, stt_one.symm⟩
theorem sc_Mach_tally : FnScope ["self", "word"] ["self"] (defScope s_Mach_tally) := ⟨rfl, rfl, rfl, by decide +kernel, rfl, by decide +kernel, by decide +kernel⟩
theorem ok_Mach_tally {f : Addr} {fd : FuncData} (F : Fun T.K "tally" "Machine.tally" s_Mach_tally f fd) (mc : MCls T.K (T.C 0)) {aW : Addr} (g_WORDS : ∃ u, mg "WORDS" = some u ∧ RelV (.ref aW) u) (hW : ∀ H, SqT T.K H aW (mwords.map V.str)) : FnOk P w T.K mg base CX0 1 f fd ["self"] (mkSp (Pre_Mach_tally T)) := by
  refine fn_ok F sc_Mach_tally (fun As Ω R h => ?_) (fun cdv A outer s H E hr As Ω R F0 h => ?_)
  · obtain ⟨k, p, x, rfl, _⟩ := h; rfl
  obtain ⟨k, p, x, rfl, hk, rfl⟩ := h
  refine ⟨_, pss_one (ps_ret (pe_lc (own := [("word", 1)]) rfl sc_Mach_tally.nd (pi_tup (pe_gl rfl g_WORDS)) (blkOk_by (N := ["self", "word"]) (sc := defScope s_Mach_tally) (by decide +kernel)) (fun _ _ _ _ _ => pg_name (i := 1) sc_Mach_tally.nd rfl (.inl rfl)) (fun _ _ _ _ _ => pts_nil) (fun _ _ _ _ _ => pe_tup (pa_cons (pv 1) (pa_cons (pe_dget (by exact hu_of hr) (pe_fldK (K := T.K) (pv 0) (by rfl) rfl) (pv 1) (by intro _ _; rfl)) pa_nil))))), fun D hrt hnx => ?_⟩
  exact xs_ret (xe_tally mc hW (by simp) rfl (by simp [wip]) hk) hrt
theorem sc_Mach_walk : FnScope ["self"] ["self"] (defScope s_Mach_walk) := ⟨rfl, rfl, rfl, by decide +kernel, rfl, by decide +kernel, by decide +kernel⟩
theorem ok_Mach_walk {f : Addr} {fd : FuncData} (F : Fun T.K "walk" "Machine.walk" s_Mach_walk f fd) (mc : MCls T.K (T.C 0)) (z_list : mg "list" = none) : FnOk P w T.K mg base CX0 1 f fd ["self"] (mkSp (Pre_Mach_walk T)) := by
  refine fn_ok F sc_Mach_walk (fun As Ω R h => ?_) (fun cdv A outer s H E hr As Ω R F0 h => ?_)
  · obtain ⟨k, p, x, rfl, _⟩ := h; rfl
  obtain ⟨k, p, x, rfl, hk, rfl⟩ := h
  refine ⟨_, pss_one (ps_ret (pe_callTy cr_list (by rfl) z_list (by decide +kernel) (pa_cons (pe_fld (pv 0) (by rfl)) pa_nil))), fun D hrt hnx => ?_⟩
  exact xs_ret (xe_walk mc rfl hk) hrt
theorem sc_Mach_parts : FnScope ["self"] ["self"] (defScope s_Mach_parts) := ⟨rfl, rfl, rfl, by decide +kernel, rfl, by decide +kernel, by decide +kernel⟩
theorem ok_Mach_parts {f : Addr} {fd : FuncData} (F : Fun T.K "parts" "Machine.parts" s_Mach_parts f fd) (mc : MCls T.K (T.C 0))  : FnOk P w T.K mg base CX0 1 f fd ["self"] (mkSp (Pre_Mach_parts T)) := by
  refine fn_ok F sc_Mach_parts (fun As Ω R h => ?_) (fun cdv A outer s H E hr As Ω R F0 h => ?_)
  · obtain ⟨k, p, x, rfl, _⟩ := h; rfl
  obtain ⟨k, p, x, rfl, hk, rfl⟩ := h
  refine ⟨_, pss_one (ps_ret (pe_tup (pa_cons (pe_fld (pv 0) (by rfl)) (pa_cons (pe_fld (pv 0) (by rfl)) pa_nil)))), fun D hrt hnx => ?_⟩
  exact xs_ret (xe_tup2 (xa_cons (xe_mw mc.cl mc.nw (xe_var (i := 0) rfl) hk) (xa_cons (xe_mc mc.cl mc.nc (xe_var (i := 0) rfl) hk) xa_nil))) hrt
theorem sc_Mach_init : FnScope ["self", "bits", "cutoff", "word"] ["self", "bits", "cutoff"] (defScope s_Mach_init) := ⟨rfl, rfl, rfl, by decide +kernel, rfl, by decide +kernel, by decide +kernel⟩
theorem ok_Mach_init {f : Addr} {fd : FuncData} (F : FunD T.K "__init__" "Machine.__init__" (defArgs s_Mach_init) (defBody s_Mach_init) (defScope s_Mach_init) [.int 30, .int 70] [] f fd) (mc : MCls T.K (T.C 0)) {aW : Addr} (g_WORDS : ∃ u, mg "WORDS" = some u ∧ RelV (.ref aW) u) (hW : ∀ H, SqT T.K H aW (mwords.map V.str)) (c_is_between : Cal P w T.K mg base 2 "is_between" ["value", "low", "high"] (mkSp (Pre_is_between T))) : FnOk P w T.K mg base CX0 3 f fd ["self", "bits", "cutoff"] (mkSp (Pre_Machine T)) := by
  refine fn_okD F sc_Mach_init (fun As Ω R h => ?_) (fun cdv A outer s H E hr As Ω R F0 h => ?_)
  · obtain ⟨Ω0, p, w, c, rfl, _⟩ := h; rfl
  obtain ⟨Ω0, p, w, c, rfl, hc, rfl, rfl⟩ := h
  refine ⟨_, pss_cons (ps_if (pt_not (pt_val (pe_cal c_is_between (hr.mono (by decide)) (by rfl) (pa_cons (pv 1) (pa_cons pe_int (pa_cons pe_int pa_nil)))))) pss_never pss_nil) (pss_cons (ps_if (pt_not (pt_val (pe_cal c_is_between (hr.mono (by decide)) (by rfl) (pa_cons (pv 2) (pa_cons pe_int (pa_cons pe_int pa_nil)))))) pss_never pss_nil) (pss_cons (ps_fld (pv 0) (pv 1) rfl) (pss_cons (ps_fld (pv 0) (pv 2) rfl) (pss_cons (ps_fld (pv 0) (pe_dc (own := [("word", 3)]) rfl sc_Mach_init.nd (pi_tup (pe_gl rfl g_WORDS)) (blkOk_by (N := ["self", "bits", "cutoff", "word"]) (sc := defScope s_Mach_init) (by decide +kernel)) (fun _ _ _ _ _ => pg_name (i := 3) sc_Mach_init.nd rfl (.inl rfl)) (fun _ _ _ _ _ => pts_nil) (fun _ _ _ _ _ => pv 3) (fun _ _ _ _ _ => pe_int)) rfl) (pss_one (ps_fld (pv 0) (pe_lst pa_nil) rfl)))))), fun D hrt hnx => ?_⟩
  have m1 : M_is_between w 8 30 = some true := by simp [M_is_between, M_is_integer, hc.1.1, hc.1.2]
  have m2 : M_is_between c 2 1000 = some true := by simp [M_is_between, M_is_integer, hc.2.1, hc.2.2]
  show XS _ D F0 [some (vr p), some (va T w), some (va T c), none] _
  refine xs_ifN (xt_notF (xt_tB (T := T) (xe_call (xa_cons (xe_var (i := 1) rfl) (xa_cons xe_int (xa_cons xe_int xa_nil))) ⟨w, 8, 30, true, rfl, m1, rfl⟩ (List.append_nil _)))) ?_
  show XS _ D F0 [some (vr p), some (va T w), some (va T c), none] _
  refine xs_ifN (xt_notF (xt_tB (T := T) (xe_call (xa_cons (xe_var (i := 2) rfl) (xa_cons xe_int (xa_cons xe_int xa_nil))) ⟨c, 2, 1000, true, rfl, m2, rfl⟩ (List.append_nil _)))) ?_
  show XS _ D F0 [some (vr p), some (va T w), some (va T c), none] _
  exact xs_minit (k := Ω0.length) mc hW (by simp) (by simp) rfl rfl rfl app_at fun σ H ⟨F, f0, e, hh⟩ => hnx F σ H _ f0 hh ⟨rfl, set_last⟩
noncomputable def M_Big_eq (x0 : Bg) (x1 : Bg) : Option Bool :=
  some (true && ((decide (x0.w = x1.w)) && (decide (x0.v = x1.v))))
def Pre_Big_eq (T : TC) : PreT := fun As Ω R => ∃ (x0 : Bg) (x1 : Bg) (r : Bool), As = [va T x0, va T x1] ∧ M_Big_eq x0 x1 = some r ∧ R = RV (va T r) (stt Ω [] [])
theorem sc_Big_eq : FnScope ["self", "other"] ["self", "other"] (defScope s_Big_eq) := ⟨rfl, rfl, rfl, by decide +kernel, rfl, by decide +kernel, by decide +kernel⟩
theorem ok_Big_eq {f : Addr} {fd : FuncData} (F : Fun T.K "__eq__" "Big.__eq__" s_Big_eq f fd) (z_isinstance : mg "isinstance" = none) (icb : ICls T.K (T.C 1)) (g_Big : ∃ u, mg "Big" = some u ∧ RelV (.ref (T.C 1)) u) (bc : BCls T.K (T.C 1)) : FnOk P w T.K mg base CX0 1 f fd ["self", "other"] (mkSp (Pre_Big_eq T)) := by
  refine fn_ok F sc_Big_eq (fun As Ω R h => ?_) (fun cdv A outer s H E hr As Ω R F0 h => ?_)
  · obtain ⟨x0, x1, r, rfl, _⟩ := h
    rfl
  obtain ⟨x0, x1, r, rfl, hm, rfl⟩ := h
  refine ⟨_, (pss_one (ps_ret (pe_and (pe_callB (cr_isiK (K := T.K) rfl) (by rfl) z_isinstance (by decide +kernel) (pa_cons (pv 1) (pa_cons (pe_gl rfl g_Big) pa_nil))) (pe_and (pe_cmpR (op_eqXK (K := T.K) (by exact hr.units) rfl) (pe_fldK (K := T.K) (pv 0) (by rfl) rfl) (pe_fldK (K := T.K) (pv 1) (by rfl) rfl) (nomark _)) (pe_one (pe_cmpR (op_eqXK (K := T.K) (by exact hr.units) rfl) (pe_fldK (K := T.K) (pv 0) (by rfl) rfl) (pe_fldK (K := T.K) (pv 1) (by rfl) rfl) (nomark _))))))), fun D hrt hnx => ?_⟩
  have ok : Okk Ω [] := okk0
  suffices hx : XS _ D F0 [some (va T x0), some (va T x1)] (stt Ω [] []) by
    rw [show (stt Ω [] []) = Ω from stt_self (by simp)] at hx
    exact hx
  unfold M_Big_eq at hm
  obtain rfl := Option.some.inj hm
  refine xs_ret (xe_andV (xe_isi (xe_var (i := 1) rfl) xe_vx (.own _) (fun F H v hh a => ty_big icb hh a) icb.kit) (fun _ => (xe_andV (xe_eqI (xe_bw bc.cl bc.nw (xe_var (i := 0) rfl)) (xe_bw bc.cl bc.nw (xe_var (i := 1) rfl))) (fun _ => (xe_eqI (xe_bv bc.cl bc.nv (xe_var (i := 0) rfl)) (xe_bv bc.cl bc.nv (xe_var (i := 1) rfl))))))) hrt.all
noncomputable def M_Big_digits (x0 : Bg) : Option (List Int) :=
  some x0.row
def Pre_Big_digits (T : TC) : PreT := fun As Ω R => ∃ (x0 : Bg) (r : List Int), As = [va T x0] ∧ M_Big_digits x0 = some r ∧ R = RV (va T (LF.mk r)) (stt Ω [] [])
theorem sc_Big_digits : FnScope ["self"] ["self"] (defScope s_Big_digits) := ⟨rfl, rfl, rfl, by decide +kernel, rfl, by decide +kernel, by decide +kernel⟩
theorem ok_Big_digits {f : Addr} {fd : FuncData} (F : Fun T.K "digits" "Big.digits" s_Big_digits f fd) (bc : BCls T.K (T.C 1)) (z_list : mg "list" = none) : FnOk P w T.K mg base CX0 1 f fd ["self"] (mkSp (Pre_Big_digits T)) := by
  refine fn_ok F sc_Big_digits (fun As Ω R h => ?_) (fun cdv A outer s H E hr As Ω R F0 h => ?_)
  · obtain ⟨x0, r, rfl, _⟩ := h
    rfl
  obtain ⟨x0, r, rfl, hm, rfl⟩ := h
  refine ⟨_, (pss_one (ps_ret (pe_callTy (cr_listK (K := T.K) rfl) (by rfl) z_list (by decide +kernel) (pa_cons (pe_fldK (K := T.K) (pv 0) (by rfl) rfl) pa_nil)))), fun D hrt hnx => ?_⟩
  have ok : Okk Ω [] := okk0
  suffices hx : XS _ D F0 [some (va T x0)] (stt Ω [] []) by
    rw [show (stt Ω [] []) = Ω from stt_self (by simp)] at hx
    exact hx
  unfold M_Big_digits at hm
  obtain rfl := Option.some.inj hm
  refine xs_ret (xe_listT (xe_br bc.cl bc.nr (xe_var (i := 0) rfl)) isT_TF) hrt.all
noncomputable def M_Big_sign (x0 : Bg) : Option Int :=
  some (sgn x0.v)
def Pre_Big_sign (T : TC) : PreT := fun As Ω R => ∃ (x0 : Bg) (r : Int), As = [va T x0] ∧ M_Big_sign x0 = some r ∧ R = RV (va T r) (stt Ω [] [])
theorem sc_Big_sign : FnScope ["self"] ["self"] (defScope s_Big_sign) := ⟨rfl, rfl, rfl, by decide +kernel, rfl, by decide +kernel, by decide +kernel⟩
theorem ok_Big_sign {f : Addr} {fd : FuncData} (F : Fun T.K "sign" "Big.sign" s_Big_sign f fd) (bc : BCls T.K (T.C 1)) : FnOk P w T.K mg base CX0 1 f fd ["self"] (mkSp (Pre_Big_sign T)) := by
  refine fn_ok F sc_Big_sign (fun As Ω R h => ?_) (fun cdv A outer s H E hr As Ω R F0 h => ?_)
  · obtain ⟨x0, r, rfl, _⟩ := h
    rfl
  obtain ⟨x0, r, rfl, hm, rfl⟩ := h
  refine ⟨_, (pss_one (ps_ret (pe_fldK (K := T.K) (pv 0) (by rfl) rfl))), fun D hrt hnx => ?_⟩
  have ok : Okk Ω [] := okk0
  suffices hx : XS _ D F0 [some (va T x0)] (stt Ω [] []) by
    rw [show (stt Ω [] []) = Ω from stt_self (by simp)] at hx
    exact hx
  unfold M_Big_sign at hm
  obtain rfl := Option.some.inj hm
  refine xs_ret (xe_bs bc.cl bc.ns (xe_var (i := 0) rfl)) hrt.all
noncomputable def M_Big_bits (x0 : Bg) : Option Int :=
  some x0.w
def Pre_Big_bits (T : TC) : PreT := fun As Ω R => ∃ (x0 : Bg) (r : Int), As = [va T x0] ∧ M_Big_bits x0 = some r ∧ R = RV (va T r) (stt Ω [] [])
theorem sc_Big_bits : FnScope ["self"] ["self"] (defScope s_Big_bits) := ⟨rfl, rfl, rfl, by decide +kernel, rfl, by decide +kernel, by decide +kernel⟩
theorem ok_Big_bits {f : Addr} {fd : FuncData} (F : Fun T.K "bits" "Big.bits" s_Big_bits f fd) (bc : BCls T.K (T.C 1)) : FnOk P w T.K mg base CX0 1 f fd ["self"] (mkSp (Pre_Big_bits T)) := by
  refine fn_ok F sc_Big_bits (fun As Ω R h => ?_) (fun cdv A outer s H E hr As Ω R F0 h => ?_)
  · obtain ⟨x0, r, rfl, _⟩ := h
    rfl
  obtain ⟨x0, r, rfl, hm, rfl⟩ := h
  refine ⟨_, (pss_one (ps_ret (pe_fldK (K := T.K) (pv 0) (by rfl) rfl))), fun D hrt hnx => ?_⟩
  have ok : Okk Ω [] := okk0
  suffices hx : XS _ D F0 [some (va T x0)] (stt Ω [] []) by
    rw [show (stt Ω [] []) = Ω from stt_self (by simp)] at hx
    exact hx
  unfold M_Big_bits at hm
  obtain rfl := Option.some.inj hm
  refine xs_ret (xe_bw bc.cl bc.nw (xe_var (i := 0) rfl)) hrt.all
noncomputable def M_order_of (x0 : Int) (x1 : Int) : Option Int :=
  if (decide (x0 < x1)) = true then some (-(1 : Int)) else some (if (decide (x0 = x1)) = true then (0 : Int) else (1 : Int))
def Pre_order_of (T : TC) : PreT := fun As Ω R => ∃ (x0 : Int) (x1 : Int) (r : Int), As = [va T x0, va T x1] ∧ M_order_of x0 x1 = some r ∧ R = RV (va T r) (stt Ω [] [])
theorem sc_order_of : FnScope ["a", "b"] ["a", "b"] (defScope s_order_of) := ⟨rfl, rfl, rfl, by decide +kernel, rfl, by decide +kernel, by decide +kernel⟩
theorem ok_order_of {f : Addr} {fd : FuncData} (F : Fun T.K "order_of" "order_of" s_order_of f fd)  : FnOk P w T.K mg base CX0 1 f fd ["a", "b"] (mkSp (Pre_order_of T)) := by
  refine fn_ok F sc_order_of (fun As Ω R h => ?_) (fun cdv A outer s H E hr As Ω R F0 h => ?_)
  · obtain ⟨x0, x1, r, rfl, _⟩ := h
    rfl
  obtain ⟨x0, x1, r, rfl, hm, rfl⟩ := h
  refine ⟨_, (pss_cons (ps_if (pt_cmpR op_lt (pv 0) (pv 1) (nomark _)) (pss_one (ps_ret (pe_un un_neg pe_int))) pss_nil) (pss_one (ps_ret (pe_ifExp (pt_cmpR (op_eqXK (K := T.K) (by exact hr.units) rfl) (pv 0) (pv 1) (nomark _)) pe_int pe_int)))), fun D hrt hnx => ?_⟩
  have ok : Okk Ω [] := okk0
  suffices hx : XS _ D F0 [some (va T x0), some (va T x1)] (stt Ω [] []) by
    rw [show (stt Ω [] []) = Ω from stt_self (by simp)] at hx
    exact hx
  unfold M_order_of at hm
  by_cases hc : (decide (x0 < x1)) = true
  · rw [if_pos hc] at hm
    refine xs_ifT (xt_eq (xt_test (T := T) (xe_lt (xe_var (i := 0) rfl) (xe_var (i := 1) rfl))) hc) ?_
    obtain rfl := Option.some.inj hm
    refine xs_ret (xe_neg xe_int) hrt.all
  · rw [if_neg hc] at hm
    refine xs_ifN (xt_eq (xt_test (T := T) (xe_lt (xe_var (i := 0) rfl) (xe_var (i := 1) rfl))) (nt hc)) ?_
    show XS (tRet _) _ _ [some (va T x0), some (va T x1)] (stt Ω [] [])
    obtain rfl := Option.some.inj hm
    refine xs_ret (xe_ite (xt_test (T := T) (xe_eqI (xe_var (i := 0) rfl) (xe_var (i := 1) rfl))) xe_int xe_int) hrt.all
theorem sc_Big_init : FnScope ["self", "width", "value", "row"] ["self", "width", "value", "row"] (defScope s_Big_init) := ⟨rfl, rfl, rfl, by decide +kernel, rfl, by decide +kernel, by decide +kernel⟩
theorem order_sgn (v : Int) : M_order_of v 0 = some (sgn v) := by
  unfold M_order_of sgn
  by_cases h : v < 0
  · rw [if_pos (decide_eq_true h), if_pos h]
  · rw [if_neg (by simpa using h), if_neg h]
    by_cases e : v = 0
    · rw [if_pos (decide_eq_true e), if_pos e]
    · rw [if_neg (by simpa using e), if_neg e]
theorem ok_Big_init {f : Addr} {fd : FuncData} (F : Fun T.K "__init__" "Big.__init__" s_Big_init f fd) (bc : BCls T.K (T.C 1)) (z_tuple : mg "tuple" = none) (c_order_of : Cal P w T.K mg base 1 "order_of" ["a", "b"] (mkSp (Pre_order_of T))) : FnOk P w T.K mg base CX0 2 f fd ["self", "width", "value", "row"] (mkSp (Pre_Big T)) := by
  refine fn_ok F sc_Big_init (fun As Ω R h => ?_) (fun cdv A outer s H E hr As Ω R F0 h => ?_)
  · obtain ⟨Ω0, p, w, sd, row, B, _, rfl, _⟩ := h; rfl
  obtain ⟨Ω0, p, w, sd, row, B, hB, rfl, rfl, rfl⟩ := h
  refine ⟨_, pss_cons (ps_fld (pv 0) (pv 1) rfl) (pss_cons (ps_fld (pv 0) (pe_cal c_order_of (hr.mono (by decide)) (by rfl) (pa_cons (pv 2) (pa_cons pe_int pa_nil))) rfl) (pss_cons (ps_fld (pv 0) (pe_callTy cr_tuple (by rfl) z_tuple (by decide +kernel) (pa_cons (pv 3) pa_nil)) rfl) (pss_one (ps_fld (pv 0) (pv 2) rfl)))), fun D hrt hnx => ?_⟩
  show XS _ D F0 [some (vr p), some (va T w), some (va T sd), some B] _
  refine xs_binit (k := Ω0.length) (row := row) bc rfl rfl rfl (fun Ω' => xe_call (xa_cons (xe_var (i := 2) rfl) (xa_cons xe_int xa_nil)) ⟨sd, 0, sgn sd, rfl, order_sgn sd, rfl⟩ cal0') (fun Ω' => ?_) app_at fun σ H ⟨F, f0, e, hh⟩ => hnx F σ H _ f0 hh ⟨rfl, set_last⟩
  rcases hB with rfl | rfl
  · exact xe_tupleL (xe_var (i := 3) rfl) isL_LF
  · exact xe_tupleT (xe_var (i := 3) rfl)
noncomputable def M_check_machine (x0 : MS) : Option Unit :=
  (chkP (true = true)).bind fun z1 => some ()
def Pre_check_machine (T : TC) : PreT := fun As Ω R => ∃ (k0 : Nat) (p0 : Addr) (x0 : MS) (r : Unit), As = [vr p0] ∧ Ω[k0]? = some (machA T p0 x0) ∧ M_check_machine x0 = some r ∧ R = RV (va T r) (stt Ω [] [])
theorem sc_check_machine : FnScope ["machine"] ["machine"] (defScope s_check_machine) := ⟨rfl, rfl, rfl, by decide +kernel, rfl, by decide +kernel, by decide +kernel⟩
theorem ok_check_machine {f : Addr} {fd : FuncData} (F : Fun T.K "check_machine" "check_machine" s_check_machine f fd) (z_isinstance : mg "isinstance" = none) (icm : ICls T.K (T.C 0)) (g_Machine : ∃ u, mg "Machine" = some u ∧ RelV (.ref (T.C 0)) u) : FnOk P w T.K mg base CX0 1 f fd ["machine"] (mkSp (Pre_check_machine T)) := by
  refine fn_ok F sc_check_machine (fun As Ω R h => ?_) (fun cdv A outer s H E hr As Ω R F0 h => ?_)
  · obtain ⟨k0, p0, x0, r, rfl, _⟩ := h
    rfl
  obtain ⟨k0, p0, x0, r, rfl, hk0, hm, rfl⟩ := h
  refine ⟨_, (pss_one (ps_if (pt_not (pt_val (pe_callB (cr_isiK (K := T.K) rfl) (by rfl) z_isinstance (by decide +kernel) (pa_cons (pv 0) (pa_cons (pe_gl rfl g_Machine) pa_nil))))) pss_never pss_nil)), fun D hrt hnx => ?_⟩
  have ok : Okk Ω [] := okk0
  suffices hx : XS _ D F0 [some (vr p0)] (stt Ω [] []) by
    rw [show (stt Ω [] []) = Ω from stt_self (by simp)] at hx
    exact hx
  unfold M_check_machine at hm
  obtain ⟨z1, hz1, hm⟩ := bnd_some hm
  refine xs_ifF1 (xt_notF (xt_eq (xt_tB (T := T) (xe_isi (xe_var (i := 0) rfl) xe_vx (.own _) (fun F H v hh a => ty_mach icm (stt_getU hk0) hh a) icm.kit)) (chkP_some hz1))) ?_
  obtain rfl := Option.some.inj hm
  exact fun σ H ⟨F, f0, e, hh⟩ => hnx F σ H _ f0 hh.all ⟨rfl, rfl⟩
noncomputable def M_top_digit (x0 : Int) : Option Int :=
  (chkP (CShl (1 : Int) x0)).bind fun z1 => some (((1 : Int) * 2 ^ (x0).toNat) - (1 : Int))
def Pre_top_digit (T : TC) : PreT := fun As Ω R => ∃ (x0 : Int) (r : Int), As = [va T x0] ∧ M_top_digit x0 = some r ∧ R = RV (va T r) (stt Ω [] [])
theorem sc_top_digit : FnScope ["width"] ["width"] (defScope s_top_digit) := ⟨rfl, rfl, rfl, by decide +kernel, rfl, by decide +kernel, by decide +kernel⟩
theorem ok_top_digit {f : Addr} {fd : FuncData} (F : Fun T.K "top_digit" "top_digit" s_top_digit f fd)  : FnOk P w T.K mg base CX0 1 f fd ["width"] (mkSp (Pre_top_digit T)) := by
  refine fn_ok F sc_top_digit (fun As Ω R h => ?_) (fun cdv A outer s H E hr As Ω R F0 h => ?_)
  · obtain ⟨x0, r, rfl, _⟩ := h
    rfl
  obtain ⟨x0, r, rfl, hm, rfl⟩ := h
  refine ⟨_, (pss_one (ps_ret (pe_op op_sub (pe_op op_shlW pe_int (pv 0)) pe_int))), fun D hrt hnx => ?_⟩
  have ok : Okk Ω [] := okk0
  suffices hx : XS _ D F0 [some (va T x0)] (stt Ω [] []) by
    rw [show (stt Ω [] []) = Ω from stt_self (by simp)] at hx
    exact hx
  unfold M_top_digit at hm
  obtain ⟨z1, hz1, hm⟩ := bnd_some hm
  obtain rfl := Option.some.inj hm
  refine xs_ret (xe_sub (xe_shl (chkP_some hz1) xe_int (xe_var (i := 0) rfl)) xe_int) hrt.all
noncomputable def M_size_of (x0 : Int) (x1 : Int) : Option Int :=
  (chkP (CDivW ((((Builtin.Int.intBits x1 : Nat) : Int) + x0) - (1 : Int)) x0)).bind fun z1 => some (((((Builtin.Int.intBits x1 : Nat) : Int) + x0) - (1 : Int)) / x0)
def Pre_size_of (T : TC) : PreT := fun As Ω R => ∃ (x0 : Int) (x1 : Int) (r : Int), As = [va T x0, va T x1] ∧ M_size_of x0 x1 = some r ∧ R = RV (va T r) (stt Ω [] [])
theorem sc_size_of : FnScope ["width", "n"] ["width", "n"] (defScope s_size_of) := ⟨rfl, rfl, rfl, by decide +kernel, rfl, by decide +kernel, by decide +kernel⟩
theorem ok_size_of {f : Addr} {fd : FuncData} (F : Fun T.K "size_of" "size_of" s_size_of f fd)  : FnOk P w T.K mg base CX0 2 f fd ["width", "n"] (mkSp (Pre_size_of T)) := by
  refine fn_ok F sc_size_of (fun As Ω R h => ?_) (fun cdv A outer s H E hr As Ω R F0 h => ?_)
  · obtain ⟨x0, x1, r, rfl, _⟩ := h
    rfl
  obtain ⟨x0, x1, r, rfl, hm, rfl⟩ := h
  refine ⟨_, (pss_one (ps_ret (pe_op op_fdivW (pe_op op_sub (pe_op op_addQ (pe_bits (pv 1)) (pv 0)) pe_int) (pv 0)))), fun D hrt hnx => ?_⟩
  have ok : Okk Ω [] := okk0
  suffices hx : XS _ D F0 [some (va T x0), some (va T x1)] (stt Ω [] []) by
    rw [show (stt Ω [] []) = Ω from stt_self (by simp)] at hx
    exact hx
  unfold M_size_of at hm
  obtain ⟨z1, hz1, hm⟩ := bnd_some hm
  obtain rfl := Option.some.inj hm
  refine xs_ret (xe_fdiv (chkP_some hz1) (xe_sub (xe_add (xe_bits (xe_var (i := 1) rfl)) (xe_var (i := 0) rfl)) xe_int) (xe_var (i := 0) rfl)) hrt.all
noncomputable def M_low_part (x0 : Int) (x1 : Int) (x2 : Int) : Option Int :=
  (chkP (IntMulOk x2 x0)).bind fun z1 => (chkP (CShl (1 : Int) (x2 * x0))).bind fun z2 => some (Builtin.bitAnd x1 (((1 : Int) * 2 ^ ((x2 * x0)).toNat) - (1 : Int)))
def Pre_low_part (T : TC) : PreT := fun As Ω R => ∃ (x0 : Int) (x1 : Int) (x2 : Int) (r : Int), As = [va T x0, va T x1, va T x2] ∧ M_low_part x0 x1 x2 = some r ∧ R = RV (va T r) (stt Ω [] [])
theorem sc_low_part : FnScope ["width", "n", "size"] ["width", "n", "size"] (defScope s_low_part) := ⟨rfl, rfl, rfl, by decide +kernel, rfl, by decide +kernel, by decide +kernel⟩
theorem ok_low_part {f : Addr} {fd : FuncData} (F : Fun T.K "low_part" "low_part" s_low_part f fd)  : FnOk P w T.K mg base CX0 1 f fd ["width", "n", "size"] (mkSp (Pre_low_part T)) := by
  refine fn_ok F sc_low_part (fun As Ω R h => ?_) (fun cdv A outer s H E hr As Ω R F0 h => ?_)
  · obtain ⟨x0, x1, x2, r, rfl, _⟩ := h
    rfl
  obtain ⟨x0, x1, x2, r, rfl, hm, rfl⟩ := h
  refine ⟨_, (pss_one (ps_ret (pe_op op_and (pv 1) (pe_op op_sub (pe_op op_shlW pe_int (pe_op op_mulQ (pv 2) (pv 0))) pe_int)))), fun D hrt hnx => ?_⟩
  have ok : Okk Ω [] := okk0
  suffices hx : XS _ D F0 [some (va T x0), some (va T x1), some (va T x2)] (stt Ω [] []) by
    rw [show (stt Ω [] []) = Ω from stt_self (by simp)] at hx
    exact hx
  unfold M_low_part at hm
  obtain ⟨z1, hz1, hm⟩ := bnd_some hm
  obtain ⟨z2, hz2, hm⟩ := bnd_some hm
  obtain rfl := Option.some.inj hm
  refine xs_ret (xe_band (xe_var (i := 1) rfl) (xe_sub (xe_shl (chkP_some hz2) xe_int (xe_mul (chkP_some hz1) (xe_var (i := 2) rfl) (xe_var (i := 0) rfl))) xe_int)) hrt.all
noncomputable def M_row_of : Nat → Int → Int → Int → Option (List Int)
  | 0, _, _, _ => none
  | kf + 1, x0, x1, x2 => if (decide ((32 : Int) < x2)) = true then (chkP (CDivW x2 (2 : Int))).bind fun z1 => (some (x2 / (2 : Int))).bind fun y2 => (M_low_part x0 x1 y2).bind fun z3 => (M_row_of kf x0 z3 y2).bind fun z4 => (chkP (IntMulOk y2 x0)).bind fun z5 => (chkP (0 ≤ (y2 * x0))).bind fun z6 => (M_row_of kf x0 (x1 / 2 ^ ((y2 * x0)).toNat) (x2 - y2)).bind fun z7 => (chkP (z4.length + z7.length ≤ sizeLine)).bind fun z8 => some (z4 ++ z7) else (M_top_digit x0).bind fun z9 => (some ([] : List Int)).bind fun y10 => (chkP (-(2 ^ 62) ≤ x2 ∧ x2 < 2 ^ 62)).bind fun z13 => (forM' (ρ := Unit) (fun (a15 : Int) (s14 : Int × (List Int)) => (chkP (s14.2.length < sizeLine)).bind fun z16 => (chkP (0 ≤ x0)).bind fun z17 => (some (s14.1 / 2 ^ (x0).toNat)).bind fun y18 => some (Stp.nx (y18, (s14.2 ++ [(Builtin.bitAnd s14.1 z9)])))) (rng 0 (x2).toNat) (x1, y10)).bind fun z19 => (nxt z19).bind fun s20 => some s20.2
theorem M_row_of_succ (kf : Nat) (x0 : Int) (x1 : Int) (x2 : Int) : M_row_of (kf + 1) x0 x1 x2 = (if (decide ((32 : Int) < x2)) = true then (chkP (CDivW x2 (2 : Int))).bind fun z1 => (some (x2 / (2 : Int))).bind fun y2 => (M_low_part x0 x1 y2).bind fun z3 => (M_row_of kf x0 z3 y2).bind fun z4 => (chkP (IntMulOk y2 x0)).bind fun z5 => (chkP (0 ≤ (y2 * x0))).bind fun z6 => (M_row_of kf x0 (x1 / 2 ^ ((y2 * x0)).toNat) (x2 - y2)).bind fun z7 => (chkP (z4.length + z7.length ≤ sizeLine)).bind fun z8 => some (z4 ++ z7) else (M_top_digit x0).bind fun z9 => (some ([] : List Int)).bind fun y10 => (chkP (-(2 ^ 62) ≤ x2 ∧ x2 < 2 ^ 62)).bind fun z13 => (forM' (ρ := Unit) (fun (a15 : Int) (s14 : Int × (List Int)) => (chkP (s14.2.length < sizeLine)).bind fun z16 => (chkP (0 ≤ x0)).bind fun z17 => (some (s14.1 / 2 ^ (x0).toNat)).bind fun y18 => some (Stp.nx (y18, (s14.2 ++ [(Builtin.bitAnd s14.1 z9)])))) (rng 0 (x2).toNat) (x1, y10)).bind fun z19 => (nxt z19).bind fun s20 => some s20.2) := by rw [M_row_of]
theorem M_row_of_zero (x0 : Int) (x1 : Int) (x2 : Int) : M_row_of 0 x0 x1 x2 = none := by rw [M_row_of]
def Pre_row_of (kf : Nat) (T : TC) : PreT := fun As Ω R => ∃ (x0 : Int) (x1 : Int) (x2 : Int) (r : List Int), As = [va T x0, va T x1, va T x2] ∧ M_row_of kf x0 x1 x2 = some r ∧ R = RV (va T (LF.mk r)) (stt Ω [] [])
theorem sc_row_of : FnScope ["width", "n", "size", "half", "top", "row", "place"] ["width", "n", "size"] (defScope s_row_of) := ⟨rfl, rfl, rfl, by decide +kernel, rfl, by decide +kernel, by decide +kernel⟩
theorem ok0_row_of {f : Addr} {fd : FuncData} (F : Fun T.K "row_of" "row_of" s_row_of f fd) : FnOk P w T.K mg base CX0 1 f fd ["width", "n", "size"] (mkSp (Pre_row_of 0 T)) := by
  refine fn_ok (k := 0) F sc_row_of (fun As Ω R h => ?_) (fun cdv A outer s H E hr As Ω R F0 h => ?_)
  · obtain ⟨x0, x1, x2, r, rfl, _⟩ := h
    rfl
  obtain ⟨x0, x1, x2, r, rfl, hm, rfl⟩ := h
  rw [M_row_of_zero] at hm
  cases hm
theorem ok_row_of (kf : Nat) {f : Addr} {fd : FuncData} (F : Fun T.K "row_of" "row_of" s_row_of f fd) (g_LONGEST_LOOP : ∃ u, mg "LONGEST_LOOP" = some u ∧ RelV (.int 32) u) (c_low_part : Cal P w T.K mg base 1 "low_part" ["width", "n", "size"] (mkSp (Pre_low_part T))) (c_row_of : Cal P w T.K mg base (1 + kf) "row_of" ["width", "n", "size"] (mkSp (Pre_row_of kf T))) (c_top_digit : Cal P w T.K mg base 1 "top_digit" ["width"] (mkSp (Pre_top_digit T))) (z_range : mg "range" = none) : FnOk P w T.K mg base CX0 (1 + kf + 1) f fd ["width", "n", "size"] (mkSp (Pre_row_of (kf + 1) T)) := by
  refine fn_ok F sc_row_of (fun As Ω R h => ?_) (fun cdv A outer s H E hr As Ω R F0 h => ?_)
  · obtain ⟨x0, x1, x2, r, rfl, _⟩ := h
    rfl
  obtain ⟨x0, x1, x2, r, rfl, hm, rfl⟩ := h
  refine ⟨_, (pss_cons (ps_if (pt_cmpR op_gt (pv 2) (pe_gl rfl g_LONGEST_LOOP) (nomark _)) (pss_cons (ps_set (i := 3) sc_row_of.nd rfl (.inl rfl) (pe_op op_fdivW (pv 2) pe_int)) (pss_one (ps_ret (pe_op op_addQ (pe_cal c_row_of (hr.mono (by omega)) (by rfl) (pa_cons (pv 0) (pa_cons (pe_cal c_low_part (hr.mono (by omega)) (by rfl) (pa_cons (pv 0) (pa_cons (pv 1) (pa_cons (pv 3) pa_nil)))) (pa_cons (pv 3) pa_nil)))) (pe_cal c_row_of (hr.mono (by omega)) (by rfl) (pa_cons (pv 0) (pa_cons (pe_op op_shr (pv 1) (pe_op op_mulQ (pv 3) (pv 0))) (pa_cons (pe_op op_sub (pv 2) (pv 3)) pa_nil)))))))) pss_nil) (pss_cons (ps_set (i := 4) sc_row_of.nd rfl (.inl rfl) (pe_cal c_top_digit (hr.mono (by omega)) (by rfl) (pa_cons (pv 0) pa_nil))) (pss_cons (ps_set (i := 5) sc_row_of.nd rfl (.inl rfl) (pe_lst pa_nil)) (pss_cons (ps_for PassesOwn.never rfl (pi_range1 rfl z_range (pa_cons (pv 2) pa_nil)) (pg_name (i := 6) sc_row_of.nd rfl (.inl rfl)) (pss_cons (ps_expr (pe_bm PySem.F.plainAttrs_list PySem.F.slot_list_append PySem.F.type_list_append mt_append (pv 5) (pa_cons (pe_op op_and (pv 1) (pv 4)) pa_nil))) (pss_one (ps_aug (i := 1) sc_row_of.nd rfl (.inl rfl) (pv 0) (ip_of iop_shr))))) (pss_one (ps_ret (pv 5))))))), fun D hrt hnx => ?_⟩
  have ok : Okk Ω [] := okk0
  suffices hx : XS _ D F0 [some (va T x0), some (va T x1), some (va T x2), none, none, none, none] (stt Ω [] []) by
    rw [show (stt Ω [] []) = Ω from stt_self (by simp)] at hx
    exact hx
  rw [M_row_of_succ] at hm
  by_cases hc : (decide ((32 : Int) < x2)) = true
  · rw [if_pos hc] at hm
    refine xs_ifT (xt_eq (xt_test (T := T) (xe_gt (xe_var (i := 2) rfl) xe_int)) hc) ?_
    obtain ⟨z1, hz1, hm⟩ := bnd_some hm
    obtain ⟨y2, hy2, hm⟩ := bnd_some hm
    refine xs_set (A := va T y2) (xe_eq (xe_fdiv (chkP_some hz1) (xe_var (i := 2) rfl) xe_int) (Option.some.inj hy2)) ?_
    show XS (tRet _) _ _ [some (va T x0), some (va T x1), some (va T x2), some (va T y2), none, none, none] (stt Ω [] [])
    obtain ⟨z3, hz3, hm⟩ := bnd_some hm
    obtain ⟨z4, hz4, hm⟩ := bnd_some hm
    obtain ⟨z5, hz5, hm⟩ := bnd_some hm
    obtain ⟨z6, hz6, hm⟩ := bnd_some hm
    obtain ⟨z7, hz7, hm⟩ := bnd_some hm
    obtain ⟨z8, hz8, hm⟩ := bnd_some hm
    obtain rfl := Option.some.inj hm
    refine xs_ret (xe_cat (xe_call (xa_cons (xe_var (i := 0) rfl) (xa_cons (xe_call (xa_cons (xe_var (i := 0) rfl) (xa_cons (xe_var (i := 1) rfl) (xa_cons (xe_var (i := 3) rfl) xa_nil))) ⟨x0, x1, y2, z3, rfl, hz3, rfl⟩ cal0) (xa_cons (xe_var (i := 3) rfl) xa_nil))) ⟨x0, z3, y2, z4, rfl, hz4, rfl⟩ cal0) (xe_call (xa_cons (xe_var (i := 0) rfl) (xa_cons (xe_shr (chkP_some hz6) (xe_var (i := 1) rfl) (xe_mul (chkP_some hz5) (xe_var (i := 3) rfl) (xe_var (i := 0) rfl))) (xa_cons (xe_sub (xe_var (i := 2) rfl) (xe_var (i := 3) rfl)) xa_nil))) ⟨x0, (x1 / 2 ^ ((y2 * x0)).toNat), (x2 - y2), z7, rfl, hz7, rfl⟩ cal0) isLs_LF isLs_LF (chkP_some hz8)) hrt.all
  · rw [if_neg hc] at hm
    refine xs_ifN (xt_eq (xt_test (T := T) (xe_gt (xe_var (i := 2) rfl) xe_int)) (nt hc)) ?_
    show XS (tSeq _ _) _ _ [some (va T x0), some (va T x1), some (va T x2), none, none, none, none] (stt Ω [] [])
    obtain ⟨z9, hz9, hm⟩ := bnd_some hm
    refine xs_set (A := va T z9) (xe_call (xa_cons (xe_var (i := 0) rfl) xa_nil) ⟨x0, z9, rfl, hz9, rfl⟩ cal0) ?_
    show XS (tSeq _ _) _ _ [some (va T x0), some (va T x1), some (va T x2), none, some (va T z9), none, none] (stt Ω [] [])
    obtain ⟨y10, hy10, hm⟩ := bnd_some hm
    obtain rfl := Option.some.inj hy10
    refine xs_setO ((xn_lst (T := T) (l := ([] : List Int)) xa_nil (Nat.zero_le _))) (fun pp11 => ?_)
    show XS (tSeq _ _) _ _ [some (va T x0), some (va T x1), some (va T x2), none, some (va T z9), some (vr pp11), none] (stt Ω [] [lstA T pp11 (([] : List Int) : List Int)])
    obtain ⟨z13, hz13, hm⟩ := bnd_some hm
    obtain ⟨z19, hz19, hm⟩ := bnd_some hm
    refine xs_forS (fun (s14 : Int × (List Int)) => [some (va T x0), some (va T s14.1), some (va T x2), none, some (va T z9), some (vr pp11), none]) (fun (s14 : Int × (List Int)) => (stt Ω [] [lstA T pp11 (s14.2 : List Int)])) (fun (_ : Unit) _ _ _ => False) hz19 (xi_range1 (T := T) (xa_cons (xe_var (i := 2) rfl) xa_nil) (chkP_some hz13).1 (chkP_some hz13).2) (fun _ => tgt_name) (fun a15 s14 s' ha hm F1 D1 e1 hD => ?_) (fun s20 es => ?_) (fun r1 es => ?_)
    · show XS (tSeq _ _) _ _ [some (va T x0), some (va T s14.1), some (va T x2), none, some (va T z9), some (vr pp11), some (va T a15)] (stt Ω [] [lstA T pp11 (s14.2 : List Int)])
      obtain ⟨z16, hz16, hm⟩ := bnd_some hm
      refine xs_drop (xe_appE (stt_getL (j := 0) rfl) (stt_getL (j := 0) rfl) (xe_var (i := 5) rfl) (xe_band (xe_var (i := 1) rfl) (xe_var (i := 4) rfl)) (chkP_some hz16) (stt_setL (j := 0))) ?_
      show XS (tAug _ _ _) _ _ [some (va T x0), some (va T s14.1), some (va T x2), none, some (va T z9), some (vr pp11), some (va T a15)] (stt Ω [] [lstA T pp11 ((s14.2 ++ [(Builtin.bitAnd s14.1 z9)]) : List Int)])
      obtain ⟨z17, hz17, hm⟩ := bnd_some hm
      obtain ⟨y18, hy18, hm⟩ := bnd_some hm
      refine xs_augD1 (T := T) rfl (chkP_some hz17) (xe_var (i := 0) rfl) (Option.some.inj hy18) ?_
      obtain rfl := Option.some.inj hm
      exact fun σ H n => hD.nx _ rfl σ H (n.forget 6)
    · subst es
      obtain ⟨s2, hs2, hm⟩ := bnd_some hm
      cases hs2
      show XS (tRet _) _ _ [some (va T x0), some (va T s20.1), some (va T x2), none, some (va T z9), some (vr pp11), none] (stt Ω [] [lstA T pp11 (s20.2 : List Int)])
      obtain rfl := Option.some.inj hm
      refine xs_fzJ (k := 5) (j := 0) rfl rfl ?_
      show XS _ _ _ [some (va T x0), some (va T s20.1), some (va T x2), none, some (va T z9), some (va T (LF.mk s20.2)), none] (stt Ω [] [nilA])
      exact xs_ret (xe_var (i := 5) rfl) hrt.all
    · subst es
      cases hm
noncomputable def M_check_big (x0 : Bg) (x1 : Str) : Option Unit :=
  (chkP (true = true)).bind fun z1 => some ()
def Pre_check_big (T : TC) : PreT := fun As Ω R => ∃ (x0 : Bg) (x1 : Str) (r : Unit), As = [va T x0, va T x1] ∧ M_check_big x0 x1 = some r ∧ R = RV (va T r) (stt Ω [] [])
theorem sc_check_big : FnScope ["value", "name"] ["value", "name"] (defScope s_check_big) := ⟨rfl, rfl, rfl, by decide +kernel, rfl, by decide +kernel, by decide +kernel⟩
theorem ok_check_big {f : Addr} {fd : FuncData} (F : Fun T.K "check_big" "check_big" s_check_big f fd) (z_isinstance : mg "isinstance" = none) (icb : ICls T.K (T.C 1)) (g_Big : ∃ u, mg "Big" = some u ∧ RelV (.ref (T.C 1)) u) : FnOk P w T.K mg base CX0 1 f fd ["value", "name"] (mkSp (Pre_check_big T)) := by
  refine fn_ok F sc_check_big (fun As Ω R h => ?_) (fun cdv A outer s H E hr As Ω R F0 h => ?_)
  · obtain ⟨x0, x1, r, rfl, _⟩ := h
    rfl
  obtain ⟨x0, x1, r, rfl, hm, rfl⟩ := h
  refine ⟨_, (pss_one (ps_if (pt_not (pt_val (pe_callB (cr_isiK (K := T.K) rfl) (by rfl) z_isinstance (by decide +kernel) (pa_cons (pv 0) (pa_cons (pe_gl rfl g_Big) pa_nil))))) pss_never pss_nil)), fun D hrt hnx => ?_⟩
  have ok : Okk Ω [] := okk0
  suffices hx : XS _ D F0 [some (va T x0), some (va T x1)] (stt Ω [] []) by
    rw [show (stt Ω [] []) = Ω from stt_self (by simp)] at hx
    exact hx
  unfold M_check_big at hm
  obtain ⟨z1, hz1, hm⟩ := bnd_some hm
  refine xs_ifF1 (xt_notF (xt_eq (xt_tB (T := T) (xe_isi (xe_var (i := 0) rfl) xe_vx (.own _) (fun F H v hh a => ty_big icb hh a) icb.kit)) (chkP_some hz1))) ?_
  obtain rfl := Option.some.inj hm
  exact fun σ H ⟨F, f0, e, hh⟩ => hnx F σ H _ f0 hh.all ⟨rfl, rfl⟩
noncomputable def M_check_fit (x0 : MS) (x1 : Bg) (x2 : Str) : Option Unit :=
  (M_check_big x1 x2).bind fun z1 => (chkP (x1.w = x0.w)).bind fun z2 => some ()
def Pre_check_fit (T : TC) : PreT := fun As Ω R => ∃ (k0 : Nat) (p0 : Addr) (x0 : MS) (x1 : Bg) (x2 : Str) (r : Unit), As = [vr p0, va T x1, va T x2] ∧ Ω[k0]? = some (machA T p0 x0) ∧ M_check_fit x0 x1 x2 = some r ∧ R = RV (va T r) (stt Ω [] [])
theorem sc_check_fit : FnScope ["machine", "value", "name"] ["machine", "value", "name"] (defScope s_check_fit) := ⟨rfl, rfl, rfl, by decide +kernel, rfl, by decide +kernel, by decide +kernel⟩
theorem ok_check_fit {f : Addr} {fd : FuncData} (F : Fun T.K "check_fit" "check_fit" s_check_fit f fd) (c_check_big : Cal P w T.K mg base 1 "check_big" ["value", "name"] (mkSp (Pre_check_big T))) (bc : BCls T.K (T.C 1)) (mc : MCls T.K (T.C 0)) : FnOk P w T.K mg base CX0 2 f fd ["machine", "value", "name"] (mkSp (Pre_check_fit T)) := by
  refine fn_ok F sc_check_fit (fun As Ω R h => ?_) (fun cdv A outer s H E hr As Ω R F0 h => ?_)
  · obtain ⟨k0, p0, x0, x1, x2, r, rfl, _⟩ := h
    rfl
  obtain ⟨k0, p0, x0, x1, x2, r, rfl, hk0, hm, rfl⟩ := h
  refine ⟨_, (pss_cons (ps_expr (pe_cal c_check_big (hr.mono (by decide)) (by rfl) (pa_cons (pv 1) (pa_cons (pv 2) pa_nil)))) (pss_one (ps_if (pt_cmpR (op_neXK (K := T.K) (by exact hr.units) rfl) (pe_fldK (K := T.K) (pv 1) (by rfl) rfl) (pe_fldK (K := T.K) (pv 0) (by rfl) rfl) (nomark _)) pss_never pss_nil))), fun D hrt hnx => ?_⟩
  have ok : Okk Ω [] := okk0
  suffices hx : XS _ D F0 [some (vr p0), some (va T x1), some (va T x2)] (stt Ω [] []) by
    rw [show (stt Ω [] []) = Ω from stt_self (by simp)] at hx
    exact hx
  unfold M_check_fit at hm
  obtain ⟨z1, hz1, hm⟩ := bnd_some hm
  refine xs_drop (xe_call (xa_cons (xe_var (i := 1) rfl) (xa_cons (xe_var (i := 2) rfl) xa_nil)) ⟨x1, x2, z1, rfl, hz1, rfl⟩ cal0) ?_
  show XS (tIfS _ _ _) _ _ [some (vr p0), some (va T x1), some (va T x2)] (stt Ω [] [])
  obtain ⟨z2, hz2, hm⟩ := bnd_some hm
  refine xs_ifF1 (xt_test (T := T) (xe_eq (xe_neI (xe_bw bc.cl bc.nw (xe_var (i := 1) rfl)) (xe_mw mc.cl mc.nw (xe_var (i := 0) rfl) (stt_getU hk0))) (neK_ (chkP_some hz2)))) ?_
  obtain rfl := Option.some.inj hm
  exact fun σ H ⟨F, f0, e, hh⟩ => hnx F σ H _ f0 hh.all ⟨rfl, rfl⟩
noncomputable def M_check_one (x0 : MS) (x1 : Bg) : Option Unit :=
  (M_check_machine x0).bind fun z1 => (M_check_fit x0 x1 ("x" : Str)).bind fun z2 => some ()
def Pre_check_one (T : TC) : PreT := fun As Ω R => ∃ (k0 : Nat) (p0 : Addr) (x0 : MS) (x1 : Bg) (r : Unit), As = [vr p0, va T x1] ∧ Ω[k0]? = some (machA T p0 x0) ∧ M_check_one x0 x1 = some r ∧ R = RV (va T r) (stt Ω [] [])
theorem sc_check_one : FnScope ["machine", "x"] ["machine", "x"] (defScope s_check_one) := ⟨rfl, rfl, rfl, by decide +kernel, rfl, by decide +kernel, by decide +kernel⟩
theorem ok_check_one {f : Addr} {fd : FuncData} (F : Fun T.K "check_one" "check_one" s_check_one f fd) (c_check_machine : Cal P w T.K mg base 1 "check_machine" ["machine"] (mkSp (Pre_check_machine T))) (c_check_fit : Cal P w T.K mg base 2 "check_fit" ["machine", "value", "name"] (mkSp (Pre_check_fit T))) : FnOk P w T.K mg base CX0 3 f fd ["machine", "x"] (mkSp (Pre_check_one T)) := by
  refine fn_ok F sc_check_one (fun As Ω R h => ?_) (fun cdv A outer s H E hr As Ω R F0 h => ?_)
  · obtain ⟨k0, p0, x0, x1, r, rfl, _⟩ := h
    rfl
  obtain ⟨k0, p0, x0, x1, r, rfl, hk0, hm, rfl⟩ := h
  refine ⟨_, (pss_cons (ps_expr (pe_cal c_check_machine (hr.mono (by decide)) (by rfl) (pa_cons (pv 0) pa_nil))) (pss_one (ps_expr (pe_cal c_check_fit (hr.mono (by decide)) (by rfl) (pa_cons (pv 0) (pa_cons (pv 1) (pa_cons pe_str pa_nil))))))), fun D hrt hnx => ?_⟩
  have ok : Okk Ω [] := okk0
  suffices hx : XS _ D F0 [some (vr p0), some (va T x1)] (stt Ω [] []) by
    rw [show (stt Ω [] []) = Ω from stt_self (by simp)] at hx
    exact hx
  unfold M_check_one at hm
  obtain ⟨z1, hz1, hm⟩ := bnd_some hm
  refine xs_drop (xe_call (xa_cons (xe_var (i := 0) rfl) xa_nil) ⟨k0, p0, x0, z1, rfl, (stt_getU hk0), hz1, rfl⟩ cal0) ?_
  show XS (tDrop _) _ _ [some (vr p0), some (va T x1)] (stt Ω [] [])
  obtain ⟨z2, hz2, hm⟩ := bnd_some hm
  refine xs_drop1 (xe_call (xa_cons (xe_var (i := 0) rfl) (xa_cons (xe_var (i := 1) rfl) (xa_cons xe_str xa_nil))) ⟨k0, p0, x0, x1, ("x" : Str), z2, rfl, (stt_getU hk0), hz2, rfl⟩ cal0) ?_
  obtain rfl := Option.some.inj hm
  exact fun σ H ⟨F, f0, e, hh⟩ => hnx F σ H _ f0 hh.all ⟨rfl, rfl⟩
noncomputable def M_check_two (x0 : MS) (x1 : Bg) (x2 : Bg) : Option Unit :=
  (M_check_one x0 x1).bind fun z1 => (M_check_fit x0 x2 ("y" : Str)).bind fun z2 => some ()
def Pre_check_two (T : TC) : PreT := fun As Ω R => ∃ (k0 : Nat) (p0 : Addr) (x0 : MS) (x1 : Bg) (x2 : Bg) (r : Unit), As = [vr p0, va T x1, va T x2] ∧ Ω[k0]? = some (machA T p0 x0) ∧ M_check_two x0 x1 x2 = some r ∧ R = RV (va T r) (stt Ω [] [])
theorem sc_check_two : FnScope ["machine", "x", "y"] ["machine", "x", "y"] (defScope s_check_two) := ⟨rfl, rfl, rfl, by decide +kernel, rfl, by decide +kernel, by decide +kernel⟩
theorem ok_check_two {f : Addr} {fd : FuncData} (F : Fun T.K "check_two" "check_two" s_check_two f fd) (c_check_one : Cal P w T.K mg base 3 "check_one" ["machine", "x"] (mkSp (Pre_check_one T))) (c_check_fit : Cal P w T.K mg base 2 "check_fit" ["machine", "value", "name"] (mkSp (Pre_check_fit T))) : FnOk P w T.K mg base CX0 4 f fd ["machine", "x", "y"] (mkSp (Pre_check_two T)) := by
  refine fn_ok F sc_check_two (fun As Ω R h => ?_) (fun cdv A outer s H E hr As Ω R F0 h => ?_)
  · obtain ⟨k0, p0, x0, x1, x2, r, rfl, _⟩ := h
    rfl
  obtain ⟨k0, p0, x0, x1, x2, r, rfl, hk0, hm, rfl⟩ := h
  refine ⟨_, (pss_cons (ps_expr (pe_cal c_check_one (hr.mono (by decide)) (by rfl) (pa_cons (pv 0) (pa_cons (pv 1) pa_nil)))) (pss_one (ps_expr (pe_cal c_check_fit (hr.mono (by decide)) (by rfl) (pa_cons (pv 0) (pa_cons (pv 2) (pa_cons pe_str pa_nil))))))), fun D hrt hnx => ?_⟩
  have ok : Okk Ω [] := okk0
  suffices hx : XS _ D F0 [some (vr p0), some (va T x1), some (va T x2)] (stt Ω [] []) by
    rw [show (stt Ω [] []) = Ω from stt_self (by simp)] at hx
    exact hx
  unfold M_check_two at hm
  obtain ⟨z1, hz1, hm⟩ := bnd_some hm
  refine xs_drop (xe_call (xa_cons (xe_var (i := 0) rfl) (xa_cons (xe_var (i := 1) rfl) xa_nil)) ⟨k0, p0, x0, x1, z1, rfl, (stt_getU hk0), hz1, rfl⟩ cal0) ?_
  show XS (tDrop _) _ _ [some (vr p0), some (va T x1), some (va T x2)] (stt Ω [] [])
  obtain ⟨z2, hz2, hm⟩ := bnd_some hm
  refine xs_drop1 (xe_call (xa_cons (xe_var (i := 0) rfl) (xa_cons (xe_var (i := 2) rfl) (xa_cons xe_str xa_nil))) ⟨k0, p0, x0, x2, ("y" : Str), z2, rfl, (stt_getU hk0), hz2, rfl⟩ cal0) ?_
  obtain rfl := Option.some.inj hm
  exact fun σ H ⟨F, f0, e, hh⟩ => hnx F σ H _ f0 hh.all ⟨rfl, rfl⟩
noncomputable def M_big_of (x0 : MS) (x1 : Int) : Option Bg :=
  (M_size_of x0.w x1).bind fun z1 => (M_row_of 20 x0.w ((x1.natAbs : Nat) : Int) z1).bind fun z2 => some (Bg.mk x0.w z2 x1)
def Pre_big_of (T : TC) : PreT := fun As Ω R => ∃ (k0 : Nat) (p0 : Addr) (x0 : MS) (x1 : Int) (r : Bg), As = [vr p0, va T x1] ∧ Ω[k0]? = some (machA T p0 x0) ∧ M_big_of x0 x1 = some r ∧ R = RV (va T r) (stt Ω [] [])
theorem sc_big_of : FnScope ["machine", "value"] ["machine", "value"] (defScope s_big_of) := ⟨rfl, rfl, rfl, by decide +kernel, rfl, by decide +kernel, by decide +kernel⟩
theorem ok_big_of {f : Addr} {fd : FuncData} (F : Fun T.K "big_of" "big_of" s_big_of f fd) (mc : MCls T.K (T.C 0)) (z_abs : mg "abs" = none) (c_size_of : Cal P w T.K mg base 2 "size_of" ["width", "n"] (mkSp (Pre_size_of T))) (c_row_of : Cal P w T.K mg base 21 "row_of" ["width", "n", "size"] (mkSp (Pre_row_of 20 T))) (c_Big : CalC P w T.K mg base 2 "Big" (T.C 1) ["self", "width", "value", "row"] [] (mkSp (Pre_Big T))) : FnOk P w T.K mg base CX0 22 f fd ["machine", "value"] (mkSp (Pre_big_of T)) := by
  refine fn_ok F sc_big_of (fun As Ω R h => ?_) (fun cdv A outer s H E hr As Ω R F0 h => ?_)
  · obtain ⟨k0, p0, x0, x1, r, rfl, _⟩ := h
    rfl
  obtain ⟨k0, p0, x0, x1, r, rfl, hk0, hm, rfl⟩ := h
  refine ⟨_, (pss_one (ps_ret (pe_calC c_Big (hr.mono (by decide)) (by rfl) (pa_cons (pe_fldK (K := T.K) (pv 0) (by rfl) rfl) (pa_cons (pv 1) (pa_cons (pe_cal c_row_of (hr.mono (by decide)) (by rfl) (pa_cons (pe_fldK (K := T.K) (pv 0) (by rfl) rfl) (pa_cons (pe_callB cr_abs (by rfl) z_abs (by decide +kernel) (pa_cons (pv 1) pa_nil)) (pa_cons (pe_cal c_size_of (hr.mono (by decide)) (by rfl) (pa_cons (pe_fldK (K := T.K) (pv 0) (by rfl) rfl) (pa_cons (pv 1) pa_nil))) pa_nil)))) pa_nil)))))), fun D hrt hnx => ?_⟩
  have ok : Okk Ω [] := okk0
  suffices hx : XS _ D F0 [some (vr p0), some (va T x1)] (stt Ω [] []) by
    rw [show (stt Ω [] []) = Ω from stt_self (by simp)] at hx
    exact hx
  unfold M_big_of at hm
  obtain ⟨z1, hz1, hm⟩ := bnd_some hm
  obtain ⟨z2, hz2, hm⟩ := bnd_some hm
  obtain rfl := Option.some.inj hm
  refine xs_ret (xe_fzB (xn_make (Ds := []) (xa_cons (xe_mw mc.cl mc.nw (xe_var (i := 0) rfl) (stt_getU hk0)) (xa_cons (xe_var (i := 1) rfl) (xa_cons (xe_call (xa_cons (xe_mw mc.cl mc.nw (xe_var (i := 0) rfl) (stt_getU hk0)) (xa_cons (xe_abs (xe_var (i := 1) rfl)) (xa_cons (xe_call (xa_cons (xe_mw mc.cl mc.nw (xe_var (i := 0) rfl) (stt_getU hk0)) (xa_cons (xe_var (i := 1) rfl) xa_nil)) ⟨x0.w, x1, z1, rfl, hz1, rfl⟩ cal0) xa_nil))) ⟨x0.w, ((x1.natAbs : Nat) : Int), z1, z2, rfl, hz2, rfl⟩ cal0) xa_nil))) (fun _ => .nil) (fun q => ⟨_, q, x0.w, x1, z2, _, .inl rfl, rfl, rfl, rfl⟩))) hrt.all
noncomputable def M_are_compact (x0 : MS) (x1 : Int) (x2 : Int) : Option Bool :=
  some ((decide (((Builtin.Int.intBits x1 : Nat) : Int) ≤ x0.w)) && (decide (((Builtin.Int.intBits x2 : Nat) : Int) ≤ x0.w)))
def Pre_are_compact (T : TC) : PreT := fun As Ω R => ∃ (k0 : Nat) (p0 : Addr) (x0 : MS) (x1 : Int) (x2 : Int) (r : Bool), As = [vr p0, va T x1, va T x2] ∧ Ω[k0]? = some (machA T p0 x0) ∧ M_are_compact x0 x1 x2 = some r ∧ R = RV (va T r) (stt Ω [] [])
theorem sc_are_compact : FnScope ["machine", "x", "y"] ["machine", "x", "y"] (defScope s_are_compact) := ⟨rfl, rfl, rfl, by decide +kernel, rfl, by decide +kernel, by decide +kernel⟩
theorem ok_are_compact {f : Addr} {fd : FuncData} (F : Fun T.K "are_compact" "are_compact" s_are_compact f fd) (mc : MCls T.K (T.C 0)) : FnOk P w T.K mg base CX0 2 f fd ["machine", "x", "y"] (mkSp (Pre_are_compact T)) := by
  refine fn_ok F sc_are_compact (fun As Ω R h => ?_) (fun cdv A outer s H E hr As Ω R F0 h => ?_)
  · obtain ⟨k0, p0, x0, x1, x2, r, rfl, _⟩ := h
    rfl
  obtain ⟨k0, p0, x0, x1, x2, r, rfl, hk0, hm, rfl⟩ := h
  refine ⟨_, (pss_one (ps_ret (pe_and (pe_cmpR op_le (pe_bits (pv 1)) (pe_fldK (K := T.K) (pv 0) (by rfl) rfl) (nomark _)) (pe_one (pe_cmpR op_le (pe_bits (pv 2)) (pe_fldK (K := T.K) (pv 0) (by rfl) rfl) (nomark _)))))), fun D hrt hnx => ?_⟩
  have ok : Okk Ω [] := okk0
  suffices hx : XS _ D F0 [some (vr p0), some (va T x1), some (va T x2)] (stt Ω [] []) by
    rw [show (stt Ω [] []) = Ω from stt_self (by simp)] at hx
    exact hx
  unfold M_are_compact at hm
  obtain rfl := Option.some.inj hm
  refine xs_ret (xe_andV (xe_le (xe_bits (xe_var (i := 1) rfl)) (xe_mw mc.cl mc.nw (xe_var (i := 0) rfl) (stt_getU hk0))) (fun _ => (xe_le (xe_bits (xe_var (i := 2) rfl)) (xe_mw mc.cl mc.nw (xe_var (i := 0) rfl) (stt_getU hk0))))) hrt.all
noncomputable def M_big (x0 : MS) (x1 : Int) : Option Bg :=
  (M_check_machine x0).bind fun z1 => (M_is_integer x1).bind fun z2 => (chkP (z2 = true)).bind fun z3 => (M_big_of x0 x1).bind fun z4 => some z4
def Pre_big (T : TC) : PreT := fun As Ω R => ∃ (k0 : Nat) (p0 : Addr) (x0 : MS) (x1 : Int) (r : Bg), As = [vr p0, va T x1] ∧ Ω[k0]? = some (machA T p0 x0) ∧ M_big x0 x1 = some r ∧ R = RV (va T r) (stt Ω [] [])
theorem sc_big : FnScope ["machine", "n"] ["machine", "n"] (defScope s_big) := ⟨rfl, rfl, rfl, by decide +kernel, rfl, by decide +kernel, by decide +kernel⟩
theorem ok_big {f : Addr} {fd : FuncData} (F : Fun T.K "big" "big" s_big f fd) (c_check_machine : Cal P w T.K mg base 1 "check_machine" ["machine"] (mkSp (Pre_check_machine T))) (c_is_integer : Cal P w T.K mg base 1 "is_integer" ["value"] (mkSp (Pre_is_integer T))) (c_big_of : Cal P w T.K mg base 22 "big_of" ["machine", "value"] (mkSp (Pre_big_of T))) : FnOk P w T.K mg base CX0 23 f fd ["machine", "n"] (mkSp (Pre_big T)) := by
  refine fn_ok F sc_big (fun As Ω R h => ?_) (fun cdv A outer s H E hr As Ω R F0 h => ?_)
  · obtain ⟨k0, p0, x0, x1, r, rfl, _⟩ := h
    rfl
  obtain ⟨k0, p0, x0, x1, r, rfl, hk0, hm, rfl⟩ := h
  refine ⟨_, (pss_cons (ps_expr (pe_cal c_check_machine (hr.mono (by decide)) (by rfl) (pa_cons (pv 0) pa_nil))) (pss_cons (ps_if (pt_not (pt_val (pe_cal c_is_integer (hr.mono (by decide)) (by rfl) (pa_cons (pv 1) pa_nil)))) pss_never pss_nil) (pss_one (ps_ret (pe_cal c_big_of (hr.mono (by decide)) (by rfl) (pa_cons (pv 0) (pa_cons (pv 1) pa_nil))))))), fun D hrt hnx => ?_⟩
  have ok : Okk Ω [] := okk0
  suffices hx : XS _ D F0 [some (vr p0), some (va T x1)] (stt Ω [] []) by
    rw [show (stt Ω [] []) = Ω from stt_self (by simp)] at hx
    exact hx
  unfold M_big at hm
  obtain ⟨z1, hz1, hm⟩ := bnd_some hm
  refine xs_drop (xe_call (xa_cons (xe_var (i := 0) rfl) xa_nil) ⟨k0, p0, x0, z1, rfl, (stt_getU hk0), hz1, rfl⟩ cal0) ?_
  show XS (tSeq _ _) _ _ [some (vr p0), some (va T x1)] (stt Ω [] [])
  obtain ⟨z2, hz2, hm⟩ := bnd_some hm
  obtain ⟨z3, hz3, hm⟩ := bnd_some hm
  refine xs_ifN (xt_notF (xt_eq (xt_tB (T := T) (xe_call (xa_cons (xe_var (i := 1) rfl) xa_nil) ⟨x1, z2, rfl, hz2, rfl⟩ cal0)) (chkP_some hz3))) ?_
  show XS (tRet _) _ _ [some (vr p0), some (va T x1)] (stt Ω [] [])
  obtain ⟨z4, hz4, hm⟩ := bnd_some hm
  obtain rfl := Option.some.inj hm
  refine xs_ret (xe_call (xa_cons (xe_var (i := 0) rfl) (xa_cons (xe_var (i := 1) rfl) xa_nil)) ⟨k0, p0, x0, x1, z4, rfl, (stt_getU hk0), hz4, rfl⟩ cal0) hrt.all
noncomputable def M_plain (x0 : Bg) : Option Int :=
  (M_check_big x0 ("x" : Str)).bind fun z1 => some x0.v
def Pre_plain (T : TC) : PreT := fun As Ω R => ∃ (x0 : Bg) (r : Int), As = [va T x0] ∧ M_plain x0 = some r ∧ R = RV (va T r) (stt Ω [] [])
theorem sc_plain : FnScope ["x"] ["x"] (defScope s_plain) := ⟨rfl, rfl, rfl, by decide +kernel, rfl, by decide +kernel, by decide +kernel⟩
theorem ok_plain {f : Addr} {fd : FuncData} (F : Fun T.K "plain" "plain" s_plain f fd) (c_check_big : Cal P w T.K mg base 1 "check_big" ["value", "name"] (mkSp (Pre_check_big T))) (bc : BCls T.K (T.C 1)) : FnOk P w T.K mg base CX0 2 f fd ["x"] (mkSp (Pre_plain T)) := by
  refine fn_ok F sc_plain (fun As Ω R h => ?_) (fun cdv A outer s H E hr As Ω R F0 h => ?_)
  · obtain ⟨x0, r, rfl, _⟩ := h
    rfl
  obtain ⟨x0, r, rfl, hm, rfl⟩ := h
  refine ⟨_, (pss_cons (ps_expr (pe_cal c_check_big (hr.mono (by decide)) (by rfl) (pa_cons (pv 0) (pa_cons pe_str pa_nil)))) (pss_one (ps_ret (pe_fldK (K := T.K) (pv 0) (by rfl) rfl)))), fun D hrt hnx => ?_⟩
  have ok : Okk Ω [] := okk0
  suffices hx : XS _ D F0 [some (va T x0)] (stt Ω [] []) by
    rw [show (stt Ω [] []) = Ω from stt_self (by simp)] at hx
    exact hx
  unfold M_plain at hm
  obtain ⟨z1, hz1, hm⟩ := bnd_some hm
  refine xs_drop (xe_call (xa_cons (xe_var (i := 0) rfl) (xa_cons xe_str xa_nil)) ⟨x0, ("x" : Str), z1, rfl, hz1, rfl⟩ cal0) ?_
  show XS (tRet _) _ _ [some (va T x0)] (stt Ω [] [])
  obtain rfl := Option.some.inj hm
  refine xs_ret (xe_bv bc.cl bc.nv (xe_var (i := 0) rfl)) hrt.all
noncomputable def M_ones_of (x0 : Int) : Option Int :=
  (whileM (ρ := Unit) (fun (s1 : Int × Int) => some (decide ((0 : Int) < s1.1))) (fun (s1 : Int × Int) => (some (Builtin.bitAnd s1.1 (s1.1 - (1 : Int)))).bind fun y2 => (some (s1.2 + (1 : Int))).bind fun y3 => some (Stp.nx (y2, y3))) ((x0).toNat + 1) (x0, (0 : Int))).bind fun z4 => (nxt z4).bind fun s5 => some s5.2
def Pre_ones_of (T : TC) : PreT := fun As Ω R => ∃ (x0 : Int) (r : Int), As = [va T x0] ∧ M_ones_of x0 = some r ∧ R = RV (va T r) (stt Ω [] [])
theorem sc_ones_of : FnScope ["digit", "ones"] ["digit"] (defScope s_ones_of) := ⟨rfl, rfl, rfl, by decide +kernel, rfl, by decide +kernel, by decide +kernel⟩
theorem ok_ones_of {f : Addr} {fd : FuncData} (F : Fun T.K "ones_of" "ones_of" s_ones_of f fd)  : FnOk P w T.K mg base CX0 1 f fd ["digit"] (mkSp (Pre_ones_of T)) := by
  refine fn_ok F sc_ones_of (fun As Ω R h => ?_) (fun cdv A outer s H E hr As Ω R F0 h => ?_)
  · obtain ⟨x0, r, rfl, _⟩ := h
    rfl
  obtain ⟨x0, r, rfl, hm, rfl⟩ := h
  refine ⟨_, (pss_cons (ps_set (i := 1) sc_ones_of.nd rfl (.inl rfl) pe_int) (pss_cons (ps_while PassesOwn.never (pt_cmpR op_gt (pv 0) pe_int (nomark _)) (pss_cons (ps_aug (i := 0) sc_ones_of.nd rfl (.inl rfl) (pe_op op_sub (pv 0) pe_int) (ip_of iop_and)) (pss_one (ps_aug (i := 1) sc_ones_of.nd rfl (.inl rfl) pe_int (ip_of iop_add))))) (pss_one (ps_ret (pv 1))))), fun D hrt hnx => ?_⟩
  have ok : Okk Ω [] := okk0
  suffices hx : XS _ D F0 [some (va T x0), none] (stt Ω [] []) by
    rw [show (stt Ω [] []) = Ω from stt_self (by simp)] at hx
    exact hx
  unfold M_ones_of at hm
  refine xs_set (A := va T (0 : Int)) xe_int ?_
  show XS (tSeq _ _) _ _ [some (va T x0), some (va T (0 : Int))] (stt Ω [] [])
  obtain ⟨z4, hz4, hm⟩ := bnd_some hm
  refine xs_whileS (fun (s1 : Int × Int) => [some (va T s1.1), some (va T s1.2)]) (fun (s1 : Int × Int) => (stt Ω [] [])) (fun (_ : Unit) _ _ _ => False) hz4 (fun s1 v hc => ?_) (fun s1 s' hc0 hm F1 D1 e1 hD => ?_) (fun s5 es => ?_) (fun r1 es => ?_)
  · clear hm
    have hm := hc
    obtain rfl := Option.some.inj hm
    refine (xt_test (T := T) (xe_gt (xe_var (i := 0) rfl) xe_int))
  · clear hc0
    show XS (tSeq _ _) _ _ [some (va T s1.1), some (va T s1.2)] (stt Ω [] [])
    obtain ⟨y2, hy2, hm⟩ := bnd_some hm
    refine xs_augI (T := T) rfl (xe_sub (xe_var (i := 0) rfl) xe_int) (Option.some.inj hy2) ?_
    show XS (tAug _ _ _) _ _ [some (va T y2), some (va T s1.2)] (stt Ω [] [])
    obtain ⟨y3, hy3, hm⟩ := bnd_some hm
    refine xs_augI1 (T := T) rfl xe_int (Option.some.inj hy3) ?_
    obtain rfl := Option.some.inj hm
    exact fun σ H n => hD.nx _ rfl σ H n
  · subst es
    obtain ⟨s2, hs2, hm⟩ := bnd_some hm
    cases hs2
    show XS (tRet _) _ _ [some (va T s5.1), some (va T s5.2)] (stt Ω [] [])
    obtain rfl := Option.some.inj hm
    refine xs_ret (xe_var (i := 1) rfl) hrt.all
  · subst es
    cases hm
noncomputable def M_check_shift (x0 : MS) (x1 : Bg) (x2 : Int) : Option Unit :=
  (M_check_one x0 x1).bind fun z1 => (M_is_integer x2).bind fun z2 => (chkP (z2 = true)).bind fun z3 => (chkP ((decide (x2 < (0 : Int))) = false)).bind fun z4 => some ()
def Pre_check_shift (T : TC) : PreT := fun As Ω R => ∃ (k0 : Nat) (p0 : Addr) (x0 : MS) (x1 : Bg) (x2 : Int) (r : Unit), As = [vr p0, va T x1, va T x2] ∧ Ω[k0]? = some (machA T p0 x0) ∧ M_check_shift x0 x1 x2 = some r ∧ R = RV (va T r) (stt Ω [] [])
theorem sc_check_shift : FnScope ["machine", "x", "count"] ["machine", "x", "count"] (defScope s_check_shift) := ⟨rfl, rfl, rfl, by decide +kernel, rfl, by decide +kernel, by decide +kernel⟩
theorem ok_check_shift {f : Addr} {fd : FuncData} (F : Fun T.K "check_shift" "check_shift" s_check_shift f fd) (c_check_one : Cal P w T.K mg base 3 "check_one" ["machine", "x"] (mkSp (Pre_check_one T))) (c_is_integer : Cal P w T.K mg base 1 "is_integer" ["value"] (mkSp (Pre_is_integer T))) : FnOk P w T.K mg base CX0 4 f fd ["machine", "x", "count"] (mkSp (Pre_check_shift T)) := by
  refine fn_ok F sc_check_shift (fun As Ω R h => ?_) (fun cdv A outer s H E hr As Ω R F0 h => ?_)
  · obtain ⟨k0, p0, x0, x1, x2, r, rfl, _⟩ := h
    rfl
  obtain ⟨k0, p0, x0, x1, x2, r, rfl, hk0, hm, rfl⟩ := h
  refine ⟨_, (pss_cons (ps_expr (pe_cal c_check_one (hr.mono (by decide)) (by rfl) (pa_cons (pv 0) (pa_cons (pv 1) pa_nil)))) (pss_one (ps_if (PW.pt (pw_or (pt_not (pt_val (pe_cal c_is_integer (hr.mono (by decide)) (by rfl) (pa_cons (pv 2) pa_nil)))) (pw_or1 (pt_cmpR op_lt (pv 2) pe_int (nomark _))))) pss_never pss_nil))), fun D hrt hnx => ?_⟩
  have ok : Okk Ω [] := okk0
  suffices hx : XS _ D F0 [some (vr p0), some (va T x1), some (va T x2)] (stt Ω [] []) by
    rw [show (stt Ω [] []) = Ω from stt_self (by simp)] at hx
    exact hx
  unfold M_check_shift at hm
  obtain ⟨z1, hz1, hm⟩ := bnd_some hm
  refine xs_drop (xe_call (xa_cons (xe_var (i := 0) rfl) (xa_cons (xe_var (i := 1) rfl) xa_nil)) ⟨k0, p0, x0, x1, z1, rfl, (stt_getU hk0), hz1, rfl⟩ cal0) ?_
  show XS (tIfS _ _ _) _ _ [some (vr p0), some (va T x1), some (va T x2)] (stt Ω [] [])
  obtain ⟨z2, hz2, hm⟩ := bnd_some hm
  obtain ⟨z3, hz3, hm⟩ := bnd_some hm
  obtain ⟨z4, hz4, hm⟩ := bnd_some hm
  refine xs_ifF1 (xt_orF (xt_notF (xt_eq (xt_tB (T := T) (xe_call (xa_cons (xe_var (i := 2) rfl) xa_nil) ⟨x2, z2, rfl, hz2, rfl⟩ cal0)) (chkP_some hz3))) (xt_eq (xt_test (T := T) (xe_lt (xe_var (i := 2) rfl) xe_int)) (chkP_some hz4))) ?_
  obtain rfl := Option.some.inj hm
  exact fun σ H ⟨F, f0, e, hh⟩ => hnx F σ H _ f0 hh.all ⟨rfl, rfl⟩
noncomputable def M_shifted_left (x0 : MS) (x1 : Int) (x2 : Int) : Option (Int × MS) :=
  if (decide (x1 = (0 : Int))) = true then some ((0 : Int), x0) else (M_size_of x0.w x1).bind fun z1 => (if ((decide (z1 = (1 : Int))) && (decide (x2 < x0.w))) = true then (chkP (("short" : Str) ∈ mwords)).bind fun z2 => some (x0.step ("short" : Str) (1 : Int)) else (chkP (("shifted" : Str) ∈ mwords)).bind fun z4 => some ((x0.enter ("left" : Str) z1 x2).step ("shifted" : Str) z1)).bind fun z6 => (chkP (CShl x1 x2)).bind fun z7 => some ((x1 * 2 ^ (x2).toNat), z6)
def Pre_shifted_left (T : TC) : PreT := fun As Ω R => ∃ (k0 : Nat) (p0 : Addr) (x0 : MS) (x1 : Int) (x2 : Int) (r : Int × MS), As = [vr p0, va T x1, va T x2] ∧ Ω[k0]? = some (machA T p0 x0) ∧ M_shifted_left x0 x1 x2 = some r ∧ R = RV (va T r.1) (stt Ω [(k0, machA T p0 r.2)] [])
theorem sc_shifted_left : FnScope ["machine", "x", "count", "size"] ["machine", "x", "count"] (defScope s_shifted_left) := ⟨rfl, rfl, rfl, by decide +kernel, rfl, by decide +kernel, by decide +kernel⟩
theorem ok_shifted_left {f : Addr} {fd : FuncData} (F : Fun T.K "shifted_left" "shifted_left" s_shifted_left f fd) (mc : MCls T.K (T.C 0)) (c_size_of : Cal P w T.K mg base 2 "size_of" ["width", "n"] (mkSp (Pre_size_of T))) (c_Mach_step : CalM P w T.K mg base 1 (T.C 0) "step" ["self", "word", "many"] (mkSp (Pre_Mach_step T))) (c_Mach_enter : CalM P w T.K mg base 1 (T.C 0) "enter" ["self", "word", "m", "n"] (mkSp (Pre_Mach_enter T))) : FnOk P w T.K mg base CX0 3 f fd ["machine", "x", "count"] (mkSp (Pre_shifted_left T)) := by
  refine fn_ok F sc_shifted_left (fun As Ω R h => ?_) (fun cdv A outer s H E hr As Ω R F0 h => ?_)
  · obtain ⟨k0, p0, x0, x1, x2, r, rfl, _⟩ := h
    rfl
  obtain ⟨k0, p0, x0, x1, x2, r, rfl, hk0, hm, rfl⟩ := h
  refine ⟨_, (pss_cons (ps_if (pt_cmpR (op_eqXK (K := T.K) (by exact hr.units) rfl) (pv 1) pe_int (nomark _)) (pss_one (ps_ret pe_int)) pss_nil) (pss_cons (ps_set (i := 3) sc_shifted_left.nd rfl (.inl rfl) (pe_cal c_size_of (hr.mono (by decide)) (by rfl) (pa_cons (pe_fldK (K := T.K) (pv 0) (by rfl) rfl) (pa_cons (pv 1) pa_nil)))) (Evl.pss_cut (ps_if (PW.pt (pw_and (pt_cmpR (op_eqXK (K := T.K) (by exact hr.units) rfl) (pv 3) pe_int (nomark _)) (pw_and1 (pt_cmpR op_lt (pv 2) (pe_fldK (K := T.K) (pv 0) (by rfl) rfl) (nomark _))))) (pss_one (ps_expr (pe_calM (pv 0) c_Mach_step (hr.mono (by decide)) (pa_cons pe_str (pa_cons pe_int pa_nil))))) (pss_cons (ps_expr (pe_calM (pv 0) c_Mach_enter (hr.mono (by decide)) (pa_cons pe_str (pa_cons (pv 3) (pa_cons (pv 2) pa_nil))))) (pss_one (ps_expr (pe_calM (pv 0) c_Mach_step (hr.mono (by decide)) (pa_cons pe_str (pa_cons (pv 3) pa_nil))))))) (pss_one (ps_ret (pe_op op_shlW (pv 1) (pv 2))))))), fun D hrt hnx => ?_⟩
  have ok := okk1 hk0
  suffices hx : XS _ D F0 [some (vr p0), some (va T x1), some (va T x2), none] (stt Ω [(k0, machA T p0 x0)] []) by
    rw [show (stt Ω [(k0, machA T p0 x0)] []) = Ω from stt_self (by simp [hk0])] at hx
    exact hx
  unfold M_shifted_left at hm
  by_cases hc : (decide (x1 = (0 : Int))) = true
  · rw [if_pos hc] at hm
    refine xs_ifT (xt_eq (xt_test (T := T) (xe_eqI (xe_var (i := 1) rfl) xe_int)) hc) ?_
    obtain rfl := Option.some.inj hm
    refine xs_ret xe_int hrt.all
  · rw [if_neg hc] at hm
    refine xs_ifN (xt_eq (xt_test (T := T) (xe_eqI (xe_var (i := 1) rfl) xe_int)) (nt hc)) ?_
    show XS (tSeq _ _) _ _ [some (vr p0), some (va T x1), some (va T x2), none] (stt Ω [(k0, machA T p0 x0)] [])
    obtain ⟨z1, hz1, hm⟩ := bnd_some hm
    refine xs_set (A := va T z1) (xe_call (xa_cons (xe_mw mc.cl mc.nw (xe_var (i := 0) rfl) (stt_get ok (i := 0) rfl)) (xa_cons (xe_var (i := 1) rfl) xa_nil)) ⟨x0.w, x1, z1, rfl, hz1, rfl⟩ cal0) ?_
    show XS (Evl.tCut _ _) _ _ [some (vr p0), some (va T x1), some (va T x2), some (va T z1)] (stt Ω [(k0, machA T p0 x0)] [])
    obtain ⟨z6, hz6, hm⟩ := bnd_some hm
    refine xs_cut (Γ' := [some (vr p0), some (va T x1), some (va T x2), some (va T z1)]) (Ω' := (stt Ω [(k0, machA T p0 z6)] [])) ?_ ?_
    · clear hm
      have hm := hz6
      clear hz6
      by_cases hc : ((decide (z1 = (1 : Int))) && (decide (x2 < x0.w))) = true
      · rw [if_pos hc] at hm
        refine xs_ifT1 (xt_eq (xt_and (xt_test (T := T) (xe_eqI (xe_var (i := 3) rfl) xe_int)) (fun _ => (xt_test (T := T) (xe_lt (xe_var (i := 2) rfl) (xe_mw mc.cl mc.nw (xe_var (i := 0) rfl) (stt_get ok (i := 0) rfl))))) (fun _ => rfl)) hc) ?_
        obtain ⟨z2, hz2, hm⟩ := bnd_some hm
        refine xs_drop1 (xe_mcall (xe_var (i := 0) rfl) (stt_get ok (i := 0) rfl) (xa_cons xe_str (xa_cons xe_int xa_nil)) ⟨k0, p0, x0, ("short" : Str), (1 : Int), rfl, (stt_get ok (i := 0) rfl), chkP_some hz2, rfl⟩ (cal1 ok (i := 0) rfl)) ?_
        obtain rfl := Option.some.inj hm
        exact fun σ H n => n
      · rw [if_neg hc] at hm
        refine xs_ifF1 (xt_eq (xt_and (xt_test (T := T) (xe_eqI (xe_var (i := 3) rfl) xe_int)) (fun _ => (xt_test (T := T) (xe_lt (xe_var (i := 2) rfl) (xe_mw mc.cl mc.nw (xe_var (i := 0) rfl) (stt_get ok (i := 0) rfl))))) (fun _ => rfl)) (nt hc)) ?_
        refine xs_drop (xe_mcall (xe_var (i := 0) rfl) (stt_get ok (i := 0) rfl) (xa_cons xe_str (xa_cons (xe_var (i := 3) rfl) (xa_cons (xe_var (i := 2) rfl) xa_nil))) ⟨k0, p0, x0, ("left" : Str), z1, x2, rfl, (stt_get ok (i := 0) rfl), rfl⟩ (cal1 ok (i := 0) rfl)) ?_
        show XS (tDrop _) _ _ [some (vr p0), some (va T x1), some (va T x2), some (va T z1)] (stt Ω [(k0, machA T p0 (x0.enter ("left" : Str) z1 x2))] [])
        obtain ⟨z4, hz4, hm⟩ := bnd_some hm
        refine xs_drop1 (xe_mcall (xe_var (i := 0) rfl) (stt_get ok (i := 0) rfl) (xa_cons xe_str (xa_cons (xe_var (i := 3) rfl) xa_nil)) ⟨k0, p0, (x0.enter ("left" : Str) z1 x2), ("shifted" : Str), z1, rfl, (stt_get ok (i := 0) rfl), chkP_some hz4, rfl⟩ (cal1 ok (i := 0) rfl)) ?_
        obtain rfl := Option.some.inj hm
        exact fun σ H n => n
    · obtain ⟨z7, hz7, hm⟩ := bnd_some hm
      obtain rfl := Option.some.inj hm
      refine xs_ret (xe_shl (chkP_some hz7) (xe_var (i := 1) rfl) (xe_var (i := 2) rfl)) hrt.all
noncomputable def M_shift_left (x0 : MS) (x1 : Bg) (x2 : Int) : Option (Bg × MS) :=
  (M_check_shift x0 x1 x2).bind fun z1 => (chkP (((!decide (x1.v = (0 : Int))) && (decide ((100000 : Int) < x2))) = false)).bind fun z2 => (M_shifted_left x0 x1.v x2).bind fun z3 => (M_big_of z3.2 z3.1).bind fun z4 => some (z4, z3.2)
def Pre_shift_left (T : TC) : PreT := fun As Ω R => ∃ (k0 : Nat) (p0 : Addr) (x0 : MS) (x1 : Bg) (x2 : Int) (r : Bg × MS), As = [vr p0, va T x1, va T x2] ∧ Ω[k0]? = some (machA T p0 x0) ∧ M_shift_left x0 x1 x2 = some r ∧ R = RV (va T r.1) (stt Ω [(k0, machA T p0 r.2)] [])
theorem sc_shift_left : FnScope ["machine", "x", "count"] ["machine", "x", "count"] (defScope s_shift_left) := ⟨rfl, rfl, rfl, by decide +kernel, rfl, by decide +kernel, by decide +kernel⟩
theorem ok_shift_left {f : Addr} {fd : FuncData} (F : Fun T.K "shift_left" "shift_left" s_shift_left f fd) (c_check_shift : Cal P w T.K mg base 4 "check_shift" ["machine", "x", "count"] (mkSp (Pre_check_shift T))) (bc : BCls T.K (T.C 1)) (g_GREATEST_SHIFT : ∃ u, mg "GREATEST_SHIFT" = some u ∧ RelV (.int 100000) u) (c_shifted_left : Cal P w T.K mg base 3 "shifted_left" ["machine", "x", "count"] (mkSp (Pre_shifted_left T))) (c_big_of : Cal P w T.K mg base 22 "big_of" ["machine", "value"] (mkSp (Pre_big_of T))) : FnOk P w T.K mg base CX0 23 f fd ["machine", "x", "count"] (mkSp (Pre_shift_left T)) := by
  refine fn_ok F sc_shift_left (fun As Ω R h => ?_) (fun cdv A outer s H E hr As Ω R F0 h => ?_)
  · obtain ⟨k0, p0, x0, x1, x2, r, rfl, _⟩ := h
    rfl
  obtain ⟨k0, p0, x0, x1, x2, r, rfl, hk0, hm, rfl⟩ := h
  refine ⟨_, (pss_cons (ps_expr (pe_cal c_check_shift (hr.mono (by decide)) (by rfl) (pa_cons (pv 0) (pa_cons (pv 1) (pa_cons (pv 2) pa_nil))))) (pss_cons (ps_if (PW.pt (pw_and (pt_cmpR (op_neXK (K := T.K) (by exact hr.units) rfl) (pe_fldK (K := T.K) (pv 1) (by rfl) rfl) pe_int (nomark _)) (pw_and1 (pt_cmpR op_gt (pv 2) (pe_gl rfl g_GREATEST_SHIFT) (nomark _))))) pss_never pss_nil) (pss_one (ps_ret (pe_cal c_big_of (hr.mono (by decide)) (by rfl) (pa_cons (pv 0) (pa_cons (pe_cal c_shifted_left (hr.mono (by decide)) (by rfl) (pa_cons (pv 0) (pa_cons (pe_fldK (K := T.K) (pv 1) (by rfl) rfl) (pa_cons (pv 2) pa_nil)))) pa_nil))))))), fun D hrt hnx => ?_⟩
  have ok := okk1 hk0
  suffices hx : XS _ D F0 [some (vr p0), some (va T x1), some (va T x2)] (stt Ω [(k0, machA T p0 x0)] []) by
    rw [show (stt Ω [(k0, machA T p0 x0)] []) = Ω from stt_self (by simp [hk0])] at hx
    exact hx
  unfold M_shift_left at hm
  obtain ⟨z1, hz1, hm⟩ := bnd_some hm
  refine xs_drop (xe_call (xa_cons (xe_var (i := 0) rfl) (xa_cons (xe_var (i := 1) rfl) (xa_cons (xe_var (i := 2) rfl) xa_nil))) ⟨k0, p0, x0, x1, x2, z1, rfl, (stt_get ok (i := 0) rfl), hz1, rfl⟩ cal0) ?_
  show XS (tSeq _ _) _ _ [some (vr p0), some (va T x1), some (va T x2)] (stt Ω [(k0, machA T p0 x0)] [])
  obtain ⟨z2, hz2, hm⟩ := bnd_some hm
  refine xs_ifN (xt_eq (xt_and (xt_test (T := T) (xe_neI (xe_bv bc.cl bc.nv (xe_var (i := 1) rfl)) xe_int)) (fun _ => (xt_test (T := T) (xe_gt (xe_var (i := 2) rfl) xe_int))) (fun _ => rfl)) (chkP_some hz2)) ?_
  show XS (tRet _) _ _ [some (vr p0), some (va T x1), some (va T x2)] (stt Ω [(k0, machA T p0 x0)] [])
  obtain ⟨z3, hz3, hm⟩ := bnd_some hm
  obtain ⟨z4, hz4, hm⟩ := bnd_some hm
  obtain rfl := Option.some.inj hm
  refine xs_ret (xe_call (xa_cons (xe_var (i := 0) rfl) (xa_cons (xe_call (xa_cons (xe_var (i := 0) rfl) (xa_cons (xe_bv bc.cl bc.nv (xe_var (i := 1) rfl)) (xa_cons (xe_var (i := 2) rfl) xa_nil))) ⟨k0, p0, x0, x1.v, x2, z3, rfl, (stt_get ok (i := 0) rfl), hz3, rfl⟩ (cal1 ok (i := 0) rfl)) xa_nil)) ⟨k0, p0, z3.2, z3.1, z4, rfl, (stt_get ok (i := 0) rfl), hz4, rfl⟩ cal0) hrt.all
noncomputable def M_added (x0 : MS) (x1 : Int) (x2 : Int) (x3 : Int) (x4 : Int) : Option (Int × MS) :=
  (chkP (("sum" : Str) ∈ mwords)).bind fun z1 => some ((x1 + x3), ((x0.enter ("add" : Str) x2 x4).step ("sum" : Str) (max x2 x4)))
def Pre_added (T : TC) : PreT := fun As Ω R => ∃ (k0 : Nat) (p0 : Addr) (x0 : MS) (x1 : Int) (x2 : Int) (x3 : Int) (x4 : Int) (r : Int × MS), As = [vr p0, va T x1, va T x2, va T x3, va T x4] ∧ Ω[k0]? = some (machA T p0 x0) ∧ M_added x0 x1 x2 x3 x4 = some r ∧ R = RV (va T r.1) (stt Ω [(k0, machA T p0 r.2)] [])
theorem sc_added : FnScope ["machine", "a", "m", "b", "n"] ["machine", "a", "m", "b", "n"] (defScope s_added) := ⟨rfl, rfl, rfl, by decide +kernel, rfl, by decide +kernel, by decide +kernel⟩
theorem ok_added {f : Addr} {fd : FuncData} (F : Fun T.K "added" "added" s_added f fd) (mc : MCls T.K (T.C 0)) (c_Mach_enter : CalM P w T.K mg base 1 (T.C 0) "enter" ["self", "word", "m", "n"] (mkSp (Pre_Mach_enter T))) (z_max : mg "max" = none) (c_Mach_step : CalM P w T.K mg base 1 (T.C 0) "step" ["self", "word", "many"] (mkSp (Pre_Mach_step T))) : FnOk P w T.K mg base CX0 2 f fd ["machine", "a", "m", "b", "n"] (mkSp (Pre_added T)) := by
  refine fn_ok F sc_added (fun As Ω R h => ?_) (fun cdv A outer s H E hr As Ω R F0 h => ?_)
  · obtain ⟨k0, p0, x0, x1, x2, x3, x4, r, rfl, _⟩ := h
    rfl
  obtain ⟨k0, p0, x0, x1, x2, x3, x4, r, rfl, hk0, hm, rfl⟩ := h
  refine ⟨_, (pss_cons (ps_expr (pe_calM (pv 0) c_Mach_enter (hr.mono (by decide)) (pa_cons pe_str (pa_cons (pv 2) (pa_cons (pv 4) pa_nil))))) (pss_cons (ps_expr (pe_calM (pv 0) c_Mach_step (hr.mono (by decide)) (pa_cons pe_str (pa_cons (pe_callB (cr_max2 rfl) (by rfl) z_max (by decide +kernel) (pa_cons (pv 2) (pa_cons (pv 4) pa_nil))) pa_nil)))) (pss_one (ps_ret (pe_op op_addQ (pv 1) (pv 3)))))), fun D hrt hnx => ?_⟩
  have ok := okk1 hk0
  suffices hx : XS _ D F0 [some (vr p0), some (va T x1), some (va T x2), some (va T x3), some (va T x4)] (stt Ω [(k0, machA T p0 x0)] []) by
    rw [show (stt Ω [(k0, machA T p0 x0)] []) = Ω from stt_self (by simp [hk0])] at hx
    exact hx
  unfold M_added at hm
  refine xs_drop (xe_mcall (xe_var (i := 0) rfl) (stt_get ok (i := 0) rfl) (xa_cons xe_str (xa_cons (xe_var (i := 2) rfl) (xa_cons (xe_var (i := 4) rfl) xa_nil))) ⟨k0, p0, x0, ("add" : Str), x2, x4, rfl, (stt_get ok (i := 0) rfl), rfl⟩ (cal1 ok (i := 0) rfl)) ?_
  show XS (tSeq _ _) _ _ [some (vr p0), some (va T x1), some (va T x2), some (va T x3), some (va T x4)] (stt Ω [(k0, machA T p0 (x0.enter ("add" : Str) x2 x4))] [])
  obtain ⟨z1, hz1, hm⟩ := bnd_some hm
  refine xs_drop (xe_mcall (xe_var (i := 0) rfl) (stt_get ok (i := 0) rfl) (xa_cons xe_str (xa_cons (xe_max2 (xe_var (i := 2) rfl) (xe_var (i := 4) rfl)) xa_nil)) ⟨k0, p0, (x0.enter ("add" : Str) x2 x4), ("sum" : Str), (max x2 x4), rfl, (stt_get ok (i := 0) rfl), chkP_some hz1, rfl⟩ (cal1 ok (i := 0) rfl)) ?_
  show XS (tRet _) _ _ [some (vr p0), some (va T x1), some (va T x2), some (va T x3), some (va T x4)] (stt Ω [(k0, machA T p0 ((x0.enter ("add" : Str) x2 x4).step ("sum" : Str) (max x2 x4)))] [])
  obtain rfl := Option.some.inj hm
  refine xs_ret (xe_add (xe_var (i := 1) rfl) (xe_var (i := 3) rfl)) hrt.all
noncomputable def M_joined_room (x0 : MS) (x1 : Int) (x2 : Int) (x3 : Int) (x4 : Int) (x5 : Int) : Option (Int × MS) :=
  (chkP (IntMulOk x5 x3)).bind fun z1 => (some (x1 + (x5 * x3))).bind fun y2 => (chkP (IntMulOk x4 ((x0.enter (if (decide (x5 = (1 : Int))) = true then ("add into" : Str) else ("take from" : Str)) x2 x4).w))).bind fun z3 => (chkP (0 ≤ (x4 * ((x0.enter (if (decide (x5 = (1 : Int))) = true then ("add into" : Str) else ("take from" : Str)) x2 x4).w)))).bind fun z4 => (some ((Builtin.bitXor y2 x1) / 2 ^ ((x4 * ((x0.enter (if (decide (x5 = (1 : Int))) = true then ("add into" : Str) else ("take from" : Str)) x2 x4).w))).toNat)).bind fun y5 => (if (!decide (y5 = (0 : Int))) = true then (M_low_part ((x0.enter (if (decide (x5 = (1 : Int))) = true then ("add into" : Str) else ("take from" : Str)) x2 x4).w) y5 (x2 - x4)).bind fun z6 => (M_size_of ((x0.enter (if (decide (x5 = (1 : Int))) = true then ("add into" : Str) else ("take from" : Str)) x2 x4).w) z6).bind fun z7 => (some (x4 + z7)).bind fun y8 => some y8 else some x4).bind fun z11 => (chkP (("sum" : Str) ∈ mwords)).bind fun z12 => some (y2, ((x0.enter (if (decide (x5 = (1 : Int))) = true then ("add into" : Str) else ("take from" : Str)) x2 x4).step ("sum" : Str) z11))
def Pre_joined_room (T : TC) : PreT := fun As Ω R => ∃ (k0 : Nat) (p0 : Addr) (x0 : MS) (x1 : Int) (x2 : Int) (x3 : Int) (x4 : Int) (x5 : Int) (r : Int × MS), As = [vr p0, va T x1, va T x2, va T x3, va T x4, va T x5] ∧ Ω[k0]? = some (machA T p0 x0) ∧ M_joined_room x0 x1 x2 x3 x4 x5 = some r ∧ R = RV (va T r.1) (stt Ω [(k0, machA T p0 r.2)] [])
theorem sc_joined_room : FnScope ["machine", "room", "r", "more", "p", "turn", "total", "changed"] ["machine", "room", "r", "more", "p", "turn"] (defScope s_joined_room) := ⟨rfl, rfl, rfl, by decide +kernel, rfl, by decide +kernel, by decide +kernel⟩
theorem ok_joined_room {f : Addr} {fd : FuncData} (F : Fun T.K "joined_room" "joined_room" s_joined_room f fd) (mc : MCls T.K (T.C 0)) (c_Mach_enter : CalM P w T.K mg base 1 (T.C 0) "enter" ["self", "word", "m", "n"] (mkSp (Pre_Mach_enter T))) (c_low_part : Cal P w T.K mg base 1 "low_part" ["width", "n", "size"] (mkSp (Pre_low_part T))) (c_size_of : Cal P w T.K mg base 2 "size_of" ["width", "n"] (mkSp (Pre_size_of T))) (c_Mach_step : CalM P w T.K mg base 1 (T.C 0) "step" ["self", "word", "many"] (mkSp (Pre_Mach_step T))) : FnOk P w T.K mg base CX0 3 f fd ["machine", "room", "r", "more", "p", "turn"] (mkSp (Pre_joined_room T)) := by
  refine fn_ok F sc_joined_room (fun As Ω R h => ?_) (fun cdv A outer s H E hr As Ω R F0 h => ?_)
  · obtain ⟨k0, p0, x0, x1, x2, x3, x4, x5, r, rfl, _⟩ := h
    rfl
  obtain ⟨k0, p0, x0, x1, x2, x3, x4, x5, r, rfl, hk0, hm, rfl⟩ := h
  refine ⟨_, (pss_cons (ps_expr (pe_calM (pv 0) c_Mach_enter (hr.mono (by decide)) (pa_cons (pe_ifExp (pt_cmpR (op_eqXK (K := T.K) (by exact hr.units) rfl) (pv 5) pe_int (nomark _)) pe_str pe_str) (pa_cons (pv 2) (pa_cons (pv 4) pa_nil))))) (pss_cons (ps_set (i := 6) sc_joined_room.nd rfl (.inl rfl) (pe_op op_addQ (pv 1) (pe_op op_mulQ (pv 5) (pv 3)))) (pss_cons (ps_set (i := 7) sc_joined_room.nd rfl (.inl rfl) (pe_op op_shr (pe_op op_xor (pv 6) (pv 1)) (pe_op op_mulQ (pv 4) (pe_fldK (K := T.K) (pv 0) (by rfl) rfl)))) (Evl.pss_cut (ps_if (pt_cmpR (op_neXK (K := T.K) (by exact hr.units) rfl) (pv 7) pe_int (nomark _)) (pss_one (ps_aug (i := 4) sc_joined_room.nd rfl (.inl rfl) (pe_cal c_size_of (hr.mono (by decide)) (by rfl) (pa_cons (pe_fldK (K := T.K) (pv 0) (by rfl) rfl) (pa_cons (pe_cal c_low_part (hr.mono (by decide)) (by rfl) (pa_cons (pe_fldK (K := T.K) (pv 0) (by rfl) rfl) (pa_cons (pv 7) (pa_cons (pe_op op_sub (pv 2) (pv 4)) pa_nil)))) pa_nil))) (ip_of iop_add))) pss_nil) (pss_cons (ps_expr (pe_calM (pv 0) c_Mach_step (hr.mono (by decide)) (pa_cons pe_str (pa_cons (pv 4) pa_nil)))) (pss_one (ps_ret (pv 6)))))))), fun D hrt hnx => ?_⟩
  have ok := okk1 hk0
  suffices hx : XS _ D F0 [some (vr p0), some (va T x1), some (va T x2), some (va T x3), some (va T x4), some (va T x5), none, none] (stt Ω [(k0, machA T p0 x0)] []) by
    rw [show (stt Ω [(k0, machA T p0 x0)] []) = Ω from stt_self (by simp [hk0])] at hx
    exact hx
  unfold M_joined_room at hm
  refine xs_drop (xe_mcall (xe_var (i := 0) rfl) (stt_get ok (i := 0) rfl) (xa_cons (xe_ite (xt_test (T := T) (xe_eqI (xe_var (i := 5) rfl) xe_int)) xe_str xe_str) (xa_cons (xe_var (i := 2) rfl) (xa_cons (xe_var (i := 4) rfl) xa_nil))) ⟨k0, p0, x0, (if (decide (x5 = (1 : Int))) = true then ("add into" : Str) else ("take from" : Str)), x2, x4, rfl, (stt_get ok (i := 0) rfl), rfl⟩ (cal1 ok (i := 0) rfl)) ?_
  show XS (tSeq _ _) _ _ [some (vr p0), some (va T x1), some (va T x2), some (va T x3), some (va T x4), some (va T x5), none, none] (stt Ω [(k0, machA T p0 (x0.enter (if (decide (x5 = (1 : Int))) = true then ("add into" : Str) else ("take from" : Str)) x2 x4))] [])
  obtain ⟨z1, hz1, hm⟩ := bnd_some hm
  obtain ⟨y2, hy2, hm⟩ := bnd_some hm
  refine xs_set (A := va T y2) (xe_eq (xe_add (xe_var (i := 1) rfl) (xe_mul (chkP_some hz1) (xe_var (i := 5) rfl) (xe_var (i := 3) rfl))) (Option.some.inj hy2)) ?_
  show XS (tSeq _ _) _ _ [some (vr p0), some (va T x1), some (va T x2), some (va T x3), some (va T x4), some (va T x5), some (va T y2), none] (stt Ω [(k0, machA T p0 (x0.enter (if (decide (x5 = (1 : Int))) = true then ("add into" : Str) else ("take from" : Str)) x2 x4))] [])
  obtain ⟨z3, hz3, hm⟩ := bnd_some hm
  obtain ⟨z4, hz4, hm⟩ := bnd_some hm
  obtain ⟨y5, hy5, hm⟩ := bnd_some hm
  refine xs_set (A := va T y5) (xe_eq (xe_shr (chkP_some hz4) (xe_bxor (xe_var (i := 6) rfl) (xe_var (i := 1) rfl)) (xe_mul (chkP_some hz3) (xe_var (i := 4) rfl) (xe_mw mc.cl mc.nw (xe_var (i := 0) rfl) (stt_get ok (i := 0) rfl)))) (Option.some.inj hy5)) ?_
  show XS (Evl.tCut _ _) _ _ [some (vr p0), some (va T x1), some (va T x2), some (va T x3), some (va T x4), some (va T x5), some (va T y2), some (va T y5)] (stt Ω [(k0, machA T p0 (x0.enter (if (decide (x5 = (1 : Int))) = true then ("add into" : Str) else ("take from" : Str)) x2 x4))] [])
  obtain ⟨z11, hz11, hm⟩ := bnd_some hm
  refine xs_cut (Γ' := [some (vr p0), some (va T x1), some (va T x2), some (va T x3), some (va T z11), some (va T x5), some (va T y2), some (va T y5)]) (Ω' := (stt Ω [(k0, machA T p0 (x0.enter (if (decide (x5 = (1 : Int))) = true then ("add into" : Str) else ("take from" : Str)) x2 x4))] [])) ?_ ?_
  · clear hm
    have hm := hz11
    clear hz11
    by_cases hc : (!decide (y5 = (0 : Int))) = true
    · rw [if_pos hc] at hm
      refine xs_ifT1 (xt_eq (xt_test (T := T) (xe_neI (xe_var (i := 7) rfl) xe_int)) hc) ?_
      obtain ⟨z6, hz6, hm⟩ := bnd_some hm
      obtain ⟨z7, hz7, hm⟩ := bnd_some hm
      obtain ⟨y8, hy8, hm⟩ := bnd_some hm
      refine xs_augI1 (T := T) rfl (xe_call (xa_cons (xe_mw mc.cl mc.nw (xe_var (i := 0) rfl) (stt_get ok (i := 0) rfl)) (xa_cons (xe_call (xa_cons (xe_mw mc.cl mc.nw (xe_var (i := 0) rfl) (stt_get ok (i := 0) rfl)) (xa_cons (xe_var (i := 7) rfl) (xa_cons (xe_sub (xe_var (i := 2) rfl) (xe_var (i := 4) rfl)) xa_nil))) ⟨(x0.enter (if (decide (x5 = (1 : Int))) = true then ("add into" : Str) else ("take from" : Str)) x2 x4).w, y5, (x2 - x4), z6, rfl, hz6, rfl⟩ cal0) xa_nil)) ⟨(x0.enter (if (decide (x5 = (1 : Int))) = true then ("add into" : Str) else ("take from" : Str)) x2 x4).w, z6, z7, rfl, hz7, rfl⟩ cal0) (Option.some.inj hy8) ?_
      obtain rfl := Option.some.inj hm
      exact fun σ H n => n
    · rw [if_neg hc] at hm
      refine xs_ifF1 (xt_eq (xt_test (T := T) (xe_neI (xe_var (i := 7) rfl) xe_int)) (nt hc)) ?_
      obtain rfl := Option.some.inj hm
      exact fun σ H n => n
  · obtain ⟨z12, hz12, hm⟩ := bnd_some hm
    refine xs_drop (xe_mcall (xe_var (i := 0) rfl) (stt_get ok (i := 0) rfl) (xa_cons xe_str (xa_cons (xe_var (i := 4) rfl) xa_nil)) ⟨k0, p0, (x0.enter (if (decide (x5 = (1 : Int))) = true then ("add into" : Str) else ("take from" : Str)) x2 x4), ("sum" : Str), z11, rfl, (stt_get ok (i := 0) rfl), chkP_some hz12, rfl⟩ (cal1 ok (i := 0) rfl)) ?_
    show XS (tRet _) _ _ [some (vr p0), some (va T x1), some (va T x2), some (va T x3), some (va T z11), some (va T x5), some (va T y2), some (va T y5)] (stt Ω [(k0, machA T p0 ((x0.enter (if (decide (x5 = (1 : Int))) = true then ("add into" : Str) else ("take from" : Str)) x2 x4).step ("sum" : Str) z11))] [])
    obtain rfl := Option.some.inj hm
    refine xs_ret (xe_var (i := 6) rfl) hrt.all
noncomputable def M_product_by_rows (x0 : MS) (x1 : Int) (x2 : Int) (x3 : Int) (x4 : Int) : Option (Int × MS) :=
  (chkP (IntMulOk x2 x4)).bind fun z1 => (chkP (("product" : Str) ∈ mwords)).bind fun z2 => (chkP (IntMulOk x1 x3)).bind fun z3 => some ((x1 * x3), ((x0.enter ("rows" : Str) x2 x4).step ("product" : Str) (x2 * x4)))
def Pre_product_by_rows (T : TC) : PreT := fun As Ω R => ∃ (k0 : Nat) (p0 : Addr) (x0 : MS) (x1 : Int) (x2 : Int) (x3 : Int) (x4 : Int) (r : Int × MS), As = [vr p0, va T x1, va T x2, va T x3, va T x4] ∧ Ω[k0]? = some (machA T p0 x0) ∧ M_product_by_rows x0 x1 x2 x3 x4 = some r ∧ R = RV (va T r.1) (stt Ω [(k0, machA T p0 r.2)] [])
theorem sc_product_by_rows : FnScope ["machine", "a", "m", "b", "n"] ["machine", "a", "m", "b", "n"] (defScope s_product_by_rows) := ⟨rfl, rfl, rfl, by decide +kernel, rfl, by decide +kernel, by decide +kernel⟩
theorem ok_product_by_rows {f : Addr} {fd : FuncData} (F : Fun T.K "product_by_rows" "product_by_rows" s_product_by_rows f fd) (mc : MCls T.K (T.C 0)) (c_Mach_enter : CalM P w T.K mg base 1 (T.C 0) "enter" ["self", "word", "m", "n"] (mkSp (Pre_Mach_enter T))) (c_Mach_step : CalM P w T.K mg base 1 (T.C 0) "step" ["self", "word", "many"] (mkSp (Pre_Mach_step T))) : FnOk P w T.K mg base CX0 2 f fd ["machine", "a", "m", "b", "n"] (mkSp (Pre_product_by_rows T)) := by
  refine fn_ok F sc_product_by_rows (fun As Ω R h => ?_) (fun cdv A outer s H E hr As Ω R F0 h => ?_)
  · obtain ⟨k0, p0, x0, x1, x2, x3, x4, r, rfl, _⟩ := h
    rfl
  obtain ⟨k0, p0, x0, x1, x2, x3, x4, r, rfl, hk0, hm, rfl⟩ := h
  refine ⟨_, (pss_cons (ps_expr (pe_calM (pv 0) c_Mach_enter (hr.mono (by decide)) (pa_cons pe_str (pa_cons (pv 2) (pa_cons (pv 4) pa_nil))))) (pss_cons (ps_expr (pe_calM (pv 0) c_Mach_step (hr.mono (by decide)) (pa_cons pe_str (pa_cons (pe_op op_mulQ (pv 2) (pv 4)) pa_nil)))) (pss_one (ps_ret (pe_op op_mulQ (pv 1) (pv 3)))))), fun D hrt hnx => ?_⟩
  have ok := okk1 hk0
  suffices hx : XS _ D F0 [some (vr p0), some (va T x1), some (va T x2), some (va T x3), some (va T x4)] (stt Ω [(k0, machA T p0 x0)] []) by
    rw [show (stt Ω [(k0, machA T p0 x0)] []) = Ω from stt_self (by simp [hk0])] at hx
    exact hx
  unfold M_product_by_rows at hm
  refine xs_drop (xe_mcall (xe_var (i := 0) rfl) (stt_get ok (i := 0) rfl) (xa_cons xe_str (xa_cons (xe_var (i := 2) rfl) (xa_cons (xe_var (i := 4) rfl) xa_nil))) ⟨k0, p0, x0, ("rows" : Str), x2, x4, rfl, (stt_get ok (i := 0) rfl), rfl⟩ (cal1 ok (i := 0) rfl)) ?_
  show XS (tSeq _ _) _ _ [some (vr p0), some (va T x1), some (va T x2), some (va T x3), some (va T x4)] (stt Ω [(k0, machA T p0 (x0.enter ("rows" : Str) x2 x4))] [])
  obtain ⟨z1, hz1, hm⟩ := bnd_some hm
  obtain ⟨z2, hz2, hm⟩ := bnd_some hm
  refine xs_drop (xe_mcall (xe_var (i := 0) rfl) (stt_get ok (i := 0) rfl) (xa_cons xe_str (xa_cons (xe_mul (chkP_some hz1) (xe_var (i := 2) rfl) (xe_var (i := 4) rfl)) xa_nil)) ⟨k0, p0, (x0.enter ("rows" : Str) x2 x4), ("product" : Str), (x2 * x4), rfl, (stt_get ok (i := 0) rfl), chkP_some hz2, rfl⟩ (cal1 ok (i := 0) rfl)) ?_
  show XS (tRet _) _ _ [some (vr p0), some (va T x1), some (va T x2), some (va T x3), some (va T x4)] (stt Ω [(k0, machA T p0 ((x0.enter ("rows" : Str) x2 x4).step ("product" : Str) (x2 * x4)))] [])
  obtain ⟨z3, hz3, hm⟩ := bnd_some hm
  obtain rfl := Option.some.inj hm
  refine xs_ret (xe_mul (chkP_some hz3) (xe_var (i := 1) rfl) (xe_var (i := 3) rfl)) hrt.all
noncomputable def M_parts_of (x0 : MS) (x1 : Int) (x2 : Int) : Option (T4 Int Int Int Int) :=
  (M_low_part x0.w x1 x2).bind fun z1 => (chkP (IntMulOk x2 x0.w)).bind fun z2 => (chkP (0 ≤ (x2 * x0.w))).bind fun z3 => (some (x1 / 2 ^ ((x2 * x0.w)).toNat)).bind fun y4 => (M_size_of x0.w z1).bind fun z5 => (M_size_of x0.w y4).bind fun z6 => some (T4.mk z1 z5 y4 z6)
def Pre_parts_of (T : TC) : PreT := fun As Ω R => ∃ (k0 : Nat) (p0 : Addr) (x0 : MS) (x1 : Int) (x2 : Int) (r : (T4 Int Int Int Int)), As = [vr p0, va T x1, va T x2] ∧ Ω[k0]? = some (machA T p0 x0) ∧ M_parts_of x0 x1 x2 = some r ∧ R = RV (va T r) (stt Ω [] [])
theorem sc_parts_of : FnScope ["machine", "a", "cut", "low", "high"] ["machine", "a", "cut"] (defScope s_parts_of) := ⟨rfl, rfl, rfl, by decide +kernel, rfl, by decide +kernel, by decide +kernel⟩
theorem ok_parts_of {f : Addr} {fd : FuncData} (F : Fun T.K "parts_of" "parts_of" s_parts_of f fd) (mc : MCls T.K (T.C 0)) (c_low_part : Cal P w T.K mg base 1 "low_part" ["width", "n", "size"] (mkSp (Pre_low_part T))) (c_size_of : Cal P w T.K mg base 2 "size_of" ["width", "n"] (mkSp (Pre_size_of T))) : FnOk P w T.K mg base CX0 3 f fd ["machine", "a", "cut"] (mkSp (Pre_parts_of T)) := by
  refine fn_ok F sc_parts_of (fun As Ω R h => ?_) (fun cdv A outer s H E hr As Ω R F0 h => ?_)
  · obtain ⟨k0, p0, x0, x1, x2, r, rfl, _⟩ := h
    rfl
  obtain ⟨k0, p0, x0, x1, x2, r, rfl, hk0, hm, rfl⟩ := h
  refine ⟨_, (pss_cons (ps_set (i := 3) sc_parts_of.nd rfl (.inl rfl) (pe_cal c_low_part (hr.mono (by decide)) (by rfl) (pa_cons (pe_fldK (K := T.K) (pv 0) (by rfl) rfl) (pa_cons (pv 1) (pa_cons (pv 2) pa_nil))))) (pss_cons (ps_set (i := 4) sc_parts_of.nd rfl (.inl rfl) (pe_op op_shr (pv 1) (pe_op op_mulQ (pv 2) (pe_fldK (K := T.K) (pv 0) (by rfl) rfl)))) (pss_one (ps_ret (pe_tup (pa_cons (pv 3) (pa_cons (pe_cal c_size_of (hr.mono (by decide)) (by rfl) (pa_cons (pe_fldK (K := T.K) (pv 0) (by rfl) rfl) (pa_cons (pv 3) pa_nil))) (pa_cons (pv 4) (pa_cons (pe_cal c_size_of (hr.mono (by decide)) (by rfl) (pa_cons (pe_fldK (K := T.K) (pv 0) (by rfl) rfl) (pa_cons (pv 4) pa_nil))) pa_nil))))))))), fun D hrt hnx => ?_⟩
  have ok : Okk Ω [] := okk0
  suffices hx : XS _ D F0 [some (vr p0), some (va T x1), some (va T x2), none, none] (stt Ω [] []) by
    rw [show (stt Ω [] []) = Ω from stt_self (by simp)] at hx
    exact hx
  unfold M_parts_of at hm
  obtain ⟨z1, hz1, hm⟩ := bnd_some hm
  refine xs_set (A := va T z1) (xe_call (xa_cons (xe_mw mc.cl mc.nw (xe_var (i := 0) rfl) (stt_getU hk0)) (xa_cons (xe_var (i := 1) rfl) (xa_cons (xe_var (i := 2) rfl) xa_nil))) ⟨x0.w, x1, x2, z1, rfl, hz1, rfl⟩ cal0) ?_
  show XS (tSeq _ _) _ _ [some (vr p0), some (va T x1), some (va T x2), some (va T z1), none] (stt Ω [] [])
  obtain ⟨z2, hz2, hm⟩ := bnd_some hm
  obtain ⟨z3, hz3, hm⟩ := bnd_some hm
  obtain ⟨y4, hy4, hm⟩ := bnd_some hm
  refine xs_set (A := va T y4) (xe_eq (xe_shr (chkP_some hz3) (xe_var (i := 1) rfl) (xe_mul (chkP_some hz2) (xe_var (i := 2) rfl) (xe_mw mc.cl mc.nw (xe_var (i := 0) rfl) (stt_getU hk0)))) (Option.some.inj hy4)) ?_
  show XS (tRet _) _ _ [some (vr p0), some (va T x1), some (va T x2), some (va T z1), some (va T y4)] (stt Ω [] [])
  obtain ⟨z5, hz5, hm⟩ := bnd_some hm
  obtain ⟨z6, hz6, hm⟩ := bnd_some hm
  obtain rfl := Option.some.inj hm
  refine xs_ret (xe_tup4 (xa_cons (xe_var (i := 3) rfl) (xa_cons (xe_call (xa_cons (xe_mw mc.cl mc.nw (xe_var (i := 0) rfl) (stt_getU hk0)) (xa_cons (xe_var (i := 3) rfl) xa_nil)) ⟨x0.w, z1, z5, rfl, hz5, rfl⟩ cal0) (xa_cons (xe_var (i := 4) rfl) (xa_cons (xe_call (xa_cons (xe_mw mc.cl mc.nw (xe_var (i := 0) rfl) (stt_getU hk0)) (xa_cons (xe_var (i := 4) rfl) xa_nil)) ⟨x0.w, y4, z6, rfl, hz6, rfl⟩ cal0) xa_nil))))) hrt.all
noncomputable def M_room_above (x0 : MS) (x1 : Int) (x2 : Int) (x3 : Int) (x4 : Int) : Option (Int × MS) :=
  (chkP (IntMulOk x2 x0.w)).bind fun z1 => (chkP (0 ≤ (x2 * x0.w))).bind fun z2 => (chkP (IntMulOk x2 x0.w)).bind fun z3 => (chkP (CShl x4 (x2 * x0.w))).bind fun z4 => (some ((x3 / 2 ^ ((x2 * x0.w)).toNat) + (x4 * 2 ^ ((x2 * x0.w)).toNat))).bind fun y5 => (M_size_of x0.w x3).bind fun z6 => (M_joined_room x0 y5 x1 x3 z6 (-(1 : Int))).bind fun z7 => (M_size_of z7.2.w x4).bind fun z8 => (M_joined_room z7.2 z7.1 x1 x4 z8 (-(1 : Int))).bind fun z9 => some (z9.1, z9.2)
def Pre_room_above (T : TC) : PreT := fun As Ω R => ∃ (k0 : Nat) (p0 : Addr) (x0 : MS) (x1 : Int) (x2 : Int) (x3 : Int) (x4 : Int) (r : Int × MS), As = [vr p0, va T x1, va T x2, va T x3, va T x4] ∧ Ω[k0]? = some (machA T p0 x0) ∧ M_room_above x0 x1 x2 x3 x4 = some r ∧ R = RV (va T r.1) (stt Ω [(k0, machA T p0 r.2)] [])
theorem sc_room_above : FnScope ["machine", "size", "cut", "low", "high", "width", "above"] ["machine", "size", "cut", "low", "high"] (defScope s_room_above) := ⟨rfl, rfl, rfl, by decide +kernel, rfl, by decide +kernel, by decide +kernel⟩
theorem ok_room_above {f : Addr} {fd : FuncData} (F : Fun T.K "room_above" "room_above" s_room_above f fd) (mc : MCls T.K (T.C 0)) (c_size_of : Cal P w T.K mg base 2 "size_of" ["width", "n"] (mkSp (Pre_size_of T))) (c_joined_room : Cal P w T.K mg base 3 "joined_room" ["machine", "room", "r", "more", "p", "turn"] (mkSp (Pre_joined_room T))) : FnOk P w T.K mg base CX0 4 f fd ["machine", "size", "cut", "low", "high"] (mkSp (Pre_room_above T)) := by
  refine fn_ok F sc_room_above (fun As Ω R h => ?_) (fun cdv A outer s H E hr As Ω R F0 h => ?_)
  · obtain ⟨k0, p0, x0, x1, x2, x3, x4, r, rfl, _⟩ := h
    rfl
  obtain ⟨k0, p0, x0, x1, x2, x3, x4, r, rfl, hk0, hm, rfl⟩ := h
  refine ⟨_, (pss_cons (ps_set (i := 5) sc_room_above.nd rfl (.inl rfl) (pe_fldK (K := T.K) (pv 0) (by rfl) rfl)) (pss_cons (ps_set (i := 6) sc_room_above.nd rfl (.inl rfl) (pe_op op_addQ (pe_op op_shr (pv 3) (pe_op op_mulQ (pv 2) (pv 5))) (pe_op op_shlW (pv 4) (pe_op op_mulQ (pv 2) (pv 5))))) (pss_cons (ps_set (i := 6) sc_room_above.nd rfl (.inl rfl) (pe_cal c_joined_room (hr.mono (by decide)) (by rfl) (pa_cons (pv 0) (pa_cons (pv 6) (pa_cons (pv 1) (pa_cons (pv 3) (pa_cons (pe_cal c_size_of (hr.mono (by decide)) (by rfl) (pa_cons (pe_fldK (K := T.K) (pv 0) (by rfl) rfl) (pa_cons (pv 3) pa_nil))) (pa_cons (pe_un un_neg pe_int) pa_nil)))))))) (pss_one (ps_ret (pe_cal c_joined_room (hr.mono (by decide)) (by rfl) (pa_cons (pv 0) (pa_cons (pv 6) (pa_cons (pv 1) (pa_cons (pv 4) (pa_cons (pe_cal c_size_of (hr.mono (by decide)) (by rfl) (pa_cons (pe_fldK (K := T.K) (pv 0) (by rfl) rfl) (pa_cons (pv 4) pa_nil))) (pa_cons (pe_un un_neg pe_int) pa_nil)))))))))))), fun D hrt hnx => ?_⟩
  have ok := okk1 hk0
  suffices hx : XS _ D F0 [some (vr p0), some (va T x1), some (va T x2), some (va T x3), some (va T x4), none, none] (stt Ω [(k0, machA T p0 x0)] []) by
    rw [show (stt Ω [(k0, machA T p0 x0)] []) = Ω from stt_self (by simp [hk0])] at hx
    exact hx
  unfold M_room_above at hm
  refine xs_set (A := va T x0.w) (xe_mw mc.cl mc.nw (xe_var (i := 0) rfl) (stt_get ok (i := 0) rfl)) ?_
  show XS (tSeq _ _) _ _ [some (vr p0), some (va T x1), some (va T x2), some (va T x3), some (va T x4), some (va T x0.w), none] (stt Ω [(k0, machA T p0 x0)] [])
  obtain ⟨z1, hz1, hm⟩ := bnd_some hm
  obtain ⟨z2, hz2, hm⟩ := bnd_some hm
  obtain ⟨z3, hz3, hm⟩ := bnd_some hm
  obtain ⟨z4, hz4, hm⟩ := bnd_some hm
  obtain ⟨y5, hy5, hm⟩ := bnd_some hm
  refine xs_set (A := va T y5) (xe_eq (xe_add (xe_shr (chkP_some hz2) (xe_var (i := 3) rfl) (xe_mul (chkP_some hz1) (xe_var (i := 2) rfl) (xe_var (i := 5) rfl))) (xe_shl (chkP_some hz4) (xe_var (i := 4) rfl) (xe_mul (chkP_some hz3) (xe_var (i := 2) rfl) (xe_var (i := 5) rfl)))) (Option.some.inj hy5)) ?_
  show XS (tSeq _ _) _ _ [some (vr p0), some (va T x1), some (va T x2), some (va T x3), some (va T x4), some (va T x0.w), some (va T y5)] (stt Ω [(k0, machA T p0 x0)] [])
  obtain ⟨z6, hz6, hm⟩ := bnd_some hm
  obtain ⟨z7, hz7, hm⟩ := bnd_some hm
  refine xs_set (A := va T z7.1) (xe_call (xa_cons (xe_var (i := 0) rfl) (xa_cons (xe_var (i := 6) rfl) (xa_cons (xe_var (i := 1) rfl) (xa_cons (xe_var (i := 3) rfl) (xa_cons (xe_call (xa_cons (xe_mw mc.cl mc.nw (xe_var (i := 0) rfl) (stt_get ok (i := 0) rfl)) (xa_cons (xe_var (i := 3) rfl) xa_nil)) ⟨x0.w, x3, z6, rfl, hz6, rfl⟩ cal0) (xa_cons (xe_neg xe_int) xa_nil)))))) ⟨k0, p0, x0, y5, x1, x3, z6, (-(1 : Int)), z7, rfl, (stt_get ok (i := 0) rfl), hz7, rfl⟩ (cal1 ok (i := 0) rfl)) ?_
  show XS (tRet _) _ _ [some (vr p0), some (va T x1), some (va T x2), some (va T x3), some (va T x4), some (va T x0.w), some (va T z7.1)] (stt Ω [(k0, machA T p0 z7.2)] [])
  obtain ⟨z8, hz8, hm⟩ := bnd_some hm
  obtain ⟨z9, hz9, hm⟩ := bnd_some hm
  obtain rfl := Option.some.inj hm
  refine xs_ret (xe_call (xa_cons (xe_var (i := 0) rfl) (xa_cons (xe_var (i := 6) rfl) (xa_cons (xe_var (i := 1) rfl) (xa_cons (xe_var (i := 4) rfl) (xa_cons (xe_call (xa_cons (xe_mw mc.cl mc.nw (xe_var (i := 0) rfl) (stt_get ok (i := 0) rfl)) (xa_cons (xe_var (i := 4) rfl) xa_nil)) ⟨z7.2.w, x4, z8, rfl, hz8, rfl⟩ cal0) (xa_cons (xe_neg xe_int) xa_nil)))))) ⟨k0, p0, z7.2, z7.1, x1, x4, z8, (-(1 : Int)), z9, rfl, (stt_get ok (i := 0) rfl), hz9, rfl⟩ (cal1 ok (i := 0) rfl)) hrt.all
noncomputable def M_whole_room (x0 : MS) (x1 : Int) (x2 : Int) (x3 : Int) (x4 : Int) (x5 : Int) : Option (Int × MS) :=
  (M_size_of x0.w x5).bind fun z1 => (M_joined_room x0 x4 x1 x5 z1 (1 : Int)).bind fun z2 => (M_low_part z2.2.w x3 x2).bind fun z3 => (chkP (IntMulOk x2 z2.2.w)).bind fun z4 => (chkP (CShl z2.1 (x2 * z2.2.w))).bind fun z5 => some ((z3 + (z2.1 * 2 ^ ((x2 * z2.2.w)).toNat)), z2.2)
def Pre_whole_room (T : TC) : PreT := fun As Ω R => ∃ (k0 : Nat) (p0 : Addr) (x0 : MS) (x1 : Int) (x2 : Int) (x3 : Int) (x4 : Int) (x5 : Int) (r : Int × MS), As = [vr p0, va T x1, va T x2, va T x3, va T x4, va T x5] ∧ Ω[k0]? = some (machA T p0 x0) ∧ M_whole_room x0 x1 x2 x3 x4 x5 = some r ∧ R = RV (va T r.1) (stt Ω [(k0, machA T p0 r.2)] [])
theorem sc_whole_room : FnScope ["machine", "size", "cut", "low", "above", "middle"] ["machine", "size", "cut", "low", "above", "middle"] (defScope s_whole_room) := ⟨rfl, rfl, rfl, by decide +kernel, rfl, by decide +kernel, by decide +kernel⟩
theorem ok_whole_room {f : Addr} {fd : FuncData} (F : Fun T.K "whole_room" "whole_room" s_whole_room f fd) (mc : MCls T.K (T.C 0)) (c_size_of : Cal P w T.K mg base 2 "size_of" ["width", "n"] (mkSp (Pre_size_of T))) (c_joined_room : Cal P w T.K mg base 3 "joined_room" ["machine", "room", "r", "more", "p", "turn"] (mkSp (Pre_joined_room T))) (c_low_part : Cal P w T.K mg base 1 "low_part" ["width", "n", "size"] (mkSp (Pre_low_part T))) : FnOk P w T.K mg base CX0 4 f fd ["machine", "size", "cut", "low", "above", "middle"] (mkSp (Pre_whole_room T)) := by
  refine fn_ok F sc_whole_room (fun As Ω R h => ?_) (fun cdv A outer s H E hr As Ω R F0 h => ?_)
  · obtain ⟨k0, p0, x0, x1, x2, x3, x4, x5, r, rfl, _⟩ := h
    rfl
  obtain ⟨k0, p0, x0, x1, x2, x3, x4, x5, r, rfl, hk0, hm, rfl⟩ := h
  refine ⟨_, (pss_cons (ps_set (i := 4) sc_whole_room.nd rfl (.inl rfl) (pe_cal c_joined_room (hr.mono (by decide)) (by rfl) (pa_cons (pv 0) (pa_cons (pv 4) (pa_cons (pv 1) (pa_cons (pv 5) (pa_cons (pe_cal c_size_of (hr.mono (by decide)) (by rfl) (pa_cons (pe_fldK (K := T.K) (pv 0) (by rfl) rfl) (pa_cons (pv 5) pa_nil))) (pa_cons pe_int pa_nil)))))))) (pss_one (ps_ret (pe_op op_addQ (pe_cal c_low_part (hr.mono (by decide)) (by rfl) (pa_cons (pe_fldK (K := T.K) (pv 0) (by rfl) rfl) (pa_cons (pv 3) (pa_cons (pv 2) pa_nil)))) (pe_op op_shlW (pv 4) (pe_op op_mulQ (pv 2) (pe_fldK (K := T.K) (pv 0) (by rfl) rfl))))))), fun D hrt hnx => ?_⟩
  have ok := okk1 hk0
  suffices hx : XS _ D F0 [some (vr p0), some (va T x1), some (va T x2), some (va T x3), some (va T x4), some (va T x5)] (stt Ω [(k0, machA T p0 x0)] []) by
    rw [show (stt Ω [(k0, machA T p0 x0)] []) = Ω from stt_self (by simp [hk0])] at hx
    exact hx
  unfold M_whole_room at hm
  obtain ⟨z1, hz1, hm⟩ := bnd_some hm
  obtain ⟨z2, hz2, hm⟩ := bnd_some hm
  refine xs_set (A := va T z2.1) (xe_call (xa_cons (xe_var (i := 0) rfl) (xa_cons (xe_var (i := 4) rfl) (xa_cons (xe_var (i := 1) rfl) (xa_cons (xe_var (i := 5) rfl) (xa_cons (xe_call (xa_cons (xe_mw mc.cl mc.nw (xe_var (i := 0) rfl) (stt_get ok (i := 0) rfl)) (xa_cons (xe_var (i := 5) rfl) xa_nil)) ⟨x0.w, x5, z1, rfl, hz1, rfl⟩ cal0) (xa_cons xe_int xa_nil)))))) ⟨k0, p0, x0, x4, x1, x5, z1, (1 : Int), z2, rfl, (stt_get ok (i := 0) rfl), hz2, rfl⟩ (cal1 ok (i := 0) rfl)) ?_
  show XS (tRet _) _ _ [some (vr p0), some (va T x1), some (va T x2), some (va T x3), some (va T z2.1), some (va T x5)] (stt Ω [(k0, machA T p0 z2.2)] [])
  obtain ⟨z3, hz3, hm⟩ := bnd_some hm
  obtain ⟨z4, hz4, hm⟩ := bnd_some hm
  obtain ⟨z5, hz5, hm⟩ := bnd_some hm
  obtain rfl := Option.some.inj hm
  refine xs_ret (xe_add (xe_call (xa_cons (xe_mw mc.cl mc.nw (xe_var (i := 0) rfl) (stt_get ok (i := 0) rfl)) (xa_cons (xe_var (i := 3) rfl) (xa_cons (xe_var (i := 2) rfl) xa_nil))) ⟨z2.2.w, x3, x2, z3, rfl, hz3, rfl⟩ cal0) (xe_shl (chkP_some hz5) (xe_var (i := 4) rfl) (xe_mul (chkP_some hz4) (xe_var (i := 2) rfl) (xe_mw mc.cl mc.nw (xe_var (i := 0) rfl) (stt_get ok (i := 0) rfl))))) hrt.all
mutual
noncomputable def M_multiplied : Nat → MS → Int → Int → Int → Int → Option (Int × MS)
  | 0, _, _, _, _, _ => none
  | kf + 1, x0, x1, x2, x3, x4 => (if (decide (x4 < x2)) = true then (some (T4.mk x3 x4 x1 x2)).bind fun y1 => some (y1.a, y1.b, y1.c, y1.d) else some (x1, x2, x3, x4)).bind fun z4 => if (decide (z4.2.1 = (0 : Int))) = true then some ((0 : Int), x0) else if (decide (z4.2.1 ≤ x0.c)) = true then (M_product_by_rows x0 z4.1 z4.2.1 z4.2.2.1 z4.2.2.2).bind fun z5 => some (z5.1, z5.2) else (chkP (IntMulOk (2 : Int) z4.2.1)).bind fun z6 => if (decide (((2 : Int) * z4.2.1) ≤ z4.2.2.2)) = true then (M_lopsided_product kf x0 z4.1 z4.2.1 z4.2.2.1 z4.2.2.2).bind fun z7 => some (z7.1, z7.2) else (M_karatsuba_product kf x0 z4.1 z4.2.1 z4.2.2.1 z4.2.2.2).bind fun z8 => some (z8.1, z8.2)
noncomputable def M_lopsided_product : Nat → MS → Int → Int → Int → Int → Option (Int × MS)
  | 0, _, _, _, _, _ => none
  | kf + 1, x0, x1, x2, x3, x4 => (some ((x0.enter ("lopsided" : Str) x2 x4).w)).bind fun y1 => (chkP (CRg x4 x2)).bind fun z2 => (forM' (ρ := Unit) (fun (a4 : Int) (s3 : Int × Int × MS) => (M_low_part y1 s3.1 x2).bind fun z5 => (M_multiplied kf s3.2.2 x1 x2 z5 (min x2 (x4 - a4))).bind fun z6 => (chkP (IntMulOk x2 y1)).bind fun z7 => (chkP (0 ≤ (x2 * y1))).bind fun z8 => (some (s3.1 / 2 ^ ((x2 * y1)).toNat)).bind fun y9 => (chkP (IntMulOk a4 y1)).bind fun z10 => (chkP (0 ≤ (a4 * y1))).bind fun z11 => (M_size_of z6.2.w z6.1).bind fun z12 => (M_joined_room z6.2 (s3.2.1 / 2 ^ ((a4 * y1)).toNat) ((x2 + x4) - a4) z6.1 z12 (1 : Int)).bind fun z13 => (M_low_part y1 s3.2.1 a4).bind fun z14 => (chkP (IntMulOk a4 y1)).bind fun z15 => (chkP (CShl z13.1 (a4 * y1))).bind fun z16 => (some (z14 + (z13.1 * 2 ^ ((a4 * y1)).toNat))).bind fun y17 => some (Stp.nx (y9, y17, z13.2))) (rngS x2 ((x4 + x2 - 1) / x2).toNat) (x3, (0 : Int), (x0.enter ("lopsided" : Str) x2 x4))).bind fun z18 => (nxt z18).bind fun s19 => some (s19.2.1, s19.2.2)
noncomputable def M_karatsuba_product : Nat → MS → Int → Int → Int → Int → Option (Int × MS)
  | 0, _, _, _, _, _ => none
  | kf + 1, x0, x1, x2, x3, x4 => (chkP (CDivW x4 (2 : Int))).bind fun z1 => (some (x4 / (2 : Int))).bind fun y2 => (M_parts_of (x0.enter ("karatsuba" : Str) x2 x4) x1 y2).bind fun z3 => (M_parts_of (x0.enter ("karatsuba" : Str) x2 x4) x3 y2).bind fun z4 => (M_multiplied kf (x0.enter ("karatsuba" : Str) x2 x4) z3.c z3.d z4.c z4.d).bind fun z5 => (M_multiplied kf z5.2 z3.a z3.b z4.a z4.b).bind fun z6 => (M_room_above z6.2 ((x2 + x4) - y2) y2 z6.1 z5.1).bind fun z7 => (M_added z7.2 z3.c z3.d z3.a z3.b).bind fun z8 => (M_added z8.2 z4.c z4.d z4.a z4.b).bind fun z9 => (M_size_of z9.2.w z8.1).bind fun z10 => (M_size_of z9.2.w z9.1).bind fun z11 => (M_multiplied kf z9.2 z8.1 z10 z9.1 z11).bind fun z12 => (M_whole_room z12.2 ((x2 + x4) - y2) y2 z6.1 z7.1 z12.1).bind fun z13 => some (z13.1, z13.2)
end
theorem M_multiplied_succ (kf : Nat) (x0 : MS) (x1 : Int) (x2 : Int) (x3 : Int) (x4 : Int) : M_multiplied (kf + 1) x0 x1 x2 x3 x4 = ((if (decide (x4 < x2)) = true then (some (T4.mk x3 x4 x1 x2)).bind fun y1 => some (y1.a, y1.b, y1.c, y1.d) else some (x1, x2, x3, x4)).bind fun z4 => if (decide (z4.2.1 = (0 : Int))) = true then some ((0 : Int), x0) else if (decide (z4.2.1 ≤ x0.c)) = true then (M_product_by_rows x0 z4.1 z4.2.1 z4.2.2.1 z4.2.2.2).bind fun z5 => some (z5.1, z5.2) else (chkP (IntMulOk (2 : Int) z4.2.1)).bind fun z6 => if (decide (((2 : Int) * z4.2.1) ≤ z4.2.2.2)) = true then (M_lopsided_product kf x0 z4.1 z4.2.1 z4.2.2.1 z4.2.2.2).bind fun z7 => some (z7.1, z7.2) else (M_karatsuba_product kf x0 z4.1 z4.2.1 z4.2.2.1 z4.2.2.2).bind fun z8 => some (z8.1, z8.2)) := by rw [M_multiplied]
theorem M_multiplied_zero (x0 : MS) (x1 : Int) (x2 : Int) (x3 : Int) (x4 : Int) : M_multiplied 0 x0 x1 x2 x3 x4 = none := by rw [M_multiplied]
theorem M_lopsided_product_succ (kf : Nat) (x0 : MS) (x1 : Int) (x2 : Int) (x3 : Int) (x4 : Int) : M_lopsided_product (kf + 1) x0 x1 x2 x3 x4 = ((some ((x0.enter ("lopsided" : Str) x2 x4).w)).bind fun y1 => (chkP (CRg x4 x2)).bind fun z2 => (forM' (ρ := Unit) (fun (a4 : Int) (s3 : Int × Int × MS) => (M_low_part y1 s3.1 x2).bind fun z5 => (M_multiplied kf s3.2.2 x1 x2 z5 (min x2 (x4 - a4))).bind fun z6 => (chkP (IntMulOk x2 y1)).bind fun z7 => (chkP (0 ≤ (x2 * y1))).bind fun z8 => (some (s3.1 / 2 ^ ((x2 * y1)).toNat)).bind fun y9 => (chkP (IntMulOk a4 y1)).bind fun z10 => (chkP (0 ≤ (a4 * y1))).bind fun z11 => (M_size_of z6.2.w z6.1).bind fun z12 => (M_joined_room z6.2 (s3.2.1 / 2 ^ ((a4 * y1)).toNat) ((x2 + x4) - a4) z6.1 z12 (1 : Int)).bind fun z13 => (M_low_part y1 s3.2.1 a4).bind fun z14 => (chkP (IntMulOk a4 y1)).bind fun z15 => (chkP (CShl z13.1 (a4 * y1))).bind fun z16 => (some (z14 + (z13.1 * 2 ^ ((a4 * y1)).toNat))).bind fun y17 => some (Stp.nx (y9, y17, z13.2))) (rngS x2 ((x4 + x2 - 1) / x2).toNat) (x3, (0 : Int), (x0.enter ("lopsided" : Str) x2 x4))).bind fun z18 => (nxt z18).bind fun s19 => some (s19.2.1, s19.2.2)) := by rw [M_lopsided_product]
theorem M_lopsided_product_zero (x0 : MS) (x1 : Int) (x2 : Int) (x3 : Int) (x4 : Int) : M_lopsided_product 0 x0 x1 x2 x3 x4 = none := by rw [M_lopsided_product]
theorem M_karatsuba_product_succ (kf : Nat) (x0 : MS) (x1 : Int) (x2 : Int) (x3 : Int) (x4 : Int) : M_karatsuba_product (kf + 1) x0 x1 x2 x3 x4 = ((chkP (CDivW x4 (2 : Int))).bind fun z1 => (some (x4 / (2 : Int))).bind fun y2 => (M_parts_of (x0.enter ("karatsuba" : Str) x2 x4) x1 y2).bind fun z3 => (M_parts_of (x0.enter ("karatsuba" : Str) x2 x4) x3 y2).bind fun z4 => (M_multiplied kf (x0.enter ("karatsuba" : Str) x2 x4) z3.c z3.d z4.c z4.d).bind fun z5 => (M_multiplied kf z5.2 z3.a z3.b z4.a z4.b).bind fun z6 => (M_room_above z6.2 ((x2 + x4) - y2) y2 z6.1 z5.1).bind fun z7 => (M_added z7.2 z3.c z3.d z3.a z3.b).bind fun z8 => (M_added z8.2 z4.c z4.d z4.a z4.b).bind fun z9 => (M_size_of z9.2.w z8.1).bind fun z10 => (M_size_of z9.2.w z9.1).bind fun z11 => (M_multiplied kf z9.2 z8.1 z10 z9.1 z11).bind fun z12 => (M_whole_room z12.2 ((x2 + x4) - y2) y2 z6.1 z7.1 z12.1).bind fun z13 => some (z13.1, z13.2)) := by rw [M_karatsuba_product]
theorem M_karatsuba_product_zero (x0 : MS) (x1 : Int) (x2 : Int) (x3 : Int) (x4 : Int) : M_karatsuba_product 0 x0 x1 x2 x3 x4 = none := by rw [M_karatsuba_product]
def Pre_multiplied (kf : Nat) (T : TC) : PreT := fun As Ω R => ∃ (k0 : Nat) (p0 : Addr) (x0 : MS) (x1 : Int) (x2 : Int) (x3 : Int) (x4 : Int) (r : Int × MS), As = [vr p0, va T x1, va T x2, va T x3, va T x4] ∧ Ω[k0]? = some (machA T p0 x0) ∧ M_multiplied kf x0 x1 x2 x3 x4 = some r ∧ R = RV (va T r.1) (stt Ω [(k0, machA T p0 r.2)] [])
def Pre_lopsided_product (kf : Nat) (T : TC) : PreT := fun As Ω R => ∃ (k0 : Nat) (p0 : Addr) (x0 : MS) (x1 : Int) (x2 : Int) (x3 : Int) (x4 : Int) (r : Int × MS), As = [vr p0, va T x1, va T x2, va T x3, va T x4] ∧ Ω[k0]? = some (machA T p0 x0) ∧ M_lopsided_product kf x0 x1 x2 x3 x4 = some r ∧ R = RV (va T r.1) (stt Ω [(k0, machA T p0 r.2)] [])
def Pre_karatsuba_product (kf : Nat) (T : TC) : PreT := fun As Ω R => ∃ (k0 : Nat) (p0 : Addr) (x0 : MS) (x1 : Int) (x2 : Int) (x3 : Int) (x4 : Int) (r : Int × MS), As = [vr p0, va T x1, va T x2, va T x3, va T x4] ∧ Ω[k0]? = some (machA T p0 x0) ∧ M_karatsuba_product kf x0 x1 x2 x3 x4 = some r ∧ R = RV (va T r.1) (stt Ω [(k0, machA T p0 r.2)] [])
theorem sc_multiplied : FnScope ["machine", "a", "m", "b", "n"] ["machine", "a", "m", "b", "n"] (defScope s_multiplied) := ⟨rfl, rfl, rfl, by decide +kernel, rfl, by decide +kernel, by decide +kernel⟩
theorem ok0_multiplied {f : Addr} {fd : FuncData} (F : Fun T.K "multiplied" "multiplied" s_multiplied f fd) : FnOk P w T.K mg base CX0 4 f fd ["machine", "a", "m", "b", "n"] (mkSp (Pre_multiplied 0 T)) := by
  refine fn_ok (k := 3) F sc_multiplied (fun As Ω R h => ?_) (fun cdv A outer s H E hr As Ω R F0 h => ?_)
  · obtain ⟨k0, p0, x0, x1, x2, x3, x4, r, rfl, _⟩ := h
    rfl
  obtain ⟨k0, p0, x0, x1, x2, x3, x4, r, rfl, hk0, hm, rfl⟩ := h
  rw [M_multiplied_zero] at hm
  cases hm
theorem ok_multiplied (kf : Nat) {f : Addr} {fd : FuncData} (F : Fun T.K "multiplied" "multiplied" s_multiplied f fd) (mc : MCls T.K (T.C 0)) (c_product_by_rows : Cal P w T.K mg base 2 "product_by_rows" ["machine", "a", "m", "b", "n"] (mkSp (Pre_product_by_rows T))) (c_lopsided_product : Cal P w T.K mg base (4 + kf) "lopsided_product" ["machine", "a", "m", "b", "n"] (mkSp (Pre_lopsided_product kf T))) (c_karatsuba_product : Cal P w T.K mg base (4 + kf) "karatsuba_product" ["machine", "a", "m", "b", "n"] (mkSp (Pre_karatsuba_product kf T))) : FnOk P w T.K mg base CX0 (4 + kf + 1) f fd ["machine", "a", "m", "b", "n"] (mkSp (Pre_multiplied (kf + 1) T)) := by
  refine fn_ok F sc_multiplied (fun As Ω R h => ?_) (fun cdv A outer s H E hr As Ω R F0 h => ?_)
  · obtain ⟨k0, p0, x0, x1, x2, x3, x4, r, rfl, _⟩ := h
    rfl
  obtain ⟨k0, p0, x0, x1, x2, x3, x4, r, rfl, hk0, hm, rfl⟩ := h
  refine ⟨_, (Evl.pss_cut (ps_if (pt_cmpR op_lt (pv 4) (pv 2) (nomark _)) (pss_one (ps_asg (pe_tup (pa_cons (pv 3) (pa_cons (pv 4) (pa_cons (pv 1) (pa_cons (pv 2) pa_nil))))) (pg_tupK (K := T.K) (n := 4) rfl rfl (pgs_cons (pg_name (i := 1) sc_multiplied.nd rfl (.inl rfl)) (pgs_cons (pg_name (i := 2) sc_multiplied.nd rfl (.inl rfl)) (pgs_cons (pg_name (i := 3) sc_multiplied.nd rfl (.inl rfl)) (pgs_cons (pg_name (i := 4) sc_multiplied.nd rfl (.inl rfl)) pgs_nil))))))) pss_nil) (pss_cons (ps_if (pt_cmpR (op_eqXK (K := T.K) (by exact hr.units) rfl) (pv 2) pe_int (nomark _)) (pss_one (ps_ret pe_int)) pss_nil) (pss_cons (ps_if (pt_cmpR op_le (pv 2) (pe_fldK (K := T.K) (pv 0) (by rfl) rfl) (nomark _)) (pss_one (ps_ret (pe_cal c_product_by_rows (hr.mono (by omega)) (by rfl) (pa_cons (pv 0) (pa_cons (pv 1) (pa_cons (pv 2) (pa_cons (pv 3) (pa_cons (pv 4) pa_nil)))))))) pss_nil) (pss_cons (ps_if (pt_cmpR op_le (pe_op op_mulQ pe_int (pv 2)) (pv 4) (nomark _)) (pss_one (ps_ret (pe_cal c_lopsided_product (hr.mono (by omega)) (by rfl) (pa_cons (pv 0) (pa_cons (pv 1) (pa_cons (pv 2) (pa_cons (pv 3) (pa_cons (pv 4) pa_nil)))))))) pss_nil) (pss_one (ps_ret (pe_cal c_karatsuba_product (hr.mono (by omega)) (by rfl) (pa_cons (pv 0) (pa_cons (pv 1) (pa_cons (pv 2) (pa_cons (pv 3) (pa_cons (pv 4) pa_nil)))))))))))), fun D hrt hnx => ?_⟩
  have ok := okk1 hk0
  suffices hx : XS _ D F0 [some (vr p0), some (va T x1), some (va T x2), some (va T x3), some (va T x4)] (stt Ω [(k0, machA T p0 x0)] []) by
    rw [show (stt Ω [(k0, machA T p0 x0)] []) = Ω from stt_self (by simp [hk0])] at hx
    exact hx
  rw [M_multiplied_succ] at hm
  obtain ⟨z4, hz4, hm⟩ := bnd_some hm
  refine xs_cut (Γ' := [some (vr p0), some (va T z4.1), some (va T z4.2.1), some (va T z4.2.2.1), some (va T z4.2.2.2)]) (Ω' := (stt Ω [(k0, machA T p0 x0)] [])) ?_ ?_
  · clear hm
    have hm := hz4
    clear hz4
    by_cases hc : (decide (x4 < x2)) = true
    · rw [if_pos hc] at hm
      refine xs_ifT1 (xt_eq (xt_test (T := T) (xe_lt (xe_var (i := 4) rfl) (xe_var (i := 2) rfl))) hc) ?_
      obtain ⟨y1, hy1, hm⟩ := bnd_some hm
      refine xs_asgG1 (xe_eq (xe_tup4 (xa_cons (xe_var (i := 3) rfl) (xa_cons (xe_var (i := 4) rfl) (xa_cons (xe_var (i := 1) rfl) (xa_cons (xe_var (i := 2) rfl) xa_nil))))) (Option.some.inj hy1)) tgt_quad ?_
      obtain rfl := Option.some.inj hm
      exact fun σ H n => n
    · rw [if_neg hc] at hm
      refine xs_ifF1 (xt_eq (xt_test (T := T) (xe_lt (xe_var (i := 4) rfl) (xe_var (i := 2) rfl))) (nt hc)) ?_
      obtain rfl := Option.some.inj hm
      exact fun σ H n => n
  · by_cases hc : (decide (z4.2.1 = (0 : Int))) = true
    · rw [if_pos hc] at hm
      refine xs_ifT (xt_eq (xt_test (T := T) (xe_eqI (xe_var (i := 2) rfl) xe_int)) hc) ?_
      obtain rfl := Option.some.inj hm
      refine xs_ret xe_int hrt.all
    · rw [if_neg hc] at hm
      refine xs_ifN (xt_eq (xt_test (T := T) (xe_eqI (xe_var (i := 2) rfl) xe_int)) (nt hc)) ?_
      show XS (tSeq _ _) _ _ [some (vr p0), some (va T z4.1), some (va T z4.2.1), some (va T z4.2.2.1), some (va T z4.2.2.2)] (stt Ω [(k0, machA T p0 x0)] [])
      by_cases hc : (decide (z4.2.1 ≤ x0.c)) = true
      · rw [if_pos hc] at hm
        refine xs_ifT (xt_eq (xt_test (T := T) (xe_le (xe_var (i := 2) rfl) (xe_mc mc.cl mc.nc (xe_var (i := 0) rfl) (stt_get ok (i := 0) rfl)))) hc) ?_
        obtain ⟨z5, hz5, hm⟩ := bnd_some hm
        obtain rfl := Option.some.inj hm
        refine xs_ret (xe_call (xa_cons (xe_var (i := 0) rfl) (xa_cons (xe_var (i := 1) rfl) (xa_cons (xe_var (i := 2) rfl) (xa_cons (xe_var (i := 3) rfl) (xa_cons (xe_var (i := 4) rfl) xa_nil))))) ⟨k0, p0, x0, z4.1, z4.2.1, z4.2.2.1, z4.2.2.2, z5, rfl, (stt_get ok (i := 0) rfl), hz5, rfl⟩ (cal1 ok (i := 0) rfl)) hrt.all
      · rw [if_neg hc] at hm
        refine xs_ifN (xt_eq (xt_test (T := T) (xe_le (xe_var (i := 2) rfl) (xe_mc mc.cl mc.nc (xe_var (i := 0) rfl) (stt_get ok (i := 0) rfl)))) (nt hc)) ?_
        show XS (tSeq _ _) _ _ [some (vr p0), some (va T z4.1), some (va T z4.2.1), some (va T z4.2.2.1), some (va T z4.2.2.2)] (stt Ω [(k0, machA T p0 x0)] [])
        obtain ⟨z6, hz6, hm⟩ := bnd_some hm
        by_cases hc : (decide (((2 : Int) * z4.2.1) ≤ z4.2.2.2)) = true
        · rw [if_pos hc] at hm
          refine xs_ifT (xt_eq (xt_test (T := T) (xe_le (xe_mul (chkP_some hz6) xe_int (xe_var (i := 2) rfl)) (xe_var (i := 4) rfl))) hc) ?_
          obtain ⟨z7, hz7, hm⟩ := bnd_some hm
          obtain rfl := Option.some.inj hm
          refine xs_ret (xe_call (xa_cons (xe_var (i := 0) rfl) (xa_cons (xe_var (i := 1) rfl) (xa_cons (xe_var (i := 2) rfl) (xa_cons (xe_var (i := 3) rfl) (xa_cons (xe_var (i := 4) rfl) xa_nil))))) ⟨k0, p0, x0, z4.1, z4.2.1, z4.2.2.1, z4.2.2.2, z7, rfl, (stt_get ok (i := 0) rfl), hz7, rfl⟩ (cal1 ok (i := 0) rfl)) hrt.all
        · rw [if_neg hc] at hm
          refine xs_ifN (xt_eq (xt_test (T := T) (xe_le (xe_mul (chkP_some hz6) xe_int (xe_var (i := 2) rfl)) (xe_var (i := 4) rfl))) (nt hc)) ?_
          show XS (tRet _) _ _ [some (vr p0), some (va T z4.1), some (va T z4.2.1), some (va T z4.2.2.1), some (va T z4.2.2.2)] (stt Ω [(k0, machA T p0 x0)] [])
          obtain ⟨z8, hz8, hm⟩ := bnd_some hm
          obtain rfl := Option.some.inj hm
          refine xs_ret (xe_call (xa_cons (xe_var (i := 0) rfl) (xa_cons (xe_var (i := 1) rfl) (xa_cons (xe_var (i := 2) rfl) (xa_cons (xe_var (i := 3) rfl) (xa_cons (xe_var (i := 4) rfl) xa_nil))))) ⟨k0, p0, x0, z4.1, z4.2.1, z4.2.2.1, z4.2.2.2, z8, rfl, (stt_get ok (i := 0) rfl), hz8, rfl⟩ (cal1 ok (i := 0) rfl)) hrt.all
theorem sc_lopsided_product : FnScope ["machine", "a", "m", "b", "n", "width", "room", "first", "part", "above"] ["machine", "a", "m", "b", "n"] (defScope s_lopsided_product) := ⟨rfl, rfl, rfl, by decide +kernel, rfl, by decide +kernel, by decide +kernel⟩
theorem ok0_lopsided_product {f : Addr} {fd : FuncData} (F : Fun T.K "lopsided_product" "lopsided_product" s_lopsided_product f fd) : FnOk P w T.K mg base CX0 4 f fd ["machine", "a", "m", "b", "n"] (mkSp (Pre_lopsided_product 0 T)) := by
  refine fn_ok (k := 3) F sc_lopsided_product (fun As Ω R h => ?_) (fun cdv A outer s H E hr As Ω R F0 h => ?_)
  · obtain ⟨k0, p0, x0, x1, x2, x3, x4, r, rfl, _⟩ := h
    rfl
  obtain ⟨k0, p0, x0, x1, x2, x3, x4, r, rfl, hk0, hm, rfl⟩ := h
  rw [M_lopsided_product_zero] at hm
  cases hm
theorem ok_lopsided_product (kf : Nat) {f : Addr} {fd : FuncData} (F : Fun T.K "lopsided_product" "lopsided_product" s_lopsided_product f fd) (mc : MCls T.K (T.C 0)) (c_Mach_enter : CalM P w T.K mg base 1 (T.C 0) "enter" ["self", "word", "m", "n"] (mkSp (Pre_Mach_enter T))) (z_range : mg "range" = none) (c_low_part : Cal P w T.K mg base 1 "low_part" ["width", "n", "size"] (mkSp (Pre_low_part T))) (z_min : mg "min" = none) (c_multiplied : Cal P w T.K mg base (4 + kf) "multiplied" ["machine", "a", "m", "b", "n"] (mkSp (Pre_multiplied kf T))) (c_size_of : Cal P w T.K mg base 2 "size_of" ["width", "n"] (mkSp (Pre_size_of T))) (c_joined_room : Cal P w T.K mg base 3 "joined_room" ["machine", "room", "r", "more", "p", "turn"] (mkSp (Pre_joined_room T))) : FnOk P w T.K mg base CX0 (4 + kf + 1) f fd ["machine", "a", "m", "b", "n"] (mkSp (Pre_lopsided_product (kf + 1) T)) := by
  refine fn_ok F sc_lopsided_product (fun As Ω R h => ?_) (fun cdv A outer s H E hr As Ω R F0 h => ?_)
  · obtain ⟨k0, p0, x0, x1, x2, x3, x4, r, rfl, _⟩ := h
    rfl
  obtain ⟨k0, p0, x0, x1, x2, x3, x4, r, rfl, hk0, hm, rfl⟩ := h
  refine ⟨_, (pss_cons (ps_expr (pe_calM (pv 0) c_Mach_enter (hr.mono (by omega)) (pa_cons pe_str (pa_cons (pv 2) (pa_cons (pv 4) pa_nil))))) (pss_cons (ps_set (i := 5) sc_lopsided_product.nd rfl (.inl rfl) (pe_fldK (K := T.K) (pv 0) (by rfl) rfl)) (pss_cons (ps_set (i := 6) sc_lopsided_product.nd rfl (.inl rfl) pe_int) (pss_cons (ps_for PassesOwn.never rfl (pi_range3 rfl z_range (pa_cons pe_int (pa_cons (pv 4) (pa_cons (pv 2) pa_nil)))) (pg_name (i := 7) sc_lopsided_product.nd rfl (.inl rfl)) (pss_cons (ps_set (i := 8) sc_lopsided_product.nd rfl (.inl rfl) (pe_cal c_multiplied (hr.mono (by omega)) (by rfl) (pa_cons (pv 0) (pa_cons (pv 1) (pa_cons (pv 2) (pa_cons (pe_cal c_low_part (hr.mono (by omega)) (by rfl) (pa_cons (pv 5) (pa_cons (pv 3) (pa_cons (pv 2) pa_nil)))) (pa_cons (pe_callB (cr_min2 rfl) (by rfl) z_min (by decide +kernel) (pa_cons (pv 2) (pa_cons (pe_op op_sub (pv 4) (pv 7)) pa_nil))) pa_nil))))))) (pss_cons (ps_aug (i := 3) sc_lopsided_product.nd rfl (.inl rfl) (pe_op op_mulQ (pv 2) (pv 5)) (ip_of iop_shr)) (pss_cons (ps_set (i := 9) sc_lopsided_product.nd rfl (.inl rfl) (pe_cal c_joined_room (hr.mono (by omega)) (by rfl) (pa_cons (pv 0) (pa_cons (pe_op op_shr (pv 6) (pe_op op_mulQ (pv 7) (pv 5))) (pa_cons (pe_op op_sub (pe_op op_addQ (pv 2) (pv 4)) (pv 7)) (pa_cons (pv 8) (pa_cons (pe_cal c_size_of (hr.mono (by omega)) (by rfl) (pa_cons (pe_fldK (K := T.K) (pv 0) (by rfl) rfl) (pa_cons (pv 8) pa_nil))) (pa_cons pe_int pa_nil)))))))) (pss_one (ps_set (i := 6) sc_lopsided_product.nd rfl (.inl rfl) (pe_op op_addQ (pe_cal c_low_part (hr.mono (by omega)) (by rfl) (pa_cons (pv 5) (pa_cons (pv 6) (pa_cons (pv 7) pa_nil)))) (pe_op op_shlW (pv 9) (pe_op op_mulQ (pv 7) (pv 5)))))))))) (pss_one (ps_ret (pv 6))))))), fun D hrt hnx => ?_⟩
  have ok := okk1 hk0
  suffices hx : XS _ D F0 [some (vr p0), some (va T x1), some (va T x2), some (va T x3), some (va T x4), none, none, none, none, none] (stt Ω [(k0, machA T p0 x0)] []) by
    rw [show (stt Ω [(k0, machA T p0 x0)] []) = Ω from stt_self (by simp [hk0])] at hx
    exact hx
  rw [M_lopsided_product_succ] at hm
  refine xs_drop (xe_mcall (xe_var (i := 0) rfl) (stt_get ok (i := 0) rfl) (xa_cons xe_str (xa_cons (xe_var (i := 2) rfl) (xa_cons (xe_var (i := 4) rfl) xa_nil))) ⟨k0, p0, x0, ("lopsided" : Str), x2, x4, rfl, (stt_get ok (i := 0) rfl), rfl⟩ (cal1 ok (i := 0) rfl)) ?_
  show XS (tSeq _ _) _ _ [some (vr p0), some (va T x1), some (va T x2), some (va T x3), some (va T x4), none, none, none, none, none] (stt Ω [(k0, machA T p0 (x0.enter ("lopsided" : Str) x2 x4))] [])
  obtain ⟨y1, hy1, hm⟩ := bnd_some hm
  refine xs_set (A := va T y1) (xe_eq (xe_mw mc.cl mc.nw (xe_var (i := 0) rfl) (stt_get ok (i := 0) rfl)) (Option.some.inj hy1)) ?_
  show XS (tSeq _ _) _ _ [some (vr p0), some (va T x1), some (va T x2), some (va T x3), some (va T x4), some (va T y1), none, none, none, none] (stt Ω [(k0, machA T p0 (x0.enter ("lopsided" : Str) x2 x4))] [])
  refine xs_set (A := va T (0 : Int)) xe_int ?_
  show XS (tSeq _ _) _ _ [some (vr p0), some (va T x1), some (va T x2), some (va T x3), some (va T x4), some (va T y1), some (va T (0 : Int)), none, none, none] (stt Ω [(k0, machA T p0 (x0.enter ("lopsided" : Str) x2 x4))] [])
  obtain ⟨z2, hz2, hm⟩ := bnd_some hm
  obtain ⟨z18, hz18, hm⟩ := bnd_some hm
  refine xs_forS (fun (s3 : Int × Int × MS) => [some (vr p0), some (va T x1), some (va T x2), some (va T s3.1), some (va T x4), some (va T y1), some (va T s3.2.1), none, none, none]) (fun (s3 : Int × Int × MS) => (stt Ω [(k0, machA T p0 s3.2.2)] [])) (fun (_ : Unit) _ _ _ => False) hz18 (xi_rangeS (T := T) (xa_cons xe_int (xa_cons (xe_var (i := 4) rfl) (xa_cons (xe_var (i := 2) rfl) xa_nil))) (chkP_some hz2)) (fun _ => tgt_name) (fun a4 s3 s' ha hm F1 D1 e1 hD => ?_) (fun s19 es => ?_) (fun r1 es => ?_)
  · show XS (tSeq _ _) _ _ [some (vr p0), some (va T x1), some (va T x2), some (va T s3.1), some (va T x4), some (va T y1), some (va T s3.2.1), some (va T a4), none, none] (stt Ω [(k0, machA T p0 s3.2.2)] [])
    obtain ⟨z5, hz5, hm⟩ := bnd_some hm
    obtain ⟨z6, hz6, hm⟩ := bnd_some hm
    refine xs_set (A := va T z6.1) (xe_call (xa_cons (xe_var (i := 0) rfl) (xa_cons (xe_var (i := 1) rfl) (xa_cons (xe_var (i := 2) rfl) (xa_cons (xe_call (xa_cons (xe_var (i := 5) rfl) (xa_cons (xe_var (i := 3) rfl) (xa_cons (xe_var (i := 2) rfl) xa_nil))) ⟨y1, s3.1, x2, z5, rfl, hz5, rfl⟩ cal0) (xa_cons (xe_min2 (xe_var (i := 2) rfl) (xe_sub (xe_var (i := 4) rfl) (xe_var (i := 7) rfl))) xa_nil))))) ⟨k0, p0, s3.2.2, x1, x2, z5, (min x2 (x4 - a4)), z6, rfl, (stt_get ok (i := 0) rfl), hz6, rfl⟩ (cal1 ok (i := 0) rfl)) ?_
    show XS (tSeq _ _) _ _ [some (vr p0), some (va T x1), some (va T x2), some (va T s3.1), some (va T x4), some (va T y1), some (va T s3.2.1), some (va T a4), some (va T z6.1), none] (stt Ω [(k0, machA T p0 z6.2)] [])
    obtain ⟨z7, hz7, hm⟩ := bnd_some hm
    obtain ⟨z8, hz8, hm⟩ := bnd_some hm
    obtain ⟨y9, hy9, hm⟩ := bnd_some hm
    refine xs_augD (T := T) rfl (chkP_some hz8) (xe_mul (chkP_some hz7) (xe_var (i := 2) rfl) (xe_var (i := 5) rfl)) (Option.some.inj hy9) ?_
    show XS (tSeq _ _) _ _ [some (vr p0), some (va T x1), some (va T x2), some (va T y9), some (va T x4), some (va T y1), some (va T s3.2.1), some (va T a4), some (va T z6.1), none] (stt Ω [(k0, machA T p0 z6.2)] [])
    obtain ⟨z10, hz10, hm⟩ := bnd_some hm
    obtain ⟨z11, hz11, hm⟩ := bnd_some hm
    obtain ⟨z12, hz12, hm⟩ := bnd_some hm
    obtain ⟨z13, hz13, hm⟩ := bnd_some hm
    refine xs_set (A := va T z13.1) (xe_call (xa_cons (xe_var (i := 0) rfl) (xa_cons (xe_shr (chkP_some hz11) (xe_var (i := 6) rfl) (xe_mul (chkP_some hz10) (xe_var (i := 7) rfl) (xe_var (i := 5) rfl))) (xa_cons (xe_sub (xe_add (xe_var (i := 2) rfl) (xe_var (i := 4) rfl)) (xe_var (i := 7) rfl)) (xa_cons (xe_var (i := 8) rfl) (xa_cons (xe_call (xa_cons (xe_mw mc.cl mc.nw (xe_var (i := 0) rfl) (stt_get ok (i := 0) rfl)) (xa_cons (xe_var (i := 8) rfl) xa_nil)) ⟨z6.2.w, z6.1, z12, rfl, hz12, rfl⟩ cal0) (xa_cons xe_int xa_nil)))))) ⟨k0, p0, z6.2, (s3.2.1 / 2 ^ ((a4 * y1)).toNat), ((x2 + x4) - a4), z6.1, z12, (1 : Int), z13, rfl, (stt_get ok (i := 0) rfl), hz13, rfl⟩ (cal1 ok (i := 0) rfl)) ?_
    show XS (tAsg _ _) _ _ [some (vr p0), some (va T x1), some (va T x2), some (va T y9), some (va T x4), some (va T y1), some (va T s3.2.1), some (va T a4), some (va T z6.1), some (va T z13.1)] (stt Ω [(k0, machA T p0 z13.2)] [])
    obtain ⟨z14, hz14, hm⟩ := bnd_some hm
    obtain ⟨z15, hz15, hm⟩ := bnd_some hm
    obtain ⟨z16, hz16, hm⟩ := bnd_some hm
    obtain ⟨y17, hy17, hm⟩ := bnd_some hm
    refine xs_set1 (A := va T y17) (xe_eq (xe_add (xe_call (xa_cons (xe_var (i := 5) rfl) (xa_cons (xe_var (i := 6) rfl) (xa_cons (xe_var (i := 7) rfl) xa_nil))) ⟨y1, s3.2.1, a4, z14, rfl, hz14, rfl⟩ cal0) (xe_shl (chkP_some hz16) (xe_var (i := 9) rfl) (xe_mul (chkP_some hz15) (xe_var (i := 7) rfl) (xe_var (i := 5) rfl)))) (Option.some.inj hy17)) ?_
    obtain rfl := Option.some.inj hm
    exact fun σ H n => hD.nx _ rfl σ H (((n.forget 8).forget 9).forget 7)
  · subst es
    obtain ⟨s2, hs2, hm⟩ := bnd_some hm
    cases hs2
    show XS (tRet _) _ _ [some (vr p0), some (va T x1), some (va T x2), some (va T s19.1), some (va T x4), some (va T y1), some (va T s19.2.1), none, none, none] (stt Ω [(k0, machA T p0 s19.2.2)] [])
    obtain rfl := Option.some.inj hm
    refine xs_ret (xe_var (i := 6) rfl) hrt.all
  · subst es
    cases hm
theorem sc_karatsuba_product : FnScope ["machine", "a", "m", "b", "n", "cut", "a_low", "low_m", "a_high", "high_m", "b_low", "low_n", "b_high", "high_n", "high", "low", "above", "a_sum", "b_sum", "middle"] ["machine", "a", "m", "b", "n"] (defScope s_karatsuba_product) := ⟨rfl, rfl, rfl, by decide +kernel, rfl, by decide +kernel, by decide +kernel⟩
theorem ok0_karatsuba_product {f : Addr} {fd : FuncData} (F : Fun T.K "karatsuba_product" "karatsuba_product" s_karatsuba_product f fd) : FnOk P w T.K mg base CX0 4 f fd ["machine", "a", "m", "b", "n"] (mkSp (Pre_karatsuba_product 0 T)) := by
  refine fn_ok (k := 3) F sc_karatsuba_product (fun As Ω R h => ?_) (fun cdv A outer s H E hr As Ω R F0 h => ?_)
  · obtain ⟨k0, p0, x0, x1, x2, x3, x4, r, rfl, _⟩ := h
    rfl
  obtain ⟨k0, p0, x0, x1, x2, x3, x4, r, rfl, hk0, hm, rfl⟩ := h
  rw [M_karatsuba_product_zero] at hm
  cases hm
theorem ok_karatsuba_product (kf : Nat) {f : Addr} {fd : FuncData} (F : Fun T.K "karatsuba_product" "karatsuba_product" s_karatsuba_product f fd) (mc : MCls T.K (T.C 0)) (c_Mach_enter : CalM P w T.K mg base 1 (T.C 0) "enter" ["self", "word", "m", "n"] (mkSp (Pre_Mach_enter T))) (c_parts_of : Cal P w T.K mg base 3 "parts_of" ["machine", "a", "cut"] (mkSp (Pre_parts_of T))) (c_multiplied : Cal P w T.K mg base (4 + kf) "multiplied" ["machine", "a", "m", "b", "n"] (mkSp (Pre_multiplied kf T))) (c_room_above : Cal P w T.K mg base 4 "room_above" ["machine", "size", "cut", "low", "high"] (mkSp (Pre_room_above T))) (c_added : Cal P w T.K mg base 2 "added" ["machine", "a", "m", "b", "n"] (mkSp (Pre_added T))) (c_size_of : Cal P w T.K mg base 2 "size_of" ["width", "n"] (mkSp (Pre_size_of T))) (c_whole_room : Cal P w T.K mg base 4 "whole_room" ["machine", "size", "cut", "low", "above", "middle"] (mkSp (Pre_whole_room T))) : FnOk P w T.K mg base CX0 (4 + kf + 1) f fd ["machine", "a", "m", "b", "n"] (mkSp (Pre_karatsuba_product (kf + 1) T)) := by
  refine fn_ok F sc_karatsuba_product (fun As Ω R h => ?_) (fun cdv A outer s H E hr As Ω R F0 h => ?_)
  · obtain ⟨k0, p0, x0, x1, x2, x3, x4, r, rfl, _⟩ := h
    rfl
  obtain ⟨k0, p0, x0, x1, x2, x3, x4, r, rfl, hk0, hm, rfl⟩ := h
  refine ⟨_, (pss_cons (ps_expr (pe_calM (pv 0) c_Mach_enter (hr.mono (by omega)) (pa_cons pe_str (pa_cons (pv 2) (pa_cons (pv 4) pa_nil))))) (pss_cons (ps_set (i := 5) sc_karatsuba_product.nd rfl (.inl rfl) (pe_op op_fdivW (pv 4) pe_int)) (pss_cons (ps_asg (pe_cal c_parts_of (hr.mono (by omega)) (by rfl) (pa_cons (pv 0) (pa_cons (pv 1) (pa_cons (pv 5) pa_nil)))) (pg_tupK (K := T.K) (n := 4) rfl rfl (pgs_cons (pg_name (i := 6) sc_karatsuba_product.nd rfl (.inl rfl)) (pgs_cons (pg_name (i := 7) sc_karatsuba_product.nd rfl (.inl rfl)) (pgs_cons (pg_name (i := 8) sc_karatsuba_product.nd rfl (.inl rfl)) (pgs_cons (pg_name (i := 9) sc_karatsuba_product.nd rfl (.inl rfl)) pgs_nil)))))) (pss_cons (ps_asg (pe_cal c_parts_of (hr.mono (by omega)) (by rfl) (pa_cons (pv 0) (pa_cons (pv 3) (pa_cons (pv 5) pa_nil)))) (pg_tupK (K := T.K) (n := 4) rfl rfl (pgs_cons (pg_name (i := 10) sc_karatsuba_product.nd rfl (.inl rfl)) (pgs_cons (pg_name (i := 11) sc_karatsuba_product.nd rfl (.inl rfl)) (pgs_cons (pg_name (i := 12) sc_karatsuba_product.nd rfl (.inl rfl)) (pgs_cons (pg_name (i := 13) sc_karatsuba_product.nd rfl (.inl rfl)) pgs_nil)))))) (pss_cons (ps_set (i := 14) sc_karatsuba_product.nd rfl (.inl rfl) (pe_cal c_multiplied (hr.mono (by omega)) (by rfl) (pa_cons (pv 0) (pa_cons (pv 8) (pa_cons (pv 9) (pa_cons (pv 12) (pa_cons (pv 13) pa_nil))))))) (pss_cons (ps_set (i := 15) sc_karatsuba_product.nd rfl (.inl rfl) (pe_cal c_multiplied (hr.mono (by omega)) (by rfl) (pa_cons (pv 0) (pa_cons (pv 6) (pa_cons (pv 7) (pa_cons (pv 10) (pa_cons (pv 11) pa_nil))))))) (pss_cons (ps_set (i := 16) sc_karatsuba_product.nd rfl (.inl rfl) (pe_cal c_room_above (hr.mono (by omega)) (by rfl) (pa_cons (pv 0) (pa_cons (pe_op op_sub (pe_op op_addQ (pv 2) (pv 4)) (pv 5)) (pa_cons (pv 5) (pa_cons (pv 15) (pa_cons (pv 14) pa_nil))))))) (pss_cons (ps_set (i := 17) sc_karatsuba_product.nd rfl (.inl rfl) (pe_cal c_added (hr.mono (by omega)) (by rfl) (pa_cons (pv 0) (pa_cons (pv 8) (pa_cons (pv 9) (pa_cons (pv 6) (pa_cons (pv 7) pa_nil))))))) (pss_cons (ps_set (i := 18) sc_karatsuba_product.nd rfl (.inl rfl) (pe_cal c_added (hr.mono (by omega)) (by rfl) (pa_cons (pv 0) (pa_cons (pv 12) (pa_cons (pv 13) (pa_cons (pv 10) (pa_cons (pv 11) pa_nil))))))) (pss_cons (ps_set (i := 19) sc_karatsuba_product.nd rfl (.inl rfl) (pe_cal c_multiplied (hr.mono (by omega)) (by rfl) (pa_cons (pv 0) (pa_cons (pv 17) (pa_cons (pe_cal c_size_of (hr.mono (by omega)) (by rfl) (pa_cons (pe_fldK (K := T.K) (pv 0) (by rfl) rfl) (pa_cons (pv 17) pa_nil))) (pa_cons (pv 18) (pa_cons (pe_cal c_size_of (hr.mono (by omega)) (by rfl) (pa_cons (pe_fldK (K := T.K) (pv 0) (by rfl) rfl) (pa_cons (pv 18) pa_nil))) pa_nil))))))) (pss_one (ps_ret (pe_cal c_whole_room (hr.mono (by omega)) (by rfl) (pa_cons (pv 0) (pa_cons (pe_op op_sub (pe_op op_addQ (pv 2) (pv 4)) (pv 5)) (pa_cons (pv 5) (pa_cons (pv 15) (pa_cons (pv 16) (pa_cons (pv 19) pa_nil))))))))))))))))))), fun D hrt hnx => ?_⟩
  have ok := okk1 hk0
  suffices hx : XS _ D F0 [some (vr p0), some (va T x1), some (va T x2), some (va T x3), some (va T x4), none, none, none, none, none, none, none, none, none, none, none, none, none, none, none] (stt Ω [(k0, machA T p0 x0)] []) by
    rw [show (stt Ω [(k0, machA T p0 x0)] []) = Ω from stt_self (by simp [hk0])] at hx
    exact hx
  rw [M_karatsuba_product_succ] at hm
  refine xs_drop (xe_mcall (xe_var (i := 0) rfl) (stt_get ok (i := 0) rfl) (xa_cons xe_str (xa_cons (xe_var (i := 2) rfl) (xa_cons (xe_var (i := 4) rfl) xa_nil))) ⟨k0, p0, x0, ("karatsuba" : Str), x2, x4, rfl, (stt_get ok (i := 0) rfl), rfl⟩ (cal1 ok (i := 0) rfl)) ?_
  show XS (tSeq _ _) _ _ [some (vr p0), some (va T x1), some (va T x2), some (va T x3), some (va T x4), none, none, none, none, none, none, none, none, none, none, none, none, none, none, none] (stt Ω [(k0, machA T p0 (x0.enter ("karatsuba" : Str) x2 x4))] [])
  obtain ⟨z1, hz1, hm⟩ := bnd_some hm
  obtain ⟨y2, hy2, hm⟩ := bnd_some hm
  refine xs_set (A := va T y2) (xe_eq (xe_fdiv (chkP_some hz1) (xe_var (i := 4) rfl) xe_int) (Option.some.inj hy2)) ?_
  show XS (tSeq _ _) _ _ [some (vr p0), some (va T x1), some (va T x2), some (va T x3), some (va T x4), some (va T y2), none, none, none, none, none, none, none, none, none, none, none, none, none, none] (stt Ω [(k0, machA T p0 (x0.enter ("karatsuba" : Str) x2 x4))] [])
  obtain ⟨z3, hz3, hm⟩ := bnd_some hm
  refine xs_asgG (xe_call (xa_cons (xe_var (i := 0) rfl) (xa_cons (xe_var (i := 1) rfl) (xa_cons (xe_var (i := 5) rfl) xa_nil))) ⟨k0, p0, (x0.enter ("karatsuba" : Str) x2 x4), x1, y2, z3, rfl, (stt_get ok (i := 0) rfl), hz3, rfl⟩ cal0) tgt_quad ?_
  show XS (tSeq _ _) _ _ [some (vr p0), some (va T x1), some (va T x2), some (va T x3), some (va T x4), some (va T y2), some (va T z3.a), some (va T z3.b), some (va T z3.c), some (va T z3.d), none, none, none, none, none, none, none, none, none, none] (stt Ω [(k0, machA T p0 (x0.enter ("karatsuba" : Str) x2 x4))] [])
  obtain ⟨z4, hz4, hm⟩ := bnd_some hm
  refine xs_asgG (xe_call (xa_cons (xe_var (i := 0) rfl) (xa_cons (xe_var (i := 3) rfl) (xa_cons (xe_var (i := 5) rfl) xa_nil))) ⟨k0, p0, (x0.enter ("karatsuba" : Str) x2 x4), x3, y2, z4, rfl, (stt_get ok (i := 0) rfl), hz4, rfl⟩ cal0) tgt_quad ?_
  show XS (tSeq _ _) _ _ [some (vr p0), some (va T x1), some (va T x2), some (va T x3), some (va T x4), some (va T y2), some (va T z3.a), some (va T z3.b), some (va T z3.c), some (va T z3.d), some (va T z4.a), some (va T z4.b), some (va T z4.c), some (va T z4.d), none, none, none, none, none, none] (stt Ω [(k0, machA T p0 (x0.enter ("karatsuba" : Str) x2 x4))] [])
  obtain ⟨z5, hz5, hm⟩ := bnd_some hm
  refine xs_set (A := va T z5.1) (xe_call (xa_cons (xe_var (i := 0) rfl) (xa_cons (xe_var (i := 8) rfl) (xa_cons (xe_var (i := 9) rfl) (xa_cons (xe_var (i := 12) rfl) (xa_cons (xe_var (i := 13) rfl) xa_nil))))) ⟨k0, p0, (x0.enter ("karatsuba" : Str) x2 x4), z3.c, z3.d, z4.c, z4.d, z5, rfl, (stt_get ok (i := 0) rfl), hz5, rfl⟩ (cal1 ok (i := 0) rfl)) ?_
  show XS (tSeq _ _) _ _ [some (vr p0), some (va T x1), some (va T x2), some (va T x3), some (va T x4), some (va T y2), some (va T z3.a), some (va T z3.b), some (va T z3.c), some (va T z3.d), some (va T z4.a), some (va T z4.b), some (va T z4.c), some (va T z4.d), some (va T z5.1), none, none, none, none, none] (stt Ω [(k0, machA T p0 z5.2)] [])
  obtain ⟨z6, hz6, hm⟩ := bnd_some hm
  refine xs_set (A := va T z6.1) (xe_call (xa_cons (xe_var (i := 0) rfl) (xa_cons (xe_var (i := 6) rfl) (xa_cons (xe_var (i := 7) rfl) (xa_cons (xe_var (i := 10) rfl) (xa_cons (xe_var (i := 11) rfl) xa_nil))))) ⟨k0, p0, z5.2, z3.a, z3.b, z4.a, z4.b, z6, rfl, (stt_get ok (i := 0) rfl), hz6, rfl⟩ (cal1 ok (i := 0) rfl)) ?_
  show XS (tSeq _ _) _ _ [some (vr p0), some (va T x1), some (va T x2), some (va T x3), some (va T x4), some (va T y2), some (va T z3.a), some (va T z3.b), some (va T z3.c), some (va T z3.d), some (va T z4.a), some (va T z4.b), some (va T z4.c), some (va T z4.d), some (va T z5.1), some (va T z6.1), none, none, none, none] (stt Ω [(k0, machA T p0 z6.2)] [])
  obtain ⟨z7, hz7, hm⟩ := bnd_some hm
  refine xs_set (A := va T z7.1) (xe_call (xa_cons (xe_var (i := 0) rfl) (xa_cons (xe_sub (xe_add (xe_var (i := 2) rfl) (xe_var (i := 4) rfl)) (xe_var (i := 5) rfl)) (xa_cons (xe_var (i := 5) rfl) (xa_cons (xe_var (i := 15) rfl) (xa_cons (xe_var (i := 14) rfl) xa_nil))))) ⟨k0, p0, z6.2, ((x2 + x4) - y2), y2, z6.1, z5.1, z7, rfl, (stt_get ok (i := 0) rfl), hz7, rfl⟩ (cal1 ok (i := 0) rfl)) ?_
  show XS (tSeq _ _) _ _ [some (vr p0), some (va T x1), some (va T x2), some (va T x3), some (va T x4), some (va T y2), some (va T z3.a), some (va T z3.b), some (va T z3.c), some (va T z3.d), some (va T z4.a), some (va T z4.b), some (va T z4.c), some (va T z4.d), some (va T z5.1), some (va T z6.1), some (va T z7.1), none, none, none] (stt Ω [(k0, machA T p0 z7.2)] [])
  obtain ⟨z8, hz8, hm⟩ := bnd_some hm
  refine xs_set (A := va T z8.1) (xe_call (xa_cons (xe_var (i := 0) rfl) (xa_cons (xe_var (i := 8) rfl) (xa_cons (xe_var (i := 9) rfl) (xa_cons (xe_var (i := 6) rfl) (xa_cons (xe_var (i := 7) rfl) xa_nil))))) ⟨k0, p0, z7.2, z3.c, z3.d, z3.a, z3.b, z8, rfl, (stt_get ok (i := 0) rfl), hz8, rfl⟩ (cal1 ok (i := 0) rfl)) ?_
  show XS (tSeq _ _) _ _ [some (vr p0), some (va T x1), some (va T x2), some (va T x3), some (va T x4), some (va T y2), some (va T z3.a), some (va T z3.b), some (va T z3.c), some (va T z3.d), some (va T z4.a), some (va T z4.b), some (va T z4.c), some (va T z4.d), some (va T z5.1), some (va T z6.1), some (va T z7.1), some (va T z8.1), none, none] (stt Ω [(k0, machA T p0 z8.2)] [])
  obtain ⟨z9, hz9, hm⟩ := bnd_some hm
  refine xs_set (A := va T z9.1) (xe_call (xa_cons (xe_var (i := 0) rfl) (xa_cons (xe_var (i := 12) rfl) (xa_cons (xe_var (i := 13) rfl) (xa_cons (xe_var (i := 10) rfl) (xa_cons (xe_var (i := 11) rfl) xa_nil))))) ⟨k0, p0, z8.2, z4.c, z4.d, z4.a, z4.b, z9, rfl, (stt_get ok (i := 0) rfl), hz9, rfl⟩ (cal1 ok (i := 0) rfl)) ?_
  show XS (tSeq _ _) _ _ [some (vr p0), some (va T x1), some (va T x2), some (va T x3), some (va T x4), some (va T y2), some (va T z3.a), some (va T z3.b), some (va T z3.c), some (va T z3.d), some (va T z4.a), some (va T z4.b), some (va T z4.c), some (va T z4.d), some (va T z5.1), some (va T z6.1), some (va T z7.1), some (va T z8.1), some (va T z9.1), none] (stt Ω [(k0, machA T p0 z9.2)] [])
  obtain ⟨z10, hz10, hm⟩ := bnd_some hm
  obtain ⟨z11, hz11, hm⟩ := bnd_some hm
  obtain ⟨z12, hz12, hm⟩ := bnd_some hm
  refine xs_set (A := va T z12.1) (xe_call (xa_cons (xe_var (i := 0) rfl) (xa_cons (xe_var (i := 17) rfl) (xa_cons (xe_call (xa_cons (xe_mw mc.cl mc.nw (xe_var (i := 0) rfl) (stt_get ok (i := 0) rfl)) (xa_cons (xe_var (i := 17) rfl) xa_nil)) ⟨z9.2.w, z8.1, z10, rfl, hz10, rfl⟩ cal0) (xa_cons (xe_var (i := 18) rfl) (xa_cons (xe_call (xa_cons (xe_mw mc.cl mc.nw (xe_var (i := 0) rfl) (stt_get ok (i := 0) rfl)) (xa_cons (xe_var (i := 18) rfl) xa_nil)) ⟨z9.2.w, z9.1, z11, rfl, hz11, rfl⟩ cal0) xa_nil))))) ⟨k0, p0, z9.2, z8.1, z10, z9.1, z11, z12, rfl, (stt_get ok (i := 0) rfl), hz12, rfl⟩ (cal1 ok (i := 0) rfl)) ?_
  show XS (tRet _) _ _ [some (vr p0), some (va T x1), some (va T x2), some (va T x3), some (va T x4), some (va T y2), some (va T z3.a), some (va T z3.b), some (va T z3.c), some (va T z3.d), some (va T z4.a), some (va T z4.b), some (va T z4.c), some (va T z4.d), some (va T z5.1), some (va T z6.1), some (va T z7.1), some (va T z8.1), some (va T z9.1), some (va T z12.1)] (stt Ω [(k0, machA T p0 z12.2)] [])
  obtain ⟨z13, hz13, hm⟩ := bnd_some hm
  obtain rfl := Option.some.inj hm
  refine xs_ret (xe_call (xa_cons (xe_var (i := 0) rfl) (xa_cons (xe_sub (xe_add (xe_var (i := 2) rfl) (xe_var (i := 4) rfl)) (xe_var (i := 5) rfl)) (xa_cons (xe_var (i := 5) rfl) (xa_cons (xe_var (i := 15) rfl) (xa_cons (xe_var (i := 16) rfl) (xa_cons (xe_var (i := 19) rfl) xa_nil)))))) ⟨k0, p0, z12.2, ((x2 + x4) - y2), y2, z6.1, z7.1, z12.1, z13, rfl, (stt_get ok (i := 0) rfl), hz13, rfl⟩ (cal1 ok (i := 0) rfl)) hrt.all
noncomputable def M_product_of (x0 : MS) (x1 : Int) (x2 : Int) : Option (Int × MS) :=
  (M_are_compact x0 x1 x2).bind fun z1 => if z1 = true then (chkP (("short" : Str) ∈ mwords)).bind fun z2 => (chkP (IntMulOk x1 x2)).bind fun z3 => some ((x1 * x2), (x0.step ("short" : Str) (1 : Int))) else (M_size_of x0.w x1).bind fun z4 => (M_size_of x0.w x2).bind fun z5 => (M_multiplied 40 x0 ((x1.natAbs : Nat) : Int) z4 ((x2.natAbs : Nat) : Int) z5).bind fun z6 => some ((if (decide ((decide (x1 < (0 : Int))) = (decide (x2 < (0 : Int))))) = true then z6.1 else (-z6.1)), z6.2)
def Pre_product_of (T : TC) : PreT := fun As Ω R => ∃ (k0 : Nat) (p0 : Addr) (x0 : MS) (x1 : Int) (x2 : Int) (r : Int × MS), As = [vr p0, va T x1, va T x2] ∧ Ω[k0]? = some (machA T p0 x0) ∧ M_product_of x0 x1 x2 = some r ∧ R = RV (va T r.1) (stt Ω [(k0, machA T p0 r.2)] [])
theorem sc_product_of : FnScope ["machine", "x", "y", "number"] ["machine", "x", "y"] (defScope s_product_of) := ⟨rfl, rfl, rfl, by decide +kernel, rfl, by decide +kernel, by decide +kernel⟩
theorem ok_product_of {f : Addr} {fd : FuncData} (F : Fun T.K "product_of" "product_of" s_product_of f fd) (c_are_compact : Cal P w T.K mg base 2 "are_compact" ["machine", "x", "y"] (mkSp (Pre_are_compact T))) (mc : MCls T.K (T.C 0)) (c_Mach_step : CalM P w T.K mg base 1 (T.C 0) "step" ["self", "word", "many"] (mkSp (Pre_Mach_step T))) (z_abs : mg "abs" = none) (c_size_of : Cal P w T.K mg base 2 "size_of" ["width", "n"] (mkSp (Pre_size_of T))) (c_multiplied : Cal P w T.K mg base 44 "multiplied" ["machine", "a", "m", "b", "n"] (mkSp (Pre_multiplied 40 T))) : FnOk P w T.K mg base CX0 45 f fd ["machine", "x", "y"] (mkSp (Pre_product_of T)) := by
  refine fn_ok F sc_product_of (fun As Ω R h => ?_) (fun cdv A outer s H E hr As Ω R F0 h => ?_)
  · obtain ⟨k0, p0, x0, x1, x2, r, rfl, _⟩ := h
    rfl
  obtain ⟨k0, p0, x0, x1, x2, r, rfl, hk0, hm, rfl⟩ := h
  refine ⟨_, (pss_cons (ps_if (pt_val (pe_cal c_are_compact (hr.mono (by decide)) (by rfl) (pa_cons (pv 0) (pa_cons (pv 1) (pa_cons (pv 2) pa_nil))))) (pss_cons (ps_expr (pe_calM (pv 0) c_Mach_step (hr.mono (by decide)) (pa_cons pe_str (pa_cons pe_int pa_nil)))) (pss_one (ps_ret (pe_op op_mulQ (pv 1) (pv 2))))) pss_nil) (pss_cons (ps_set (i := 3) sc_product_of.nd rfl (.inl rfl) (pe_cal c_multiplied (hr.mono (by decide)) (by rfl) (pa_cons (pv 0) (pa_cons (pe_callB cr_abs (by rfl) z_abs (by decide +kernel) (pa_cons (pv 1) pa_nil)) (pa_cons (pe_cal c_size_of (hr.mono (by decide)) (by rfl) (pa_cons (pe_fldK (K := T.K) (pv 0) (by rfl) rfl) (pa_cons (pv 1) pa_nil))) (pa_cons (pe_callB cr_abs (by rfl) z_abs (by decide +kernel) (pa_cons (pv 2) pa_nil)) (pa_cons (pe_cal c_size_of (hr.mono (by decide)) (by rfl) (pa_cons (pe_fldK (K := T.K) (pv 0) (by rfl) rfl) (pa_cons (pv 2) pa_nil))) pa_nil))))))) (pss_one (ps_ret (pe_ifExp (pt_cmpR (op_eqXK (K := T.K) (by exact hr.units) rfl) (pe_cmpR op_lt (pv 1) pe_int (nomark _)) (pe_cmpR op_lt (pv 2) pe_int (nomark _)) (nomark _)) (pv 3) (pe_un un_neg (pv 3))))))), fun D hrt hnx => ?_⟩
  have ok := okk1 hk0
  suffices hx : XS _ D F0 [some (vr p0), some (va T x1), some (va T x2), none] (stt Ω [(k0, machA T p0 x0)] []) by
    rw [show (stt Ω [(k0, machA T p0 x0)] []) = Ω from stt_self (by simp [hk0])] at hx
    exact hx
  unfold M_product_of at hm
  obtain ⟨z1, hz1, hm⟩ := bnd_some hm
  by_cases hc : z1 = true
  · rw [if_pos hc] at hm
    refine xs_ifT (xt_eq (xt_tB (T := T) (xe_call (xa_cons (xe_var (i := 0) rfl) (xa_cons (xe_var (i := 1) rfl) (xa_cons (xe_var (i := 2) rfl) xa_nil))) ⟨k0, p0, x0, x1, x2, z1, rfl, (stt_get ok (i := 0) rfl), hz1, rfl⟩ cal0)) hc) ?_
    obtain ⟨z2, hz2, hm⟩ := bnd_some hm
    refine xs_drop (xe_mcall (xe_var (i := 0) rfl) (stt_get ok (i := 0) rfl) (xa_cons xe_str (xa_cons xe_int xa_nil)) ⟨k0, p0, x0, ("short" : Str), (1 : Int), rfl, (stt_get ok (i := 0) rfl), chkP_some hz2, rfl⟩ (cal1 ok (i := 0) rfl)) ?_
    show XS (tRet _) _ _ [some (vr p0), some (va T x1), some (va T x2), none] (stt Ω [(k0, machA T p0 (x0.step ("short" : Str) (1 : Int)))] [])
    obtain ⟨z3, hz3, hm⟩ := bnd_some hm
    obtain rfl := Option.some.inj hm
    refine xs_ret (xe_mul (chkP_some hz3) (xe_var (i := 1) rfl) (xe_var (i := 2) rfl)) hrt.all
  · rw [if_neg hc] at hm
    refine xs_ifN (xt_eq (xt_tB (T := T) (xe_call (xa_cons (xe_var (i := 0) rfl) (xa_cons (xe_var (i := 1) rfl) (xa_cons (xe_var (i := 2) rfl) xa_nil))) ⟨k0, p0, x0, x1, x2, z1, rfl, (stt_get ok (i := 0) rfl), hz1, rfl⟩ cal0)) (nt hc)) ?_
    show XS (tSeq _ _) _ _ [some (vr p0), some (va T x1), some (va T x2), none] (stt Ω [(k0, machA T p0 x0)] [])
    obtain ⟨z4, hz4, hm⟩ := bnd_some hm
    obtain ⟨z5, hz5, hm⟩ := bnd_some hm
    obtain ⟨z6, hz6, hm⟩ := bnd_some hm
    refine xs_set (A := va T z6.1) (xe_call (xa_cons (xe_var (i := 0) rfl) (xa_cons (xe_abs (xe_var (i := 1) rfl)) (xa_cons (xe_call (xa_cons (xe_mw mc.cl mc.nw (xe_var (i := 0) rfl) (stt_get ok (i := 0) rfl)) (xa_cons (xe_var (i := 1) rfl) xa_nil)) ⟨x0.w, x1, z4, rfl, hz4, rfl⟩ cal0) (xa_cons (xe_abs (xe_var (i := 2) rfl)) (xa_cons (xe_call (xa_cons (xe_mw mc.cl mc.nw (xe_var (i := 0) rfl) (stt_get ok (i := 0) rfl)) (xa_cons (xe_var (i := 2) rfl) xa_nil)) ⟨x0.w, x2, z5, rfl, hz5, rfl⟩ cal0) xa_nil))))) ⟨k0, p0, x0, ((x1.natAbs : Nat) : Int), z4, ((x2.natAbs : Nat) : Int), z5, z6, rfl, (stt_get ok (i := 0) rfl), hz6, rfl⟩ (cal1 ok (i := 0) rfl)) ?_
    show XS (tRet _) _ _ [some (vr p0), some (va T x1), some (va T x2), some (va T z6.1)] (stt Ω [(k0, machA T p0 z6.2)] [])
    obtain rfl := Option.some.inj hm
    refine xs_ret (xe_ite (xt_test (T := T) (xe_eqB (xe_lt (xe_var (i := 1) rfl) xe_int) (xe_lt (xe_var (i := 2) rfl) xe_int))) (xe_var (i := 3) rfl) (xe_neg (xe_var (i := 3) rfl))) hrt.all
noncomputable def M_multiply (x0 : MS) (x1 : Bg) (x2 : Bg) : Option (Bg × MS) :=
  (M_check_two x0 x1 x2).bind fun z1 => (M_product_of x0 x1.v x2.v).bind fun z2 => (M_big_of z2.2 z2.1).bind fun z3 => some (z3, z2.2)
def Pre_multiply (T : TC) : PreT := fun As Ω R => ∃ (k0 : Nat) (p0 : Addr) (x0 : MS) (x1 : Bg) (x2 : Bg) (r : Bg × MS), As = [vr p0, va T x1, va T x2] ∧ Ω[k0]? = some (machA T p0 x0) ∧ M_multiply x0 x1 x2 = some r ∧ R = RV (va T r.1) (stt Ω [(k0, machA T p0 r.2)] [])
theorem sc_multiply : FnScope ["machine", "x", "y"] ["machine", "x", "y"] (defScope s_multiply) := ⟨rfl, rfl, rfl, by decide +kernel, rfl, by decide +kernel, by decide +kernel⟩
theorem ok_multiply {f : Addr} {fd : FuncData} (F : Fun T.K "multiply" "multiply" s_multiply f fd) (c_check_two : Cal P w T.K mg base 4 "check_two" ["machine", "x", "y"] (mkSp (Pre_check_two T))) (bc : BCls T.K (T.C 1)) (c_product_of : Cal P w T.K mg base 45 "product_of" ["machine", "x", "y"] (mkSp (Pre_product_of T))) (c_big_of : Cal P w T.K mg base 22 "big_of" ["machine", "value"] (mkSp (Pre_big_of T))) : FnOk P w T.K mg base CX0 46 f fd ["machine", "x", "y"] (mkSp (Pre_multiply T)) := by
  refine fn_ok F sc_multiply (fun As Ω R h => ?_) (fun cdv A outer s H E hr As Ω R F0 h => ?_)
  · obtain ⟨k0, p0, x0, x1, x2, r, rfl, _⟩ := h
    rfl
  obtain ⟨k0, p0, x0, x1, x2, r, rfl, hk0, hm, rfl⟩ := h
  refine ⟨_, (pss_cons (ps_expr (pe_cal c_check_two (hr.mono (by decide)) (by rfl) (pa_cons (pv 0) (pa_cons (pv 1) (pa_cons (pv 2) pa_nil))))) (pss_one (ps_ret (pe_cal c_big_of (hr.mono (by decide)) (by rfl) (pa_cons (pv 0) (pa_cons (pe_cal c_product_of (hr.mono (by decide)) (by rfl) (pa_cons (pv 0) (pa_cons (pe_fldK (K := T.K) (pv 1) (by rfl) rfl) (pa_cons (pe_fldK (K := T.K) (pv 2) (by rfl) rfl) pa_nil)))) pa_nil)))))), fun D hrt hnx => ?_⟩
  have ok := okk1 hk0
  suffices hx : XS _ D F0 [some (vr p0), some (va T x1), some (va T x2)] (stt Ω [(k0, machA T p0 x0)] []) by
    rw [show (stt Ω [(k0, machA T p0 x0)] []) = Ω from stt_self (by simp [hk0])] at hx
    exact hx
  unfold M_multiply at hm
  obtain ⟨z1, hz1, hm⟩ := bnd_some hm
  refine xs_drop (xe_call (xa_cons (xe_var (i := 0) rfl) (xa_cons (xe_var (i := 1) rfl) (xa_cons (xe_var (i := 2) rfl) xa_nil))) ⟨k0, p0, x0, x1, x2, z1, rfl, (stt_get ok (i := 0) rfl), hz1, rfl⟩ cal0) ?_
  show XS (tRet _) _ _ [some (vr p0), some (va T x1), some (va T x2)] (stt Ω [(k0, machA T p0 x0)] [])
  obtain ⟨z2, hz2, hm⟩ := bnd_some hm
  obtain ⟨z3, hz3, hm⟩ := bnd_some hm
  obtain rfl := Option.some.inj hm
  refine xs_ret (xe_call (xa_cons (xe_var (i := 0) rfl) (xa_cons (xe_call (xa_cons (xe_var (i := 0) rfl) (xa_cons (xe_bv bc.cl bc.nv (xe_var (i := 1) rfl)) (xa_cons (xe_bv bc.cl bc.nv (xe_var (i := 2) rfl)) xa_nil))) ⟨k0, p0, x0, x1.v, x2.v, z2, rfl, (stt_get ok (i := 0) rfl), hz2, rfl⟩ (cal1 ok (i := 0) rfl)) xa_nil)) ⟨k0, p0, z2.2, z2.1, z3, rfl, (stt_get ok (i := 0) rfl), hz3, rfl⟩ cal0) hrt.all
noncomputable def M_product_from (x0 : Int) (x1 : Int) (x2 : Int) : Option Int :=
  (chkP (CRgA x0 x1 x2)).bind fun z1 => (forM' (ρ := Unit) (fun (a3 : Int) (s2 : Int) => (chkP (IntMulOk s2 a3)).bind fun z4 => (some (s2 * a3)).bind fun y5 => some (Stp.nx y5)) (rngA x0 x2 ((x1 - x0 + x2 - 1) / x2).toNat) (1 : Int)).bind fun z6 => (nxt z6).bind fun s7 => some s7
def Pre_product_from (T : TC) : PreT := fun As Ω R => ∃ (x0 : Int) (x1 : Int) (x2 : Int) (r : Int), As = [va T x0, va T x1, va T x2] ∧ M_product_from x0 x1 x2 = some r ∧ R = RV (va T r) (stt Ω [] [])
theorem sc_product_from : FnScope ["first", "end", "step", "found", "factor"] ["first", "end", "step"] (defScope s_product_from) := ⟨rfl, rfl, rfl, by decide +kernel, rfl, by decide +kernel, by decide +kernel⟩
theorem ok_product_from {f : Addr} {fd : FuncData} (F : Fun T.K "product_from" "product_from" s_product_from f fd) (z_range : mg "range" = none) : FnOk P w T.K mg base CX0 1 f fd ["first", "end", "step"] (mkSp (Pre_product_from T)) := by
  refine fn_ok F sc_product_from (fun As Ω R h => ?_) (fun cdv A outer s H E hr As Ω R F0 h => ?_)
  · obtain ⟨x0, x1, x2, r, rfl, _⟩ := h
    rfl
  obtain ⟨x0, x1, x2, r, rfl, hm, rfl⟩ := h
  refine ⟨_, (pss_cons (ps_set (i := 3) sc_product_from.nd rfl (.inl rfl) pe_int) (pss_cons (ps_for PassesOwn.never rfl (pi_range3 rfl z_range (pa_cons (pv 0) (pa_cons (pv 1) (pa_cons (pv 2) pa_nil)))) (pg_name (i := 4) sc_product_from.nd rfl (.inl rfl)) (pss_one (ps_aug (i := 3) sc_product_from.nd rfl (.inl rfl) (pv 4) (ip_of iop_mulQ)))) (pss_one (ps_ret (pv 3))))), fun D hrt hnx => ?_⟩
  have ok : Okk Ω [] := okk0
  suffices hx : XS _ D F0 [some (va T x0), some (va T x1), some (va T x2), none, none] (stt Ω [] []) by
    rw [show (stt Ω [] []) = Ω from stt_self (by simp)] at hx
    exact hx
  unfold M_product_from at hm
  refine xs_set (A := va T (1 : Int)) xe_int ?_
  show XS (tSeq _ _) _ _ [some (va T x0), some (va T x1), some (va T x2), some (va T (1 : Int)), none] (stt Ω [] [])
  obtain ⟨z1, hz1, hm⟩ := bnd_some hm
  obtain ⟨z6, hz6, hm⟩ := bnd_some hm
  refine xs_forS (fun (s2 : Int) => [some (va T x0), some (va T x1), some (va T x2), some (va T s2), none]) (fun (s2 : Int) => (stt Ω [] [])) (fun (_ : Unit) _ _ _ => False) hz6 (xi_rangeA (T := T) (xa_cons (xe_var (i := 0) rfl) (xa_cons (xe_var (i := 1) rfl) (xa_cons (xe_var (i := 2) rfl) xa_nil))) (chkP_some hz1)) (fun _ => tgt_name) (fun a3 s2 s' ha hm F1 D1 e1 hD => ?_) (fun s7 es => ?_) (fun r1 es => ?_)
  · show XS (tAug _ _ _) _ _ [some (va T x0), some (va T x1), some (va T x2), some (va T s2), some (va T a3)] (stt Ω [] [])
    obtain ⟨z4, hz4, hm⟩ := bnd_some hm
    obtain ⟨y5, hy5, hm⟩ := bnd_some hm
    refine xs_augD1 (T := T) rfl (chkP_some hz4) (xe_var (i := 4) rfl) (Option.some.inj hy5) ?_
    obtain rfl := Option.some.inj hm
    exact fun σ H n => hD.nx _ rfl σ H (n.forget 4)
  · subst es
    obtain ⟨s2, hs2, hm⟩ := bnd_some hm
    cases hs2
    show XS (tRet _) _ _ [some (va T x0), some (va T x1), some (va T x2), some (va T s7), none] (stt Ω [] [])
    obtain rfl := Option.some.inj hm
    refine xs_ret (xe_var (i := 3) rfl) hrt.all
  · subst es
    cases hm
noncomputable def M_odd_product : Nat → MS → Int → Int → Option (Int × MS)
  | 0, _, _, _ => none
  | kf + 1, x0, x1, x2 => (chkP (CDivW (x2 - x1) (2 : Int))).bind fun z1 => (some ((x2 - x1) / (2 : Int))).bind fun y2 => (chkP (IntMulOk y2 ((Builtin.Int.intBits (x2 - (2 : Int)) : Nat) : Int))).bind fun z3 => if (decide ((y2 * ((Builtin.Int.intBits (x2 - (2 : Int)) : Nat) : Int)) ≤ (64 : Int))) = true then (M_product_from x1 x2 (2 : Int)).bind fun z4 => some (z4, (x0.enter ("odd part" : Str) x1 x2)) else (some (Builtin.bitOr (x1 + y2) (1 : Int))).bind fun y5 => (M_odd_product kf (x0.enter ("odd part" : Str) x1 x2) x1 y5).bind fun z6 => (M_odd_product kf z6.2 y5 x2).bind fun z7 => (M_product_of z7.2 z6.1 z7.1).bind fun z8 => some (z8.1, z8.2)
theorem M_odd_product_succ (kf : Nat) (x0 : MS) (x1 : Int) (x2 : Int) : M_odd_product (kf + 1) x0 x1 x2 = ((chkP (CDivW (x2 - x1) (2 : Int))).bind fun z1 => (some ((x2 - x1) / (2 : Int))).bind fun y2 => (chkP (IntMulOk y2 ((Builtin.Int.intBits (x2 - (2 : Int)) : Nat) : Int))).bind fun z3 => if (decide ((y2 * ((Builtin.Int.intBits (x2 - (2 : Int)) : Nat) : Int)) ≤ (64 : Int))) = true then (M_product_from x1 x2 (2 : Int)).bind fun z4 => some (z4, (x0.enter ("odd part" : Str) x1 x2)) else (some (Builtin.bitOr (x1 + y2) (1 : Int))).bind fun y5 => (M_odd_product kf (x0.enter ("odd part" : Str) x1 x2) x1 y5).bind fun z6 => (M_odd_product kf z6.2 y5 x2).bind fun z7 => (M_product_of z7.2 z6.1 z7.1).bind fun z8 => some (z8.1, z8.2)) := by rw [M_odd_product]
theorem M_odd_product_zero (x0 : MS) (x1 : Int) (x2 : Int) : M_odd_product 0 x0 x1 x2 = none := by rw [M_odd_product]
def Pre_odd_product (kf : Nat) (T : TC) : PreT := fun As Ω R => ∃ (k0 : Nat) (p0 : Addr) (x0 : MS) (x1 : Int) (x2 : Int) (r : Int × MS), As = [vr p0, va T x1, va T x2] ∧ Ω[k0]? = some (machA T p0 x0) ∧ M_odd_product kf x0 x1 x2 = some r ∧ R = RV (va T r.1) (stt Ω [(k0, machA T p0 r.2)] [])
theorem sc_odd_product : FnScope ["machine", "low", "high", "many", "middle", "first"] ["machine", "low", "high"] (defScope s_odd_product) := ⟨rfl, rfl, rfl, by decide +kernel, rfl, by decide +kernel, by decide +kernel⟩
theorem ok0_odd_product {f : Addr} {fd : FuncData} (F : Fun T.K "odd_product" "odd_product" s_odd_product f fd) : FnOk P w T.K mg base CX0 45 f fd ["machine", "low", "high"] (mkSp (Pre_odd_product 0 T)) := by
  refine fn_ok (k := 44) F sc_odd_product (fun As Ω R h => ?_) (fun cdv A outer s H E hr As Ω R F0 h => ?_)
  · obtain ⟨k0, p0, x0, x1, x2, r, rfl, _⟩ := h
    rfl
  obtain ⟨k0, p0, x0, x1, x2, r, rfl, hk0, hm, rfl⟩ := h
  rw [M_odd_product_zero] at hm
  cases hm
theorem ok_odd_product (kf : Nat) {f : Addr} {fd : FuncData} (F : Fun T.K "odd_product" "odd_product" s_odd_product f fd) (mc : MCls T.K (T.C 0)) (c_Mach_enter : CalM P w T.K mg base 1 (T.C 0) "enter" ["self", "word", "m", "n"] (mkSp (Pre_Mach_enter T))) (g_WORD_BITS : ∃ u, mg "WORD_BITS" = some u ∧ RelV (.int 64) u) (c_product_from : Cal P w T.K mg base 1 "product_from" ["first", "end", "step"] (mkSp (Pre_product_from T))) (c_odd_product : Cal P w T.K mg base (45 + kf) "odd_product" ["machine", "low", "high"] (mkSp (Pre_odd_product kf T))) (c_product_of : Cal P w T.K mg base 45 "product_of" ["machine", "x", "y"] (mkSp (Pre_product_of T))) : FnOk P w T.K mg base CX0 (45 + kf + 1) f fd ["machine", "low", "high"] (mkSp (Pre_odd_product (kf + 1) T)) := by
  refine fn_ok F sc_odd_product (fun As Ω R h => ?_) (fun cdv A outer s H E hr As Ω R F0 h => ?_)
  · obtain ⟨k0, p0, x0, x1, x2, r, rfl, _⟩ := h
    rfl
  obtain ⟨k0, p0, x0, x1, x2, r, rfl, hk0, hm, rfl⟩ := h
  refine ⟨_, (pss_cons (ps_expr (pe_calM (pv 0) c_Mach_enter (hr.mono (by omega)) (pa_cons pe_str (pa_cons (pv 1) (pa_cons (pv 2) pa_nil))))) (pss_cons (ps_set (i := 3) sc_odd_product.nd rfl (.inl rfl) (pe_op op_fdivW (pe_op op_sub (pv 2) (pv 1)) pe_int)) (pss_cons (ps_if (pt_cmpR op_le (pe_op op_mulQ (pv 3) (pe_bits (pe_op op_sub (pv 2) pe_int))) (pe_gl rfl g_WORD_BITS) (nomark _)) (pss_one (ps_ret (pe_cal c_product_from (hr.mono (by omega)) (by rfl) (pa_cons (pv 1) (pa_cons (pv 2) (pa_cons pe_int pa_nil)))))) pss_nil) (pss_cons (ps_set (i := 4) sc_odd_product.nd rfl (.inl rfl) (pe_op op_or (pe_op op_addQ (pv 1) (pv 3)) pe_int)) (pss_cons (ps_set (i := 5) sc_odd_product.nd rfl (.inl rfl) (pe_cal c_odd_product (hr.mono (by omega)) (by rfl) (pa_cons (pv 0) (pa_cons (pv 1) (pa_cons (pv 4) pa_nil))))) (pss_one (ps_ret (pe_cal c_product_of (hr.mono (by omega)) (by rfl) (pa_cons (pv 0) (pa_cons (pv 5) (pa_cons (pe_cal c_odd_product (hr.mono (by omega)) (by rfl) (pa_cons (pv 0) (pa_cons (pv 4) (pa_cons (pv 2) pa_nil)))) pa_nil))))))))))), fun D hrt hnx => ?_⟩
  have ok := okk1 hk0
  suffices hx : XS _ D F0 [some (vr p0), some (va T x1), some (va T x2), none, none, none] (stt Ω [(k0, machA T p0 x0)] []) by
    rw [show (stt Ω [(k0, machA T p0 x0)] []) = Ω from stt_self (by simp [hk0])] at hx
    exact hx
  rw [M_odd_product_succ] at hm
  refine xs_drop (xe_mcall (xe_var (i := 0) rfl) (stt_get ok (i := 0) rfl) (xa_cons xe_str (xa_cons (xe_var (i := 1) rfl) (xa_cons (xe_var (i := 2) rfl) xa_nil))) ⟨k0, p0, x0, ("odd part" : Str), x1, x2, rfl, (stt_get ok (i := 0) rfl), rfl⟩ (cal1 ok (i := 0) rfl)) ?_
  show XS (tSeq _ _) _ _ [some (vr p0), some (va T x1), some (va T x2), none, none, none] (stt Ω [(k0, machA T p0 (x0.enter ("odd part" : Str) x1 x2))] [])
  obtain ⟨z1, hz1, hm⟩ := bnd_some hm
  obtain ⟨y2, hy2, hm⟩ := bnd_some hm
  refine xs_set (A := va T y2) (xe_eq (xe_fdiv (chkP_some hz1) (xe_sub (xe_var (i := 2) rfl) (xe_var (i := 1) rfl)) xe_int) (Option.some.inj hy2)) ?_
  show XS (tSeq _ _) _ _ [some (vr p0), some (va T x1), some (va T x2), some (va T y2), none, none] (stt Ω [(k0, machA T p0 (x0.enter ("odd part" : Str) x1 x2))] [])
  obtain ⟨z3, hz3, hm⟩ := bnd_some hm
  by_cases hc : (decide ((y2 * ((Builtin.Int.intBits (x2 - (2 : Int)) : Nat) : Int)) ≤ (64 : Int))) = true
  · rw [if_pos hc] at hm
    refine xs_ifT (xt_eq (xt_test (T := T) (xe_le (xe_mul (chkP_some hz3) (xe_var (i := 3) rfl) (xe_bits (xe_sub (xe_var (i := 2) rfl) xe_int))) xe_int)) hc) ?_
    obtain ⟨z4, hz4, hm⟩ := bnd_some hm
    obtain rfl := Option.some.inj hm
    refine xs_ret (xe_call (xa_cons (xe_var (i := 1) rfl) (xa_cons (xe_var (i := 2) rfl) (xa_cons xe_int xa_nil))) ⟨x1, x2, (2 : Int), z4, rfl, hz4, rfl⟩ cal0) hrt.all
  · rw [if_neg hc] at hm
    refine xs_ifN (xt_eq (xt_test (T := T) (xe_le (xe_mul (chkP_some hz3) (xe_var (i := 3) rfl) (xe_bits (xe_sub (xe_var (i := 2) rfl) xe_int))) xe_int)) (nt hc)) ?_
    show XS (tSeq _ _) _ _ [some (vr p0), some (va T x1), some (va T x2), some (va T y2), none, none] (stt Ω [(k0, machA T p0 (x0.enter ("odd part" : Str) x1 x2))] [])
    obtain ⟨y5, hy5, hm⟩ := bnd_some hm
    refine xs_set (A := va T y5) (xe_eq (xe_bor (xe_add (xe_var (i := 1) rfl) (xe_var (i := 3) rfl)) xe_int) (Option.some.inj hy5)) ?_
    show XS (tSeq _ _) _ _ [some (vr p0), some (va T x1), some (va T x2), some (va T y2), some (va T y5), none] (stt Ω [(k0, machA T p0 (x0.enter ("odd part" : Str) x1 x2))] [])
    obtain ⟨z6, hz6, hm⟩ := bnd_some hm
    refine xs_set (A := va T z6.1) (xe_call (xa_cons (xe_var (i := 0) rfl) (xa_cons (xe_var (i := 1) rfl) (xa_cons (xe_var (i := 4) rfl) xa_nil))) ⟨k0, p0, (x0.enter ("odd part" : Str) x1 x2), x1, y5, z6, rfl, (stt_get ok (i := 0) rfl), hz6, rfl⟩ (cal1 ok (i := 0) rfl)) ?_
    show XS (tRet _) _ _ [some (vr p0), some (va T x1), some (va T x2), some (va T y2), some (va T y5), some (va T z6.1)] (stt Ω [(k0, machA T p0 z6.2)] [])
    obtain ⟨z7, hz7, hm⟩ := bnd_some hm
    obtain ⟨z8, hz8, hm⟩ := bnd_some hm
    obtain rfl := Option.some.inj hm
    refine xs_ret (xe_call (xa_cons (xe_var (i := 0) rfl) (xa_cons (xe_var (i := 5) rfl) (xa_cons (xe_call (xa_cons (xe_var (i := 0) rfl) (xa_cons (xe_var (i := 4) rfl) (xa_cons (xe_var (i := 2) rfl) xa_nil))) ⟨k0, p0, z6.2, y5, x2, z7, rfl, (stt_get ok (i := 0) rfl), hz7, rfl⟩ (cal1 ok (i := 0) rfl)) xa_nil))) ⟨k0, p0, z7.2, z6.1, z7.1, z8, rfl, (stt_get ok (i := 0) rfl), hz8, rfl⟩ (cal1 ok (i := 0) rfl)) hrt.all
noncomputable def M_factorial_of (x0 : MS) (x1 : Int) : Option (Int × MS) :=
  if (decide (x1 ≤ (20 : Int))) = true then (M_product_from (1 : Int) (x1 + (1 : Int)) (1 : Int)).bind fun z1 => some (z1, x0) else (chkP (-(2 ^ 62) ≤ (((Builtin.Int.intBits x1 : Nat) : Int) - (1 : Int)) ∧ (((Builtin.Int.intBits x1 : Nat) : Int) - (1 : Int)) < 2 ^ 62)).bind fun z2 => (forM' (ρ := Unit) (fun (a4 : Int) (s3 : Int × Int × Int × MS) => (chkP (0 ≤ a4)).bind fun z5 => (some (x1 / 2 ^ (a4).toNat)).bind fun y6 => if (decide ((2 : Int) < y6)) = true then (some (Builtin.bitOr (y6 + (1 : Int)) (1 : Int))).bind fun y7 => (M_odd_product 20 s3.2.2.2 s3.2.2.1 y7).bind fun z8 => (M_product_of z8.2 s3.1 z8.1).bind fun z9 => (M_product_of z9.2 s3.2.1 z9.1).bind fun z10 => some (Stp.nx (z9.1, z10.1, y7, z10.2)) else some (Stp.nx (s3.1, s3.2.1, s3.2.2.1, s3.2.2.2))) (rngD ((((Builtin.Int.intBits x1 : Nat) : Int) - (1 : Int)) - 1) ((((Builtin.Int.intBits x1 : Nat) : Int) - (1 : Int))).toNat) ((1 : Int), (1 : Int), (3 : Int), x0)).bind fun z11 => (nxt z11).bind fun s12 => (M_ones_of x1).bind fun z13 => (M_shifted_left s12.2.2.2 s12.2.1 (x1 - z13)).bind fun z14 => some (z14.1, z14.2)
def Pre_factorial_of (T : TC) : PreT := fun As Ω R => ∃ (k0 : Nat) (p0 : Addr) (x0 : MS) (x1 : Int) (r : Int × MS), As = [vr p0, va T x1] ∧ Ω[k0]? = some (machA T p0 x0) ∧ M_factorial_of x0 x1 = some r ∧ R = RV (va T r.1) (stt Ω [(k0, machA T p0 r.2)] [])
theorem sc_factorial_of : FnScope ["machine", "n", "inner", "outer", "low", "place", "last", "high"] ["machine", "n"] (defScope s_factorial_of) := ⟨rfl, rfl, rfl, by decide +kernel, rfl, by decide +kernel, by decide +kernel⟩
theorem ok_factorial_of {f : Addr} {fd : FuncData} (F : Fun T.K "factorial_of" "factorial_of" s_factorial_of f fd) (g_SHORT_FACTORIAL : ∃ u, mg "SHORT_FACTORIAL" = some u ∧ RelV (.int 20) u) (c_product_from : Cal P w T.K mg base 1 "product_from" ["first", "end", "step"] (mkSp (Pre_product_from T))) (z_reversed : mg "reversed" = none) (z_range : mg "range" = none) (c_odd_product : Cal P w T.K mg base 65 "odd_product" ["machine", "low", "high"] (mkSp (Pre_odd_product 20 T))) (c_product_of : Cal P w T.K mg base 45 "product_of" ["machine", "x", "y"] (mkSp (Pre_product_of T))) (c_ones_of : Cal P w T.K mg base 1 "ones_of" ["digit"] (mkSp (Pre_ones_of T))) (c_shifted_left : Cal P w T.K mg base 3 "shifted_left" ["machine", "x", "count"] (mkSp (Pre_shifted_left T))) : FnOk P w T.K mg base CX0 66 f fd ["machine", "n"] (mkSp (Pre_factorial_of T)) := by
  refine fn_ok F sc_factorial_of (fun As Ω R h => ?_) (fun cdv A outer s H E hr As Ω R F0 h => ?_)
  · obtain ⟨k0, p0, x0, x1, r, rfl, _⟩ := h
    rfl
  obtain ⟨k0, p0, x0, x1, r, rfl, hk0, hm, rfl⟩ := h
  refine ⟨_, (pss_cons (ps_if (pt_cmpR op_le (pv 1) (pe_gl rfl g_SHORT_FACTORIAL) (nomark _)) (pss_one (ps_ret (pe_cal c_product_from (hr.mono (by decide)) (by rfl) (pa_cons pe_int (pa_cons (pe_op op_addQ (pv 1) pe_int) (pa_cons pe_int pa_nil)))))) pss_nil) (pss_cons (ps_asg2 pe_int (pg_name (i := 2) sc_factorial_of.nd rfl (.inl rfl)) (pg_name (i := 3) sc_factorial_of.nd rfl (.inl rfl))) (pss_cons (ps_set (i := 4) sc_factorial_of.nd rfl (.inl rfl) pe_int) (pss_cons (ps_for PassesOwn.never rfl (pi_revR (by rfl) z_reversed (prg_1 (by rfl) z_range (pe_op op_sub (pe_bits (pv 1)) pe_int))) (pg_name (i := 5) sc_factorial_of.nd rfl (.inl rfl)) (pss_cons (ps_set (i := 6) sc_factorial_of.nd rfl (.inl rfl) (pe_op op_shr (pv 1) (pv 5))) (pss_one (ps_if (pt_cmpR op_gt (pv 6) pe_int (nomark _)) (pss_cons (ps_set (i := 7) sc_factorial_of.nd rfl (.inl rfl) (pe_op op_or (pe_op op_addQ (pv 6) pe_int) pe_int)) (pss_cons (ps_set (i := 2) sc_factorial_of.nd rfl (.inl rfl) (pe_cal c_product_of (hr.mono (by decide)) (by rfl) (pa_cons (pv 0) (pa_cons (pv 2) (pa_cons (pe_cal c_odd_product (hr.mono (by decide)) (by rfl) (pa_cons (pv 0) (pa_cons (pv 4) (pa_cons (pv 7) pa_nil)))) pa_nil))))) (pss_cons (ps_set (i := 3) sc_factorial_of.nd rfl (.inl rfl) (pe_cal c_product_of (hr.mono (by decide)) (by rfl) (pa_cons (pv 0) (pa_cons (pv 3) (pa_cons (pv 2) pa_nil))))) (pss_one (ps_set (i := 4) sc_factorial_of.nd rfl (.inl rfl) (pv 7)))))) pss_nil)))) (pss_one (ps_ret (pe_cal c_shifted_left (hr.mono (by decide)) (by rfl) (pa_cons (pv 0) (pa_cons (pv 3) (pa_cons (pe_op op_sub (pv 1) (pe_cal c_ones_of (hr.mono (by decide)) (by rfl) (pa_cons (pv 1) pa_nil))) pa_nil)))))))))), fun D hrt hnx => ?_⟩
  have ok := okk1 hk0
  suffices hx : XS _ D F0 [some (vr p0), some (va T x1), none, none, none, none, none, none] (stt Ω [(k0, machA T p0 x0)] []) by
    rw [show (stt Ω [(k0, machA T p0 x0)] []) = Ω from stt_self (by simp [hk0])] at hx
    exact hx
  unfold M_factorial_of at hm
  by_cases hc : (decide (x1 ≤ (20 : Int))) = true
  · rw [if_pos hc] at hm
    refine xs_ifT (xt_eq (xt_test (T := T) (xe_le (xe_var (i := 1) rfl) xe_int)) hc) ?_
    obtain ⟨z1, hz1, hm⟩ := bnd_some hm
    obtain rfl := Option.some.inj hm
    refine xs_ret (xe_call (xa_cons xe_int (xa_cons (xe_add (xe_var (i := 1) rfl) xe_int) (xa_cons xe_int xa_nil))) ⟨(1 : Int), (x1 + (1 : Int)), (1 : Int), z1, rfl, hz1, rfl⟩ cal0) hrt.all
  · rw [if_neg hc] at hm
    refine xs_ifN (xt_eq (xt_test (T := T) (xe_le (xe_var (i := 1) rfl) xe_int)) (nt hc)) ?_
    show XS (tSeq _ _) _ _ [some (vr p0), some (va T x1), none, none, none, none, none, none] (stt Ω [(k0, machA T p0 x0)] [])
    refine xs_set2 (A := va T (1 : Int)) xe_int ?_
    show XS (tSeq _ _) _ _ [some (vr p0), some (va T x1), some (va T (1 : Int)), some (va T (1 : Int)), none, none, none, none] (stt Ω [(k0, machA T p0 x0)] [])
    refine xs_set (A := va T (3 : Int)) xe_int ?_
    show XS (tSeq _ _) _ _ [some (vr p0), some (va T x1), some (va T (1 : Int)), some (va T (1 : Int)), some (va T (3 : Int)), none, none, none] (stt Ω [(k0, machA T p0 x0)] [])
    obtain ⟨z2, hz2, hm⟩ := bnd_some hm
    obtain ⟨z11, hz11, hm⟩ := bnd_some hm
    refine xs_forS (fun (s3 : Int × Int × Int × MS) => [some (vr p0), some (va T x1), some (va T s3.1), some (va T s3.2.1), some (va T s3.2.2.1), none, none, none]) (fun (s3 : Int × Int × Int × MS) => (stt Ω [(k0, machA T p0 s3.2.2.2)] [])) (fun (_ : Unit) _ _ _ => False) hz11 (xi_revR (xe_sub (xe_bits (xe_var (i := 1) rfl)) xe_int) (chkP_some hz2)) (fun _ => tgt_name) (fun a4 s3 s' ha hm F1 D1 e1 hD => ?_) (fun s12 es => ?_) (fun r1 es => ?_)
    · show XS (tSeq _ _) _ _ [some (vr p0), some (va T x1), some (va T s3.1), some (va T s3.2.1), some (va T s3.2.2.1), some (va T a4), none, none] (stt Ω [(k0, machA T p0 s3.2.2.2)] [])
      obtain ⟨z5, hz5, hm⟩ := bnd_some hm
      obtain ⟨y6, hy6, hm⟩ := bnd_some hm
      refine xs_set (A := va T y6) (xe_eq (xe_shr (chkP_some hz5) (xe_var (i := 1) rfl) (xe_var (i := 5) rfl)) (Option.some.inj hy6)) ?_
      show XS (tIfS _ _ _) _ _ [some (vr p0), some (va T x1), some (va T s3.1), some (va T s3.2.1), some (va T s3.2.2.1), some (va T a4), some (va T y6), none] (stt Ω [(k0, machA T p0 s3.2.2.2)] [])
      by_cases hc : (decide ((2 : Int) < y6)) = true
      · rw [if_pos hc] at hm
        refine xs_ifT1 (xt_eq (xt_test (T := T) (xe_gt (xe_var (i := 6) rfl) xe_int)) hc) ?_
        obtain ⟨y7, hy7, hm⟩ := bnd_some hm
        refine xs_set (A := va T y7) (xe_eq (xe_bor (xe_add (xe_var (i := 6) rfl) xe_int) xe_int) (Option.some.inj hy7)) ?_
        show XS (tSeq _ _) _ _ [some (vr p0), some (va T x1), some (va T s3.1), some (va T s3.2.1), some (va T s3.2.2.1), some (va T a4), some (va T y6), some (va T y7)] (stt Ω [(k0, machA T p0 s3.2.2.2)] [])
        obtain ⟨z8, hz8, hm⟩ := bnd_some hm
        obtain ⟨z9, hz9, hm⟩ := bnd_some hm
        refine xs_set (A := va T z9.1) (xe_call (xa_cons (xe_var (i := 0) rfl) (xa_cons (xe_var (i := 2) rfl) (xa_cons (xe_call (xa_cons (xe_var (i := 0) rfl) (xa_cons (xe_var (i := 4) rfl) (xa_cons (xe_var (i := 7) rfl) xa_nil))) ⟨k0, p0, s3.2.2.2, s3.2.2.1, y7, z8, rfl, (stt_get ok (i := 0) rfl), hz8, rfl⟩ (cal1 ok (i := 0) rfl)) xa_nil))) ⟨k0, p0, z8.2, s3.1, z8.1, z9, rfl, (stt_get ok (i := 0) rfl), hz9, rfl⟩ (cal1 ok (i := 0) rfl)) ?_
        show XS (tSeq _ _) _ _ [some (vr p0), some (va T x1), some (va T z9.1), some (va T s3.2.1), some (va T s3.2.2.1), some (va T a4), some (va T y6), some (va T y7)] (stt Ω [(k0, machA T p0 z9.2)] [])
        obtain ⟨z10, hz10, hm⟩ := bnd_some hm
        refine xs_set (A := va T z10.1) (xe_call (xa_cons (xe_var (i := 0) rfl) (xa_cons (xe_var (i := 3) rfl) (xa_cons (xe_var (i := 2) rfl) xa_nil))) ⟨k0, p0, z9.2, s3.2.1, z9.1, z10, rfl, (stt_get ok (i := 0) rfl), hz10, rfl⟩ (cal1 ok (i := 0) rfl)) ?_
        show XS (tAsg _ _) _ _ [some (vr p0), some (va T x1), some (va T z9.1), some (va T z10.1), some (va T s3.2.2.1), some (va T a4), some (va T y6), some (va T y7)] (stt Ω [(k0, machA T p0 z10.2)] [])
        refine xs_set1 (A := va T y7) (xe_var (i := 7) rfl) ?_
        obtain rfl := Option.some.inj hm
        exact fun σ H n => hD.nx _ rfl σ H (((n.forget 6).forget 7).forget 5)
      · rw [if_neg hc] at hm
        refine xs_ifF1 (xt_eq (xt_test (T := T) (xe_gt (xe_var (i := 6) rfl) xe_int)) (nt hc)) ?_
        obtain rfl := Option.some.inj hm
        exact fun σ H n => hD.nx _ rfl σ H ((n.forget 6).forget 5)
    · subst es
      obtain ⟨s2, hs2, hm⟩ := bnd_some hm
      cases hs2
      show XS (tRet _) _ _ [some (vr p0), some (va T x1), some (va T s12.1), some (va T s12.2.1), some (va T s12.2.2.1), none, none, none] (stt Ω [(k0, machA T p0 s12.2.2.2)] [])
      obtain ⟨z13, hz13, hm⟩ := bnd_some hm
      obtain ⟨z14, hz14, hm⟩ := bnd_some hm
      obtain rfl := Option.some.inj hm
      refine xs_ret (xe_call (xa_cons (xe_var (i := 0) rfl) (xa_cons (xe_var (i := 3) rfl) (xa_cons (xe_sub (xe_var (i := 1) rfl) (xe_call (xa_cons (xe_var (i := 1) rfl) xa_nil) ⟨x1, z13, rfl, hz13, rfl⟩ cal0)) xa_nil))) ⟨k0, p0, s12.2.2.2, s12.2.1, (x1 - z13), z14, rfl, (stt_get ok (i := 0) rfl), hz14, rfl⟩ (cal1 ok (i := 0) rfl)) hrt.all
    · subst es
      cases hm
noncomputable def M_factorial (x0 : MS) (x1 : Int) : Option (Bg × MS) :=
  (M_check_machine x0).bind fun z1 => (M_is_integer x1).bind fun z2 => (chkP (z2 = true)).bind fun z3 => (chkP ((decide (x1 < (0 : Int))) = false)).bind fun z4 => (chkP ((decide ((1100 : Int) < x1)) = false)).bind fun z5 => (M_factorial_of x0 x1).bind fun z6 => (M_big_of z6.2 z6.1).bind fun z7 => some (z7, z6.2)
def Pre_factorial (T : TC) : PreT := fun As Ω R => ∃ (k0 : Nat) (p0 : Addr) (x0 : MS) (x1 : Int) (r : Bg × MS), As = [vr p0, va T x1] ∧ Ω[k0]? = some (machA T p0 x0) ∧ M_factorial x0 x1 = some r ∧ R = RV (va T r.1) (stt Ω [(k0, machA T p0 r.2)] [])
theorem sc_factorial : FnScope ["machine", "n"] ["machine", "n"] (defScope s_factorial) := ⟨rfl, rfl, rfl, by decide +kernel, rfl, by decide +kernel, by decide +kernel⟩
theorem ok_factorial {f : Addr} {fd : FuncData} (F : Fun T.K "factorial" "factorial" s_factorial f fd) (c_check_machine : Cal P w T.K mg base 1 "check_machine" ["machine"] (mkSp (Pre_check_machine T))) (c_is_integer : Cal P w T.K mg base 1 "is_integer" ["value"] (mkSp (Pre_is_integer T))) (g_GREATEST_FACTORIAL : ∃ u, mg "GREATEST_FACTORIAL" = some u ∧ RelV (.int 1100) u) (c_factorial_of : Cal P w T.K mg base 66 "factorial_of" ["machine", "n"] (mkSp (Pre_factorial_of T))) (c_big_of : Cal P w T.K mg base 22 "big_of" ["machine", "value"] (mkSp (Pre_big_of T))) : FnOk P w T.K mg base CX0 67 f fd ["machine", "n"] (mkSp (Pre_factorial T)) := by
  refine fn_ok F sc_factorial (fun As Ω R h => ?_) (fun cdv A outer s H E hr As Ω R F0 h => ?_)
  · obtain ⟨k0, p0, x0, x1, r, rfl, _⟩ := h
    rfl
  obtain ⟨k0, p0, x0, x1, r, rfl, hk0, hm, rfl⟩ := h
  refine ⟨_, (pss_cons (ps_expr (pe_cal c_check_machine (hr.mono (by decide)) (by rfl) (pa_cons (pv 0) pa_nil))) (pss_cons (ps_if (PW.pt (pw_or (pt_not (pt_val (pe_cal c_is_integer (hr.mono (by decide)) (by rfl) (pa_cons (pv 1) pa_nil)))) (pw_or1 (pt_cmpR op_lt (pv 1) pe_int (nomark _))))) pss_never pss_nil) (pss_cons (ps_if (pt_cmpR op_gt (pv 1) (pe_gl rfl g_GREATEST_FACTORIAL) (nomark _)) pss_never pss_nil) (pss_one (ps_ret (pe_cal c_big_of (hr.mono (by decide)) (by rfl) (pa_cons (pv 0) (pa_cons (pe_cal c_factorial_of (hr.mono (by decide)) (by rfl) (pa_cons (pv 0) (pa_cons (pv 1) pa_nil))) pa_nil)))))))), fun D hrt hnx => ?_⟩
  have ok := okk1 hk0
  suffices hx : XS _ D F0 [some (vr p0), some (va T x1)] (stt Ω [(k0, machA T p0 x0)] []) by
    rw [show (stt Ω [(k0, machA T p0 x0)] []) = Ω from stt_self (by simp [hk0])] at hx
    exact hx
  unfold M_factorial at hm
  obtain ⟨z1, hz1, hm⟩ := bnd_some hm
  refine xs_drop (xe_call (xa_cons (xe_var (i := 0) rfl) xa_nil) ⟨k0, p0, x0, z1, rfl, (stt_get ok (i := 0) rfl), hz1, rfl⟩ cal0) ?_
  show XS (tSeq _ _) _ _ [some (vr p0), some (va T x1)] (stt Ω [(k0, machA T p0 x0)] [])
  obtain ⟨z2, hz2, hm⟩ := bnd_some hm
  obtain ⟨z3, hz3, hm⟩ := bnd_some hm
  obtain ⟨z4, hz4, hm⟩ := bnd_some hm
  refine xs_ifN (xt_orF (xt_notF (xt_eq (xt_tB (T := T) (xe_call (xa_cons (xe_var (i := 1) rfl) xa_nil) ⟨x1, z2, rfl, hz2, rfl⟩ cal0)) (chkP_some hz3))) (xt_eq (xt_test (T := T) (xe_lt (xe_var (i := 1) rfl) xe_int)) (chkP_some hz4))) ?_
  show XS (tSeq _ _) _ _ [some (vr p0), some (va T x1)] (stt Ω [(k0, machA T p0 x0)] [])
  obtain ⟨z5, hz5, hm⟩ := bnd_some hm
  refine xs_ifN (xt_eq (xt_test (T := T) (xe_gt (xe_var (i := 1) rfl) xe_int)) (chkP_some hz5)) ?_
  show XS (tRet _) _ _ [some (vr p0), some (va T x1)] (stt Ω [(k0, machA T p0 x0)] [])
  obtain ⟨z6, hz6, hm⟩ := bnd_some hm
  obtain ⟨z7, hz7, hm⟩ := bnd_some hm
  obtain rfl := Option.some.inj hm
  refine xs_ret (xe_call (xa_cons (xe_var (i := 0) rfl) (xa_cons (xe_call (xa_cons (xe_var (i := 0) rfl) (xa_cons (xe_var (i := 1) rfl) xa_nil)) ⟨k0, p0, x0, x1, z6, rfl, (stt_get ok (i := 0) rfl), hz6, rfl⟩ (cal1 ok (i := 0) rfl)) xa_nil)) ⟨k0, p0, z6.2, z6.1, z7, rfl, (stt_get ok (i := 0) rfl), hz7, rfl⟩ cal0) hrt.all
noncomputable def M__law_mixed (x0 : Int) (x1 : Int) : Option Int :=
  (chkP (0 < (2147483629 : Int))).bind fun z1 => (chkP (IntMulOk x1 (7919 : Int))).bind fun z2 => (chkP (IntMulOk ((x0 % (2147483629 : Int)) + (1 : Int)) ((x1 * (7919 : Int)) + (104729 : Int)))).bind fun z3 => (chkP (0 < (2147483647 : Int))).bind fun z4 => (some ((((x0 % (2147483629 : Int)) + (1 : Int)) * ((x1 * (7919 : Int)) + (104729 : Int))) % (2147483647 : Int))).bind fun y5 => (chkP (CDivW x0 (2147483629 : Int))).bind fun z6 => (chkP (0 < (1000003 : Int))).bind fun z7 => (chkP (IntMulOk ((x0 / (2147483629 : Int)) % (1000003 : Int)) (x1 + (31 : Int)))).bind fun z8 => (chkP (IntMulOk (y5 + (((x0 / (2147483629 : Int)) % (1000003 : Int)) * (x1 + (31 : Int)))) (48271 : Int))).bind fun z9 => (chkP (0 < (2147483629 : Int))).bind fun z10 => (some (((y5 + (((x0 / (2147483629 : Int)) % (1000003 : Int)) * (x1 + (31 : Int)))) * (48271 : Int)) % (2147483629 : Int))).bind fun y11 => (chkP (CDivW y11 (1013 : Int))).bind fun z12 => (chkP (IntMulOk y11 (((y11 / (1013 : Int)) + (69621 : Int)) + x1))).bind fun z13 => (chkP (0 < (2147483587 : Int))).bind fun z14 => (some ((y11 * (((y11 / (1013 : Int)) + (69621 : Int)) + x1)) % (2147483587 : Int))).bind fun y15 => (chkP (CDivW y15 (2003 : Int))).bind fun z16 => (chkP (IntMulOk y15 ((y15 / (2003 : Int)) + (40692 : Int)))).bind fun z17 => (chkP (0 < (2147483563 : Int))).bind fun z18 => some ((y15 * ((y15 / (2003 : Int)) + (40692 : Int))) % (2147483563 : Int))
def Pre__law_mixed (T : TC) : PreT := fun As Ω R => ∃ (x0 : Int) (x1 : Int) (r : Int), As = [va T x0, va T x1] ∧ M__law_mixed x0 x1 = some r ∧ R = RV (va T r) (stt Ω [] [])
theorem sc__law_mixed : FnScope ["_law_cell", "_law_turn", "_law_figure"] ["_law_cell", "_law_turn"] (defScope s__law_mixed) := ⟨rfl, rfl, rfl, by decide +kernel, rfl, by decide +kernel, by decide +kernel⟩
theorem ok__law_mixed {f : Addr} {fd : FuncData} (F : Fun T.K "_law_mixed" "_law_mixed" s__law_mixed f fd) (z_int : mg "int" = none) : FnOk P w T.K mg base CX0 1 f fd ["_law_cell", "_law_turn"] (mkSp (Pre__law_mixed T)) := by
  refine fn_ok F sc__law_mixed (fun As Ω R h => ?_) (fun cdv A outer s H E hr As Ω R F0 h => ?_)
  · obtain ⟨x0, x1, r, rfl, _⟩ := h
    rfl
  obtain ⟨x0, x1, r, rfl, hm, rfl⟩ := h
  refine ⟨_, (pss_cons (ps_set (i := 2) sc__law_mixed.nd rfl (.inl rfl) (pe_op op_mod (pe_callTy cr_int (by rfl) z_int (by decide +kernel) (pa_cons (pe_op op_mulQ (pe_op op_addQ (pe_op op_mod (pe_callTy cr_int (by rfl) z_int (by decide +kernel) (pa_cons (pv 0) pa_nil)) pe_int) pe_int) (pe_op op_addQ (pe_op op_mulQ (pv 1) pe_int) pe_int)) pa_nil)) pe_int)) (pss_cons (ps_set (i := 2) sc__law_mixed.nd rfl (.inl rfl) (pe_op op_mod (pe_callTy cr_int (by rfl) z_int (by decide +kernel) (pa_cons (pe_op op_mulQ (pe_op op_addQ (pv 2) (pe_op op_mulQ (pe_op op_mod (pe_callTy cr_int (by rfl) z_int (by decide +kernel) (pa_cons (pe_op op_fdivW (pv 0) pe_int) pa_nil)) pe_int) (pe_op op_addQ (pv 1) pe_int))) pe_int) pa_nil)) pe_int)) (pss_cons (ps_set (i := 2) sc__law_mixed.nd rfl (.inl rfl) (pe_op op_mod (pe_callTy cr_int (by rfl) z_int (by decide +kernel) (pa_cons (pe_op op_mulQ (pv 2) (pe_op op_addQ (pe_op op_addQ (pe_op op_fdivW (pv 2) pe_int) pe_int) (pv 1))) pa_nil)) pe_int)) (pss_one (ps_ret (pe_op op_mod (pe_callTy cr_int (by rfl) z_int (by decide +kernel) (pa_cons (pe_op op_mulQ (pv 2) (pe_op op_addQ (pe_op op_fdivW (pv 2) pe_int) pe_int)) pa_nil)) pe_int)))))), fun D hrt hnx => ?_⟩
  have ok : Okk Ω [] := okk0
  suffices hx : XS _ D F0 [some (va T x0), some (va T x1), none] (stt Ω [] []) by
    rw [show (stt Ω [] []) = Ω from stt_self (by simp)] at hx
    exact hx
  unfold M__law_mixed at hm
  obtain ⟨z1, hz1, hm⟩ := bnd_some hm
  obtain ⟨z2, hz2, hm⟩ := bnd_some hm
  obtain ⟨z3, hz3, hm⟩ := bnd_some hm
  obtain ⟨z4, hz4, hm⟩ := bnd_some hm
  obtain ⟨y5, hy5, hm⟩ := bnd_some hm
  refine xs_set (A := va T y5) (xe_eq (xe_mod (chkP_some hz4) (xe_int1 (xe_mul (chkP_some hz3) (xe_add (xe_mod (chkP_some hz1) (xe_int1 (xe_var (i := 0) rfl)) xe_int) xe_int) (xe_add (xe_mul (chkP_some hz2) (xe_var (i := 1) rfl) xe_int) xe_int))) xe_int) (Option.some.inj hy5)) ?_
  show XS (tSeq _ _) _ _ [some (va T x0), some (va T x1), some (va T y5)] (stt Ω [] [])
  obtain ⟨z6, hz6, hm⟩ := bnd_some hm
  obtain ⟨z7, hz7, hm⟩ := bnd_some hm
  obtain ⟨z8, hz8, hm⟩ := bnd_some hm
  obtain ⟨z9, hz9, hm⟩ := bnd_some hm
  obtain ⟨z10, hz10, hm⟩ := bnd_some hm
  obtain ⟨y11, hy11, hm⟩ := bnd_some hm
  refine xs_set (A := va T y11) (xe_eq (xe_mod (chkP_some hz10) (xe_int1 (xe_mul (chkP_some hz9) (xe_add (xe_var (i := 2) rfl) (xe_mul (chkP_some hz8) (xe_mod (chkP_some hz7) (xe_int1 (xe_fdiv (chkP_some hz6) (xe_var (i := 0) rfl) xe_int)) xe_int) (xe_add (xe_var (i := 1) rfl) xe_int))) xe_int)) xe_int) (Option.some.inj hy11)) ?_
  show XS (tSeq _ _) _ _ [some (va T x0), some (va T x1), some (va T y11)] (stt Ω [] [])
  obtain ⟨z12, hz12, hm⟩ := bnd_some hm
  obtain ⟨z13, hz13, hm⟩ := bnd_some hm
  obtain ⟨z14, hz14, hm⟩ := bnd_some hm
  obtain ⟨y15, hy15, hm⟩ := bnd_some hm
  refine xs_set (A := va T y15) (xe_eq (xe_mod (chkP_some hz14) (xe_int1 (xe_mul (chkP_some hz13) (xe_var (i := 2) rfl) (xe_add (xe_add (xe_fdiv (chkP_some hz12) (xe_var (i := 2) rfl) xe_int) xe_int) (xe_var (i := 1) rfl)))) xe_int) (Option.some.inj hy15)) ?_
  show XS (tRet _) _ _ [some (va T x0), some (va T x1), some (va T y15)] (stt Ω [] [])
  obtain ⟨z16, hz16, hm⟩ := bnd_some hm
  obtain ⟨z17, hz17, hm⟩ := bnd_some hm
  obtain ⟨z18, hz18, hm⟩ := bnd_some hm
  obtain rfl := Option.some.inj hm
  refine xs_ret (xe_mod (chkP_some hz18) (xe_int1 (xe_mul (chkP_some hz17) (xe_var (i := 2) rfl) (xe_add (xe_fdiv (chkP_some hz16) (xe_var (i := 2) rfl) xe_int) xe_int))) xe_int) hrt.all
noncomputable def M__law_source (x0 : Int) : Option (List Int) :=
  (chkP (CPow (10 : Int) (18 : Int))).bind fun z1 => (chkP (IntMulOk x0 (if (decide (((10 : Int) ^ ((18 : Int)).toNat) ≤ x0)) = true then (1 : Int) else 0))).bind fun z2 => some ([(x0 * (if (decide (((10 : Int) ^ ((18 : Int)).toNat) ≤ x0)) = true then (1 : Int) else 0)), x0, (0 : Int)] : List Int)
def Pre__law_source (T : TC) : PreT := fun As Ω R => ∃ (x0 : Int) (r : List Int), As = [va T x0] ∧ M__law_source x0 = some r ∧ R = RN (stt Ω [] []) (fun q => lstA T q r)
theorem sc__law_source : FnScope ["_law_cell"] ["_law_cell"] (defScope s__law_source) := ⟨rfl, rfl, rfl, by decide +kernel, rfl, by decide +kernel, by decide +kernel⟩
theorem ok__law_source {f : Addr} {fd : FuncData} (F : Fun T.K "_law_source" "_law_source" s__law_source f fd) (z_int : mg "int" = none) : FnOk P w T.K mg base CX0 1 f fd ["_law_cell"] (mkSp (Pre__law_source T)) := by
  refine fn_ok F sc__law_source (fun As Ω R h => ?_) (fun cdv A outer s H E hr As Ω R F0 h => ?_)
  · obtain ⟨x0, r, rfl, _⟩ := h
    rfl
  obtain ⟨x0, r, rfl, hm, rfl⟩ := h
  refine ⟨_, (pss_one (ps_ret (pe_lst (pa_cons (pe_op op_mulQ (pv 0) (pe_callTy cr_int (by rfl) z_int (by decide +kernel) (pa_cons (pe_cmpR op_ge (pv 0) (pe_op op_pow pe_int pe_int) (nomark _)) pa_nil))) (pa_cons (pv 0) (pa_cons pe_int pa_nil)))))), fun D hrt hnx => ?_⟩
  have ok : Okk Ω [] := okk0
  suffices hx : XS _ D F0 [some (va T x0)] (stt Ω [] []) by
    rw [show (stt Ω [] []) = Ω from stt_self (by simp)] at hx
    exact hx
  unfold M__law_source at hm
  obtain ⟨z1, hz1, hm⟩ := bnd_some hm
  obtain ⟨z2, hz2, hm⟩ := bnd_some hm
  obtain rfl := Option.some.inj hm
  refine xs_ret (xn_lst (T := T) (l := [(x0 * (if (decide (((10 : Int) ^ ((18 : Int)).toNat) ≤ x0)) = true then (1 : Int) else 0)), x0, (0 : Int)]) (xa_cons (xe_mul (chkP_some hz2) (xe_var (i := 0) rfl) (xe_intb (xe_ge (xe_var (i := 0) rfl) (xe_pow (chkP_some hz1) xe_int xe_int)))) (xa_cons (xe_var (i := 0) rfl) (xa_cons xe_int xa_nil))) (by show 3 ≤ sizeLine; decide)) (RT.allN hrt)
noncomputable def M__law_draw (x0 : List Int) (x1 : Int) : Option (Int × List Int) :=
  (atI x0 (0 : Int)).bind fun z1 => if (decide ((0 : Int) < z1)) = true then (atI x0 (0 : Int)).bind fun z2 => (chkP (0 < x1)).bind fun z3 => (some (z2 % x1)).bind fun y4 => (atI x0 (0 : Int)).bind fun z5 => (chkP (CDivW z5 x1)).bind fun z6 => (some (z5 / x1)).bind fun y7 => (ixN x0.length (0 : Int)).bind fun z8 => some (y4, (x0.set z8 y7)) else (atI x0 (2 : Int)).bind fun z9 => (some (z9 + (1 : Int))).bind fun y10 => (ixN x0.length (2 : Int)).bind fun z11 => (atI (x0.set z11 y10) (1 : Int)).bind fun z12 => (atI (x0.set z11 y10) (2 : Int)).bind fun z13 => (M__law_mixed z12 z13).bind fun z14 => (chkP (0 < x1)).bind fun z15 => some ((z14 % x1), (x0.set z11 y10))
def Pre__law_draw (T : TC) : PreT := fun As Ω R => ∃ (k0 : Nat) (p0 : Addr) (x0 : List Int) (x1 : Int) (r : Int × List Int), As = [vr p0, va T x1] ∧ Ω[k0]? = some (lstA T p0 x0) ∧ M__law_draw x0 x1 = some r ∧ R = RV (va T r.1) (stt Ω [(k0, lstA T p0 r.2)] [])
theorem sc__law_draw : FnScope ["_law_source_here", "_law_bound", "_law_drawn"] ["_law_source_here", "_law_bound"] (defScope s__law_draw) := ⟨rfl, rfl, rfl, by decide +kernel, rfl, by decide +kernel, by decide +kernel⟩
theorem ok__law_draw {f : Addr} {fd : FuncData} (F : Fun T.K "_law_draw" "_law_draw" s__law_draw f fd) (z_int : mg "int" = none) (c__law_mixed : Cal P w T.K mg base 1 "_law_mixed" ["_law_cell", "_law_turn"] (mkSp (Pre__law_mixed T))) : FnOk P w T.K mg base CX0 2 f fd ["_law_source_here", "_law_bound"] (mkSp (Pre__law_draw T)) := by
  refine fn_ok F sc__law_draw (fun As Ω R h => ?_) (fun cdv A outer s H E hr As Ω R F0 h => ?_)
  · obtain ⟨k0, p0, x0, x1, r, rfl, _⟩ := h
    rfl
  obtain ⟨k0, p0, x0, x1, r, rfl, hk0, hm, rfl⟩ := h
  refine ⟨_, (pss_cons (ps_if (pt_cmpR op_gt (pe_ix (ix_seqK (K := T.K) rfl) (pv 0) pe_int (by intro _ _; rfl)) pe_int (nomark _)) (pss_cons (ps_set (i := 2) sc__law_draw.nd rfl (.inl rfl) (pe_op op_mod (pe_callTy cr_int (by rfl) z_int (by decide +kernel) (pa_cons (pe_ix (ix_seqK (K := T.K) rfl) (pv 0) pe_int (by intro _ _; rfl)) pa_nil)) (pv 1))) (pss_cons (ps_asg (pe_op op_fdivW (pe_ix (ix_seqK (K := T.K) rfl) (pv 0) pe_int (by intro _ _; rfl)) (pv 1)) (pg_sub (pv 0) pe_int set_list)) (pss_one (ps_ret (pv 2))))) pss_nil) (pss_cons (ps_asg (pe_op op_addQ (pe_ix (ix_seqK (K := T.K) rfl) (pv 0) pe_int (by intro _ _; rfl)) pe_int) (pg_sub (pv 0) pe_int set_list)) (pss_one (ps_ret (pe_op op_mod (pe_callTy cr_int (by rfl) z_int (by decide +kernel) (pa_cons (pe_cal c__law_mixed (hr.mono (by decide)) (by rfl) (pa_cons (pe_ix (ix_seqK (K := T.K) rfl) (pv 0) pe_int (by intro _ _; rfl)) (pa_cons (pe_ix (ix_seqK (K := T.K) rfl) (pv 0) pe_int (by intro _ _; rfl)) pa_nil))) pa_nil)) (pv 1)))))), fun D hrt hnx => ?_⟩
  have ok := okk1 hk0
  suffices hx : XS _ D F0 [some (vr p0), some (va T x1), none] (stt Ω [(k0, lstA T p0 (x0 : List Int))] []) by
    rw [show (stt Ω [(k0, lstA T p0 (x0 : List Int))] []) = Ω from stt_self (by simp [hk0])] at hx
    exact hx
  unfold M__law_draw at hm
  obtain ⟨z1, hz1, hm⟩ := bnd_some hm
  by_cases hc : (decide ((0 : Int) < z1)) = true
  · rw [if_pos hc] at hm
    refine xs_ifT (xt_eq (xt_test (T := T) (xe_gt (xe_ix (xe_var (i := 0) rfl) xe_int (isL_M (stt_get ok (i := 0) rfl)) hz1) xe_int)) hc) ?_
    obtain ⟨z2, hz2, hm⟩ := bnd_some hm
    obtain ⟨z3, hz3, hm⟩ := bnd_some hm
    obtain ⟨y4, hy4, hm⟩ := bnd_some hm
    refine xs_set (A := va T y4) (xe_eq (xe_mod (chkP_some hz3) (xe_int1 (xe_ix (xe_var (i := 0) rfl) xe_int (isL_M (stt_get ok (i := 0) rfl)) hz2)) (xe_var (i := 1) rfl)) (Option.some.inj hy4)) ?_
    show XS (tSeq _ _) _ _ [some (vr p0), some (va T x1), some (va T y4)] (stt Ω [(k0, lstA T p0 (x0 : List Int))] [])
    obtain ⟨z5, hz5, hm⟩ := bnd_some hm
    obtain ⟨z6, hz6, hm⟩ := bnd_some hm
    obtain ⟨y7, hy7, hm⟩ := bnd_some hm
    obtain ⟨z8, hz8, hm⟩ := bnd_some hm
    refine xs_setL (xe_eq (xe_fdiv (chkP_some hz6) (xe_ix (xe_var (i := 0) rfl) xe_int (isL_M (stt_get ok (i := 0) rfl)) hz5) (xe_var (i := 1) rfl)) (Option.some.inj hy7)) (xe_var (i := 0) rfl) xe_int (stt_get ok (i := 0) rfl) hz8 ?_
    rw [(stt_set ok (i := 0) rfl)]
    show XS (tRet _) _ _ [some (vr p0), some (va T x1), some (va T y4)] (stt Ω [(k0, lstA T p0 ((x0.set z8 y7) : List Int))] [])
    obtain rfl := Option.some.inj hm
    refine xs_ret (xe_var (i := 2) rfl) hrt.all
  · rw [if_neg hc] at hm
    refine xs_ifN (xt_eq (xt_test (T := T) (xe_gt (xe_ix (xe_var (i := 0) rfl) xe_int (isL_M (stt_get ok (i := 0) rfl)) hz1) xe_int)) (nt hc)) ?_
    show XS (tSeq _ _) _ _ [some (vr p0), some (va T x1), none] (stt Ω [(k0, lstA T p0 (x0 : List Int))] [])
    obtain ⟨z9, hz9, hm⟩ := bnd_some hm
    obtain ⟨y10, hy10, hm⟩ := bnd_some hm
    obtain ⟨z11, hz11, hm⟩ := bnd_some hm
    refine xs_setL (xe_eq (xe_add (xe_ix (xe_var (i := 0) rfl) xe_int (isL_M (stt_get ok (i := 0) rfl)) hz9) xe_int) (Option.some.inj hy10)) (xe_var (i := 0) rfl) xe_int (stt_get ok (i := 0) rfl) hz11 ?_
    rw [(stt_set ok (i := 0) rfl)]
    show XS (tRet _) _ _ [some (vr p0), some (va T x1), none] (stt Ω [(k0, lstA T p0 ((x0.set z11 y10) : List Int))] [])
    obtain ⟨z12, hz12, hm⟩ := bnd_some hm
    obtain ⟨z13, hz13, hm⟩ := bnd_some hm
    obtain ⟨z14, hz14, hm⟩ := bnd_some hm
    obtain ⟨z15, hz15, hm⟩ := bnd_some hm
    obtain rfl := Option.some.inj hm
    refine xs_ret (xe_mod (chkP_some hz15) (xe_int1 (xe_call (xa_cons (xe_ix (xe_var (i := 0) rfl) xe_int (isL_M (stt_get ok (i := 0) rfl)) hz12) (xa_cons (xe_ix (xe_var (i := 0) rfl) xe_int (isL_M (stt_get ok (i := 0) rfl)) hz13) xa_nil)) ⟨z12, z13, z14, rfl, hz14, rfl⟩ cal0)) (xe_var (i := 1) rfl)) hrt.all
noncomputable def M__law_one (x0 : List Int) (x1 : List Int) : Option (Int × List Int) :=
  (M__law_draw x0 (x1.length : Int)).bind fun z1 => (atI x1 z1.1).bind fun z2 => some (z2, z1.2)
def Pre__law_one (T : TC) : PreT := fun As Ω R => ∃ (k0 : Nat) (p0 : Addr) (x0 : List Int) (x1 : List Int) (r : Int × List Int), As = [vr p0, va T (LF.mk x1)] ∧ Ω[k0]? = some (lstA T p0 x0) ∧ M__law_one x0 x1 = some r ∧ R = RV (va T r.1) (stt Ω [(k0, lstA T p0 r.2)] [])
theorem sc__law_one : FnScope ["_law_source_here", "_law_some"] ["_law_source_here", "_law_some"] (defScope s__law_one) := ⟨rfl, rfl, rfl, by decide +kernel, rfl, by decide +kernel, by decide +kernel⟩
theorem ok__law_one {f : Addr} {fd : FuncData} (F : Fun T.K "_law_one" "_law_one" s__law_one f fd) (z_len : mg "len" = none) (c__law_draw : Cal P w T.K mg base 2 "_law_draw" ["_law_source_here", "_law_bound"] (mkSp (Pre__law_draw T))) : FnOk P w T.K mg base CX0 3 f fd ["_law_source_here", "_law_some"] (mkSp (Pre__law_one T)) := by
  refine fn_ok F sc__law_one (fun As Ω R h => ?_) (fun cdv A outer s H E hr As Ω R F0 h => ?_)
  · obtain ⟨k0, p0, x0, x1, r, rfl, _⟩ := h
    rfl
  obtain ⟨k0, p0, x0, x1, r, rfl, hk0, hm, rfl⟩ := h
  refine ⟨_, (pss_one (ps_ret (pe_ix (ix_seqK (K := T.K) rfl) (pv 1) (pe_cal c__law_draw (hr.mono (by decide)) (by rfl) (pa_cons (pv 0) (pa_cons (pe_callB (cr_lenK (K := T.K) rfl) (by rfl) z_len PySem.boot_len (pa_cons (pv 1) pa_nil)) pa_nil))) (by intro _ _; rfl)))), fun D hrt hnx => ?_⟩
  have ok := okk1 hk0
  suffices hx : XS _ D F0 [some (vr p0), some (va T (LF.mk x1))] (stt Ω [(k0, lstA T p0 (x0 : List Int))] []) by
    rw [show (stt Ω [(k0, lstA T p0 (x0 : List Int))] []) = Ω from stt_self (by simp [hk0])] at hx
    exact hx
  unfold M__law_one at hm
  obtain ⟨z1, hz1, hm⟩ := bnd_some hm
  obtain ⟨z2, hz2, hm⟩ := bnd_some hm
  obtain rfl := Option.some.inj hm
  refine xs_ret (xe_ix (xe_var (i := 1) rfl) (xe_call (xa_cons (xe_var (i := 0) rfl) (xa_cons (xe_lenL (xe_var (i := 1) rfl) isL_LF) xa_nil)) ⟨k0, p0, x0, (x1.length : Int), z1, rfl, (stt_get ok (i := 0) rfl), hz1, rfl⟩ (cal1 ok (i := 0) rfl)) isL_LF hz2) hrt.all
noncomputable def M__law_engines (x0 : List Int) : Option ((MS × MS) × List Int) :=
  (M__law_draw x0 (23 : Int)).bind fun z1 => (M__law_draw z1.2 (23 : Int)).bind fun z2 => (M__law_one z2.2 ([(8 : Int), (8 : Int), (8 : Int), (9 : Int), (13 : Int), (15 : Int), (30 : Int), ((8 : Int) + z1.1), ((8 : Int) + z2.1)] : List Int)).bind fun z3 => (M__law_draw z3.2 (9 : Int)).bind fun z4 => (M__law_one z4.2 ([(2 : Int), (3 : Int), (4 : Int), (7 : Int), ((2 : Int) + z4.1)] : List Int)).bind fun z5 => (chkP (-(2 ^ 62) ≤ (2 : Int) ∧ (2 : Int) < 2 ^ 62)).bind fun z6 => (chkP ((8 ≤ z3.1 ∧ z3.1 ≤ 30) ∧ 2 ≤ z5.1 ∧ z5.1 ≤ 1000)).bind fun z8 => some (((MS.fresh z3.1 z5.1), (MS.fresh z3.1 z5.1)), z5.2)
def Pre__law_engines (T : TC) : PreT := fun As Ω R => ∃ (k0 : Nat) (p0 : Addr) (x0 : List Int) (r : (MS × MS) × List Int), As = [vr p0] ∧ Ω[k0]? = some (lstA T p0 x0) ∧ M__law_engines x0 = some r ∧ R = RMM T (stt Ω [(k0, lstA T p0 r.2)] []) r.1.1 r.1.2
theorem sc__law_engines : FnScope ["_law_source_here", "_law_width", "_law_edge", "_law_k"] ["_law_source_here"] (defScope s__law_engines) := ⟨rfl, rfl, rfl, by decide +kernel, rfl, by decide +kernel, by decide +kernel⟩
theorem ok__law_engines {f : Addr} {fd : FuncData} (F : Fun T.K "_law_engines" "_law_engines" s__law_engines f fd) (c__law_draw : Cal P w T.K mg base 2 "_law_draw" ["_law_source_here", "_law_bound"] (mkSp (Pre__law_draw T))) (c__law_one : Cal P w T.K mg base 3 "_law_one" ["_law_source_here", "_law_some"] (mkSp (Pre__law_one T))) (z_range : mg "range" = none) (c_Machine2 : CalC P w T.K mg base 3 "Machine" (T.C 0) ["self", "bits", "cutoff"] [] (mkSp (Pre_Machine T))) : FnOk P w T.K mg base CX0 5 f fd ["_law_source_here"] (mkSp (Pre__law_engines T)) := by
  refine fn_ok F sc__law_engines (fun As Ω R h => ?_) (fun cdv A outer s H E hr As Ω R F0 h => ?_)
  · obtain ⟨k0, p0, x0, r, rfl, _⟩ := h
    rfl
  obtain ⟨k0, p0, x0, r, rfl, hk0, hm, rfl⟩ := h
  refine ⟨_, (pss_cons (ps_set (i := 1) sc__law_engines.nd rfl (.inr rfl) (pe_cal c__law_one (hr.mono (by decide)) (by rfl) (pa_cons (pv 0) (pa_cons (pe_lst (pa_cons pe_int (pa_cons pe_int (pa_cons pe_int (pa_cons pe_int (pa_cons pe_int (pa_cons pe_int (pa_cons pe_int (pa_cons (pe_op op_addQ pe_int (pe_cal c__law_draw (hr.mono (by decide)) (by rfl) (pa_cons (pv 0) (pa_cons pe_int pa_nil)))) (pa_cons (pe_op op_addQ pe_int (pe_cal c__law_draw (hr.mono (by decide)) (by rfl) (pa_cons (pv 0) (pa_cons pe_int pa_nil)))) pa_nil)))))))))) pa_nil)))) (pss_cons (ps_set (i := 2) sc__law_engines.nd rfl (.inr rfl) (pe_cal c__law_one (hr.mono (by decide)) (by rfl) (pa_cons (pv 0) (pa_cons (pe_lst (pa_cons pe_int (pa_cons pe_int (pa_cons pe_int (pa_cons pe_int (pa_cons (pe_op op_addQ pe_int (pe_cal c__law_draw (hr.mono (by decide)) (by rfl) (pa_cons (pv 0) (pa_cons pe_int pa_nil)))) pa_nil)))))) pa_nil)))) (pss_one (ps_ret (pe_lc (own := [("_law_k", 3)]) rfl sc__law_engines.nd (pi_range1 rfl z_range (pa_cons pe_int pa_nil)) (blkOk_by (N := ["_law_source_here", "_law_width", "_law_edge", "_law_k"]) (sc := defScope s__law_engines) (by decide +kernel)) (fun _ _ _ _ _ => (pg_name (i := 3) sc__law_engines.nd rfl (.inl rfl))) (fun _ _ _ _ _ => pts_nil) (fun _ _ _ _ _ => (pe_calC c_Machine2 (hr.mono (by decide)) (by rfl) (pa_cons (pv 1) (pa_cons (pv 2) pa_nil))))))))), fun D hrt hnx => ?_⟩
  have ok := okk1 hk0
  suffices hx : XS _ D F0 [some (vr p0), none, none, none] (stt Ω [(k0, lstA T p0 (x0 : List Int))] []) by
    rw [show (stt Ω [(k0, lstA T p0 (x0 : List Int))] []) = Ω from stt_self (by simp [hk0])] at hx
    exact hx
  unfold M__law_engines at hm
  obtain ⟨z1, hz1, hm⟩ := bnd_some hm
  obtain ⟨z2, hz2, hm⟩ := bnd_some hm
  obtain ⟨z3, hz3, hm⟩ := bnd_some hm
  refine xs_set (A := va T z3.1) (xe_call (xa_cons (xe_var (i := 0) rfl) (xa_cons (xe_lst (l := [(8 : Int), (8 : Int), (8 : Int), (9 : Int), (13 : Int), (15 : Int), (30 : Int), ((8 : Int) + z1.1), ((8 : Int) + z2.1)]) (xa_cons xe_int (xa_cons xe_int (xa_cons xe_int (xa_cons xe_int (xa_cons xe_int (xa_cons xe_int (xa_cons xe_int (xa_cons (xe_add xe_int (xe_call (xa_cons (xe_var (i := 0) rfl) (xa_cons xe_int xa_nil)) ⟨k0, p0, x0, (23 : Int), z1, rfl, (stt_get ok (i := 0) rfl), hz1, rfl⟩ (cal1 ok (i := 0) rfl))) (xa_cons (xe_add xe_int (xe_call (xa_cons (xe_var (i := 0) rfl) (xa_cons xe_int xa_nil)) ⟨k0, p0, z1.2, (23 : Int), z2, rfl, (stt_get ok (i := 0) rfl), hz2, rfl⟩ (cal1 ok (i := 0) rfl))) xa_nil))))))))) (by show 9 ≤ sizeLine; decide)) xa_nil)) ⟨k0, p0, z2.2, ([(8 : Int), (8 : Int), (8 : Int), (9 : Int), (13 : Int), (15 : Int), (30 : Int), ((8 : Int) + z1.1), ((8 : Int) + z2.1)] : List Int), z3, rfl, (stt_get ok (i := 0) rfl), hz3, rfl⟩ (cal1 ok (i := 0) rfl)) ?_
  show XS (tSeq _ _) _ _ [some (vr p0), some (va T z3.1), none, none] (stt Ω [(k0, lstA T p0 (z3.2 : List Int))] [])
  obtain ⟨z4, hz4, hm⟩ := bnd_some hm
  obtain ⟨z5, hz5, hm⟩ := bnd_some hm
  refine xs_set (A := va T z5.1) (xe_call (xa_cons (xe_var (i := 0) rfl) (xa_cons (xe_lst (l := [(2 : Int), (3 : Int), (4 : Int), (7 : Int), ((2 : Int) + z4.1)]) (xa_cons xe_int (xa_cons xe_int (xa_cons xe_int (xa_cons xe_int (xa_cons (xe_add xe_int (xe_call (xa_cons (xe_var (i := 0) rfl) (xa_cons xe_int xa_nil)) ⟨k0, p0, z3.2, (9 : Int), z4, rfl, (stt_get ok (i := 0) rfl), hz4, rfl⟩ (cal1 ok (i := 0) rfl))) xa_nil))))) (by show 5 ≤ sizeLine; decide)) xa_nil)) ⟨k0, p0, z4.2, ([(2 : Int), (3 : Int), (4 : Int), (7 : Int), ((2 : Int) + z4.1)] : List Int), z5, rfl, (stt_get ok (i := 0) rfl), hz5, rfl⟩ (cal1 ok (i := 0) rfl)) ?_
  show XS (tRet _) _ _ [some (vr p0), some (va T z3.1), some (va T z5.1), none] (stt Ω [(k0, lstA T p0 (z5.2 : List Int))] [])
  obtain ⟨z6, hz6, hm⟩ := bnd_some hm
  obtain ⟨z8, hz8, hm⟩ := bnd_some hm
  obtain rfl := Option.some.inj hm
  refine xs_ret (xg_lcMM (T := T) (xi_range1 (T := T) (xa_cons xe_int xa_nil) (chkP_some hz6).1 (chkP_some hz6).2) (fun _ => tgt_name) (by simp) rfl (fun _ _ => xt_yes) (fun _ _ => (xn_make (Ds := []) (xa_cons (xe_var (i := 1) rfl) (xa_cons (xe_var (i := 2) rfl) xa_nil)) (fun _ => .nil) (fun q => ⟨_, q, z3.1, z5.1, rfl, chkP_some hz8, rfl, rfl⟩)))) (RT.allMM hrt)
noncomputable def M__law_digits (x0 : Int) (x1 : Int) : Option (List Int) :=
  (some ([] : List Int)).bind fun y1 => (some ((x0.natAbs : Nat) : Int)).bind fun y4 => (whileM (ρ := Unit) (fun (s5 : Int × (List Int)) => some (decide ((0 : Int) < s5.1))) (fun (s5 : Int × (List Int)) => (chkP (CShl (1 : Int) x1)).bind fun z6 => (chkP (0 < ((1 : Int) * 2 ^ (x1).toNat))).bind fun z7 => (chkP (s5.2.length < sizeLine)).bind fun z8 => (chkP (0 ≤ x1)).bind fun z9 => (some (s5.1 / 2 ^ (x1).toNat)).bind fun y10 => some (Stp.nx (y10, (s5.2 ++ [(s5.1 % ((1 : Int) * 2 ^ (x1).toNat))])))) ((y4).natAbs + 1) (y4, y1)).bind fun z11 => (nxt z11).bind fun s12 => some s12.2
def Pre__law_digits (T : TC) : PreT := fun As Ω R => ∃ (x0 : Int) (x1 : Int) (r : List Int), As = [va T x0, va T x1] ∧ M__law_digits x0 x1 = some r ∧ R = RV (va T (LF.mk r)) (stt Ω [] [])
theorem sc__law_digits : FnScope ["_law_nn", "_law_width", "_law_found"] ["_law_nn", "_law_width"] (defScope s__law_digits) := ⟨rfl, rfl, rfl, by decide +kernel, rfl, by decide +kernel, by decide +kernel⟩
theorem ok__law_digits {f : Addr} {fd : FuncData} (F : Fun T.K "_law_digits" "_law_digits" s__law_digits f fd) (z_abs : mg "abs" = none) (z_int : mg "int" = none) : FnOk P w T.K mg base CX0 2 f fd ["_law_nn", "_law_width"] (mkSp (Pre__law_digits T)) := by
  refine fn_ok F sc__law_digits (fun As Ω R h => ?_) (fun cdv A outer s H E hr As Ω R F0 h => ?_)
  · obtain ⟨x0, x1, r, rfl, _⟩ := h
    rfl
  obtain ⟨x0, x1, r, rfl, hm, rfl⟩ := h
  refine ⟨_, (pss_cons (ps_par (i := 2) (j := 0) rfl sc__law_digits.nd rfl rfl (by decide) rfl rfl (pa_cons (pe_lst pa_nil) (pa_cons (pe_callB cr_abs (by rfl) z_abs (by decide +kernel) (pa_cons (pv 0) pa_nil)) pa_nil)) (by rfl)) (pss_cons (ps_while PassesOwn.never (pt_cmpR op_gt (pv 0) pe_int (nomark _)) (pss_cons (ps_expr (pe_bm PySem.F.plainAttrs_list PySem.F.slot_list_append PySem.F.type_list_append mt_append (pv 2) (pa_cons (pe_op op_mod (pe_callTy cr_int (by rfl) z_int (by decide +kernel) (pa_cons (pv 0) pa_nil)) (pe_op op_shlW pe_int (pv 1))) pa_nil))) (pss_one (ps_set (i := 0) sc__law_digits.nd rfl (.inl rfl) (pe_op op_shr (pv 0) (pv 1)))))) (pss_one (ps_ret (pv 2))))), fun D hrt hnx => ?_⟩
  have ok : Okk Ω [] := okk0
  suffices hx : XS _ D F0 [some (va T x0), some (va T x1), none] (stt Ω [] []) by
    rw [show (stt Ω [] []) = Ω from stt_self (by simp)] at hx
    exact hx
  unfold M__law_digits at hm
  obtain ⟨y1, hy1, hm⟩ := bnd_some hm
  obtain ⟨y4, hy4, hm⟩ := bnd_some hm
  obtain rfl := Option.some.inj hy1
  refine xs_parNV (A := va T y4) (xn_lst (T := T) (l := ([] : List Int)) xa_nil (Nat.zero_le _)) (fun pp2 => (xe_eq (xe_abs (xe_var (i := 0) rfl)) (Option.some.inj hy4))) (fun pp2 => ?_)
  show XS (tSeq _ _) _ _ [some (va T y4), some (va T x1), some (vr pp2)] (stt Ω [] [lstA T pp2 (([] : List Int) : List Int)])
  obtain ⟨z11, hz11, hm⟩ := bnd_some hm
  refine xs_whileS (fun (s5 : Int × (List Int)) => [some (va T s5.1), some (va T x1), some (vr pp2)]) (fun (s5 : Int × (List Int)) => (stt Ω [] [lstA T pp2 (s5.2 : List Int)])) (fun (_ : Unit) _ _ _ => False) hz11 (fun s5 v hc => ?_) (fun s5 s' hc0 hm F1 D1 e1 hD => ?_) (fun s12 es => ?_) (fun r1 es => ?_)
  · clear hm
    have hm := hc
    obtain rfl := Option.some.inj hm
    refine (xt_test (T := T) (xe_gt (xe_var (i := 0) rfl) xe_int))
  · clear hc0
    show XS (tSeq _ _) _ _ [some (va T s5.1), some (va T x1), some (vr pp2)] (stt Ω [] [lstA T pp2 (s5.2 : List Int)])
    obtain ⟨z6, hz6, hm⟩ := bnd_some hm
    obtain ⟨z7, hz7, hm⟩ := bnd_some hm
    obtain ⟨z8, hz8, hm⟩ := bnd_some hm
    refine xs_drop (xe_appE (stt_getL (j := 0) rfl) (stt_getL (j := 0) rfl) (xe_var (i := 2) rfl) (xe_mod (chkP_some hz7) (xe_int1 (xe_var (i := 0) rfl)) (xe_shl (chkP_some hz6) xe_int (xe_var (i := 1) rfl))) (chkP_some hz8) (stt_setL (j := 0))) ?_
    show XS (tAsg _ _) _ _ [some (va T s5.1), some (va T x1), some (vr pp2)] (stt Ω [] [lstA T pp2 ((s5.2 ++ [(s5.1 % ((1 : Int) * 2 ^ (x1).toNat))]) : List Int)])
    obtain ⟨z9, hz9, hm⟩ := bnd_some hm
    obtain ⟨y10, hy10, hm⟩ := bnd_some hm
    refine xs_set1 (A := va T y10) (xe_eq (xe_shr (chkP_some hz9) (xe_var (i := 0) rfl) (xe_var (i := 1) rfl)) (Option.some.inj hy10)) ?_
    obtain rfl := Option.some.inj hm
    exact fun σ H n => hD.nx _ rfl σ H n
  · subst es
    obtain ⟨s2, hs2, hm⟩ := bnd_some hm
    cases hs2
    show XS (tRet _) _ _ [some (va T s12.1), some (va T x1), some (vr pp2)] (stt Ω [] [lstA T pp2 (s12.2 : List Int)])
    obtain rfl := Option.some.inj hm
    refine xs_fzJ (k := 2) (j := 0) rfl rfl ?_
    show XS _ _ _ [some (va T s12.1), some (va T x1), some (va T (LF.mk s12.2))] (stt Ω [] [nilA])
    exact xs_ret (xe_var (i := 2) rfl) hrt.all
  · subst es
    cases hm
noncomputable def M__law_is (x0 : Bg) (x1 : Int) (x2 : Int) : Option Bool :=
  (M_Big_sign x0).bind fun z1 => (M_Big_bits x0).bind fun z2 => (chkP ((z1, z2) = (((if (decide ((0 : Int) < x1)) = true then (1 : Int) else 0) - (if (decide (x1 < (0 : Int))) = true then (1 : Int) else 0)), x2) ∧ Dat.ok (z1, z2))).bind fun z3 => (M_Big_digits x0).bind fun z4 => (M__law_digits x1 x2).bind fun z5 => (chkP (Dat.ok (LF.mk z4) ∧ Dat.ok (LF.mk z5))).bind fun z6 => (chkP ((eqD (LF.mk z4) (LF.mk z5)) = true)).bind fun z7 => (M_plain x0).bind fun z8 => (chkP ((decide (z8 = x1)) = true)).bind fun z9 => some true
def Pre__law_is (T : TC) : PreT := fun As Ω R => ∃ (x0 : Bg) (x1 : Int) (x2 : Int) (r : Bool), As = [va T x0, va T x1, va T x2] ∧ M__law_is x0 x1 x2 = some r ∧ R = RV (va T r) (stt Ω [] [])
theorem sc__law_is : FnScope ["_law_held", "_law_nn", "_law_width"] ["_law_held", "_law_nn", "_law_width"] (defScope s__law_is) := ⟨rfl, rfl, rfl, by decide +kernel, rfl, by decide +kernel, by decide +kernel⟩
theorem ok__law_is {f : Addr} {fd : FuncData} (F : Fun T.K "_law_is" "_law_is" s__law_is f fd) (c_Big_sign : CalM P w T.K mg base 1 (T.C 1) "sign" ["self"] (mkSp (Pre_Big_sign T))) (c_Big_bits : CalM P w T.K mg base 1 (T.C 1) "bits" ["self"] (mkSp (Pre_Big_bits T))) (z_int : mg "int" = none) (c_Big_digits : CalM P w T.K mg base 1 (T.C 1) "digits" ["self"] (mkSp (Pre_Big_digits T))) (c__law_digits : Cal P w T.K mg base 2 "_law_digits" ["_law_nn", "_law_width"] (mkSp (Pre__law_digits T))) (c_plain : Cal P w T.K mg base 2 "plain" ["x"] (mkSp (Pre_plain T))) : FnOk P w T.K mg base CX0 3 f fd ["_law_held", "_law_nn", "_law_width"] (mkSp (Pre__law_is T)) := by
  refine fn_ok F sc__law_is (fun As Ω R h => ?_) (fun cdv A outer s H E hr As Ω R F0 h => ?_)
  · obtain ⟨x0, x1, x2, r, rfl, _⟩ := h
    rfl
  obtain ⟨x0, x1, x2, r, rfl, hm, rfl⟩ := h
  refine ⟨_, (pss_cons (ps_if (pt_cmpR (op_neXK (K := T.K) (by exact hr.units) rfl) (pe_tup (pa_cons (pe_calM0 (pv 0) c_Big_sign (hr.mono (by decide))) (pa_cons (pe_calM0 (pv 0) c_Big_bits (hr.mono (by decide))) pa_nil))) (pe_tup (pa_cons (pe_op op_sub (pe_callTy cr_int (by rfl) z_int (by decide +kernel) (pa_cons (pe_cmpR op_gt (pv 1) pe_int (nomark _)) pa_nil)) (pe_callTy cr_int (by rfl) z_int (by decide +kernel) (pa_cons (pe_cmpR op_lt (pv 1) pe_int (nomark _)) pa_nil))) (pa_cons (pv 2) pa_nil))) (nomark _)) pss_never pss_nil) (pss_one (ps_ret (pe_and (pe_cmpR (op_eqXK (K := T.K) (by exact hr.units) rfl) (pe_calM0 (pv 0) c_Big_digits (hr.mono (by decide))) (pe_cal c__law_digits (hr.mono (by decide)) (by rfl) (pa_cons (pv 1) (pa_cons (pv 2) pa_nil))) (nomark _)) (pe_one (pe_cmpR (op_eqXK (K := T.K) (by exact hr.units) rfl) (pe_cal c_plain (hr.mono (by decide)) (by rfl) (pa_cons (pv 0) pa_nil)) (pv 1) (nomark _))))))), fun D hrt hnx => ?_⟩
  have ok : Okk Ω [] := okk0
  suffices hx : XS _ D F0 [some (va T x0), some (va T x1), some (va T x2)] (stt Ω [] []) by
    rw [show (stt Ω [] []) = Ω from stt_self (by simp)] at hx
    exact hx
  unfold M__law_is at hm
  obtain ⟨z1, hz1, hm⟩ := bnd_some hm
  obtain ⟨z2, hz2, hm⟩ := bnd_some hm
  obtain ⟨z3, hz3, hm⟩ := bnd_some hm
  refine xs_ifN (xt_test (T := T) (xe_neK (chkP_some hz3) (by decide) (xe_tup2 (xa_cons (xe_mcallB (xe_var (i := 0) rfl) xa_nil ⟨x0, z1, rfl, hz1, rfl⟩ cal0) (xa_cons (xe_mcallB (xe_var (i := 0) rfl) xa_nil ⟨x0, z2, rfl, hz2, rfl⟩ cal0) xa_nil))) (xe_tup2 (xa_cons (xe_sub (xe_intb (xe_gt (xe_var (i := 1) rfl) xe_int)) (xe_intb (xe_lt (xe_var (i := 1) rfl) xe_int))) (xa_cons (xe_var (i := 2) rfl) xa_nil))) isD_va isD_va)) ?_
  show XS (tRet _) _ _ [some (va T x0), some (va T x1), some (va T x2)] (stt Ω [] [])
  obtain ⟨z4, hz4, hm⟩ := bnd_some hm
  obtain ⟨z5, hz5, hm⟩ := bnd_some hm
  obtain ⟨z6, hz6, hm⟩ := bnd_some hm
  obtain ⟨z7, hz7, hm⟩ := bnd_some hm
  obtain ⟨z8, hz8, hm⟩ := bnd_some hm
  obtain ⟨z9, hz9, hm⟩ := bnd_some hm
  obtain rfl := Option.some.inj hm
  refine xs_ret (xe_andT (xe_eq (xe_eqD (chkP_some hz6) (by decide) (xe_mcallB (xe_var (i := 0) rfl) xa_nil ⟨x0, z4, rfl, hz4, rfl⟩ cal0) (xe_call (xa_cons (xe_var (i := 1) rfl) (xa_cons (xe_var (i := 2) rfl) xa_nil)) ⟨x1, x2, z5, rfl, hz5, rfl⟩ cal0) isD_va isD_va) (chkP_some hz7)) (xe_eq (xe_eqI (xe_call (xa_cons (xe_var (i := 0) rfl) xa_nil) ⟨x0, z8, rfl, hz8, rfl⟩ cal0) (xe_var (i := 1) rfl)) (chkP_some hz9))) hrt.all
noncomputable def M__law_ran (x1 : MS) (x2 : List (T3 Str Int Int)) (x3 : List (Str × Int)) (x4 : MS → Option (Bg × MS)) : Option (Bg × MS × List (T3 Str Int Int)) :=
  (some (x1.wk.length : Int)).bind fun y1 => (x4 x1).bind fun z2 => (chkP (x2.length + (cut z2.2.wk (some y1) none).length ≤ sizeLine)).bind fun z3 => some (z2.1, z2.2, (x2 ++ (cut z2.2.wk (some y1) none)))
def Pre__law_ran (T : TC) : PreLT1 := fun fL cL qL actL As Ω R => ∃ (k0 : Nat) (p0 : Addr) (k1 : Nat) (p1 : Addr) (x1 : MS) (k2 : Nat) (p2 : Addr) (x2 : List (T3 Str Int Int)) (k3 : Nat) (p3 : Addr) (x3 : List (Str × Int)) (x4 : MS → Option (Bg × MS)) (r : Bg × MS × List (T3 Str Int Int)), As = [vr p0, askA1 T fL cL qL actL Ω k1 p1 x4] ∧ Ω[k0]? = some (rawD p0 (wev p1 p2 p3)) ∧ Ω[k1]? = some (machA T p1 x1) ∧ Ω[k2]? = some (lstA T p2 x2) ∧ Ω[k3]? = some (rawD p3 (dkv x3)) ∧ k0 ≠ k1 ∧ k0 ≠ k2 ∧ k0 ≠ k3 ∧ k1 ≠ k2 ∧ k1 ≠ k3 ∧ k2 ≠ k3 ∧ M__law_ran x1 x2 x3 x4 = some r ∧ R = RV (va T r.1) (stt Ω [(k1, machA T p1 r.2.1), (k2, lstA T p2 r.2.2)] [])
theorem sc__law_ran : FnScope ["_law_world_here", "_law_ask", "_law_before", "_law_found"] ["_law_world_here", "_law_ask"] (defScope s__law_ran) := ⟨rfl, rfl, rfl, by decide +kernel, rfl, by decide +kernel, by decide +kernel⟩
theorem ok__law_ran {f : Addr} {fd : FuncData} (F : Fun T.K "_law_ran" "_law_ran" s__law_ran f fd) (mc : MCls T.K (T.C 0)) (c_Mach_walk : CalM P w T.K mg base 1 (T.C 0) "walk" ["self"] (mkSp (Pre_Mach_walk T))) (z_len : mg "len" = none) (hmg : mg "_law_ran" = some (.ref f)) (hbd : Binds T.K fd ["_law_world_here", "_law_ask"] []) : CalL1 P w T.K mg base 47 49 "_law_ran" ["_law_world_here", "_law_ask"] (Pre__law_ran T) := by
  refine fnL_ok1 F sc__law_ran (fun fL cL qL actL As Ω R h => ?_) (by decide) (fun cdv A outer s H fL cL qL actL hr hact As Ω R F0 h => ?_) hmg hbd
  · obtain ⟨k0, p0, k1, p1, x1, k2, p2, x2, k3, p3, x3, x4, r, rfl, _⟩ := h
    rfl
  obtain ⟨k0, p0, k1, p1, x1, k2, p2, x2, k3, p3, x3, x4, r, rfl, hk0, hk1, hk2, hk3, ne01, ne02, ne03, ne12, ne13, ne23, hm, rfl⟩ := h
  refine ⟨_, (pss_cons (ps_set (i := 2) sc__law_ran.nd rfl (.inl rfl) (pe_callB (cr_lenK (K := T.K) rfl) (by rfl) z_len PySem.boot_len (pa_cons (pe_calM0 (pe_dget (by exact hu_of hr) (pv 0) pe_str (by intro _ _; rfl)) c_Mach_walk (hr.mono (by decide))) pa_nil))) (pss_cons (ps_set (i := 3) sc__law_ran.nd rfl (.inl rfl) (hact 1 "_law_ask" _ _ _ _ rfl (.inl rfl) (by decide) (by decide) (pe_dget (by exact hu_of hr) (pv 0) pe_str (by intro _ _; rfl)) (by rfl))) (pss_cons (ps_expr (pe_bm PySem.F.plainAttrs_list PySem.F.slot_list_extend PySem.F.type_list_extend mt_extend (pe_dget (by exact hu_of hr) (pv 0) pe_str (by intro _ _; rfl)) (pa_cons (pe_slice (sl_listK (K := T.K) rfl) (pe_calM0 (pe_dget (by exact hu_of hr) (pv 0) pe_str (by intro _ _; rfl)) c_Mach_walk (hr.mono (by decide))) (po_some (pv 2)) po_none) pa_nil))) (pss_one (ps_ret (pv 3)))))), fun D hrt hnx => ?_⟩
  have ok := okk2 hk1 hk2 ne12
  suffices hx : XS _ D F0 [some (vr p0), some (askA1 T fL cL qL actL Ω k1 p1 x4), none, none] (stt Ω [(k1, machA T p1 x1), (k2, lstA T p2 (x2 : List (T3 Str Int Int)))] []) by
    rw [show (stt Ω [(k1, machA T p1 x1), (k2, lstA T p2 (x2 : List (T3 Str Int Int)))] []) = Ω from stt_self (by simp [hk1, hk2])] at hx
    exact hx
  unfold M__law_ran at hm
  obtain ⟨y1, hy1, hm⟩ := bnd_some hm
  refine xs_set (A := va T y1) (xe_eq (xe_lenL (xe_mcall (xe_wget (T := T) (xe_var (i := 0) rfl) xe_str (stt_getU hk0 (by simp [ne01, ne01.symm, ne02, ne02.symm, ne03, ne03.symm, ne12, ne12.symm, ne13, ne13.symm, ne23, ne23.symm])) wev_engine (fun _ => rfl)) (stt_get ok (i := 0) rfl) xa_nil ⟨k1, p1, x1, rfl, (stt_get ok (i := 0) rfl), rfl⟩ rfl) isL_LF) (Option.some.inj hy1)) ?_
  show XS (tSeq _ _) _ _ [some (vr p0), some (askA1 T fL cL qL actL Ω k1 p1 x4), some (va T y1), none] (stt Ω [(k1, machA T p1 x1), (k2, lstA T p2 (x2 : List (T3 Str Int Int)))] [])
  obtain ⟨z2, hz2, hm⟩ := bnd_some hm
  refine xs_set (A := va T z2.1) (xe_ask1 (i := 1) rfl (xe_wget (T := T) (xe_var (i := 0) rfl) xe_str (stt_getU hk0 (by simp [ne01, ne01.symm, ne02, ne02.symm, ne03, ne03.symm, ne12, ne12.symm, ne13, ne13.symm, ne23, ne23.symm])) wev_engine (fun _ => rfl)) (stt_2own hk2) (stt_2own hk2).symm hz2) ?_
  show XS (tSeq _ _) _ _ [some (vr p0), some (askA1 T fL cL qL actL Ω k1 p1 x4), some (va T y1), some (va T z2.1)] (stt Ω [(k1, machA T p1 z2.2), (k2, lstA T p2 (x2 : List (T3 Str Int Int)))] [])
  obtain ⟨z3, hz3, hm⟩ := bnd_some hm
  refine xs_drop (xe_ext (stt_get ok (i := 1) rfl) (stt_get ok (i := 1) rfl) (xe_wget (T := T) (xe_var (i := 0) rfl) xe_str (stt_getU hk0 (by simp [ne01, ne01.symm, ne02, ne02.symm, ne03, ne03.symm, ne12, ne12.symm, ne13, ne13.symm, ne23, ne23.symm])) wev_walk (fun _ => rfl)) (xe_sliceL (xe_mcall (xe_wget (T := T) (xe_var (i := 0) rfl) xe_str (stt_getU hk0 (by simp [ne01, ne01.symm, ne02, ne02.symm, ne03, ne03.symm, ne12, ne12.symm, ne13, ne13.symm, ne23, ne23.symm])) wev_engine (fun _ => rfl)) (stt_get ok (i := 0) rfl) xa_nil ⟨k1, p1, z2.2, rfl, (stt_get ok (i := 0) rfl), rfl⟩ rfl) (xo_some (T := T) (xe_var (i := 2) rfl)) xo_none isL_LF) (chkP_some hz3) (stt_set ok (i := 1) rfl)) ?_
  show XS (tRet _) _ _ [some (vr p0), some (askA1 T fL cL qL actL Ω k1 p1 x4), some (va T y1), some (va T z2.1)] (stt Ω [(k1, machA T p1 z2.2), (k2, lstA T p2 ((x2 ++ (cut z2.2.wk (some y1) none)) : List (T3 Str Int Int)))] [])
  obtain rfl := Option.some.inj hm
  refine xs_ret (xe_var (i := 3) rfl) hrt.all
noncomputable def M__law_world (x0 : MS) : Option Unit :=
  some ()
def Pre__law_world (T : TC) : PreT := fun As Ω R => ∃ (k0 : Nat) (p0 : Addr) (x0 : MS) (r : Unit), As = [vr p0] ∧ Ω[k0]? = some (machA T p0 x0) ∧ M__law_world x0 = some r ∧ R = RNE T (stt Ω [] []) p0
theorem sc__law_world : FnScope ["_law_engine"] ["_law_engine"] (defScope s__law_world) := ⟨rfl, rfl, rfl, by decide +kernel, rfl, by decide +kernel, by decide +kernel⟩
theorem ok__law_world {f : Addr} {fd : FuncData} (F : Fun T.K "_law_world" "_law_world" s__law_world f fd)  : FnOk P w T.K mg base CX0 1 f fd ["_law_engine"] (mkSp (Pre__law_world T)) := by
  refine fn_ok F sc__law_world (fun As Ω R h => ?_) (fun cdv A outer s H E hr As Ω R F0 h => ?_)
  · obtain ⟨k0, p0, x0, r, rfl, _⟩ := h
    rfl
  obtain ⟨k0, p0, x0, r, rfl, hk0, hm, rfl⟩ := h
  refine ⟨_, (pss_one (ps_ret (pe_disp (pps_cons pe_str (pv 0) (pps_cons pe_str (pe_lst pa_nil) (pps_cons pe_str pe_dnewK pps_nil))) (by rfl) (by rfl) (fun z => by cases z) (by decide)))), fun D hrt hnx => ?_⟩
  have ok : Okk Ω [] := okk0
  suffices hx : XS _ D F0 [some (vr p0)] (stt Ω [] []) by
    rw [show (stt Ω [] []) = Ω from stt_self (by simp)] at hx
    exact hx
  unfold M__law_world at hm
  obtain rfl := Option.some.inj hm
  refine xs_ret (xg_worldE (Ω := Ω) (ks := []) (L := []) (fun X => (xe_var (i := 0) rfl)) (fun X => xn_lst (T := T) (l := ([] : List (T3 Str Int Int))) xa_nil (Nat.zero_le _))) hrt
noncomputable def M__law_as_world (x0 : MS) (x2 : MS) (x3 : List (T3 Str Int Int)) (x4 : List (Str × Int)) : Option Bool :=
  (chkP (x2.tally.length ≤ sizeLine)).bind fun z1 => (lcM (fun (a3 : (Str × Int)) (s2 : Unit) => some (some (a3.1, (a3.2 + ((x4.lookup a3.1).getD (0 : Int)))), ())) x2.tally ()).bind fun z4 => (chkP (Dat.ok (LF.mk x0.tally) ∧ Dat.ok (LF.mk z4.1))).bind fun z6 => (chkP ((eqD (LF.mk x0.tally) (LF.mk z4.1)) = true)).bind fun z7 => (chkP (Dat.ok (LF.mk x0.wk) ∧ Dat.ok (LF.mk (cut x3 none (some (1000 : Int)))))).bind fun z8 => (chkP ((eqD (LF.mk x0.wk) (LF.mk (cut x3 none (some (1000 : Int))))) = true)).bind fun z9 => some true
def Pre__law_as_world (T : TC) : PreT := fun As Ω R => ∃ (k0 : Nat) (p0 : Addr) (x0 : MS) (k1 : Nat) (p1 : Addr) (k2 : Nat) (p2 : Addr) (x2 : MS) (k3 : Nat) (p3 : Addr) (x3 : List (T3 Str Int Int)) (k4 : Nat) (p4 : Addr) (x4 : List (Str × Int)) (r : Bool), As = [vr p0, vr p1] ∧ Ω[k0]? = some (machA T p0 x0) ∧ Ω[k1]? = some (rawD p1 (wev p2 p3 p4)) ∧ Ω[k2]? = some (machA T p2 x2) ∧ Ω[k3]? = some (lstA T p3 x3) ∧ Ω[k4]? = some (rawD p4 (dkv x4)) ∧ k0 ≠ k1 ∧ k0 ≠ k2 ∧ k0 ≠ k3 ∧ k0 ≠ k4 ∧ k1 ≠ k2 ∧ k1 ≠ k3 ∧ k1 ≠ k4 ∧ k2 ≠ k3 ∧ k2 ≠ k4 ∧ k3 ≠ k4 ∧ M__law_as_world x0 x2 x3 x4 = some r ∧ R = RV (va T r) (stt Ω [] [])
theorem sc__law_as_world : FnScope ["_law_engine", "_law_world_here", "_law_tally_so", "_law_word", "_law_number"] ["_law_engine", "_law_world_here"] (defScope s__law_as_world) := ⟨rfl, rfl, rfl, by decide +kernel, rfl, by decide +kernel, by decide +kernel⟩
theorem ok__law_as_world {f : Addr} {fd : FuncData} (F : Fun T.K "_law_as_world" "_law_as_world" s__law_as_world f fd) (mc : MCls T.K (T.C 0)) (c_Mach_tally : CalM P w T.K mg base 1 (T.C 0) "tally" ["self"] (mkSp (Pre_Mach_tally T))) (c_Mach_walk : CalM P w T.K mg base 1 (T.C 0) "walk" ["self"] (mkSp (Pre_Mach_walk T))) : FnOk P w T.K mg base CX0 2 f fd ["_law_engine", "_law_world_here"] (mkSp (Pre__law_as_world T)) := by
  refine fn_ok F sc__law_as_world (fun As Ω R h => ?_) (fun cdv A outer s H E hr As Ω R F0 h => ?_)
  · obtain ⟨k0, p0, x0, k1, p1, k2, p2, x2, k3, p3, x3, k4, p4, x4, r, rfl, _⟩ := h
    rfl
  obtain ⟨k0, p0, x0, k1, p1, k2, p2, x2, k3, p3, x3, k4, p4, x4, r, rfl, hk0, hk1, hk2, hk3, hk4, ne01, ne02, ne03, ne04, ne12, ne13, ne14, ne23, ne24, ne34, hm, rfl⟩ := h
  refine ⟨_, (pss_cons (ps_setLc (i := 2) (own := [("_law_word", 3), ("_law_number", 4)]) rfl sc__law_as_world.nd rfl rfl (sw_true rfl rfl rfl (by decide +kernel)) (pi_listK (K := T.K) (pe_calM0 (pe_dget (by exact hu_of hr) (pv 1) pe_str (by intro _ _; rfl)) c_Mach_tally (hr.mono (by decide))) rfl) (blkOk_by (N := ["_law_engine", "_law_world_here", "_law_tally_so", "_law_word", "_law_number"]) (sc := defScope s__law_as_world) (by decide +kernel)) (fun _ _ _ _ _ => (pg_tupK (K := T.K) (n := 2) rfl rfl (pgs_cons (pg_name (i := 3) sc__law_as_world.nd rfl (.inl rfl)) (pgs_cons (pg_name (i := 4) sc__law_as_world.nd rfl (.inl rfl)) pgs_nil)))) (fun _ _ _ _ _ => pts_nil) (fun _ _ _ _ _ => (pe_tup (pa_cons (pv 3) (pa_cons (pe_op op_addQ (pv 4) (pe_dget2 (by exact hu_of hr) (pe_dget (by exact hu_of hr) (pv 1) pe_str (by intro _ _; rfl)) (pv 3) pe_int ⟨by rfl, by rfl, by rfl, by rfl⟩)) pa_nil))))) (pss_one (ps_ret (pe_and (pe_cmpR (op_eqXK (K := T.K) (by exact hr.units) rfl) (pe_calM0 (pv 0) c_Mach_tally (hr.mono (by decide))) (pv 2) (nomark _)) (pe_one (pe_cmpR (op_eqXK (K := T.K) (by exact hr.units) rfl) (pe_calM0 (pv 0) c_Mach_walk (hr.mono (by decide))) (pe_slice (sl_listK (K := T.K) rfl) (pe_dget (by exact hu_of hr) (pv 1) pe_str (by intro _ _; rfl)) po_none (po_some pe_int)) (nomark _))))))), fun D hrt hnx => ?_⟩
  have ok : Okk Ω [] := okk0
  suffices hx : XS _ D F0 [some (vr p0), some (vr p1), none, none, none] (stt Ω [] []) by
    rw [show (stt Ω [] []) = Ω from stt_self (by simp)] at hx
    exact hx
  unfold M__law_as_world at hm
  obtain ⟨z1, hz1, hm⟩ := bnd_some hm
  obtain ⟨z4, hz4, hm⟩ := bnd_some hm
  refine xs_set (A := va T (LF.mk z4.1)) (xe_fz (xn_lcS (T := T) (fun (s2 : Unit) => []) (fun (s2 : Unit) => []) hz4 (xi_LF (xe_mcall (xe_wget (T := T) (xe_var (i := 1) rfl) xe_str (stt_getU hk1) wev_engine (fun _ => rfl)) (stt_getU hk2) xa_nil ⟨k2, p2, x2, rfl, (stt_getU hk2), rfl⟩ rfl)) (fun _ => tgt_pair) (by simp) (chkP_some hz1) ?q5)) ?_
  case q5 =>
    exact (fun a3 s2 o s2 ha hm X => by
      obtain ⟨rfl, rfl⟩ := Prod.mk.inj (Option.some.inj hm)
      refine ⟨(fun e => nomatch e), fun y e => ?_⟩
      obtain rfl := Option.some.inj e
      refine ⟨xt_yes, (xe_tup2 (xa_cons (xe_var (i := 3) rfl) (xa_cons (xe_add (xe_var (i := 4) rfl) (xe_dget2O (xe_wget (T := T) (xe_var (i := 1) rfl) xe_str (stt_getU hk1) wev_counts (fun _ => rfl)) (xe_var (i := 3) rfl) xe_int (stt_getU hk4) (stt_getU hk4))) xa_nil)))⟩)
  show XS (tRet _) _ _ [some (vr p0), some (vr p1), some (va T (LF.mk z4.1)), none, none] (stt Ω [] [])
  obtain ⟨z6, hz6, hm⟩ := bnd_some hm
  obtain ⟨z7, hz7, hm⟩ := bnd_some hm
  obtain ⟨z8, hz8, hm⟩ := bnd_some hm
  obtain ⟨z9, hz9, hm⟩ := bnd_some hm
  obtain rfl := Option.some.inj hm
  refine xs_ret (xe_andT (xe_eq (xe_eqD (chkP_some hz6) (by decide) (xe_mcall (xe_var (i := 0) rfl) (stt_getU hk0) xa_nil ⟨k0, p0, x0, rfl, (stt_getU hk0), rfl⟩ rfl) (xe_var (i := 2) rfl) isD_va isD_va) (chkP_some hz7)) (xe_eq (xe_eqD (chkP_some hz8) (by decide) (xe_mcall (xe_var (i := 0) rfl) (stt_getU hk0) xa_nil ⟨k0, p0, x0, rfl, (stt_getU hk0), rfl⟩ rfl) (xe_sliceL (xe_wget (T := T) (xe_var (i := 1) rfl) xe_str (stt_getU hk1) wev_walk (fun _ => rfl)) xo_none (xo_some (T := T) xe_int) (isL_M (stt_getU hk3))) isD_va isD_va) (chkP_some hz9))) hrt.all
noncomputable def M__law_odds : Nat → MS → (List (T3 Str Int Int)) → (List (Str × Int)) → Int → Int → Option (Bg × MS × List (T3 Str Int Int))
  | 0, _, _, _, _, _ => none
  | kf + 1, x1, x2, x3, x4, x5 => (chkP (x2.length < sizeLine)).bind fun z1 => (chkP (CRgA x4 x5 (2 : Int) ∧ ((x5 - x4 + (2 : Int) - 1) / (2 : Int)).toNat ≤ 16777216)).bind fun z2 => (some (rngA x4 (2 : Int) ((x5 - x4 + (2 : Int) - 1) / (2 : Int)).toNat)).bind fun y3 => (if (decide ((y3.length : Int) ≤ (64 : Int))) = true then (atI y3 (-(1 : Int))).bind fun z4 => (chkP (IntMulOk (y3.length : Int) ((Builtin.Int.intBits z4 : Nat) : Int))).bind fun z5 => some (decide (((y3.length : Int) * ((Builtin.Int.intBits z4 : Nat) : Int)) ≤ (64 : Int))) else some false).bind fun z6 => if z6 = true then (forM' (ρ := Unit) (fun (a9 : Int) (s8 : Int) => (chkP (IntMulOk s8 a9)).bind fun z10 => (some (s8 * a9)).bind fun y11 => some (Stp.nx y11)) y3 (1 : Int)).bind fun z12 => (nxt z12).bind fun s13 => (M_big x1 s13).bind fun z14 => some (z14, x1, (x2 ++ [(T3.mk ("odd part" : Str) x4 x5)])) else (some (Builtin.bitOr (x4 + (y3.length : Int)) (1 : Int))).bind fun y15 => (M__law_odds kf x1 (x2 ++ [(T3.mk ("odd part" : Str) x4 x5)]) x3 x4 y15).bind fun z16 => (M__law_odds kf z16.2.1 z16.2.2 x3 y15 x5).bind fun z17 => (M__law_ran z17.2.1 z17.2.2 x3 (fun (m18 : MS) => (M_multiply m18 z16.1 z17.1).bind fun z19 => some (z19.1, z19.2))).bind fun z21 => some (z21.1, z21.2.1, z21.2.2)
theorem M__law_odds_succ (kf : Nat) (x1 : MS) (x2 : List (T3 Str Int Int)) (x3 : List (Str × Int)) (x4 : Int) (x5 : Int) : M__law_odds (kf + 1) x1 x2 x3 x4 x5 = ((chkP (x2.length < sizeLine)).bind fun z1 => (chkP (CRgA x4 x5 (2 : Int) ∧ ((x5 - x4 + (2 : Int) - 1) / (2 : Int)).toNat ≤ 16777216)).bind fun z2 => (some (rngA x4 (2 : Int) ((x5 - x4 + (2 : Int) - 1) / (2 : Int)).toNat)).bind fun y3 => (if (decide ((y3.length : Int) ≤ (64 : Int))) = true then (atI y3 (-(1 : Int))).bind fun z4 => (chkP (IntMulOk (y3.length : Int) ((Builtin.Int.intBits z4 : Nat) : Int))).bind fun z5 => some (decide (((y3.length : Int) * ((Builtin.Int.intBits z4 : Nat) : Int)) ≤ (64 : Int))) else some false).bind fun z6 => if z6 = true then (forM' (ρ := Unit) (fun (a9 : Int) (s8 : Int) => (chkP (IntMulOk s8 a9)).bind fun z10 => (some (s8 * a9)).bind fun y11 => some (Stp.nx y11)) y3 (1 : Int)).bind fun z12 => (nxt z12).bind fun s13 => (M_big x1 s13).bind fun z14 => some (z14, x1, (x2 ++ [(T3.mk ("odd part" : Str) x4 x5)])) else (some (Builtin.bitOr (x4 + (y3.length : Int)) (1 : Int))).bind fun y15 => (M__law_odds kf x1 (x2 ++ [(T3.mk ("odd part" : Str) x4 x5)]) x3 x4 y15).bind fun z16 => (M__law_odds kf z16.2.1 z16.2.2 x3 y15 x5).bind fun z17 => (M__law_ran z17.2.1 z17.2.2 x3 (fun (m18 : MS) => (M_multiply m18 z16.1 z17.1).bind fun z19 => some (z19.1, z19.2))).bind fun z21 => some (z21.1, z21.2.1, z21.2.2)) := by rw [M__law_odds]
theorem M__law_odds_zero (x1 : MS) (x2 : List (T3 Str Int Int)) (x3 : List (Str × Int)) (x4 : Int) (x5 : Int) : M__law_odds 0 x1 x2 x3 x4 x5 = none := by rw [M__law_odds]
def Pre__law_odds (kf : Nat) (T : TC) : PreT := fun As Ω R => ∃ (kT : Nat) (k0 : Nat) (p0 : Addr) (k1 : Nat) (p1 : Addr) (x1 : MS) (k2 : Nat) (p2 : Addr) (x2 : List (T3 Str Int Int)) (k3 : Nat) (p3 : Addr) (x3 : List (Str × Int)) (x4 : Int) (x5 : Int) (r : Bg × MS × List (T3 Str Int Int)), As = [vr p0, va T x4, va T x5] ∧ Ω[kT]? = some (tabA (tbs T)) ∧ Ω[k0]? = some (rawD p0 (wev p1 p2 p3)) ∧ Ω[k1]? = some (machA T p1 x1) ∧ Ω[k2]? = some (lstA T p2 x2) ∧ Ω[k3]? = some (rawD p3 (dkv x3)) ∧ k0 ≠ k1 ∧ k0 ≠ k2 ∧ k0 ≠ k3 ∧ k1 ≠ k2 ∧ k1 ≠ k3 ∧ k2 ≠ k3 ∧ k0 ≠ kT ∧ k1 ≠ kT ∧ k2 ≠ kT ∧ k3 ≠ kT ∧ M__law_odds kf x1 x2 x3 x4 x5 = some r ∧ R = RV (va T r.1) (stt Ω [(k1, machA T p1 r.2.1), (k2, lstA T p2 r.2.2)] [])
theorem sc__law_odds : FnScope ["_law_world_here", "_law_low", "_law_high", "_law_numbers", "_law_found", "_law_number", "_law_middle", "_law_first", "_law_second"] ["_law_world_here", "_law_low", "_law_high"] (defScope s__law_odds) := ⟨rfl, rfl, rfl, by decide +kernel, rfl, by decide +kernel, by decide +kernel⟩
theorem ok0__law_odds {f : Addr} {fd : FuncData} (F : Fun T.K "_law_odds" "_law_odds" s__law_odds f fd) : FnOk P w T.K mg base CX0 49 f fd ["_law_world_here", "_law_low", "_law_high"] (mkSp (Pre__law_odds 0 T)) := by
  refine fn_ok (k := 48) F sc__law_odds (fun As Ω R h => ?_) (fun cdv A outer s H E hr As Ω R F0 h => ?_)
  · obtain ⟨kT, k0, p0, k1, p1, x1, k2, p2, x2, k3, p3, x3, x4, x5, r, rfl, _⟩ := h
    rfl
  obtain ⟨kT, k0, p0, k1, p1, x1, k2, p2, x2, k3, p3, x3, x4, x5, r, rfl, hkT, hk0, hk1, hk2, hk3, ne01, ne02, ne03, ne12, ne13, ne23, ne0T, ne1T, ne2T, ne3T, hm, rfl⟩ := h
  rw [M__law_odds_zero] at hm
  cases hm
theorem ok__law_odds (kf : Nat) {f : Addr} {fd : FuncData} (F : Fun T.K "_law_odds" "_law_odds" s__law_odds f fd) (z_list : mg "list" = none) (z_range : mg "range" = none) (z_len : mg "len" = none) (c_big : Cal P w T.K mg base 23 "big" ["machine", "n"] (mkSp (Pre_big T))) (c__law_odds : Cal P w T.K mg base (49 + kf) "_law_odds" ["_law_world_here", "_law_low", "_law_high"] (mkSp (Pre__law_odds kf T))) (c_multiply : Cal P w T.K mg base 46 "multiply" ["machine", "x", "y"] (mkSp (Pre_multiply T))) (c__law_ran : CalL1 P w T.K mg base 47 49 "_law_ran" ["_law_world_here", "_law_ask"] (Pre__law_ran T)) (TB__law_odds : LamX.TabB base mg (T.C 150) (T.C 100)) (hu__law_odds : ∀ p ∈ tbs T, p.1 = T.C 100 → p.2 = qual__law_odds) (hcd__law_odds : CodeIs T.K f (T.C 150)) : FnOk P w T.K mg base CX0 (49 + kf + 1) f fd ["_law_world_here", "_law_low", "_law_high"] (mkSp (Pre__law_odds (kf + 1) T)) := by
  refine fn_okC F hcd__law_odds sc__law_odds (fun As Ω R h => ?_) (fun A outer s H E hr As Ω R F0 h => ?_)
  · obtain ⟨kT, k0, p0, k1, p1, x1, k2, p2, x2, k3, p3, x3, x4, x5, r, rfl, _⟩ := h
    rfl
  obtain ⟨kT, k0, p0, k1, p1, x1, k2, p2, x2, k3, p3, x3, x4, x5, r, rfl, hkT, hk0, hk1, hk2, hk3, ne01, ne02, ne03, ne12, ne13, ne23, ne0T, ne1T, ne2T, ne3T, hm, rfl⟩ := h
  refine ⟨_, (pss_cons (ps_expr (pe_bm PySem.F.plainAttrs_list PySem.F.slot_list_append PySem.F.type_list_append mt_append (pe_dget (by exact hu_of hr) (pv 0) pe_str (by intro _ _; rfl)) (pa_cons (pe_tup (pa_cons pe_str (pa_cons (pv 1) (pa_cons (pv 2) pa_nil)))) pa_nil))) (pss_cons (ps_set (i := 3) sc__law_odds.nd rfl (.inl rfl) (pe_listRgC rfl (by rfl) z_list (by rfl) z_range (pa_cons (pv 1) (pa_cons (pv 2) (pa_cons pe_int pa_nil))))) (pss_cons (ps_if (PW.pt (pw_and (pt_cmpR op_le (pe_callB (cr_lenK (K := T.K) rfl) (by rfl) z_len PySem.boot_len (pa_cons (pv 3) pa_nil)) pe_int (nomark _)) (pw_and1 (pt_cmpR op_le (pe_op op_mulQ (pe_callB (cr_lenK (K := T.K) rfl) (by rfl) z_len PySem.boot_len (pa_cons (pv 3) pa_nil)) (pe_bits (pe_ix (ix_seqK (K := T.K) rfl) (pv 3) (pe_un un_neg pe_int) (by intro _ _; rfl)))) pe_int (nomark _))))) (pss_cons (ps_set (i := 4) sc__law_odds.nd rfl (.inl rfl) pe_int) (pss_cons (ps_for PassesOwn.never rfl (pi_listK (K := T.K) (pv 3) rfl) (pg_name (i := 5) sc__law_odds.nd rfl (.inl rfl)) (pss_one (ps_set (i := 4) sc__law_odds.nd rfl (.inl rfl) (pe_op op_mulQ (pv 4) (pv 5))))) (pss_one (ps_ret (pe_cal c_big (hr.mono (by omega)) (by rfl) (pa_cons (pe_dget (by exact hu_of hr) (pv 0) pe_str (by intro _ _; rfl)) (pa_cons (pv 4) pa_nil))))))) pss_nil) (pss_cons (ps_set (i := 6) sc__law_odds.nd rfl (.inl rfl) (pe_op op_or (pe_op op_addQ (pv 1) (pe_callB (cr_lenK (K := T.K) rfl) (by rfl) z_len PySem.boot_len (pa_cons (pv 3) pa_nil))) pe_int)) (pss_cons (ps_set (i := 7) sc__law_odds.nd rfl (.inr rfl) (pe_cal c__law_odds (hr.mono (by omega)) (by rfl) (pa_cons (pv 0) (pa_cons (pv 1) (pa_cons (pv 6) pa_nil))))) (pss_cons (ps_set (i := 8) sc__law_odds.nd rfl (.inr rfl) (pe_cal c__law_odds (hr.mono (by omega)) (by rfl) (pa_cons (pv 0) (pa_cons (pv 6) (pa_cons (pv 2) pa_nil))))) (pss_one (ps_ret (pe_lam1 c__law_ran (hr.mono (by omega)) (by rfl) (pv 0) TB__law_odds rfl (lamSD_by (N := ["_law_world_here", "_law_low", "_law_high", "_law_numbers", "_law_found", "_law_number", "_law_middle", "_law_first", "_law_second"]) (nm := "_law_engine") (sc := defScope s__law_odds) (by decide +kernel)) (fun A outer s H f c' hr => (pe_cal c_multiply (hr.mono (by omega)) (by rfl) (pa_cons (pv 9) (pa_cons (pv 7) (pa_cons (pv 8) pa_nil)))))))))))))), fun D hrt hnx => ?_⟩
  have ok := okk2 hk1 hk2 ne12
  suffices hx : XS _ D F0 [some (vr p0), some (va T x4), some (va T x5), none, none, none, none, none, none] (stt Ω [(k1, machA T p1 x1), (k2, lstA T p2 (x2 : List (T3 Str Int Int)))] []) by
    rw [show (stt Ω [(k1, machA T p1 x1), (k2, lstA T p2 (x2 : List (T3 Str Int Int)))] []) = Ω from stt_self (by simp [hk1, hk2])] at hx
    exact hx
  rw [M__law_odds_succ] at hm
  obtain ⟨z1, hz1, hm⟩ := bnd_some hm
  refine xs_drop (xe_appE (stt_get ok (i := 1) rfl) (stt_get ok (i := 1) rfl) (xe_wget (T := T) (xe_var (i := 0) rfl) xe_str (stt_getU hk0 (by simp [ne01, ne01.symm, ne02, ne02.symm, ne03, ne03.symm, ne12, ne12.symm, ne13, ne13.symm, ne23, ne23.symm, ne0T, ne0T.symm, ne1T, ne1T.symm, ne2T, ne2T.symm, ne3T, ne3T.symm])) wev_walk (fun _ => rfl)) (xe_tup3 (xa_cons xe_str (xa_cons (xe_var (i := 1) rfl) (xa_cons (xe_var (i := 2) rfl) xa_nil)))) (chkP_some hz1) (stt_set ok (i := 1) rfl)) ?_
  show XS (tSeq _ _) _ _ [some (vr p0), some (va T x4), some (va T x5), none, none, none, none, none, none] (stt Ω [(k1, machA T p1 x1), (k2, lstA T p2 ((x2 ++ [(T3.mk ("odd part" : Str) x4 x5)]) : List (T3 Str Int Int)))] [])
  obtain ⟨z2, hz2, hm⟩ := bnd_some hm
  obtain ⟨y3, hy3, hm⟩ := bnd_some hm
  refine xs_set (A := va T (LF.mk y3)) (xe_eq (xe_listRgC (T := T) (xa_cons (xe_var (i := 1) rfl) (xa_cons (xe_var (i := 2) rfl) (xa_cons xe_int xa_nil))) (chkP_some hz2)) (congrArg LF.mk (Option.some.inj hy3))) ?_
  show XS (tSeq _ _) _ _ [some (vr p0), some (va T x4), some (va T x5), some (va T (LF.mk y3)), none, none, none, none, none] (stt Ω [(k1, machA T p1 x1), (k2, lstA T p2 ((x2 ++ [(T3.mk ("odd part" : Str) x4 x5)]) : List (T3 Str Int Int)))] [])
  obtain ⟨z6, hz6, hm⟩ := bnd_some hm
  by_cases hc : z6 = true
  · rw [if_pos hc] at hm
    refine xs_ifT (xt_eq (xt_andO (xt_test (T := T) (xe_le (xe_lenL (xe_var (i := 3) rfl) isL_LF) xe_int)) hz6 ?q7) hc) ?_
    case q7 =>
      exact (fun v hm => by
        obtain ⟨z4, hz4, hm⟩ := bnd_some hm
        obtain ⟨z5, hz5, hm⟩ := bnd_some hm
        obtain rfl := Option.some.inj hm
        exact (xt_test (T := T) (xe_le (xe_mul (chkP_some hz5) (xe_lenL (xe_var (i := 3) rfl) isL_LF) (xe_bits (xe_ix (xe_var (i := 3) rfl) (xe_neg xe_int) isL_LF hz4))) xe_int)))
    refine xs_set (A := va T (1 : Int)) xe_int ?_
    show XS (tSeq _ _) _ _ [some (vr p0), some (va T x4), some (va T x5), some (va T (LF.mk y3)), some (va T (1 : Int)), none, none, none, none] (stt Ω [(k1, machA T p1 x1), (k2, lstA T p2 ((x2 ++ [(T3.mk ("odd part" : Str) x4 x5)]) : List (T3 Str Int Int)))] [])
    obtain ⟨z12, hz12, hm⟩ := bnd_some hm
    refine xs_forS (fun (s8 : Int) => [some (vr p0), some (va T x4), some (va T x5), some (va T (LF.mk y3)), some (va T s8), none, none, none, none]) (fun (s8 : Int) => (stt Ω [(k1, machA T p1 x1), (k2, lstA T p2 ((x2 ++ [(T3.mk ("odd part" : Str) x4 x5)]) : List (T3 Str Int Int)))] [])) (fun (_ : Unit) _ _ _ => False) hz12 (xi_LF (xe_var (i := 3) rfl)) (fun _ => tgt_name) (fun a9 s8 s' ha hm F1 D1 e1 hD => ?_) (fun s13 es => ?_) (fun r1 es => ?_)
    · show XS (tAsg _ _) _ _ [some (vr p0), some (va T x4), some (va T x5), some (va T (LF.mk y3)), some (va T s8), some (va T a9), none, none, none] (stt Ω [(k1, machA T p1 x1), (k2, lstA T p2 ((x2 ++ [(T3.mk ("odd part" : Str) x4 x5)]) : List (T3 Str Int Int)))] [])
      obtain ⟨z10, hz10, hm⟩ := bnd_some hm
      obtain ⟨y11, hy11, hm⟩ := bnd_some hm
      refine xs_set1 (A := va T y11) (xe_eq (xe_mul (chkP_some hz10) (xe_var (i := 4) rfl) (xe_var (i := 5) rfl)) (Option.some.inj hy11)) ?_
      obtain rfl := Option.some.inj hm
      exact fun σ H n => hD.nx _ rfl σ H (n.forget 5)
    · subst es
      obtain ⟨s2, hs2, hm⟩ := bnd_some hm
      cases hs2
      show XS (tRet _) _ _ [some (vr p0), some (va T x4), some (va T x5), some (va T (LF.mk y3)), some (va T s13), none, none, none, none] (stt Ω [(k1, machA T p1 x1), (k2, lstA T p2 ((x2 ++ [(T3.mk ("odd part" : Str) x4 x5)]) : List (T3 Str Int Int)))] [])
      obtain ⟨z14, hz14, hm⟩ := bnd_some hm
      obtain rfl := Option.some.inj hm
      refine xs_ret (xe_call (xa_cons (xe_wget (T := T) (xe_var (i := 0) rfl) xe_str (stt_getU hk0 (by simp [ne01, ne01.symm, ne02, ne02.symm, ne03, ne03.symm, ne12, ne12.symm, ne13, ne13.symm, ne23, ne23.symm, ne0T, ne0T.symm, ne1T, ne1T.symm, ne2T, ne2T.symm, ne3T, ne3T.symm])) wev_engine (fun _ => rfl)) (xa_cons (xe_var (i := 4) rfl) xa_nil)) ⟨k1, p1, x1, s13, z14, rfl, (stt_get ok (i := 0) rfl), hz14, rfl⟩ cal0) hrt.all
    · subst es
      cases hm
  · rw [if_neg hc] at hm
    refine xs_ifN (xt_eq (xt_andO (xt_test (T := T) (xe_le (xe_lenL (xe_var (i := 3) rfl) isL_LF) xe_int)) hz6 ?q7) (nt hc)) ?_
    case q7 =>
      exact (fun v hm => by
        obtain ⟨z4, hz4, hm⟩ := bnd_some hm
        obtain ⟨z5, hz5, hm⟩ := bnd_some hm
        obtain rfl := Option.some.inj hm
        exact (xt_test (T := T) (xe_le (xe_mul (chkP_some hz5) (xe_lenL (xe_var (i := 3) rfl) isL_LF) (xe_bits (xe_ix (xe_var (i := 3) rfl) (xe_neg xe_int) isL_LF hz4))) xe_int)))
    show XS (tSeq _ _) _ _ [some (vr p0), some (va T x4), some (va T x5), some (va T (LF.mk y3)), none, none, none, none, none] (stt Ω [(k1, machA T p1 x1), (k2, lstA T p2 ((x2 ++ [(T3.mk ("odd part" : Str) x4 x5)]) : List (T3 Str Int Int)))] [])
    obtain ⟨y15, hy15, hm⟩ := bnd_some hm
    refine xs_set (A := va T y15) (xe_eq (xe_bor (xe_add (xe_var (i := 1) rfl) (xe_lenL (xe_var (i := 3) rfl) isL_LF)) xe_int) (Option.some.inj hy15)) ?_
    show XS (tSeq _ _) _ _ [some (vr p0), some (va T x4), some (va T x5), some (va T (LF.mk y3)), none, none, some (va T y15), none, none] (stt Ω [(k1, machA T p1 x1), (k2, lstA T p2 ((x2 ++ [(T3.mk ("odd part" : Str) x4 x5)]) : List (T3 Str Int Int)))] [])
    obtain ⟨z16, hz16, hm⟩ := bnd_some hm
    refine xs_set (A := va T z16.1) (xe_call (xa_cons (xe_var (i := 0) rfl) (xa_cons (xe_var (i := 1) rfl) (xa_cons (xe_var (i := 6) rfl) xa_nil))) ⟨kT, k0, p0, k1, p1, x1, k2, p2, (x2 ++ [(T3.mk ("odd part" : Str) x4 x5)]), k3, p3, x3, x4, y15, z16, rfl, (stt_getU hkT (by simp [ne01, ne01.symm, ne02, ne02.symm, ne03, ne03.symm, ne12, ne12.symm, ne13, ne13.symm, ne23, ne23.symm, ne0T, ne0T.symm, ne1T, ne1T.symm, ne2T, ne2T.symm, ne3T, ne3T.symm])), (stt_getU hk0 (by simp [ne01, ne01.symm, ne02, ne02.symm, ne03, ne03.symm, ne12, ne12.symm, ne13, ne13.symm, ne23, ne23.symm, ne0T, ne0T.symm, ne1T, ne1T.symm, ne2T, ne2T.symm, ne3T, ne3T.symm])), (stt_get ok (i := 0) rfl), (stt_get ok (i := 1) rfl), (stt_getU hk3 (by simp [ne01, ne01.symm, ne02, ne02.symm, ne03, ne03.symm, ne12, ne12.symm, ne13, ne13.symm, ne23, ne23.symm, ne0T, ne0T.symm, ne1T, ne1T.symm, ne2T, ne2T.symm, ne3T, ne3T.symm])), (by first | assumption | exact Ne.symm (by assumption)), (by first | assumption | exact Ne.symm (by assumption)), (by first | assumption | exact Ne.symm (by assumption)), (by first | assumption | exact Ne.symm (by assumption)), (by first | assumption | exact Ne.symm (by assumption)), (by first | assumption | exact Ne.symm (by assumption)), (by first | assumption | exact Ne.symm (by assumption)), (by first | assumption | exact Ne.symm (by assumption)), (by first | assumption | exact Ne.symm (by assumption)), (by first | assumption | exact Ne.symm (by assumption)), hz16, rfl⟩ ((stt_two.trans (congrArg (fun W => stt W _ []) (cal1 ok (i := 1) rfl))).trans (cal1 ok (i := 0) rfl))) ?_
    show XS (tSeq _ _) _ _ [some (vr p0), some (va T x4), some (va T x5), some (va T (LF.mk y3)), none, none, some (va T y15), some (va T z16.1), none] (stt Ω [(k1, machA T p1 z16.2.1), (k2, lstA T p2 (z16.2.2 : List (T3 Str Int Int)))] [])
    obtain ⟨z17, hz17, hm⟩ := bnd_some hm
    refine xs_set (A := va T z17.1) (xe_call (xa_cons (xe_var (i := 0) rfl) (xa_cons (xe_var (i := 6) rfl) (xa_cons (xe_var (i := 2) rfl) xa_nil))) ⟨kT, k0, p0, k1, p1, z16.2.1, k2, p2, z16.2.2, k3, p3, x3, y15, x5, z17, rfl, (stt_getU hkT (by simp [ne01, ne01.symm, ne02, ne02.symm, ne03, ne03.symm, ne12, ne12.symm, ne13, ne13.symm, ne23, ne23.symm, ne0T, ne0T.symm, ne1T, ne1T.symm, ne2T, ne2T.symm, ne3T, ne3T.symm])), (stt_getU hk0 (by simp [ne01, ne01.symm, ne02, ne02.symm, ne03, ne03.symm, ne12, ne12.symm, ne13, ne13.symm, ne23, ne23.symm, ne0T, ne0T.symm, ne1T, ne1T.symm, ne2T, ne2T.symm, ne3T, ne3T.symm])), (stt_get ok (i := 0) rfl), (stt_get ok (i := 1) rfl), (stt_getU hk3 (by simp [ne01, ne01.symm, ne02, ne02.symm, ne03, ne03.symm, ne12, ne12.symm, ne13, ne13.symm, ne23, ne23.symm, ne0T, ne0T.symm, ne1T, ne1T.symm, ne2T, ne2T.symm, ne3T, ne3T.symm])), (by first | assumption | exact Ne.symm (by assumption)), (by first | assumption | exact Ne.symm (by assumption)), (by first | assumption | exact Ne.symm (by assumption)), (by first | assumption | exact Ne.symm (by assumption)), (by first | assumption | exact Ne.symm (by assumption)), (by first | assumption | exact Ne.symm (by assumption)), (by first | assumption | exact Ne.symm (by assumption)), (by first | assumption | exact Ne.symm (by assumption)), (by first | assumption | exact Ne.symm (by assumption)), (by first | assumption | exact Ne.symm (by assumption)), hz17, rfl⟩ ((stt_two.trans (congrArg (fun W => stt W _ []) (cal1 ok (i := 1) rfl))).trans (cal1 ok (i := 0) rfl))) ?_
    show XS (tRet _) _ _ [some (vr p0), some (va T x4), some (va T x5), some (va T (LF.mk y3)), none, none, some (va T y15), some (va T z16.1), some (va T z17.1)] (stt Ω [(k1, machA T p1 z17.2.1), (k2, lstA T p2 (z17.2.2 : List (T3 Str Int Int)))] [])
    obtain ⟨z21, hz21, hm⟩ := bnd_some hm
    obtain rfl := Option.some.inj hm
    refine xs_ret (xe_lam1 (l := tbs T) (xe_var (i := 0) rfl) (stt_getU hkT (by simp [ne01, ne01.symm, ne02, ne02.symm, ne03, ne03.symm, ne12, ne12.symm, ne13, ne13.symm, ne23, ne23.symm, ne0T, ne0T.symm, ne1T, ne1T.symm, ne2T, ne2T.symm, ne3T, ne3T.symm])) (mem__law_odds T) hu__law_odds ?q20 (fun fL cL actL => ⟨k0, p0, k1, p1, z17.2.1, k2, p2, z17.2.2, k3, p3, x3, (fun (m18 : MS) => (M_multiply m18 z16.1 z17.1).bind fun z19 => some (z19.1, z19.2)), z21, rfl, (stt_getU hk0 (by simp [ne01, ne01.symm, ne02, ne02.symm, ne03, ne03.symm, ne12, ne12.symm, ne13, ne13.symm, ne23, ne23.symm, ne0T, ne0T.symm, ne1T, ne1T.symm, ne2T, ne2T.symm, ne3T, ne3T.symm])), (stt_get ok (i := 0) rfl), (stt_get ok (i := 1) rfl), (stt_getU hk3 (by simp [ne01, ne01.symm, ne02, ne02.symm, ne03, ne03.symm, ne12, ne12.symm, ne13, ne13.symm, ne23, ne23.symm, ne0T, ne0T.symm, ne1T, ne1T.symm, ne2T, ne2T.symm, ne3T, ne3T.symm])), (by first | assumption | exact Ne.symm (by assumption)), (by first | assumption | exact Ne.symm (by assumption)), (by first | assumption | exact Ne.symm (by assumption)), (by first | assumption | exact Ne.symm (by assumption)), (by first | assumption | exact Ne.symm (by assumption)), (by first | assumption | exact Ne.symm (by assumption)), hz21, rfl⟩) ((stt_two.trans (congrArg (fun W => stt W _ []) (cal1 ok (i := 1) rfl))).trans (cal1 ok (i := 0) rfl))) hrt.all
    case q20 =>
      exact (fun m18 r hm => by
        obtain ⟨z19, hz19, hm⟩ := bnd_some hm
        obtain rfl := Option.some.inj hm
        exact (xe_st (cal1 ok (i := 0) rfl) (cal1 ok (i := 0) rfl) (xe_call (xa_cons (xe_var (i := 9) rfl) (xa_cons (xe_var (i := 7) rfl) (xa_cons (xe_var (i := 8) rfl) xa_nil))) ⟨k1, p1, m18, z16.1, z17.1, z19, rfl, (stt_get ok (i := 0) rfl), hz19, rfl⟩ (cal1 ok (i := 0) rfl))))
noncomputable def M__law_due (x1 : MS) (x2 : List (T3 Str Int Int)) (x3 : List (Str × Int)) (x4 : Int) : Option (Bg × MS × List (T3 Str Int Int)) :=
  (M_big x1 (1 : Int)).bind fun z1 => (M_big x1 (1 : Int)).bind fun z2 => (some (T3.mk z1 z2 (3 : Int))).bind fun y3 => (chkP (-(2 ^ 62) ≤ (((Builtin.Int.intBits x4 : Nat) : Int) - (2 : Int)) ∧ (((Builtin.Int.intBits x4 : Nat) : Int) - (2 : Int)) < 2 ^ 62 ∧ -(2 ^ 62) ≤ (-(1 : Int)) ∧ (-(1 : Int)) < 2 ^ 62)).bind fun z4 => (forM' (ρ := Unit) (fun (a6 : Int) (s5 : Bg × Bg × Int × MS × (List (T3 Str Int Int))) => (chkP (0 ≤ a6)).bind fun z7 => (some (x4 / 2 ^ (a6).toNat)).bind fun y8 => if (decide ((2 : Int) < y8)) = true then (some ((y8 + (1 : Int)) + (Builtin.bitAnd y8 (1 : Int)))).bind fun y9 => (M__law_odds 20 s5.2.2.2.1 s5.2.2.2.2 x3 s5.2.2.1 y9).bind fun z10 => (M__law_ran z10.2.1 z10.2.2 x3 (fun (m11 : MS) => (M_multiply m11 s5.1 z10.1).bind fun z12 => some (z12.1, z12.2))).bind fun z14 => (M__law_ran z14.2.1 z14.2.2 x3 (fun (m15 : MS) => (M_multiply m15 s5.2.1 z14.1).bind fun z16 => some (z16.1, z16.2))).bind fun z18 => (some (z18.1, y9)).bind fun y19 => some (Stp.nx (z14.1, y19.1, y19.2, z18.2.1, z18.2.2)) else some (Stp.nx (s5.1, s5.2.1, s5.2.2.1, s5.2.2.2.1, s5.2.2.2.2))) (rngD (((Builtin.Int.intBits x4 : Nat) : Int) - (2 : Int)) ((((Builtin.Int.intBits x4 : Nat) : Int) - (2 : Int)) - (-(1 : Int))).toNat) (y3.a, y3.b, y3.c, x1, x2)).bind fun z20 => (nxt z20).bind fun s21 => (chkP (-(2 ^ 62) ≤ ((Builtin.Int.intBits x4 : Nat) : Int) ∧ ((Builtin.Int.intBits x4 : Nat) : Int) < 2 ^ 62)).bind fun z22 => (chkP ((rng 0 (((Builtin.Int.intBits x4 : Nat) : Int)).toNat).length ≤ sizeLine)).bind fun z23 => (lcM (fun (a25 : Int) (s24 : Unit) => (chkP (0 ≤ a25)).bind fun z26 => some (some (Builtin.bitAnd (x4 / 2 ^ (a25).toNat) (1 : Int)), ())) (rng 0 (((Builtin.Int.intBits x4 : Nat) : Int)).toNat) ()).bind fun z27 => (M__law_ran s21.2.2.2.1 s21.2.2.2.2 x3 (fun (m29 : MS) => (M_shift_left m29 s21.2.1 (x4 - z27.1.sum)).bind fun z30 => some (z30.1, z30.2))).bind fun z32 => some (z32.1, z32.2.1, z32.2.2)
def Pre__law_due (T : TC) : PreT := fun As Ω R => ∃ (kT : Nat) (k0 : Nat) (p0 : Addr) (k1 : Nat) (p1 : Addr) (x1 : MS) (k2 : Nat) (p2 : Addr) (x2 : List (T3 Str Int Int)) (k3 : Nat) (p3 : Addr) (x3 : List (Str × Int)) (x4 : Int) (r : Bg × MS × List (T3 Str Int Int)), As = [vr p0, va T x4] ∧ Ω[kT]? = some (tabA (tbs T)) ∧ Ω[k0]? = some (rawD p0 (wev p1 p2 p3)) ∧ Ω[k1]? = some (machA T p1 x1) ∧ Ω[k2]? = some (lstA T p2 x2) ∧ Ω[k3]? = some (rawD p3 (dkv x3)) ∧ k0 ≠ k1 ∧ k0 ≠ k2 ∧ k0 ≠ k3 ∧ k1 ≠ k2 ∧ k1 ≠ k3 ∧ k2 ≠ k3 ∧ k0 ≠ kT ∧ k1 ≠ kT ∧ k2 ≠ kT ∧ k3 ≠ kT ∧ M__law_due x1 x2 x3 x4 = some r ∧ R = RV (va T r.1) (stt Ω [(k1, machA T p1 r.2.1), (k2, lstA T p2 r.2.2)] [])
theorem sc__law_due : FnScope ["_law_world_here", "_law_nn", "_law_low", "_law_i", "_law_w", "_law_high", "_law_between", "_law_inner", "_law_ones", "_law_outer", "_law_k"] ["_law_world_here", "_law_nn"] (defScope s__law_due) := ⟨rfl, rfl, rfl, by decide +kernel, rfl, by decide +kernel, by decide +kernel⟩
theorem ok__law_due {f : Addr} {fd : FuncData} (F : Fun T.K "_law_due" "_law_due" s__law_due f fd) (c_big : Cal P w T.K mg base 23 "big" ["machine", "n"] (mkSp (Pre_big T))) (z_range : mg "range" = none) (c__law_odds : Cal P w T.K mg base 69 "_law_odds" ["_law_world_here", "_law_low", "_law_high"] (mkSp (Pre__law_odds 20 T))) (c_multiply : Cal P w T.K mg base 46 "multiply" ["machine", "x", "y"] (mkSp (Pre_multiply T))) (c__law_ran : CalL1 P w T.K mg base 47 49 "_law_ran" ["_law_world_here", "_law_ask"] (Pre__law_ran T)) (TB__law_due : LamX.TabB base mg (T.C 151) (T.C 101)) (hu__law_due : ∀ p ∈ tbs T, p.1 = T.C 101 → p.2 = qual__law_due) (hcd__law_due : CodeIs T.K f (T.C 151)) (z_sum : mg "sum" = none) (c_shift_left : Cal P w T.K mg base 23 "shift_left" ["machine", "x", "count"] (mkSp (Pre_shift_left T))) : FnOk P w T.K mg base CX0 70 f fd ["_law_world_here", "_law_nn"] (mkSp (Pre__law_due T)) := by
  refine fn_okC F hcd__law_due sc__law_due (fun As Ω R h => ?_) (fun A outer s H E hr As Ω R F0 h => ?_)
  · obtain ⟨kT, k0, p0, k1, p1, x1, k2, p2, x2, k3, p3, x3, x4, r, rfl, _⟩ := h
    rfl
  obtain ⟨kT, k0, p0, k1, p1, x1, k2, p2, x2, k3, p3, x3, x4, r, rfl, hkT, hk0, hk1, hk2, hk3, ne01, ne02, ne03, ne12, ne13, ne23, ne0T, ne1T, ne2T, ne3T, hm, rfl⟩ := h
  refine ⟨_, (pss_cons (ps_asg (pe_tup (pa_cons (pe_cal c_big (hr.mono (by decide)) (by rfl) (pa_cons (pe_dget (by exact hu_of hr) (pv 0) pe_str (by intro _ _; rfl)) (pa_cons pe_int pa_nil))) (pa_cons (pe_cal c_big (hr.mono (by decide)) (by rfl) (pa_cons (pe_dget (by exact hu_of hr) (pv 0) pe_str (by intro _ _; rfl)) (pa_cons pe_int pa_nil))) (pa_cons pe_int pa_nil)))) (pg_tupK (K := T.K) (n := 3) rfl rfl (pgs_cons (pg_name (i := 7) sc__law_due.nd rfl (.inr rfl)) (pgs_cons (pg_name (i := 9) sc__law_due.nd rfl (.inr rfl)) (pgs_cons (pg_name (i := 2) sc__law_due.nd rfl (.inl rfl)) pgs_nil))))) (pss_cons (ps_for PassesOwn.never rfl (pi_range3 rfl z_range (pa_cons (pe_op op_sub (pe_bits (pv 1)) pe_int) (pa_cons (pe_un un_neg pe_int) (pa_cons (pe_un un_neg pe_int) pa_nil)))) (pg_name (i := 3) sc__law_due.nd rfl (.inl rfl)) (pss_cons (ps_set (i := 4) sc__law_due.nd rfl (.inl rfl) (pe_op op_shr (pv 1) (pv 3))) (pss_one (ps_if (pt_cmpR op_gt (pv 4) pe_int (nomark _)) (pss_cons (ps_set (i := 5) sc__law_due.nd rfl (.inl rfl) (pe_op op_addQ (pe_op op_addQ (pv 4) pe_int) (pe_op op_and (pv 4) pe_int))) (pss_cons (ps_set (i := 6) sc__law_due.nd rfl (.inr rfl) (pe_cal c__law_odds (hr.mono (by decide)) (by rfl) (pa_cons (pv 0) (pa_cons (pv 2) (pa_cons (pv 5) pa_nil))))) (pss_cons (ps_set (i := 7) sc__law_due.nd rfl (.inr rfl) (pe_lam1 c__law_ran (hr.mono (by decide)) (by rfl) (pv 0) TB__law_due rfl (lamSD_by (N := ["_law_world_here", "_law_nn", "_law_low", "_law_i", "_law_w", "_law_high", "_law_between", "_law_inner", "_law_ones", "_law_outer", "_law_k"]) (nm := "_law_engine") (sc := defScope s__law_due) (by decide +kernel)) (fun A outer s H f c' hr => (pe_cal c_multiply (hr.mono (by decide)) (by rfl) (pa_cons (pv 11) (pa_cons (pv 7) (pa_cons (pv 6) pa_nil))))))) (pss_one (ps_asg (pe_tup (pa_cons (pe_lam1 c__law_ran (hr.mono (by decide)) (by rfl) (pv 0) TB__law_due rfl (lamSD_by (N := ["_law_world_here", "_law_nn", "_law_low", "_law_i", "_law_w", "_law_high", "_law_between", "_law_inner", "_law_ones", "_law_outer", "_law_k"]) (nm := "_law_engine") (sc := defScope s__law_due) (by decide +kernel)) (fun A outer s H f c' hr => (pe_cal c_multiply (hr.mono (by decide)) (by rfl) (pa_cons (pv 11) (pa_cons (pv 9) (pa_cons (pv 7) pa_nil)))))) (pa_cons (pv 5) pa_nil))) (pg_tupK (K := T.K) (n := 2) rfl rfl (pgs_cons (pg_name (i := 9) sc__law_due.nd rfl (.inr rfl)) (pgs_cons (pg_name (i := 2) sc__law_due.nd rfl (.inl rfl)) pgs_nil)))))))) pss_nil)))) (pss_cons (ps_set (i := 8) sc__law_due.nd rfl (.inr rfl) (pe_callB (cr_sumK (K := T.K) rfl rfl) (by rfl) z_sum (by decide +kernel) (pa_cons (pe_lc (own := [("_law_k", 10)]) rfl sc__law_due.nd (pi_range1 rfl z_range (pa_cons (pe_bits (pv 1)) pa_nil)) (blkOk_by (N := ["_law_world_here", "_law_nn", "_law_low", "_law_i", "_law_w", "_law_high", "_law_between", "_law_inner", "_law_ones", "_law_outer", "_law_k"]) (sc := defScope s__law_due) (by decide +kernel)) (fun _ _ _ _ _ => (pg_name (i := 10) sc__law_due.nd rfl (.inl rfl))) (fun _ _ _ _ _ => pts_nil) (fun _ _ _ _ _ => (pe_op op_and (pe_op op_shr (pv 1) (pv 10)) pe_int))) pa_nil))) (pss_one (ps_ret (pe_lam1 c__law_ran (hr.mono (by decide)) (by rfl) (pv 0) TB__law_due rfl (lamSD_by (N := ["_law_world_here", "_law_nn", "_law_low", "_law_i", "_law_w", "_law_high", "_law_between", "_law_inner", "_law_ones", "_law_outer", "_law_k"]) (nm := "_law_engine") (sc := defScope s__law_due) (by decide +kernel)) (fun A outer s H f c' hr => (pe_cal c_shift_left (hr.mono (by decide)) (by rfl) (pa_cons (pv 11) (pa_cons (pv 9) (pa_cons (pe_op op_sub (pv 1) (pv 8)) pa_nil))))))))))), fun D hrt hnx => ?_⟩
  have ok := okk2 hk1 hk2 ne12
  suffices hx : XS _ D F0 [some (vr p0), some (va T x4), none, none, none, none, none, none, none, none, none] (stt Ω [(k1, machA T p1 x1), (k2, lstA T p2 (x2 : List (T3 Str Int Int)))] []) by
    rw [show (stt Ω [(k1, machA T p1 x1), (k2, lstA T p2 (x2 : List (T3 Str Int Int)))] []) = Ω from stt_self (by simp [hk1, hk2])] at hx
    exact hx
  unfold M__law_due at hm
  obtain ⟨z1, hz1, hm⟩ := bnd_some hm
  obtain ⟨z2, hz2, hm⟩ := bnd_some hm
  obtain ⟨y3, hy3, hm⟩ := bnd_some hm
  refine xs_asgG (xe_eq (xe_tup3 (xa_cons (xe_call (xa_cons (xe_wget (T := T) (xe_var (i := 0) rfl) xe_str (stt_getU hk0 (by simp [ne01, ne01.symm, ne02, ne02.symm, ne03, ne03.symm, ne12, ne12.symm, ne13, ne13.symm, ne23, ne23.symm, ne0T, ne0T.symm, ne1T, ne1T.symm, ne2T, ne2T.symm, ne3T, ne3T.symm])) wev_engine (fun _ => rfl)) (xa_cons xe_int xa_nil)) ⟨k1, p1, x1, (1 : Int), z1, rfl, (stt_get ok (i := 0) rfl), hz1, rfl⟩ cal0) (xa_cons (xe_call (xa_cons (xe_wget (T := T) (xe_var (i := 0) rfl) xe_str (stt_getU hk0 (by simp [ne01, ne01.symm, ne02, ne02.symm, ne03, ne03.symm, ne12, ne12.symm, ne13, ne13.symm, ne23, ne23.symm, ne0T, ne0T.symm, ne1T, ne1T.symm, ne2T, ne2T.symm, ne3T, ne3T.symm])) wev_engine (fun _ => rfl)) (xa_cons xe_int xa_nil)) ⟨k1, p1, x1, (1 : Int), z2, rfl, (stt_get ok (i := 0) rfl), hz2, rfl⟩ cal0) (xa_cons xe_int xa_nil)))) (Option.some.inj hy3)) tgt_triple ?_
  show XS (tSeq _ _) _ _ [some (vr p0), some (va T x4), some (va T y3.c), none, none, none, none, some (va T y3.a), none, some (va T y3.b), none] (stt Ω [(k1, machA T p1 x1), (k2, lstA T p2 (x2 : List (T3 Str Int Int)))] [])
  obtain ⟨z4, hz4, hm⟩ := bnd_some hm
  obtain ⟨z20, hz20, hm⟩ := bnd_some hm
  refine xs_forS (fun (s5 : Bg × Bg × Int × MS × (List (T3 Str Int Int))) => [some (vr p0), some (va T x4), some (va T s5.2.2.1), none, none, none, none, some (va T s5.1), none, some (va T s5.2.1), none]) (fun (s5 : Bg × Bg × Int × MS × (List (T3 Str Int Int))) => (stt Ω [(k1, machA T p1 s5.2.2.2.1), (k2, lstA T p2 (s5.2.2.2.2 : List (T3 Str Int Int)))] [])) (fun (_ : Unit) _ _ _ => False) hz20 (xi_range3 (T := T) (xa_cons (xe_sub (xe_bits (xe_var (i := 1) rfl)) xe_int) (xa_cons (xe_neg xe_int) (xa_cons (xe_neg xe_int) xa_nil))) (chkP_some hz4)) (fun _ => tgt_name) (fun a6 s5 s' ha hm F1 D1 e1 hD => ?_) (fun s21 es => ?_) (fun r1 es => ?_)
  · show XS (tSeq _ _) _ _ [some (vr p0), some (va T x4), some (va T s5.2.2.1), some (va T a6), none, none, none, some (va T s5.1), none, some (va T s5.2.1), none] (stt Ω [(k1, machA T p1 s5.2.2.2.1), (k2, lstA T p2 (s5.2.2.2.2 : List (T3 Str Int Int)))] [])
    obtain ⟨z7, hz7, hm⟩ := bnd_some hm
    obtain ⟨y8, hy8, hm⟩ := bnd_some hm
    refine xs_set (A := va T y8) (xe_eq (xe_shr (chkP_some hz7) (xe_var (i := 1) rfl) (xe_var (i := 3) rfl)) (Option.some.inj hy8)) ?_
    show XS (tIfS _ _ _) _ _ [some (vr p0), some (va T x4), some (va T s5.2.2.1), some (va T a6), some (va T y8), none, none, some (va T s5.1), none, some (va T s5.2.1), none] (stt Ω [(k1, machA T p1 s5.2.2.2.1), (k2, lstA T p2 (s5.2.2.2.2 : List (T3 Str Int Int)))] [])
    by_cases hc : (decide ((2 : Int) < y8)) = true
    · rw [if_pos hc] at hm
      refine xs_ifT1 (xt_eq (xt_test (T := T) (xe_gt (xe_var (i := 4) rfl) xe_int)) hc) ?_
      obtain ⟨y9, hy9, hm⟩ := bnd_some hm
      refine xs_set (A := va T y9) (xe_eq (xe_add (xe_add (xe_var (i := 4) rfl) xe_int) (xe_band (xe_var (i := 4) rfl) xe_int)) (Option.some.inj hy9)) ?_
      show XS (tSeq _ _) _ _ [some (vr p0), some (va T x4), some (va T s5.2.2.1), some (va T a6), some (va T y8), some (va T y9), none, some (va T s5.1), none, some (va T s5.2.1), none] (stt Ω [(k1, machA T p1 s5.2.2.2.1), (k2, lstA T p2 (s5.2.2.2.2 : List (T3 Str Int Int)))] [])
      obtain ⟨z10, hz10, hm⟩ := bnd_some hm
      refine xs_set (A := va T z10.1) (xe_call (xa_cons (xe_var (i := 0) rfl) (xa_cons (xe_var (i := 2) rfl) (xa_cons (xe_var (i := 5) rfl) xa_nil))) ⟨kT, k0, p0, k1, p1, s5.2.2.2.1, k2, p2, s5.2.2.2.2, k3, p3, x3, s5.2.2.1, y9, z10, rfl, (stt_getU hkT (by simp [ne01, ne01.symm, ne02, ne02.symm, ne03, ne03.symm, ne12, ne12.symm, ne13, ne13.symm, ne23, ne23.symm, ne0T, ne0T.symm, ne1T, ne1T.symm, ne2T, ne2T.symm, ne3T, ne3T.symm])), (stt_getU hk0 (by simp [ne01, ne01.symm, ne02, ne02.symm, ne03, ne03.symm, ne12, ne12.symm, ne13, ne13.symm, ne23, ne23.symm, ne0T, ne0T.symm, ne1T, ne1T.symm, ne2T, ne2T.symm, ne3T, ne3T.symm])), (stt_get ok (i := 0) rfl), (stt_get ok (i := 1) rfl), (stt_getU hk3 (by simp [ne01, ne01.symm, ne02, ne02.symm, ne03, ne03.symm, ne12, ne12.symm, ne13, ne13.symm, ne23, ne23.symm, ne0T, ne0T.symm, ne1T, ne1T.symm, ne2T, ne2T.symm, ne3T, ne3T.symm])), (by first | assumption | exact Ne.symm (by assumption)), (by first | assumption | exact Ne.symm (by assumption)), (by first | assumption | exact Ne.symm (by assumption)), (by first | assumption | exact Ne.symm (by assumption)), (by first | assumption | exact Ne.symm (by assumption)), (by first | assumption | exact Ne.symm (by assumption)), (by first | assumption | exact Ne.symm (by assumption)), (by first | assumption | exact Ne.symm (by assumption)), (by first | assumption | exact Ne.symm (by assumption)), (by first | assumption | exact Ne.symm (by assumption)), hz10, rfl⟩ ((stt_two.trans (congrArg (fun W => stt W _ []) (cal1 ok (i := 1) rfl))).trans (cal1 ok (i := 0) rfl))) ?_
      show XS (tSeq _ _) _ _ [some (vr p0), some (va T x4), some (va T s5.2.2.1), some (va T a6), some (va T y8), some (va T y9), some (va T z10.1), some (va T s5.1), none, some (va T s5.2.1), none] (stt Ω [(k1, machA T p1 z10.2.1), (k2, lstA T p2 (z10.2.2 : List (T3 Str Int Int)))] [])
      obtain ⟨z14, hz14, hm⟩ := bnd_some hm
      refine xs_set (A := va T z14.1) (xe_lam1 (l := tbs T) (xe_var (i := 0) rfl) (stt_getU hkT (by simp [ne01, ne01.symm, ne02, ne02.symm, ne03, ne03.symm, ne12, ne12.symm, ne13, ne13.symm, ne23, ne23.symm, ne0T, ne0T.symm, ne1T, ne1T.symm, ne2T, ne2T.symm, ne3T, ne3T.symm])) (mem__law_due T) hu__law_due ?q13 (fun fL cL actL => ⟨k0, p0, k1, p1, z10.2.1, k2, p2, z10.2.2, k3, p3, x3, (fun (m11 : MS) => (M_multiply m11 s5.1 z10.1).bind fun z12 => some (z12.1, z12.2)), z14, rfl, (stt_getU hk0 (by simp [ne01, ne01.symm, ne02, ne02.symm, ne03, ne03.symm, ne12, ne12.symm, ne13, ne13.symm, ne23, ne23.symm, ne0T, ne0T.symm, ne1T, ne1T.symm, ne2T, ne2T.symm, ne3T, ne3T.symm])), (stt_get ok (i := 0) rfl), (stt_get ok (i := 1) rfl), (stt_getU hk3 (by simp [ne01, ne01.symm, ne02, ne02.symm, ne03, ne03.symm, ne12, ne12.symm, ne13, ne13.symm, ne23, ne23.symm, ne0T, ne0T.symm, ne1T, ne1T.symm, ne2T, ne2T.symm, ne3T, ne3T.symm])), (by first | assumption | exact Ne.symm (by assumption)), (by first | assumption | exact Ne.symm (by assumption)), (by first | assumption | exact Ne.symm (by assumption)), (by first | assumption | exact Ne.symm (by assumption)), (by first | assumption | exact Ne.symm (by assumption)), (by first | assumption | exact Ne.symm (by assumption)), hz14, rfl⟩) ((stt_two.trans (congrArg (fun W => stt W _ []) (cal1 ok (i := 1) rfl))).trans (cal1 ok (i := 0) rfl))) ?_
      case q13 =>
        exact (fun m11 r hm => by
          obtain ⟨z12, hz12, hm⟩ := bnd_some hm
          obtain rfl := Option.some.inj hm
          exact (xe_st (cal1 ok (i := 0) rfl) (cal1 ok (i := 0) rfl) (xe_call (xa_cons (xe_var (i := 11) rfl) (xa_cons (xe_var (i := 7) rfl) (xa_cons (xe_var (i := 6) rfl) xa_nil))) ⟨k1, p1, m11, s5.1, z10.1, z12, rfl, (stt_get ok (i := 0) rfl), hz12, rfl⟩ (cal1 ok (i := 0) rfl))))
      show XS _ _ _ [some (vr p0), some (va T x4), some (va T s5.2.2.1), some (va T a6), some (va T y8), some (va T y9), some (va T z10.1), some (va T z14.1), none, some (va T s5.2.1), none] (stt Ω [(k1, machA T p1 z14.2.1), (k2, lstA T p2 (z14.2.2 : List (T3 Str Int Int)))] [])
      obtain ⟨z18, hz18, hm⟩ := bnd_some hm
      obtain ⟨y19, hy19, hm⟩ := bnd_some hm
      refine xs_asgG1 (xe_eq (xe_tup2 (xa_cons (xe_lam1 (l := tbs T) (xe_var (i := 0) rfl) (stt_getU hkT (by simp [ne01, ne01.symm, ne02, ne02.symm, ne03, ne03.symm, ne12, ne12.symm, ne13, ne13.symm, ne23, ne23.symm, ne0T, ne0T.symm, ne1T, ne1T.symm, ne2T, ne2T.symm, ne3T, ne3T.symm])) (mem__law_due T) hu__law_due ?q17 (fun fL cL actL => ⟨k0, p0, k1, p1, z14.2.1, k2, p2, z14.2.2, k3, p3, x3, (fun (m15 : MS) => (M_multiply m15 s5.2.1 z14.1).bind fun z16 => some (z16.1, z16.2)), z18, rfl, (stt_getU hk0 (by simp [ne01, ne01.symm, ne02, ne02.symm, ne03, ne03.symm, ne12, ne12.symm, ne13, ne13.symm, ne23, ne23.symm, ne0T, ne0T.symm, ne1T, ne1T.symm, ne2T, ne2T.symm, ne3T, ne3T.symm])), (stt_get ok (i := 0) rfl), (stt_get ok (i := 1) rfl), (stt_getU hk3 (by simp [ne01, ne01.symm, ne02, ne02.symm, ne03, ne03.symm, ne12, ne12.symm, ne13, ne13.symm, ne23, ne23.symm, ne0T, ne0T.symm, ne1T, ne1T.symm, ne2T, ne2T.symm, ne3T, ne3T.symm])), (by first | assumption | exact Ne.symm (by assumption)), (by first | assumption | exact Ne.symm (by assumption)), (by first | assumption | exact Ne.symm (by assumption)), (by first | assumption | exact Ne.symm (by assumption)), (by first | assumption | exact Ne.symm (by assumption)), (by first | assumption | exact Ne.symm (by assumption)), hz18, rfl⟩) ((stt_two.trans (congrArg (fun W => stt W _ []) (cal1 ok (i := 1) rfl))).trans (cal1 ok (i := 0) rfl))) (xa_cons (xe_var (i := 5) rfl) xa_nil))) (Option.some.inj hy19)) tgt_pair ?_
      case q17 =>
        exact (fun m15 r hm => by
          obtain ⟨z16, hz16, hm⟩ := bnd_some hm
          obtain rfl := Option.some.inj hm
          exact (xe_st (cal1 ok (i := 0) rfl) (cal1 ok (i := 0) rfl) (xe_call (xa_cons (xe_var (i := 11) rfl) (xa_cons (xe_var (i := 9) rfl) (xa_cons (xe_var (i := 7) rfl) xa_nil))) ⟨k1, p1, m15, s5.2.1, z14.1, z16, rfl, (stt_get ok (i := 0) rfl), hz16, rfl⟩ (cal1 ok (i := 0) rfl))))
      obtain rfl := Option.some.inj hm
      exact fun σ H n => hD.nx _ rfl σ H ((((n.forget 4).forget 5).forget 6).forget 3)
    · rw [if_neg hc] at hm
      refine xs_ifF1 (xt_eq (xt_test (T := T) (xe_gt (xe_var (i := 4) rfl) xe_int)) (nt hc)) ?_
      obtain rfl := Option.some.inj hm
      exact fun σ H n => hD.nx _ rfl σ H ((n.forget 4).forget 3)
  · subst es
    obtain ⟨s2, hs2, hm⟩ := bnd_some hm
    cases hs2
    show XS (tSeq _ _) _ _ [some (vr p0), some (va T x4), some (va T s21.2.2.1), none, none, none, none, some (va T s21.1), none, some (va T s21.2.1), none] (stt Ω [(k1, machA T p1 s21.2.2.2.1), (k2, lstA T p2 (s21.2.2.2.2 : List (T3 Str Int Int)))] [])
    obtain ⟨z22, hz22, hm⟩ := bnd_some hm
    obtain ⟨z23, hz23, hm⟩ := bnd_some hm
    obtain ⟨z27, hz27, hm⟩ := bnd_some hm
    refine xs_set (A := va T z27.1.sum) (xe_sum (xe_fz (xn_lcS (T := T) (fun (s24 : Unit) => [(k1, machA T p1 s21.2.2.2.1), (k2, lstA T p2 (s21.2.2.2.2 : List (T3 Str Int Int)))]) (fun (s24 : Unit) => []) hz27 (xi_range1 (T := T) (xa_cons (xe_bits (xe_var (i := 1) rfl)) xa_nil) (chkP_some hz22).1 (chkP_some hz22).2) (fun _ => tgt_name) (by simp) (chkP_some hz23) ?q28)) isL_LF) ?_
    case q28 =>
      exact (fun a25 s24 o s2 ha hm X => by
        obtain ⟨z26, hz26, hm⟩ := bnd_some hm
        obtain ⟨rfl, rfl⟩ := Prod.mk.inj (Option.some.inj hm)
        refine ⟨(fun e => nomatch e), fun y e => ?_⟩
        obtain rfl := Option.some.inj e
        refine ⟨xt_yes, (xe_band (xe_shr (chkP_some hz26) (xe_var (i := 1) rfl) (xe_var (i := 10) rfl)) xe_int)⟩)
    show XS (tRet _) _ _ [some (vr p0), some (va T x4), some (va T s21.2.2.1), none, none, none, none, some (va T s21.1), some (va T z27.1.sum), some (va T s21.2.1), none] (stt Ω [(k1, machA T p1 s21.2.2.2.1), (k2, lstA T p2 (s21.2.2.2.2 : List (T3 Str Int Int)))] [])
    obtain ⟨z32, hz32, hm⟩ := bnd_some hm
    obtain rfl := Option.some.inj hm
    refine xs_ret (xe_lam1 (l := tbs T) (xe_var (i := 0) rfl) (stt_getU hkT (by simp [ne01, ne01.symm, ne02, ne02.symm, ne03, ne03.symm, ne12, ne12.symm, ne13, ne13.symm, ne23, ne23.symm, ne0T, ne0T.symm, ne1T, ne1T.symm, ne2T, ne2T.symm, ne3T, ne3T.symm])) (mem__law_due T) hu__law_due ?q31 (fun fL cL actL => ⟨k0, p0, k1, p1, s21.2.2.2.1, k2, p2, s21.2.2.2.2, k3, p3, x3, (fun (m29 : MS) => (M_shift_left m29 s21.2.1 (x4 - z27.1.sum)).bind fun z30 => some (z30.1, z30.2)), z32, rfl, (stt_getU hk0 (by simp [ne01, ne01.symm, ne02, ne02.symm, ne03, ne03.symm, ne12, ne12.symm, ne13, ne13.symm, ne23, ne23.symm, ne0T, ne0T.symm, ne1T, ne1T.symm, ne2T, ne2T.symm, ne3T, ne3T.symm])), (stt_get ok (i := 0) rfl), (stt_get ok (i := 1) rfl), (stt_getU hk3 (by simp [ne01, ne01.symm, ne02, ne02.symm, ne03, ne03.symm, ne12, ne12.symm, ne13, ne13.symm, ne23, ne23.symm, ne0T, ne0T.symm, ne1T, ne1T.symm, ne2T, ne2T.symm, ne3T, ne3T.symm])), (by first | assumption | exact Ne.symm (by assumption)), (by first | assumption | exact Ne.symm (by assumption)), (by first | assumption | exact Ne.symm (by assumption)), (by first | assumption | exact Ne.symm (by assumption)), (by first | assumption | exact Ne.symm (by assumption)), (by first | assumption | exact Ne.symm (by assumption)), hz32, rfl⟩) ((stt_two.trans (congrArg (fun W => stt W _ []) (cal1 ok (i := 1) rfl))).trans (cal1 ok (i := 0) rfl))) hrt.all
    case q31 =>
      exact (fun m29 r hm => by
        obtain ⟨z30, hz30, hm⟩ := bnd_some hm
        obtain rfl := Option.some.inj hm
        exact (xe_st (cal1 ok (i := 0) rfl) (cal1 ok (i := 0) rfl) (xe_call (xa_cons (xe_var (i := 11) rfl) (xa_cons (xe_var (i := 9) rfl) (xa_cons (xe_sub (xe_var (i := 1) rfl) (xe_var (i := 8) rfl)) xa_nil))) ⟨k1, p1, m29, s21.2.1, (x4 - z27.1.sum), z30, rfl, (stt_get ok (i := 0) rfl), hz30, rfl⟩ (cal1 ok (i := 0) rfl))))
  · subst es
    cases hm
noncomputable def M__law_right (x1 : MS) (x2 : MS) (x3 : Int) : Option (Bool × MS × MS) :=
  (M__law_world x2).bind fun z1 => (chkP (-(2 ^ 62) ≤ (2 : Int) ∧ (2 : Int) < 2 ^ 62 ∧ -(2 ^ 62) ≤ (x3 + (1 : Int)) ∧ (x3 + (1 : Int)) < 2 ^ 62)).bind fun z8 => (forM' (ρ := Unit) (fun (a10 : Int) (s9 : Int) => (chkP (IntMulOk s9 a10)).bind fun z11 => (some (s9 * a10)).bind fun y12 => some (Stp.nx y12)) (rng (2 : Int) ((x3 + (1 : Int)) - (2 : Int)).toNat) (1 : Int)).bind fun z13 => (nxt z13).bind fun s14 => (M_factorial x1 x3).bind fun z15 => (M__law_is z15.1 s14 ((z15.2.w, z15.2.c).1)).bind fun z16 => (chkP (z16 = true)).bind fun z17 => (if (decide ((20 : Int) < x3)) = true then (M__law_due x2 ([] : List (T3 Str Int Int)) ([] : List (Str × Int)) x3).bind fun z18 => (M_Big_eq z15.1 z18.1).bind fun z19 => (chkP ((!z19) = false)).bind fun z20 => some (z18.2.1, z18.2.2) else some (x2, ([] : List (T3 Str Int Int)))).bind fun z21 => (M__law_as_world z15.2 z21.1 z21.2 ([] : List (Str × Int))).bind fun z23 => (chkP (z23 = true)).bind fun z24 => some (true, z15.2.reset, z21.1.reset)
def Pre__law_right (T : TC) : PreT := fun As Ω R => ∃ (kT : Nat) (k1 : Nat) (p1 : Addr) (x1 : MS) (k2 : Nat) (p2 : Addr) (x2 : MS) (x3 : Int) (r : Bool × MS × MS), As = [mmA p1 p2, va T x3] ∧ Ω[kT]? = some (tabA (tbs T)) ∧ Ω[k1]? = some (machA T p1 x1) ∧ Ω[k2]? = some (machA T p2 x2) ∧ k1 ≠ k2 ∧ k1 ≠ kT ∧ k2 ≠ kT ∧ M__law_right x1 x2 x3 = some r ∧ R = RV (va T r.1) (stt Ω [(k1, machA T p1 r.2.1), (k2, machA T p2 r.2.2)] [])
theorem sc__law_right : FnScope ["_law_engines_here", "_law_nn", "_law_engine", "_law_second", "_law_world_here", "_law_due_here", "_law_k", "_law_held"] ["_law_engines_here", "_law_nn"] (defScope s__law_right) := ⟨rfl, rfl, rfl, by decide +kernel, rfl, by decide +kernel, by decide +kernel⟩
theorem ok__law_right {f : Addr} {fd : FuncData} (F : Fun T.K "_law_right" "_law_right" s__law_right f fd) (c__law_world : Cal P w T.K mg base 1 "_law_world" ["_law_engine"] (mkSp (Pre__law_world T))) (z_range : mg "range" = none) (c_factorial : Cal P w T.K mg base 67 "factorial" ["machine", "n"] (mkSp (Pre_factorial T))) (mc : MCls T.K (T.C 0)) (c_Mach_parts : CalM P w T.K mg base 1 (T.C 0) "parts" ["self"] (mkSp (Pre_Mach_parts T))) (c__law_is : Cal P w T.K mg base 3 "_law_is" ["_law_held", "_law_nn", "_law_width"] (mkSp (Pre__law_is T))) (c__law_due : Cal P w T.K mg base 70 "_law_due" ["_law_world_here", "_law_nn"] (mkSp (Pre__law_due T))) (ceq : CalEq P w T.K mg base 1 (T.C 1) (mkSp (Pre_Big_eq T))) (c__law_as_world : Cal P w T.K mg base 2 "_law_as_world" ["_law_engine", "_law_world_here"] (mkSp (Pre__law_as_world T))) (c_Mach_reset : CalM P w T.K mg base 1 (T.C 0) "reset" ["self"] (mkSp (Pre_Mach_reset T))) : FnOk P w T.K mg base CX0 71 f fd ["_law_engines_here", "_law_nn"] (mkSp (Pre__law_right T)) := by
  refine fn_ok F sc__law_right (fun As Ω R h => ?_) (fun cdv A outer s H E hr As Ω R F0 h => ?_)
  · obtain ⟨kT, k1, p1, x1, k2, p2, x2, x3, r, rfl, _⟩ := h
    rfl
  obtain ⟨kT, k1, p1, x1, k2, p2, x2, x3, r, rfl, hkT, hk1, hk2, ne12, ne1T, ne2T, hm, rfl⟩ := h
  refine ⟨_, (pss_cons (ps_asg (pv 0) (pg_lstK (K := T.K) (n := 2) rfl rfl (pgs_cons (pg_name (i := 2) sc__law_right.nd rfl (.inl rfl)) (pgs_cons (pg_name (i := 3) sc__law_right.nd rfl (.inl rfl)) pgs_nil)))) (pss_cons (ps_par (i := 4) (j := 5) rfl sc__law_right.nd rfl rfl (by decide) rfl rfl (pa_cons (pe_cal c__law_world (hr.mono (by decide)) (by rfl) (pa_cons (pv 3) pa_nil)) (pa_cons pe_int pa_nil)) (by rfl)) (pss_cons (ps_for PassesOwn.never rfl (pi_range2 rfl z_range (pa_cons pe_int (pa_cons (pe_op op_addQ (pv 1) pe_int) pa_nil))) (pg_name (i := 6) sc__law_right.nd rfl (.inl rfl)) (pss_one (ps_set (i := 5) sc__law_right.nd rfl (.inl rfl) (pe_op op_mulQ (pv 5) (pv 6))))) (pss_cons (ps_set (i := 7) sc__law_right.nd rfl (.inl rfl) (pe_cal c_factorial (hr.mono (by decide)) (by rfl) (pa_cons (pv 2) (pa_cons (pv 1) pa_nil)))) (pss_cons (ps_if (PW.pt (pw_or (pt_not (pt_val (pe_cal c__law_is (hr.mono (by decide)) (by rfl) (pa_cons (pv 7) (pa_cons (pv 5) (pa_cons (pe_ix (ix_seqK (K := T.K) rfl) (pe_calM0 (pv 2) c_Mach_parts (hr.mono (by decide))) pe_int (by intro _ _; rfl)) pa_nil)))))) (pw_or1 (PW.pt (pw_and (pt_cmpR op_gt (pv 1) pe_int (nomark _)) (pw_and1 (pt_cmpR (op_neC ceq (hr.mono (by decide))) (pv 7) (pe_cal c__law_due (hr.mono (by decide)) (by rfl) (pa_cons (pv 4) (pa_cons (pv 1) pa_nil))) (nomark _)))))))) pss_never pss_nil) (pss_cons (ps_if (pt_not (pt_val (pe_cal c__law_as_world (hr.mono (by decide)) (by rfl) (pa_cons (pv 2) (pa_cons (pv 4) pa_nil))))) pss_never pss_nil) (pss_cons (ps_expr (pe_calM0 (pv 2) c_Mach_reset (hr.mono (by decide)))) (pss_cons (ps_expr (pe_calM0 (pv 3) c_Mach_reset (hr.mono (by decide)))) (pss_one (ps_ret pe_bl)))))))))), fun D hrt hnx => ?_⟩
  have ok := okk2 hk1 hk2 ne12
  suffices hx : XS _ D F0 [some (mmA p1 p2), some (va T x3), none, none, none, none, none, none] (stt Ω [(k1, machA T p1 x1), (k2, machA T p2 x2)] []) by
    rw [show (stt Ω [(k1, machA T p1 x1), (k2, machA T p2 x2)] []) = Ω from stt_self (by simp [hk1, hk2])] at hx
    exact hx
  unfold M__law_right at hm
  refine xs_asgG (xe_var (i := 0) rfl) tgt_mm ?_
  show XS (tSeq _ _) _ _ [some (mmA p1 p2), some (va T x3), some (vr p1), some (vr p2), none, none, none, none] (stt Ω [(k1, machA T p1 x1), (k2, machA T p2 x2)] [])
  obtain ⟨z1, hz1, hm⟩ := bnd_some hm
  refine xs_parWE (B := va T (1 : Int)) (xn_callWE (xa_cons (xe_var (i := 3) rfl) xa_nil) ⟨k2, p2, x2, z1, rfl, (stt_get ok (i := 1) rfl), hz1, rfl⟩ cal0) (fun pp2 pp3 pp4 => xe_int) (fun pp2 pp3 pp4 => ?_)
  show XS (tSeq _ _) _ _ [some (mmA p1 p2), some (va T x3), some (vr p1), some (vr p2), some (vr pp2), some (va T (1 : Int)), none, none] (stt Ω [(k1, machA T p1 x1), (k2, machA T p2 x2)] [rawD pp2 (wev p2 pp3 pp4), lstA T pp3 (([] : List (T3 Str Int Int)) : List (T3 Str Int Int)), rawD pp4 (dkv ([] : List (Str × Int)))])
  obtain ⟨z8, hz8, hm⟩ := bnd_some hm
  obtain ⟨z13, hz13, hm⟩ := bnd_some hm
  refine xs_forS (fun (s9 : Int) => [some (mmA p1 p2), some (va T x3), some (vr p1), some (vr p2), some (vr pp2), some (va T s9), none, none]) (fun (s9 : Int) => (stt Ω [(k1, machA T p1 x1), (k2, machA T p2 x2)] [rawD pp2 (wev p2 pp3 pp4), lstA T pp3 (([] : List (T3 Str Int Int)) : List (T3 Str Int Int)), rawD pp4 (dkv ([] : List (Str × Int)))])) (fun (_ : Unit) _ _ _ => False) hz13 (xi_range2 (T := T) (xa_cons xe_int (xa_cons (xe_add (xe_var (i := 1) rfl) xe_int) xa_nil)) (chkP_some hz8)) (fun _ => tgt_name) (fun a10 s9 s' ha hm F1 D1 e1 hD => ?_) (fun s14 es => ?_) (fun r1 es => ?_)
  · show XS (tAsg _ _) _ _ [some (mmA p1 p2), some (va T x3), some (vr p1), some (vr p2), some (vr pp2), some (va T s9), some (va T a10), none] (stt Ω [(k1, machA T p1 x1), (k2, machA T p2 x2)] [rawD pp2 (wev p2 pp3 pp4), lstA T pp3 (([] : List (T3 Str Int Int)) : List (T3 Str Int Int)), rawD pp4 (dkv ([] : List (Str × Int)))])
    obtain ⟨z11, hz11, hm⟩ := bnd_some hm
    obtain ⟨y12, hy12, hm⟩ := bnd_some hm
    refine xs_set1 (A := va T y12) (xe_eq (xe_mul (chkP_some hz11) (xe_var (i := 5) rfl) (xe_var (i := 6) rfl)) (Option.some.inj hy12)) ?_
    obtain rfl := Option.some.inj hm
    exact fun σ H n => hD.nx _ rfl σ H (n.forget 6)
  · subst es
    obtain ⟨s2, hs2, hm⟩ := bnd_some hm
    cases hs2
    show XS (tSeq _ _) _ _ [some (mmA p1 p2), some (va T x3), some (vr p1), some (vr p2), some (vr pp2), some (va T s14), none, none] (stt Ω [(k1, machA T p1 x1), (k2, machA T p2 x2)] [rawD pp2 (wev p2 pp3 pp4), lstA T pp3 (([] : List (T3 Str Int Int)) : List (T3 Str Int Int)), rawD pp4 (dkv ([] : List (Str × Int)))])
    obtain ⟨z15, hz15, hm⟩ := bnd_some hm
    refine xs_set (A := va T z15.1) (xe_call (xa_cons (xe_var (i := 2) rfl) (xa_cons (xe_var (i := 1) rfl) xa_nil)) ⟨k1, p1, x1, x3, z15, rfl, (stt_get ok (i := 0) rfl), hz15, rfl⟩ (cal1 ok (i := 0) rfl)) ?_
    show XS (tSeq _ _) _ _ [some (mmA p1 p2), some (va T x3), some (vr p1), some (vr p2), some (vr pp2), some (va T s14), none, some (va T z15.1)] (stt Ω [(k1, machA T p1 z15.2), (k2, machA T p2 x2)] [rawD pp2 (wev p2 pp3 pp4), lstA T pp3 (([] : List (T3 Str Int Int)) : List (T3 Str Int Int)), rawD pp4 (dkv ([] : List (Str × Int)))])
    obtain ⟨z16, hz16, hm⟩ := bnd_some hm
    obtain ⟨z17, hz17, hm⟩ := bnd_some hm
    obtain ⟨z21, hz21, hm⟩ := bnd_some hm
    refine xs_ifN (xt_orF (xt_notF (xt_eq (xt_tB (T := T) (xe_call (xa_cons (xe_var (i := 7) rfl) (xa_cons (xe_var (i := 5) rfl) (xa_cons (xe_fst (xe_mcall (xe_var (i := 2) rfl) (stt_get ok (i := 0) rfl) xa_nil ⟨k1, p1, z15.2, rfl, (stt_get ok (i := 0) rfl), rfl⟩ rfl)) xa_nil))) ⟨z15.1, s14, (z15.2.w, z15.2.c).1, z16, rfl, hz16, rfl⟩ cal0)) (chkP_some hz17))) (xt_andNO (O := fun (sO : MS × List (T3 Str Int Int)) => (stt Ω [(k1, machA T p1 z15.2), (k2, machA T p2 sO.1)] [rawD pp2 (wev p2 pp3 pp4), lstA T pp3 (sO.2 : List (T3 Str Int Int)), rawD pp4 (dkv ([] : List (Str × Int)))])) (xt_test (T := T) (xe_gt (xe_var (i := 1) rfl) xe_int)) hz21 ?q22)) ?_
    case q22 =>
      exact (fun v hm => by
        obtain ⟨z18, hz18, hm⟩ := bnd_some hm
        obtain ⟨z19, hz19, hm⟩ := bnd_some hm
        obtain ⟨z20, hz20, hm⟩ := bnd_some hm
        obtain rfl := Option.some.inj hm
        exact (xt_eq (xt_test (T := T) (xe_ownNe (xe_var (i := 7) rfl) (xe_call (xa_cons (xe_var (i := 4) rfl) (xa_cons (xe_var (i := 1) rfl) xa_nil)) ⟨kT, (Ω.length + 0), pp2, k2, p2, x2, (Ω.length + 1), pp3, ([] : List (T3 Str Int Int)), (Ω.length + 2), pp4, ([] : List (Str × Int)), x3, z18, rfl, (stt_getU hkT (by simp [ne12, ne12.symm, ne1T, ne1T.symm, ne2T, ne2T.symm])), (stt_getL (j := 0) rfl), (stt_get ok (i := 1) rfl), (stt_getL (j := 1) rfl), (stt_getL (j := 2) rfl), (ne_kL (by exact getlt hk2)).symm, (by omega), (by omega), (ne_kL (by exact getlt hk2)), (ne_kL (by exact getlt hk2)), (by omega), (ne_kL (by exact getlt hkT)).symm, (by first | assumption | exact Ne.symm (by assumption)), (ne_kL (by exact getlt hkT)).symm, (ne_kL (by exact getlt hkT)).symm, hz18, rfl⟩ ((stt_two.trans (congrArg (fun W => stt W _ []) (cal1L (j := 1)))).trans (cal1 ok (i := 1) rfl))) ⟨z15.1, z18.1, z19, rfl, hz19, rfl⟩ cal0)) (chkP_some hz20)))
    show XS (tSeq _ _) _ _ [some (mmA p1 p2), some (va T x3), some (vr p1), some (vr p2), some (vr pp2), some (va T s14), none, some (va T z15.1)] (stt Ω [(k1, machA T p1 z15.2), (k2, machA T p2 z21.1)] [rawD pp2 (wev p2 pp3 pp4), lstA T pp3 (z21.2 : List (T3 Str Int Int)), rawD pp4 (dkv ([] : List (Str × Int)))])
    obtain ⟨z23, hz23, hm⟩ := bnd_some hm
    obtain ⟨z24, hz24, hm⟩ := bnd_some hm
    refine xs_ifN (xt_notF (xt_eq (xt_tB (T := T) (xe_call (xa_cons (xe_var (i := 2) rfl) (xa_cons (xe_var (i := 4) rfl) xa_nil)) ⟨k1, p1, z15.2, (Ω.length + 0), pp2, k2, p2, z21.1, (Ω.length + 1), pp3, z21.2, (Ω.length + 2), pp4, ([] : List (Str × Int)), z23, rfl, (stt_get ok (i := 0) rfl), (stt_getL (j := 0) rfl), (stt_get ok (i := 1) rfl), (stt_getL (j := 1) rfl), (stt_getL (j := 2) rfl), (ne_kL (by exact getlt hk1)), (by first | assumption | exact Ne.symm (by assumption)), (ne_kL (by exact getlt hk1)), (ne_kL (by exact getlt hk1)), (ne_kL (by exact getlt hk2)).symm, (by omega), (by omega), (ne_kL (by exact getlt hk2)), (ne_kL (by exact getlt hk2)), (by omega), hz23, rfl⟩ cal0)) (chkP_some hz24))) ?_
    show XS (tSeq _ _) _ _ [some (mmA p1 p2), some (va T x3), some (vr p1), some (vr p2), some (vr pp2), some (va T s14), none, some (va T z15.1)] (stt Ω [(k1, machA T p1 z15.2), (k2, machA T p2 z21.1)] [rawD pp2 (wev p2 pp3 pp4), lstA T pp3 (z21.2 : List (T3 Str Int Int)), rawD pp4 (dkv ([] : List (Str × Int)))])
    refine xs_drop (xe_mcall (xe_var (i := 2) rfl) (stt_get ok (i := 0) rfl) xa_nil ⟨k1, p1, z15.2, rfl, (stt_get ok (i := 0) rfl), rfl⟩ (cal1 ok (i := 0) rfl)) ?_
    show XS (tSeq _ _) _ _ [some (mmA p1 p2), some (va T x3), some (vr p1), some (vr p2), some (vr pp2), some (va T s14), none, some (va T z15.1)] (stt Ω [(k1, machA T p1 z15.2.reset), (k2, machA T p2 z21.1)] [rawD pp2 (wev p2 pp3 pp4), lstA T pp3 (z21.2 : List (T3 Str Int Int)), rawD pp4 (dkv ([] : List (Str × Int)))])
    refine xs_drop (xe_mcall (xe_var (i := 3) rfl) (stt_get ok (i := 1) rfl) xa_nil ⟨k2, p2, z21.1, rfl, (stt_get ok (i := 1) rfl), rfl⟩ (cal1 ok (i := 1) rfl)) ?_
    show XS (tRet _) _ _ [some (mmA p1 p2), some (va T x3), some (vr p1), some (vr p2), some (vr pp2), some (va T s14), none, some (va T z15.1)] (stt Ω [(k1, machA T p1 z15.2.reset), (k2, machA T p2 z21.1.reset)] [rawD pp2 (wev p2 pp3 pp4), lstA T pp3 (z21.2 : List (T3 Str Int Int)), rawD pp4 (dkv ([] : List (Str × Int)))])
    obtain rfl := Option.some.inj hm
    refine xs_ret xe_bl hrt.all
  · subst es
    cases hm
noncomputable def M_law (x0 : List Int) : Option Bool :=
  (chkP (x0.length + ([(0 : Int)] : List Int).length ≤ sizeLine)).bind fun z1 => (forM' (ρ := Unit) (fun (a3 : Int) (s2 : Unit) => (M__law_source a3).bind fun z4 => (M__law_engines z4).bind fun z7 => (M__law_draw z7.2 (21 : Int)).bind fun z12 => (M__law_draw z12.2 (40 : Int)).bind fun z13 => (M__law_draw z13.2 (170 : Int)).bind fun z14 => (some ([z12.1, (21 : Int), ((22 : Int) + z13.1), ((30 : Int) + z14.1)] : List Int)).bind fun y15 => (M__law_draw z14.2 (3 : Int)).bind fun z18 => (chkP (CShl (1 : Int) ((5 : Int) + z18.1))).bind fun z19 => (M__law_draw z18.2 (3 : Int)).bind fun z20 => (chkP (y15.length < sizeLine)).bind fun z21 => (forM' (ρ := Unit) (fun (a23 : Int) (s22 : MS × MS) => (M__law_right s22.1 s22.2 a23).bind fun z24 => (chkP (z24.1 = true)).bind fun z25 => some (Stp.nx (z24.2.1, z24.2.2))) (y15 ++ [((((1 : Int) * 2 ^ (((5 : Int) + z18.1)).toNat) - (1 : Int)) + z20.1)]) (z7.1.1, z7.1.2)).bind fun z26 => (nxt z26).bind fun s27 => some (Stp.nx ())) (cut (x0 ++ ([(0 : Int)] : List Int)) none (some (4 : Int))) ()).bind fun z28 => (nxt z28).bind fun s29 => (chkP (-(2 ^ 62) ≤ (2 : Int) ∧ (2 : Int) < 2 ^ 62)).bind fun z30 => (chkP ((8 ≤ (30 : Int) ∧ (30 : Int) ≤ 30) ∧ 2 ≤ (70 : Int) ∧ (70 : Int) ≤ 1000)).bind fun z32 => (chkP (x0.length + ([(0 : Int)] : List Int).length ≤ sizeLine)).bind fun z37 => (atI (x0 ++ ([(0 : Int)] : List Int)) (0 : Int)).bind fun z38 => (M__law_source z38).bind fun z39 => (M__law_one z39 ([(501 : Int), (700 : Int), (1000 : Int), (1023 : Int), (1024 : Int), (1025 : Int), (1100 : Int)] : List Int)).bind fun z42 => (M__law_right (((MS.fresh (30 : Int) (70 : Int)), (MS.fresh (30 : Int) (70 : Int))).1) (((MS.fresh (30 : Int) (70 : Int)), (MS.fresh (30 : Int) (70 : Int))).2) z42.1).bind fun z43 => (chkP (z43.1 = true)).bind fun z44 => (chkP ((8 ≤ (8 : Int) ∧ (8 : Int) ≤ 30) ∧ 2 ≤ (4 : Int) ∧ (4 : Int) ≤ 1000)).bind fun z45 => (some (MS.fresh (8 : Int) (4 : Int))).bind fun y46 => (M_factorial y46 (25 : Int)).bind fun z49 => (chkP (z49.2.wk.length ≤ sizeLine)).bind fun z50 => (lcM (fun (a52 : (T3 Str Int Int)) (s51 : Unit) => if (decide (a52.a = ("odd part" : Str))) = true then some (some a52, ()) else some (none, ())) z49.2.wk ()).bind fun z53 => (chkP (([((3 : Int), (5 : Int)), ((5 : Int), (7 : Int)), ((7 : Int), (13 : Int)), ((13 : Int), (27 : Int))] : List (Int × Int)).length ≤ sizeLine)).bind fun z55 => (lcM (fun (a57 : (Int × Int)) (s56 : Unit) => some (some (T3.mk ("odd part" : Str) a57.1 a57.2), ())) ([((3 : Int), (5 : Int)), ((5 : Int), (7 : Int)), ((7 : Int), (13 : Int)), ((13 : Int), (27 : Int))] : List (Int × Int)) ()).bind fun z58 => (chkP (Dat.ok (LF.mk z53.1) ∧ Dat.ok (LF.mk z58.1))).bind fun z60 => (chkP ((eqD (LF.mk z53.1) (LF.mk z58.1)) = true)).bind fun z61 => (M_Big_sign z49.1).bind fun z62 => (chkP ((decide (z62 = (1 : Int))) = true)).bind fun z63 => some true
def Pre_law (T : TC) : PreT := fun As Ω R => ∃ (kT : Nat) (x0 : List Int) (r : Bool), As = [va T (SF.mk x0)] ∧ Ω[kT]? = some (tabA (tbs T)) ∧ M_law x0 = some r ∧ R = RV (va T r) (stt Ω [] [])
theorem sc_law : FnScope ["_law_script", "_law_cell", "_law_source_here", "_law_engines_here", "_law_some", "_law_nn", "_law_large", "_law_tiny", "_law_held", "_law_odds_here", "_law_due_here", "_law_k", "_law_row", "_law_low", "_law_high"] ["_law_script"] (defScope s_law) := ⟨rfl, rfl, rfl, by decide +kernel, rfl, by decide +kernel, by decide +kernel⟩
theorem ok_law {f : Addr} {fd : FuncData} (F : Fun T.K "law" "law" s_law f fd) (c__law_source : Cal P w T.K mg base 1 "_law_source" ["_law_cell"] (mkSp (Pre__law_source T))) (c__law_engines : Cal P w T.K mg base 5 "_law_engines" ["_law_source_here"] (mkSp (Pre__law_engines T))) (c__law_draw : Cal P w T.K mg base 2 "_law_draw" ["_law_source_here", "_law_bound"] (mkSp (Pre__law_draw T))) (c__law_right : Cal P w T.K mg base 71 "_law_right" ["_law_engines_here", "_law_nn"] (mkSp (Pre__law_right T))) (z_range : mg "range" = none) (c_Machine2 : CalC P w T.K mg base 3 "Machine" (T.C 0) ["self", "bits", "cutoff"] [] (mkSp (Pre_Machine T))) (c__law_one : Cal P w T.K mg base 3 "_law_one" ["_law_source_here", "_law_some"] (mkSp (Pre__law_one T))) (ck_factorial_0_n_machine : CalK P w T.K mg base 67 "factorial" ["machine", "n"] 0 ["n", "machine"] [1, 0] (mkSp (Pre_factorial T))) (mc : MCls T.K (T.C 0)) (c_Mach_walk : CalM P w T.K mg base 1 (T.C 0) "walk" ["self"] (mkSp (Pre_Mach_walk T))) (c_Big_sign : CalM P w T.K mg base 1 (T.C 1) "sign" ["self"] (mkSp (Pre_Big_sign T))) : FnOk P w T.K mg base CX0 72 f fd ["_law_script"] (mkSp (Pre_law T)) := by
  refine fn_ok F sc_law (fun As Ω R h => ?_) (fun cdv A outer s H E hr As Ω R F0 h => ?_)
  · obtain ⟨kT, x0, r, rfl, _⟩ := h
    rfl
  obtain ⟨kT, x0, r, rfl, hkT, hm, rfl⟩ := h
  refine ⟨_, (pss_cons (ps_for PassesOwn.never rfl (pi_listK (K := T.K) (pe_slice (sl_listK (K := T.K) rfl) (pe_op (op_catSK (K := T.K) rfl) (pv 0) (pe_lst (pa_cons pe_int pa_nil))) po_none (po_some pe_int)) rfl) (pg_name (i := 1) sc_law.nd rfl (.inl rfl)) (pss_cons (ps_set (i := 2) sc_law.nd rfl (.inl rfl) (pe_cal c__law_source (hr.mono (by decide)) (by rfl) (pa_cons (pv 1) pa_nil))) (pss_cons (ps_set (i := 3) sc_law.nd rfl (.inl rfl) (pe_cal c__law_engines (hr.mono (by decide)) (by rfl) (pa_cons (pv 2) pa_nil))) (pss_cons (ps_set (i := 4) sc_law.nd rfl (.inl rfl) (pe_lst (pa_cons (pe_cal c__law_draw (hr.mono (by decide)) (by rfl) (pa_cons (pv 2) (pa_cons pe_int pa_nil))) (pa_cons pe_int (pa_cons (pe_op op_addQ pe_int (pe_cal c__law_draw (hr.mono (by decide)) (by rfl) (pa_cons (pv 2) (pa_cons pe_int pa_nil)))) (pa_cons (pe_op op_addQ pe_int (pe_cal c__law_draw (hr.mono (by decide)) (by rfl) (pa_cons (pv 2) (pa_cons pe_int pa_nil)))) pa_nil)))))) (pss_cons (ps_expr (pe_bm PySem.F.plainAttrs_list PySem.F.slot_list_append PySem.F.type_list_append mt_append (pv 4) (pa_cons (pe_op op_addQ (pe_op op_sub (pe_op op_shlW pe_int (pe_op op_addQ pe_int (pe_cal c__law_draw (hr.mono (by decide)) (by rfl) (pa_cons (pv 2) (pa_cons pe_int pa_nil))))) pe_int) (pe_cal c__law_draw (hr.mono (by decide)) (by rfl) (pa_cons (pv 2) (pa_cons pe_int pa_nil)))) pa_nil))) (pss_one (ps_for PassesOwn.never rfl (pi_listK (K := T.K) (pv 4) rfl) (pg_name (i := 5) sc_law.nd rfl (.inl rfl)) (pss_one (ps_if (pt_not (pt_val (pe_cal c__law_right (hr.mono (by decide)) (by rfl) (pa_cons (pv 3) (pa_cons (pv 5) pa_nil))))) pss_never pss_nil))))))))) (pss_cons (ps_setLc (i := 6) (own := [("_law_k", 11)]) rfl sc_law.nd rfl rfl (sw_true rfl rfl rfl (by decide +kernel)) (pi_range1 rfl z_range (pa_cons pe_int pa_nil)) (blkOk_by (N := ["_law_script", "_law_cell", "_law_source_here", "_law_engines_here", "_law_some", "_law_nn", "_law_large", "_law_tiny", "_law_held", "_law_odds_here", "_law_due_here", "_law_k", "_law_row", "_law_low", "_law_high"]) (sc := defScope s_law) (by decide +kernel)) (fun _ _ _ _ _ => (pg_name (i := 11) sc_law.nd rfl (.inl rfl))) (fun _ _ _ _ _ => pts_nil) (fun _ _ _ _ _ => (pe_calC c_Machine2 (hr.mono (by decide)) (by rfl) (pa_cons pe_int (pa_cons pe_int pa_nil))))) (pss_cons (ps_set (i := 2) sc_law.nd rfl (.inl rfl) (pe_cal c__law_source (hr.mono (by decide)) (by rfl) (pa_cons (pe_ix (ix_seqK (K := T.K) rfl) (pe_op (op_catSK (K := T.K) rfl) (pv 0) (pe_lst (pa_cons pe_int pa_nil))) pe_int (by intro _ _; rfl)) pa_nil))) (pss_cons (ps_if (pt_not (pt_val (pe_cal c__law_right (hr.mono (by decide)) (by rfl) (pa_cons (pv 6) (pa_cons (pe_cal c__law_one (hr.mono (by decide)) (by rfl) (pa_cons (pv 2) (pa_cons (pe_lst (pa_cons pe_int (pa_cons pe_int (pa_cons pe_int (pa_cons pe_int (pa_cons pe_int (pa_cons pe_int (pa_cons pe_int pa_nil)))))))) pa_nil))) pa_nil))))) pss_never pss_nil) (pss_cons (ps_set (i := 7) sc_law.nd rfl (.inl rfl) (pe_calC c_Machine2 (hr.mono (by decide)) (by rfl) (pa_cons pe_int (pa_cons pe_int pa_nil)))) (pss_cons (ps_set (i := 8) sc_law.nd rfl (.inl rfl) (pe_calK0 ck_factorial_0_n_machine (hr.mono (by decide)) (by rfl) (pk_cons pe_int (pk_cons (pv 7) pk_nil)))) (pss_cons (ps_setLc (i := 9) (own := [("_law_row", 12)]) rfl sc_law.nd rfl rfl (sw_true rfl rfl rfl (by decide +kernel)) (pi_listK (K := T.K) (pe_calM0 (pv 7) c_Mach_walk (hr.mono (by decide))) rfl) (blkOk_by (N := ["_law_script", "_law_cell", "_law_source_here", "_law_engines_here", "_law_some", "_law_nn", "_law_large", "_law_tiny", "_law_held", "_law_odds_here", "_law_due_here", "_law_k", "_law_row", "_law_low", "_law_high"]) (sc := defScope s_law) (by decide +kernel)) (fun _ _ _ _ _ => (pg_name (i := 12) sc_law.nd rfl (.inl rfl))) (fun _ _ _ _ _ => (pts_one (pt_cmpR (op_eqXK (K := T.K) (by exact hr.units) rfl) (pe_ix (ix_seqK (K := T.K) rfl) (pv 12) pe_int (by intro _ _; rfl)) pe_str (nomark _)))) (fun _ _ _ _ _ => (pv 12))) (pss_cons (ps_setLc (i := 10) (own := [("_law_low", 13), ("_law_high", 14)]) rfl sc_law.nd rfl rfl (sw_true rfl rfl rfl (by decide +kernel)) (pi_listK (K := T.K) (pe_lst (pa_cons (pe_tup (pa_cons pe_int (pa_cons pe_int pa_nil))) (pa_cons (pe_tup (pa_cons pe_int (pa_cons pe_int pa_nil))) (pa_cons (pe_tup (pa_cons pe_int (pa_cons pe_int pa_nil))) (pa_cons (pe_tup (pa_cons pe_int (pa_cons pe_int pa_nil))) pa_nil))))) rfl) (blkOk_by (N := ["_law_script", "_law_cell", "_law_source_here", "_law_engines_here", "_law_some", "_law_nn", "_law_large", "_law_tiny", "_law_held", "_law_odds_here", "_law_due_here", "_law_k", "_law_row", "_law_low", "_law_high"]) (sc := defScope s_law) (by decide +kernel)) (fun _ _ _ _ _ => (pg_tupK (K := T.K) (n := 2) rfl rfl (pgs_cons (pg_name (i := 13) sc_law.nd rfl (.inl rfl)) (pgs_cons (pg_name (i := 14) sc_law.nd rfl (.inl rfl)) pgs_nil)))) (fun _ _ _ _ _ => pts_nil) (fun _ _ _ _ _ => (pe_tup (pa_cons pe_str (pa_cons (pv 13) (pa_cons (pv 14) pa_nil)))))) (pss_one (ps_ret (pe_and (pe_cmpR (op_eqXK (K := T.K) (by exact hr.units) rfl) (pv 9) (pv 10) (nomark _)) (pe_one (pe_cmpR (op_eqXK (K := T.K) (by exact hr.units) rfl) (pe_calM0 (pv 8) c_Big_sign (hr.mono (by decide))) pe_int (nomark _)))))))))))))), fun D hrt hnx => ?_⟩
  have ok : Okk Ω [] := okk0
  suffices hx : XS _ D F0 [some (va T (SF.mk x0)), none, none, none, none, none, none, none, none, none, none, none, none, none, none] (stt Ω [] []) by
    rw [show (stt Ω [] []) = Ω from stt_self (by simp)] at hx
    exact hx
  unfold M_law at hm
  obtain ⟨z1, hz1, hm⟩ := bnd_some hm
  obtain ⟨z28, hz28, hm⟩ := bnd_some hm
  refine xs_forS (fun (s2 : Unit) => [some (va T (SF.mk x0)), none, none, none, none, none, none, none, none, none, none, none, none, none, none]) (fun (s2 : Unit) => (stt Ω [] [])) (fun (_ : Unit) _ _ _ => False) hz28 (xi_LF (xe_sliceL (xe_catS (xe_var (i := 0) rfl) (xe_lst (l := [(0 : Int)]) (xa_cons xe_int xa_nil) (by show 1 ≤ sizeLine; decide)) isLs_LF (chkP_some hz1)) xo_none (xo_some (T := T) xe_int) isL_LF)) (fun _ => tgt_name) (fun a3 s2 s' ha hm F1 D1 e1 hD => ?_) (fun s29 es => ?_) (fun r1 es => ?_)
  · show XS (tSeq _ _) _ _ [some (va T (SF.mk x0)), some (va T a3), none, none, none, none, none, none, none, none, none, none, none, none, none] (stt Ω [] [])
    obtain ⟨z4, hz4, hm⟩ := bnd_some hm
    refine xs_setO (xn_call (xa_cons (xe_var (i := 1) rfl) xa_nil) ⟨a3, z4, rfl, hz4, rfl⟩ cal0) (fun pp5 => ?_)
    show XS (tSeq _ _) _ _ [some (va T (SF.mk x0)), some (va T a3), some (vr pp5), none, none, none, none, none, none, none, none, none, none, none, none] (stt Ω [] [lstA T pp5 (z4 : List Int)])
    obtain ⟨z7, hz7, hm⟩ := bnd_some hm
    refine xs_setMM (xn_callMM (xa_cons (xe_var (i := 2) rfl) xa_nil) ⟨(Ω.length + 0), pp5, z4, z7, rfl, (stt_getL (j := 0) rfl), hz7, rfl⟩ (cal1L (j := 0))) (fun pp8 pp9 => ?_)
    show XS (tSeq _ _) _ _ [some (va T (SF.mk x0)), some (va T a3), some (vr pp5), some (mmA pp8 pp9), none, none, none, none, none, none, none, none, none, none, none] (stt Ω [] [lstA T pp5 (z7.2 : List Int), machA T pp8 z7.1.1, machA T pp9 z7.1.2])
    obtain ⟨z12, hz12, hm⟩ := bnd_some hm
    obtain ⟨z13, hz13, hm⟩ := bnd_some hm
    obtain ⟨z14, hz14, hm⟩ := bnd_some hm
    obtain ⟨y15, hy15, hm⟩ := bnd_some hm
    obtain rfl := Option.some.inj hy15
    refine xs_setO ((xn_lst (T := T) (l := [z12.1, (21 : Int), ((22 : Int) + z13.1), ((30 : Int) + z14.1)]) (xa_cons (xe_call (xa_cons (xe_var (i := 2) rfl) (xa_cons xe_int xa_nil)) ⟨(Ω.length + 0), pp5, z7.2, (21 : Int), z12, rfl, (stt_getL (j := 0) rfl), hz12, rfl⟩ (cal1L (j := 0))) (xa_cons xe_int (xa_cons (xe_add xe_int (xe_call (xa_cons (xe_var (i := 2) rfl) (xa_cons xe_int xa_nil)) ⟨(Ω.length + 0), pp5, z12.2, (40 : Int), z13, rfl, (stt_getL (j := 0) rfl), hz13, rfl⟩ (cal1L (j := 0)))) (xa_cons (xe_add xe_int (xe_call (xa_cons (xe_var (i := 2) rfl) (xa_cons xe_int xa_nil)) ⟨(Ω.length + 0), pp5, z13.2, (170 : Int), z14, rfl, (stt_getL (j := 0) rfl), hz14, rfl⟩ (cal1L (j := 0)))) xa_nil)))) (by show 4 ≤ sizeLine; decide))) (fun pp16 => ?_)
    show XS (tSeq _ _) _ _ [some (va T (SF.mk x0)), some (va T a3), some (vr pp5), some (mmA pp8 pp9), some (vr pp16), none, none, none, none, none, none, none, none, none, none] (stt Ω [] [lstA T pp5 (z14.2 : List Int), machA T pp8 z7.1.1, machA T pp9 z7.1.2, lstA T pp16 (([z12.1, (21 : Int), ((22 : Int) + z13.1), ((30 : Int) + z14.1)] : List Int) : List Int)])
    obtain ⟨z18, hz18, hm⟩ := bnd_some hm
    obtain ⟨z19, hz19, hm⟩ := bnd_some hm
    obtain ⟨z20, hz20, hm⟩ := bnd_some hm
    obtain ⟨z21, hz21, hm⟩ := bnd_some hm
    refine xs_drop (xe_appE (stt_getL (j := 3) rfl) (stt_getL (j := 3) rfl) (xe_var (i := 4) rfl) (xe_add (xe_sub (xe_shl (chkP_some hz19) xe_int (xe_add xe_int (xe_call (xa_cons (xe_var (i := 2) rfl) (xa_cons xe_int xa_nil)) ⟨(Ω.length + 0), pp5, z14.2, (3 : Int), z18, rfl, (stt_getL (j := 0) rfl), hz18, rfl⟩ (cal1L (j := 0))))) xe_int) (xe_call (xa_cons (xe_var (i := 2) rfl) (xa_cons xe_int xa_nil)) ⟨(Ω.length + 0), pp5, z18.2, (3 : Int), z20, rfl, (stt_getL (j := 0) rfl), hz20, rfl⟩ (cal1L (j := 0)))) (chkP_some hz21) (stt_setL (j := 3))) ?_
    show XS (tFor _ _ _) _ _ [some (va T (SF.mk x0)), some (va T a3), some (vr pp5), some (mmA pp8 pp9), some (vr pp16), none, none, none, none, none, none, none, none, none, none] (stt Ω [] [lstA T pp5 (z20.2 : List Int), machA T pp8 z7.1.1, machA T pp9 z7.1.2, lstA T pp16 ((([z12.1, (21 : Int), ((22 : Int) + z13.1), ((30 : Int) + z14.1)] : List Int) ++ [((((1 : Int) * 2 ^ (((5 : Int) + z18.1)).toNat) - (1 : Int)) + z20.1)]) : List Int)])
    refine xs_fzJ (k := 4) (j := 3) rfl rfl ?_
    show XS _ _ _ [some (va T (SF.mk x0)), some (va T a3), some (vr pp5), some (mmA pp8 pp9), some (va T (LF.mk (([z12.1, (21 : Int), ((22 : Int) + z13.1), ((30 : Int) + z14.1)] : List Int) ++ [((((1 : Int) * 2 ^ (((5 : Int) + z18.1)).toNat) - (1 : Int)) + z20.1)]))), none, none, none, none, none, none, none, none, none, none] (stt Ω [] [lstA T pp5 (z20.2 : List Int), machA T pp8 z7.1.1, machA T pp9 z7.1.2, nilA])
    obtain ⟨z26, hz26, hm⟩ := bnd_some hm
    refine xs_for (fun (s22 : MS × MS) => [some (va T (SF.mk x0)), some (va T a3), some (vr pp5), some (mmA pp8 pp9), some (va T (LF.mk (([z12.1, (21 : Int), ((22 : Int) + z13.1), ((30 : Int) + z14.1)] : List Int) ++ [((((1 : Int) * 2 ^ (((5 : Int) + z18.1)).toNat) - (1 : Int)) + z20.1)]))), none, none, none, none, none, none, none, none, none, none]) (fun (s22 : MS × MS) => (stt Ω [] [lstA T pp5 (z20.2 : List Int), machA T pp8 s22.1, machA T pp9 s22.2, nilA])) (fun (_ : Unit) _ _ _ => False) hz26 (xi_LF (xe_var (i := 4) rfl)) (fun _ => tgt_name) (fun a23 s22 s' ha hm F1 D1 e1 hD => ?_) (fun s27 es => ?_) (fun r1 es => ?_)
    · show XS (tIfS _ _ _) _ _ [some (va T (SF.mk x0)), some (va T a3), some (vr pp5), some (mmA pp8 pp9), some (va T (LF.mk (([z12.1, (21 : Int), ((22 : Int) + z13.1), ((30 : Int) + z14.1)] : List Int) ++ [((((1 : Int) * 2 ^ (((5 : Int) + z18.1)).toNat) - (1 : Int)) + z20.1)]))), some (va T a23), none, none, none, none, none, none, none, none, none] (stt Ω [] [lstA T pp5 (z20.2 : List Int), machA T pp8 s22.1, machA T pp9 s22.2, nilA])
      obtain ⟨z24, hz24, hm⟩ := bnd_some hm
      obtain ⟨z25, hz25, hm⟩ := bnd_some hm
      refine xs_ifF1 (xt_notF (xt_eq (xt_tB (T := T) (xe_call (xa_cons (xe_var (i := 3) rfl) (xa_cons (xe_var (i := 5) rfl) xa_nil)) ⟨kT, (Ω.length + 1), pp8, s22.1, (Ω.length + 2), pp9, s22.2, a23, z24, rfl, (stt_getU hkT), (stt_getL (j := 1) rfl), (stt_getL (j := 2) rfl), (by omega), (ne_kL (by exact getlt hkT)).symm, (ne_kL (by exact getlt hkT)).symm, hz24, rfl⟩ ((stt_two.trans (congrArg (fun W => stt W _ []) (cal1L (j := 2)))).trans (cal1L (j := 1))))) (chkP_some hz25))) ?_
      obtain rfl := Option.some.inj hm
      exact fun σ H n => hD.nx _ rfl σ H (n.forget 5)
    · subst es
      obtain ⟨s2, hs2, hm⟩ := bnd_some hm
      cases hs2
      obtain rfl := Option.some.inj hm
      exact fun σ H n => hD.nx _ rfl σ H (NX.cutL [] [lstA T pp5 (z20.2 : List Int), machA T pp8 s27.1, machA T pp9 s27.2, nilA] ((((n.forget 2).forget 3).forget 4).forget 1))
    · subst es
      cases hm
  · subst es
    obtain ⟨s2, hs2, hm⟩ := bnd_some hm
    cases hs2
    show XS (tSeq _ _) _ _ [some (va T (SF.mk x0)), none, none, none, none, none, none, none, none, none, none, none, none, none, none] (stt Ω [] [])
    obtain ⟨z30, hz30, hm⟩ := bnd_some hm
    obtain ⟨z32, hz32, hm⟩ := bnd_some hm
    refine xs_setMM (xg_lcMM (T := T) (xi_range1 (T := T) (xa_cons xe_int xa_nil) (chkP_some hz30).1 (chkP_some hz30).2) (fun _ => tgt_name) (by simp) rfl (fun _ _ => xt_yes) (fun _ _ => (xn_make (Ds := []) (xa_cons xe_int (xa_cons xe_int xa_nil)) (fun _ => .nil) (fun q => ⟨_, q, (30 : Int), (70 : Int), rfl, chkP_some hz32, rfl, rfl⟩)))) (fun pp33 pp34 => ?_)
    show XS (tSeq _ _) _ _ [some (va T (SF.mk x0)), none, none, none, none, none, some (mmA pp33 pp34), none, none, none, none, none, none, none, none] (stt Ω [] [machA T pp33 (((MS.fresh (30 : Int) (70 : Int)), (MS.fresh (30 : Int) (70 : Int))).1), machA T pp34 (((MS.fresh (30 : Int) (70 : Int)), (MS.fresh (30 : Int) (70 : Int))).2)])
    obtain ⟨z37, hz37, hm⟩ := bnd_some hm
    obtain ⟨z38, hz38, hm⟩ := bnd_some hm
    obtain ⟨z39, hz39, hm⟩ := bnd_some hm
    refine xs_setO (xn_call (xa_cons (xe_ix (xe_catS (xe_var (i := 0) rfl) (xe_lst (l := [(0 : Int)]) (xa_cons xe_int xa_nil) (by show 1 ≤ sizeLine; decide)) isLs_LF (chkP_some hz37)) xe_int isL_LF hz38) xa_nil) ⟨z38, z39, rfl, hz39, rfl⟩ cal0) (fun pp40 => ?_)
    show XS (tSeq _ _) _ _ [some (va T (SF.mk x0)), none, some (vr pp40), none, none, none, some (mmA pp33 pp34), none, none, none, none, none, none, none, none] (stt Ω [] [machA T pp33 (((MS.fresh (30 : Int) (70 : Int)), (MS.fresh (30 : Int) (70 : Int))).1), machA T pp34 (((MS.fresh (30 : Int) (70 : Int)), (MS.fresh (30 : Int) (70 : Int))).2), lstA T pp40 (z39 : List Int)])
    obtain ⟨z42, hz42, hm⟩ := bnd_some hm
    obtain ⟨z43, hz43, hm⟩ := bnd_some hm
    obtain ⟨z44, hz44, hm⟩ := bnd_some hm
    refine xs_ifN (xt_notF (xt_eq (xt_tB (T := T) (xe_call (xa_cons (xe_var (i := 6) rfl) (xa_cons (xe_call (xa_cons (xe_var (i := 2) rfl) (xa_cons (xe_lst (l := [(501 : Int), (700 : Int), (1000 : Int), (1023 : Int), (1024 : Int), (1025 : Int), (1100 : Int)]) (xa_cons xe_int (xa_cons xe_int (xa_cons xe_int (xa_cons xe_int (xa_cons xe_int (xa_cons xe_int (xa_cons xe_int xa_nil))))))) (by show 7 ≤ sizeLine; decide)) xa_nil)) ⟨(Ω.length + 2), pp40, z39, ([(501 : Int), (700 : Int), (1000 : Int), (1023 : Int), (1024 : Int), (1025 : Int), (1100 : Int)] : List Int), z42, rfl, (stt_getL (j := 2) rfl), hz42, rfl⟩ (cal1L (j := 2))) xa_nil)) ⟨kT, (Ω.length + 0), pp33, ((MS.fresh (30 : Int) (70 : Int)), (MS.fresh (30 : Int) (70 : Int))).1, (Ω.length + 1), pp34, ((MS.fresh (30 : Int) (70 : Int)), (MS.fresh (30 : Int) (70 : Int))).2, z42.1, z43, rfl, (stt_getU hkT), (stt_getL (j := 0) rfl), (stt_getL (j := 1) rfl), (by omega), (ne_kL (by exact getlt hkT)).symm, (ne_kL (by exact getlt hkT)).symm, hz43, rfl⟩ ((stt_two.trans (congrArg (fun W => stt W _ []) (cal1L (j := 1)))).trans (cal1L (j := 0))))) (chkP_some hz44))) ?_
    show XS (tSeq _ _) _ _ [some (va T (SF.mk x0)), none, some (vr pp40), none, none, none, some (mmA pp33 pp34), none, none, none, none, none, none, none, none] (stt Ω [] [machA T pp33 z43.2.1, machA T pp34 z43.2.2, lstA T pp40 (z42.2 : List Int)])
    obtain ⟨z45, hz45, hm⟩ := bnd_some hm
    obtain ⟨y46, hy46, hm⟩ := bnd_some hm
    obtain rfl := Option.some.inj hy46
    refine xs_setO ((xn_make (Ds := []) (xa_cons xe_int (xa_cons xe_int xa_nil)) (fun _ => .nil) (fun q => ⟨_, q, (8 : Int), (4 : Int), rfl, chkP_some hz45, rfl, rfl⟩))) (fun pp47 => ?_)
    show XS (tSeq _ _) _ _ [some (va T (SF.mk x0)), none, some (vr pp40), none, none, none, some (mmA pp33 pp34), some (vr pp47), none, none, none, none, none, none, none] (stt Ω [] [machA T pp33 z43.2.1, machA T pp34 z43.2.2, lstA T pp40 (z42.2 : List Int), machA T pp47 (MS.fresh (8 : Int) (4 : Int))])
    obtain ⟨z49, hz49, hm⟩ := bnd_some hm
    refine xs_set (A := va T z49.1) (xe_callN xa_nil (xa_cons xe_int (xa_cons (xe_var (i := 7) rfl) xa_nil)) ⟨(Ω.length + 3), pp47, (MS.fresh (8 : Int) (4 : Int)), (25 : Int), z49, rfl, (stt_getL (j := 3) rfl), hz49, rfl⟩ (cal1L (j := 3))) ?_
    show XS (tSeq _ _) _ _ [some (va T (SF.mk x0)), none, some (vr pp40), none, none, none, some (mmA pp33 pp34), some (vr pp47), some (va T z49.1), none, none, none, none, none, none] (stt Ω [] [machA T pp33 z43.2.1, machA T pp34 z43.2.2, lstA T pp40 (z42.2 : List Int), machA T pp47 z49.2])
    obtain ⟨z50, hz50, hm⟩ := bnd_some hm
    obtain ⟨z53, hz53, hm⟩ := bnd_some hm
    refine xs_set (A := va T (LF.mk z53.1)) (xe_fz (xn_lcS (T := T) (fun (s51 : Unit) => []) (fun (s51 : Unit) => [machA T pp33 z43.2.1, machA T pp34 z43.2.2, lstA T pp40 (z42.2 : List Int), machA T pp47 z49.2]) hz53 (xi_LF (xe_mcall (xe_var (i := 7) rfl) (stt_getL (j := 3) rfl) xa_nil ⟨(Ω.length + 3), pp47, z49.2, rfl, (stt_getL (j := 3) rfl), rfl⟩ rfl)) (fun _ => tgt_name) (by simp) (chkP_some hz50) ?q54)) ?_
    case q54 =>
      exact (fun a52 s51 o s2 ha hm X => by
        by_cases hc : (decide (a52.a = ("odd part" : Str))) = true
        · rw [if_pos hc] at hm
          obtain ⟨rfl, rfl⟩ := Prod.mk.inj (Option.some.inj hm)
          refine ⟨(fun e => nomatch e), fun y e => ?_⟩
          obtain rfl := Option.some.inj e
          refine ⟨xt_eq (xt_test (T := T) (xe_eqS (xe_t0 (xe_var (i := 12) rfl)) xe_str)) hc, (xe_var (i := 12) rfl)⟩
        · rw [if_neg hc] at hm
          obtain ⟨rfl, rfl⟩ := Prod.mk.inj (Option.some.inj hm)
          exact ⟨fun _ => xt_eq (xt_test (T := T) (xe_eqS (xe_t0 (xe_var (i := 12) rfl)) xe_str)) (nt hc), fun y e => nomatch e⟩)
    show XS (tSeq _ _) _ _ [some (va T (SF.mk x0)), none, some (vr pp40), none, none, none, some (mmA pp33 pp34), some (vr pp47), some (va T z49.1), some (va T (LF.mk z53.1)), none, none, none, none, none] (stt Ω [] [machA T pp33 z43.2.1, machA T pp34 z43.2.2, lstA T pp40 (z42.2 : List Int), machA T pp47 z49.2])
    obtain ⟨z55, hz55, hm⟩ := bnd_some hm
    obtain ⟨z58, hz58, hm⟩ := bnd_some hm
    refine xs_set (A := va T (LF.mk z58.1)) (xe_fz (xn_lcS (T := T) (fun (s56 : Unit) => []) (fun (s56 : Unit) => [machA T pp33 z43.2.1, machA T pp34 z43.2.2, lstA T pp40 (z42.2 : List Int), machA T pp47 z49.2]) hz58 (xi_LF (xe_lst (l := [((3 : Int), (5 : Int)), ((5 : Int), (7 : Int)), ((7 : Int), (13 : Int)), ((13 : Int), (27 : Int))]) (xa_cons (xe_tup2 (xa_cons xe_int (xa_cons xe_int xa_nil))) (xa_cons (xe_tup2 (xa_cons xe_int (xa_cons xe_int xa_nil))) (xa_cons (xe_tup2 (xa_cons xe_int (xa_cons xe_int xa_nil))) (xa_cons (xe_tup2 (xa_cons xe_int (xa_cons xe_int xa_nil))) xa_nil)))) (by show 4 ≤ sizeLine; decide))) (fun _ => tgt_pair) (by simp) (chkP_some hz55) ?q59)) ?_
    case q59 =>
      exact (fun a57 s56 o s2 ha hm X => by
        obtain ⟨rfl, rfl⟩ := Prod.mk.inj (Option.some.inj hm)
        refine ⟨(fun e => nomatch e), fun y e => ?_⟩
        obtain rfl := Option.some.inj e
        refine ⟨xt_yes, (xe_tup3 (xa_cons xe_str (xa_cons (xe_var (i := 13) rfl) (xa_cons (xe_var (i := 14) rfl) xa_nil))))⟩)
    show XS (tRet _) _ _ [some (va T (SF.mk x0)), none, some (vr pp40), none, none, none, some (mmA pp33 pp34), some (vr pp47), some (va T z49.1), some (va T (LF.mk z53.1)), some (va T (LF.mk z58.1)), none, none, none, none] (stt Ω [] [machA T pp33 z43.2.1, machA T pp34 z43.2.2, lstA T pp40 (z42.2 : List Int), machA T pp47 z49.2])
    obtain ⟨z60, hz60, hm⟩ := bnd_some hm
    obtain ⟨z61, hz61, hm⟩ := bnd_some hm
    obtain ⟨z62, hz62, hm⟩ := bnd_some hm
    obtain ⟨z63, hz63, hm⟩ := bnd_some hm
    obtain rfl := Option.some.inj hm
    refine xs_ret (xe_andT (xe_eq (xe_eqD (chkP_some hz60) (by decide) (xe_var (i := 9) rfl) (xe_var (i := 10) rfl) isD_va isD_va) (chkP_some hz61)) (xe_eq (xe_eqI (xe_mcallB (xe_var (i := 8) rfl) xa_nil ⟨z49.1, z62, rfl, hz62, rfl⟩ cal0) xe_int) (chkP_some hz63))) hrt.all
  · subst es
    cases hm
end
end P

set_option Elab.async false
set_option linter.all false
set_option maxRecDepth 100000
set_option exponentiation.threshold 4000
namespace P
open PySem L2 VL
/-- a source: three numbers -/
def Src (s : List Int) : Prop := ∃ a b c : Int, s = [a, b, c]
theorem cdiv_log {i j : Int} (h : 0 < j) (h2 : j.natAbs.log2 < 9000) : CDivW i j := ⟨h, h2⟩
theorem cdiv_small {i j : Int} (h : 0 < j) (h2 : j < 2 ^ 64) : CDivW i j := ⟨h, by
  have : j.natAbs < 2 ^ 64 := by omega
  have h0 : j.natAbs ≠ 0 := by omega
  have := (Nat.log2_lt h0 (k := 64)).mpr this
  omega⟩
theorem mul_l {a b : Int} (h1 : -(2 ^ 64) < a) (h2 : a < 2 ^ 64) : IntMulOk a b := .of_left (intBits_le_64 h1 h2)
theorem mul_r {a b : Int} (h1 : -(2 ^ 64) < b) (h2 : b < 2 ^ 64) : IntMulOk a b := .of_right (intBits_le_64 h1 h2)
theorem mixed_ok (a b : Int) : Sat (M__law_mixed a b) (fun _ => True) := by
  unfold M__law_mixed
  simp only [Option.bind_some]
  generalize hm : a % (2147483629 : Int) + 1 = m
  have m0 : 0 ≤ m ∧ m ≤ 2147483629 := by omega
  generalize hq : a / (2147483629 : Int) % 1000003 = q
  have q0 : 0 ≤ q ∧ q < 1000003 := by omega
  generalize hy : (m * (b * 7919 + 104729)) % (2147483647 : Int) = y
  generalize hu : ((y + q * (b + 31)) * 48271) % (2147483629 : Int) = u
  have u0 : 0 ≤ u ∧ u < 2147483629 := by rw [← hu]; exact ⟨Int.emod_nonneg _ (by decide), Int.emod_lt_of_pos _ (by decide)⟩
  generalize hv : (u * (u / 1013 + 69621 + b)) % (2147483587 : Int) = v
  have v0 : 0 ≤ v ∧ v < 2147483587 := by rw [← hv]; exact ⟨Int.emod_nonneg _ (by decide), Int.emod_lt_of_pos _ (by decide)⟩
  refine sat_chk (by decide) ?_
  refine sat_chk (mul_r (by decide) (by decide)) ?_
  refine sat_chk (mul_l (by omega) (by omega)) ?_
  refine sat_chk (by decide) ?_
  refine sat_chk (cdiv_small (by decide) (by decide)) ?_
  refine sat_chk (by decide) ?_
  refine sat_chk (mul_l (by omega) (by omega)) ?_
  refine sat_chk (mul_r (by decide) (by decide)) ?_
  refine sat_chk (by decide) ?_
  refine sat_chk (cdiv_small (by decide) (by decide)) ?_
  refine sat_chk (mul_l (by omega) (by omega)) ?_
  refine sat_chk (by decide) ?_
  refine sat_chk (cdiv_small (by decide) (by decide)) ?_
  refine sat_chk (mul_l (by omega) (by omega)) ?_
  exact sat_chk (by decide) (sat_some trivial)
theorem draw_log {s : List Int} {m : Int} (hs : Src s) (h : 0 < m) (h2 : m.natAbs.log2 < 9000) : ∃ r s', M__law_draw s m = some (r, s') ∧ Src s' ∧ 0 ≤ r ∧ r < m := by
  obtain ⟨a, b, c, rfl⟩ := hs
  unfold M__law_draw
  rw [show atI [a, b, c] (0 : Int) = some a from rfl]
  simp only [Option.bind_some]
  by_cases ha : (0 : Int) < a
  · rw [if_pos (decide_eq_true ha), chkP_eq h, chkP_eq (cdiv_log h h2)]
    exact ⟨_, _, rfl, ⟨_, _, _, rfl⟩, Int.emod_nonneg _ (by omega), Int.emod_lt_of_pos _ h⟩
  · rw [if_neg (by simpa using ha)]
    rw [show atI [a, b, c] (2 : Int) = some c from rfl]
    simp only [Option.bind_some]
    rw [show ixN [a, b, c].length (2 : Int) = some 2 from rfl]
    simp only [Option.bind_some]
    rw [show [a, b, c].set 2 (c + 1) = [a, b, c + 1] from rfl, show atI [a, b, c + 1] (1 : Int) = some b from rfl, show atI [a, b, c + 1] (2 : Int) = some (c + 1) from rfl]
    simp only [Option.bind_some]
    obtain ⟨r, e, _⟩ := mixed_ok b (c + 1)
    rw [e]
    simp only [Option.bind_some]
    rw [chkP_eq h]
    exact ⟨_, _, rfl, ⟨_, _, _, rfl⟩, Int.emod_nonneg _ (by omega), Int.emod_lt_of_pos _ h⟩
theorem draw_s {s : List Int} {m : Int} (hs : Src s) (h : 0 < m) (h2 : m < 2 ^ 64) : Sat (M__law_draw s m) (fun r => Src r.2 ∧ 0 ≤ r.1 ∧ r.1 < m) := by
  obtain ⟨r, s', e, h1, h2, h3⟩ := draw_log hs h (cdiv_small (i := 0) h h2).2
  exact ⟨_, e, h1, h2, h3⟩
theorem one_s {s l : List Int} (hs : Src s) (h : l ≠ []) (h2 : l.length < 100) : Sat (M__law_one s l) (fun r => Src r.2 ∧ r.1 ∈ l) := by
  have hp : 0 < l.length := List.length_pos_iff.mpr h
  unfold M__law_one
  refine sat_bind (draw_s hs (by omega) (by omega)) fun r ⟨g, r0, r1⟩ => ?_
  exact sat_atI r0 r1 fun x hx => sat_some ⟨g, hx⟩
theorem src_s (x : Int) : Sat (M__law_source x) Src := by
  unfold M__law_source
  refine sat_chk (by unfold CPow; decide) ?_
  refine sat_chk (by split <;> exact mul_r (by decide) (by decide)) ?_
  exact sat_some ⟨_, _, _, rfl⟩
theorem engines_s {s : List Int} (hs : Src s) : Sat (M__law_engines s) (fun r => ∃ (W C : Nat), r.1 = (MS.fresh (W : Int) (C : Int), MS.fresh (W : Int) (C : Int)) ∧ 8 ≤ W ∧ W ≤ 30 ∧ 2 ≤ C ∧ C ≤ 10 ∧ Src r.2) := by
  unfold M__law_engines
  refine sat_bind (draw_s hs (by decide) (by decide)) fun r1 ⟨h1, a1, b1⟩ => ?_
  refine sat_bind (draw_s h1 (by decide) (by decide)) fun r2 ⟨h2, a2, b2⟩ => ?_
  refine sat_bind (one_s h2 (List.cons_ne_nil _ _) (by show 9 < 100; decide)) fun r3 ⟨h3, m3⟩ => ?_
  refine sat_bind (draw_s h3 (by decide) (by decide)) fun r4 ⟨h4, a4, b4⟩ => ?_
  refine sat_bind (one_s h4 (List.cons_ne_nil _ _) (by show 5 < 100; decide)) fun r5 ⟨h5, m5⟩ => ?_
  simp only [List.mem_cons, List.not_mem_nil, or_false] at m3 m5
  obtain ⟨W, e⟩ := Int.eq_ofNat_of_zero_le (a := r3.1) (by omega)
  obtain ⟨C, e2⟩ := Int.eq_ofNat_of_zero_le (a := r5.1) (by omega)
  refine sat_chk (by decide) ?_
  refine sat_chk (by omega) ?_
  exact sat_some ⟨W, C, by dsimp only; rw [e, e2], by omega, by omega, by omega, by omega, h5⟩
/-! ### the program's functions -/
theorem top_ok {W : Nat} (h : W ≤ 30) : M_top_digit (W : Int) = some ((2 ^ W - 1 : Nat) : Int) := by
  unfold M_top_digit
  refine bnd_of (chkP_eq (shl_ok (k := 1) (by decide) (by omega) (by omega))) ?_
  rw [Int.toNat_natCast, Int.one_mul, p2, Int.ofNat_sub (Nat.two_pow_pos W)]
  rfl
theorem size_ok {W : Nat} (h8 : 8 ≤ W) (h : W ≤ 30) (n : Int) : M_size_of (W : Int) n = some ((sz W n.natAbs : Nat) : Int) := by
  unfold M_size_of
  refine bnd_of (chkP_eq (cdiv_s (by omega) (by omega))) ?_
  rw [intBits_abs]
  unfold sz
  congr 1
  rw [show ((bl n.natAbs : Nat) : Int) + (W : Int) - 1 = ((bl n.natAbs + W - 1 : Nat) : Int) from by omega]
  exact (Int.natCast_ediv _ _).symm
theorem kW_le {W k : Nat} (h : W ≤ 30) (hk : k ≤ 4194304) : k * W ≤ 125829120 := Nat.le_trans (Nat.mul_le_mul hk h) (by decide)
theorem low_ok {W k : Nat} (h : W ≤ 30) (n : Int) (hk : k ≤ 4194304) : M_low_part (W : Int) n (k : Int) = some (n % 2 ^ (k * W)) := by
  have hm := kW_le h hk
  unfold M_low_part
  refine bnd_of (chkP_eq (mul_small' (by omega))) ?_
  rw [← Int.natCast_mul]
  refine bnd_of (chkP_eq (shl_ok (k := 1) (by decide) (by omega) (by omega))) ?_
  rw [Int.toNat_natCast, Int.one_mul, p2, ← Int.natCast_one, ← Int.ofNat_sub (Nat.two_pow_pos _), and_low, p2]
theorem row_loop {W : Nat} (h : W ≤ 30) : ∀ (xs : List Int) (n : Int) (row : List Int), row.length + xs.length < 16777216 →
    forM' (ρ := Unit) (fun (a15 : Int) (s14 : Int × (List Int)) => (chkP (s14.2.length < sizeLine)).bind fun z16 => (chkP (0 ≤ (W : Int))).bind fun z17 => (some (s14.1 / 2 ^ ((W : Int)).toNat)).bind fun y18 => some (Stp.nx (y18, (s14.2 ++ [(Builtin.bitAnd s14.1 ((2 ^ W - 1 : Nat) : Int))])))) xs (n, row) = some (.nx (n / 2 ^ (xs.length * W), row ++ rw_ W n xs.length))
  | [], n, row, _ => by
    show some (Stp.nx (n, row)) = some (Stp.nx (n / 2 ^ (0 * W), row ++ []))
    rw [Nat.zero_mul, Int.pow_zero, Int.ediv_one, List.append_nil]
  | x :: r, n, row, hl => by
    rw [List.length_cons] at hl
    rw [forM_cons (s' := (n / 2 ^ W, row ++ [n % 2 ^ W])) (by
      refine bnd_of (chkP_eq (size_lt (m := 16777215) (by show row.length ≤ _; omega) (by decide))) ?_
      refine bnd_of (chkP_eq (by omega)) ?_
      refine bnd_of rfl ?_
      rw [Int.toNat_natCast, and_low]), row_loop h r _ _ (by rw [List.length_append]; show row.length + 1 + r.length < _; omega)]
    rw [ediv_pow, List.length_cons, show W + r.length * W = (r.length + 1) * W from by rw [Nat.succ_mul]; omega, List.append_assoc]
    rfl
theorem row_ok {W : Nat} (h8 : 8 ≤ W) (h : W ≤ 30) : ∀ (f k : Nat) (n : Int), k ≤ 32 * 2 ^ f → k ≤ 4194304 → M_row_of (f + 1) (W : Int) n (k : Int) = some (rw_ W n k) := by
  intro f
  induction f with
  | zero =>
    intro k n hk hk2
    rw [M_row_of_succ, if_neg (by rw [decide_eq_true_iff]; omega)]
    refine bnd_of (top_ok h) ?_
    refine bnd_of rfl ?_
    refine bnd_of (chkP_eq (by omega)) ?_
    rw [Int.toNat_natCast]
    refine bnd_of (row_loop h (rng 0 k) n [] (by rw [rng_len]; show 0 + k < _; omega)) ?_
    rw [rng_len]
    rfl
  | succ f ih =>
    intro k n hk hk2
    rw [M_row_of_succ]
    by_cases q : 32 < k
    · rw [if_pos (decide_eq_true (by omega))]
      refine bnd_of (chkP_eq (cdiv_s (by decide) (by decide))) ?_
      refine bnd_of rfl ?_
      rw [show (k : Int) / 2 = ((k / 2 : Nat) : Int) from rfl]
      have hp : 32 * 2 ^ (f + 1) = 2 * (32 * 2 ^ f) := by rw [Nat.pow_succ]; omega
      have hm := kW_le (k := k / 2) h (by omega)
      refine bnd_of (low_ok h n (by omega)) ?_
      refine bnd_of (ih (k / 2) _ (by omega) (by omega)) ?_
      refine bnd_of (chkP_eq (mul_small' (by omega))) ?_
      rw [← Int.natCast_mul, Int.toNat_natCast, show (k : Int) - ((k / 2 : Nat) : Int) = ((k - k / 2 : Nat) : Int) from by omega]
      refine bnd_of (chkP_eq (by omega)) ?_
      refine bnd_of (ih (k - k / 2) _ (by omega) (by omega)) ?_
      refine bnd_of (chkP_eq (size_le (m := 4194304) (by rw [rw_len, rw_len]; omega) (by decide))) ?_
      rw [rw_mod, ← rw_app, show k / 2 + (k - k / 2) = k from by omega]
    · rw [if_neg (by rw [decide_eq_true_iff]; omega)]
      refine bnd_of (top_ok h) ?_
      refine bnd_of rfl ?_
      refine bnd_of (chkP_eq (by omega)) ?_
      rw [Int.toNat_natCast]
      refine bnd_of (row_loop h (rng 0 k) n [] (by rw [rng_len]; show 0 + k < _; omega)) ?_
      rw [rng_len]
      rfl
/-- the number as the program keeps it -/
abbrev bg (W : Nat) (n : Int) : Bg := ⟨(W : Int), dg W n.natAbs, n⟩
theorem bigof_ok {W : Nat} {S : MS} (hS : S.w = (W : Int)) (h8 : 8 ≤ W) (h : W ≤ 30) {n : Int} (hn : sz W n.natAbs ≤ 4194304) : M_big_of S n = some (bg W n) := by
  unfold M_big_of
  rw [hS]
  refine bnd_of (size_ok h8 h n) ?_
  refine bnd_of (row_ok h8 h 19 _ _ (Nat.le_trans hn (by decide)) hn) ?_
  rw [rw_dg (by omega)]
theorem big_ok {W : Nat} {S : MS} (hS : S.w = (W : Int)) (h8 : 8 ≤ W) (h : W ≤ 30) {n : Int} (hn : sz W n.natAbs ≤ 4194304) : M_big S n = some (bg W n) := by
  unfold M_big
  refine bnd_of (show M_check_machine S = some () from bnd_of (chkP_eq rfl) rfl) ?_
  refine bnd_of (show M_is_integer n = some true from rfl) ?_
  refine bnd_of (chkP_eq rfl) ?_
  exact bnd_of (bigof_ok hS h8 h hn) rfl
theorem fit_ok {W : Nat} {S : MS} (hS : S.w = (W : Int)) (a : Int) (x : Str) : M_check_fit S (bg W a) x = some () := by
  unfold M_check_fit M_check_big
  exact bnd_of (a := ()) (bnd_of (a := ()) (chkP_eq rfl) rfl) (bnd_of (a := ()) (chkP_eq hS.symm) rfl)
theorem one_big {W : Nat} {S : MS} (hS : S.w = (W : Int)) (a : Int) : M_check_one S (bg W a) = some () := by
  unfold M_check_one M_check_machine
  exact bnd_of (a := ()) (bnd_of (a := ()) (chkP_eq rfl) rfl) (bnd_of (fit_ok hS a _) rfl)
theorem two_ok {W : Nat} {S : MS} (hS : S.w = (W : Int)) (a b : Int) : M_check_two S (bg W a) (bg W b) = some () := by
  unfold M_check_two
  exact bnd_of (one_big hS a) (bnd_of (fit_ok hS b _) rfl)
theorem eq_bg (W : Nat) (a b : Int) : M_Big_eq (bg W a) (bg W b) = some (decide (a = b)) := by
  unfold M_Big_eq
  rw [decide_eq_true (show (bg W a).w = (bg W b).w from rfl)]
  rfl
theorem plain_ok (W : Nat) (n : Int) : M_plain (bg W n) = some n := by
  unfold M_plain M_check_big
  exact bnd_of (a := ()) (bnd_of (a := ()) (chkP_eq rfl) rfl) rfl
theorem cut_drop {α : Type} (l : List α) {k : Nat} (hk : k ≤ l.length) : cut l (some (k : Int)) none = l.drop k := by
  have h1 : HT.sIx l.length 0 (some (k : Int)) = k := by rw [HT.sIx_nat, Nat.min_eq_left hk]
  have h2 : HT.sIx l.length l.length none = l.length := rfl
  unfold cut
  rw [h1, h2]
  exact List.take_of_length_le (by rw [List.length_drop]; omega)
theorem digits_loop {W : Nat} (h8 : 8 ≤ W) (h : W ≤ 30) : ∀ (f : Nat) (a : Nat) (row : List Int), a ≤ f → row.length + sz W a ≤ 100000 →
    whileM (ρ := Unit) (fun (s4 : Int × (List Int)) => some (decide ((0 : Int) < s4.1))) (fun (s4 : Int × (List Int)) => (chkP (CShl (1 : Int) (W : Int))).bind fun z5 => (chkP (0 < ((1 : Int) * 2 ^ ((W : Int)).toNat))).bind fun z6 => (chkP (s4.2.length < sizeLine)).bind fun z7 => (chkP (0 ≤ (W : Int))).bind fun z8 => (some (s4.1 / 2 ^ ((W : Int)).toNat)).bind fun y9 => some (Stp.nx (y9, (s4.2 ++ [(s4.1 % ((1 : Int) * 2 ^ ((W : Int)).toNat))])))) (f + 1) ((a : Int), row) = some (.nx (0, row ++ dg W a)) := by
  intro f
  induction f with
  | zero =>
    intro a row ha _
    have e : a = 0 := by omega
    subst e
    rw [dg_zero, List.append_nil]
    exact whileM_f rfl
  | succ f ih =>
    intro a row ha hl
    by_cases q : a = 0
    · subst q
      rw [dg_zero, List.append_nil]
      exact whileM_f rfl
    · have s1 : sz W a = sz W (a / 2 ^ W) + 1 := by rw [← dg_size (by omega), ← dg_size (by omega), dg_pos (by omega) q]; rfl
      have B8 : 2 ^ 8 ≤ 2 ^ W := Nat.pow_le_pow_right (by decide) h8
      have lt : a / 2 ^ W < a := Nat.div_lt_self (by omega) (by omega)
      rw [whileM_t (s' := (((a / 2 ^ W : Nat) : Int), row ++ [((a % 2 ^ W : Nat) : Int)])) (by
        show some (decide (0 < (a : Int))) = _
        rw [decide_eq_true (by omega)]) (by
        refine bnd_of (chkP_eq (shl_ok (k := 1) (by decide) (by omega) (by omega))) ?_
        refine bnd_of (chkP_eq (by rw [Int.one_mul]; exact ppos _)) ?_
        refine bnd_of (chkP_eq (size_lt (m := 100000) (by show row.length ≤ _; omega) (by decide))) ?_
        refine bnd_of (chkP_eq (by omega)) ?_
        refine bnd_of rfl ?_
        rw [Int.one_mul, Int.toNat_natCast, p2, ← Int.natCast_ediv, ← Int.natCast_emod]), ih _ _ (by omega) (by rw [List.length_append]; show row.length + 1 + _ ≤ _; omega), dg_pos (by omega) q, List.append_assoc]
      rfl
theorem digits_ok {W : Nat} (h8 : 8 ≤ W) (h : W ≤ 30) {n : Int} (ha : sz W n.natAbs ≤ 100000) : M__law_digits n (W : Int) = some (dg W n.natAbs) := by
  unfold M__law_digits
  refine bnd_of rfl ?_
  refine bnd_of rfl ?_
  rw [Int.natAbs_natCast]
  refine bnd_of (digits_loop h8 h n.natAbs n.natAbs [] (Nat.le_refl _) (by rw [List.length_nil]; omega)) ?_
  rfl
theorem sgn_is (n : Int) : (if (decide ((0 : Int) < n)) = true then (1 : Int) else 0) - (if (decide (n < (0 : Int))) = true then (1 : Int) else 0) = sgn n := by
  unfold sgn
  rcases Int.lt_trichotomy n 0 with q | q | q
  · rw [decide_eq_true q, decide_eq_false (by omega), if_neg (by decide), if_pos rfl, if_pos q]; rfl
  · subst q; rfl
  · rw [decide_eq_true q, decide_eq_false (by omega), if_pos rfl, if_neg (by decide), if_neg (by omega), if_neg (by omega)]; rfl
theorem is_ok {W : Nat} (h8 : 8 ≤ W) (h : W ≤ 30) {n : Int} (hn : sz W n.natAbs ≤ 100000) : M__law_is (bg W n) n (W : Int) = some true := by
  unfold M__law_is
  refine bnd_of (a := sgn n) rfl ?_
  refine bnd_of (a := (W : Int)) rfl ?_
  refine bnd_of (chkP_eq ⟨by rw [sgn_is], trivial, trivial⟩) ?_
  refine bnd_of (a := dg W n.natAbs) rfl ?_
  refine bnd_of (digits_ok h8 h hn) ?_
  refine bnd_of (chkP_eq ⟨fun _ _ => trivial, fun _ _ => trivial⟩) ?_
  refine bnd_of (chkP_eq (eqD_iff.mpr rfl)) ?_
  refine bnd_of (plain_ok W n) ?_
  exact bnd_of (chkP_eq (decide_eq_true rfl)) rfl
theorem top_mod (W x : Nat) : Builtin.bitAnd (x : Int) ((2 ^ W - 1 : Nat) : Int) = ((x % 2 ^ W : Nat) : Int) := by
  rw [and_low, p2]; rfl
section
variable {W : Nat} {S : MS} (hS : S.w = (W : Int)) (h8 : 8 ≤ W) (h30 : W ≤ 30) {x y : Int} (hy : y ≠ 0) (hxs : sz W x.natAbs ≤ 50000) (hys : sz W y.natAbs ≤ 50000)
include hS h8 h30 hy hxs hys
end
section
variable {W : Nat} {S : MS} (hS : S.w = (W : Int)) (h8 : 8 ≤ W) (h30 : W ≤ 30) {x y : Int} (hy : y ≠ 0) {k : Nat} (hk : k ≤ 300000) (hx : x.natAbs < 2 ^ k) (hyk : y.natAbs < 2 ^ k)
include hS h8 h30 hy hk hx hyk
end
theorem sz_lt {W : Nat} (hw : W ≠ 0) (a : Nat) : a < 2 ^ (W * sz W a) := (sz_le hw).mp (Nat.le_refl _)
theorem mul_big {a b : Int} {j k : Nat} (ha : a.natAbs < 2 ^ j) (hb : b.natAbs < 2 ^ k) (h : j + k ≤ 134217728) : IntMulOk a b :=
  .of_le (by rw [intBits_abs]; exact bl_le.mpr ha) (by rw [intBits_abs]; exact bl_le.mpr hb) h
theorem tally_len (S : MS) : S.tally.length = 10 := by unfold MS.tally; rw [List.length_map]; rfl
def cry (B d : Int) : Int := if (decide (d < 0) || decide (B ≤ d)) = true then 1 else 0
theorem cry1 {B d : Int} (h : d < 0 ∨ B ≤ d) : cry B d = 1 := by
  unfold cry
  rcases h with h | h
  · rw [decide_eq_true h, Bool.true_or, if_pos rfl]
  · rw [decide_eq_true h, Bool.or_true, if_pos rfl]
theorem cry0 {B d : Int} (h0 : 0 ≤ d) (h1 : d < B) : cry B d = 0 := by
  unfold cry
  rw [decide_eq_false (by omega), decide_eq_false (by omega)]
  rfl
theorem dig0 {B t d : Int} (B0 : 0 < B) (h : (t = 1 ∧ 0 ≤ d ∧ d < 2 * B) ∨ (t = -1 ∧ -B ≤ d ∧ d < B)) : d = d % B + B * (t * cry B d) ∧ (cry B d = 0 ∨ cry B d = 1) := by
  by_cases q1 : d < 0
  · rw [cry1 (.inl q1)]
    have e := Int.add_mul_emod_self_left d B 1
    rw [Int.emod_eq_of_lt (by omega) (by omega)] at e
    rcases h with ⟨rfl, _, _⟩ | ⟨rfl, _, _⟩
    · omega
    · refine ⟨?_, .inr rfl⟩
      rw [← e]
      omega
  · by_cases q2 : B ≤ d
    · rw [cry1 (.inr q2)]
      have e := Int.add_mul_emod_self_left d B (-1)
      rcases h with ⟨rfl, _, _⟩ | ⟨rfl, _, _⟩
      · rw [Int.emod_eq_of_lt (by omega) (by omega)] at e
        refine ⟨?_, .inr rfl⟩
        rw [← e]
        omega
      · omega
    · rw [cry0 (by omega) (by omega), Int.emod_eq_of_lt (by omega) (by omega), Int.mul_zero, Int.mul_zero]
      omega
theorem bxor_step {W : Nat} {e a x y : Int} (e0 : 0 ≤ e) (e1 : e < 2 ^ W) (a0 : 0 ≤ a) (a1 : a < 2 ^ W) : Builtin.bitXor (e + 2 ^ W * x) (a + 2 ^ W * y) = Builtin.bitXor e a + 2 ^ W * Builtin.bitXor x y := by
  have h := band_split W x y e a e0 e1 a0 a1
  rw [bxor_eq, bxor_eq, bxor_eq, show e + 2 ^ W * x = x * 2 ^ W + e by rw [Int.mul_comm]; omega, show a + 2 ^ W * y = y * 2 ^ W + a by rw [Int.mul_comm]; omega, h]
  generalize band x y = u
  generalize band e a = v
  generalize (2 : Int) ^ W = Z
  grind
theorem bxor_small {W : Nat} {e a : Int} (e0 : 0 ≤ e) (e1 : e < 2 ^ W) (a0 : 0 ≤ a) (a1 : a < 2 ^ W) : 0 ≤ Builtin.bitXor e a ∧ Builtin.bitXor e a < 2 ^ W ∧ (e ≠ a → Builtin.bitXor e a ≠ 0) := by
  obtain ⟨m, rfl⟩ := Int.eq_ofNat_of_zero_le e0
  obtain ⟨n, rfl⟩ := Int.eq_ofNat_of_zero_le a0
  rw [bxor_nat]
  have := p2 W
  have lt : m ^^^ n < 2 ^ W := Nat.xor_lt_two_pow (by omega) (by omega)
  refine ⟨by omega, by omega, fun ne h => ne ?_⟩
  have z : m ^^^ n = 0 := by omega
  rw [xor_zero.mp z]
theorem bxor_self (x : Int) : Builtin.bitXor x x = 0 := by
  have e : band x x = x := bit_ext fun i => by
    rw [bit_band]
    rcases bit_or x i with h | h <;> rw [h] <;> rfl
  rw [bxor_eq, e]
  omega
theorem sz_step {W : Nat} (hw : W ≠ 0) {u y : Nat} (u0 : 0 < u) (u1 : u < 2 ^ W) : sz W (u + 2 ^ W * y) = sz W y + 1 := eq_of_le fun k => by
  cases k with
  | zero =>
    rw [sz_le hw, Nat.mul_zero, Nat.pow_zero]
    omega
  | succ k =>
    rw [sz_le hw, Nat.succ_le_succ_iff, sz_le hw, Nat.mul_succ, Nat.pow_add, Nat.mul_comm (2 ^ (W * k))]
    constructor
    · intro h
      exact Nat.lt_of_mul_lt_mul_left (Nat.lt_of_le_of_lt (Nat.le_add_left _ _) h)
    · intro h
      have : 2 ^ W * (y + 1) ≤ 2 ^ W * 2 ^ (W * k) := Nat.mul_le_mul_left _ h
      rw [Nat.mul_succ] at this
      omega
theorem mod_step {W n : Nat} {u x : Int} (u0 : 0 ≤ u) (u1 : u < 2 ^ W) : (u + 2 ^ W * x) % 2 ^ ((n + 1) * W) = u + 2 ^ W * (x % 2 ^ (n * W)) := by
  have hp := ppos (n * W)
  have hW := ppos W
  have e := Int.mul_ediv_add_emod x (2 ^ (n * W))
  have m0 := Int.emod_nonneg x (b := 2 ^ (n * W)) (by omega)
  have m1 := Int.emod_lt_of_pos x hp
  rw [show (n + 1) * W = W + n * W by rw [Nat.succ_mul]; omega, Int.pow_add]
  generalize (2 : Int) ^ (n * W) = Z at *
  generalize x / Z = q at *
  generalize x % Z = s at *
  subst e
  have h1 : 0 ≤ 2 ^ W * s := Int.mul_nonneg (Int.le_of_lt hW) m0
  have h2 : 2 ^ W * (s + 1) ≤ 2 ^ W * Z := Int.mul_le_mul_of_nonneg_left (by omega) (Int.le_of_lt hW)
  rw [Int.mul_add, Int.mul_one] at h2
  rw [show u + 2 ^ W * (Z * q + s) = (u + 2 ^ W * s) + 2 ^ W * Z * q by rw [Int.mul_add, Int.mul_assoc]; omega, Int.add_mul_emod_self_left, Int.emod_eq_of_lt (by omega) (by omega)]
/-- the digit that passes a carry (t = 1) or a borrow (t = -1) on -/
def stpd (W : Nat) (t : Int) : Int := if t = 1 then 2 ^ W - 1 else 0
/-- over how many of the first k digits of U it goes -/
def chn (W : Nat) (t : Int) : Nat → Int → Nat
  | 0, _ => 0
  | k + 1, U => 1 + (if U % 2 ^ W = stpd W t then chn W t k (U / 2 ^ W) else 0)
theorem chn_sz {W : Nat} (hw : W ≠ 0) {t : Int} (ht : t = 1 ∨ t = -1) : ∀ (k : Nat) (U : Int), chn W t k U = sz W (Builtin.bitXor (U + t) U % 2 ^ (k * W)).natAbs
  | 0, U => by
    show 0 = _
    rw [Nat.zero_mul, Int.pow_zero, Int.emod_one, Int.natAbs_zero, sz0 hw]
  | k + 1, U => by
    have hW := ppos W
    have W2 : (2 : Int) ≤ 2 ^ W := by
      have := Nat.one_lt_two_pow hw
      have := p2 W
      omega
    have a0 := Int.emod_nonneg U (b := 2 ^ W) (by omega)
    have a1 := Int.emod_lt_of_pos U hW
    have eU := Int.mul_ediv_add_emod U (2 ^ W)
    obtain ⟨d1, d2⟩ := dig0 (B := 2 ^ W) (t := t) (d := U % 2 ^ W + t) hW (by rcases ht with rfl | rfl <;> omega)
    have e0 := Int.emod_nonneg (U % 2 ^ W + t) (b := 2 ^ W) (by omega)
    have e1 := Int.emod_lt_of_pos (U % 2 ^ W + t) hW
    have hc : (U % 2 ^ W = stpd W t) ↔ cry (2 ^ W) (U % 2 ^ W + t) = 1 := by
      unfold stpd
      rcases ht with rfl | rfl
      · rw [if_pos rfl]
        constructor
        · intro z; exact cry1 (.inr (by omega))
        · intro z
          rcases Int.lt_or_le (U % 2 ^ W + 1) (2 ^ W) with q | q
          · rw [cry0 (by omega) q] at z; cases z
          · omega
      · rw [if_neg (by decide)]
        constructor
        · intro z; exact cry1 (.inl (by omega))
        · intro z
          rcases Int.lt_or_le (U % 2 ^ W + -1) 0 with q | q
          · omega
          · rw [cry0 q (by omega)] at z; cases z
    show 1 + (if U % 2 ^ W = stpd W t then chn W t k (U / 2 ^ W) else 0) = _
    have ih := chn_sz hw ht k (U / 2 ^ W)
    have ne : (U % 2 ^ W + t) % 2 ^ W ≠ U % 2 ^ W := fun e => by
      rw [e] at d1
      rcases ht with rfl | rfl <;> rcases d2 with d2 | d2 <;> rw [d2] at d1 <;> omega
    generalize hc1 : cry (2 ^ W) (U % 2 ^ W + t) = c at *
    generalize he : (U % 2 ^ W + t) % 2 ^ W = e at *
    have sU : Builtin.bitXor (U + t) U = Builtin.bitXor (e + 2 ^ W * (U / 2 ^ W + t * c)) (U % 2 ^ W + 2 ^ W * (U / 2 ^ W)) := by
      congr 1
      · rw [Int.mul_add]; omega
      · omega
    rw [sU, bxor_step e0 e1 a0 a1]
    obtain ⟨x0, x1, x2⟩ := bxor_small e0 e1 a0 a1
    have x2 := x2 ne
    rw [mod_step x0 x1]
    generalize Builtin.bitXor e (U % 2 ^ W) = u at x0 x1 x2 ⊢
    obtain ⟨u, rfl⟩ := Int.eq_ofNat_of_zero_le x0
    have := p2 W
    by_cases q : U % 2 ^ W = stpd W t
    · rw [if_pos q, ih, hc.mp q, Int.mul_one]
      have y0 := Int.emod_nonneg (Builtin.bitXor (U / 2 ^ W + t) (U / 2 ^ W)) (b := 2 ^ (k * W)) (by have := ppos (k * W); omega)
      generalize Builtin.bitXor (U / 2 ^ W + t) (U / 2 ^ W) % 2 ^ (k * W) = y at y0 ⊢
      obtain ⟨y, rfl⟩ := Int.eq_ofNat_of_zero_le y0
      rw [p2, ← Int.natCast_mul, ← Int.natCast_add, Int.natAbs_natCast, Int.natAbs_natCast, sz_step hw (by omega) (by omega)]
      omega
    · have c0 : c = 0 := by
        rcases d2 with z | z
        · exact z
        · exact absurd (hc.mpr z) q
      rw [if_neg q, c0, Int.mul_zero, Int.add_zero, bxor_self, Int.zero_emod, Int.mul_zero, Int.add_zero, Int.natAbs_natCast]
      have := sz_step hw (u := u) (y := 0) (by omega) (by omega)
      rw [Nat.mul_zero, Nat.add_zero, sz0 hw] at this
      omega
/-- how many digits of a room of r digits, joined with a number of p digits, are gone over -/
def jcnt (W : Nat) (t : Int) (r p : Nat) (room more : Int) : Nat :=
  p + (if (decide (0 ≤ room % 2 ^ (p * W) + t * more) && decide (room % 2 ^ (p * W) + t * more < 2 ^ (p * W))) = true then 0 else chn W t (r - p) (room / 2 ^ (p * W)))
theorem jcnt_xor {W : Nat} (hw : W ≠ 0) {t : Int} (ht : t = 1 ∨ t = -1) {r p : Nat} {room more : Int} (m0 : 0 ≤ more) (m1 : more < 2 ^ (p * W)) :
    jcnt W t r p room more = p + sz W ((Builtin.bitXor (room + t * more) room / 2 ^ (p * W)) % 2 ^ ((r - p) * W)).natAbs := by
  have hP := ppos (p * W)
  have a0 := Int.emod_nonneg room (b := 2 ^ (p * W)) (by omega)
  have a1 := Int.emod_lt_of_pos room hP
  have eR := Int.mul_ediv_add_emod room (2 ^ (p * W))
  obtain ⟨d1, d2⟩ := dig0 (B := 2 ^ (p * W)) (t := t) (d := room % 2 ^ (p * W) + t * more) hP (by rcases ht with rfl | rfl <;> omega)
  have e0 := Int.emod_nonneg (room % 2 ^ (p * W) + t * more) (b := 2 ^ (p * W)) (by omega)
  have e1 := Int.emod_lt_of_pos (room % 2 ^ (p * W) + t * more) hP
  have hc : (decide (0 ≤ room % 2 ^ (p * W) + t * more) && decide (room % 2 ^ (p * W) + t * more < 2 ^ (p * W))) = true ↔ cry (2 ^ (p * W)) (room % 2 ^ (p * W) + t * more) = 0 := by
    rw [Bool.and_eq_true, decide_eq_true_iff, decide_eq_true_iff]
    constructor
    · intro ⟨z1, z2⟩; exact cry0 z1 z2
    · intro z
      rcases Int.lt_or_le (room % 2 ^ (p * W) + t * more) 0 with q | q
      · rw [cry1 (.inl q)] at z; cases z
      · rcases Int.lt_or_le (room % 2 ^ (p * W) + t * more) (2 ^ (p * W)) with q2 | q2
        · exact ⟨q, q2⟩
        · rw [cry1 (.inr q2)] at z; cases z
  unfold jcnt
  congr 1
  generalize cry (2 ^ (p * W)) (room % 2 ^ (p * W) + t * more) = c at *
  generalize he : (room % 2 ^ (p * W) + t * more) % 2 ^ (p * W) = e at *
  have sU : Builtin.bitXor (room + t * more) room = Builtin.bitXor (e + 2 ^ (p * W) * (room / 2 ^ (p * W) + t * c)) (room % 2 ^ (p * W) + 2 ^ (p * W) * (room / 2 ^ (p * W))) := by
    congr 1
    · rw [Int.mul_add]; omega
    · omega
  rw [sU, bxor_step e0 e1 a0 a1]
  obtain ⟨x0, x1, _⟩ := bxor_small e0 e1 a0 a1
  rw [Int.add_mul_ediv_left _ _ (by omega), Int.ediv_eq_zero_of_lt x0 x1, Int.zero_add]
  by_cases q : (decide (0 ≤ room % 2 ^ (p * W) + t * more) && decide (room % 2 ^ (p * W) + t * more < 2 ^ (p * W))) = true
  · rw [if_pos q, hc.mp q, Int.mul_zero, Int.add_zero, bxor_self, Int.zero_emod, Int.natAbs_zero, sz0 hw]
  · have c1 : c = 1 := by
      rcases d2 with z | z
      · exact absurd (hc.mpr z) q
      · exact z
    rw [if_neg q, c1, Int.mul_one, chn_sz hw ht]
/-- what is counted and entered, step by step -/
inductive Ev where
  | en (w : Str) (m n : Int)
  | st (w : Str) (k : Int)
def Ev.onM : MS → Ev → MS
  | S, .en w m n => S.enter w m n
  | S, .st w k => S.step w k
def runM (l : List Ev) (S : MS) : MS := l.foldl Ev.onM S
theorem runM_cons (e : Ev) (l : List Ev) (S : MS) : runM (e :: l) S = runM l (Ev.onM S e) := rfl
theorem runM_app (l m : List Ev) (S : MS) : runM (l ++ m) S = runM m (runM l S) := List.foldl_append
theorem runM_w : ∀ (l : List Ev) (S : MS), (runM l S).w = S.w
  | [], _ => rfl
  | .en _ _ _ :: l, S => (runM_w l _).trans rfl
  | .st _ _ :: l, S => (runM_w l _).trans rfl
theorem runM_c : ∀ (l : List Ev) (S : MS), (runM l S).c = S.c
  | [], _ => rfl
  | .en _ _ _ :: l, S => (runM_c l _).trans rfl
  | .st _ _ :: l, S => (runM_c l _).trans rfl
def jW (t : Int) : Str := if (decide (t = (1 : Int))) = true then ("add into" : Str) else ("take from" : Str)
def evJ (W : Nat) (t : Int) (r : Nat) (room : Int) (more : Nat) : List Ev := [.en (jW t) (r : Int) (sz W more : Nat), .st "sum" (jcnt W t r (sz W more) room (more : Int) : Nat)]
def evA (W a b : Nat) : List Ev := [.en "add" (sz W a : Nat) (sz W b : Nat), .st "sum" (max ((sz W a : Nat) : Int) ((sz W b : Nat) : Int))]
def evS (W : Nat) (sub : Nat → Nat → Nat → Nat → List Ev) (a m b n : Nat) : Nat → List Ev
  | 0 => []
  | i + 1 => evS W sub a m b n i ++ (sub a m (b / 2 ^ (i * m * W) % 2 ^ (m * W)) (min m (n - i * m)) ++ evJ W 1 (m + n - i * m) ((a * (b % 2 ^ (i * m * W)) / 2 ^ (i * m * W) : Nat) : Int) (a * (b / 2 ^ (i * m * W) % 2 ^ (m * W))))
/-- the middle room ahead of both takings -/
def midR (P lo hi : Nat) : Int := ((lo / P : Nat) : Int) + (hi : Int) * (P : Int)
def evK (W : Nat) (sub : Nat → Nat → Nat → Nat → List Ev) (a m b n : Nat) : List Ev :=
  sub (a / 2 ^ (n / 2 * W)) (sz W (a / 2 ^ (n / 2 * W))) (b / 2 ^ (n / 2 * W)) (sz W (b / 2 ^ (n / 2 * W))) ++
  (sub (a % 2 ^ (n / 2 * W)) (sz W (a % 2 ^ (n / 2 * W))) (b % 2 ^ (n / 2 * W)) (sz W (b % 2 ^ (n / 2 * W))) ++
  (evJ W (-1) (m + n - n / 2) (midR (2 ^ (n / 2 * W)) ((a % 2 ^ (n / 2 * W)) * (b % 2 ^ (n / 2 * W))) ((a / 2 ^ (n / 2 * W)) * (b / 2 ^ (n / 2 * W)))) ((a % 2 ^ (n / 2 * W)) * (b % 2 ^ (n / 2 * W))) ++
  (evJ W (-1) (m + n - n / 2) (midR (2 ^ (n / 2 * W)) ((a % 2 ^ (n / 2 * W)) * (b % 2 ^ (n / 2 * W))) ((a / 2 ^ (n / 2 * W)) * (b / 2 ^ (n / 2 * W))) + (-1) * (((a % 2 ^ (n / 2 * W)) * (b % 2 ^ (n / 2 * W)) : Nat) : Int)) ((a / 2 ^ (n / 2 * W)) * (b / 2 ^ (n / 2 * W))) ++
  (evA W (a / 2 ^ (n / 2 * W)) (a % 2 ^ (n / 2 * W)) ++ (evA W (b / 2 ^ (n / 2 * W)) (b % 2 ^ (n / 2 * W)) ++
  (sub (a / 2 ^ (n / 2 * W) + a % 2 ^ (n / 2 * W)) (sz W (a / 2 ^ (n / 2 * W) + a % 2 ^ (n / 2 * W))) (b / 2 ^ (n / 2 * W) + b % 2 ^ (n / 2 * W)) (sz W (b / 2 ^ (n / 2 * W) + b % 2 ^ (n / 2 * W))) ++
  evJ W 1 (m + n - n / 2) (midR (2 ^ (n / 2 * W)) ((a % 2 ^ (n / 2 * W)) * (b % 2 ^ (n / 2 * W))) ((a / 2 ^ (n / 2 * W)) * (b / 2 ^ (n / 2 * W))) + (-1) * (((a % 2 ^ (n / 2 * W)) * (b % 2 ^ (n / 2 * W)) : Nat) : Int) + (-1) * (((a / 2 ^ (n / 2 * W)) * (b / 2 ^ (n / 2 * W)) : Nat) : Int))
    ((a / 2 ^ (n / 2 * W) + a % 2 ^ (n / 2 * W)) * (b / 2 ^ (n / 2 * W) + b % 2 ^ (n / 2 * W)))))))))
def evC (W C : Nat) (sub : Nat → Nat → Nat → Nat → List Ev) (a m b n : Nat) : List Ev :=
  if m = 0 then [] else if m ≤ C then [.en "rows" (m : Int) (n : Int), .st "product" ((m : Int) * (n : Int))]
  else if 2 * m ≤ n then .en "lopsided" (m : Int) (n : Int) :: evS W sub a m b n ((n + m - 1) / m)
  else .en "karatsuba" (m : Int) (n : Int) :: evK W sub a m b n
def evM (W C : Nat) : Nat → Nat → Nat → Nat → Nat → List Ev
  | 0, _, _, _, _ => []
  | k + 1, a, m, b, n => if n < m then evC W C (evM W C k) b n a m else evC W C (evM W C k) a m b n
/-! ### numbers -/
theorem slice_step (a b Q M : Nat) : a * (b % (Q * M)) = a * (b % Q) + Q * (a * (b / Q % M)) := by
  rw [Nat.mod_mul, Nat.mul_add, ← Nat.mul_assoc, ← Nat.mul_assoc, Nat.mul_comm a Q]
theorem room_step {a b Q : Nat} (M : Nat) (hQ : 0 < Q) : a * (b % Q) % Q + (a * (b % Q) / Q + a * (b / Q % M)) * Q = a * (b % (Q * M)) := by
  rw [slice_step]
  have e := Nat.mod_add_div (a * (b % Q)) Q
  rw [Nat.add_mul, Nat.mul_comm (a * (b % Q) / Q), Nat.mul_comm _ Q]
  omega
theorem mid_val {P al ah bl bh : Nat} (hP : 0 < P) : midR P (al * bl) (ah * bh) + (-1) * ((al * bl : Nat) : Int) + (-1) * ((ah * bh : Nat) : Int) + 1 * (((ah + al) * (bh + bl) : Nat) : Int) = (((al + P * ah) * (bl + P * bh) / P : Nat) : Int) := by
  have e : (al + P * ah) * (bl + P * bh) = al * bl + P * (al * bh + ah * bl + P * (ah * bh)) := by grind
  rw [e, Nat.add_mul_div_left _ _ hP]
  unfold midR
  generalize al * bl / P = d
  simp only [Int.natCast_add, Int.natCast_mul]
  grind
theorem whole_val {P al ah bl bh : Nat} (hP : 0 < P) : al * bl % P + ((al + P * ah) * (bl + P * bh) / P) * P = (al + P * ah) * (bl + P * bh) := by
  have e : (al + P * ah) * (bl + P * bh) = al * bl + P * (al * bh + ah * bl + P * (ah * bh)) := by grind
  have q := Nat.mod_add_div ((al + P * ah) * (bl + P * bh)) P
  have m : (al + P * ah) * (bl + P * bh) % P = al * bl % P := by rw [e, Nat.add_mul_mod_self_left]
  rw [m] at q
  rw [Nat.mul_comm _ P]
  exact q
theorem mul_lt_pow {a b j k : Nat} (ha : a < 2 ^ j) (hb : b < 2 ^ k) : a * b < 2 ^ (j + k) := by
  rw [Nat.pow_add]
  exact Nat.mul_lt_mul_of_lt_of_lt ha hb
theorem pow_le2 {j k : Nat} (h : j ≤ k) : 2 ^ j ≤ 2 ^ k := Nat.pow_le_pow_right (by decide) h
theorem add_lt_pow {a b k : Nat} (ha : a < 2 ^ k) (hb : b < 2 ^ k) : a + b < 2 ^ (k + 1) := by rw [Nat.pow_succ]; omega
theorem div_lt_pow {a j k : Nat} (ha : a < 2 ^ (j + k)) : a / 2 ^ j < 2 ^ k := by
  rw [Nat.pow_add] at ha
  exact Nat.div_lt_of_lt_mul ha
section
variable {W C : Nat} {S : MS} (hS : S.w = (W : Int)) (h8 : 8 ≤ W) (h : W ≤ 30)
include hS h8 h in
theorem jroom_ok {t : Int} (ht : t = 1 ∨ t = -1) {r more : Nat} {room : Int} (hpr : sz W more ≤ r) (hr : r ≤ 4194304) :
    M_joined_room S room (r : Int) (more : Int) ((sz W more : Nat) : Int) t = some (room + t * (more : Int), runM (evJ W t r room more) S) := by
  have hw : W ≠ 0 := by omega
  have hSw : ∀ (w : Str) (a b : Int), (S.enter w a b).w = (W : Int) := fun _ _ _ => hS
  have m1 : ((more : Nat) : Int) < 2 ^ (sz W more * W) := by
    have := sz_lt hw more
    rw [Nat.mul_comm] at this
    rw [p2]
    omega
  have st := jcnt_xor hw ht (r := r) (room := room) (Int.natCast_nonneg more) m1
  unfold M_joined_room
  simp only [hSw]
  refine bnd_of (chkP_eq (mul_small (by omega))) ?_
  refine bnd_of rfl ?_
  refine bnd_of (chkP_eq (mul_small' (by omega))) ?_
  rw [← Int.natCast_mul]
  refine bnd_of (chkP_eq (by omega)) ?_
  rw [Int.toNat_natCast]
  refine bnd_of rfl ?_
  refine bnd_of (a := (jcnt W t r (sz W more) room (more : Int) : Int)) ?_ (bnd_of (chkP_eq (by decide +kernel)) rfl)
  rw [st]
  by_cases q : Builtin.bitXor (room + t * (more : Int)) room / 2 ^ (sz W more * W) = 0
  · rw [q, Int.zero_emod, Int.natAbs_zero, sz0 hw]
    rfl
  · rw [decide_eq_false q, if_pos (show (!false) = true from rfl), show (r : Int) - ((sz W more : Nat) : Int) = ((r - sz W more : Nat) : Int) by omega]
    refine bnd_of (low_ok h _ (by omega)) ?_
    refine bnd_of (size_ok h8 h _) ?_
    refine bnd_of rfl ?_
    rw [← Int.natCast_add]
include hS h8 h in
theorem parts_ok {a cut : Nat} (hc : cut ≤ 4194304) : M_parts_of S (a : Int) (cut : Int) = some (T4.mk ((a % 2 ^ (cut * W) : Nat) : Int) ((sz W (a % 2 ^ (cut * W)) : Nat) : Int) ((a / 2 ^ (cut * W) : Nat) : Int) ((sz W (a / 2 ^ (cut * W)) : Nat) : Int)) := by
  unfold M_parts_of
  rw [hS]
  refine bnd_of (low_ok h _ hc) ?_
  refine bnd_of (chkP_eq (mul_small' (by omega))) ?_
  rw [← Int.natCast_mul]
  refine bnd_of (chkP_eq (by omega)) ?_
  rw [Int.toNat_natCast, p2, ← Int.natCast_emod, ← Int.natCast_ediv]
  refine bnd_of rfl ?_
  refine bnd_of (size_ok h8 h _) ?_
  refine bnd_of (size_ok h8 h _) ?_
  rfl
theorem addedE_ok (S : MS) (a b : Nat) : M_added S (a : Int) ((sz W a : Nat) : Int) (b : Int) ((sz W b : Nat) : Int) = some (((a + b : Nat) : Int), runM (evA W a b) S) := by
  unfold M_added
  exact bnd_of (chkP_eq (by decide +kernel)) rfl
include hS h8 h in
theorem above_ok {r cut lo hi N : Nat} (h1 : sz W lo ≤ r) (h2 : sz W hi ≤ r) (hr : r ≤ 1000000) (hc : cut ≤ r) (hh : hi < 2 ^ N) (hN : N ≤ 60000000) :
    M_room_above S (r : Int) (cut : Int) (lo : Int) (hi : Int) = some (midR (2 ^ (cut * W)) lo hi + (-1) * (lo : Int) + (-1) * (hi : Int), runM (evJ W (-1) r (midR (2 ^ (cut * W)) lo hi + (-1) * (lo : Int)) hi) (runM (evJ W (-1) r (midR (2 ^ (cut * W)) lo hi) lo) S)) := by
  have cw : cut * W ≤ 1000000 * 30 := Nat.mul_le_mul (by omega) h
  have e : ((lo : Int) / 2 ^ (cut * W) + (hi : Int) * 2 ^ (cut * W)) = midR (2 ^ (cut * W)) lo hi := by
    unfold midR
    rw [p2, ← Int.natCast_ediv]
  unfold M_room_above
  rw [hS]
  refine bnd_of (chkP_eq (mul_small' (by omega))) ?_
  rw [← Int.natCast_mul]
  refine bnd_of (chkP_eq (by omega)) ?_
  refine bnd_of (chkP_eq (mul_small' (by omega))) ?_
  refine bnd_of (chkP_eq (shl_ok (k := N) (by rw [Int.natAbs_natCast]; exact hh) (by omega) (by omega))) ?_
  rw [Int.toNat_natCast, e]
  refine bnd_of rfl ?_
  refine bnd_of (size_ok h8 h _) ?_
  rw [Int.natAbs_natCast]
  refine bnd_of (jroom_ok hS h8 h (.inr rfl) h1 (by omega)) ?_
  have hS2 := (runM_w (evJ W (-1) r (midR (2 ^ (cut * W)) lo hi) lo) S).trans hS
  dsimp only
  rw [hS2]
  refine bnd_of (size_ok h8 h _) ?_
  rw [Int.natAbs_natCast]
  exact bnd_of (jroom_ok hS2 h8 h (.inr rfl) h2 (by omega)) rfl
include hS h8 h in
theorem wholer_ok {r cut lo mi N : Nat} {above : Int} {val : Nat} (h1 : sz W mi ≤ r) (hr : r ≤ 1000000) (hc : cut ≤ r) (hv : above + 1 * (mi : Int) = (val : Int)) (hh : val < 2 ^ N) (hN : N ≤ 60000000) :
    M_whole_room S (r : Int) (cut : Int) (lo : Int) above (mi : Int) = some (((lo % 2 ^ (cut * W) + val * 2 ^ (cut * W) : Nat) : Int), runM (evJ W 1 r above mi) S) := by
  have cw : cut * W ≤ 1000000 * 30 := Nat.mul_le_mul (by omega) h
  unfold M_whole_room
  rw [hS]
  refine bnd_of (size_ok h8 h _) ?_
  rw [Int.natAbs_natCast]
  refine bnd_of (jroom_ok hS h8 h (.inl rfl) h1 (by omega)) ?_
  have hS2 := (runM_w (evJ W 1 r above mi) S).trans hS
  dsimp only
  rw [hS2, hv]
  refine bnd_of (low_ok h _ (by omega)) ?_
  refine bnd_of (chkP_eq (mul_small' (by omega))) ?_
  rw [← Int.natCast_mul]
  refine bnd_of (chkP_eq (shl_ok (k := N) (by rw [Int.natAbs_natCast]; exact hh) (by omega) (by omega))) ?_
  rw [Int.toNat_natCast, p2, ← Int.natCast_emod, ← Int.natCast_mul, ← Int.natCast_add]
end
/-- the parts' sizes fit into the room -/
structure KFit (W a m b n : Nat) : Prop where
  lo : sz W ((a % 2 ^ (n / 2 * W)) * (b % 2 ^ (n / 2 * W))) ≤ m + n - n / 2
  hi : sz W ((a / 2 ^ (n / 2 * W)) * (b / 2 ^ (n / 2 * W))) ≤ m + n - n / 2
  mi : sz W ((a / 2 ^ (n / 2 * W) + a % 2 ^ (n / 2 * W)) * (b / 2 ^ (n / 2 * W) + b % 2 ^ (n / 2 * W))) ≤ m + n - n / 2
theorem mod_lt_pow (a k : Nat) : a % 2 ^ k < 2 ^ k := Nat.mod_lt _ (Nat.two_pow_pos k)
theorem kfit {W a m b n : Nat} (h8 : 8 ≤ W) (ha : a < 2 ^ (W * m)) (hb : b < 2 ^ (W * n)) (hmn : m ≤ n) (h2 : n < 2 * m) (hn : 2 ≤ n) : KFit W a m b n := by
  have hw : W ≠ 0 := by omega
  have la := mod_lt_pow a (n / 2 * W)
  have lb := mod_lt_pow b (n / 2 * W)
  have c1 : n / 2 < m := by omega
  have e1 : W * m = n / 2 * W + W * (m - n / 2) := by rw [Nat.mul_comm (n / 2), ← Nat.mul_add]; congr 1; omega
  have e2 : W * n = n / 2 * W + W * (n - n / 2) := by rw [Nat.mul_comm (n / 2), ← Nat.mul_add]; congr 1; omega
  have ua : a / 2 ^ (n / 2 * W) < 2 ^ (W * (m - n / 2)) := div_lt_pow (by rw [← e1]; exact ha)
  have ub : b / 2 ^ (n / 2 * W) < 2 ^ (W * (n - n / 2)) := div_lt_pow (by rw [← e2]; exact hb)
  refine ⟨(sz_le hw).mpr (Nat.lt_of_lt_of_le (mul_lt_pow la lb) (pow_le2 ?_)), (sz_le hw).mpr (Nat.lt_of_lt_of_le (mul_lt_pow ua ub) (pow_le2 ?_)), (sz_le hw).mpr ?_⟩
  · rw [← Nat.add_mul, Nat.mul_comm]
    exact Nat.mul_le_mul_left _ (by omega)
  · rw [← Nat.mul_add]
    exact Nat.mul_le_mul_left _ (by omega)
  · have x1 : a / 2 ^ (n / 2 * W) < 2 ^ (W * (m - 1)) := Nat.lt_of_lt_of_le ua (pow_le2 (Nat.mul_le_mul_left _ (by omega)))
    have x2 : a % 2 ^ (n / 2 * W) < 2 ^ (W * (m - 1)) := Nat.lt_of_lt_of_le la (pow_le2 (by rw [Nat.mul_comm]; exact Nat.mul_le_mul_left _ (by omega)))
    have y1 : b / 2 ^ (n / 2 * W) < 2 ^ (W * (n - n / 2)) := ub
    have y2 : b % 2 ^ (n / 2 * W) < 2 ^ (W * (n - n / 2)) := Nat.lt_of_lt_of_le lb (pow_le2 (by rw [Nat.mul_comm]; exact Nat.mul_le_mul_left _ (by omega)))
    refine Nat.lt_of_lt_of_le (mul_lt_pow (add_lt_pow x1 x2) (add_lt_pow y1 y2)) (pow_le2 ?_)
    have e : W * (m + n - n / 2) = W * (m - 1) + W * (n - n / 2) + W := by rw [← Nat.mul_add, ← Nat.mul_succ]; congr 1; omega
    omega
section
variable {W C : Nat} {S : MS} (hS : S.w = (W : Int)) (hC : S.c = (C : Int)) (h8 : 8 ≤ W) (h : W ≤ 30)
include hS hC h8 h in
theorem kar_ok {g a m b n N : Nat} {sub : Nat → Nat → Nat → Nat → List Ev} (ha : a < 2 ^ (W * m)) (hb : b < 2 ^ (W * n)) (hmn : m ≤ n) (h2 : n < 2 * m) (hn2 : 2 ≤ n) (hn : n ≤ 250000)
    (l1 : a / 2 ^ (n / 2 * W) + a % 2 ^ (n / 2 * W) < 2 ^ N) (l2 : b / 2 ^ (n / 2 * W) + b % 2 ^ (n / 2 * W) < 2 ^ N) (hN : N ≤ 4000000)
    (hsub : ∀ (S : MS) (x y : Nat), S.w = (W : Int) → S.c = (C : Int) → x < 2 ^ N → y < 2 ^ N → M_multiplied g S (x : Int) ((sz W x : Nat) : Int) (y : Int) ((sz W y : Nat) : Int) = some (((x * y : Nat) : Int), runM (sub x (sz W x) y (sz W y)) S)) :
    M_karatsuba_product (g + 1) S (a : Int) (m : Int) (b : Int) (n : Int) = some (((a * b : Nat) : Int), runM (.en "karatsuba" (m : Int) (n : Int) :: evK W sub a m b n) S) := by
  have hw : W ≠ 0 := by omega
  have K := kfit h8 ha hb hmn h2 hn2
  obtain ⟨k1, k2, k3⟩ := K
  have P0 := Nat.two_pow_pos (n / 2 * W)
  have ea := Nat.mod_add_div a (2 ^ (n / 2 * W))
  have eb := Nat.mod_add_div b (2 ^ (n / 2 * W))
  have ab := mul_lt_pow ha hb
  have bn := Nat.mul_le_mul h hn
  have bm := Nat.mul_le_mul h (Nat.le_trans hmn hn)
  have er : ((m : Int) + (n : Int)) - ((n / 2 : Nat) : Int) = ((m + n - n / 2 : Nat) : Int) := by omega
  rw [M_karatsuba_product_succ, runM_cons]
  refine bnd_of (chkP_eq (cdiv_s (by decide) (by decide))) ?_
  rw [show (n : Int) / 2 = ((n / 2 : Nat) : Int) from rfl]
  refine bnd_of rfl ?_
  show (M_parts_of (Ev.onM S (.en "karatsuba" (m : Int) (n : Int))) (a : Int) ((n / 2 : Nat) : Int)).bind _ = _
  have hS1 : (Ev.onM S (.en "karatsuba" (m : Int) (n : Int))).w = (W : Int) := hS
  have hC1 : (Ev.onM S (.en "karatsuba" (m : Int) (n : Int))).c = (C : Int) := hC
  change (M_parts_of (Ev.onM S (.en "karatsuba" (m : Int) (n : Int))) (a : Int) ((n / 2 : Nat) : Int)).bind (fun z3 => (M_parts_of (Ev.onM S (.en "karatsuba" (m : Int) (n : Int))) (b : Int) ((n / 2 : Nat) : Int)).bind fun z4 => (M_multiplied g (Ev.onM S (.en "karatsuba" (m : Int) (n : Int))) z3.c z3.d z4.c z4.d).bind fun z5 => _) = _
  generalize hS0 : Ev.onM S (.en "karatsuba" (m : Int) (n : Int)) = S1 at *
  refine bnd_of (parts_ok hS1 h8 h (by omega)) ?_
  refine bnd_of (parts_ok hS1 h8 h (by omega)) ?_
  unfold evK
  simp only [runM_app]
  have hP : 0 < 2 ^ (n / 2 * W) := P0
  have mv := mid_val (al := a % 2 ^ (n / 2 * W)) (ah := a / 2 ^ (n / 2 * W)) (bl := b % 2 ^ (n / 2 * W)) (bh := b / 2 ^ (n / 2 * W)) hP
  have wv := whole_val (al := a % 2 ^ (n / 2 * W)) (ah := a / 2 ^ (n / 2 * W)) (bl := b % 2 ^ (n / 2 * W)) (bh := b / 2 ^ (n / 2 * W)) hP
  rw [ea, eb] at mv wv
  have vb : a * b / 2 ^ (n / 2 * W) < 2 ^ (W * m + W * n) := Nat.lt_of_le_of_lt (Nat.div_le_self _ _) ab
  generalize a % 2 ^ (n / 2 * W) = al at *
  generalize a / 2 ^ (n / 2 * W) = ah at *
  generalize b % 2 ^ (n / 2 * W) = bl at *
  generalize b / 2 ^ (n / 2 * W) = bh at *
  refine bnd_of (hsub _ ah bh hS1 hC1 (by omega) (by omega)) ?_
  have hS2 := (runM_w (sub ah (sz W ah) bh (sz W bh)) S1).trans hS1
  have hC2 := (runM_c (sub ah (sz W ah) bh (sz W bh)) S1).trans hC1
  dsimp only
  generalize runM (sub ah (sz W ah) bh (sz W bh)) S1 = S2 at *
  refine bnd_of (hsub _ al bl hS2 hC2 (by omega) (by omega)) ?_
  have hS3 := (runM_w (sub al (sz W al) bl (sz W bl)) S2).trans hS2
  have hC3 := (runM_c (sub al (sz W al) bl (sz W bl)) S2).trans hC2
  dsimp only
  generalize runM (sub al (sz W al) bl (sz W bl)) S2 = S3 at *
  have hhi : ah * bh < 2 ^ (N + N) := mul_lt_pow (by omega) (by omega)
  rw [er]
  refine bnd_of (above_ok hS3 h8 h k1 k2 (by omega) (by omega) hhi (by omega)) ?_
  dsimp only
  have hS4 := (runM_w (evJ W (-1) (m + n - n / 2) (midR (2 ^ (n / 2 * W)) (al * bl) (ah * bh) + (-1) * ((al * bl : Nat) : Int)) (ah * bh)) (runM (evJ W (-1) (m + n - n / 2) (midR (2 ^ (n / 2 * W)) (al * bl) (ah * bh)) (al * bl)) S3)).trans ((runM_w (evJ W (-1) (m + n - n / 2) (midR (2 ^ (n / 2 * W)) (al * bl) (ah * bh)) (al * bl)) S3).trans hS3)
  have hC4 := (runM_c (evJ W (-1) (m + n - n / 2) (midR (2 ^ (n / 2 * W)) (al * bl) (ah * bh) + (-1) * ((al * bl : Nat) : Int)) (ah * bh)) (runM (evJ W (-1) (m + n - n / 2) (midR (2 ^ (n / 2 * W)) (al * bl) (ah * bh)) (al * bl)) S3)).trans ((runM_c (evJ W (-1) (m + n - n / 2) (midR (2 ^ (n / 2 * W)) (al * bl) (ah * bh)) (al * bl)) S3).trans hC3)
  generalize runM (evJ W (-1) (m + n - n / 2) (midR (2 ^ (n / 2 * W)) (al * bl) (ah * bh) + (-1) * ((al * bl : Nat) : Int)) (ah * bh)) (runM (evJ W (-1) (m + n - n / 2) (midR (2 ^ (n / 2 * W)) (al * bl) (ah * bh)) (al * bl)) S3) = S4 at *
  refine bnd_of (addedE_ok S4 ah al) ?_
  have hS5 := (runM_w (evA W ah al) S4).trans hS4
  have hC5 := (runM_c (evA W ah al) S4).trans hC4
  dsimp only
  generalize runM (evA W ah al) S4 = S5 at *
  refine bnd_of (addedE_ok S5 bh bl) ?_
  have hS6 := (runM_w (evA W bh bl) S5).trans hS5
  have hC6 := (runM_c (evA W bh bl) S5).trans hC5
  dsimp only
  generalize runM (evA W bh bl) S5 = S6 at *
  rw [hS6]
  refine bnd_of (size_ok h8 h _) ?_
  refine bnd_of (size_ok h8 h _) ?_
  rw [Int.natAbs_natCast, Int.natAbs_natCast]
  refine bnd_of (hsub _ (ah + al) (bh + bl) hS6 hC6 l1 l2) ?_
  have hS7 := (runM_w (sub (ah + al) (sz W (ah + al)) (bh + bl) (sz W (bh + bl))) S6).trans hS6
  dsimp only
  generalize runM (sub (ah + al) (sz W (ah + al)) (bh + bl) (sz W (bh + bl))) S6 = S7 at *
  refine bnd_of (wholer_ok hS7 h8 h k3 (by omega) (by omega) mv vb (by omega)) ?_
  rw [wv]
end
theorem rngS_get {c : Int} {n i : Nat} {x : Int} (h : (rngS c n)[i]? = some x) : i < n ∧ x = 0 + (i : Int) * c := by
  unfold rngS at h
  rw [List.getElem?_map] at h
  cases e : (List.range n)[i]? with
  | none => rw [e] at h; cases h
  | some k =>
    rw [e] at h
    have lt := getlt e
    rw [List.length_range] at lt
    rw [List.getElem?_range lt] at e
    cases e
    cases h
    exact ⟨lt, rfl⟩
theorem rngS_len (c : Int) (n : Nat) : (rngS c n).length = n := by unfold rngS; rw [List.length_map, List.length_range]
theorem cdivN {n m : Nat} (hm : 0 < m) : (((n : Int) + (m : Int) - 1) / (m : Int)).toNat = (n + m - 1) / m := by
  rw [show (n : Int) + (m : Int) - 1 = ((n + m - 1 : Nat) : Int) by omega, ← Int.natCast_ediv, Int.toNat_natCast]
theorem slc_lt {n m i : Nat} (hm : 0 < m) (h : i < (n + m - 1) / m) : i * m < n := by
  have := (Nat.le_div_iff_mul_le hm).mp h
  rw [Nat.succ_mul] at this
  omega
theorem slc_all {n m : Nat} (hm : 0 < m) : n ≤ (n + m - 1) / m * m := by
  have := Nat.div_add_mod (n + m - 1) m
  have := Nat.mod_lt (n + m - 1) hm
  rw [Nat.mul_comm]
  omega
/-- a slice's sizes -/
theorem slc_fit {W a m b n i : Nat} (hw : W ≠ 0) (ha : a < 2 ^ (W * m)) (hb : b < 2 ^ (W * n)) (hi : i * m < n) :
    b / 2 ^ (i * m * W) % 2 ^ (m * W) < 2 ^ (W * min m (n - i * m)) ∧ sz W (a * (b / 2 ^ (i * m * W) % 2 ^ (m * W))) ≤ m + n - i * m := by
  have e2 : W * n = i * m * W + W * (n - i * m) := by rw [Nat.mul_comm (i * m), ← Nat.mul_add]; congr 1; omega
  have u : b / 2 ^ (i * m * W) < 2 ^ (W * (n - i * m)) := div_lt_pow (by rw [← e2]; exact hb)
  have v := mod_lt_pow (b / 2 ^ (i * m * W)) (m * W)
  have s : b / 2 ^ (i * m * W) % 2 ^ (m * W) < 2 ^ (W * min m (n - i * m)) := by
    rcases Nat.le_total m (n - i * m) with q | q
    · rw [Nat.min_eq_left q, Nat.mul_comm W m]; exact v
    · rw [Nat.min_eq_right q]; exact Nat.lt_of_le_of_lt (Nat.mod_le _ _) u
  refine ⟨s, (sz_le hw).mpr (Nat.lt_of_lt_of_le (mul_lt_pow ha s) (pow_le2 ?_))⟩
  rw [← Nat.mul_add]
  exact Nat.mul_le_mul_left _ (by omega)
theorem rm_bound (a b Q M : Nat) (hQ : 0 < Q) : a * (b % Q) / Q + a * (b / Q % M) ≤ a * b := by
  have e := room_step (a := a) (b := b) M hQ
  have l : a * (b % (Q * M)) ≤ a * b := Nat.mul_le_mul_left _ (Nat.mod_le _ _)
  have q : a * (b % Q) / Q + a * (b / Q % M) ≤ (a * (b % Q) / Q + a * (b / Q % M)) * Q := Nat.le_mul_of_pos_right _ hQ
  omega
section
variable {W C : Nat} {S : MS} (hS : S.w = (W : Int)) (hC : S.c = (C : Int)) (h8 : 8 ≤ W) (h : W ≤ 30)
include hS hC h8 h in
theorem lop_ok {g a m b n : Nat} {sub : Nat → Nat → Nat → Nat → List Ev} (ha : a < 2 ^ (W * m)) (hb : b < 2 ^ (W * n)) (hm : 0 < m) (hmn : m ≤ n) (hn : n ≤ 250000)
    (hsub : ∀ (S : MS) (y s : Nat), S.w = (W : Int) → S.c = (C : Int) → s ≤ m → y < 2 ^ (W * s) → M_multiplied g S (a : Int) (m : Int) (y : Int) (s : Int) = some (((a * y : Nat) : Int), runM (sub a m y s) S)) :
    M_lopsided_product (g + 1) S (a : Int) (m : Int) (b : Int) (n : Int) = some (((a * b : Nat) : Int), runM (.en "lopsided" (m : Int) (n : Int) :: evS W sub a m b n ((n + m - 1) / m)) S) := by
  have hw : W ≠ 0 := by omega
  have ab := mul_lt_pow ha hb
  have bn := Nat.mul_le_mul h hn
  have bm := Nat.mul_le_mul h (Nat.le_trans hmn hn)
  have hS1 : (Ev.onM S (.en "lopsided" (m : Int) (n : Int))).w = (W : Int) := hS
  have hC1 : (Ev.onM S (.en "lopsided" (m : Int) (n : Int))).c = (C : Int) := hC
  rw [M_lopsided_product_succ, runM_cons]
  refine bnd_of (a := (W : Int)) (congrArg some hS1) ?_
  refine bnd_of (chkP_eq ⟨by omega, by omega, by omega, by omega⟩) ?_
  show (forM' _ _ ((b : Int), (0 : Int), Ev.onM S (.en "lopsided" (m : Int) (n : Int)))).bind _ = _
  generalize Ev.onM S (.en "lopsided" (m : Int) (n : Int)) = S1 at *
  rw [cdivN hm]
  obtain ⟨s, e, hI⟩ := forM_ind (b := fun (a4 : Int) (s3 : Int × Int × MS) => (M_low_part (W : Int) s3.1 (m : Int)).bind fun z5 => (M_multiplied g s3.2.2 (a : Int) (m : Int) z5 (min (m : Int) ((n : Int) - a4))).bind fun z6 => (chkP (IntMulOk (m : Int) (W : Int))).bind fun z7 => (chkP (0 ≤ ((m : Int) * (W : Int)))).bind fun z8 => (some (s3.1 / 2 ^ (((m : Int) * (W : Int))).toNat)).bind fun y9 => (chkP (IntMulOk a4 (W : Int))).bind fun z10 => (chkP (0 ≤ (a4 * (W : Int)))).bind fun z11 => (M_size_of z6.2.w z6.1).bind fun z12 => (M_joined_room z6.2 (s3.2.1 / 2 ^ ((a4 * (W : Int))).toNat) (((m : Int) + (n : Int)) - a4) z6.1 z12 (1 : Int)).bind fun z13 => (M_low_part (W : Int) s3.2.1 a4).bind fun z14 => (chkP (IntMulOk a4 (W : Int))).bind fun z15 => (chkP (CShl z13.1 (a4 * (W : Int)))).bind fun z16 => (some (z14 + (z13.1 * 2 ^ ((a4 * (W : Int))).toNat))).bind fun y17 => some (Stp.nx (ρ := Unit) (y9, y17, z13.2)))
    (fun i s => s = (((b / 2 ^ (i * m * W) : Nat) : Int), ((a * (b % 2 ^ (i * m * W)) : Nat) : Int), runM (evS W sub a m b n i) S1)) (rngS (m : Int) ((n + m - 1) / m)) 0 ((b : Int), (0 : Int), S1) (by
      intro i x s hx hs
      obtain ⟨hi, rfl⟩ := rngS_get hx
      rw [Nat.zero_add] at hs ⊢
      subst hs
      have him := slc_lt hm hi
      obtain ⟨f1, f2⟩ := slc_fit hw ha hb him
      have Q0 := Nat.two_pow_pos (i * m * W)
      have rb := rm_bound a b (2 ^ (i * m * W)) (2 ^ (m * W)) Q0
      have rs := room_step (a := a) (b := b) (2 ^ (m * W)) Q0
      have ep : 2 ^ ((i + 1) * m * W) = 2 ^ (i * m * W) * 2 ^ (m * W) := by rw [← Nat.pow_add, ← Nat.add_mul, ← Nat.succ_mul]
      have iw : i * m * W ≤ 250000 * 30 := Nat.mul_le_mul (by omega) h
      have hS2 := (runM_w (evS W sub a m b n i) S1).trans hS1
      have hC2 := (runM_c (evS W sub a m b n i) S1).trans hC1
      refine ⟨_, ?_, rfl⟩
      rw [ep, ← rs, ← Nat.div_div_eq_div_mul, evS, runM_app]
      rw [show (0 : Int) + (i : Int) * (m : Int) = ((i * m : Nat) : Int) by rw [Int.natCast_mul]; omega]
      rw [runM_app]
      generalize runM (evS W sub a m b n i) S1 = S2 at *
      dsimp only
      refine bnd_of (low_ok h _ (by omega)) ?_
      rw [p2, ← Int.natCast_emod, show min (m : Int) ((n : Int) - ((i * m : Nat) : Int)) = ((min m (n - i * m) : Nat) : Int) by omega]
      refine bnd_of (hsub _ _ _ hS2 hC2 (Nat.min_le_left _ _) f1) ?_
      refine bnd_of (chkP_eq (mul_small' (by omega))) ?_
      rw [← Int.natCast_mul]
      refine bnd_of (chkP_eq (by omega)) ?_
      rw [Int.toNat_natCast, p2, ← Int.natCast_ediv]
      refine bnd_of rfl ?_
      refine bnd_of (chkP_eq (mul_small' (by omega))) ?_
      rw [← Int.natCast_mul]
      refine bnd_of (chkP_eq (by omega)) ?_
      rw [Int.toNat_natCast]
      have hS3 := (runM_w (sub a m (b / 2 ^ (i * m * W) % 2 ^ (m * W)) (min m (n - i * m))) S2).trans hS2
      dsimp only
      generalize runM (sub a m (b / 2 ^ (i * m * W) % 2 ^ (m * W)) (min m (n - i * m))) S2 = S3 at *
      rw [hS3]
      refine bnd_of (size_ok h8 h _) ?_
      rw [Int.natAbs_natCast, p2, ← Int.natCast_ediv, show ((m : Int) + (n : Int)) - ((i * m : Nat) : Int) = ((m + n - i * m : Nat) : Int) by omega]
      refine bnd_of (jroom_ok hS3 h8 h (.inl rfl) f2 (by omega)) ?_
      dsimp only
      refine bnd_of (low_ok h _ (by omega)) ?_
      refine bnd_of (chkP_eq (mul_small' (by omega))) ?_
      rw [Int.one_mul, ← Int.natCast_add]
      refine bnd_of (chkP_eq (shl_ok (k := W * m + W * n) (by rw [Int.natAbs_natCast]; omega) (by omega) (by omega))) ?_
      rw [p2, ← Int.natCast_emod, ← Int.natCast_mul, ← Int.natCast_add]
      rfl) (by
      rw [Nat.zero_mul, Nat.zero_mul, Nat.pow_zero, Nat.div_one, Nat.mod_one, Nat.mul_zero]; rfl)
  rw [rngS_len, Nat.zero_add] at hI
  refine bnd_of e ?_
  rw [hI]
  refine bnd_of rfl ?_
  have lt : b < 2 ^ ((n + m - 1) / m * m * W) := Nat.lt_of_lt_of_le hb (pow_le2 (by rw [Nat.mul_comm W]; exact Nat.mul_le_mul_right _ (slc_all hm)))
  rw [Nat.mod_eq_of_lt lt]
end
def lvl (W k : Nat) : Nat := (W - 2) * 2 ^ k + W + 2
structure Fit (W N m a : Nat) : Prop where
  sm : a < 2 ^ (W * m)
  bd : a < 2 ^ N
  len : W * m < N + W
theorem fit_sz {W N x : Nat} (hw : W ≠ 0) (h : x < 2 ^ N) : Fit W N (sz W x) x := by
  refine ⟨sz_lt hw x, h, ?_⟩
  have hk : N ≤ W * ((N + W - 1) / W) := by
    have := Nat.div_add_mod (N + W - 1) W
    have := Nat.mod_lt (N + W - 1) (show 0 < W by omega)
    omega
  have l := (sz_le hw).mpr (Nat.lt_of_lt_of_le h (pow_le2 hk))
  have l := Nat.mul_le_mul_left W l
  have := Nat.mul_div_le (N + W - 1) W
  omega
theorem mul_swap {g : Nat} {S : MS} {a m b n : Int} (q : n < m) : M_multiplied (g + 1) S a m b n = M_multiplied (g + 1) S b n a m := by
  rw [M_multiplied_succ, M_multiplied_succ, if_pos (decide_eq_true q), if_neg (by rw [decide_eq_true_iff]; omega)]
  rfl
theorem lvl0 {W : Nat} (h8 : 8 ≤ W) : lvl W 0 = 2 * W := by unfold lvl; omega
theorem lvl_s {W k N : Nat} (h : N ≤ lvl W (k + 1)) (h8 : 8 ≤ W) : (N + W) / 2 + 1 ≤ lvl W k := by
  unfold lvl at *
  rw [Nat.pow_succ, ← Nat.mul_assoc] at h
  omega
section
variable {W C : Nat} (h8 : 8 ≤ W) (h : W ≤ 30) (hC2 : 2 ≤ C)
include h8 h hC2 in
theorem core_ok {g a m b n N : Nat} {S : MS} {sub : Nat → Nat → Nat → Nat → List Ev} (hS : S.w = (W : Int)) (hC : S.c = (C : Int)) (fa : Fit W N m a) (fb : Fit W N n b) (hmn : m ≤ n) (hN : N ≤ 1900000)
    (ih : C < m → ∃ g2, g = g2 + 1 ∧ ∀ (S : MS) (x p y q N' : Nat), S.w = (W : Int) → S.c = (C : Int) → Fit W N' p x → Fit W N' q y → N' ≤ (N + W) / 2 + 1 → M_multiplied g2 S (x : Int) (p : Int) (y : Int) (q : Int) = some (((x * y : Nat) : Int), runM (sub x p y q) S)) :
    M_multiplied (g + 1) S (a : Int) (m : Int) (b : Int) (n : Int) = some (((a * b : Nat) : Int), runM (evC W C sub a m b n) S) := by
  have hw : W ≠ 0 := by omega
  obtain ⟨a1, a2, a3⟩ := fa
  obtain ⟨b1, b2, b3⟩ := fb
  have nb : n ≤ 250000 := by
    rcases Nat.lt_or_ge 250000 n with q | q
    · have := Nat.mul_le_mul h8 q
      have := Nat.mul_le_mul_right n h8
      omega
    · exact q
  have bn := Nat.mul_le_mul h nb
  have bm := Nat.mul_le_mul h (Nat.le_trans hmn nb)
  rw [M_multiplied_succ]
  refine bnd_of (a := ((a : Int), (m : Int), (b : Int), (n : Int))) (by rw [if_neg (by rw [decide_eq_true_iff]; omega)]) ?_
  dsimp only
  unfold evC
  by_cases q0 : m = 0
  · subst q0
    rw [Nat.mul_zero, Nat.pow_zero] at a1
    have a0 : a = 0 := by omega
    subst a0
    rw [if_pos (by rfl), if_pos rfl, Nat.zero_mul]
    rfl
  · rw [if_neg (by rw [decide_eq_true_iff]; omega), if_neg q0, hC]
    by_cases q1 : m ≤ C
    · rw [if_pos (decide_eq_true (by omega)), if_pos q1]
      refine bnd_of (a := (((a * b : Nat) : Int), runM [.en "rows" (m : Int) (n : Int), .st "product" ((m : Int) * (n : Int))] S)) ?_ rfl
      unfold M_product_by_rows
      refine bnd_of (chkP_eq (mul_small (by omega))) ?_
      refine bnd_of (chkP_eq (by decide +kernel)) ?_
      refine bnd_of (chkP_eq (mul_big (j := W * m) (k := W * n) (by rw [Int.natAbs_natCast]; exact a1) (by rw [Int.natAbs_natCast]; exact b1) (by omega))) ?_
      rw [← Int.natCast_mul]
      rfl
    · rw [if_neg (by rw [decide_eq_true_iff]; omega), if_neg q1]
      obtain ⟨g2, rfl, ih2⟩ := ih (by omega)
      refine bnd_of (chkP_eq (mul_small (by decide))) ?_
      by_cases q2 : 2 * m ≤ n
      · rw [if_pos (decide_eq_true (by omega)), if_pos q2]
        have e2 : 2 * (W * m) ≤ W * n := by
          have := Nat.mul_le_mul_left W q2
          rw [← Nat.mul_assoc, Nat.mul_comm W 2, Nat.mul_assoc] at this
          exact this
        refine bnd_of (lop_ok hS hC h8 h a1 b1 (by omega) hmn nb (sub := sub) fun S y s u1 u2 u3 u4 => ?_) rfl
        have hl : W * s ≤ W * m := Nat.mul_le_mul_left W u3
        exact ih2 S a m y s (W * m) u1 u2 ⟨a1, a1, by omega⟩ ⟨u4, Nat.lt_of_lt_of_le u4 (pow_le2 hl), by omega⟩ (by omega)
      · rw [if_neg (by rw [decide_eq_true_iff]; omega), if_neg q2]
        have e1 : W * n = 2 * (n / 2 * W) + (n % 2) * W := by
          rw [← Nat.mul_assoc, ← Nat.add_mul, Nat.mul_comm W]
          congr 1
          omega
        have e2 : (n % 2) * W ≤ 1 * W := Nat.mul_le_mul_right _ (by omega)
        have half : ∀ z : Nat, z < 2 ^ (W * n) → z < 2 ^ N → z / 2 ^ (n / 2 * W) + z % 2 ^ (n / 2 * W) < 2 ^ ((N + W) / 2 + 1) := fun z z1 z2 => by
          have zl : z % 2 ^ (n / 2 * W) < 2 ^ ((N + W) / 2) := Nat.lt_of_lt_of_le (mod_lt_pow z _) (pow_le2 (by omega))
          have zh : z / 2 ^ (n / 2 * W) < 2 ^ ((N + W) / 2) := by
            refine div_lt_pow ?_
            rcases Nat.le_total N (W * n) with w | w
            · exact Nat.lt_of_lt_of_le z2 (pow_le2 (by omega))
            · exact Nat.lt_of_lt_of_le z1 (pow_le2 (by omega))
          exact add_lt_pow zh zl
        have hl : W * m ≤ W * n := Nat.mul_le_mul_left W hmn
        refine bnd_of (kar_ok hS hC h8 h a1 b1 hmn (by omega) (by omega) nb (half a (Nat.lt_of_lt_of_le a1 (pow_le2 hl)) a2) (half b b1 b2) (by omega) (sub := sub) fun S x y u1 u2 u3 u4 => ?_) rfl
        exact ih2 S x _ y _ _ u1 u2 (fit_sz hw u3) (fit_sz hw u4) (Nat.le_refl _)
include h8 h hC2 in
theorem mul_ok : ∀ (k g : Nat) (S : MS) (a m b n N : Nat), 2 * k + 1 ≤ g → S.w = (W : Int) → S.c = (C : Int) → Fit W N m a → Fit W N n b → N ≤ lvl W k → N ≤ 1900000 →
    M_multiplied g S (a : Int) (m : Int) (b : Int) (n : Int) = some (((a * b : Nat) : Int), runM (evM W C (k + 1) a m b n) S) := by
  intro k
  induction k with
  | zero =>
    intro g S a m b n N hg hS hC fa fb hk hN
    obtain ⟨g, rfl⟩ : ∃ j, g = j + 1 := ⟨g - 1, by omega⟩
    rw [lvl0 h8] at hk
    have small : ∀ z, W * z < N + W → ¬ C < z := fun z hz q => by
      have := Nat.mul_le_mul_left W (show 3 ≤ z by omega)
      omega
    unfold evM
    by_cases q : n < m
    · rw [mul_swap (by omega), if_pos q, Nat.mul_comm a b]
      exact core_ok h8 h hC2 hS hC fb fa (by omega) hN fun z => absurd z (small n fb.len)
    · rw [if_neg q]
      exact core_ok h8 h hC2 hS hC fa fb (by omega) hN fun z => absurd z (small m fa.len)
  | succ k ihk =>
    intro g S a m b n N hg hS hC fa fb hk hN
    obtain ⟨g, rfl⟩ : ∃ j, g = j + 2 := ⟨g - 2, by omega⟩
    have hs := lvl_s hk h8
    have ih : ∃ g2, g + 1 = g2 + 1 ∧ ∀ (S : MS) (x p y q N' : Nat), S.w = (W : Int) → S.c = (C : Int) → Fit W N' p x → Fit W N' q y → N' ≤ (N + W) / 2 + 1 → M_multiplied g2 S (x : Int) (p : Int) (y : Int) (q : Int) = some (((x * y : Nat) : Int), runM (evM W C (k + 1) x p y q) S) :=
      ⟨g, rfl, fun S x p y q N' u1 u2 u3 u4 u5 => ihk g S x p y q N' (by omega) u1 u2 u3 u4 (by omega) (by omega)⟩
    rw [evM]
    by_cases q : n < m
    · rw [mul_swap (by omega), if_pos q, Nat.mul_comm a b]
      exact core_ok h8 h hC2 hS hC fb fa (by omega) hN fun _ => ih
    · rw [if_neg q]
      exact core_ok h8 h hC2 hS hC fa fb (by omega) hN fun _ => ih
end
/-! ### what a law keeps in a dict and a list -/
def Ev.onW : List (T3 Str Int Int) → Ev → List (T3 Str Int Int)
  | wk, .en w m n => wk ++ [T3.mk w m n]
  | wk, .st _ _ => wk
def runW (l : List Ev) (wk : List (T3 Str Int Int)) : List (T3 Str Int Int) := l.foldl Ev.onW wk
theorem runW_cons (e : Ev) (l : List Ev) (s : List (T3 Str Int Int)) : runW (e :: l) s = runW l (Ev.onW s e) := rfl
def EvOk (l : List Ev) : Prop := ∀ e ∈ l, match e with | .st w k => w ∈ mwords ∧ 0 ≤ k | .en w _ _ => (PyData.str w).canLay0 = true
theorem evok_nil : EvOk [] := fun e h => (by cases h)
theorem evok_app {l m : List Ev} (h1 : EvOk l) (h2 : EvOk m) : EvOk (l ++ m) := fun e h => (List.mem_append.mp h).elim (h1 e) (h2 e)
theorem evok_en {w : Str} {m n : Int} {l : List Ev} (h : EvOk l) (hw : (PyData.str w).canLay0 = true := by decide +kernel) : EvOk (.en w m n :: l) := fun e he => by
  rcases List.mem_cons.mp he with q | q
  · subst q; exact hw
  · exact h e q
theorem evok_st {w : Str} {k : Int} {l : List Ev} (h : EvOk l) (hk : 0 ≤ k) (hw : w ∈ mwords := by decide +kernel) : EvOk (.st w k :: l) := fun e he => by
  rcases List.mem_cons.mp he with q | q
  · subst q; exact ⟨hw, hk⟩
  · exact h e q
/-! ### the events are good -/
theorem evok_J {W r more : Nat} {t room : Int} : EvOk (evJ W t r room more) := by
  unfold evJ jW
  refine evok_en (evok_st evok_nil (Int.natCast_nonneg _)) ?_
  split <;> decide +kernel
theorem evok_A {W a b : Nat} : EvOk (evA W a b) := evok_en (evok_st evok_nil (by omega))
theorem evok_S {W : Nat} {sub : Nat → Nat → Nat → Nat → List Ev} (hs : ∀ x p y q, EvOk (sub x p y q)) {a m b n : Nat} : ∀ i, EvOk (evS W sub a m b n i)
  | 0 => evok_nil
  | i + 1 => evok_app (evok_S hs i) (evok_app (hs _ _ _ _) evok_J)
theorem evok_K {W : Nat} {sub : Nat → Nat → Nat → Nat → List Ev} (hs : ∀ x p y q, EvOk (sub x p y q)) {a m b n : Nat} : EvOk (evK W sub a m b n) := by
  unfold evK
  exact evok_app (hs _ _ _ _) (evok_app (hs _ _ _ _) (evok_app evok_J (evok_app evok_J (evok_app evok_A (evok_app evok_A (evok_app (hs _ _ _ _) evok_J))))))
theorem evok_C {W C : Nat} {sub : Nat → Nat → Nat → Nat → List Ev} (hs : ∀ x p y q, EvOk (sub x p y q)) {a m b n : Nat} : EvOk (evC W C sub a m b n) := by
  unfold evC
  split
  · exact evok_nil
  · split
    · exact evok_en (evok_st evok_nil (Int.mul_nonneg (Int.natCast_nonneg _) (Int.natCast_nonneg _)))
    · split
      · exact evok_en (evok_S hs _)
      · exact evok_en (evok_K hs)
theorem evok_M {W C : Nat} : ∀ k a m b n, EvOk (evM W C k a m b n)
  | 0, _, _, _, _ => evok_nil
  | k + 1, a, m, b, n => by
    unfold evM
    split
    · exact evok_C (evok_M k)
    · exact evok_C (evok_M k)
section
variable {W C : Nat} {cs : List (Str × Int)} {wk : List (T3 Str Int Int)} {c2 B : Int} (h8 : 8 ≤ W) (h : W ≤ 30)
end
section
variable {W C : Nat} {cs : List (Str × Int)} {wk : List (T3 Str Int Int)} (h8 : 8 ≤ W) (h : W ≤ 30)
end
/-- what a product counts and enters -/
def mulE (W C k : Nat) (x y : Int) : List Ev := if sz W x.natAbs ≤ 1 ∧ sz W y.natAbs ≤ 1 then [.st "short" 1] else evM W C (k + 1) x.natAbs (sz W x.natAbs) y.natAbs (sz W y.natAbs)
theorem mulE_ok {W C k : Nat} {x y : Int} : EvOk (mulE W C k x y) := by
  unfold mulE
  split
  · exact evok_st evok_nil (by decide)
  · exact evok_M _ _ _ _ _
theorem compact_is {W : Nat} {S : MS} (hw : W ≠ 0) (hS : S.w = (W : Int)) (x y : Int) : M_are_compact S x y = some (decide (sz W x.natAbs ≤ 1 ∧ sz W y.natAbs ≤ 1)) := by
  unfold M_are_compact
  rw [hS, intBits_abs, intBits_abs, Bool.decide_and]
  have e : ∀ a : Nat, decide (((bl a : Nat) : Int) ≤ (W : Int)) = decide (sz W a ≤ 1) := fun a => decide_eq_decide.mpr (by rw [sz_one hw]; omega)
  rw [e, e]
theorem sgn_val (x y : Int) : (if (decide ((decide (x < (0 : Int))) = (decide (y < (0 : Int))))) = true then ((x.natAbs * y.natAbs : Nat) : Int) else -((x.natAbs * y.natAbs : Nat) : Int)) = x * y := by
  rw [Int.natCast_mul]
  have ex : ((x.natAbs : Nat) : Int) = if x < 0 then -x else x := by split <;> omega
  have ey : ((y.natAbs : Nat) : Int) = if y < 0 then -y else y := by split <;> omega
  rw [ex, ey]
  by_cases q1 : x < 0 <;> by_cases q2 : y < 0 <;> simp [q1, q2, Int.neg_mul_neg, Int.neg_mul, Int.mul_neg]
section
variable {W C : Nat} {S : MS} (hS : S.w = (W : Int)) (hC : S.c = (C : Int)) (h8 : 8 ≤ W) (h : W ≤ 30) (hC2 : 2 ≤ C)
include hS hC h8 h hC2 in
theorem product_ok {x y : Int} {N k : Nat} (hx : x.natAbs < 2 ^ N) (hy : y.natAbs < 2 ^ N) (hN : N ≤ lvl W k) (hN2 : N ≤ 1900000) (hk : 2 * k + 1 ≤ 40) :
    M_product_of S x y = some (x * y, runM (mulE W C k x y) S) := by
  have hw : W ≠ 0 := by omega
  unfold M_product_of mulE
  refine bnd_of (compact_is hw hS x y) ?_
  by_cases q : sz W x.natAbs ≤ 1 ∧ sz W y.natAbs ≤ 1
  · rw [if_pos (decide_eq_true q), if_pos q]
    refine bnd_of (chkP_eq (by decide +kernel)) ?_
    exact bnd_of (chkP_eq (mul_big (j := N) (k := N) hx hy (by omega))) rfl
  · rw [if_neg (by rw [decide_eq_true_iff]; exact q), if_neg q, hS]
    refine bnd_of (size_ok h8 h x) ?_
    refine bnd_of (size_ok h8 h y) ?_
    refine bnd_of (mul_ok h8 h hC2 k 40 S _ _ _ _ N hk hS hC (fit_sz hw hx) (fit_sz hw hy) hN hN2) ?_
    show some (_, _) = _
    rw [sgn_val]
include hS hC h8 h hC2 in
theorem multiply_ok {x y : Int} {N k : Nat} (hx : x.natAbs < 2 ^ N) (hy : y.natAbs < 2 ^ N) (hN : N ≤ lvl W k) (hN2 : N ≤ 1900000) (hk : 2 * k + 1 ≤ 40) :
    M_multiply S (bg W x) (bg W y) = some (bg W (x * y), runM (mulE W C k x y) S) := by
  have hw : W ≠ 0 := by omega
  unfold M_multiply
  refine bnd_of (two_ok hS x y) ?_
  refine bnd_of (product_ok hS hC h8 h hC2 hx hy hN hN2 hk) ?_
  refine bnd_of (bigof_ok (S := runM (mulE W C k x y) S) ((runM_w _ _).trans hS) h8 h ?_) rfl
  have p : (x * y).natAbs < 2 ^ (N + N) := nab_mul hx hy
  refine (sz_le hw).mpr (Nat.lt_of_lt_of_le p (pow_le2 ?_))
  have := Nat.mul_le_mul_right 4194304 h8
  omega
end
/-! ### both sides tell the same -/
def tot (w : Str) : List Ev → Int
  | [] => 0
  | .en _ _ _ :: l => tot w l
  | .st v k :: l => (if v = w then k else 0) + tot w l
theorem run_cnt (w : Str) : ∀ (l : List Ev) (S : MS), (runM l S).cnt w = S.cnt w + tot w l
  | [], S => (Int.add_zero _).symm
  | .en a m n :: l, S => by rw [runM_cons, run_cnt w l]; rfl
  | .st v k :: l, S => by
    rw [runM_cons, run_cnt w l]
    show (if w = v then S.cnt w + k else S.cnt w) + tot w l = S.cnt w + ((if v = w then k else 0) + tot w l)
    by_cases q : w = v
    · rw [if_pos q, if_pos q.symm]; omega
    · rw [if_neg q, if_neg fun z => q z.symm]; omega
theorem run_wk : ∀ (l : List Ev) (S : MS) (wk : List (T3 Str Int Int)), S.wk = wk.take 1000 → (runM l S).wk = (runW l wk).take 1000
  | [], _, _, h => h
  | .st _ _ :: l, S, wk, h => run_wk l _ _ h
  | .en w m n :: l, S, wk, h => by
    refine run_wk l _ _ ?_
    show (if S.wk.length < 1000 then S.wk ++ [T3.mk w m n] else S.wk) = (wk ++ [T3.mk w m n]).take 1000
    rw [h, List.length_take]
    by_cases q : wk.length < 1000
    · rw [if_pos (by omega), List.take_of_length_le (by omega), List.take_of_length_le (by rw [List.length_append]; show wk.length + 1 ≤ 1000; omega)]
    · rw [if_neg (by omega), List.take_append_of_le_length (by omega)]
theorem run_wkok : ∀ {l : List Ev} {S : MS}, EvOk l → WkOk S.wk → WkOk (runM l S).wk
  | [], _, _, h => h
  | .st _ _ :: l, S, he, h => run_wkok (l := l) (fun e q => he e (List.mem_cons_of_mem _ q)) h
  | .en w m n :: l, S, he, h => run_wkok (l := l) (fun e q => he e (List.mem_cons_of_mem _ q)) (wkok_enter h (he (.en w m n) List.mem_cons_self))
theorem cut_is {α : Type} (l : List α) (k : Nat) : cut l none (some (k : Int)) = l.take k := by
  have h1 : HT.sIx l.length 0 none = 0 := rfl
  have h2 : HT.sIx l.length l.length (some (k : Int)) = min k l.length := by rw [HT.sIx_nat]
  unfold cut
  rw [h1, h2, List.drop_zero, Nat.sub_zero]
  rcases Nat.le_total k l.length with q | q
  · rw [Nat.min_eq_left q]
  · rw [Nat.min_eq_right q, List.take_of_length_le (Nat.le_refl _), List.take_of_length_le q]
/-! what a call does to a machine, as a list of events that does not depend on the machine -/
def WEv (e : Ev) : Prop := match e with | .st w _ => w ∈ mwords | .en w _ _ => (PyData.str w).canLay0 = true
def WOk (l : List Ev) : Prop := ∀ e ∈ l, WEv e
theorem wok_nil : WOk [] := fun e h => (by cases h)
theorem wok_app {l m : List Ev} (h1 : WOk l) (h2 : WOk m) : WOk (l ++ m) := fun e h => (List.mem_append.mp h).elim (h1 e) (h2 e)
theorem wok_cons {e : Ev} {l : List Ev} (he : WEv e) (h : WOk l) : WOk (e :: l) := fun x hx => by
  rcases List.mem_cons.mp hx with q | q
  · rw [q]; exact he
  · exact h x q
theorem wrun_lay : ∀ {l : List Ev} {S : MS}, WOk l → WkOk S.wk → WkOk (runM l S).wk
  | [], _, _, h => h
  | .st _ _ :: l, S, he, h => wrun_lay (l := l) (fun e q => he e (List.mem_cons_of_mem _ q)) h
  | .en w m n :: l, S, he, h => wrun_lay (l := l) (fun e q => he e (List.mem_cons_of_mem _ q)) (wkok_enter h (he (.en w m n) List.mem_cons_self))
def Act (W : Nat) (f : MS → MS) : Prop := ∃ l, WOk l ∧ ∀ S : MS, S.w = (W : Int) → f S = runM l S
section
variable {W : Nat} {f g : MS → MS}
theorem act_id : Act W (fun S => S) := ⟨[], wok_nil, fun S _ => rfl⟩
theorem act_comp (hf : Act W f) (hg : Act W g) : Act W (fun S => g (f S)) := by
  obtain ⟨l, h1, h2⟩ := hf
  obtain ⟨m, h3, h4⟩ := hg
  refine ⟨l ++ m, wok_app h1 h3, fun S hS => ?_⟩
  rw [runM_app, ← h2 S hS]
  exact h4 _ (by rw [h2 S hS]; exact (runM_w _ _).trans hS)
theorem act_step (hf : Act W f) (w : Str) (k : Int) (hw : w ∈ mwords := by decide +kernel) : Act W (fun S => (f S).step w k) := act_comp hf (g := fun S => S.step w k) ⟨[.st w k], wok_cons hw wok_nil, fun S _ => rfl⟩
theorem act_enter (hf : Act W f) (w : Str) (m n : Int) (hw : (PyData.str w).canLay0 = true := by decide +kernel) : Act W (fun S => (f S).enter w m n) := act_comp hf (g := fun S => S.enter w m n) ⟨[.en w m n], wok_cons hw wok_nil, fun S _ => rfl⟩
theorem act_ite {p : Prop} [Decidable p] (hf : p → Act W f) (hg : ¬ p → Act W g) : Act W (fun S => if p then f S else g S) := by
  by_cases q : p
  · simpa [q] using hf q
  · simpa [q] using hg q
end
theorem tally_eq {S S' : MS} (h : S.cnt = S'.cnt) : S.tally = S'.tally := by unfold MS.tally; rw [h]
theorem mword_lay : ∀ w ∈ mwords, (PyData.str w).canLay0 = true := by decide +kernel
theorem tally_dat (S : MS) : Dat.ok (LF.mk S.tally) := fun x hx => ⟨mword_lay x.1 (mem_tally.mp hx).1, trivial⟩
/-- the walk's part of events -/
def evW : List Ev → List (T3 Str Int Int)
  | [] => []
  | .en w m n :: l => T3.mk w m n :: evW l
  | .st _ _ :: l => evW l
theorem runW_ev : ∀ (l : List Ev) (wk : List (T3 Str Int Int)), runW l wk = wk ++ evW l
  | [], wk => (List.append_nil wk).symm
  | .en w m n :: l, wk => by
    rw [runW_cons, runW_ev l]
    show (wk ++ [T3.mk w m n]) ++ evW l = wk ++ (T3.mk w m n :: evW l)
    rw [List.append_assoc]; rfl
  | .st _ _ :: l, wk => by rw [runW_cons, runW_ev l]; rfl
/-- a machine, another one that counts the same, and a walk that is kept by hand: a is what stands in the walk beside the other machine's -/
structure Tw (W C a : Nat) (S G : MS) (L : List (T3 Str Int Int)) : Prop where
  sw : S.w = (W : Int)
  sc : S.c = (C : Int)
  gw : G.w = (W : Int)
  gc : G.c = (C : Int)
  cnt : S.cnt = G.cnt
  wk : S.wk = L.take 1000
  len : L.length = a + G.wk.length
  g1 : G.wk.length ≤ 1000
  ok : WkOk L
  gok : WkOk G.wk
theorem run_pre {l : List Ev} {G : MS} (h : G.wk.length ≤ 1000) : (runM l G).wk = G.wk ++ (evW l).take (1000 - G.wk.length) := by
  have := run_wk l G G.wk (List.take_of_length_le h).symm
  rw [this, runW_ev, List.take_append, List.take_of_length_le h]
theorem tw_run {W C a : Nat} {S G : MS} {L : List (T3 Str Int Int)} {l : List Ev} (t : Tw W C a S G L) (he : EvOk l) : Tw W C a (runM l S) (runM l G) (L ++ (runM l G).wk.drop G.wk.length) := by
  have hp := run_pre (l := l) t.g1
  have hd : (runM l G).wk.drop G.wk.length = (evW l).take (1000 - G.wk.length) := by rw [hp, List.drop_left]
  have g2 : (runM l G).wk.length ≤ 1000 := by
    have h1 := t.g1
    rw [hp, List.length_append, List.length_take]; omega
  have gk : WkOk (runM l G).wk := run_wkok he t.gok
  refine ⟨(runM_w _ _).trans t.sw, (runM_c _ _).trans t.sc, (runM_w _ _).trans t.gw, (runM_c _ _).trans t.gc, ?_, ?_, ?_, g2, ?_, gk⟩
  · funext w; rw [run_cnt, run_cnt, t.cnt]
  · rw [run_wk l S L t.wk, runW_ev, hd, List.take_append, List.take_append, List.take_take]
    have h2 := t.len
    rw [show min (1000 - L.length) (1000 - G.wk.length) = 1000 - L.length from by omega]
  · have h2 := t.len
    rw [List.length_append, List.length_drop, h2]
    have : G.wk.length ≤ (runM l G).wk.length := by rw [hp, List.length_append]; omega
    omega
  · intro p hp
    rcases List.mem_append.mp hp with e | e
    · exact t.ok p e
    · exact gk p (List.mem_of_mem_drop e)
theorem tw_en {W C a : Nat} {S G : MS} {L : List (T3 Str Int Int)} {w : Str} {m n : Int} (t : Tw W C a S G L) (hw : (PyData.str w).canLay0 = true) : Tw W C (a + 1) (S.enter w m n) G (L ++ [T3.mk w m n]) := by
  refine ⟨t.sw, t.sc, t.gw, t.gc, t.cnt, ?_, ?_, t.g1, ?_, t.gok⟩
  · exact run_wk [.en w m n] S L t.wk
  · rw [List.length_append, t.len]; show a + _ + 1 = _; omega
  · intro p hp
    rcases List.mem_append.mp hp with e | e
    · exact t.ok p e
    · rw [List.mem_singleton.mp e]; exact hw
theorem tw_start {W C : Nat} {S G : MS} (h1 : S = MS.fresh (W : Int) (C : Int)) (h2 : G = MS.fresh (W : Int) (C : Int)) : Tw W C 0 S G [] := by
  subst h1 h2
  exact ⟨rfl, rfl, rfl, rfl, rfl, rfl, rfl, Nat.zero_le _, wkok_nil, wkok_nil⟩
theorem tw_runW {W C a : Nat} {S G : MS} {L : List (T3 Str Int Int)} {l : List Ev} (t : Tw W C a S G L) (he : WOk l) : Tw W C a (runM l S) (runM l G) (L ++ (runM l G).wk.drop G.wk.length) := by
  have hp := run_pre (l := l) t.g1
  have hd : (runM l G).wk.drop G.wk.length = (evW l).take (1000 - G.wk.length) := by rw [hp, List.drop_left]
  have g2 : (runM l G).wk.length ≤ 1000 := by
    have h1 := t.g1
    rw [hp, List.length_append, List.length_take]; omega
  have gk : WkOk (runM l G).wk := wrun_lay he t.gok
  refine ⟨(runM_w _ _).trans t.sw, (runM_c _ _).trans t.sc, (runM_w _ _).trans t.gw, (runM_c _ _).trans t.gc, ?_, ?_, ?_, g2, ?_, gk⟩
  · funext w; rw [run_cnt, run_cnt, t.cnt]
  · rw [run_wk l S L t.wk, runW_ev, hd, List.take_append, List.take_append, List.take_take]
    have h2 := t.len
    rw [show min (1000 - L.length) (1000 - G.wk.length) = 1000 - L.length from by omega]
  · have h2 := t.len
    rw [List.length_append, List.length_drop, h2]
    have : G.wk.length ≤ (runM l G).wk.length := by rw [hp, List.length_append]; omega
    omega
  · intro p hp
    rcases List.mem_append.mp hp with e | e
    · exact t.ok p e
    · exact gk p (List.mem_of_mem_drop e)
theorem tw_act {W C a : Nat} {S G : MS} {L : List (T3 Str Int Int)} {f : MS → MS} (t : Tw W C a S G L) (hf : Act W f) : Tw W C a (f S) (f G) (L ++ (f G).wk.drop G.wk.length) ∧ G.wk.length ≤ (f G).wk.length := by
  obtain ⟨l, h1, h2⟩ := hf
  rw [h2 S t.sw, h2 G t.gw]
  refine ⟨tw_runW t h1, ?_⟩
  rw [run_pre t.g1, List.length_append]; omega
theorem ran_ok {G G' : MS} {L : List (T3 Str Int Int)} {cs : List (Str × Int)} {ask : MS → Option (Bg × MS)} {r : Bg} (h : ask G = some (r, G')) (hl : G.wk.length ≤ G'.wk.length) (hs : L.length + G'.wk.length ≤ 16000000) : M__law_ran G L cs ask = some (r, G', L ++ G'.wk.drop G.wk.length) := by
  unfold M__law_ran
  refine bnd_of rfl ?_
  refine bnd_of h ?_
  rw [cut_drop _ hl]
  refine bnd_of (chkP_eq ?_) rfl
  rw [List.length_drop]
  exact size_le (m := 16000000) (by omega) (by decide)
theorem asw_ok {W C a : Nat} {S G : MS} {L : List (T3 Str Int Int)} (t : Tw W C a S G L) : M__law_as_world S G L [] = some true := by
  unfold M__law_as_world
  have el : S.tally = G.tally := tally_eq t.cnt
  refine bnd_of (chkP_eq (size_le (m := 10) (Nat.le_of_eq (tally_len G)) (by decide))) ?_
  refine bnd_of (a := (G.tally, ())) ?_ ?_
  · refine (lcM_all (fun a3 : Str × Int => (a3.1, (a3.2 + (([] : List (Str × Int)).lookup a3.1).getD (0 : Int)))) G.tally).trans ?_
    congr 2
    rw [List.map_congr_left (g := id) fun x _ => by
      show (x.1, x.2 + 0) = x
      rw [Int.add_zero], List.map_id]
  refine bnd_of (chkP_eq ⟨tally_dat S, tally_dat G⟩) ?_
  refine bnd_of (chkP_eq (eqD_iff.mpr (congrArg LF.mk el))) ?_
  have ec : cut L none (some (1000 : Int)) = L.take 1000 := cut_is L 1000
  rw [ec]
  refine bnd_of (chkP_eq ⟨?_, ?_⟩) ?_
  · rw [t.wk]; exact wkok_dat fun p hp => t.ok p (List.mem_of_mem_take hp)
  · exact wkok_dat fun p hp => t.ok p (List.mem_of_mem_take hp)
  exact bnd_of (chkP_eq (eqD_iff.mpr (congrArg LF.mk t.wk))) rfl
theorem rngA_get {a c : Int} {n i : Nat} {x : Int} (h : (rngA a c n)[i]? = some x) : i < n ∧ x = a + (i : Int) * c := by
  unfold rngA at h
  rw [List.getElem?_map] at h
  cases hr : (List.range n)[i]? with
  | none => rw [hr] at h; cases h
  | some k =>
    obtain ⟨h1, h2⟩ := List.getElem?_eq_some_iff.mp hr
    rw [List.getElem_range] at h2
    rw [hr] at h
    subst h2
    rw [List.length_range] at h1
    exact ⟨h1, (Option.some.inj h).symm⟩
theorem rngA_len (a c : Int) (n : Nat) : (rngA a c n).length = n := by unfold rngA; rw [List.length_map, List.length_range]
/-- lo, lo + 2, .. : the product of so many -/
def oddp (lo : Nat) : Nat → Nat
  | 0 => 1
  | m + 1 => oddp lo m * (lo + 2 * m)
theorem oddp_add {lo a : Nat} : ∀ b, oddp lo (a + b) = oddp lo a * oddp (lo + 2 * a) b
  | 0 => (Nat.mul_one _).symm
  | b + 1 => by
    show oddp lo (a + b) * (lo + 2 * (a + b)) = oddp lo a * (oddp (lo + 2 * a) b * (lo + 2 * a + 2 * b))
    rw [oddp_add b, Nat.mul_assoc, show lo + 2 * (a + b) = lo + 2 * a + 2 * b by omega]
theorem oddp_lt {lo m : Nat} : ∀ k, k ≤ m → lo + 2 * m ≤ 2048 → oddp lo k < 2 ^ (11 * k + 1)
  | 0, _, _ => by show 1 < 2 ^ 1; decide
  | k + 1, hk, h => by
    have h1 := oddp_lt k (by omega) h
    have h2 : lo + 2 * k ≤ 2 ^ 11 := by
      rw [show (2 : Nat) ^ 11 = 2048 from rfl]; omega
    rw [show 11 * (k + 1) + 1 = 11 * k + 1 + 11 by omega, Nat.pow_add]
    rcases Nat.eq_zero_or_pos (lo + 2 * k) with z | z
    · show oddp lo k * (lo + 2 * k) < _
      rw [z, Nat.mul_zero]; exact Nat.mul_pos (Nat.two_pow_pos _) (Nat.two_pow_pos _)
    · exact Nat.mul_lt_mul_of_lt_of_le h1 h2 (Nat.two_pow_pos _)
def fac : Nat → Nat
  | 0 => 1
  | n + 1 => fac n * (n + 1)
theorem fac_lt : ∀ n, n ≤ 2048 → fac n < 2 ^ (11 * n + 1)
  | 0, _ => by show 1 < 2 ^ 1; decide
  | n + 1, h => by
    have h1 := fac_lt n (by omega)
    have h2 : n + 1 ≤ 2 ^ 11 := by
      rw [show (2 : Nat) ^ 11 = 2048 from rfl]; omega
    rw [show 11 * (n + 1) + 1 = 11 * n + 1 + 11 by omega, Nat.pow_add]
    exact Nat.mul_lt_mul_of_lt_of_le h1 h2 (Nat.two_pow_pos _)
/-- the odd numbers up to m, multiplied -/
def oddO (m : Nat) : Nat := oddp 3 ((m - 1) / 2)
def oddR (m : Nat) : Nat := if h : m ≤ 1 then 1 else oddR (m / 2) * oddO m
theorem oddR_le {m : Nat} (h : m ≤ 1) : oddR m = 1 := by rw [oddR, dif_pos h]
theorem oddR_gt {m : Nat} (h : ¬ m ≤ 1) : oddR m = oddR (m / 2) * oddO m := by rw [oddR, dif_neg h]
theorem oddO_odd (m : Nat) : oddO (2 * m + 3) = oddO (2 * m + 2) * (2 * m + 3) := by
  unfold oddO
  rw [show (2 * m + 3 - 1) / 2 = m + 1 by omega, show (2 * m + 2 - 1) / 2 = m by omega]
  show oddp 3 m * (3 + 2 * m) = _
  rw [Nat.add_comm 3]
theorem oddO_even (m : Nat) : oddO (2 * m + 2) = oddO (2 * m + 1) := by
  unfold oddO
  rw [show (2 * m + 2 - 1) / 2 = m by omega, show (2 * m + 1 - 1) / 2 = m by omega]
theorem fac_two : ∀ m, fac (2 * m) = 2 ^ m * fac m * oddO (2 * m) ∧ fac (2 * m + 1) = 2 ^ m * fac m * oddO (2 * m + 1)
  | 0 => ⟨rfl, rfl⟩
  | m + 1 => by
    have ih := (fac_two m).2
    have h1 : fac (2 * (m + 1)) = 2 ^ (m + 1) * fac (m + 1) * oddO (2 * (m + 1)) := by
      show fac (2 * m + 1) * (2 * m + 2) = 2 ^ (m + 1) * (fac m * (m + 1)) * oddO (2 * m + 2)
      rw [ih, oddO_even, Nat.pow_succ]
      have : 2 * m + 2 = 2 * (m + 1) := by omega
      rw [this]
      ac_rfl
    refine ⟨h1, ?_⟩
    have e : oddO (2 * (m + 1) + 1) = oddO (2 * (m + 1)) * (2 * (m + 1) + 1) := oddO_odd m
    show fac (2 * (m + 1)) * (2 * (m + 1) + 1) = _
    rw [h1, e, Nat.mul_assoc]
theorem fac_half (n : Nat) : fac n = 2 ^ (n / 2) * fac (n / 2) * oddO n := by
  obtain ⟨h1, h2⟩ := fac_two (n / 2)
  rcases Nat.mod_two_eq_zero_or_one n with e | e
  · rw [show 2 * (n / 2) = n by omega] at h1; exact h1
  · rw [show 2 * (n / 2) + 1 = n by omega] at h2; exact h2
theorem pc_le : ∀ (n m : Nat), m ≤ n → pc m ≤ m
  | 0, m, h => by rw [Nat.le_zero.mp h, pc0]; exact Nat.le_refl _
  | n + 1, m, h => by
    by_cases z : m = 0
    · rw [z, pc0]; exact Nat.le_refl _
    · rw [pc_half]
      have := pc_le n (m / 2) (by omega)
      omega
theorem fac_R : ∀ (n m : Nat), m ≤ n → fac m = oddR m * 2 ^ (m - pc m)
  | 0, m, h => by rw [Nat.le_zero.mp h, oddR_le (Nat.zero_le 1), pc0]; rfl
  | n + 1, m, h => by
    by_cases z : m ≤ 1
    · rw [oddR_le z]
      rcases (show m = 0 ∨ m = 1 by omega) with e | e <;> rw [e]
      · rw [pc0]; rfl
      · rw [show pc 1 = 1 from by rw [pc_half]; show 1 + pc 0 = 1; rw [pc0]]; rfl
    · have ih := fac_R n (m / 2) (by omega)
      have p1 := pc_le (m / 2) (m / 2) (Nat.le_refl _)
      have p2 := pc_half m
      rw [fac_half m, ih, oddR_gt z, show m - pc m = m / 2 + (m / 2 - pc (m / 2)) by omega, Nat.pow_add]
      ac_rfl
theorem oddR_lt {m : Nat} (h : m ≤ 2048) : oddR m < 2 ^ (11 * m + 1) := by
  have h1 := fac_R m m (Nat.le_refl _)
  have h2 := fac_lt m h
  exact Nat.lt_of_le_of_lt (by rw [h1]; exact Nat.le_mul_of_pos_right _ (Nat.two_pow_pos _)) h2
theorem bor_one (x : Nat) : Builtin.bitOr (x : Int) (1 : Int) = ((x + 1 - x % 2 : Nat) : Int) := by
  rw [bor_eq]
  have h := and_low (x : Int) 1
  rw [show (((2 ^ 1 - 1 : Nat) : Nat) : Int) = 1 from rfl] at h
  rw [show band (x : Int) 1 = (x : Int) % 2 ^ 1 from h]
  omega
theorem cshift_ok {W : Nat} {S : MS} (hS : S.w = (W : Int)) (a : Int) {c : Int} (hc : 0 ≤ c) : M_check_shift S (bg W a) c = some () := by
  unfold M_check_shift
  refine bnd_of (one_big hS a) ?_
  refine bnd_of (show M_is_integer c = some true from rfl) ?_
  refine bnd_of (chkP_eq rfl) ?_
  exact bnd_of (chkP_eq (decide_eq_false (by omega))) rfl
/-- what a shift to the left counts -/
def leftS (W : Nat) (S : MS) (x c : Int) : MS := if x = 0 then S else if sz W x.natAbs = 1 ∧ c < (W : Int) then S.step "short" 1 else (S.enter "left" (sz W x.natAbs : Nat) c).step "shifted" (sz W x.natAbs : Nat)
theorem leftS_w {W : Nat} {S : MS} {x c : Int} : (leftS W S x c).w = S.w := by
  unfold leftS
  (repeat' split) <;> rfl
theorem sleft_ok {W : Nat} {S : MS} (hS : S.w = (W : Int)) (h8 : 8 ≤ W) (h : W ≤ 30) {x : Int} {c : Nat} (hx : x ≠ 0 → bl x.natAbs + c ≤ 134217728) : M_shifted_left S x (c : Int) = some (x * 2 ^ c, leftS W S x c) := by
  unfold M_shifted_left leftS
  by_cases e : x = 0
  · rw [if_pos (decide_eq_true e), if_pos e, e, Int.zero_mul]
  · rw [if_neg (by simpa using e), if_neg e, hS]
    refine bnd_of (size_ok h8 h x) ?_
    refine bnd_of (a := if sz W x.natAbs = 1 ∧ (c : Int) < (W : Int) then S.step "short" 1 else (S.enter "left" (sz W x.natAbs : Nat) c).step "shifted" (sz W x.natAbs : Nat)) ?_ ?_
    · by_cases q : sz W x.natAbs = 1 ∧ (c : Int) < (W : Int)
      · rw [if_pos (by rw [decide_eq_true (by rw [q.1]; rfl), decide_eq_true q.2]; rfl), if_pos q]
        exact bnd_of (chkP_eq (by decide +kernel)) rfl
      · rw [if_neg (by rw [Bool.and_eq_true, decide_eq_true_iff, decide_eq_true_iff]; omega), if_neg q]
        exact bnd_of (chkP_eq (by decide +kernel)) rfl
    · refine bnd_of (chkP_eq (shl_ok (k := bl x.natAbs) (bl_lt _) (by omega) (by have := hx e; omega))) ?_
      rw [Int.toNat_natCast]
theorem left_ok {W : Nat} {S : MS} (hS : S.w = (W : Int)) (h8 : 8 ≤ W) (h : W ≤ 30) {x : Int} {c : Nat} (hc : x ≠ 0 → c ≤ 100000) (hx : bl x.natAbs ≤ 30000000) : M_shift_left S (bg W x) (c : Int) = some (bg W (x * 2 ^ c), leftS W S x c) := by
  unfold M_shift_left
  refine bnd_of (cshift_ok hS x (by omega)) ?_
  refine bnd_of (chkP_eq ?_) ?_
  · by_cases e : x = 0
    · rw [decide_eq_true (show (bg W x).v = 0 from e)]; rfl
    · have := hc e
      rw [decide_eq_false (show ¬ (100000 : Int) < (c : Int) from by omega)]
      exact Bool.and_false _
  · refine bnd_of (sleft_ok (x := x) hS h8 h fun e => by have := hc e; omega) ?_
    refine bnd_of (bigof_ok (leftS_w.trans hS) h8 h ?_) rfl
    rw [sz_le (by omega), ← bl_le]
    by_cases e : x = 0
    · rw [e, Int.zero_mul]; exact Nat.zero_le _
    · have hc2 := hc e
      rw [Int.natAbs_mul, Int.natAbs_pow]
      have : bl (x.natAbs * 2 ^ c) ≤ bl x.natAbs + c := by
        rw [bl_le, Nat.pow_add]
        exact Nat.mul_lt_mul_of_pos_right (bl_lt _) (Nat.two_pow_pos c)
      exact Nat.le_trans this (by omega)
theorem act_left {W : Nat} (x c : Int) : Act W (fun S => leftS W S x c) := by
  unfold leftS
  refine act_ite (fun _ => act_id) fun _ => ?_
  exact act_ite (fun _ => act_step act_id "short" 1) fun _ => act_step (act_enter act_id "left" _ _) "shifted" _
theorem ones_ok (d : Nat) : M_ones_of (d : Int) = some ((pc d : Nat) : Int) := by
  have loop : ∀ (n : Nat) (d : Nat) (fuel : Nat) (k : Int), d ≤ n → d < fuel → whileM (ρ := Unit) (fun (s1 : Int × Int) => some (decide ((0 : Int) < s1.1))) (fun (s1 : Int × Int) => (some (Builtin.bitAnd s1.1 (s1.1 - (1 : Int)))).bind fun y2 => (some (s1.2 + (1 : Int))).bind fun y3 => some (Stp.nx (y2, y3))) fuel ((d : Int), k) = some (.nx ((0 : Int), k + ((pc d : Nat) : Int))) := by
    intro n
    induction n with
    | zero =>
      intro d fuel k hd hf
      obtain rfl : d = 0 := by omega
      obtain ⟨m, rfl⟩ : ∃ m, fuel = m + 1 := ⟨fuel - 1, by omega⟩
      rw [pc0, show k + ((0 : Nat) : Int) = k from by omega]
      exact whileM_f rfl
    | succ n ih =>
      intro d fuel k hd hf
      obtain ⟨m, rfl⟩ : ∃ m, fuel = m + 1 := ⟨fuel - 1, by omega⟩
      by_cases e : d = 0
      · subst e
        rw [pc0, show k + ((0 : Nat) : Int) = k from by omega]
        exact whileM_f rfl
      · have lt := kern_lt e
        rw [whileM_t (s' := (((d &&& (d - 1) : Nat) : Int), k + 1)) (by show some (decide ((0 : Int) < (d : Int))) = some true; rw [decide_eq_true (by omega)]) (by
          show some (Stp.nx (Builtin.bitAnd (d : Int) ((d : Int) - 1), k + 1)) = _
          rw [show ((d : Int) - 1) = ((d - 1 : Nat) : Int) from by omega, PySem.W.os_band]), ih _ m (k + 1) (by omega) (by omega), pc_kern d (Nat.le_refl d) e]
        rw [show k + 1 + ((pc (d &&& (d - 1)) : Nat) : Int) = k + ((pc (d &&& (d - 1)) + 1 : Nat) : Int) from by omega]
  unfold M_ones_of
  rw [Int.toNat_natCast, loop d d (d + 1) 0 (Nat.le_refl d) (by omega)]
  simp only [Option.bind_some, nxt_nx]
  rw [Int.zero_add]
theorem atI_m1' {α : Type} {r : List α} {x : α} : atI (r ++ [x]) (-1) = some x := by
  have h : ixN (r ++ [x]).length (-1) = some r.length := by
    unfold ixN
    rw [List.length_append]
    show _ = some r.length
    simp
    omega
  show (ixN (r ++ [x]).length (-1)).bind (fun j => (r ++ [x])[j]?) = some x
  rw [h, Option.bind_some, List.getElem?_append_right (Nat.le_refl _), Nat.sub_self]
  rfl
theorem rngD_suc (j : Nat) : rngD ((j : Int)) (j + 1) = (j : Int) :: rngD ((j : Int) - 1) j := by
  unfold rngD
  rw [List.range_succ_eq_map, List.map_cons, List.map_map]
  refine List.cons_eq_cons.mpr ⟨by simp, List.map_congr_left fun k _ => ?_⟩
  show (j : Int) + ((k + 1 : Nat) : Int) * (-1) = (j : Int) - 1 + (k : Int) * (-1)
  omega
theorem rngA_last (a c : Int) (n : Nat) : rngA a c (n + 1) = rngA a c n ++ [a + (n : Int) * c] := by
  unfold rngA
  rw [List.range_succ, List.map_append]
  rfl
theorem pfrom_ok {lo m : Nat} (h : lo + 2 * m ≤ 4000) : M_product_from (lo : Int) ((lo + 2 * m : Nat) : Int) (2 : Int) = some ((oddp lo m : Nat) : Int) := by
  unfold M_product_from
  refine bnd_of (chkP_eq ⟨by decide, by decide, by omega, by omega, by omega⟩) ?_
  rw [show ((((lo + 2 * m : Nat) : Int) - (lo : Int) + 2 - 1) / 2).toNat = m from by omega]
  refine sat_get (sat_for (fun i s => s = ((oddp lo i : Nat) : Int)) (fun i x s hx hs => ?_) rfl fun s hs => ?_)
  · obtain ⟨h1, h2⟩ := rngA_get hx
    rw [hs, h2]
    refine sat_chk (.of_right (intBits_le_64 (by omega) (by omega))) ?_
    refine sat_let ?_
    refine sat_end ?_
    show _ = ((oddp lo i * (lo + 2 * i) : Nat) : Int)
    rw [Int.natCast_mul]
    congr 1
    omega
  · rw [rngA_len] at hs
    exact sat_nx (sat_some hs)
theorem pfac_ok {n : Nat} (h : n ≤ 4000) : M_product_from (1 : Int) ((n : Int) + (1 : Int)) (1 : Int) = some ((fac n : Nat) : Int) := by
  unfold M_product_from
  refine bnd_of (chkP_eq ⟨by decide, by decide, by omega, by omega, by omega⟩) ?_
  rw [show (((n : Int) + 1 - 1 + 1 - 1) / 1).toNat = n from by omega]
  refine sat_get (sat_for (fun i s => s = ((fac i : Nat) : Int)) (fun i x s hx hs => ?_) rfl fun s hs => ?_)
  · obtain ⟨h1, h2⟩ := rngA_get hx
    rw [hs, h2]
    refine sat_chk (.of_right (intBits_le_64 (by omega) (by omega))) ?_
    refine sat_let ?_
    refine sat_end ?_
    show _ = ((fac i * (i + 1) : Nat) : Int)
    rw [Int.natCast_mul]
    congr 1
    omega
  · rw [rngA_len] at hs
    exact sat_nx (sat_some hs)
theorem odd_bits {lo m : Nat} (h3 : 3 ≤ lo) (h : lo + 2 * m ≤ 2048) : ∃ b : Nat, Builtin.Int.intBits (((lo + 2 * m : Nat) : Int) - 2) = b ∧ 1 ≤ b ∧ b ≤ 11 := by
  refine ⟨_, rfl, ?_, ?_⟩
  · rw [intBits_abs]
    refine Nat.one_le_iff_ne_zero.mpr fun z => ?_
    have := bl_le.mp (Nat.le_of_eq z)
    omega
  · rw [intBits_abs]
    exact bl_le.mpr (by rw [show (2 : Nat) ^ 11 = 2048 from rfl]; omega)
section
variable {W C : Nat} (h8 : 8 ≤ W) (h30 : W ≤ 30) (hC2 : 2 ≤ C)
def oddLow (m : Nat) : Nat := 3 + 2 * ((m - 1) / 2)
theorem low_or {m : Nat} (h : 2 < m) : Builtin.bitOr ((m : Int) + (1 : Int)) (1 : Int) = ((oddLow m : Nat) : Int) := by
  rw [show (m : Int) + 1 = ((m + 1 : Nat) : Int) from by omega, bor_one]
  unfold oddLow
  omega
theorem bl_top {n : Nat} (h : n ≠ 0) : n / 2 ^ (bl n - 1) = 1 := by
  have b1 : bl n ≠ 0 := fun z => h (by have := bl_le.mp (Nat.le_of_eq z); rw [Nat.pow_zero] at this; omega)
  have h1 : n < 2 ^ bl n := bl_lt n
  have h2 : ¬ n < 2 ^ (bl n - 1) := fun z => by have := bl_le.mpr z; omega
  rw [show bl n = bl n - 1 + 1 from by omega, Nat.pow_succ] at h1
  exact Nat.div_eq_of_lt_le (by omega) (by omega)
end
theorem lcM_fm {γ δ : Type} {b : γ → Unit → Option (Option δ × Unit)} {p : γ → Bool} {f : γ → δ} : ∀ {l : List γ}, (∀ x ∈ l, b x () = some (if p x = true then some (f x) else none, ())) → lcM b l () = some ((l.filter p).map f, ())
  | [], _ => rfl
  | x :: r, h => by
    show (b x ()).bind _ = _
    rw [h x List.mem_cons_self, List.filter_cons]
    show (lcM b r ()).bind _ = _
    rw [lcM_fm fun y hy => h y (List.mem_cons_of_mem _ hy)]
    cases p x <;> rfl
theorem odd_lay : (PyData.str ("odd part" : Str)).canLay0 = true := by decide +kernel
theorem oprod_loop {lo m : Nat} (h : lo + 2 * m ≤ 4000) {β : Type} {g : Stp Int Unit → Option β} {r : β} (hg : g (Stp.nx ((oddp lo m : Nat) : Int)) = some r) : (forM' (ρ := Unit) (fun (a9 : Int) (s8 : Int) => (chkP (IntMulOk s8 a9)).bind fun z10 => (some (s8 * a9)).bind fun y11 => some (Stp.nx y11)) (rngA (lo : Int) 2 m) (1 : Int)).bind g = some r := by
  refine sat_get (sat_for (fun i s => s = ((oddp lo i : Nat) : Int)) (fun i x s hx hs => ?_) rfl fun s hs => ?_)
  · obtain ⟨h1, h2⟩ := rngA_get hx
    rw [hs, h2]
    refine sat_chk (.of_right (intBits_le_64 (by omega) (by omega))) ?_
    refine sat_let ?_
    refine sat_end ?_
    show _ = ((oddp lo i * (lo + 2 * i) : Nat) : Int)
    rw [Int.natCast_mul]
    congr 1
    omega
  · rw [rngA_len] at hs
    rw [hs]
    exact ⟨_, hg, rfl⟩
section
variable {W C : Nat} (h8 : 8 ≤ W) (h30 : W ≤ 30) (hC2 : 2 ≤ C)
include h8 h30 hC2 in
theorem mul_tw {cs : List (Str × Int)} {a : Nat} {S G : MS} {L : List (T3 Str Int Int)} {x y : Nat} (t : Tw W C a S G L) (ha : a ≤ 100000) (hx : x < 2 ^ 12200) (hy : y < 2 ^ 12200) :
    ∃ S' G' L', M_product_of S (x : Int) (y : Int) = some (((x * y : Nat) : Int), S') ∧ M__law_ran G L cs (fun m => (M_multiply m (bg W (x : Int)) (bg W (y : Int))).bind fun z => some (z.1, z.2)) = some (bg W ((x * y : Nat) : Int), G', L') ∧ Tw W C a S' G' L' := by
  have hl : 12200 ≤ lvl W 13 := by unfold lvl; omega
  have pm := product_ok t.sw t.sc h8 h30 hC2 (x := (x : Int)) (y := (y : Int)) (N := 12200) (k := 13) (by rw [Int.natAbs_natCast]; exact hx) (by rw [Int.natAbs_natCast]; exact hy) hl (by decide) (by decide)
  have pg := multiply_ok t.gw t.gc h8 h30 hC2 (x := (x : Int)) (y := (y : Int)) (N := 12200) (k := 13) (by rw [Int.natAbs_natCast]; exact hx) (by rw [Int.natAbs_natCast]; exact hy) hl (by decide) (by decide)
  rw [← Int.natCast_mul] at pm pg
  have ho := mulE_ok (W := W) (C := C) (k := 13) (x := (x : Int)) (y := (y : Int))
  generalize mulE W C 13 (x : Int) (y : Int) = E at pm pg ho
  have t3 := tw_run t ho
  have tl := t.len
  have tg := t.g1
  have tg3 := t3.g1
  refine ⟨_, _, _, pm, ran_ok (G := G) (L := L) (G' := runM E G) (bnd_of pg rfl) (by rw [run_pre t.g1, List.length_append]; omega) (by omega), t3⟩
include h8 h30 hC2 in
theorem odds_ok (cs : List (Str × Int)) : ∀ (j f lo m a : Nat) (S G : MS) (L : List (T3 Str Int Int)), j + 1 ≤ f → 1 ≤ m → m ≤ 5 * 2 ^ j → lo % 2 = 1 → 3 ≤ lo → lo + 2 * m ≤ 2048 → Tw W C a S G L → a + 2 * m ≤ 90000 →
    ∃ S' G' L' a', M_odd_product f S (lo : Int) ((lo + 2 * m : Nat) : Int) = some (((oddp lo m : Nat) : Int), S') ∧ M__law_odds f G L cs (lo : Int) ((lo + 2 * m : Nat) : Int) = some (bg W ((oddp lo m : Nat) : Int), G', L') ∧ Tw W C a' S' G' L' ∧ a' + 1 ≤ a + 2 * m
  | j, 0, _, _, _, _, _, _, hf, _, _, _, _, _, _, _ => by omega
  | j, f + 1, lo, m, a, S, G, L, hf, hm1, hm, ho, h3, hl, t, ha => by
    obtain ⟨b, eb, b1, b2⟩ := odd_bits h3 hl
    have tl := t.len
    have tg := t.g1
    have hc : chkP (L.length < sizeLine) = some () := chkP_eq (size_lt (m := 200000) (by omega) (by decide))
    have t1 := tw_en (w := "odd part") (m := (lo : Int)) (n := ((lo + 2 * m : Nat) : Int)) t odd_lay
    have en : ((((lo + 2 * m : Nat) : Int) - (lo : Int) + (2 : Int) - 1) / (2 : Int)).toNat = m := by omega
    have hr : CRgA (lo : Int) ((lo + 2 * m : Nat) : Int) 2 ∧ ((((lo + 2 * m : Nat) : Int) - (lo : Int) + (2 : Int) - 1) / (2 : Int)).toNat ≤ 16777216 := ⟨⟨by decide, by decide, by omega, by omega, by omega⟩, by omega⟩
    have o0 := oddp_lt (lo := lo) (m := m) m (Nat.le_refl _) hl
    have cnd : ((if (decide (((rngA (lo : Int) 2 m).length : Int) ≤ (64 : Int))) = true then (atI (rngA (lo : Int) 2 m) (-(1 : Int))).bind fun z4 => (chkP (IntMulOk ((rngA (lo : Int) 2 m).length : Int) ((Builtin.Int.intBits z4 : Nat) : Int))).bind fun z5 => some (decide ((((rngA (lo : Int) 2 m).length : Int) * ((Builtin.Int.intBits z4 : Nat) : Int)) ≤ (64 : Int))) else some false) : Option Bool) = some (decide (m * b ≤ 64)) := by
      rw [rngA_len]
      by_cases q : m ≤ 64
      · rw [if_pos (decide_eq_true (by omega))]
        obtain ⟨k, rfl⟩ : ∃ k, m = k + 1 := ⟨m - 1, by omega⟩
        rw [rngA_last]
        refine bnd_of atI_m1' ?_
        rw [show (lo : Int) + (k : Int) * 2 = ((lo + 2 * (k + 1) : Nat) : Int) - 2 from by omega, eb]
        refine bnd_of (chkP_eq (.of_left (intBits_le_64 (by omega) (by omega)))) ?_
        rw [← Int.natCast_mul]
        exact congrArg some (decide_eq_decide.mpr (by omega))
      · rw [if_neg (by rw [decide_eq_true_iff]; omega), decide_eq_false]
        intro z
        have := Nat.le_mul_of_pos_right m b1
        omega
    rw [M__law_odds_succ, M_odd_product_succ]
    by_cases q : m * b ≤ 64
    · refine ⟨_, G, L ++ [T3.mk ("odd part" : Str) (lo : Int) ((lo + 2 * m : Nat) : Int)], a + 1, ?_, ?_, t1, by omega⟩
      · refine bnd_of (chkP_eq (cdiv_s (by decide) (by decide))) ?_
        rw [show (((lo + 2 * m : Nat) : Int) - (lo : Int)) / 2 = (m : Int) from by omega]
        refine bnd_of rfl ?_
        rw [eb]
        refine bnd_of (chkP_eq (.of_right (intBits_le_64 (by omega) (by omega)))) ?_
        rw [if_pos (decide_eq_true (by rw [← Int.natCast_mul]; omega))]
        exact bnd_of (pfrom_ok (by omega)) rfl
      · refine bnd_of hc ?_
        refine bnd_of (chkP_eq hr) ?_
        rw [en]
        refine bnd_of rfl ?_
        refine bnd_of cnd ?_
        rw [if_pos (decide_eq_true q)]
        refine oprod_loop (by omega) ?_
        refine bnd_of (nxt_nx) ?_
        refine bnd_of (big_ok t.gw h8 h30 ?_) rfl
        rw [Int.natAbs_natCast]
        exact Nat.le_trans ((sz_le (k := 12200) (by omega)).mpr (Nat.lt_of_lt_of_le o0 (pow_le2 (by
          have := Nat.mul_le_mul_right 12200 (show 1 ≤ W by omega)
          omega)))) (by decide)
    · have m6 : 6 ≤ m := Nat.le_of_not_lt fun z => q (Nat.le_trans (Nat.mul_le_mul (show m ≤ 5 by omega) b2) (by decide))
      obtain ⟨i, rfl⟩ : ∃ i, j = i + 1 := ⟨j - 1, by
        rcases Nat.eq_zero_or_pos j with z | z
        · rw [z] at hm; omega
        · omega⟩
      rw [Nat.pow_succ] at hm
      obtain ⟨S1, G1, L1, a1, p1, l1, tw1, bd1⟩ := odds_ok cs i f lo ((m + 1) / 2) (a + 1) _ _ _ (by omega) (by omega) (by omega) ho h3 (by omega) t1 (by omega)
      obtain ⟨S2, G2, L2, a2, p2', l2, tw2, bd2⟩ := odds_ok cs i f (lo + 2 * ((m + 1) / 2)) (m / 2) a1 _ _ _ (by omega) (by omega) (by omega) (by omega) (by omega) (by omega) tw1 (by omega)
      rw [show lo + 2 * ((m + 1) / 2) + 2 * (m / 2) = lo + 2 * m from by omega] at p2' l2
      have o1 := oddp_lt (lo := lo) (m := m) ((m + 1) / 2) (by omega) hl
      have o2 := oddp_lt (lo := lo + 2 * ((m + 1) / 2)) (m := m / 2) (m / 2) (Nat.le_refl _) (by omega)
      obtain ⟨S3, G3, L3, pm, lm, tw3⟩ := mul_tw h8 h30 hC2 (cs := cs) tw2 (by omega) (Nat.lt_of_lt_of_le o1 (pow_le2 (by omega))) (Nat.lt_of_lt_of_le o2 (pow_le2 (by omega)))
      rw [← oddp_add, show (m + 1) / 2 + m / 2 = m from by omega] at pm lm
      refine ⟨S3, G3, L3, a2, ?_, ?_, tw3, by omega⟩
      · refine bnd_of (chkP_eq (cdiv_s (by decide) (by decide))) ?_
        rw [show (((lo + 2 * m : Nat) : Int) - (lo : Int)) / 2 = (m : Int) from by omega]
        refine bnd_of rfl ?_
        rw [eb]
        refine bnd_of (chkP_eq (.of_right (intBits_le_64 (by omega) (by omega)))) ?_
        rw [if_neg (by rw [decide_eq_true_iff, ← Int.natCast_mul]; omega)]
        rw [show (lo : Int) + (m : Int) = ((lo + m : Nat) : Int) from by omega, bor_one, show lo + m + 1 - (lo + m) % 2 = lo + 2 * ((m + 1) / 2) from by omega]
        refine bnd_of rfl ?_
        refine bnd_of p1 ?_
        refine bnd_of p2' ?_
        exact bnd_of pm rfl
      · refine bnd_of hc ?_
        refine bnd_of (chkP_eq hr) ?_
        rw [en]
        refine bnd_of rfl ?_
        refine bnd_of cnd ?_
        rw [if_neg (by rw [decide_eq_true_iff]; exact q), rngA_len]
        rw [show (lo : Int) + (m : Int) = ((lo + m : Nat) : Int) from by omega, bor_one, show lo + m + 1 - (lo + m) % 2 = lo + 2 * ((m + 1) / 2) from by omega]
        refine bnd_of rfl ?_
        refine bnd_of l1 ?_
        refine bnd_of l2 ?_
        exact bnd_of lm rfl
theorem oddO_lt {k : Nat} (h : k ≤ 1100) : oddO k < 2 ^ 12200 := by
  have := oddp_lt (lo := 3) (m := (k - 1) / 2) _ (Nat.le_refl _) (by omega)
  exact Nat.lt_of_lt_of_le this (pow_le2 (by omega))
theorem oddR_lt2 {k : Nat} (h : k ≤ 1100) : oddR k < 2 ^ 12200 := Nat.lt_of_lt_of_le (oddR_lt (by omega)) (pow_le2 (by omega))
abbrev S4 := Int × Int × Int × MS
abbrev S5 := Bg × Bg × Int × MS × List (T3 Str Int Int)
noncomputable def mb (n : Int) : Int → S4 → Option (Stp S4 Unit) := fun (a4 : Int) (s3 : Int × Int × Int × MS) => (chkP (0 ≤ a4)).bind fun z5 => (some (n / 2 ^ (a4).toNat)).bind fun y6 => if (decide ((2 : Int) < y6)) = true then (some (Builtin.bitOr (y6 + (1 : Int)) (1 : Int))).bind fun y7 => (M_odd_product 20 s3.2.2.2 s3.2.2.1 y7).bind fun z8 => (M_product_of z8.2 s3.1 z8.1).bind fun z9 => (M_product_of z9.2 s3.2.1 z9.1).bind fun z10 => some (Stp.nx (z9.1, z10.1, y7, z10.2)) else some (Stp.nx (s3.1, s3.2.1, s3.2.2.1, s3.2.2.2))
noncomputable def lb (n : Int) (x3 : List (Str × Int)) : Int → S5 → Option (Stp S5 Unit) := fun (a6 : Int) (s5 : Bg × Bg × Int × MS × (List (T3 Str Int Int))) => (chkP (0 ≤ a6)).bind fun z7 => (some (n / 2 ^ (a6).toNat)).bind fun y8 => if (decide ((2 : Int) < y8)) = true then (some ((y8 + (1 : Int)) + (Builtin.bitAnd y8 (1 : Int)))).bind fun y9 => (M__law_odds 20 s5.2.2.2.1 s5.2.2.2.2 x3 s5.2.2.1 y9).bind fun z10 => (M__law_ran z10.2.1 z10.2.2 x3 (fun (m11 : MS) => (M_multiply m11 s5.1 z10.1).bind fun z12 => some (z12.1, z12.2))).bind fun z14 => (M__law_ran z14.2.1 z14.2.2 x3 (fun (m15 : MS) => (M_multiply m15 s5.2.1 z14.1).bind fun z16 => some (z16.1, z16.2))).bind fun z18 => (some (z18.1, y9)).bind fun y19 => some (Stp.nx (z14.1, y19.1, y19.2, z18.2.1, z18.2.2)) else some (Stp.nx (s5.1, s5.2.1, s5.2.2.1, s5.2.2.2.1, s5.2.2.2.2))
include h8 h30 hC2 in
theorem due_loop {n : Nat} (hn : n ≤ 1100) (hn1 : 1 ≤ n) (cs : List (Str × Int)) : ∀ (k a : Nat) (S G : MS) (L : List (T3 Str Int Int)), 1 ≤ n / 2 ^ k → Tw W C a S G L → a ≤ 2 * (n / 2 ^ k) →
    ∃ S' G' L' a', forM' (mb (n : Int)) (rngD ((k : Int) - 1) k) (((oddO (n / 2 ^ k) : Nat) : Int), ((oddR (n / 2 ^ k) : Nat) : Int), ((oddLow (n / 2 ^ k) : Nat) : Int), S) = some (Stp.nx (((oddO n : Nat) : Int), ((oddR n : Nat) : Int), ((oddLow n : Nat) : Int), S')) ∧
      forM' (lb (n : Int) cs) (rngD ((k : Int) - 1) k) (bg W ((oddO (n / 2 ^ k) : Nat) : Int), bg W ((oddR (n / 2 ^ k) : Nat) : Int), ((oddLow (n / 2 ^ k) : Nat) : Int), G, L) = some (Stp.nx (bg W ((oddO n : Nat) : Int), bg W ((oddR n : Nat) : Int), ((oddLow n : Nat) : Int), G', L')) ∧ Tw W C a' S' G' L' ∧ a' ≤ 2 * n
  | 0, a, S, G, L, h1, t, ha => by
    rw [Nat.pow_zero, Nat.div_one] at *
    exact ⟨S, G, L, a, rfl, rfl, t, ha⟩
  | k + 1, a, S, G, L, h1, t, ha => by
    obtain ⟨m, em⟩ : ∃ m, m = n / 2 ^ (k + 1) := ⟨_, rfl⟩
    obtain ⟨m', em'⟩ : ∃ m', m' = n / 2 ^ k := ⟨_, rfl⟩
    have hmm : m = m' / 2 := by rw [em, em', Nat.div_div_eq_div_mul, ← Nat.pow_succ]
    have hmn : m' ≤ n := by rw [em']; exact Nat.div_le_self _ _
    rw [← em] at h1 ha ⊢
    have el : rngD (((k + 1 : Nat) : Int) - 1) (k + 1) = (k : Int) :: rngD ((k : Int) - 1) k := by
      rw [show ((k + 1 : Nat) : Int) - 1 = (k : Int) from by omega]
      exact rngD_suc k
    have step : ∃ S' G' L' a', mb (n : Int) (k : Int) (((oddO m : Nat) : Int), ((oddR m : Nat) : Int), ((oddLow m : Nat) : Int), S) = some (Stp.nx (((oddO m' : Nat) : Int), ((oddR m' : Nat) : Int), ((oddLow m' : Nat) : Int), S')) ∧
        lb (n : Int) cs (k : Int) (bg W ((oddO m : Nat) : Int), bg W ((oddR m : Nat) : Int), ((oddLow m : Nat) : Int), G, L) = some (Stp.nx (bg W ((oddO m' : Nat) : Int), bg W ((oddR m' : Nat) : Int), ((oddLow m' : Nat) : Int), G', L')) ∧ Tw W C a' S' G' L' ∧ a' ≤ 2 * m' := by
      have ed : (n : Int) / 2 ^ ((k : Int)).toNat = (m' : Int) := by rw [Int.toNat_natCast, p2, ← Int.natCast_ediv, ← em']
      by_cases g : 2 < m'
      · have el : oddLow m' = oddLow m + 2 * ((m' - 1) / 2 - (m - 1) / 2) := by unfold oddLow; omega
        have eO : oddO m * oddp (oddLow m) ((m' - 1) / 2 - (m - 1) / 2) = oddO m' := by
          unfold oddO oddLow
          rw [← oddp_add, show (m - 1) / 2 + ((m' - 1) / 2 - (m - 1) / 2) = (m' - 1) / 2 from by omega]
        have eR : oddR m * oddO m' = oddR m' := by rw [oddR_gt (show ¬ m' ≤ 1 by omega), ← hmm]
        have eo : oddp (oddLow m) ((m' - 1) / 2 - (m - 1) / 2) < 2 ^ 12200 := by
          have := oddp_lt (lo := oddLow m) (m := (m' - 1) / 2 - (m - 1) / 2) _ (Nat.le_refl _) (by unfold oddLow; omega)
          exact Nat.lt_of_lt_of_le this (pow_le2 (by omega))
        have lw : ((m' : Int) + (1 : Int)) + (Builtin.bitAnd (m' : Int) (1 : Int)) = ((oddLow m' : Nat) : Int) := by
          have hb := top_mod 1 m'
          rw [show (((2 ^ 1 - 1 : Nat) : Nat) : Int) = 1 from rfl, Nat.pow_one] at hb
          rw [hb]; unfold oddLow; omega
        obtain ⟨S1, G1, L1, a1, p1, l1, tw1, bd1⟩ := odds_ok h8 h30 hC2 cs 7 20 (oddLow m) ((m' - 1) / 2 - (m - 1) / 2) a S G L (by decide) (by omega) (by omega) (by unfold oddLow; omega) (by unfold oddLow; omega) (by unfold oddLow; omega) t (by omega)
        obtain ⟨S2, G2, L2, p2', l2, tw2⟩ := mul_tw h8 h30 hC2 (cs := cs) tw1 (by omega) (oddO_lt (k := m) (by omega)) eo
        rw [eO] at p2' l2
        obtain ⟨S3, G3, L3, p3, l3, tw3⟩ := mul_tw h8 h30 hC2 (cs := cs) tw2 (by omega) (oddR_lt2 (k := m) (by omega)) (oddO_lt (k := m') (by omega))
        rw [eR] at p3 l3
        rw [← el] at p1 l1
        refine ⟨S3, G3, L3, a1, ?_, ?_, tw3, by omega⟩
        · unfold mb
          refine bnd_of (chkP_eq (by omega)) ?_
          refine bnd_of rfl ?_
          rw [ed, if_pos (decide_eq_true (by omega)), low_or g]
          refine bnd_of rfl ?_
          refine bnd_of p1 ?_
          refine bnd_of p2' ?_
          exact bnd_of p3 rfl
        · unfold lb
          refine bnd_of (chkP_eq (by omega)) ?_
          refine bnd_of rfl ?_
          rw [ed, if_pos (decide_eq_true (by omega)), lw]
          refine bnd_of rfl ?_
          refine bnd_of l1 ?_
          refine bnd_of l2 ?_
          exact bnd_of l3 rfl
      · have e2 : m' = 2 := by omega
        have e1 : m = 1 := by omega
        have r21 : oddR 2 = oddR 1 := by
          rw [oddR_gt (m := 2) (by decide)]
          show oddR 1 * 1 = _
          rw [Nat.mul_one]
        rw [e1, e2, r21]
        refine ⟨S, G, L, a, ?_, ?_, t, by omega⟩
        · unfold mb
          refine bnd_of (chkP_eq (by omega)) ?_
          refine bnd_of rfl ?_
          rw [ed, if_neg (by rw [decide_eq_true_iff]; omega)]
          rfl
        · unfold lb
          refine bnd_of (chkP_eq (by omega)) ?_
          refine bnd_of rfl ?_
          rw [ed, if_neg (by rw [decide_eq_true_iff]; omega)]
          rfl
    obtain ⟨S1, G1, L1, a1, s1, s2, tw1, b1⟩ := step
    obtain ⟨S2, G2, L2, a2, r1, r2, tw2, b2⟩ := due_loop hn hn1 cs k a1 S1 G1 L1 (by rw [← em']; omega) tw1 (by rw [← em']; exact b1)
    rw [← em'] at r1 r2
    refine ⟨S2, G2, L2, a2, ?_, ?_, tw2, b2⟩
    · rw [el, forM_cons s1]; exact r1
    · rw [el, forM_cons s2]; exact r2
theorem bits_sum : ∀ (b n : Nat), n < 2 ^ b → ((List.range b).map fun k : Nat => ((n / 2 ^ k % 2 : Nat) : Int)).sum = ((pc n : Nat) : Int)
  | 0, n, h => by
    rw [Nat.pow_zero] at h
    rw [show n = 0 by omega, pc0]; rfl
  | b + 1, n, h => by
    rw [List.range_succ_eq_map, List.map_cons, List.sum_cons, List.map_map, pc_half n]
    have ih := bits_sum b (n / 2) (by rw [Nat.pow_succ] at h; omega)
    have e : (List.range b).map ((fun k : Nat => ((n / 2 ^ k % 2 : Nat) : Int)) ∘ Nat.succ) = (List.range b).map (fun k : Nat => ((n / 2 / 2 ^ k % 2 : Nat) : Int)) := by
      apply List.map_congr_left
      intro k _
      show ((n / 2 ^ (k + 1) % 2 : Nat) : Int) = _
      rw [Nat.pow_succ, Nat.mul_comm, ← Nat.div_div_eq_div_mul]
    rw [e, ih, Nat.pow_zero, Nat.div_one]
    omega
include h8 h30 hC2 in
theorem dueF_ok (cs : List (Str × Int)) {n : Nat} (hn : n ≤ 1100) (hn2 : 20 < n) {S G : MS} (t : Tw W C 0 S G []) :
    ∃ S' G' L' a', M_factorial_of S (n : Int) = some (((fac n : Nat) : Int), S') ∧ M__law_due G [] cs (n : Int) = some (bg W ((fac n : Nat) : Int), G', L') ∧ Tw W C a' S' G' L' := by
  have hb : bl n ≤ 11 := bl_le.mpr (by rw [show (2 : Nat) ^ 11 = 2048 from rfl]; omega)
  have hb1 : 1 ≤ bl n := Nat.one_le_iff_ne_zero.mpr fun z => by have := bl_le.mp (Nat.le_of_eq z); omega
  have ht := bl_top (n := n) (by omega)
  obtain ⟨S1, G1, L1, a1, r1, r2, tw1, b1⟩ := due_loop h8 h30 hC2 hn (by omega) cs (bl n - 1) 0 S G [] (by omega) t (Nat.zero_le _)
  rw [ht] at r1 r2
  rw [show ((bl n - 1 : Nat) : Int) - 1 = ((bl n : Nat) : Int) - 1 - 1 from by omega] at r1
  rw [show ((bl n - 1 : Nat) : Int) - 1 = ((bl n : Nat) : Int) - 2 from by omega] at r2
  have p1 := pc_le n n (Nat.le_refl _)
  have hR : bl (oddR n) ≤ 12200 := bl_le.mpr (oddR_lt2 hn)
  have o11 : oddR 1 = 1 := oddR_le (Nat.le_refl 1)
  obtain ⟨tw2, g2⟩ := tw_act tw1 (act_left ((oddR n : Nat) : Int) ((n - pc n : Nat) : Int))
  have tl := tw1.len
  have tg := tw1.g1
  have tg2 := tw2.g1
  have ev : ((oddR n : Nat) : Int) * 2 ^ (n - pc n) = ((fac n : Nat) : Int) := by rw [fac_R n n (Nat.le_refl _), Int.natCast_mul, ← p2]
  have sl := sleft_ok (x := ((oddR n : Nat) : Int)) (c := n - pc n) tw1.sw h8 h30 fun _ => by rw [Int.natAbs_natCast]; omega
  have gl := left_ok (x := ((oddR n : Nat) : Int)) (c := n - pc n) tw1.gw h8 h30 (fun _ => by omega) (by rw [Int.natAbs_natCast]; omega)
  rw [ev] at sl gl
  have s1 : sz W ((1 : Int)).natAbs ≤ 4194304 := Nat.le_trans ((sz_le (k := 64) (by omega)).mpr (Nat.lt_of_lt_of_le (show 1 < 2 ^ 1 by decide) (pow_le2 (by omega)))) (by decide)
  refine ⟨_, _, _, a1, ?_, ?_, tw2⟩
  · unfold M_factorial_of
    rw [if_neg (by rw [decide_eq_true_iff]; omega), intBits_nat]
    refine bnd_of (chkP_eq ⟨by omega, by omega⟩) ?_
    rw [show (((bl n : Nat) : Int) - 1).toNat = bl n - 1 from by omega]
    rw [o11] at r1
    refine bnd_of (a := Stp.nx (((oddO n : Nat) : Int), ((oddR n : Nat) : Int), ((oddLow n : Nat) : Int), S1)) r1 ?_
    refine bnd_of (nxt_nx) ?_
    refine bnd_of (ones_ok n) ?_
    rw [show (n : Int) - ((pc n : Nat) : Int) = ((n - pc n : Nat) : Int) from by omega]
    exact bnd_of sl rfl
  · unfold M__law_due
    refine bnd_of (big_ok t.gw h8 h30 s1) ?_
    refine bnd_of (big_ok t.gw h8 h30 s1) ?_
    refine bnd_of rfl ?_
    rw [intBits_nat]
    refine bnd_of (chkP_eq ⟨by omega, by omega, by decide, by decide⟩) ?_
    rw [show (((bl n : Nat) : Int) - 2 - (-(1 : Int))).toNat = bl n - 1 from by omega]
    rw [o11] at r2
    refine bnd_of (a := Stp.nx (bg W ((oddO n : Nat) : Int), bg W ((oddR n : Nat) : Int), ((oddLow n : Nat) : Int), G1, L1)) r2 ?_
    refine bnd_of (nxt_nx) ?_
    refine bnd_of (chkP_eq ⟨by omega, by omega⟩) ?_
    rw [Int.toNat_natCast]
    refine bnd_of (chkP_eq (size_le (m := 11) (by rw [rng_len]; exact hb) (by decide))) ?_
    refine bnd_of (a := ((rng 0 (bl n)).map (fun x : Int => ((n / 2 ^ x.toNat % 2 : Nat) : Int)), ())) ?_ ?_
    · refine (lcM_fm (p := fun _ => true) (f := fun x : Int => ((n / 2 ^ x.toNat % 2 : Nat) : Int)) fun x hx => ?_).trans ?_
      · obtain ⟨k, hk, rfl⟩ : ∃ k : Nat, k < bl n ∧ x = (k : Int) := by
          unfold rng at hx
          rw [List.mem_map] at hx
          obtain ⟨k, h1, h2⟩ := hx
          exact ⟨k, List.mem_range.mp h1, by omega⟩
        refine bnd_of (chkP_eq (by omega)) ?_
        have hb := top_mod 1 (n / 2 ^ k)
        rw [show (((2 ^ 1 - 1 : Nat) : Nat) : Int) = 1 from rfl, Nat.pow_one] at hb
        rw [Int.toNat_natCast, p2, ← Int.natCast_ediv, hb, if_pos rfl]
      · rw [List.filter_eq_self.mpr (fun _ _ => rfl)]
    have es : ((rng 0 (bl n)).map (fun x : Int => ((n / 2 ^ x.toNat % 2 : Nat) : Int))).sum = ((pc n : Nat) : Int) := by
      rw [← bits_sum (bl n) n (bl_lt n)]
      unfold rng
      rw [List.map_map]
      congr 1
      apply List.map_congr_left
      intro k _
      show ((n / 2 ^ ((0 : Int) + (k : Int)).toNat % 2 : Nat) : Int) = _
      rw [Int.zero_add, Int.toNat_natCast]
    show (M__law_ran G1 L1 cs (fun m29 => (M_shift_left m29 (bg W ((oddR n : Nat) : Int)) ((n : Int) - ((rng 0 (bl n)).map (fun x : Int => ((n / 2 ^ x.toNat % 2 : Nat) : Int))).sum)).bind fun z30 => some (z30.1, z30.2))).bind _ = _
    rw [es, show (n : Int) - ((pc n : Nat) : Int) = ((n - pc n : Nat) : Int) from by omega]
    refine bnd_of (ran_ok (G := G1) (L := L1) (G' := leftS W G1 ((oddR n : Nat) : Int) ((n - pc n : Nat) : Int)) (r := bg W ((fac n : Nat) : Int)) (bnd_of gl rfl) g2 (by omega)) rfl
theorem fact_of {n : Nat} (hn : n ≤ 1100) (h8 : 8 ≤ W) (h30 : W ≤ 30) {S S' : MS} (hS' : S'.w = (W : Int)) (h : M_factorial_of S (n : Int) = some (((fac n : Nat) : Int), S')) : M_factorial S (n : Int) = some (bg W ((fac n : Nat) : Int), S') := by
  unfold M_factorial
  refine bnd_of (a := ()) (by unfold M_check_machine; exact bnd_of (chkP_eq rfl) rfl) ?_
  refine bnd_of (a := true) (by unfold M_is_integer; rfl) ?_
  refine bnd_of (chkP_eq rfl) ?_
  refine bnd_of (chkP_eq (decide_eq_false (by omega))) ?_
  refine bnd_of (chkP_eq (decide_eq_false (by omega))) ?_
  refine bnd_of h ?_
  refine bnd_of (bigof_ok hS' h8 h30 ?_) rfl
  have := fac_lt n (by omega)
  rw [Int.natAbs_natCast]
  refine Nat.le_trans ((sz_le (k := 12200) (by omega)).mpr (Nat.lt_of_lt_of_le this (pow_le2 ?_))) (by decide)
  have := Nat.mul_le_mul_right 12200 (show 1 ≤ W by omega)
  omega
include h8 h30 hC2 in
theorem right_s {n : Int} (hn0 : 0 ≤ n) (hn : n ≤ 1100) : Sat (M__law_right (MS.fresh (W : Int) (C : Int)) (MS.fresh (W : Int) (C : Int)) n) (fun r => r.1 = true ∧ r.2.1 = MS.fresh (W : Int) (C : Int) ∧ r.2.2 = MS.fresh (W : Int) (C : Int)) := by
  obtain ⟨n, rfl⟩ := Int.eq_ofNat_of_zero_le hn0
  have t0 := tw_start (W := W) (C := C) (S := MS.fresh (W : Int) (C : Int)) (G := MS.fresh (W : Int) (C : Int)) rfl rfl
  have bb : sz W ((fac n : Nat) : Int).natAbs ≤ 100000 := by
    have := fac_lt n (by omega)
    rw [Int.natAbs_natCast]
    refine Nat.le_trans ((sz_le (k := 12200) (by omega)).mpr (Nat.lt_of_lt_of_le this (pow_le2 ?_))) (by decide)
    have := Nat.mul_le_mul_right 12200 (show 1 ≤ W by omega)
    omega
  have two : ∃ S' G' L' a', M_factorial_of (MS.fresh (W : Int) (C : Int)) (n : Int) = some (((fac n : Nat) : Int), S') ∧ (20 < n → M__law_due (MS.fresh (W : Int) (C : Int)) [] [] (n : Int) = some (bg W ((fac n : Nat) : Int), G', L')) ∧ (¬ 20 < n → G' = MS.fresh (W : Int) (C : Int) ∧ L' = []) ∧ Tw W C a' S' G' L' := by
    by_cases q : 20 < n
    · obtain ⟨S', G', L', a', h1, h2, h3⟩ := dueF_ok h8 h30 hC2 [] (by omega) q t0
      exact ⟨S', G', L', a', h1, fun _ => h2, fun z => absurd q z, h3⟩
    · refine ⟨_, _, [], 0, ?_, fun z => absurd z q, fun _ => ⟨rfl, rfl⟩, t0⟩
      unfold M_factorial_of
      rw [if_pos (decide_eq_true (by omega))]
      exact bnd_of (pfac_ok (by omega)) rfl
  obtain ⟨S', G', L', a', h1, h2, h2', h3⟩ := two
  unfold M__law_right
  refine sat_eq (a := ()) rfl ?_
  refine sat_chk ⟨by decide, by decide, by omega, by omega⟩ ?_
  refine sat_for (fun i s => s = ((fac (i + 1) : Nat) : Int)) (fun i x s hx hs => ?_) rfl fun s hs => sat_nx ?_
  · obtain ⟨g1, g2⟩ := rng_get hx
    rw [hs, g2]
    refine sat_chk (.of_right (intBits_le_64 (by omega) (by omega))) ?_
    refine sat_let ?_
    refine sat_end ?_
    show _ = ((fac (i + 1) * (i + 1 + 1) : Nat) : Int)
    rw [Int.natCast_mul]
    congr 1
    omega
  rw [rng_len] at hs
  have hs : s = ((fac n : Nat) : Int) := by
    rw [hs]
    rcases Nat.eq_zero_or_pos n with z | z
    · rw [z]; rfl
    · rw [show (((n : Int) + 1) - 2).toNat + 1 = n from by omega]
  rw [hs]
  refine sat_eq (fact_of (by omega) h8 h30 h3.sw h1) ?_
  rw [show (S'.w, S'.c).1 = (W : Int) from h3.sw]
  refine sat_eq (is_ok h8 h30 bb) ?_
  refine sat_chk rfl ?_
  refine sat_eq (a := (G', L')) ?_ ?_
  · by_cases q : 20 < n
    · rw [if_pos (decide_eq_true (by omega))]
      refine bnd_of (h2 q) ?_
      refine bnd_of (eq_bg W _ _) ?_
      exact bnd_of (chkP_eq (by rw [decide_eq_true rfl]; rfl)) rfl
    · obtain ⟨e1, e2⟩ := h2' q
      rw [if_neg (by rw [decide_eq_true_iff]; omega), e1, e2]
  refine sat_eq (asw_ok h3) ?_
  refine sat_chk rfl ?_
  refine sat_some ⟨rfl, ?_, ?_⟩
  · show MS.fresh S'.w S'.c = _
    rw [h3.sw, h3.sc]
  · show MS.fresh G'.w G'.c = _
    rw [h3.gw, h3.gc]
end
theorem odd_leaf {f lo m b : Nat} {S : MS} (h : lo + 2 * m ≤ 2048) (eb : Builtin.Int.intBits (((lo + 2 * m : Nat) : Int) - 2) = b) (hb : b ≤ 64) (q : m * b ≤ 64) : M_odd_product (f + 1) S (lo : Int) ((lo + 2 * m : Nat) : Int) = some (((oddp lo m : Nat) : Int), S.enter ("odd part" : Str) (lo : Int) ((lo + 2 * m : Nat) : Int)) := by
  rw [M_odd_product_succ]
  refine bnd_of (chkP_eq (cdiv_s (by decide) (by decide))) ?_
  rw [show (((lo + 2 * m : Nat) : Int) - (lo : Int)) / 2 = (m : Int) from by omega]
  refine bnd_of rfl ?_
  rw [eb]
  refine bnd_of (chkP_eq (.of_right (intBits_le_64 (by omega) (by omega)))) ?_
  rw [if_pos (decide_eq_true (by rw [← Int.natCast_mul]; omega))]
  exact bnd_of (pfrom_ok (by omega)) rfl
theorem mb25 {k m' lo hi c b i o p : Nat} {S : MS} (hS : S.w = 8) (hC : S.c = 4) (e1 : 25 / 2 ^ k = m') (e2 : 2 < m') (e3 : oddLow m' = hi) (e4 : hi = lo + 2 * c) (hl : hi ≤ 2048) (e5 : oddp lo c = p) (eb : Builtin.Int.intBits ((hi : Int) - 2) = b) (hb : b ≤ 64) (q : c * b ≤ 64) (hi_ : i < 2 ^ 64) (hp : p < 2 ^ 64) (ho : o < 2 ^ 64) :
    mb 25 (k : Int) ((i : Int), (o : Int), (lo : Int), S) = some (Stp.nx (((i * p : Nat) : Int), ((o * (i * p) : Nat) : Int), (hi : Int), runM (mulE 8 4 13 (o : Int) ((i * p : Nat) : Int)) (runM (mulE 8 4 13 (i : Int) (p : Int)) (S.enter ("odd part" : Str) (lo : Int) (hi : Int))))) := by
  unfold mb
  refine bnd_of (chkP_eq (by omega)) ?_
  refine bnd_of rfl ?_
  rw [show (25 : Int) / 2 ^ ((k : Int)).toNat = (m' : Int) from by rw [Int.toNat_natCast, p2, ← e1]; rfl, if_pos (decide_eq_true (by omega)), low_or e2, e3]
  refine bnd_of rfl ?_
  have lf := odd_leaf (f := 19) (lo := lo) (m := c) (S := S) (by omega) (by rw [← e4]; exact eb) hb q
  rw [← e4, e5] at lf
  refine bnd_of lf ?_
  have ip : i * p < 2 ^ 128 := by
    rw [show 128 = 64 + 64 from rfl, Nat.pow_add]
    rcases Nat.eq_zero_or_pos p with z | z
    · rw [z, Nat.mul_zero]; exact Nat.mul_pos (Nat.two_pow_pos _) (Nat.two_pow_pos _)
    · exact Nat.mul_lt_mul_of_lt_of_le hi_ (Nat.le_of_lt hp) (Nat.two_pow_pos _)
  have hL : 200 ≤ lvl 8 13 := by unfold lvl; decide
  have x1 := product_ok (W := 8) (C := 4) (S := S.enter ("odd part" : Str) (lo : Int) (hi : Int)) hS hC (by decide) (by decide) (by decide) (x := (i : Int)) (y := (p : Int)) (N := 200) (k := 13) (by rw [Int.natAbs_natCast]; exact Nat.lt_of_lt_of_le hi_ (pow_le2 (by decide))) (by rw [Int.natAbs_natCast]; exact Nat.lt_of_lt_of_le hp (pow_le2 (by decide))) hL (by decide) (by decide)
  rw [← Int.natCast_mul] at x1
  refine bnd_of x1 ?_
  have x2 := product_ok (W := 8) (C := 4) (S := runM (mulE 8 4 13 (i : Int) (p : Int)) (S.enter ("odd part" : Str) (lo : Int) (hi : Int))) ((runM_w _ _).trans hS) ((runM_c _ _).trans hC) (by decide) (by decide) (by decide) (x := (o : Int)) (y := ((i * p : Nat) : Int)) (N := 200) (k := 13) (by rw [Int.natAbs_natCast]; exact Nat.lt_of_lt_of_le ho (pow_le2 (by decide))) (by rw [Int.natAbs_natCast]; exact Nat.lt_of_lt_of_le ip (pow_le2 (by decide))) hL (by decide) (by decide)
  rw [← Int.natCast_mul] at x2
  exact bnd_of x2 rfl
theorem mb25' {k m' lo hi c b i o p : Nat} {S S' : MS} {kI iI oI pI loI hiI r1 r2 : Int} (hS : S.w = 8 ∧ S.c = 4) (e1 : 25 / 2 ^ k = m') (e2 : 2 < m') (e3 : oddLow m' = hi) (e4 : hi = lo + 2 * c) (hl : hi ≤ 2048) (e5 : oddp lo c = p) (eb : Builtin.Int.intBits ((hi : Int) - 2) = b) (hb : b ≤ 64) (q : c * b ≤ 64) (hi_ : i < 2 ^ 64) (hp : p < 2 ^ 64) (ho : o < 2 ^ 64)
    (g1 : (k : Int) = kI) (g2 : (i : Int) = iI) (g3 : (o : Int) = oI) (g4 : (p : Int) = pI) (g5 : (lo : Int) = loI) (g6 : (hi : Int) = hiI) (g7 : ((i * p : Nat) : Int) = r1) (g8 : ((o * (i * p) : Nat) : Int) = r2) (hs : runM (mulE 8 4 13 oI r1) (runM (mulE 8 4 13 iI pI) (S.enter ("odd part" : Str) loI hiI)) = S') :
    mb 25 kI (iI, oI, loI, S) = some (Stp.nx (r1, r2, hiI, S')) := by
  subst hs g1 g2 g3 g4 g5 g6 g7 g8
  exact mb25 hS.1 hS.2 e1 e2 e3 e4 hl e5 eb hb q hi_ hp ho
def s25a : MS := runM (mulE 8 4 13 1 3) (runM (mulE 8 4 13 1 3) ((MS.fresh 8 4).enter "odd part" 3 5))
def s25b : MS := runM (mulE 8 4 13 3 15) (runM (mulE 8 4 13 3 5) (s25a.enter "odd part" 5 7))
def s25c : MS := runM (mulE 8 4 13 45 10395) (runM (mulE 8 4 13 15 693) (s25b.enter "odd part" 7 13))
def s25d : MS := runM (mulE 8 4 13 467775 7905853580625) (runM (mulE 8 4 13 10395 760543875) (s25c.enter "odd part" 13 27))
def S25 : MS := leftS 8 s25d 3698160658676859375 22
theorem en_w' (S : MS) (w : Str) (m n : Int) : (S.enter w m n).w = S.w := rfl
theorem en_c' (S : MS) (w : Str) (m n : Int) : (S.enter w m n).c = S.c := rfl
theorem s25a_w : s25a.w = 8 ∧ s25a.c = 4 := by unfold s25a; rw [runM_w, runM_w, runM_c, runM_c, en_w', en_c']; exact ⟨rfl, rfl⟩
theorem s25b_w : s25b.w = 8 ∧ s25b.c = 4 := by unfold s25b; rw [runM_w, runM_w, runM_c, runM_c, en_w', en_c']; exact s25a_w
theorem s25c_w : s25c.w = 8 ∧ s25c.c = 4 := by unfold s25c; rw [runM_w, runM_w, runM_c, runM_c, en_w', en_c']; exact s25b_w
theorem s25d_w : s25d.w = 8 := by unfold s25d; rw [runM_w, runM_w, en_w']; exact s25c_w.1
theorem S25_w : S25.w = 8 := by unfold S25; rw [leftS_w]; exact s25d_w
def isOdd (x : T3 Str Int Int) : Bool := decide (x.a = ("odd part" : Str))
def odds25 : List (T3 Str Int Int) := [T3.mk "odd part" 3 5, T3.mk "odd part" 5 7, T3.mk "odd part" 7 13, T3.mk "odd part" 13 27]
set_option maxRecDepth 1000000 in
theorem t25 : ((S25.wk.filter isOdd).map fun x => (x.a, x.b, x.c)) = odds25.map fun x => (x.a, x.b, x.c) := by decide +kernel
theorem t25' : S25.wk.filter isOdd = odds25 := by
  have h := congrArg (List.map fun p : Str × Int × Int => T3.mk p.1 p.2.1 p.2.2) t25
  rw [List.map_map, List.map_map] at h
  have e : ∀ l : List (T3 Str Int Int), l.map ((fun p : Str × Int × Int => T3.mk p.1 p.2.1 p.2.2) ∘ fun x => (x.a, x.b, x.c)) = l := fun l => by
    induction l with
    | nil => rfl
    | cons x r ih => rw [List.map_cons, ih]; rfl
  rw [e, e] at h
  exact h
set_option maxRecDepth 1000000 in
theorem l25 : S25.wk.length ≤ 1000 := by decide +kernel
theorem pc25 : pc 25 = 3 := by
  rw [pc_half 25, show 25 / 2 = 12 from rfl, pc_half 12, show 12 / 2 = 6 from rfl, pc_half 6, show 6 / 2 = 3 from rfl, pc_half 3, show 3 / 2 = 1 from rfl, pc_half 1, show 1 / 2 = 0 from rfl, pc0]
theorem f25 : M_factorial_of (MS.fresh 8 4) (25 : Int) = some (((fac 25 : Nat) : Int), S25) := by
  unfold M_factorial_of
  rw [if_neg (by decide), show Builtin.Int.intBits (25 : Int) = 5 from by decide]
  refine bnd_of (chkP_eq ⟨by decide, by decide⟩) ?_
  have hr : rngD (((5 : Nat) : Int) - 1 - 1) (((5 : Nat) : Int) - 1).toNat = [((3 : Nat) : Int), ((2 : Nat) : Int), ((1 : Nat) : Int), ((0 : Nat) : Int)] := by decide
  rw [hr]
  have h1 : mb 25 ((3 : Nat) : Int) ((1 : Int), (1 : Int), (3 : Int), MS.fresh 8 4) = some (Stp.nx ((3 : Int), (3 : Int), (5 : Int), s25a)) := mb25' (k := 3) (m' := 3) (lo := 3) (hi := 5) (c := 1) (b := 2) (i := 1) (o := 1) (p := 3) (pI := 3) ⟨rfl, rfl⟩ rfl (by decide) rfl rfl (by decide) rfl (by decide) (by decide) (by decide) (by decide) (by decide) (by decide) rfl rfl rfl rfl rfl rfl rfl rfl rfl
  have h2 : mb 25 ((2 : Nat) : Int) ((3 : Int), (3 : Int), (5 : Int), s25a) = some (Stp.nx ((15 : Int), (45 : Int), (7 : Int), s25b)) := mb25' (k := 2) (m' := 6) (lo := 5) (hi := 7) (c := 1) (b := 3) (i := 3) (o := 3) (p := 5) (pI := 5) s25a_w rfl (by decide) rfl rfl (by decide) rfl (by decide) (by decide) (by decide) (by decide) (by decide) (by decide) rfl rfl rfl rfl rfl rfl rfl rfl rfl
  have h3 : mb 25 ((1 : Nat) : Int) ((15 : Int), (45 : Int), (7 : Int), s25b) = some (Stp.nx ((10395 : Int), (467775 : Int), (13 : Int), s25c)) := mb25' (k := 1) (m' := 12) (lo := 7) (hi := 13) (c := 3) (b := 4) (i := 15) (o := 45) (p := 693) (pI := 693) s25b_w rfl (by decide) rfl rfl (by decide) rfl (by decide) (by decide) (by decide) (by decide) (by decide) (by decide) rfl rfl rfl rfl rfl rfl rfl rfl rfl
  have h4 : mb 25 ((0 : Nat) : Int) ((10395 : Int), (467775 : Int), (13 : Int), s25c) = some (Stp.nx ((7905853580625 : Int), (3698160658676859375 : Int), (27 : Int), s25d)) := mb25' (k := 0) (m' := 25) (lo := 13) (hi := 27) (c := 7) (b := 5) (i := 10395) (o := 467775) (p := 760543875) (pI := 760543875) s25c_w rfl (by decide) rfl rfl (by decide) rfl (by decide) (by decide) (by decide) (by decide) (by decide) (by decide) rfl rfl rfl rfl rfl rfl rfl rfl rfl
  refine bnd_of (a := Stp.nx ((7905853580625 : Int), (3698160658676859375 : Int), (27 : Int), s25d)) ?_ ?_
  · refine (forM_cons (b := mb 25) h1).trans ?_
    refine (forM_cons (b := mb 25) h2).trans ?_
    refine (forM_cons (b := mb 25) h3).trans ?_
    refine (forM_cons (b := mb 25) h4).trans ?_
    rfl
  refine bnd_of nxt_nx ?_
  refine bnd_of (ones_ok 25) ?_
  rw [pc25]
  have sl := sleft_ok (W := 8) (S := s25d) (x := 3698160658676859375) (c := 22) s25d_w (by decide) (by decide) fun _ => by
    have : bl (3698160658676859375 : Int).natAbs ≤ 64 := bl_le.mpr (by decide)
    omega
  have ef : (3698160658676859375 : Int) * 2 ^ 22 = ((fac 25 : Nat) : Int) := by decide +kernel
  rw [ef] at sl
  refine bnd_of sl ?_
  rfl
theorem law_right (ns : List Int) (h : ns.length ≤ 63) : M_law ns = some true := by
  refine sat_get ?_
  unfold M_law
  refine sat_chk (size_le (m := 64) (by show ns.length + 1 ≤ 64; omega) (by decide)) ?_
  refine sat_forA (fun _ => True) (fun x _ st _ => ?_) trivial fun s _ => sat_nx ?_
  · refine sat_bind (src_s x) fun s0 g0 => ?_
    refine sat_bind (engines_s g0) fun r1 ⟨W, C, em, a1, b1, c1, _, g1⟩ => ?_
    refine sat_bind (draw_s g1 (by decide) (by decide)) fun t1 ⟨v1, w1, x1⟩ => ?_
    refine sat_bind (draw_s v1 (by decide) (by decide)) fun t2 ⟨v2, w2, x2⟩ => ?_
    refine sat_bind (draw_s v2 (by decide) (by decide)) fun t3 ⟨v3, w3, x3⟩ => ?_
    refine sat_let ?_
    refine sat_bind (draw_s v3 (by decide) (by decide)) fun t4 ⟨v4, w4, x4⟩ => ?_
    refine sat_chk (shl_ok (k := 1) (by decide) (by omega) (by omega)) ?_
    refine sat_bind (draw_s v4 (by decide) (by decide)) fun t5 ⟨v5, w5, x5⟩ => ?_
    refine sat_chk (size_lt (m := 4) (Nat.le_refl 4) (by decide)) ?_
    rw [em]
    have pw : ∀ z : Int, 0 ≤ z → z < 3 → 0 ≤ ((1 : Int) * 2 ^ (((5 : Int) + z)).toNat - 1) ∧ ((1 : Int) * 2 ^ (((5 : Int) + z)).toNat - 1) ≤ 127 := fun z h0 h1 => by
      rcases (show z = 0 ∨ z = 1 ∨ z = 2 by omega) with e | e | e <;> rw [e] <;> decide
    have pw4 := pw _ w4 x4
    refine sat_forA (fun (st : MS × MS) => st = (MS.fresh (W : Int) (C : Int), MS.fresh (W : Int) (C : Int))) (fun p hp st hst => ?_) rfl fun st hst => sat_nx (sat_end trivial)
    rw [hst]
    have pq : 0 ≤ p ∧ p ≤ 1100 := by
      simp only [List.mem_append, List.mem_cons, List.not_mem_nil, or_false] at hp
      rcases hp with (e | e | e | e) | e <;> omega
    refine sat_bind (right_s a1 b1 c1 pq.1 pq.2) fun r ⟨i1, i2, i3⟩ => ?_
    refine sat_chk i1 ?_
    refine sat_end ?_
    rw [i2, i3]
  · refine sat_chk ⟨by decide, by decide⟩ ?_
    refine sat_chk (by decide) ?_
    refine sat_chk (size_le (m := 64) (by show ns.length + 1 ≤ 64; omega) (by decide)) ?_
    refine sat_atI (by decide) (by rw [List.length_append]; show (0 : Int) < ((ns.length + 1 : Nat) : Int); omega) fun x hx => ?_
    refine sat_bind (src_s x) fun s0 g0 => ?_
    refine sat_bind (one_s g0 (List.cons_ne_nil _ _) (by show 7 < 100; decide)) fun t1 ⟨v1, w1⟩ => ?_
    simp only [List.mem_cons, List.not_mem_nil, or_false] at w1
    refine sat_bind (right_s (W := 30) (C := 70) (by decide) (by decide) (by decide) (n := t1.1) (by omega) (by omega)) fun r ⟨i1, _, _⟩ => ?_
    refine sat_chk i1 ?_
    refine sat_chk (by decide) ?_
    refine sat_let ?_
    refine sat_eq (fact_of (W := 8) (n := 25) (by decide) (by decide) (by decide) (S' := S25) S25_w f25) ?_
    refine sat_chk (size_le l25 (by decide)) ?_
    refine sat_eq (a := (odds25, ())) ?_ ?_
    · refine (lcM_fm (p := isOdd) (f := id) fun x hx => ?_).trans ?_
      · unfold isOdd
        by_cases q : x.a = ("odd part" : Str)
        · rw [if_pos (decide_eq_true q), if_pos (decide_eq_true q)]; rfl
        · rw [if_neg (by rw [decide_eq_true_iff]; exact q), if_neg (by rw [decide_eq_true_iff]; exact q)]
      · rw [t25', List.map_id]
    refine sat_chk (size_le (m := 4) (Nat.le_refl 4) (by decide)) ?_
    refine sat_eq (a := (odds25, ())) rfl ?_
    have hw : WkOk odds25 := fun p hp => by
      unfold odds25 at hp
      simp only [List.mem_cons, List.not_mem_nil, or_false] at hp
      rcases hp with e | e | e | e <;> rw [e] <;> exact odd_lay
    refine sat_chk ⟨wkok_dat hw, wkok_dat hw⟩ ?_
    refine sat_chk (eqD_iff.mpr rfl) ?_
    refine sat_eq (a := sgn ((fac 25 : Nat) : Int)) rfl ?_
    refine sat_chk (decide_eq_true (by decide +kernel)) ?_
    exact sat_some rfl
end P

set_option Elab.async false
set_option linter.all false
set_option maxRecDepth 100000
set_option maxHeartbeats 0
namespace P
open PySem L2 VL

theorem Fun.ofD {K : PySem.W.Frag} {x qual : Str} {st : Stmt} {f : Addr} {fd : FuncData} (F : FunD K x qual (defArgs st) (defBody st) (defScope st) [] [] f fd) : Fun K x qual st f fd := by
  obtain ⟨oc, od, dV, kV, doc, pm, an, cdv, ct, osl, rfl, lk, hcd, hD, hK⟩ := F.ex
  rcases hD with ⟨_, rfl⟩ | ⟨e, _⟩
  · exact ⟨⟨oc, od, kV, doc, pm, an, cdv, ct, osl, rfl, lk, hcd⟩, F.kp⟩
  · exact absurd rfl e
theorem iclsB_ok {K : PySem.W.Frag} {C : Addr} (cl : Cls K C) (h : iclsB K C = true) : ICls K C := by
  obtain ⟨h1, h⟩ := He.ba h
  obtain ⟨h2, h⟩ := He.ba h
  obtain ⟨h3, h⟩ := He.ba h
  obtain ⟨h4, h5⟩ := He.ba h
  exact ⟨cl, He.eqO_ok h1, He.eqO_ok h2, of_decide_eq_true h3, of_decide_eq_true h4, of_decide_eq_true h5⟩
theorem codeIs_of {K : PySem.W.Frag} {p : He.Defn} : CodeIs K (He.fAd K p) (He.codeOf K p) := fun oc od x qual ar body sc dV kV doc pm an cdv ct osl lk hc => by
  obtain ⟨c, rfl⟩ := He.codeIn_ref hc
  rw [He.codeOf_eq lk rfl]
theorem hu_of {l : List (Addr × Str)} (nd : (l.map (·.1)).Nodup) {A : Addr} {q : Str} (hm : (A, q) ∈ l) : ∀ p ∈ l, p.1 = A → p.2 = q := by
  induction l with
  | nil => cases hm
  | cons a r ih =>
    obtain ⟨h1, h2⟩ := List.nodup_cons.mp (show (a.1 :: r.map (·.1)).Nodup from nd)
    intro p hp e
    rcases List.mem_cons.mp hm with m | m
    · rcases List.mem_cons.mp hp with z | z
      · rw [z, ← m]
      · exact absurd (List.mem_map.mpr ⟨p, z, by rw [e, ← m]⟩) h1
    · rcases List.mem_cons.mp hp with z | z
      · exact absurd (List.mem_map.mpr ⟨_, m, by rw [← e, z]⟩) h1
      · exact ih h2 m p z e
theorem gInt {K : PySem.W.Frag} {h : Heap} {mg : Str → Option Value} {x : Str} {i : Int} (X : K.In h) (G : h.Ns mainGlobals mg) (c : (He.Fa.int x i).ok K = true) : ∃ u, mg x = some u ∧ RelV (.int i) u := by
  obtain ⟨t, e⟩ := He.int_ok X G c
  exact ⟨_, e, t, rfl⟩
theorem gRef {K : PySem.W.Frag} {h : Heap} {mg : Str → Option Value} {x : Str} (X : K.In h) (G : h.Ns mainGlobals mg) (c : (He.Fa.glo x).ok K = true) : ∃ u, mg x = some u ∧ RelV (.ref (He.ga K x)) u := ⟨_, He.glo_ok X G c, rfl⟩
theorem facts {P : Program} {w : World} {K : PySem.W.Frag} {h : Heap} {mg : Str → Option Value} {f : Addr} (X : K.In h) (G : h.Ns mainGlobals mg) (hfa : mg ("law" : Str) = some (.ref f)) (c : He.SaysX fa fn [] tfs exB w h K) :
    ∃ (T : TC) (fd : FuncData), T.K = K ∧ (∀ H : Hp, (∀ p ∈ tfs.map (He.cT K), H p.2 = some (.tbl #[])) → ∀ p ∈ tbs T, H p.1 = some (.tbl #[])) ∧ (∀ (s : Shared) (v : Value), BindsTo s fd ⟨[v], []⟩ [("_law_script", v)]) ∧ ∀ base : Heap, K.In base → base.Ns mainGlobals mg → (∀ p ∈ tfs.map (He.cT K), LamX.TabB base mg p.1 p.2) → FnOk P w K mg base CX0 72 f fd ["_law_script"] (mkSp (Pre_law T)) := by
  have cd : He.SaysD fa fn K := c.t.d
  obtain ⟨cmore, exT⟩ := He.ba c.more
  obtain ⟨ex1, exr⟩ := He.ba cmore
  obtain ⟨ex2, exs⟩ := He.ba exr
  obtain ⟨ex3, ex4⟩ := He.ba exs
  let T : TC := ⟨K, fun i => match i with | 0 => He.ga K "Machine" | 1 => He.ga K "Big" | 100 => (He.cT K ("_law_odds", none)).2 | 150 => (He.cT K ("_law_odds", none)).1 | 101 => (He.cT K ("_law_due", none)).2 | 151 => (He.cT K ("_law_due", none)).1 | _ => He.ga K "Big"⟩
  refine ⟨T, ?_⟩
  obtain ⟨fd_law, G_law⟩ := cd.def_ 48 (d := d_law) rfl
  cases hfa.symm.trans (He.glo_ok X G (cd.fact 91 (f := .glo "law") rfl))
  have ndT : ((tbs T).map (·.1)).Nodup := of_decide_eq_true exT
  refine ⟨fd_law, rfl, (fun H hT p hp => by
    have hp : p ∈ [((He.cT K ("_law_odds", none)).2, qual__law_odds), ((He.cT K ("_law_due", none)).2, qual__law_due)] := hp
    simp only [List.mem_cons, List.not_mem_nil, or_false] at hp
    rcases hp with e | e
    · rw [e]; exact hT (He.cT K ("_law_odds", none)) (List.mem_map.mpr ⟨_, by simp [tfs], rfl⟩)
    · rw [e]; exact hT (He.cT K ("_law_due", none)) (List.mem_map.mpr ⟨_, by simp [tfs], rfl⟩)), fun s v => (FunD.bindsA (ps := ["_law_script"]) G_law fun _ _ _ _ _ _ us hl => match us, hl with | [_], _ => rfl) s [v] rfl, fun base _ _ hTB => ?_⟩
  have clM : Cls K (He.ga K "Machine") := He.cls_ok (cd.fact 0 (f := .cls "Machine") rfl)
  have mc : MCls T.K (T.C 0) := ⟨clM, (He.noat_ok (cd.fact 1 (f := .noat "Machine" "width") rfl)), (He.noat_ok (cd.fact 2 (f := .noat "Machine" "cutoff") rfl)), (He.noat_ok (cd.fact 3 (f := .noat "Machine" "counts") rfl)), (He.noat_ok (cd.fact 4 (f := .noat "Machine" "entered") rfl))⟩
  have icm : ICls T.K (T.C 0) := iclsB_ok clM ex2
  have clB : Cls K (He.ga K "Big") := He.cls_ok (cd.fact 5 (f := .cls "Big") rfl)
  have bc : BCls T.K (T.C 1) := ⟨clB, (He.noat_ok (cd.fact 6 (f := .noat "Big" "width") rfl)), (He.noat_ok (cd.fact 7 (f := .noat "Big" "side") rfl)), (He.noat_ok (cd.fact 8 (f := .noat "Big" "row") rfl)), (He.noat_ok (cd.fact 9 (f := .noat "Big" "value") rfl))⟩
  have icb : ICls T.K (T.C 1) := iclsB_ok clB ex3
  have hW : ∀ H, SqT T.K H (He.ga K "WORDS") (mwords.map V.str) := fun H => He.tupB_ok ex1 H
  obtain ⟨fd_is_integer, F_is_integer⟩ := cd.def_ 0 (d := d_is_integer) rfl
  have F_is_integer := Fun.ofD (st := s_is_integer) F_is_integer
  have c_is_integer : Cal P w K mg base 1 "is_integer" ["value"] (mkSp (Pre_is_integer T)) := ⟨⟨_, _, ok_is_integer (T := T) F_is_integer (He.free_ok X G (cd.fact 10 (f := .free "isinstance") rfl)) (He.free_ok X G (cd.fact 11 (f := .free "int") rfl)) (He.free_ok X G (cd.fact 12 (f := .free "bool") rfl)), He.glo_ok X G (cd.fact 13 (f := .glo "is_integer") rfl), F_is_integer.kp, (F_is_integer.binds (ps := ["value"]) fun _ _ _ _ _ _ us hl => match us, hl with | [_], _ => rfl)⟩⟩
  obtain ⟨fd_is_between, F_is_between⟩ := cd.def_ 1 (d := d_is_between) rfl
  have F_is_between := Fun.ofD (st := s_is_between) F_is_between
  have c_is_between : Cal P w K mg base 2 "is_between" ["value", "low", "high"] (mkSp (Pre_is_between T)) := ⟨⟨_, _, ok_is_between (T := T) F_is_between c_is_integer, He.glo_ok X G (cd.fact 14 (f := .glo "is_between") rfl), F_is_between.kp, (F_is_between.binds (ps := ["value", "low", "high"]) fun _ _ _ _ _ _ us hl => match us, hl with | [_, _, _], _ => rfl)⟩⟩
  obtain ⟨fd_Mach_step, F_Mach_step⟩ := cd.def_ 49 (d := d_Mach_step) rfl
  have F_Mach_step := Fun.ofD (st := s_Mach_step) F_Mach_step
  have c_Mach_step : CalM P w K mg base 1 (T.C 0) "step" ["self", "word", "many"] (mkSp (Pre_Mach_step T)) := ⟨⟨_, _, ok_Mach_step (T := T) F_Mach_step mc , He.meth_ok (cd.fact 15 (f := .meth "Machine" "step") rfl), (F_Mach_step.binds (ps := ["self", "word", "many"]) fun _ _ _ _ _ _ us hl => match us, hl with | [_, _, _], _ => rfl)⟩, clM⟩
  obtain ⟨fd_Mach_enter, F_Mach_enter⟩ := cd.def_ 50 (d := d_Mach_enter) rfl
  have F_Mach_enter := Fun.ofD (st := s_Mach_enter) F_Mach_enter
  have c_Mach_enter : CalM P w K mg base 1 (T.C 0) "enter" ["self", "word", "m", "n"] (mkSp (Pre_Mach_enter T)) := ⟨⟨_, _, ok_Mach_enter (T := T) F_Mach_enter mc (He.free_ok X G (cd.fact 16 (f := .free "len") rfl)) (gInt X G (cd.fact 17 (f := .int "LONGEST_WALK" 1000) rfl)), He.meth_ok (cd.fact 18 (f := .meth "Machine" "enter") rfl), (F_Mach_enter.binds (ps := ["self", "word", "m", "n"]) fun _ _ _ _ _ _ us hl => match us, hl with | [_, _, _, _], _ => rfl)⟩, clM⟩
  obtain ⟨fd_Mach_reset, F_Mach_reset⟩ := cd.def_ 51 (d := d_Mach_reset) rfl
  have F_Mach_reset := Fun.ofD (st := s_Mach_reset) F_Mach_reset
  have c_Mach_reset : CalM P w K mg base 1 (T.C 0) "reset" ["self"] (mkSp (Pre_Mach_reset T)) := ⟨⟨_, _, ok_Mach_reset (T := T) F_Mach_reset mc (gRef X G (cd.fact 19 (f := .glo "WORDS") rfl)) hW, He.meth_ok (cd.fact 20 (f := .meth "Machine" "reset") rfl), (F_Mach_reset.binds (ps := ["self"]) fun _ _ _ _ _ _ us hl => match us, hl with | [_], _ => rfl)⟩, clM⟩
  obtain ⟨fd_Mach_tally, F_Mach_tally⟩ := cd.def_ 52 (d := d_Mach_tally) rfl
  have F_Mach_tally := Fun.ofD (st := s_Mach_tally) F_Mach_tally
  have c_Mach_tally : CalM P w K mg base 1 (T.C 0) "tally" ["self"] (mkSp (Pre_Mach_tally T)) := ⟨⟨_, _, ok_Mach_tally (T := T) F_Mach_tally mc (gRef X G (cd.fact 19 (f := .glo "WORDS") rfl)) hW, He.meth_ok (cd.fact 21 (f := .meth "Machine" "tally") rfl), (F_Mach_tally.binds (ps := ["self"]) fun _ _ _ _ _ _ us hl => match us, hl with | [_], _ => rfl)⟩, clM⟩
  obtain ⟨fd_Mach_walk, F_Mach_walk⟩ := cd.def_ 53 (d := d_Mach_walk) rfl
  have F_Mach_walk := Fun.ofD (st := s_Mach_walk) F_Mach_walk
  have c_Mach_walk : CalM P w K mg base 1 (T.C 0) "walk" ["self"] (mkSp (Pre_Mach_walk T)) := ⟨⟨_, _, ok_Mach_walk (T := T) F_Mach_walk mc (He.free_ok X G (cd.fact 22 (f := .free "list") rfl)), He.meth_ok (cd.fact 23 (f := .meth "Machine" "walk") rfl), (F_Mach_walk.binds (ps := ["self"]) fun _ _ _ _ _ _ us hl => match us, hl with | [_], _ => rfl)⟩, clM⟩
  obtain ⟨fd_Mach_parts, F_Mach_parts⟩ := cd.def_ 54 (d := d_Mach_parts) rfl
  have F_Mach_parts := Fun.ofD (st := s_Mach_parts) F_Mach_parts
  have c_Mach_parts : CalM P w K mg base 1 (T.C 0) "parts" ["self"] (mkSp (Pre_Mach_parts T)) := ⟨⟨_, _, ok_Mach_parts (T := T) F_Mach_parts mc , He.meth_ok (cd.fact 24 (f := .meth "Machine" "parts") rfl), (F_Mach_parts.binds (ps := ["self"]) fun _ _ _ _ _ _ us hl => match us, hl with | [_], _ => rfl)⟩, clM⟩
  obtain ⟨fd_Mach_init, F_Mach_init⟩ := cd.def_ 55 (d := d_Mach_init) rfl
  have c_Machine2 : CalC P w K mg base 3 "Machine" (T.C 0) ["self", "bits", "cutoff"] [] (mkSp (Pre_Machine T)) := by
    obtain ⟨ds, hv, hb⟩ := FunD.binds1 (ps := ["self", "bits", "cutoff"]) F_Mach_init 3 2 (fun e => nomatch e) rfl fun _ _ _ _ _ _ _ us its hl hi => match us, its, hl, hi with | [_, _, _], [_, _], _, _ => ⟨_, rfl, rfl⟩
    exact ⟨⟨_, _, ds, ok_Mach_init (T := T) F_Mach_init mc (gRef X G (cd.fact 19 (f := .glo "WORDS") rfl)) hW c_is_between, He.glo_ok X G (cd.fact 25 (f := .glo "Machine") rfl), He.mkr_ok (cd.fact 26 (f := .mkr "Machine") rfl), hv, hb⟩⟩
  obtain ⟨fd_Big_eq, F_Big_eq⟩ := cd.def_ 57 (d := d_Big_eq) rfl
  have F_Big_eq := Fun.ofD (st := s_Big_eq) F_Big_eq
  have ceq : CalEq P w K mg base 1 (T.C 1) (mkSp (Pre_Big_eq T)) := ⟨⟨_, _, ok_Big_eq (T := T) F_Big_eq (He.free_ok X G (cd.fact 10 (f := .free "isinstance") rfl)) icb (gRef X G (cd.fact 27 (f := .glo "Big") rfl)) bc, ex4, He.meth_ok (cd.fact 28 (f := .meth "Big" "__eq__") rfl), (F_Big_eq.binds (ps := ["self", "other"]) fun _ _ _ _ _ _ us hl => match us, hl with | [_, _], _ => rfl)⟩⟩
  obtain ⟨fd_Big_digits, F_Big_digits⟩ := cd.def_ 58 (d := d_Big_digits) rfl
  have F_Big_digits := Fun.ofD (st := s_Big_digits) F_Big_digits
  have c_Big_digits : CalM P w K mg base 1 (T.C 1) "digits" ["self"] (mkSp (Pre_Big_digits T)) := ⟨⟨_, _, ok_Big_digits (T := T) F_Big_digits bc (He.free_ok X G (cd.fact 22 (f := .free "list") rfl)), He.meth_ok (cd.fact 29 (f := .meth "Big" "digits") rfl), (F_Big_digits.binds (ps := ["self"]) fun _ _ _ _ _ _ us hl => match us, hl with | [_], _ => rfl)⟩, clB⟩
  obtain ⟨fd_Big_sign, F_Big_sign⟩ := cd.def_ 59 (d := d_Big_sign) rfl
  have F_Big_sign := Fun.ofD (st := s_Big_sign) F_Big_sign
  have c_Big_sign : CalM P w K mg base 1 (T.C 1) "sign" ["self"] (mkSp (Pre_Big_sign T)) := ⟨⟨_, _, ok_Big_sign (T := T) F_Big_sign bc, He.meth_ok (cd.fact 30 (f := .meth "Big" "sign") rfl), (F_Big_sign.binds (ps := ["self"]) fun _ _ _ _ _ _ us hl => match us, hl with | [_], _ => rfl)⟩, clB⟩
  obtain ⟨fd_Big_bits, F_Big_bits⟩ := cd.def_ 60 (d := d_Big_bits) rfl
  have F_Big_bits := Fun.ofD (st := s_Big_bits) F_Big_bits
  have c_Big_bits : CalM P w K mg base 1 (T.C 1) "bits" ["self"] (mkSp (Pre_Big_bits T)) := ⟨⟨_, _, ok_Big_bits (T := T) F_Big_bits bc, He.meth_ok (cd.fact 31 (f := .meth "Big" "bits") rfl), (F_Big_bits.binds (ps := ["self"]) fun _ _ _ _ _ _ us hl => match us, hl with | [_], _ => rfl)⟩, clB⟩
  obtain ⟨fd_order_of, F_order_of⟩ := cd.def_ 2 (d := d_order_of) rfl
  have F_order_of := Fun.ofD (st := s_order_of) F_order_of
  have c_order_of : Cal P w K mg base 1 "order_of" ["a", "b"] (mkSp (Pre_order_of T)) := ⟨⟨_, _, ok_order_of (T := T) F_order_of , He.glo_ok X G (cd.fact 32 (f := .glo "order_of") rfl), F_order_of.kp, (F_order_of.binds (ps := ["a", "b"]) fun _ _ _ _ _ _ us hl => match us, hl with | [_, _], _ => rfl)⟩⟩
  obtain ⟨fd_Big_init, F_Big_init⟩ := cd.def_ 56 (d := d_Big_init) rfl
  have F_Big_init := Fun.ofD (st := s_Big_init) F_Big_init
  have c_Big : CalC P w K mg base 2 "Big" (T.C 1) ["self", "width", "value", "row"] [] (mkSp (Pre_Big T)) := ⟨⟨_, _, [], ok_Big_init (T := T) F_Big_init bc (He.free_ok X G (cd.fact 33 (f := .free "tuple") rfl)) c_order_of, He.glo_ok X G (cd.fact 27 (f := .glo "Big") rfl), He.mkr_ok (cd.fact 34 (f := .mkr "Big") rfl), .nil, (F_Big_init.binds (ps := ["self", "width", "value", "row"]) fun _ _ _ _ _ _ us hl => match us, hl with | [_, _, _, _], _ => rfl)⟩⟩
  obtain ⟨fd_check_machine, F_check_machine⟩ := cd.def_ 3 (d := d_check_machine) rfl
  have F_check_machine := Fun.ofD (st := s_check_machine) F_check_machine
  have c_check_machine : Cal P w K mg base 1 "check_machine" ["machine"] (mkSp (Pre_check_machine T)) := ⟨⟨_, _, ok_check_machine (T := T) F_check_machine (He.free_ok X G (cd.fact 10 (f := .free "isinstance") rfl)) icm (gRef X G (cd.fact 25 (f := .glo "Machine") rfl)), He.glo_ok X G (cd.fact 35 (f := .glo "check_machine") rfl), F_check_machine.kp, (F_check_machine.binds (ps := ["machine"]) fun _ _ _ _ _ _ us hl => match us, hl with | [_], _ => rfl)⟩⟩
  obtain ⟨fd_top_digit, F_top_digit⟩ := cd.def_ 4 (d := d_top_digit) rfl
  have F_top_digit := Fun.ofD (st := s_top_digit) F_top_digit
  have c_top_digit : Cal P w K mg base 1 "top_digit" ["width"] (mkSp (Pre_top_digit T)) := ⟨⟨_, _, ok_top_digit (T := T) F_top_digit , He.glo_ok X G (cd.fact 36 (f := .glo "top_digit") rfl), F_top_digit.kp, (F_top_digit.binds (ps := ["width"]) fun _ _ _ _ _ _ us hl => match us, hl with | [_], _ => rfl)⟩⟩
  obtain ⟨fd_size_of, F_size_of⟩ := cd.def_ 5 (d := d_size_of) rfl
  have F_size_of := Fun.ofD (st := s_size_of) F_size_of
  have c_size_of : Cal P w K mg base 2 "size_of" ["width", "n"] (mkSp (Pre_size_of T)) := ⟨⟨_, _, ok_size_of (T := T) F_size_of , He.glo_ok X G (cd.fact 37 (f := .glo "size_of") rfl), F_size_of.kp, (F_size_of.binds (ps := ["width", "n"]) fun _ _ _ _ _ _ us hl => match us, hl with | [_, _], _ => rfl)⟩⟩
  obtain ⟨fd_low_part, F_low_part⟩ := cd.def_ 6 (d := d_low_part) rfl
  have F_low_part := Fun.ofD (st := s_low_part) F_low_part
  have c_low_part : Cal P w K mg base 1 "low_part" ["width", "n", "size"] (mkSp (Pre_low_part T)) := ⟨⟨_, _, ok_low_part (T := T) F_low_part , He.glo_ok X G (cd.fact 38 (f := .glo "low_part") rfl), F_low_part.kp, (F_low_part.binds (ps := ["width", "n", "size"]) fun _ _ _ _ _ _ us hl => match us, hl with | [_, _, _], _ => rfl)⟩⟩
  obtain ⟨fd_row_of, F_row_of⟩ := cd.def_ 7 (d := d_row_of) rfl
  have F_row_of := Fun.ofD (st := s_row_of) F_row_of
  have r_row_of : ∀ n : Nat, FnOk P w K mg base CX0 (1 + n) (He.ga K "row_of") fd_row_of ["width", "n", "size"] (mkSp (Pre_row_of n T)) := by
    intro n
    induction n with
    | zero => exact ok0_row_of (T := T) F_row_of
    | succ n ih =>
      have i_row_of := ih
      have c_row_of : Cal P w K mg base (1 + n) "row_of" ["width", "n", "size"] (mkSp (Pre_row_of n T)) := ⟨⟨_, _, i_row_of, He.glo_ok X G (cd.fact 39 (f := .glo "row_of") rfl), F_row_of.kp, (F_row_of.binds (ps := ["width", "n", "size"]) fun _ _ _ _ _ _ us hl => match us, hl with | [_, _, _], _ => rfl)⟩⟩
      exact ok_row_of (T := T) n F_row_of (gInt X G (cd.fact 40 (f := .int "LONGEST_LOOP" 32) rfl)) c_low_part c_row_of c_top_digit (He.free_ok X G (cd.fact 41 (f := .free "range") rfl))
  have c_row_of : Cal P w K mg base 21 "row_of" ["width", "n", "size"] (mkSp (Pre_row_of 20 T)) := ⟨⟨_, _, (r_row_of 20), He.glo_ok X G (cd.fact 39 (f := .glo "row_of") rfl), F_row_of.kp, (F_row_of.binds (ps := ["width", "n", "size"]) fun _ _ _ _ _ _ us hl => match us, hl with | [_, _, _], _ => rfl)⟩⟩
  obtain ⟨fd_check_big, F_check_big⟩ := cd.def_ 8 (d := d_check_big) rfl
  have F_check_big := Fun.ofD (st := s_check_big) F_check_big
  have c_check_big : Cal P w K mg base 1 "check_big" ["value", "name"] (mkSp (Pre_check_big T)) := ⟨⟨_, _, ok_check_big (T := T) F_check_big (He.free_ok X G (cd.fact 10 (f := .free "isinstance") rfl)) icb (gRef X G (cd.fact 27 (f := .glo "Big") rfl)), He.glo_ok X G (cd.fact 42 (f := .glo "check_big") rfl), F_check_big.kp, (F_check_big.binds (ps := ["value", "name"]) fun _ _ _ _ _ _ us hl => match us, hl with | [_, _], _ => rfl)⟩⟩
  obtain ⟨fd_check_fit, F_check_fit⟩ := cd.def_ 9 (d := d_check_fit) rfl
  have F_check_fit := Fun.ofD (st := s_check_fit) F_check_fit
  have c_check_fit : Cal P w K mg base 2 "check_fit" ["machine", "value", "name"] (mkSp (Pre_check_fit T)) := ⟨⟨_, _, ok_check_fit (T := T) F_check_fit c_check_big bc mc, He.glo_ok X G (cd.fact 43 (f := .glo "check_fit") rfl), F_check_fit.kp, (F_check_fit.binds (ps := ["machine", "value", "name"]) fun _ _ _ _ _ _ us hl => match us, hl with | [_, _, _], _ => rfl)⟩⟩
  obtain ⟨fd_check_one, F_check_one⟩ := cd.def_ 10 (d := d_check_one) rfl
  have F_check_one := Fun.ofD (st := s_check_one) F_check_one
  have c_check_one : Cal P w K mg base 3 "check_one" ["machine", "x"] (mkSp (Pre_check_one T)) := ⟨⟨_, _, ok_check_one (T := T) F_check_one c_check_machine c_check_fit, He.glo_ok X G (cd.fact 44 (f := .glo "check_one") rfl), F_check_one.kp, (F_check_one.binds (ps := ["machine", "x"]) fun _ _ _ _ _ _ us hl => match us, hl with | [_, _], _ => rfl)⟩⟩
  obtain ⟨fd_check_two, F_check_two⟩ := cd.def_ 11 (d := d_check_two) rfl
  have F_check_two := Fun.ofD (st := s_check_two) F_check_two
  have c_check_two : Cal P w K mg base 4 "check_two" ["machine", "x", "y"] (mkSp (Pre_check_two T)) := ⟨⟨_, _, ok_check_two (T := T) F_check_two c_check_one c_check_fit, He.glo_ok X G (cd.fact 45 (f := .glo "check_two") rfl), F_check_two.kp, (F_check_two.binds (ps := ["machine", "x", "y"]) fun _ _ _ _ _ _ us hl => match us, hl with | [_, _, _], _ => rfl)⟩⟩
  obtain ⟨fd_big_of, F_big_of⟩ := cd.def_ 12 (d := d_big_of) rfl
  have F_big_of := Fun.ofD (st := s_big_of) F_big_of
  have c_big_of : Cal P w K mg base 22 "big_of" ["machine", "value"] (mkSp (Pre_big_of T)) := ⟨⟨_, _, ok_big_of (T := T) F_big_of mc (He.free_ok X G (cd.fact 46 (f := .free "abs") rfl)) c_size_of c_row_of c_Big, He.glo_ok X G (cd.fact 47 (f := .glo "big_of") rfl), F_big_of.kp, (F_big_of.binds (ps := ["machine", "value"]) fun _ _ _ _ _ _ us hl => match us, hl with | [_, _], _ => rfl)⟩⟩
  obtain ⟨fd_are_compact, F_are_compact⟩ := cd.def_ 13 (d := d_are_compact) rfl
  have F_are_compact := Fun.ofD (st := s_are_compact) F_are_compact
  have c_are_compact : Cal P w K mg base 2 "are_compact" ["machine", "x", "y"] (mkSp (Pre_are_compact T)) := ⟨⟨_, _, ok_are_compact (T := T) F_are_compact mc, He.glo_ok X G (cd.fact 48 (f := .glo "are_compact") rfl), F_are_compact.kp, (F_are_compact.binds (ps := ["machine", "x", "y"]) fun _ _ _ _ _ _ us hl => match us, hl with | [_, _, _], _ => rfl)⟩⟩
  obtain ⟨fd_big, F_big⟩ := cd.def_ 14 (d := d_big) rfl
  have F_big := Fun.ofD (st := s_big) F_big
  have c_big : Cal P w K mg base 23 "big" ["machine", "n"] (mkSp (Pre_big T)) := ⟨⟨_, _, ok_big (T := T) F_big c_check_machine c_is_integer c_big_of, He.glo_ok X G (cd.fact 49 (f := .glo "big") rfl), F_big.kp, (F_big.binds (ps := ["machine", "n"]) fun _ _ _ _ _ _ us hl => match us, hl with | [_, _], _ => rfl)⟩⟩
  obtain ⟨fd_plain, F_plain⟩ := cd.def_ 15 (d := d_plain) rfl
  have F_plain := Fun.ofD (st := s_plain) F_plain
  have c_plain : Cal P w K mg base 2 "plain" ["x"] (mkSp (Pre_plain T)) := ⟨⟨_, _, ok_plain (T := T) F_plain c_check_big bc, He.glo_ok X G (cd.fact 50 (f := .glo "plain") rfl), F_plain.kp, (F_plain.binds (ps := ["x"]) fun _ _ _ _ _ _ us hl => match us, hl with | [_], _ => rfl)⟩⟩
  obtain ⟨fd_ones_of, F_ones_of⟩ := cd.def_ 16 (d := d_ones_of) rfl
  have F_ones_of := Fun.ofD (st := s_ones_of) F_ones_of
  have c_ones_of : Cal P w K mg base 1 "ones_of" ["digit"] (mkSp (Pre_ones_of T)) := ⟨⟨_, _, ok_ones_of (T := T) F_ones_of , He.glo_ok X G (cd.fact 51 (f := .glo "ones_of") rfl), F_ones_of.kp, (F_ones_of.binds (ps := ["digit"]) fun _ _ _ _ _ _ us hl => match us, hl with | [_], _ => rfl)⟩⟩
  obtain ⟨fd_check_shift, F_check_shift⟩ := cd.def_ 17 (d := d_check_shift) rfl
  have F_check_shift := Fun.ofD (st := s_check_shift) F_check_shift
  have c_check_shift : Cal P w K mg base 4 "check_shift" ["machine", "x", "count"] (mkSp (Pre_check_shift T)) := ⟨⟨_, _, ok_check_shift (T := T) F_check_shift c_check_one c_is_integer, He.glo_ok X G (cd.fact 52 (f := .glo "check_shift") rfl), F_check_shift.kp, (F_check_shift.binds (ps := ["machine", "x", "count"]) fun _ _ _ _ _ _ us hl => match us, hl with | [_, _, _], _ => rfl)⟩⟩
  obtain ⟨fd_shifted_left, F_shifted_left⟩ := cd.def_ 18 (d := d_shifted_left) rfl
  have F_shifted_left := Fun.ofD (st := s_shifted_left) F_shifted_left
  have c_shifted_left : Cal P w K mg base 3 "shifted_left" ["machine", "x", "count"] (mkSp (Pre_shifted_left T)) := ⟨⟨_, _, ok_shifted_left (T := T) F_shifted_left mc c_size_of c_Mach_step c_Mach_enter, He.glo_ok X G (cd.fact 53 (f := .glo "shifted_left") rfl), F_shifted_left.kp, (F_shifted_left.binds (ps := ["machine", "x", "count"]) fun _ _ _ _ _ _ us hl => match us, hl with | [_, _, _], _ => rfl)⟩⟩
  obtain ⟨fd_shift_left, F_shift_left⟩ := cd.def_ 19 (d := d_shift_left) rfl
  have F_shift_left := Fun.ofD (st := s_shift_left) F_shift_left
  have c_shift_left : Cal P w K mg base 23 "shift_left" ["machine", "x", "count"] (mkSp (Pre_shift_left T)) := ⟨⟨_, _, ok_shift_left (T := T) F_shift_left c_check_shift bc (gInt X G (cd.fact 54 (f := .int "GREATEST_SHIFT" 100000) rfl)) c_shifted_left c_big_of, He.glo_ok X G (cd.fact 55 (f := .glo "shift_left") rfl), F_shift_left.kp, (F_shift_left.binds (ps := ["machine", "x", "count"]) fun _ _ _ _ _ _ us hl => match us, hl with | [_, _, _], _ => rfl)⟩⟩
  obtain ⟨fd_added, F_added⟩ := cd.def_ 20 (d := d_added) rfl
  have F_added := Fun.ofD (st := s_added) F_added
  have c_added : Cal P w K mg base 2 "added" ["machine", "a", "m", "b", "n"] (mkSp (Pre_added T)) := ⟨⟨_, _, ok_added (T := T) F_added mc c_Mach_enter (He.free_ok X G (cd.fact 56 (f := .free "max") rfl)) c_Mach_step, He.glo_ok X G (cd.fact 57 (f := .glo "added") rfl), F_added.kp, (F_added.binds (ps := ["machine", "a", "m", "b", "n"]) fun _ _ _ _ _ _ us hl => match us, hl with | [_, _, _, _, _], _ => rfl)⟩⟩
  obtain ⟨fd_joined_room, F_joined_room⟩ := cd.def_ 21 (d := d_joined_room) rfl
  have F_joined_room := Fun.ofD (st := s_joined_room) F_joined_room
  have c_joined_room : Cal P w K mg base 3 "joined_room" ["machine", "room", "r", "more", "p", "turn"] (mkSp (Pre_joined_room T)) := ⟨⟨_, _, ok_joined_room (T := T) F_joined_room mc c_Mach_enter c_low_part c_size_of c_Mach_step, He.glo_ok X G (cd.fact 58 (f := .glo "joined_room") rfl), F_joined_room.kp, (F_joined_room.binds (ps := ["machine", "room", "r", "more", "p", "turn"]) fun _ _ _ _ _ _ us hl => match us, hl with | [_, _, _, _, _, _], _ => rfl)⟩⟩
  obtain ⟨fd_product_by_rows, F_product_by_rows⟩ := cd.def_ 22 (d := d_product_by_rows) rfl
  have F_product_by_rows := Fun.ofD (st := s_product_by_rows) F_product_by_rows
  have c_product_by_rows : Cal P w K mg base 2 "product_by_rows" ["machine", "a", "m", "b", "n"] (mkSp (Pre_product_by_rows T)) := ⟨⟨_, _, ok_product_by_rows (T := T) F_product_by_rows mc c_Mach_enter c_Mach_step, He.glo_ok X G (cd.fact 59 (f := .glo "product_by_rows") rfl), F_product_by_rows.kp, (F_product_by_rows.binds (ps := ["machine", "a", "m", "b", "n"]) fun _ _ _ _ _ _ us hl => match us, hl with | [_, _, _, _, _], _ => rfl)⟩⟩
  obtain ⟨fd_parts_of, F_parts_of⟩ := cd.def_ 23 (d := d_parts_of) rfl
  have F_parts_of := Fun.ofD (st := s_parts_of) F_parts_of
  have c_parts_of : Cal P w K mg base 3 "parts_of" ["machine", "a", "cut"] (mkSp (Pre_parts_of T)) := ⟨⟨_, _, ok_parts_of (T := T) F_parts_of mc c_low_part c_size_of, He.glo_ok X G (cd.fact 60 (f := .glo "parts_of") rfl), F_parts_of.kp, (F_parts_of.binds (ps := ["machine", "a", "cut"]) fun _ _ _ _ _ _ us hl => match us, hl with | [_, _, _], _ => rfl)⟩⟩
  obtain ⟨fd_room_above, F_room_above⟩ := cd.def_ 24 (d := d_room_above) rfl
  have F_room_above := Fun.ofD (st := s_room_above) F_room_above
  have c_room_above : Cal P w K mg base 4 "room_above" ["machine", "size", "cut", "low", "high"] (mkSp (Pre_room_above T)) := ⟨⟨_, _, ok_room_above (T := T) F_room_above mc c_size_of c_joined_room, He.glo_ok X G (cd.fact 61 (f := .glo "room_above") rfl), F_room_above.kp, (F_room_above.binds (ps := ["machine", "size", "cut", "low", "high"]) fun _ _ _ _ _ _ us hl => match us, hl with | [_, _, _, _, _], _ => rfl)⟩⟩
  obtain ⟨fd_whole_room, F_whole_room⟩ := cd.def_ 25 (d := d_whole_room) rfl
  have F_whole_room := Fun.ofD (st := s_whole_room) F_whole_room
  have c_whole_room : Cal P w K mg base 4 "whole_room" ["machine", "size", "cut", "low", "above", "middle"] (mkSp (Pre_whole_room T)) := ⟨⟨_, _, ok_whole_room (T := T) F_whole_room mc c_size_of c_joined_room c_low_part, He.glo_ok X G (cd.fact 62 (f := .glo "whole_room") rfl), F_whole_room.kp, (F_whole_room.binds (ps := ["machine", "size", "cut", "low", "above", "middle"]) fun _ _ _ _ _ _ us hl => match us, hl with | [_, _, _, _, _, _], _ => rfl)⟩⟩
  obtain ⟨fd_multiplied, F_multiplied⟩ := cd.def_ 26 (d := d_multiplied) rfl
  have F_multiplied := Fun.ofD (st := s_multiplied) F_multiplied
  obtain ⟨fd_lopsided_product, F_lopsided_product⟩ := cd.def_ 27 (d := d_lopsided_product) rfl
  have F_lopsided_product := Fun.ofD (st := s_lopsided_product) F_lopsided_product
  obtain ⟨fd_karatsuba_product, F_karatsuba_product⟩ := cd.def_ 28 (d := d_karatsuba_product) rfl
  have F_karatsuba_product := Fun.ofD (st := s_karatsuba_product) F_karatsuba_product
  have r_multiplied : ∀ n : Nat, FnOk P w K mg base CX0 (4 + n) (He.ga K "multiplied") fd_multiplied ["machine", "a", "m", "b", "n"] (mkSp (Pre_multiplied n T)) ∧ FnOk P w K mg base CX0 (4 + n) (He.ga K "lopsided_product") fd_lopsided_product ["machine", "a", "m", "b", "n"] (mkSp (Pre_lopsided_product n T)) ∧ FnOk P w K mg base CX0 (4 + n) (He.ga K "karatsuba_product") fd_karatsuba_product ["machine", "a", "m", "b", "n"] (mkSp (Pre_karatsuba_product n T)) := by
    intro n
    induction n with
    | zero => exact ⟨ok0_multiplied (T := T) F_multiplied, ok0_lopsided_product (T := T) F_lopsided_product, ok0_karatsuba_product (T := T) F_karatsuba_product⟩
    | succ n ih =>
      obtain ⟨i_multiplied, i_lopsided_product, i_karatsuba_product⟩ := ih
      have c_multiplied : Cal P w K mg base (4 + n) "multiplied" ["machine", "a", "m", "b", "n"] (mkSp (Pre_multiplied n T)) := ⟨⟨_, _, i_multiplied, He.glo_ok X G (cd.fact 63 (f := .glo "multiplied") rfl), F_multiplied.kp, (F_multiplied.binds (ps := ["machine", "a", "m", "b", "n"]) fun _ _ _ _ _ _ us hl => match us, hl with | [_, _, _, _, _], _ => rfl)⟩⟩
      have c_lopsided_product : Cal P w K mg base (4 + n) "lopsided_product" ["machine", "a", "m", "b", "n"] (mkSp (Pre_lopsided_product n T)) := ⟨⟨_, _, i_lopsided_product, He.glo_ok X G (cd.fact 64 (f := .glo "lopsided_product") rfl), F_lopsided_product.kp, (F_lopsided_product.binds (ps := ["machine", "a", "m", "b", "n"]) fun _ _ _ _ _ _ us hl => match us, hl with | [_, _, _, _, _], _ => rfl)⟩⟩
      have c_karatsuba_product : Cal P w K mg base (4 + n) "karatsuba_product" ["machine", "a", "m", "b", "n"] (mkSp (Pre_karatsuba_product n T)) := ⟨⟨_, _, i_karatsuba_product, He.glo_ok X G (cd.fact 65 (f := .glo "karatsuba_product") rfl), F_karatsuba_product.kp, (F_karatsuba_product.binds (ps := ["machine", "a", "m", "b", "n"]) fun _ _ _ _ _ _ us hl => match us, hl with | [_, _, _, _, _], _ => rfl)⟩⟩
      exact ⟨ok_multiplied (T := T) n F_multiplied mc c_product_by_rows c_lopsided_product c_karatsuba_product, ok_lopsided_product (T := T) n F_lopsided_product mc c_Mach_enter (He.free_ok X G (cd.fact 41 (f := .free "range") rfl)) c_low_part (He.free_ok X G (cd.fact 66 (f := .free "min") rfl)) c_multiplied c_size_of c_joined_room, ok_karatsuba_product (T := T) n F_karatsuba_product mc c_Mach_enter c_parts_of c_multiplied c_room_above c_added c_size_of c_whole_room⟩
  have c_multiplied : Cal P w K mg base 44 "multiplied" ["machine", "a", "m", "b", "n"] (mkSp (Pre_multiplied 40 T)) := ⟨⟨_, _, (r_multiplied 40).1, He.glo_ok X G (cd.fact 63 (f := .glo "multiplied") rfl), F_multiplied.kp, (F_multiplied.binds (ps := ["machine", "a", "m", "b", "n"]) fun _ _ _ _ _ _ us hl => match us, hl with | [_, _, _, _, _], _ => rfl)⟩⟩
  have c_lopsided_product : Cal P w K mg base 44 "lopsided_product" ["machine", "a", "m", "b", "n"] (mkSp (Pre_lopsided_product 40 T)) := ⟨⟨_, _, (r_multiplied 40).2.1, He.glo_ok X G (cd.fact 64 (f := .glo "lopsided_product") rfl), F_lopsided_product.kp, (F_lopsided_product.binds (ps := ["machine", "a", "m", "b", "n"]) fun _ _ _ _ _ _ us hl => match us, hl with | [_, _, _, _, _], _ => rfl)⟩⟩
  have c_karatsuba_product : Cal P w K mg base 44 "karatsuba_product" ["machine", "a", "m", "b", "n"] (mkSp (Pre_karatsuba_product 40 T)) := ⟨⟨_, _, (r_multiplied 40).2.2, He.glo_ok X G (cd.fact 65 (f := .glo "karatsuba_product") rfl), F_karatsuba_product.kp, (F_karatsuba_product.binds (ps := ["machine", "a", "m", "b", "n"]) fun _ _ _ _ _ _ us hl => match us, hl with | [_, _, _, _, _], _ => rfl)⟩⟩
  obtain ⟨fd_product_of, F_product_of⟩ := cd.def_ 29 (d := d_product_of) rfl
  have F_product_of := Fun.ofD (st := s_product_of) F_product_of
  have c_product_of : Cal P w K mg base 45 "product_of" ["machine", "x", "y"] (mkSp (Pre_product_of T)) := ⟨⟨_, _, ok_product_of (T := T) F_product_of c_are_compact mc c_Mach_step (He.free_ok X G (cd.fact 46 (f := .free "abs") rfl)) c_size_of c_multiplied, He.glo_ok X G (cd.fact 67 (f := .glo "product_of") rfl), F_product_of.kp, (F_product_of.binds (ps := ["machine", "x", "y"]) fun _ _ _ _ _ _ us hl => match us, hl with | [_, _, _], _ => rfl)⟩⟩
  obtain ⟨fd_multiply, F_multiply⟩ := cd.def_ 30 (d := d_multiply) rfl
  have F_multiply := Fun.ofD (st := s_multiply) F_multiply
  have c_multiply : Cal P w K mg base 46 "multiply" ["machine", "x", "y"] (mkSp (Pre_multiply T)) := ⟨⟨_, _, ok_multiply (T := T) F_multiply c_check_two bc c_product_of c_big_of, He.glo_ok X G (cd.fact 68 (f := .glo "multiply") rfl), F_multiply.kp, (F_multiply.binds (ps := ["machine", "x", "y"]) fun _ _ _ _ _ _ us hl => match us, hl with | [_, _, _], _ => rfl)⟩⟩
  obtain ⟨fd_product_from, F_product_from⟩ := cd.def_ 31 (d := d_product_from) rfl
  have F_product_from := Fun.ofD (st := s_product_from) F_product_from
  have c_product_from : Cal P w K mg base 1 "product_from" ["first", "end", "step"] (mkSp (Pre_product_from T)) := ⟨⟨_, _, ok_product_from (T := T) F_product_from (He.free_ok X G (cd.fact 41 (f := .free "range") rfl)), He.glo_ok X G (cd.fact 69 (f := .glo "product_from") rfl), F_product_from.kp, (F_product_from.binds (ps := ["first", "end", "step"]) fun _ _ _ _ _ _ us hl => match us, hl with | [_, _, _], _ => rfl)⟩⟩
  obtain ⟨fd_odd_product, F_odd_product⟩ := cd.def_ 32 (d := d_odd_product) rfl
  have F_odd_product := Fun.ofD (st := s_odd_product) F_odd_product
  have r_odd_product : ∀ n : Nat, FnOk P w K mg base CX0 (45 + n) (He.ga K "odd_product") fd_odd_product ["machine", "low", "high"] (mkSp (Pre_odd_product n T)) := by
    intro n
    induction n with
    | zero => exact ok0_odd_product (T := T) F_odd_product
    | succ n ih =>
      have i_odd_product := ih
      have c_odd_product : Cal P w K mg base (45 + n) "odd_product" ["machine", "low", "high"] (mkSp (Pre_odd_product n T)) := ⟨⟨_, _, i_odd_product, He.glo_ok X G (cd.fact 70 (f := .glo "odd_product") rfl), F_odd_product.kp, (F_odd_product.binds (ps := ["machine", "low", "high"]) fun _ _ _ _ _ _ us hl => match us, hl with | [_, _, _], _ => rfl)⟩⟩
      exact ok_odd_product (T := T) n F_odd_product mc c_Mach_enter (gInt X G (cd.fact 71 (f := .int "WORD_BITS" 64) rfl)) c_product_from c_odd_product c_product_of
  have c_odd_product : Cal P w K mg base 65 "odd_product" ["machine", "low", "high"] (mkSp (Pre_odd_product 20 T)) := ⟨⟨_, _, (r_odd_product 20), He.glo_ok X G (cd.fact 70 (f := .glo "odd_product") rfl), F_odd_product.kp, (F_odd_product.binds (ps := ["machine", "low", "high"]) fun _ _ _ _ _ _ us hl => match us, hl with | [_, _, _], _ => rfl)⟩⟩
  obtain ⟨fd_factorial_of, F_factorial_of⟩ := cd.def_ 33 (d := d_factorial_of) rfl
  have F_factorial_of := Fun.ofD (st := s_factorial_of) F_factorial_of
  have c_factorial_of : Cal P w K mg base 66 "factorial_of" ["machine", "n"] (mkSp (Pre_factorial_of T)) := ⟨⟨_, _, ok_factorial_of (T := T) F_factorial_of (gInt X G (cd.fact 72 (f := .int "SHORT_FACTORIAL" 20) rfl)) c_product_from (He.free_ok X G (cd.fact 73 (f := .free "reversed") rfl)) (He.free_ok X G (cd.fact 41 (f := .free "range") rfl)) c_odd_product c_product_of c_ones_of c_shifted_left, He.glo_ok X G (cd.fact 74 (f := .glo "factorial_of") rfl), F_factorial_of.kp, (F_factorial_of.binds (ps := ["machine", "n"]) fun _ _ _ _ _ _ us hl => match us, hl with | [_, _], _ => rfl)⟩⟩
  obtain ⟨fd_factorial, F_factorial⟩ := cd.def_ 34 (d := d_factorial) rfl
  have F_factorial := Fun.ofD (st := s_factorial) F_factorial
  have c_factorial : Cal P w K mg base 67 "factorial" ["machine", "n"] (mkSp (Pre_factorial T)) := ⟨⟨_, _, ok_factorial (T := T) F_factorial c_check_machine c_is_integer (gInt X G (cd.fact 75 (f := .int "GREATEST_FACTORIAL" 1100) rfl)) c_factorial_of c_big_of, He.glo_ok X G (cd.fact 76 (f := .glo "factorial") rfl), F_factorial.kp, (F_factorial.binds (ps := ["machine", "n"]) fun _ _ _ _ _ _ us hl => match us, hl with | [_, _], _ => rfl)⟩⟩
  have ck_factorial_0_n_machine : CalK P w K mg base 67 "factorial" ["machine", "n"] 0 ["n", "machine"] [1, 0] (mkSp (Pre_factorial T)) := ⟨⟨_, _, ok_factorial (T := T) F_factorial c_check_machine c_is_integer (gInt X G (cd.fact 75 (f := .int "GREATEST_FACTORIAL" 1100) rfl)) c_factorial_of c_big_of, He.glo_ok X G (cd.fact 76 (f := .glo "factorial") rfl), F_factorial.kp, kbn_of F_factorial fun _ _ _ _ _ _ us ws hl hk => match us, ws, hl, hk with | [], [_, _], _, _ => rfl⟩⟩
  obtain ⟨fd__law_mixed, F__law_mixed⟩ := cd.def_ 35 (d := d__law_mixed) rfl
  have F__law_mixed := Fun.ofD (st := s__law_mixed) F__law_mixed
  have c__law_mixed : Cal P w K mg base 1 "_law_mixed" ["_law_cell", "_law_turn"] (mkSp (Pre__law_mixed T)) := ⟨⟨_, _, ok__law_mixed (T := T) F__law_mixed (He.free_ok X G (cd.fact 11 (f := .free "int") rfl)), He.glo_ok X G (cd.fact 77 (f := .glo "_law_mixed") rfl), F__law_mixed.kp, (F__law_mixed.binds (ps := ["_law_cell", "_law_turn"]) fun _ _ _ _ _ _ us hl => match us, hl with | [_, _], _ => rfl)⟩⟩
  obtain ⟨fd__law_source, F__law_source⟩ := cd.def_ 36 (d := d__law_source) rfl
  have F__law_source := Fun.ofD (st := s__law_source) F__law_source
  have c__law_source : Cal P w K mg base 1 "_law_source" ["_law_cell"] (mkSp (Pre__law_source T)) := ⟨⟨_, _, ok__law_source (T := T) F__law_source (He.free_ok X G (cd.fact 11 (f := .free "int") rfl)), He.glo_ok X G (cd.fact 78 (f := .glo "_law_source") rfl), F__law_source.kp, (F__law_source.binds (ps := ["_law_cell"]) fun _ _ _ _ _ _ us hl => match us, hl with | [_], _ => rfl)⟩⟩
  obtain ⟨fd__law_draw, F__law_draw⟩ := cd.def_ 37 (d := d__law_draw) rfl
  have F__law_draw := Fun.ofD (st := s__law_draw) F__law_draw
  have c__law_draw : Cal P w K mg base 2 "_law_draw" ["_law_source_here", "_law_bound"] (mkSp (Pre__law_draw T)) := ⟨⟨_, _, ok__law_draw (T := T) F__law_draw (He.free_ok X G (cd.fact 11 (f := .free "int") rfl)) c__law_mixed, He.glo_ok X G (cd.fact 79 (f := .glo "_law_draw") rfl), F__law_draw.kp, (F__law_draw.binds (ps := ["_law_source_here", "_law_bound"]) fun _ _ _ _ _ _ us hl => match us, hl with | [_, _], _ => rfl)⟩⟩
  obtain ⟨fd__law_one, F__law_one⟩ := cd.def_ 38 (d := d__law_one) rfl
  have F__law_one := Fun.ofD (st := s__law_one) F__law_one
  have c__law_one : Cal P w K mg base 3 "_law_one" ["_law_source_here", "_law_some"] (mkSp (Pre__law_one T)) := ⟨⟨_, _, ok__law_one (T := T) F__law_one (He.free_ok X G (cd.fact 16 (f := .free "len") rfl)) c__law_draw, He.glo_ok X G (cd.fact 80 (f := .glo "_law_one") rfl), F__law_one.kp, (F__law_one.binds (ps := ["_law_source_here", "_law_some"]) fun _ _ _ _ _ _ us hl => match us, hl with | [_, _], _ => rfl)⟩⟩
  obtain ⟨fd__law_engines, F__law_engines⟩ := cd.def_ 39 (d := d__law_engines) rfl
  have F__law_engines := Fun.ofD (st := s__law_engines) F__law_engines
  have c__law_engines : Cal P w K mg base 5 "_law_engines" ["_law_source_here"] (mkSp (Pre__law_engines T)) := ⟨⟨_, _, ok__law_engines (T := T) F__law_engines c__law_draw c__law_one (He.free_ok X G (cd.fact 41 (f := .free "range") rfl)) c_Machine2, He.glo_ok X G (cd.fact 81 (f := .glo "_law_engines") rfl), F__law_engines.kp, (F__law_engines.binds (ps := ["_law_source_here"]) fun _ _ _ _ _ _ us hl => match us, hl with | [_], _ => rfl)⟩⟩
  obtain ⟨fd__law_digits, F__law_digits⟩ := cd.def_ 40 (d := d__law_digits) rfl
  have F__law_digits := Fun.ofD (st := s__law_digits) F__law_digits
  have c__law_digits : Cal P w K mg base 2 "_law_digits" ["_law_nn", "_law_width"] (mkSp (Pre__law_digits T)) := ⟨⟨_, _, ok__law_digits (T := T) F__law_digits (He.free_ok X G (cd.fact 46 (f := .free "abs") rfl)) (He.free_ok X G (cd.fact 11 (f := .free "int") rfl)), He.glo_ok X G (cd.fact 82 (f := .glo "_law_digits") rfl), F__law_digits.kp, (F__law_digits.binds (ps := ["_law_nn", "_law_width"]) fun _ _ _ _ _ _ us hl => match us, hl with | [_, _], _ => rfl)⟩⟩
  obtain ⟨fd__law_is, F__law_is⟩ := cd.def_ 41 (d := d__law_is) rfl
  have F__law_is := Fun.ofD (st := s__law_is) F__law_is
  have c__law_is : Cal P w K mg base 3 "_law_is" ["_law_held", "_law_nn", "_law_width"] (mkSp (Pre__law_is T)) := ⟨⟨_, _, ok__law_is (T := T) F__law_is c_Big_sign c_Big_bits (He.free_ok X G (cd.fact 11 (f := .free "int") rfl)) c_Big_digits c__law_digits c_plain, He.glo_ok X G (cd.fact 83 (f := .glo "_law_is") rfl), F__law_is.kp, (F__law_is.binds (ps := ["_law_held", "_law_nn", "_law_width"]) fun _ _ _ _ _ _ us hl => match us, hl with | [_, _, _], _ => rfl)⟩⟩
  obtain ⟨fd__law_ran, F__law_ran⟩ := cd.def_ 42 (d := d__law_ran) rfl
  have F__law_ran := Fun.ofD (st := s__law_ran) F__law_ran
  have c__law_ran : CalL1 P w K mg base 47 49 "_law_ran" ["_law_world_here", "_law_ask"] (Pre__law_ran T) := ok__law_ran (T := T) F__law_ran mc c_Mach_walk (He.free_ok X G (cd.fact 16 (f := .free "len") rfl)) (He.glo_ok X G (cd.fact 84 (f := .glo "_law_ran") rfl)) (F__law_ran.binds (ps := ["_law_world_here", "_law_ask"]) fun _ _ _ _ _ _ us hl => match us, hl with | [_, _], _ => rfl)
  obtain ⟨fd__law_world, F__law_world⟩ := cd.def_ 43 (d := d__law_world) rfl
  have F__law_world := Fun.ofD (st := s__law_world) F__law_world
  have c__law_world : Cal P w K mg base 1 "_law_world" ["_law_engine"] (mkSp (Pre__law_world T)) := ⟨⟨_, _, ok__law_world (T := T) F__law_world , He.glo_ok X G (cd.fact 85 (f := .glo "_law_world") rfl), F__law_world.kp, (F__law_world.binds (ps := ["_law_engine"]) fun _ _ _ _ _ _ us hl => match us, hl with | [_], _ => rfl)⟩⟩
  obtain ⟨fd__law_as_world, F__law_as_world⟩ := cd.def_ 44 (d := d__law_as_world) rfl
  have F__law_as_world := Fun.ofD (st := s__law_as_world) F__law_as_world
  have c__law_as_world : Cal P w K mg base 2 "_law_as_world" ["_law_engine", "_law_world_here"] (mkSp (Pre__law_as_world T)) := ⟨⟨_, _, ok__law_as_world (T := T) F__law_as_world mc c_Mach_tally c_Mach_walk, He.glo_ok X G (cd.fact 86 (f := .glo "_law_as_world") rfl), F__law_as_world.kp, (F__law_as_world.binds (ps := ["_law_engine", "_law_world_here"]) fun _ _ _ _ _ _ us hl => match us, hl with | [_, _], _ => rfl)⟩⟩
  obtain ⟨fd__law_odds, F__law_odds⟩ := cd.def_ 45 (d := d__law_odds) rfl
  have F__law_odds := Fun.ofD (st := s__law_odds) F__law_odds
  have r__law_odds : ∀ n : Nat, FnOk P w K mg base CX0 (49 + n) (He.ga K "_law_odds") fd__law_odds ["_law_world_here", "_law_low", "_law_high"] (mkSp (Pre__law_odds n T)) := by
    intro n
    induction n with
    | zero => exact ok0__law_odds (T := T) F__law_odds
    | succ n ih =>
      have i__law_odds := ih
      have c__law_odds : Cal P w K mg base (49 + n) "_law_odds" ["_law_world_here", "_law_low", "_law_high"] (mkSp (Pre__law_odds n T)) := ⟨⟨_, _, i__law_odds, He.glo_ok X G (cd.fact 87 (f := .glo "_law_odds") rfl), F__law_odds.kp, (F__law_odds.binds (ps := ["_law_world_here", "_law_low", "_law_high"]) fun _ _ _ _ _ _ us hl => match us, hl with | [_, _, _], _ => rfl)⟩⟩
      exact ok__law_odds (T := T) n F__law_odds (He.free_ok X G (cd.fact 22 (f := .free "list") rfl)) (He.free_ok X G (cd.fact 41 (f := .free "range") rfl)) (He.free_ok X G (cd.fact 16 (f := .free "len") rfl)) c_big c__law_odds c_multiply c__law_ran (hTB (He.cT K ("_law_odds", none)) (List.mem_map.mpr ⟨_, by simp [tfs], rfl⟩)) (hu_of ndT (mem__law_odds T)) (codeIs_of (K := K) (p := ("_law_odds", none)))
  have c__law_odds : Cal P w K mg base 69 "_law_odds" ["_law_world_here", "_law_low", "_law_high"] (mkSp (Pre__law_odds 20 T)) := ⟨⟨_, _, (r__law_odds 20), He.glo_ok X G (cd.fact 87 (f := .glo "_law_odds") rfl), F__law_odds.kp, (F__law_odds.binds (ps := ["_law_world_here", "_law_low", "_law_high"]) fun _ _ _ _ _ _ us hl => match us, hl with | [_, _, _], _ => rfl)⟩⟩
  obtain ⟨fd__law_due, F__law_due⟩ := cd.def_ 46 (d := d__law_due) rfl
  have F__law_due := Fun.ofD (st := s__law_due) F__law_due
  have c__law_due : Cal P w K mg base 70 "_law_due" ["_law_world_here", "_law_nn"] (mkSp (Pre__law_due T)) := ⟨⟨_, _, ok__law_due (T := T) F__law_due c_big (He.free_ok X G (cd.fact 41 (f := .free "range") rfl)) c__law_odds c_multiply c__law_ran (hTB (He.cT K ("_law_due", none)) (List.mem_map.mpr ⟨_, by simp [tfs], rfl⟩)) (hu_of ndT (mem__law_due T)) (codeIs_of (K := K) (p := ("_law_due", none))) (He.free_ok X G (cd.fact 88 (f := .free "sum") rfl)) c_shift_left, He.glo_ok X G (cd.fact 89 (f := .glo "_law_due") rfl), F__law_due.kp, (F__law_due.binds (ps := ["_law_world_here", "_law_nn"]) fun _ _ _ _ _ _ us hl => match us, hl with | [_, _], _ => rfl)⟩⟩
  obtain ⟨fd__law_right, F__law_right⟩ := cd.def_ 47 (d := d__law_right) rfl
  have F__law_right := Fun.ofD (st := s__law_right) F__law_right
  have c__law_right : Cal P w K mg base 71 "_law_right" ["_law_engines_here", "_law_nn"] (mkSp (Pre__law_right T)) := ⟨⟨_, _, ok__law_right (T := T) F__law_right c__law_world (He.free_ok X G (cd.fact 41 (f := .free "range") rfl)) c_factorial mc c_Mach_parts c__law_is c__law_due ceq c__law_as_world c_Mach_reset, He.glo_ok X G (cd.fact 90 (f := .glo "_law_right") rfl), F__law_right.kp, (F__law_right.binds (ps := ["_law_engines_here", "_law_nn"]) fun _ _ _ _ _ _ us hl => match us, hl with | [_, _], _ => rfl)⟩⟩
  have F_law := Fun.ofD (st := s_law) G_law
  exact ok_law (T := T) F_law c__law_source c__law_engines c__law_draw c__law_right (He.free_ok X G (cd.fact 41 (f := .free "range") rfl)) c_Machine2 c__law_one ck_factorial_0_n_machine mc c_Mach_walk c_Big_sign
end P

open PySem PySem.W PySem.Calls PyProof.Rows in
theorem PySem.Challenge.cw_thirtybits_k85_factorials_holds : PySem.Challenge.rw_thirtybits_k85_factorials.Holds := by
  w_on; o_law
  refine HandSHeadRun.head_any (r := OpenLaw.row PySem.Challenge.rw_thirtybits_k85_factorials) (q := view (OpenLaw.row PySem.Challenge.rw_thirtybits_k85_factorials).prog [73]) (H := P.hk) (ob := P.ob) (M := 12000) (loose := P.loose) (d := HandSHeadRun.topDef (OpenLaw.row PySem.Challenge.rw_thirtybits_k85_factorials).prog 73) (kwd := []) P.ob_eq
    (by kernel_rfl) (fun s => by kernel_rfl) P.run (by kernel_rfl) (by kernel_rfl) (by kernel_rfl) (by rfl) (by first | assumption | decide +kernel) (by decide +kernel) ⟨rfl, rfl, rfl, rfl, rfl, by decide +kernel⟩ ?hw ?hc
  case hw => w_witness2
  case hc =>
    refine LamX.walk_ofTsE (l := PySem.Challenge.rw_thirtybits_k85_factorials) (n := 63) (k := 72) (x := "_law_script") (CX := fun _ => L2.CX0) rfl (by decide) (by kernel_rfl) ⟨rfl, by decide, by decide⟩ ?F (fun _ _ _ _ _ z => z)
    intro w mg fa h Y G hmg0
    obtain ⟨K, KX, c⟩ := Y
    have hmg : mg ("law" : PySem.Str) = some (.ref fa) := by
      have e : (HandSHeadRun.topDef (OpenLaw.row PySem.Challenge.rw_thirtybits_k85_factorials).prog 73).name = ("law" : PySem.Str) := by kernel_rfl
      rw [← e]
      exact hmg0
    obtain ⟨T, fd, eT, hTH, hb, hF⟩ := P.facts (P := (PySem.Challenge.rw_thirtybits_k85_factorials).prog) (w := w) KX G hmg c
    refine ⟨K, KX, fd, P.tfs.map (He.cT K), VL.mkSp (P.Pre_law T), fun p hp => ?_, fun p hp => ?_, fun p hp => ?_, hb, fun H a ns hl _ hT hS => ?_, fun base b1 b2 b3 => hF base b1 b2 b3⟩
    · obtain ⟨d, hd, rfl⟩ := List.mem_map.mp hp
      exact c.empty d hd
    · obtain ⟨d, hd, rfl⟩ := List.mem_map.mp hp
      exact c.out d hd
    · obtain ⟨d, hd, rfl⟩ := List.mem_map.mp hp
      exact PySem.W.codeHd_of_K KX (c.hd d hd)
    · obtain ⟨F, f1, f2⟩ := VL.tab_start (hTH H hT) hS
      exact ⟨F, [VL.tabA (P.tbs T)], _, _, ⟨0, ns, true, rfl, rfl, P.law_right ns hl, rfl⟩, .cons ⟨a, ns.map L2.V.int, rfl, by rw [eT]; exact f1, VL.al_of_int⟩ .nil, f2, fun F' v H' Ω' _ _ r => r.1⟩
