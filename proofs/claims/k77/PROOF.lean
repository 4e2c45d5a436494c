import PyProof.Rows.All
import Wide.All
import OpenK.AllK
import Wide.FinOn
import KE.KStateDown
import HandS.Head0
import HandS.Head1
import HandS.Head2
import HandS.HeadEnd
import HandS.HeadHook1
import HandS.HeadHook2
import HandS.HeadHook3
import HandS.HeadHook4
import HandS.ForMost
import HandS.Wide
import HandS.Evl
import HandS.Rev
import HandS.Style
import HandS.IsInst
import HandS.Defaults
import HandS.DictComp
import HandS.WideBits
import KE.GoesEnum
import HandS.TupAny
import HandS.OwnEq
import PyProof.InstNe
import HandS.TryOnly
import HandS.DeepEq
import PyProof.NeKinds
import HandS.TupLe
import HandS.CallLocal
import HandS.Lambda
import HandS.Small
import HandS.Iter
import HandS.More
import KE.KDflt
import HandS.MakeKw
import HandS.MakeKwOnly
import PyProof.Rows.ChunkEnd
import HandS.RevRange
import PyProof.Rows.CountFlat
import HandS.Flow
import HandS.Conv
import HandS.Sort
import HandS.ForExc
import HandS.RaiseMore
import PyProof.ExcBaseAll.ArithmeticError
import KE.OsArith
import HandS.Text
import KE.KBits
import KE.BitLaws
import PySem.Challenge.RW_thirtybits_k77_steps_of_true_quotients
set_option Elab.async false
set_option linter.all false
set_option maxRecDepth 100000
set_option maxHeartbeats 0
set_option Elab.async false
set_option linter.all false
set_option maxRecDepth 100000
set_option maxHeartbeats 0
namespace VL
open PySem
/-! what is looked at behind the start: the things at places that are told, not those found by walking -/
def obsL (as0 : List Addr) (fa : List He.Fa) (fn : List He.DefD) (tf : List He.Defn) (ex : PySem.W.Frag → Bool) (g : Addr → Option Obj) : He.AlX := ((He.obsD fa fn (He.frT g as0), []), ex (He.frT g as0) && He.tabsB g tf (He.frT g as0))
theorem tabL {g : Addr → Option Obj} {K : PySem.W.Frag} {p : He.Defn} (h : (PySem.W.codeHdIn K (He.cT K p).1 (He.cT K p).2 && (match g (He.cT K p).2 with
    | some o => He.emptyTab o
    | none => false)) = true) : PySem.W.codeHdIn K (He.cT K p).1 (He.cT K p).2 = true ∧ ∃ o, g (He.cT K p).2 = some o ∧ He.emptyTab o = true := by
  rw [Bool.and_eq_true] at h
  refine ⟨h.1, ?_⟩
  revert h
  generalize g (He.cT K p).2 = u
  cases u with
  | none => exact fun h => nomatch h.2
  | some o => exact fun h => ⟨o, rfl, h.2⟩
theorem saysL {as0 : List Addr} {fa : List He.Fa} {fn : List He.DefD} {tf : List He.Defn} {ex : PySem.W.Frag → Bool} {w : World} {h : Heap} (e : obsL as0 fa fn tf ex h.get? = He.valX fn [] w) : He.SaysX fa fn [] tf ex w h (He.frT h.get? as0) := by
  obtain ⟨e1, e2⟩ := Prod.mk.inj e
  rw [Bool.and_eq_true] at e2
  have ts := List.all_eq_true.mp e2.2
  refine { t := e1, more := e2.1, hd := fun p m => (tabL (ts p m)).1, out := fun p m => ?_, empty := fun p m => ?_ }
  · obtain ⟨_, o, q, z⟩ := tabL (ts p m)
    exact He.frT_none q z
  · obtain ⟨_, o, q, z⟩ := tabL (ts p m)
    rw [q, He.emptyTab_eq z]
def hookL (as0 : List Addr) (fa : List He.Fa) (fn : List He.DefD) (tf : List He.Defn) (ex : PySem.W.Frag → Bool) : PySem.W.Hook :=
  ⟨He.AlX, fun s => obsL as0 fa fn tf ex s.heap.get?, fun w => He.valX fn [] w, fun w h => ∃ K : PySem.W.Frag, K.In h ∧ He.SaysX fa fn [] tf ex w h K,
   fun _ _ e => ⟨_, He.frT_in, saysL e⟩, fun _ _ _ ⟨K, i, c⟩ k => ⟨K, i.keeps k, c.t, c.more, c.hd, c.out, fun p m => k _ _ (c.empty p m)⟩⟩
theorem obsL_eq {as0 : List Addr} {fa : List He.Fa} {fn : List He.DefD} {tf : List He.Defn} {ex : PySem.W.Frag → Bool} {g : Addr → Option Obj} {s : PySem.Shared} (h : ∀ a, g a = s.heap.get? a) : obsL as0 fa fn tf ex g = (hookL as0 fa fn tf ex).obs s := by
  show _ = obsL as0 fa fn tf ex s.heap.get?
  rw [show g = s.heap.get? from funext h]
/-- from, how many -/
def addrs (a : Nat) : Nat → List Addr
  | 0 => []
  | n + 1 => a :: addrs (a + 1) n
end VL

namespace VL
open PySem L2 PyProof.Rows
def mwords : List Str := ["short", "sum", "product", "quotient", "corrected", "restored", "shifted", "combined", "complemented", "looked"]
def ownB (K : PySem.W.Frag) (C f : Addr) : Bool := match K.lookup C with
  | some ⟨.type t, _, .cls cd, sl⟩ => (match cd.mro, sl.toList with
    | [.ref C', .type b], [_, _, _, _, some (.builtin n), _] => decide (t = "type") && (decide (C' = C) && (decide (b = "object") && (!cd.hasDel && (PySem.W.nsOkIn K cd.ns && (He.eqO (PySem.W.nsIn K cd.ns "__ne__") (some none) && (He.eqO (PySem.W.nsIn K cd.ns "__eq__") (some (some (.ref f))) &&
        (match K.lookup f with
          | some ⟨.type u, _, _, _⟩ => decide (u = "function")
          | _ => false)))))))
    | _, _ => false)
  | _ => false
abbrev aeBase : List Value := [.type "ArithmeticError", .type "Exception", .type "BaseException", .type "object"]
def excB (K : PySem.W.Frag) (C : Addr) : Bool := PySem.W.excIn K C aeBase "ArithmeticError.__new__" && (PySem.W.keepIn K (.ref C) && (decide (PySem.W.subIn K (.ref C) (.type "BaseException") = some true) && (decide (PySem.W.typeIn K (.ref C) = some (.type "type")) && decide (PySem.W.exmOne K (.ref C) (.ref C) = some true))))
end VL
namespace P
open PySem L2 VL
def topS (i : Nat) : Stmt := PySem.Challenge.pw_thirtybits_k77_steps_of_true_quotients.main.body.getD i (.Pass ⟨0, 0, 0, 0⟩)
abbrev s_is_integer : Stmt := topS 8
abbrev s_is_between : Stmt := topS 9
abbrev s_Mach_step : Stmt := inClass (topS 13) 6
abbrev s_Mach_enter : Stmt := inClass (topS 13) 7
abbrev s_Mach_reset : Stmt := inClass (topS 13) 5
abbrev s_Mach_tally : Stmt := inClass (topS 13) 3
abbrev s_Mach_walk : Stmt := inClass (topS 13) 4
abbrev s_Mach_parts : Stmt := inClass (topS 13) 2
abbrev s_Mach_init : Stmt := inClass (topS 13) 0
abbrev s_Big_eq : Stmt := inClass (topS 23) 1
abbrev s_Big_digits : Stmt := inClass (topS 23) 3
abbrev s_Big_sign : Stmt := inClass (topS 23) 2
abbrev s_Big_bits : Stmt := inClass (topS 23) 4
abbrev s_order_of : Stmt := topS 29
abbrev s_Big_init : Stmt := inClass (topS 23) 0
abbrev s_check_machine : Stmt := topS 14
abbrev s_top_digit : Stmt := topS 17
abbrev s_size_of : Stmt := topS 18
abbrev s_number_of : Stmt := topS 19
abbrev s_low_part : Stmt := topS 21
abbrev s_row_of : Stmt := topS 20
abbrev s_check_big : Stmt := topS 24
abbrev s_check_fit : Stmt := topS 27
abbrev s_check_one : Stmt := topS 25
abbrev s_check_two : Stmt := topS 26
abbrev s_big_of : Stmt := topS 28
abbrev s_big : Stmt := topS 30
abbrev s_plain : Stmt := topS 31
abbrev s_lifted : Stmt := topS 33
abbrev s_lowered : Stmt := topS 34
abbrev s_check_division : Stmt := topS 36
abbrev s_short_division : Stmt := topS 38
abbrev s_corrections : Stmt := topS 41
abbrev s_count_steps : Stmt := topS 42
abbrev s_quotient_steps : Stmt := topS 40
abbrev s_long_division : Stmt := topS 39
abbrev s_divided_digits : Stmt := topS 37
abbrev s_has_bits_ahead : Stmt := topS 51
abbrev s_moved : Stmt := topS 50
abbrev s_rounded : Stmt := topS 52
abbrev s_ratio : Stmt := topS 49
abbrev s_true_quotient : Stmt := topS 48
abbrev s__law_source : Stmt := topS 54
abbrev s__law_draw : Stmt := topS 55
abbrev s__law_pick : Stmt := topS 56
abbrev s__law_row : Stmt := topS 57
abbrev s__law_box : Stmt := topS 58
abbrev s__law_signed : Stmt := topS 59
abbrev s__law_due_of : Stmt := topS 60
abbrev s__law_long : Stmt := topS 61
abbrev s__law_long_counts : Stmt := topS 62
abbrev s__law_wide_number : Stmt := topS 63
abbrev s__law_two : Stmt := topS 64
abbrev s__law_shifted : Stmt := topS 65
abbrev s__law_due : Stmt := topS 66
abbrev s__law_doubled : Stmt := topS 67
abbrev s__law_asked : Stmt := topS 68
abbrev s__law_right : Stmt := topS 69
abbrev s_law : Stmt := topS 70
def iclsB (K : PySem.W.Frag) (C : Addr) : Bool := He.eqO (PySem.W.findIn K (.ref C) "__class__") (some (some (.builtin "object.__class__"))) && (He.eqO (PySem.W.specialIn K (.builtin "object.__class__") "__get__") (some (some (.builtin "getset_descriptor.__get__"))) &&
  (decide (PySem.W.takesIn K (.builtin "object.__class__") = some true) && (decide (PySem.W.mroIn K C (.type "object") = some true) && decide (PySem.W.kitOne K (.ref C) (.ref C) = some true))))
def d_is_integer : He.DefD := ⟨("is_integer", none), "is_integer", "is_integer", defArgs s_is_integer, defBody s_is_integer, defScope s_is_integer, [], []⟩
def d_is_between : He.DefD := ⟨("is_between", none), "is_between", "is_between", defArgs s_is_between, defBody s_is_between, defScope s_is_between, [], []⟩
def d_order_of : He.DefD := ⟨("order_of", none), "order_of", "order_of", defArgs s_order_of, defBody s_order_of, defScope s_order_of, [], []⟩
def d_check_machine : He.DefD := ⟨("check_machine", none), "check_machine", "check_machine", defArgs s_check_machine, defBody s_check_machine, defScope s_check_machine, [], []⟩
def d_top_digit : He.DefD := ⟨("top_digit", none), "top_digit", "top_digit", defArgs s_top_digit, defBody s_top_digit, defScope s_top_digit, [], []⟩
def d_size_of : He.DefD := ⟨("size_of", none), "size_of", "size_of", defArgs s_size_of, defBody s_size_of, defScope s_size_of, [], []⟩
def d_number_of : He.DefD := ⟨("number_of", none), "number_of", "number_of", defArgs s_number_of, defBody s_number_of, defScope s_number_of, [], []⟩
def d_low_part : He.DefD := ⟨("low_part", none), "low_part", "low_part", defArgs s_low_part, defBody s_low_part, defScope s_low_part, [], []⟩
def d_row_of : He.DefD := ⟨("row_of", none), "row_of", "row_of", defArgs s_row_of, defBody s_row_of, defScope s_row_of, [], []⟩
def d_check_big : He.DefD := ⟨("check_big", none), "check_big", "check_big", defArgs s_check_big, defBody s_check_big, defScope s_check_big, [], []⟩
def d_check_fit : He.DefD := ⟨("check_fit", none), "check_fit", "check_fit", defArgs s_check_fit, defBody s_check_fit, defScope s_check_fit, [], []⟩
def d_check_one : He.DefD := ⟨("check_one", none), "check_one", "check_one", defArgs s_check_one, defBody s_check_one, defScope s_check_one, [], []⟩
def d_check_two : He.DefD := ⟨("check_two", none), "check_two", "check_two", defArgs s_check_two, defBody s_check_two, defScope s_check_two, [], []⟩
def d_big_of : He.DefD := ⟨("big_of", none), "big_of", "big_of", defArgs s_big_of, defBody s_big_of, defScope s_big_of, [], []⟩
def d_big : He.DefD := ⟨("big", none), "big", "big", defArgs s_big, defBody s_big, defScope s_big, [], []⟩
def d_plain : He.DefD := ⟨("plain", none), "plain", "plain", defArgs s_plain, defBody s_plain, defScope s_plain, [], []⟩
def d_lifted : He.DefD := ⟨("lifted", none), "lifted", "lifted", defArgs s_lifted, defBody s_lifted, defScope s_lifted, [], []⟩
def d_lowered : He.DefD := ⟨("lowered", none), "lowered", "lowered", defArgs s_lowered, defBody s_lowered, defScope s_lowered, [], []⟩
def d_check_division : He.DefD := ⟨("check_division", none), "check_division", "check_division", defArgs s_check_division, defBody s_check_division, defScope s_check_division, [], []⟩
def d_short_division : He.DefD := ⟨("short_division", none), "short_division", "short_division", defArgs s_short_division, defBody s_short_division, defScope s_short_division, [], []⟩
def d_corrections : He.DefD := ⟨("corrections", none), "corrections", "corrections", defArgs s_corrections, defBody s_corrections, defScope s_corrections, [], []⟩
def d_count_steps : He.DefD := ⟨("count_steps", none), "count_steps", "count_steps", defArgs s_count_steps, defBody s_count_steps, defScope s_count_steps, [], []⟩
def d_quotient_steps : He.DefD := ⟨("quotient_steps", none), "quotient_steps", "quotient_steps", defArgs s_quotient_steps, defBody s_quotient_steps, defScope s_quotient_steps, [], []⟩
def d_long_division : He.DefD := ⟨("long_division", none), "long_division", "long_division", defArgs s_long_division, defBody s_long_division, defScope s_long_division, [], []⟩
def d_divided_digits : He.DefD := ⟨("divided_digits", none), "divided_digits", "divided_digits", defArgs s_divided_digits, defBody s_divided_digits, defScope s_divided_digits, [], []⟩
def d_has_bits_ahead : He.DefD := ⟨("has_bits_ahead", none), "has_bits_ahead", "has_bits_ahead", defArgs s_has_bits_ahead, defBody s_has_bits_ahead, defScope s_has_bits_ahead, [], []⟩
def d_moved : He.DefD := ⟨("moved", none), "moved", "moved", defArgs s_moved, defBody s_moved, defScope s_moved, [], []⟩
def d_rounded : He.DefD := ⟨("rounded", none), "rounded", "rounded", defArgs s_rounded, defBody s_rounded, defScope s_rounded, [], []⟩
def d_ratio : He.DefD := ⟨("ratio", none), "ratio", "ratio", defArgs s_ratio, defBody s_ratio, defScope s_ratio, [], []⟩
def d_true_quotient : He.DefD := ⟨("true_quotient", none), "true_quotient", "true_quotient", defArgs s_true_quotient, defBody s_true_quotient, defScope s_true_quotient, [], []⟩
def d__law_source : He.DefD := ⟨("_law_source", none), "_law_source", "_law_source", defArgs s__law_source, defBody s__law_source, defScope s__law_source, [], []⟩
def d__law_draw : He.DefD := ⟨("_law_draw", none), "_law_draw", "_law_draw", defArgs s__law_draw, defBody s__law_draw, defScope s__law_draw, [], []⟩
def d__law_pick : He.DefD := ⟨("_law_pick", none), "_law_pick", "_law_pick", defArgs s__law_pick, defBody s__law_pick, defScope s__law_pick, [], []⟩
def d__law_row : He.DefD := ⟨("_law_row", none), "_law_row", "_law_row", defArgs s__law_row, defBody s__law_row, defScope s__law_row, [], []⟩
def d__law_box : He.DefD := ⟨("_law_box", none), "_law_box", "_law_box", defArgs s__law_box, defBody s__law_box, defScope s__law_box, [], []⟩
def d__law_signed : He.DefD := ⟨("_law_signed", none), "_law_signed", "_law_signed", defArgs s__law_signed, defBody s__law_signed, defScope s__law_signed, [], []⟩
def d__law_due_of : He.DefD := ⟨("_law_due_of", none), "_law_due_of", "_law_due_of", defArgs s__law_due_of, defBody s__law_due_of, defScope s__law_due_of, [], []⟩
def d__law_long : He.DefD := ⟨("_law_long", none), "_law_long", "_law_long", defArgs s__law_long, defBody s__law_long, defScope s__law_long, [], []⟩
def d__law_long_counts : He.DefD := ⟨("_law_long_counts", none), "_law_long_counts", "_law_long_counts", defArgs s__law_long_counts, defBody s__law_long_counts, defScope s__law_long_counts, [], []⟩
def d__law_wide_number : He.DefD := ⟨("_law_wide_number", none), "_law_wide_number", "_law_wide_number", defArgs s__law_wide_number, defBody s__law_wide_number, defScope s__law_wide_number, [], []⟩
def d__law_two : He.DefD := ⟨("_law_two", none), "_law_two", "_law_two", defArgs s__law_two, defBody s__law_two, defScope s__law_two, [], []⟩
def d__law_shifted : He.DefD := ⟨("_law_shifted", none), "_law_shifted", "_law_shifted", defArgs s__law_shifted, defBody s__law_shifted, defScope s__law_shifted, [], []⟩
def d__law_due : He.DefD := ⟨("_law_due", none), "_law_due", "_law_due", defArgs s__law_due, defBody s__law_due, defScope s__law_due, [], []⟩
def d__law_doubled : He.DefD := ⟨("_law_doubled", none), "_law_doubled", "_law_doubled", defArgs s__law_doubled, defBody s__law_doubled, defScope s__law_doubled, [], []⟩
def d__law_asked : He.DefD := ⟨("_law_asked", none), "_law_asked", "_law_asked", defArgs s__law_asked, defBody s__law_asked, defScope s__law_asked, [], []⟩
def d__law_right : He.DefD := ⟨("_law_right", none), "_law_right", "_law_right", defArgs s__law_right, defBody s__law_right, defScope s__law_right, [], []⟩
def d_law : He.DefD := ⟨("law", none), "law", "law", defArgs s_law, defBody s_law, defScope s_law, [], []⟩
def d_Mach_step : He.DefD := ⟨("Machine", some "step"), "step", "Machine.step", defArgs s_Mach_step, defBody s_Mach_step, defScope s_Mach_step, [], []⟩
def d_Mach_enter : He.DefD := ⟨("Machine", some "enter"), "enter", "Machine.enter", defArgs s_Mach_enter, defBody s_Mach_enter, defScope s_Mach_enter, [], []⟩
def d_Mach_reset : He.DefD := ⟨("Machine", some "reset"), "reset", "Machine.reset", defArgs s_Mach_reset, defBody s_Mach_reset, defScope s_Mach_reset, [], []⟩
def d_Mach_tally : He.DefD := ⟨("Machine", some "tally"), "tally", "Machine.tally", defArgs s_Mach_tally, defBody s_Mach_tally, defScope s_Mach_tally, [], []⟩
def d_Mach_walk : He.DefD := ⟨("Machine", some "walk"), "walk", "Machine.walk", defArgs s_Mach_walk, defBody s_Mach_walk, defScope s_Mach_walk, [], []⟩
def d_Mach_parts : He.DefD := ⟨("Machine", some "parts"), "parts", "Machine.parts", defArgs s_Mach_parts, defBody s_Mach_parts, defScope s_Mach_parts, [], []⟩
def d_Mach_init : He.DefD := ⟨("Machine", some "__init__"), "__init__", "Machine.__init__", defArgs s_Mach_init, defBody s_Mach_init, defScope s_Mach_init, [.int 30, .int 70], []⟩
def d_Big_init : He.DefD := ⟨("Big", some "__init__"), "__init__", "Big.__init__", defArgs s_Big_init, defBody s_Big_init, defScope s_Big_init, [], []⟩
def d_Big_eq : He.DefD := ⟨("Big", some "__eq__"), "__eq__", "Big.__eq__", defArgs s_Big_eq, defBody s_Big_eq, defScope s_Big_eq, [], []⟩
def d_Big_digits : He.DefD := ⟨("Big", some "digits"), "digits", "Big.digits", defArgs s_Big_digits, defBody s_Big_digits, defScope s_Big_digits, [], []⟩
def d_Big_sign : He.DefD := ⟨("Big", some "sign"), "sign", "Big.sign", defArgs s_Big_sign, defBody s_Big_sign, defScope s_Big_sign, [], []⟩
def d_Big_bits : He.DefD := ⟨("Big", some "bits"), "bits", "Big.bits", defArgs s_Big_bits, defBody s_Big_bits, defScope s_Big_bits, [], []⟩
def fa0 : List He.Fa := [.cls "Machine", .noat "Machine" "width", .noat "Machine" "cutoff", .noat "Machine" "counts", .noat "Machine" "entered", .cls "Big", .noat "Big" "width", .noat "Big" "side", .noat "Big" "row", .noat "Big" "value", .glo "TooGreat", .free "isinstance", .free "int", .free "bool", .glo "is_integer", .glo "is_between", .meth "Machine" "step", .free "len", .int "LONGEST_WALK" 1000, .meth "Machine" "enter", .glo "WORDS", .meth "Machine" "reset", .meth "Machine" "tally", .free "list", .meth "Machine" "walk", .meth "Machine" "parts", .glo "Machine", .mkr "Machine", .glo "Big", .meth "Big" "__eq__"]
def fa1 : List He.Fa := [.meth "Big" "digits", .meth "Big" "sign", .meth "Big" "bits", .glo "order_of", .free "tuple", .mkr "Big", .glo "check_machine", .glo "top_digit", .glo "size_of", .glo "number_of", .int "LONGEST_LOOP" 32, .free "reversed", .glo "low_part", .glo "row_of", .free "range", .glo "check_big", .glo "check_fit", .glo "check_one", .glo "check_two", .free "abs", .glo "big_of", .glo "big", .glo "plain", .glo "lifted", .glo "lowered", .glo "check_division", .free "divmod", .glo "short_division", .glo "corrections", .free "sum"]
def fa2 : List He.Fa := [.glo "count_steps", .glo "quotient_steps", .glo "long_division", .glo "divided_digits", .glo "has_bits_ahead", .free "min", .glo "moved", .int "MANTISSA" 53, .int "LEAST_EXPONENT" (-1074), .free "max", .glo "rounded", .int "ROUNDED_BITS" 55, .glo "ratio", .int "BOUND" 179769313486231580793728971405303415079934132710037826936173778980444968292764750946649017977587207096330286416692887910946555547851940402630657488671505820681908902000708383676273854845817711531764475730270069855571366959622842914819860834936475292719074168444365510704342711559699508093042880177904174497792, .glo "true_quotient", .glo "_law_source", .glo "_law_draw", .glo "_law_pick", .glo "_law_row", .glo "_law_box", .glo "_law_signed", .free "dict", .glo "_law_due_of", .glo "_law_long", .glo "_law_long_counts", .glo "_law_wide_number", .glo "_law_two", .glo "_law_shifted", .glo "_law_due", .glo "_law_doubled"]
def fa3 : List He.Fa := [.glo "_law_asked", .glo "_law_right", .glo "law"]
def fa : List He.Fa := fa0 ++ fa1 ++ fa2 ++ fa3
def fn : List He.DefD := [d_is_integer, d_is_between, d_order_of, d_check_machine, d_top_digit, d_size_of, d_number_of, d_low_part, d_row_of, d_check_big, d_check_fit, d_check_one, d_check_two, d_big_of, d_big, d_plain, d_lifted, d_lowered, d_check_division, d_short_division, d_corrections, d_count_steps, d_quotient_steps, d_long_division, d_divided_digits, d_has_bits_ahead, d_moved, d_rounded, d_ratio, d_true_quotient, d__law_source, d__law_draw, d__law_pick, d__law_row, d__law_box, d__law_signed, d__law_due_of, d__law_long, d__law_long_counts, d__law_wide_number, d__law_two, d__law_shifted, d__law_due, d__law_doubled, d__law_asked, d__law_right, d_law, d_Mach_step, d_Mach_enter, d_Mach_reset, d_Mach_tally, d_Mach_walk, d_Mach_parts, d_Mach_init, d_Big_init, d_Big_eq, d_Big_digits, d_Big_sign, d_Big_bits]
def excsB (K : PySem.W.Frag) : Bool := excB K (He.ga K "TooGreat")
def exB (K : PySem.W.Frag) : Bool := He.tupB K "WORDS" (mwords.map He.Dv.str) && (iclsB K (He.ga K "Machine") && (iclsB K (He.ga K "Big") && ownB K (He.ga K "Big") (He.ma K (He.ga K "Big") "__eq__"))) && excsB K
def loose0 : List Str := ["BitsError", "InvalidMachine", "InvalidBound", "ZeroDivisor", "TooGreat", "shown", "is_integer", "is_between", "WORDS", "LONGEST_WALK", "Machine", "check_machine", "LONGEST_LOOP", "top_digit", "size_of", "number_of", "row_of", "low_part", "Big", "check_big", "check_one", "check_two", "check_fit", "big_of", "order_of", "big", "plain", "lifted", "lowered", "check_division"]
def loose1 : List Str := ["divided_digits", "short_division", "long_division", "quotient_steps", "corrections", "count_steps", "MANTISSA", "LEAST_EXPONENT", "BOUND", "ROUNDED_BITS", "true_quotient", "ratio", "moved", "has_bits_ahead", "rounded", "_law_source", "_law_draw", "_law_pick", "_law_row", "_law_box", "_law_signed", "_law_due_of", "_law_long", "_law_long_counts", "_law_wide_number", "_law_two", "_law_shifted", "_law_due", "_law_doubled", "_law_asked"]
def loose2 : List Str := ["_law_right"]
def loose : List Str := loose0 ++ loose1 ++ loose2
abbrev R : PySem.W.OpenRow := PySem.W.OpenLaw.row PySem.Challenge.rw_thirtybits_k77_steps_of_true_quotients
abbrev hk : PySem.W.Hook := hookL (addrs 0 1200) fa fn [] exB
def ob (s : PySem.W.SharedT) : He.AlX := obsL (addrs 0 1200) fa fn [] exB (HandSHeadRun.getT s)
theorem ob_eq (s : PySem.W.SharedT) : ob s = hk.obs s.abs := obsL_eq (HandSHeadRun.getT_eq s)
theorem run (w : World) : HandSHeadRun.RunEq R (PySem.W.view R.prog [70]) hk ob 12000 loose w := by
  intro os
  kernel_rfl
end P
set_option maxHeartbeats 200000
set_option Elab.async false
set_option linter.all false
set_option maxRecDepth 100000
/-! What a body does, by values: Holds (the frozen part, the changing things, by place), Env (the slots), XG, XE, XT, XA, XS. -/
namespace VL
open PySem L2

/-! ### the frozen part and the changing things -/
structure VA where
  P : Hp → V → Prop
  mono : ∀ {F F' : Hp} {v : V}, Same F F' → P F v → P F' v
structure OA where
  P : Hp → Hp → Prop
  mono : ∀ {F F' t : Hp}, Same F F' → P F t → P F' t

def Holds (F : Hp) (Ω : List OA) (H : Hp) : Prop :=
  ∃ ts : Nat → Hp, (∀ (i : Nat) (o : OA), Ω[i]? = some o → o.P F (ts i)) ∧ Same F H ∧ (∀ i : Nat, i < Ω.length → Same (ts i) H) ∧
    (∀ (i : Nat) (b : Addr) (o : HO), i < Ω.length → ts i b = some o → F b = none) ∧
    ∀ (i j : Nat) (b : Addr) (o : HO), i < Ω.length → j < Ω.length → i ≠ j → ts i b = some o → ts j b = none

theorem getlt {α : Type} {l : List α} {i : Nat} {a : α} (h : l[i]? = some a) : i < l.length := (List.getElem?_eq_some_iff.mp h).1
theorem nn {F : Hp} {b : Addr} {o : HO} (h : F b = some o) (h' : F b = none) : False := by rw [h] at h'; cases h'
theorem same_upd {H : Hp} {p : Addr} {o : HO} (h : H p = none) : Same H (upd H p o) := fun b x e => by
  rw [upd_ne (ne_of_none e h)]; exact e

section
variable {F F' H H' : Hp} {Ω : List OA} {o o' : OA} {i j : Nat} {a p : Addr} {u u' : HO}
theorem Holds.same (h : Holds F Ω H) : Same F H := let ⟨_, _, q, _⟩ := h; q
theorem Holds.nil (h : Same F H) : Holds F [] H := ⟨fun _ _ => none, fun i o q => by simp at q, h, fun i q => absurd q (Nat.not_lt_zero _), fun i _ _ q => absurd q (Nat.not_lt_zero _), fun i _ _ _ q => absurd q (Nat.not_lt_zero _)⟩
/-- a new frozen object -/
theorem Holds.newF (h : Holds F Ω H) (n : H p = none) : Holds (upd F p u) Ω (upd H p u) ∧ Same F (upd F p u) := by
  obtain ⟨ts, h1, h2, h3, h4, h5⟩ := h
  have nF : F p = none := h2.free n
  have sF : Same F (upd F p u) := same_upd nF
  have nt : ∀ i, i < Ω.length → ts i p = none := fun i q => (h3 i q).free n
  refine ⟨⟨ts, fun i o q => o.mono sF (h1 i o q), fun b x e => ?_, fun i q => (h3 i q).trans (same_upd n), fun i b x q e => ?_, h5⟩, sF⟩
  · by_cases hb : b = p
    · subst hb; rw [upd_same] at e ⊢; exact e
    · rw [upd_ne hb] at e ⊢; exact h2 b x e
  · have hb : b ≠ p := fun z => by subst z; exact nn e (nt i q)
    rw [upd_ne hb]; exact h4 i b x q e
theorem app_at {α : Type} {l : List α} {a : α} : (l ++ [a])[l.length]? = some a := by simp
theorem app_lt {α : Type} {l : List α} {a b : α} {i : Nat} (h : l[i]? = some b) : (l ++ [a])[i]? = some b := by
  rw [List.getElem?_append_left (getlt h)]; exact h
/-- a new changing thing, behind the others -/
theorem Holds.newO {t : Hp} (h : Holds F Ω H) (n : ∀ b x, t b = some x → H b = none) (e : Same H H') (et : Same t H') (ok : o.P F t) : Holds F (Ω ++ [o]) H' := by
  obtain ⟨ts, h1, h2, h3, h4, h5⟩ := h
  have len : (Ω ++ [o]).length = Ω.length + 1 := by simp
  refine ⟨fun k => if k = Ω.length then t else ts k, fun i x q => ?_, h2.trans e, fun i q => ?_, fun i b x q r => ?_, fun i j b x qi qj ne r => ?_⟩
  · show x.P F (if i = Ω.length then t else ts i)
    by_cases hi : i = Ω.length
    · subst hi; rw [app_at] at q; cases q; rw [if_pos rfl]; exact ok
    · rw [if_neg hi]
      have lt : i < Ω.length := by have := getlt q; omega
      rw [List.getElem?_append_left lt] at q
      exact h1 i x q
  · show Same (if i = Ω.length then t else ts i) H'
    by_cases hi : i = Ω.length
    · rw [if_pos hi]; exact et
    · rw [if_neg hi]; exact (h3 i (by omega)).trans e
  · have r : (if i = Ω.length then t else ts i) b = some x := r
    by_cases hi : i = Ω.length
    · rw [if_pos hi] at r; exact h2.free (n b x r)
    · rw [if_neg hi] at r; exact h4 i b x (by omega) r
  · have r : (if i = Ω.length then t else ts i) b = some x := r
    show (if j = Ω.length then t else ts j) b = none
    by_cases hi : i = Ω.length
    · rw [if_pos hi] at r
      rw [if_neg (fun z => ne (hi.trans z.symm))]
      exact (h3 j (by omega)).free (n b x r)
    · rw [if_neg hi] at r
      by_cases hj : j = Ω.length
      · rw [if_pos hj]
        cases q : t b with
        | none => rfl
        | some y => exact (nn (h3 i (by omega) b x r) (n b y q)).elim
      · rw [if_neg hj]; exact h5 i j b x (by omega) (by omega) ne r
theorem sng_some {b : Addr} {x : HO} (e : upd (fun _ => none) p u b = some x) : b = p := by
  by_cases h : b = p
  · exact h
  · rw [upd_ne h] at e; cases e
theorem Holds.newL (h : Holds F Ω H) (n : H p = none) (ok : o.P F (upd (fun _ => none) p u)) : Holds F (Ω ++ [o]) (upd H p u) :=
  h.newO (t := upd (fun _ => none) p u) (fun b x e => by rw [sng_some e]; exact n) (same_upd n) (fun b x e => by
    have hb := sng_some e
    subst hb; rw [upd_same] at e ⊢; exact e) ok
/-- the thing at i: its part of the heap; it may be changed there -/
theorem Holds.get (h : Holds F Ω H) (q : Ω[i]? = some o) : ∃ t, o.P F t ∧ Same t H ∧ (∀ b x, t b = some x → F b = none) ∧
    ∀ (o' : OA) (a : Addr) (u u' : HO), t a = some u → o'.P F (upd t a u') → Holds F (Ω.set i o') (upd H a u') := by
  obtain ⟨ts, h1, h2, h3, h4, h5⟩ := h
  have lt := getlt q
  refine ⟨ts i, h1 i o q, h3 i lt, fun b x e => h4 i b x lt e, fun o' a u u' ha ok => ?_⟩
  have nF : F a = none := h4 i a u lt ha
  have tj : ∀ j, j < Ω.length → j ≠ i → ts j a = none := fun j lj ne => h5 i j a u lt lj (fun z => ne z.symm) ha
  refine ⟨fun k => if k = i then upd (ts i) a u' else ts k, fun k x r => ?_, fun b x e => ?_, fun k lk b x e => ?_, fun k b x lk e => ?_, fun k m b x lk lm ne e => ?_⟩
  · show x.P F (if k = i then _ else ts k)
    by_cases hk : k = i
    · subst hk
      rw [List.getElem?_set_self lt] at r; cases r; rw [if_pos rfl]; exact ok
    · rw [if_neg hk]
      rw [List.getElem?_set_ne (fun z => hk z.symm)] at r
      exact h1 k x r
  · rw [upd_ne (ne_of_none e nF)]; exact h2 b x e
  · rw [List.length_set] at lk
    have e : (if k = i then upd (ts i) a u' else ts k) b = some x := e
    by_cases hk : k = i
    · rw [if_pos hk] at e
      by_cases hb : b = a
      · subst hb; rw [upd_same] at e ⊢; exact e
      · rw [upd_ne hb] at e ⊢; exact h3 i lt b x e
    · rw [if_neg hk] at e
      rw [upd_ne (ne_of_none e (tj k lk hk))]; exact h3 k lk b x e
  · rw [List.length_set] at lk
    have e : (if k = i then upd (ts i) a u' else ts k) b = some x := e
    by_cases hk : k = i
    · rw [if_pos hk] at e
      by_cases hb : b = a
      · subst hb; exact nF
      · rw [upd_ne hb] at e; exact h4 i b x lt e
    · rw [if_neg hk] at e; exact h4 k b x lk e
  · rw [List.length_set] at lk lm
    have e : (if k = i then upd (ts i) a u' else ts k) b = some x := e
    show (if m = i then upd (ts i) a u' else ts m) b = none
    by_cases hk : k = i
    · rw [if_pos hk] at e
      have hm : m ≠ i := fun z => ne (hk.trans z.symm)
      rw [if_neg hm]
      by_cases hb : b = a
      · subst hb; exact tj m lm hm
      · rw [upd_ne hb] at e; exact h5 i m b x lt lm (fun z => hm z.symm) e
    · rw [if_neg hk] at e
      by_cases hm : m = i
      · rw [if_pos hm]
        have hb : b ≠ a := ne_of_none e (tj k lk hk)
        rw [upd_ne hb]; exact h5 k i b x lk lt hk e
      · rw [if_neg hm]; exact h5 k m b x lk lm ne e
/-- the last thing is left -/
theorem Holds.drop (h : Holds F (Ω ++ [o]) H) : Holds F Ω H := by
  obtain ⟨ts, h1, h2, h3, h4, h5⟩ := h
  have len : (Ω ++ [o]).length = Ω.length + 1 := by simp
  exact ⟨ts, fun i x q => h1 i x (app_lt q), h2, fun i q => h3 i (by omega), fun i b x q => h4 i b x (by omega), fun i j b x qi qj => h5 i j b x (by omega) (by omega)⟩
/-- two maps with nothing in common -/
def cup (F t : Hp) : Hp := fun b => match F b with | some o => some o | none => t b
theorem cup_l {F t : Hp} : Same F (cup F t) := fun b x e => by show (match F b with | some o => some o | none => t b) = _; rw [e]
theorem cup_r {F t : Hp} (d : ∀ b x, t b = some x → F b = none) : Same t (cup F t) := fun b x e => by show (match F b with | some o => some o | none => t b) = _; rw [d b x e]; exact e
theorem cup_or {F t : Hp} {b : Addr} {x : HO} (e : cup F t b = some x) : F b = some x ∨ t b = some x := by
  have e : (match F b with | some o => some o | none => t b) = some x := e
  cases h : F b with
  | none => rw [h] at e; exact .inr e
  | some y => rw [h] at e; exact .inl e
/-- the last thing becomes frozen -/
theorem Holds.freeze (h : Holds F (Ω ++ [o]) H) : ∃ F' t, Same F F' ∧ Same t F' ∧ o.P F t ∧ Holds F' Ω H := by
  obtain ⟨ts, h1, h2, h3, h4, h5⟩ := h
  have len : (Ω ++ [o]).length = Ω.length + 1 := by simp
  have d : ∀ b x, ts Ω.length b = some x → F b = none := fun b x e => h4 Ω.length b x (by omega) e
  refine ⟨cup F (ts Ω.length), ts Ω.length, cup_l, cup_r d, h1 _ _ app_at, ts, fun i x q => x.mono cup_l (h1 i x (app_lt q)), fun b x e => ?_, fun i q => h3 i (by omega), fun i b x q e => ?_, fun i j b x qi qj => h5 i j b x (by omega) (by omega)⟩
  · rcases cup_or e with e | e
    · exact h2 b x e
    · exact h3 Ω.length (by omega) b x e
  · cases z : cup F (ts Ω.length) b with
    | none => rfl
    | some y =>
      rcases cup_or z with z | z
      · exact (nn z (h4 i b x (by omega) e)).elim
      · exact (nn z (h5 i Ω.length b x (by omega) (by omega) (by omega) e)).elim
/-- the last thing is taken into the thing at i -/
theorem Holds.merge {o2 : OA} (h : Holds F (Ω ++ [o2]) H) (q : Ω[i]? = some o) : ∃ t t2, o.P F t ∧ o2.P F t2 ∧ Same t H ∧ Same t2 H ∧ (∀ b x, t b = some x → t2 b = none) ∧
    (∀ o' : OA, o'.P F (cup t t2) → Holds F (Ω.set i o') H) := by
  obtain ⟨ts, h1, h2, h3, h4, h5⟩ := h
  have len : (Ω ++ [o2]).length = Ω.length + 1 := by simp
  have lt := getlt q
  refine ⟨ts i, ts Ω.length, h1 i o (app_lt q), h1 _ _ app_at, h3 i (by omega), h3 _ (by omega), fun b x e => h5 i Ω.length b x (by omega) (by omega) (by omega) e, fun o' ok => ?_⟩
  refine ⟨fun k => if k = i then cup (ts i) (ts Ω.length) else ts k, fun k x r => ?_, h2, fun k lk b x e => ?_, fun k b x lk e => ?_, fun k m b x lk lm ne e => ?_⟩
  · show x.P F (if k = i then _ else ts k)
    by_cases hk : k = i
    · subst hk
      rw [List.getElem?_set_self lt] at r; cases r; rw [if_pos rfl]; exact ok
    · rw [if_neg hk]
      rw [List.getElem?_set_ne (fun z => hk z.symm)] at r
      exact h1 k x (app_lt r)
  · rw [List.length_set] at lk
    have e : (if k = i then cup (ts i) (ts Ω.length) else ts k) b = some x := e
    by_cases hk : k = i
    · rw [if_pos hk] at e
      rcases cup_or e with e | e
      · exact h3 i (by omega) b x e
      · exact h3 Ω.length (by omega) b x e
    · rw [if_neg hk] at e; exact h3 k (by omega) b x e
  · rw [List.length_set] at lk
    have e : (if k = i then cup (ts i) (ts Ω.length) else ts k) b = some x := e
    by_cases hk : k = i
    · rw [if_pos hk] at e
      rcases cup_or e with e | e
      · exact h4 i b x (by omega) e
      · exact h4 Ω.length b x (by omega) e
    · rw [if_neg hk] at e; exact h4 k b x (by omega) e
  · rw [List.length_set] at lk lm
    have e : (if k = i then cup (ts i) (ts Ω.length) else ts k) b = some x := e
    show (if m = i then cup (ts i) (ts Ω.length) else ts m) b = none
    by_cases hk : k = i
    · rw [if_pos hk] at e
      have hm : m ≠ i := fun z => ne (hk.trans z.symm)
      rw [if_neg hm]
      rcases cup_or e with e | e
      · exact h5 i m b x (by omega) (by omega) (by omega) e
      · exact h5 Ω.length m b x (by omega) (by omega) (by omega) e
    · rw [if_neg hk] at e
      by_cases hm : m = i
      · rw [if_pos hm]
        cases z : cup (ts i) (ts Ω.length) b with
        | none => rfl
        | some y =>
          rcases cup_or z with z | z
          · exact (nn z (h5 k i b x (by omega) (by omega) hk e)).elim
          · exact (nn z (h5 k Ω.length b x (by omega) (by omega) (by omega) e)).elim
      · rw [if_neg hm]; exact h5 k m b x (by omega) (by omega) ne e
end

/-! ### values by what they stand for -/
structure TC where
  K : PySem.W.Frag
  C : Nat → Addr
class Rp (α : Type) where
  rep : TC → Hp → V → α → Prop
  mono : ∀ {T : TC} {F F' : Hp} {v : V} {a : α}, Same F F' → rep T F v a → rep T F' v a
def va (T : TC) {α : Type} [Rp α] (a : α) : VA := ⟨fun F v => Rp.rep T F v a, Rp.mono⟩
def vr (p : Addr) : VA := ⟨fun _ v => v = .ref p, fun _ h => h⟩
def vx (v0 : V) : VA := ⟨fun _ v => v = v0, fun _ h => h⟩
instance : Rp Int := ⟨fun _ _ v n => v = .int n, fun _ h => h⟩
instance : Rp Bool := ⟨fun _ _ v n => v = .bl n, fun _ h => h⟩
instance : Rp Str := ⟨fun _ _ v n => v = .str n, fun _ h => h⟩
instance : Rp Unit := ⟨fun _ _ v _ => v = .non, fun _ h => h⟩
/-- a list that stays, a tuple of one kind, a pair, a triple -/
structure LF (α : Type) where
  l : List α
structure TF (α : Type) where
  l : List α
/-- the script -/
structure SF (α : Type) where
  l : List α
structure T3 (α β γ : Type) where
  a : α
  b : β
  c : γ
def Al {α : Type} [Rp α] (T : TC) (F : Hp) (vs : List V) (l : List α) : Prop := Paired (fun v a => Rp.rep T F v a) vs l
theorem Al.mono {α : Type} [Rp α] {T : TC} {F F' : Hp} (e : Same F F') : ∀ {vs : List V} {l : List α}, Al T F vs l → Al T F' vs l
  | _, _, .nil => .nil
  | _, _, .cons h t => .cons (Rp.mono e h) (Al.mono e t)
theorem Same.tup {K : PySem.W.Frag} {H H' : Hp} {a : Addr} {xs : List V} (e : Same H H') (h : SqT K H a xs) : SqT K H' a xs := by
  rcases h with (h | ⟨o, h⟩) | h
  · exact .inl (.inl (e _ _ h))
  · exact .inl (.inr ⟨o, e _ _ h⟩)
  · exact .inr h
instance {α : Type} [Rp α] : Rp (LF α) := ⟨fun T F v l => ∃ p vs, v = .ref p ∧ F p = some (.lst vs) ∧ Al T F vs l.l, fun e ⟨p, vs, h1, h2, h3⟩ => ⟨p, vs, h1, e _ _ h2, h3.mono e⟩⟩
instance {α : Type} [Rp α] : Rp (SF α) := ⟨fun T F v l => ∃ p vs, v = .ref p ∧ SqL T.K F p vs ∧ Al T F vs l.l, fun e ⟨p, vs, h1, h2, h3⟩ => ⟨p, vs, h1, e.seq h2, h3.mono e⟩⟩
instance {α : Type} [Rp α] : Rp (TF α) := ⟨fun T F v l => ∃ p vs, v = .ref p ∧ SqT T.K F p vs ∧ Al T F vs l.l, fun e ⟨p, vs, h1, h2, h3⟩ => ⟨p, vs, h1, Same.tup e h2, h3.mono e⟩⟩
instance {α β : Type} [Rp α] [Rp β] : Rp (α × β) := ⟨fun T F v l => ∃ p x y, v = .ref p ∧ SqT T.K F p [x, y] ∧ Rp.rep T F x l.1 ∧ Rp.rep T F y l.2, fun e ⟨p, x, y, h1, h2, h3, h4⟩ => ⟨p, x, y, h1, Same.tup e h2, Rp.mono e h3, Rp.mono e h4⟩⟩
instance {α β γ : Type} [Rp α] [Rp β] [Rp γ] : Rp (T3 α β γ) := ⟨fun T F v l => ∃ p x y z, v = .ref p ∧ SqT T.K F p [x, y, z] ∧ Rp.rep T F x l.a ∧ Rp.rep T F y l.b ∧ Rp.rep T F z l.c, fun e ⟨p, x, y, z, h1, h2, h3, h4, h5⟩ => ⟨p, x, y, z, h1, Same.tup e h2, Rp.mono e h3, Rp.mono e h4, Rp.mono e h5⟩⟩
theorem al_int {T : TC} {F : Hp} : ∀ {vs : List V} {l : List Int}, Al T F vs l → vs = l.map V.int
  | _, _, .nil => rfl
  | _, _, .cons h t => by rw [List.map_cons, ← al_int t, show _ = V.int _ from h]
theorem al_of_int {T : TC} {F : Hp} : ∀ {l : List Int}, Al T F (l.map V.int) l
  | [] => .nil
  | x :: r => .cons (show V.int x = V.int x from rfl) al_of_int
theorem al_len {α : Type} [Rp α] {T : TC} {F : Hp} : ∀ {vs : List V} {l : List α}, Al T F vs l → vs.length = l.length
  | _, _, .nil => rfl
  | _, _, .cons _ t => congrArg (· + 1) (al_len t)
theorem al_get {α : Type} [Rp α] {T : TC} {F : Hp} : ∀ {vs : List V} {l : List α} {i : Nat} {a : α}, Al T F vs l → l[i]? = some a → ∃ v, vs[i]? = some v ∧ Rp.rep T F v a
  | _, _, _, _, .nil, e => by simp at e
  | _, _, 0, _, .cons h _, e => by cases e; exact ⟨_, rfl, h⟩
  | _, _, i + 1, _, .cons _ t, e => al_get (i := i) t e
theorem al_set {α : Type} [Rp α] {T : TC} {F : Hp} {v : V} {a : α} (h : Rp.rep T F v a) : ∀ {vs : List V} {l : List α} (i : Nat), Al T F vs l → Al T F (vs.set i v) (l.set i a)
  | _, _, _, .nil => .nil
  | _, _, 0, .cons _ t => .cons h t
  | _, _, i + 1, .cons q t => .cons q (al_set h i t)
theorem al_app {α : Type} [Rp α] {T : TC} {F : Hp} : ∀ {vs ws : List V} {l m : List α}, Al T F vs l → Al T F ws m → Al T F (vs ++ ws) (l ++ m)
  | _, _, _, _, .nil, h => h
  | _, _, _, _, .cons q t, h => .cons q (al_app t h)
theorem al_take {α : Type} [Rp α] {T : TC} {F : Hp} : ∀ {vs : List V} {l : List α} (n : Nat), Al T F vs l → Al T F (vs.take n) (l.take n)
  | _, _, 0, _ => .nil
  | _, _, _ + 1, .nil => .nil
  | _, _, n + 1, .cons q t => .cons q (al_take n t)
theorem al_drop {α : Type} [Rp α] {T : TC} {F : Hp} : ∀ {vs : List V} {l : List α} (n : Nat), Al T F vs l → Al T F (vs.drop n) (l.drop n)
  | _, _, 0, h => h
  | _, _, _ + 1, .nil => .nil
  | _, _, n + 1, .cons _ t => al_drop n t
/-- a list that changes -/
def lstA (T : TC) {α : Type} [Rp α] (p : Addr) (l : List α) : OA := ⟨fun F t => ∃ vs, t p = some (.lst vs) ∧ Al T F vs l, fun e ⟨vs, h1, h2⟩ => ⟨vs, h1, h2.mono e⟩⟩

/-! ### slots -/
def Env (F : Hp) (σ : St) (Γ : List (Option VA)) : Prop := σ.length = Γ.length ∧ ∀ (i : Nat) (A : VA), Γ[i]? = some (some A) → ∃ v, σ[i]? = some (some v) ∧ A.P F v
theorem Env.mono {F F' : Hp} {σ : St} {Γ : List (Option VA)} (h : Env F σ Γ) (e : Same F F') : Env F' σ Γ := ⟨h.1, fun i A q => let ⟨v, h1, h2⟩ := h.2 i A q; ⟨v, h1, A.mono e h2⟩⟩
theorem Env.set {F : Hp} {σ : St} {Γ : List (Option VA)} {i : Nat} {v : V} {A : VA} (h : Env F σ Γ) (a : A.P F v) : Env F (σ.set i (some v)) (Γ.set i (some A)) := by
  refine ⟨by rw [List.length_set, List.length_set]; exact h.1, fun k B q => ?_⟩
  by_cases hk : i = k
  · subst hk
    have lt : i < Γ.length := by have := getlt q; rwa [List.length_set] at this
    rw [List.getElem?_set_self lt] at q
    cases q
    exact ⟨v, by rw [List.getElem?_set_self (by rw [h.1]; exact lt)], a⟩
  · rw [List.getElem?_set_ne hk] at q
    obtain ⟨w, h1, h2⟩ := h.2 k B q
    exact ⟨w, by rw [List.getElem?_set_ne hk]; exact h1, h2⟩
/-- what is known of slots is left -/
theorem Env.weak {F : Hp} {σ : St} {Γ Γ' : List (Option VA)} (h : Env F σ Γ) (hl : Γ'.length = Γ.length) (k : ∀ (i : Nat) A, Γ'[i]? = some (some A) → Γ[i]? = some (some A)) : Env F σ Γ' := ⟨h.1.trans hl.symm, fun i A q => h.2 i A (k i A q)⟩

/-! ### expressions -/
def XG (te : TE) (Γ : List (Option VA)) (Ω : List OA) (R : Hp → V → List OA → Prop) : Prop :=
  ∀ F σ H, Env F σ Γ → Holds F Ω H → ∀ Q : VK, (∀ F' v H' Ω', Same F F' → Holds F' Ω' H' → R F' v Ω' → Q v H') → te σ H Q
abbrev XE (te : TE) (Γ : List (Option VA)) (Ω : List OA) (A : VA) (Ω2 : List OA) : Prop := XG te Γ Ω fun F v Ω' => A.P F v ∧ Ω' = Ω2
def XT (t : TT) (Γ : List (Option VA)) (Ω : List OA) (b : Bool) (Ω2 : List OA) : Prop :=
  ∀ F σ H, Env F σ Γ → Holds F Ω H → ∀ Q : Bool → Hp → Prop, (∀ F' H', Same F F' → Holds F' Ω2 H' → Q b H') → t σ H Q
def AlA (F : Hp) (vs : List V) (As : List VA) : Prop := Paired (fun v (A : VA) => A.P F v) vs As
theorem AlA.mono {F F' : Hp} (e : Same F F') : ∀ {vs : List V} {As : List VA}, AlA F vs As → AlA F' vs As
  | _, _, .nil => .nil
  | _, _, .cons (b := A) h t => .cons (A.mono e h) (AlA.mono e t)
theorem AlA.len {F : Hp} : ∀ {vs : List V} {As : List VA}, AlA F vs As → vs.length = As.length
  | _, _, .nil => rfl
  | _, _, .cons _ t => congrArg (· + 1) (AlA.len t)
theorem AlA.app {F : Hp} : ∀ {vs ws : List V} {As Bs : List VA}, AlA F vs As → AlA F ws Bs → AlA F (vs ++ ws) (As ++ Bs)
  | _, _, _, _, .nil, h => h
  | _, _, _, _, .cons q t, h => .cons q (AlA.app t h)
def XA (t : TA) (Γ : List (Option VA)) (Ω : List OA) (As : List VA) (Ω2 : List OA) : Prop :=
  ∀ F σ H, Env F σ Γ → Holds F Ω H → ∀ Q : List V → Hp → Prop, (∀ F' vs H', Same F F' → Holds F' Ω2 H' → AlA F' vs As → Q vs H') → t σ H Q
/-- a one-place, two-place operation on values, a call on values -/
def RO (r : R2) (Ω : List OA) (A B C : VA) : Prop := ∀ F H x y, Holds F Ω H → A.P F x → B.P F y → ∀ Q : VK, (∀ F' v H', Same F F' → Holds F' Ω H' → C.P F' v → Q v H') → r x y H Q
def RU (r : V → Hp → VK → Prop) (Ω : List OA) (A C : VA) : Prop := ∀ F H x, Holds F Ω H → A.P F x → ∀ Q : VK, (∀ F' v H', Same F F' → Holds F' Ω H' → C.P F' v → Q v H') → r x H Q
def RC (r : List V → Hp → VK → Prop) (Ω : List OA) (As : List VA) (C : VA) : Prop := ∀ F H vs, Holds F Ω H → AlA F vs As → ∀ Q : VK, (∀ F' v H', Same F F' → Holds F' Ω H' → C.P F' v → Q v H') → r vs H Q

section
variable {T : TC} {Γ : List (Option VA)} {Ω Ω1 Ω2 : List OA} {A B C : VA} {ta tb te : TE} {t u : TT} {i j n m : Int} {b c : Bool}
theorem xe_var {i : Nat} (h : Γ[i]? = some (some A)) : XE (tVar i) Γ Ω A Ω := fun F σ H e hh Q q => by
  obtain ⟨v, h1, h2⟩ := e.2 i A h
  exact ⟨v, h1, q F v H Ω (Same.refl F) hh ⟨h2, rfl⟩⟩
theorem xe_c {v : V} (h : ∀ F, A.P F v) : XE (tC v) Γ Ω A Ω := fun F σ H e hh Q q => q F v H Ω (Same.refl F) hh ⟨h F, rfl⟩
theorem xe_int : XE (tC (.int n)) Γ Ω (va T n) Ω := xe_c fun _ => rfl
theorem xe_bl : XE (tC (.bl b)) Γ Ω (va T b) Ω := xe_c fun _ => rfl
theorem xe_str {s : Str} : XE (tC (.str s)) Γ Ω (va T s) Ω := xe_c fun _ => rfl
theorem xe_op {r : R2} (ha : XE ta Γ Ω A Ω1) (hb : XE tb Γ Ω1 B Ω2) (hr : RO r Ω2 A B C) : XE (tOp r ta tb) Γ Ω C Ω2 := fun F σ H e hh Q q => by
  refine ha F σ H e hh _ fun F1 x H1 Ω' e1 hh1 ⟨a1, o1⟩ => ?_
  subst o1
  refine hb F1 σ H1 (e.mono e1) hh1 _ fun F2 y H2 Ω'' e2 hh2 ⟨a2, o2⟩ => ?_
  subst o2
  exact hr F2 H2 x y hh2 (A.mono e2 a1) a2 Q fun F3 v H3 e3 hh3 a3 => q F3 v H3 _ ((e1.trans e2).trans e3) hh3 ⟨a3, rfl⟩
theorem xe_un {r : V → Hp → VK → Prop} (ha : XE ta Γ Ω A Ω1) (hr : RU r Ω1 A C) : XE (tUn r ta) Γ Ω C Ω1 := fun F σ H e hh Q q => by
  refine ha F σ H e hh _ fun F1 x H1 Ω' e1 hh1 ⟨a1, o1⟩ => ?_
  subst o1
  exact hr F1 H1 x hh1 a1 Q fun F3 v H3 e3 hh3 a3 => q F3 v H3 _ (e1.trans e3) hh3 ⟨a3, rfl⟩
theorem xa_nil : XA tNil Γ Ω [] Ω := fun F σ H e hh Q q => q F [] H (Same.refl F) hh .nil
theorem xa_cons {tr : TA} {As : List VA} (ha : XE ta Γ Ω A Ω1) (hr : XA tr Γ Ω1 As Ω2) : XA (tCons ta tr) Γ Ω (A :: As) Ω2 := fun F σ H e hh Q q => by
  refine ha F σ H e hh _ fun F1 x H1 Ω' e1 hh1 ⟨a1, o1⟩ => ?_
  subst o1
  refine hr F1 σ H1 (e.mono e1) hh1 _ fun F2 xs H2 e2 hh2 a2 => ?_
  exact q F2 (x :: xs) H2 (e1.trans e2) hh2 (.cons (A.mono e2 a1) a2)
theorem xe_cb {r : List V → Hp → VK → Prop} {t : TA} {As : List VA} (ha : XA t Γ Ω As Ω1) (hr : RC r Ω1 As C) : XE (tCB r t) Γ Ω C Ω1 := fun F σ H e hh Q q => by
  refine ha F σ H e hh _ fun F1 xs H1 e1 hh1 a1 => ?_
  exact hr F1 H1 xs hh1 a1 Q fun F3 v H3 e3 hh3 a3 => q F3 v H3 _ (e1.trans e3) hh3 ⟨a3, rfl⟩
/-- the same with another word for it -/
theorem XG.imp {R R' : Hp → V → List OA → Prop} (h : XG te Γ Ω R) (k : ∀ F v Ω', R F v Ω' → R' F v Ω') : XG te Γ Ω R' := fun F σ H e hh Q q => h F σ H e hh Q fun F' v H' Ω' e' hh' r => q F' v H' Ω' e' hh' (k _ _ _ r)
theorem XE.to (h : XE te Γ Ω A Ω1) (k : ∀ F v, A.P F v → B.P F v) : XE te Γ Ω B Ω1 := h.imp fun F v Ω' ⟨a, o⟩ => ⟨k F v a, o⟩
theorem xe_eq {α : Type} [Rp α] {a a' : α} (h : XE te Γ Ω (va T a) Ω1) (e : a = a') : XE te Γ Ω (va T a') Ω1 := e ▸ h

/-! ints -/
theorem ro_I0 {g : Int → Int → V} (h : ∀ F, C.P F (g i j)) : RO (rI0 g) Ω (va T i) (va T j) C := fun F H x y hh a1 a2 Q q => ⟨i, j, a1, a2, q F _ H (Same.refl F) hh (h F)⟩
theorem ro_I {D : Int → Int → Prop} {g : Int → Int → V} (hd : D i j) (h : ∀ F, C.P F (g i j)) : RO (rI D g) Ω (va T i) (va T j) C := fun F H x y hh a1 a2 Q q => ⟨i, j, a1, a2, hd, q F _ H (Same.refl F) hh (h F)⟩
theorem ro_int {g : Int → Int → Int} : RO (rI0 fun i j => .int (g i j)) Ω (va T i) (va T j) (va T (g i j)) := ro_I0 fun _ => rfl
theorem ro_intD {D : Int → Int → Prop} {g : Int → Int → Int} (hd : D i j) : RO (rI D fun i j => .int (g i j)) Ω (va T i) (va T j) (va T (g i j)) := ro_I hd fun _ => rfl
theorem ro_bl {g : Int → Int → Bool} : RO (rI0 fun i j => .bl (g i j)) Ω (va T i) (va T j) (va T (g i j)) := ro_I0 fun _ => rfl
theorem ru_int {g : Int → Int} : RU (rU fun i => .int (g i)) Ω (va T i) (va T (g i)) := fun F H x hh a1 Q q => ⟨i, a1, q F _ H (Same.refl F) hh rfl⟩
theorem ro_eqI : RO rEq Ω (va T i) (va T j) (va T (decide (i = j))) := fun F H x y hh a1 a2 Q q => by
  have a1 : x = .int i := a1
  have a2 : y = .int j := a2
  subst a1 a2
  refine ⟨rfl, q F _ H (Same.refl F) hh ?_⟩
  show V.bl _ = V.bl _
  congr 1
  exact decide_eq_decide.mpr ⟨V.int.inj, fun h => by rw [h]⟩
theorem ro_neI : RO rNe Ω (va T i) (va T j) (va T (!decide (i = j))) := fun F H x y hh a1 a2 Q q => by
  have a1 : x = .int i := a1
  have a2 : y = .int j := a2
  subst a1 a2
  refine ⟨rfl, q F _ H (Same.refl F) hh ?_⟩
  show V.bl _ = V.bl _
  congr 2
  exact decide_eq_decide.mpr ⟨V.int.inj, fun h => by rw [h]⟩
theorem ro_eqB : RO rEq Ω (va T b) (va T c) (va T (decide (b = c))) := fun F H x y hh a1 a2 Q q => by
  have a1 : x = .bl b := a1
  have a2 : y = .bl c := a2
  subst a1 a2
  refine ⟨rfl, q F _ H (Same.refl F) hh ?_⟩
  show V.bl _ = V.bl _
  congr 1
  exact decide_eq_decide.mpr ⟨V.bl.inj, fun h => by rw [h]⟩
/-! tests -/
theorem xt_test (h : XE te Γ Ω (va T b) Ω1) : XT (tTest te) Γ Ω b Ω1 := fun F σ H e hh Q q => by
  refine h F σ H e hh _ fun F1 x H1 Ω' e1 hh1 ⟨a1, o1⟩ => ?_
  subst o1
  exact ⟨b, a1, q F1 H1 e1 hh1⟩
theorem xt_tB (h : XE te Γ Ω (va T b) Ω1) : XT (tB te) Γ Ω b Ω1 := xt_test (T := T) h
theorem xt_and (h1 : XT t Γ Ω b Ω1) (h2 : b = true → XT u Γ Ω1 c Ω2) (h3 : b = false → Ω1 = Ω2) : XT (tAnd t u) Γ Ω (b && c) Ω2 := fun F σ H e hh Q q => by
  refine h1 F σ H e hh _ fun F1 H1 e1 hh1 => ?_
  cases b with
  | true => rw [if_pos rfl]; exact h2 rfl F1 σ H1 (e.mono e1) hh1 Q fun F2 H2 e2 hh2 => q F2 H2 (e1.trans e2) hh2
  | false => rw [if_neg Bool.false_ne_true]; exact q F1 H1 e1 (h3 rfl ▸ hh1)
theorem xt_or (h1 : XT t Γ Ω b Ω1) (h2 : b = false → XT u Γ Ω1 c Ω2) (h3 : b = true → Ω1 = Ω2) : XT (tOr t u) Γ Ω (b || c) Ω2 := fun F σ H e hh Q q => by
  refine h1 F σ H e hh _ fun F1 H1 e1 hh1 => ?_
  cases b with
  | false => rw [if_neg Bool.false_ne_true]; exact h2 rfl F1 σ H1 (e.mono e1) hh1 Q fun F2 H2 e2 hh2 => q F2 H2 (e1.trans e2) hh2
  | true => rw [if_pos rfl]; exact q F1 H1 e1 (h3 rfl ▸ hh1)
theorem xt_not (h1 : XT t Γ Ω b Ω1) : XT (tNot t) Γ Ω (!b) Ω1 := fun F σ H e hh Q q => h1 F σ H e hh _ q
theorem xt_eq (h : XT t Γ Ω b Ω1) (e : b = c) : XT t Γ Ω c Ω1 := e ▸ h
theorem xe_if (h : XT t Γ Ω b Ω1) (h1 : b = true → XE ta Γ Ω1 A Ω2) (h2 : b = false → XE tb Γ Ω1 A Ω2) : XE (tIf t ta tb) Γ Ω A Ω2 := fun F σ H e hh Q q => by
  refine h F σ H e hh _ fun F1 H1 e1 hh1 => ?_
  cases b with
  | true => rw [if_pos rfl]; exact h1 rfl F1 σ H1 (e.mono e1) hh1 Q fun F2 v H2 Ω' e2 hh2 r => q F2 v H2 Ω' (e1.trans e2) hh2 r
  | false => rw [if_neg Bool.false_ne_true]; exact h2 rfl F1 σ H1 (e.mono e1) hh1 Q fun F2 v H2 Ω' e2 hh2 r => q F2 v H2 Ω' (e1.trans e2) hh2 r
theorem xe_andV (h1 : XE ta Γ Ω (va T b) Ω) (h2 : b = true → XE tb Γ Ω (va T c) Ω) : XE (tAndV ta tb) Γ Ω (va T (b && c)) Ω := fun F σ H e hh Q q => by
  refine h1 F σ H e hh _ fun F1 x H1 Ω' e1 hh1 ⟨a1, o1⟩ => ?_
  subst o1
  refine ⟨b, a1, ?_⟩
  cases b with
  | true => rw [if_pos rfl]; exact h2 rfl F1 σ H1 (e.mono e1) hh1 Q fun F2 v H2 Ω'' e2 hh2 r => q F2 v H2 Ω'' (e1.trans e2) hh2 r
  | false => rw [if_neg Bool.false_ne_true]; exact q F1 _ H1 _ e1 hh1 ⟨rfl, rfl⟩
theorem xe_notV (h1 : XE ta Γ Ω (va T b) Ω1) : XE (tNotV ta) Γ Ω (va T (!b)) Ω1 := fun F σ H e hh Q q => by
  refine h1 F σ H e hh _ fun F1 x H1 Ω' e1 hh1 ⟨a1, o1⟩ => ?_
  exact ⟨b, a1, q F1 _ H1 _ e1 hh1 ⟨rfl, o1⟩⟩
theorem xe_chain {r r' : R2} {D : VA} {tc : TE} (ha : XE ta Γ Ω A Ω) (hb : XE tb Γ Ω B Ω) (hr : RO r Ω A B (va T b)) (hc : b = true → XE tc Γ Ω D Ω) (hr' : b = true → RO r' Ω B D (va T c)) : XE (tChain r r' ta tb tc) Γ Ω (va T (b && c)) Ω := fun F σ H e hh Q q => by
  refine ha F σ H e hh _ fun F1 x H1 Ω' e1 hh1 ⟨a1, o1⟩ => ?_
  subst o1
  refine hb F1 σ H1 (e.mono e1) hh1 _ fun F2 y H2 Ω'' e2 hh2 ⟨a2, o2⟩ => ?_
  subst o2
  refine hr F2 H2 x y hh2 (A.mono e2 a1) a2 _ fun F3 v H3 e3 hh3 a3 => ⟨b, a3, ?_⟩
  cases b with
  | true =>
    rw [if_pos rfl]
    refine hc rfl F3 σ H3 (e.mono ((e1.trans e2).trans e3)) hh3 _ fun F4 z H4 Ω3 e4 hh4 ⟨a4, o4⟩ => ?_
    subst o4
    exact hr' rfl F4 H4 y z hh4 (B.mono (e3.trans e4) a2) a4 Q fun F5 w H5 e5 hh5 a5 => q F5 w H5 _ ((((e1.trans e2).trans e3).trans e4).trans e5) hh5 ⟨a5, rfl⟩
  | false => rw [if_neg Bool.false_ne_true]; exact q F3 _ H3 _ ((e1.trans e2).trans e3) hh3 ⟨rfl, rfl⟩
end
end VL

set_option Elab.async false
set_option linter.all false
set_option maxRecDepth 100000
/-! lists, fields, calls, statements -/
namespace VL
open PySem L2

/-! ### defs' promises -/
/-- a promise: of the arguments As in the state Ω, what comes of it -/
abbrev PreT := List VA → List OA → (Hp → V → List OA → Prop) → Prop
def mkSp (Pre : PreT) : Sp := fun vs H Q _ => ∃ F Ω As R, Pre As Ω R ∧ AlA F vs As ∧ Holds F Ω H ∧ ∀ F' v H' Ω', Same F F' → Holds F' Ω' H' → R F' v Ω' → Q v H'
/-- hands back a, leaves Ω2 -/
abbrev RV (A : VA) (Ω2 : List OA) : Hp → V → List OA → Prop := fun F v Ω' => A.P F v ∧ Ω' = Ω2
/-- hands back a new changing thing -/
abbrev RN (Ω2 : List OA) (o : Addr → OA) : Hp → V → List OA → Prop := fun F v Ω' => ∃ p, v = .ref p ∧ Ω' = Ω2 ++ [o p]

/-! ### the changing things by place: those of the caller at the places ks, then a def's own -/
def apk (Ω : List OA) : List (Nat × OA) → List OA
  | [] => Ω
  | p :: r => (apk Ω r).set p.1 p.2
def stt (Ω : List OA) (ks : List (Nat × OA)) (L : List OA) : List OA := apk Ω ks ++ L
theorem apk_len {Ω : List OA} : ∀ ks : List (Nat × OA), (apk Ω ks).length = Ω.length
  | [] => rfl
  | p :: r => by unfold apk; rw [List.length_set, apk_len r]
/-- the places differ and are there -/
structure Okk (Ω : List OA) (keys : List Nat) : Prop where
  nd : keys.Nodup
  lt : ∀ k ∈ keys, k < Ω.length
theorem apk_get {Ω : List OA} : ∀ {ks : List (Nat × OA)} {i : Nat} {k : Nat} {o : OA}, (ks.map (·.1)).Nodup → k < Ω.length → ks[i]? = some (k, o) → (apk Ω ks)[k]? = some o
  | [], _, _, _, _, _, h => by simp at h
  | p :: r, 0, k, o, _, lt, h => by
    cases h
    unfold apk
    rw [List.getElem?_set_self (by rw [apk_len]; exact lt)]
  | p :: r, i + 1, k, o, nd, lt, h => by
    have h : r[i]? = some (k, o) := h
    unfold apk
    obtain ⟨h1, h2⟩ := List.nodup_cons.mp (show (p.1 :: r.map (·.1)).Nodup from nd)
    have ne : p.1 ≠ k := fun e => h1 (List.mem_map.mpr ⟨(k, o), List.mem_of_getElem? h, e.symm⟩)
    rw [List.getElem?_set_ne ne]
    exact apk_get h2 lt h
theorem apk_set {Ω : List OA} : ∀ {ks : List (Nat × OA)} {i : Nat} {k : Nat} {o o' : OA}, (ks.map (·.1)).Nodup → ks[i]? = some (k, o) → (apk Ω ks).set k o' = apk Ω (ks.set i (k, o'))
  | [], _, _, _, _, _, h => by simp at h
  | p :: r, 0, k, o, o', _, h => by
    cases h
    show ((apk Ω r).set k o).set k o' = (apk Ω r).set k o'
    rw [List.set_set]
  | p :: r, i + 1, k, o, o', nd, h => by
    have h : r[i]? = some (k, o) := h
    obtain ⟨h1, h2⟩ := List.nodup_cons.mp (show (p.1 :: r.map (·.1)).Nodup from nd)
    have ne : p.1 ≠ k := fun e => h1 (List.mem_map.mpr ⟨(k, o), List.mem_of_getElem? h, e.symm⟩)
    show ((apk Ω r).set p.1 p.2).set k o' = (apk Ω (r.set i (k, o'))).set p.1 p.2
    rw [List.set_comm _ _ ne, apk_set h2 h]
theorem apk_self {Ω : List OA} : ∀ {ks : List (Nat × OA)}, (∀ p ∈ ks, Ω[p.1]? = some p.2) → apk Ω ks = Ω
  | [], _ => rfl
  | p :: r, h => by
    unfold apk
    rw [apk_self fun q hq => h q (List.mem_cons_of_mem _ hq)]
    apply List.ext_getElem?
    intro k
    have hp := h p List.mem_cons_self
    by_cases e : p.1 = k
    · subst e; rw [List.getElem?_set_self (getlt hp), hp]
    · rw [List.getElem?_set_ne e]
section
variable {Ω : List OA} {keys : List Nat} {ks : List (Nat × OA)} {L : List OA} {i j k : Nat} {o o' : OA}
theorem stt_get (ok : Okk Ω keys) (h : ks[i]? = some (k, o)) (hk : ks.map (·.1) = keys := by rfl) : (stt Ω ks L)[k]? = some o := by
  subst hk
  have hm : k ∈ ks.map (·.1) := List.mem_map.mpr ⟨(k, o), List.mem_of_getElem? h, rfl⟩
  have lt := ok.lt k hm
  unfold stt
  rw [List.getElem?_append_left (by rw [apk_len]; exact lt)]
  exact apk_get ok.nd lt h
theorem stt_set (ok : Okk Ω keys) (h : ks[i]? = some (k, o)) (hk : ks.map (·.1) = keys := by rfl) : (stt Ω ks L).set k o' = stt Ω (ks.set i (k, o')) L := by
  subst hk
  have hm : k ∈ ks.map (·.1) := List.mem_map.mpr ⟨(k, o), List.mem_of_getElem? h, rfl⟩
  have lt := ok.lt k hm
  unfold stt
  rw [List.set_append_left _ _ (by rw [apk_len]; exact lt), apk_set ok.nd h]
theorem stt_getL (h : L[j]? = some o) : (stt Ω ks L)[Ω.length + j]? = some o := by
  unfold stt
  rw [List.getElem?_append_right (by rw [apk_len]; omega), apk_len, Nat.add_sub_cancel_left]
  exact h
theorem stt_setL : (stt Ω ks L).set (Ω.length + j) o' = stt Ω ks (L.set j o') := by
  unfold stt
  rw [List.set_append_right _ _ (by rw [apk_len]; omega), apk_len, Nat.add_sub_cancel_left]
theorem stt_app : stt Ω ks L ++ [o] = stt Ω ks (L ++ [o]) := List.append_assoc _ _ _
theorem stt_self (h : ∀ p ∈ ks, Ω[p.1]? = some p.2) : stt Ω ks [] = Ω := by
  unfold stt
  rw [apk_self h, List.append_nil]
theorem stt_nil : stt Ω ks [] = apk Ω ks := List.append_nil _
theorem apk_out {Ω : List OA} : ∀ {ks : List (Nat × OA)}, k ∉ ks.map (·.1) → (apk Ω ks)[k]? = Ω[k]?
  | [], _ => rfl
  | p :: r, h => by
    unfold apk
    have h : k ∉ p.1 :: r.map (·.1) := h
    rw [List.getElem?_set_ne (fun e => h (by rw [e]; exact List.mem_cons_self))]
    exact apk_out fun m => h (List.mem_cons_of_mem _ m)
theorem stt_getU (h : Ω[k]? = some o) (hn : k ∉ ks.map (·.1) := by simp) : (stt Ω ks L)[k]? = some o := by
  unfold stt
  rw [List.getElem?_append_left (by rw [apk_len]; exact getlt h), apk_out hn]
  exact h
theorem cal0 : stt (stt Ω ks L) [] [] = stt Ω ks L := List.append_nil _
theorem stt_one {Ω : List OA} : stt Ω [(k, o)] [] = Ω.set k o := List.append_nil _
theorem cal1 (ok : Okk Ω keys) (h : ks[i]? = some (k, o)) (hk : ks.map (·.1) = keys := by rfl) : stt (stt Ω ks L) [(k, o')] [] = stt Ω (ks.set i (k, o')) L := stt_one.trans (stt_set ok h hk)
theorem cal1L : stt (stt Ω ks L) [(Ω.length + j, o')] [] = stt Ω ks (L.set j o') := stt_one.trans stt_setL
theorem okk0 : Okk Ω [] := ⟨by simp, fun k h => by cases h⟩
theorem okk1 (h : Ω[k]? = some o) : Okk Ω [k] := ⟨by simp, fun m hm => by rw [List.mem_singleton.mp hm]; exact getlt h⟩
end
section
variable {T : TC} {Γ : List (Option VA)} {Ω Ω1 Ω2 : List OA} {A B C : VA} {As : List VA} {ta tb te : TE} {t u : TT} {i j n m : Int} {b c : Bool}
theorem xg_call {Pre : PreT} {E : XK} {t : TA} {R : Hp → V → List OA → Prop} (ha : XA t Γ Ω As Ω1) (hp : Pre As Ω1 R) : XG (tCall (mkSp Pre) [] E t) Γ Ω R := fun F σ H e hh Q q => by
  refine ha F σ H e hh _ fun F1 xs H1 e1 hh1 a1 => ?_
  refine ⟨F1, Ω1, As, R, hp, by rw [List.append_nil]; exact a1, hh1, fun F' v H' Ω' e' hh' r => q F' v H' Ω' (e1.trans e') hh' r⟩
/-! ### the state ahead of a statement -/
def NX (F0 : Hp) (Γ : List (Option VA)) (Ω : List OA) : St → Hp → Prop := fun σ H => ∃ F, Same F0 F ∧ Env F σ Γ ∧ Holds F Ω H
def RT (F0 : Hp) (R : Hp → V → List OA → Prop) : VK → Prop := fun Q => ∀ F v H Ω, Same F0 F → Holds F Ω H → R F v Ω → Q v H
def XS (t : TS) (D : Ends) (F0 : Hp) (Γ : List (Option VA)) (Ω : List OA) : Prop := ∀ σ H, NX F0 Γ Ω σ H → t D σ H
theorem RT.mono {F0 F1 : Hp} {R : Hp → V → List OA → Prop} {Q : VK} (k : RT F0 R Q) (e : Same F0 F1) : RT F1 R Q := fun F v H Ω f hh r => k F v H Ω (e.trans f) hh r
variable {D : Ends} {F0 : Hp} {t1 t2 ts : TS} {R : Hp → V → List OA → Prop}
theorem xs_set {k : Nat} (h : XE te Γ Ω A Ω1) (q : XS ts D F0 (Γ.set k (some A)) Ω1) : XS (tSeq (tAsg te (gName k)) ts) D F0 Γ Ω := fun σ H ⟨F, f0, e, hh⟩ =>
  h F σ H e hh _ fun F1 v H1 Ω' e1 hh1 ⟨a1, o1⟩ => q _ H1 ⟨F1, f0.trans e1, (e.mono e1).set a1, o1 ▸ hh1⟩
theorem xs_setN {k : Nat} {o : Addr → OA} (h : XG te Γ Ω (RN Ω1 o)) (q : ∀ p, XS ts D F0 (Γ.set k (some (vr p))) (Ω1 ++ [o p])) : XS (tSeq (tAsg te (gName k)) ts) D F0 Γ Ω := fun σ H ⟨F, f0, e, hh⟩ =>
  h F σ H e hh _ fun F1 v H1 Ω' e1 hh1 ⟨p, a1, o1⟩ => q p _ H1 ⟨F1, f0.trans e1, (e.mono e1).set (A := vr p) a1, o1 ▸ hh1⟩
theorem xs_drop (h : XE te Γ Ω A Ω1) (q : XS ts D F0 Γ Ω1) : XS (tSeq (tDrop te) ts) D F0 Γ Ω := fun σ H ⟨F, f0, e, hh⟩ =>
  h F σ H e hh _ fun F1 v H1 Ω' e1 hh1 ⟨_, o1⟩ => q σ H1 ⟨F1, f0.trans e1, e.mono e1, o1 ▸ hh1⟩
/-- the same as the block's last statement -/
theorem xs_set1 {k : Nat} (h : XE te Γ Ω A Ω1) (q : ∀ σ H, NX F0 (Γ.set k (some A)) Ω1 σ H → D.nx σ H) : XS (tAsg te (gName k)) D F0 Γ Ω := fun σ H ⟨F, f0, e, hh⟩ =>
  h F σ H e hh _ fun F1 v H1 Ω' e1 hh1 ⟨a1, o1⟩ => q _ H1 ⟨F1, f0.trans e1, (e.mono e1).set a1, o1 ▸ hh1⟩
theorem xs_drop1 (h : XE te Γ Ω A Ω1) (q : ∀ σ H, NX F0 Γ Ω1 σ H → D.nx σ H) : XS (tDrop te) D F0 Γ Ω := fun σ H ⟨F, f0, e, hh⟩ =>
  h F σ H e hh _ fun F1 v H1 Ω' e1 hh1 ⟨_, o1⟩ => q σ H1 ⟨F1, f0.trans e1, e.mono e1, o1 ▸ hh1⟩
theorem xs_ret (h : XG te Γ Ω R) (q : RT F0 R D.rt) : XS (tRet te) D F0 Γ Ω := fun σ H ⟨F, f0, e, hh⟩ =>
  h F σ H e hh _ fun F1 v H1 Ω' e1 hh1 r => q F1 v H1 Ω' (f0.trans e1) hh1 r
/-- what is made in a def and not told is left -/
theorem RT.drop {Q : VK} {A : VA} {o : OA} (k : RT F0 (RV A Ω) Q) : RT F0 (RV A (Ω ++ [o])) Q := fun F v H Ω' f hh ⟨a, e⟩ => by
  subst e
  exact k F v H Ω f hh.drop ⟨a, rfl⟩
theorem RT.fz {α : Type} [Rp α] {Q : VK} {l : List α} {p : Addr} (k : RT F0 (RV (va T (LF.mk l)) Ω) Q) : RT F0 (RV (vr p) (Ω ++ [lstA T p l])) Q := fun F v H Ω' f hh ⟨a, e⟩ => by
  subst e
  obtain ⟨F', t, s1, s2, ⟨vs, ht, al⟩, hh'⟩ := hh.freeze
  exact k F' v H Ω (f.trans s1) hh' ⟨⟨p, vs, a, s2 _ _ ht, al.mono s1⟩, rfl⟩
theorem xs_ifT (h : XT t Γ Ω true Ω1) (q : XS t1 { D with nx := ts D } F0 Γ Ω1) : XS (tSeq (tIfS t t1 t2) ts) D F0 Γ Ω := fun σ H ⟨F, f0, e, hh⟩ =>
  h F σ H e hh _ fun F1 H1 e1 hh1 => by rw [if_pos rfl]; exact q σ H1 ⟨F1, f0.trans e1, e.mono e1, hh1⟩
theorem xs_ifF (h : XT t Γ Ω false Ω1) (q : XS t2 { D with nx := ts D } F0 Γ Ω1) : XS (tSeq (tIfS t t1 t2) ts) D F0 Γ Ω := fun σ H ⟨F, f0, e, hh⟩ =>
  h F σ H e hh _ fun F1 H1 e1 hh1 => by rw [if_neg Bool.false_ne_true]; exact q σ H1 ⟨F1, f0.trans e1, e.mono e1, hh1⟩
theorem xs_ifT1 (h : XT t Γ Ω true Ω1) (q : XS t1 D F0 Γ Ω1) : XS (tIfS t t1 t2) D F0 Γ Ω := fun σ H ⟨F, f0, e, hh⟩ =>
  h F σ H e hh _ fun F1 H1 e1 hh1 => by rw [if_pos rfl]; exact q σ H1 ⟨F1, f0.trans e1, e.mono e1, hh1⟩
theorem xs_ifF1 (h : XT t Γ Ω false Ω1) (q : XS t2 D F0 Γ Ω1) : XS (tIfS t t1 t2) D F0 Γ Ω := fun σ H ⟨F, f0, e, hh⟩ =>
  h F σ H e hh _ fun F1 H1 e1 hh1 => by rw [if_neg Bool.false_ne_true]; exact q σ H1 ⟨F1, f0.trans e1, e.mono e1, hh1⟩
/-- a statement, a word between, the rest -/
theorem xs_cut {Γ' : List (Option VA)} {Ω' : List OA} (h : XS t1 { D with nx := NX F0 Γ' Ω' } F0 Γ Ω) (k : XS ts D F0 Γ' Ω') : XS (Evl.tCut t1 ts) D F0 Γ Ω := fun σ H n => ⟨NX F0 Γ' Ω', h σ H n, fun σ' H' m => k σ' H' m⟩
/-- what is known is left -/
theorem NX.weak {Γ' : List (Option VA)} {σ : St} {H : Hp} (h : NX F0 Γ Ω σ H) (hl : Γ'.length = Γ.length) (k : ∀ (i : Nat) A, Γ'[i]? = some (some A) → Γ[i]? = some (some A)) : NX F0 Γ' Ω σ H :=
  let ⟨F, f0, e, hh⟩ := h
  ⟨F, f0, e.weak hl k, hh⟩
theorem NX.drop {o : OA} {σ : St} {H : Hp} (h : NX F0 Γ (Ω ++ [o]) σ H) : NX F0 Γ Ω σ H := let ⟨F, f0, e, hh⟩ := h; ⟨F, f0, e, hh.drop⟩
/-- a name's own list becomes frozen -/
theorem NX.fz {α : Type} [Rp α] {l : List α} {p : Addr} {k : Nat} {σ : St} {H : Hp} (h : NX F0 Γ (Ω ++ [lstA T p l]) σ H) (hk : Γ[k]? = some (some (vr p))) : NX F0 (Γ.set k (some (va T (LF.mk l)))) Ω σ H := by
  obtain ⟨F, f0, e, hh⟩ := h
  obtain ⟨F', t, s1, s2, ⟨vs, ht, al⟩, hh'⟩ := hh.freeze
  obtain ⟨v, h1, h2⟩ := e.2 k _ hk
  have e2 := (e.mono s1).set (i := k) (v := v) (A := va T (LF.mk l)) ⟨p, vs, h2, s2 _ _ ht, al.mono s1⟩
  have es : σ.set k (some v) = σ := by
    apply List.ext_getElem?
    intro m
    by_cases hm : k = m
    · subst hm; rw [List.getElem?_set_self (getlt h1)]; exact h1.symm
    · rw [List.getElem?_set_ne hm]
  rw [es] at e2
  exact ⟨F', f0.trans s1, e2, hh'⟩
/-- what an expression makes anew becomes frozen -/
theorem xe_fz {α : Type} [Rp α] {l : List α} (h : XG te Γ Ω (RN Ω1 fun p => lstA T p l)) : XE te Γ Ω (va T (LF.mk l)) Ω1 := fun F σ H e hh Q q =>
  h F σ H e hh Q fun F1 v H1 Ω' e1 hh1 ⟨p, hv, o1⟩ => by
    subst o1
    obtain ⟨F', t, s1, s2, ⟨vs, ht, al⟩, hh'⟩ := hh1.freeze
    exact q F' v H1 _ (e1.trans s1) hh' ⟨⟨p, vs, hv, s2 _ _ ht, al.mono s1⟩, rfl⟩
theorem xs_seq (h : XS t1 { D with nx := ts D } F0 Γ Ω) : XS (tSeq t1 ts) D F0 Γ Ω := h
/-! ### tests whose second part may be undefined -/
theorem xt_andO {mb : Option Bool} {v : Bool} (h1 : XT t Γ Ω b Ω) (hm : (if b = true then mb else some false) = some v) (h2 : ∀ v, mb = some v → XT u Γ Ω v Ω) : XT (tAnd t u) Γ Ω v Ω := fun F σ H e hh Q q => by
  refine h1 F σ H e hh _ fun F1 H1 e1 hh1 => ?_
  cases b with
  | true =>
    rw [if_pos rfl] at hm ⊢
    exact h2 v hm F1 σ H1 (e.mono e1) hh1 Q fun F2 H2 e2 hh2 => q F2 H2 (e1.trans e2) hh2
  | false =>
    rw [if_neg Bool.false_ne_true] at hm ⊢
    cases hm
    exact q F1 H1 e1 hh1
/-- a known way through a test -/
theorem xt_orF (h1 : XT t Γ Ω false Ω1) (h2 : XT u Γ Ω1 false Ω2) : XT (tOr t u) Γ Ω false Ω2 := xt_or (b := false) (c := false) h1 (fun _ => h2) (fun h => nomatch h)
theorem xe_andT (h1 : XE ta Γ Ω (va T true) Ω1) (h2 : XE tb Γ Ω1 (va T b) Ω2) : XE (tAndV ta tb) Γ Ω (va T b) Ω2 := fun F σ H e hh Q q => by
  refine h1 F σ H e hh _ fun F1 x H1 Ω' e1 hh1 ⟨a1, o1⟩ => ?_
  subst o1
  refine ⟨true, a1, ?_⟩
  rw [if_pos rfl]
  exact h2 F1 σ H1 (e.mono e1) hh1 Q fun F2 v H2 Ω'' e2 hh2 r => q F2 v H2 Ω'' (e1.trans e2) hh2 r
theorem xt_notF (h1 : XT t Γ Ω true Ω1) : XT (tNot t) Γ Ω false Ω1 := xt_not h1
/-- what an expression's value must be to go on -/
def chk (b : Bool) : Option Unit := if b = true then some () else none
theorem xs_setO {k : Nat} {ks : List (Nat × OA)} {L : List OA} {o : Addr → OA} {Ω0 : List OA} (h : XG te Γ Ω0 (RN (stt Ω ks L) o)) (q : ∀ p, XS ts D F0 (Γ.set k (some (vr p))) (stt Ω ks (L ++ [o p]))) : XS (tSeq (tAsg te (gName k)) ts) D F0 Γ Ω0 :=
  xs_setN h fun p => by rw [stt_app]; exact q p
theorem xe_call {Pre : PreT} {E : XK} {t : TA} {Ω' : List OA} (ha : XA t Γ Ω As Ω1) (hp : Pre As Ω1 (RV A Ω')) (he : Ω' = Ω2) : XE (tCall (mkSp Pre) [] E t) Γ Ω A Ω2 := he ▸ xg_call ha hp
theorem xn_call {Pre : PreT} {E : XK} {t : TA} {Ω' : List OA} {o : Addr → OA} (ha : XA t Γ Ω As Ω1) (hp : Pre As Ω1 (RN Ω' o)) (he : Ω' = Ω2) : XG (tCall (mkSp Pre) [] E t) Γ Ω (RN Ω2 o) := he ▸ xg_call ha hp
theorem NX.forget {σ : L2.St} {H : Hp} (h : NX F0 Γ Ω σ H) (k : Nat) : NX F0 (Γ.set k none) Ω σ H := h.weak (by rw [List.length_set]) fun i A q => by
  by_cases e : k = i
  · subst e
    have lt : k < Γ.length := by have := getlt q; rwa [List.length_set] at this
    rw [List.getElem?_set_self lt] at q
    cases q
  · rwa [List.getElem?_set_ne e] at q
/-- nothing -/
def nilA : OA := ⟨fun _ _ => True, fun _ _ => trivial⟩
theorem Holds.freezeAt {F H : Hp} {Ω : List OA} {o : OA} {i : Nat} (h : Holds F Ω H) (q : Ω[i]? = some o) : ∃ F' t, Same F F' ∧ Same t F' ∧ o.P F t ∧ Holds F' (Ω.set i nilA) H := by
  obtain ⟨ts, h1, h2, h3, h4, h5⟩ := h
  have lt := getlt q
  have d : ∀ b x, ts i b = some x → F b = none := fun b x e => h4 i b x lt e
  refine ⟨cup F (ts i), ts i, cup_l, cup_r d, h1 _ _ q, fun k => if k = i then (fun _ => none) else ts k, fun k x r => ?_, fun b x e => ?_, fun k r b x e => ?_, fun k b x r e => ?_, fun k m b x r r2 ne e => ?_⟩
  · show x.P _ (if k = i then (fun _ => none) else ts k)
    by_cases hk : k = i
    · subst hk
      rw [List.getElem?_set_self lt] at r
      cases r
      exact trivial
    · rw [if_neg hk]
      rw [List.getElem?_set_ne (fun z => hk z.symm)] at r
      exact x.mono cup_l (h1 k x r)
  · rcases cup_or e with e | e
    · exact h2 b x e
    · exact h3 i lt b x e
  · rw [List.length_set] at r
    have e : (if k = i then (fun _ => none) else ts k) b = some x := e
    by_cases hk : k = i
    · rw [if_pos hk] at e; cases e
    · rw [if_neg hk] at e; exact h3 k r b x e
  · rw [List.length_set] at r
    have e : (if k = i then (fun _ => none) else ts k) b = some x := e
    by_cases hk : k = i
    · rw [if_pos hk] at e; cases e
    · rw [if_neg hk] at e
      cases z : cup F (ts i) b with
      | none => rfl
      | some y =>
        rcases cup_or z with z | z
        · exact (nn z (h4 k b x r e)).elim
        · exact (nn z (h5 k i b x r lt hk e)).elim
  · rw [List.length_set] at r r2
    have e : (if k = i then (fun _ => none) else ts k) b = some x := e
    show (if m = i then (fun _ => none) else ts m) b = none
    by_cases hm : m = i
    · rw [if_pos hm]
    · rw [if_neg hm]
      by_cases hk : k = i
      · rw [if_pos hk] at e; cases e
      · rw [if_neg hk] at e; exact h5 k m b x r r2 ne e
theorem NX.fzJ {α : Type} [Rp α] {l : List α} {p : Addr} {k j : Nat} {ks : List (Nat × OA)} {L : List OA} {σ : L2.St} {H : Hp} (h : NX F0 Γ (stt Ω ks L) σ H) (hk : Γ[k]? = some (some (vr p))) (hj : L[j]? = some (lstA T p l)) : NX F0 (Γ.set k (some (va T (LF.mk l)))) (stt Ω ks (L.set j nilA)) σ H := by
  obtain ⟨F, f0, e, hh⟩ := h
  obtain ⟨F', t, s1, s2, ⟨vs, ht, al⟩, hh'⟩ := hh.freezeAt (stt_getL hj)
  rw [stt_setL] at hh'
  obtain ⟨v, h1, h2⟩ := e.2 k _ hk
  have e2 := (e.mono s1).set (i := k) (v := v) (A := va T (LF.mk l)) ⟨p, vs, h2, s2 _ _ ht, al.mono s1⟩
  have es : σ.set k (some v) = σ := by
    apply List.ext_getElem?
    intro m
    by_cases hm : k = m
    · subst hm; rw [List.getElem?_set_self (getlt h1)]; exact h1.symm
    · rw [List.getElem?_set_ne hm]
  rw [es] at e2
  exact ⟨F', f0.trans s1, e2, hh'⟩
theorem xs_fzJ {α : Type} [Rp α] {l : List α} {p : Addr} {k j : Nat} {ks : List (Nat × OA)} {L : List OA} (hk : Γ[k]? = some (some (vr p))) (hj : L[j]? = some (lstA T p l)) (q : XS ts D F0 (Γ.set k (some (va T (LF.mk l)))) (stt Ω ks (L.set j nilA))) : XS ts D F0 Γ (stt Ω ks L) := fun σ H n => q σ H (n.fzJ hk hj)
/-- one of a def's own things stays, the others are left -/
theorem Holds.sel {F H : Hp} {Ω L : List OA} {o : OA} {j : Nat} (h : Holds F (Ω ++ L) H) (q : L[j]? = some o) : Holds F (Ω ++ [o]) H := by
  obtain ⟨ts, h1, h2, h3, h4, h5⟩ := h
  have lj := getlt q
  have len : (Ω ++ L).length = Ω.length + L.length := List.length_append
  have len1 : (Ω ++ [o]).length = Ω.length + 1 := by simp
  have ix : ∀ k, k < Ω.length + 1 → (if k = Ω.length then Ω.length + j else k) < (Ω ++ L).length := fun k hk => by
    split <;> omega
  have inj : ∀ k m, k < Ω.length + 1 → m < Ω.length + 1 → k ≠ m → (if k = Ω.length then Ω.length + j else k) ≠ (if m = Ω.length then Ω.length + j else m) := fun k m hk hm ne => by
    split <;> split <;> omega
  refine ⟨fun k => ts (if k = Ω.length then Ω.length + j else k), fun k x r => ?_, h2, fun k r => h3 _ (ix k (by omega)), fun k b x r e => h4 _ b x (ix k (by omega)) e, fun k m b x r r2 ne e => h5 _ _ b x (ix k (by omega)) (ix m (by omega)) (inj k m (by omega) (by omega) ne) e⟩
  by_cases hk : k = Ω.length
  · subst hk
    rw [app_at] at r
    cases r
    show o.P F (ts (if Ω.length = Ω.length then Ω.length + j else Ω.length))
    rw [if_pos rfl]
    refine h1 _ _ ?_
    rw [List.getElem?_append_right (by omega), Nat.add_sub_cancel_left]
    exact q
  · have lt : k < Ω.length := by have := getlt r; omega
    show x.P F (ts (if k = Ω.length then Ω.length + j else k))
    rw [if_neg hk]
    rw [List.getElem?_append_left lt] at r
    refine h1 _ _ ?_
    rw [List.getElem?_append_left lt]
    exact r
theorem Holds.all {F H : Hp} {Ω : List OA} {ks : List (Nat × OA)} {L : List OA} (h : Holds F (stt Ω ks L) H) : Holds F (stt Ω ks []) H := by
  obtain ⟨ts, h1, h2, h3, h4, h5⟩ := h
  have len : (stt Ω ks L).length = (apk Ω ks).length + L.length := List.length_append
  have e : stt Ω ks [] = apk Ω ks := stt_nil
  rw [e]
  exact ⟨ts, fun i o q => h1 i o (by unfold stt; rw [List.getElem?_append_left (getlt q)]; exact q), h2, fun i q => h3 i (by omega), fun i b x q => h4 i b x (by omega), fun i j b x qi qj => h5 i j b x (by omega) (by omega)⟩
theorem RT.all {Q : VK} {A : VA} {ks : List (Nat × OA)} {L : List OA} (k : RT F0 (RV A (stt Ω ks [])) Q) : RT F0 (RV A (stt Ω ks L)) Q := fun F v H Ω' f hh ⟨a, e⟩ => by
  subst e
  exact k F v H _ f hh.all ⟨a, rfl⟩
theorem RT.allN {Q : VK} {o : Addr → OA} {ks : List (Nat × OA)} {L : List OA} (k : RT F0 (RN (stt Ω ks []) o) Q) : RT F0 (RN (stt Ω ks L) o) Q := fun F v H Ω' f hh ⟨p, a, e⟩ => by
  subst e
  rw [stt_app] at hh
  refine k F v H _ f (Holds.sel (Ω := apk Ω ks) (o := o p) (j := L.length) hh app_at) ⟨p, a, ?_⟩
  rw [stt_nil]
/-! ### loops -/
inductive Stp (S ρ : Type) where
  | nx (s : S) | rt (r : ρ) | bk (s : S)
def whileM {S ρ : Type} (c : S → Option Bool) (b : S → Option (Stp S ρ)) : Nat → S → Option (Stp S ρ)
  | 0, _ => none
  | n + 1, s => (c s).bind fun v => if v = true then (b s).bind fun
      | .nx s' => whileM c b n s'
      | .rt r => some (.rt r)
      | .bk s' => some (.nx s')
    else some (.nx s)
def forM' {α S ρ : Type} (b : α → S → Option (Stp S ρ)) : List α → S → Option (Stp S ρ)
  | [], s => some (.nx s)
  | x :: r, s => (b x s).bind fun
      | .nx s' => forM' b r s'
      | .rt v => some (.rt v)
      | .bk s' => some (.nx s')
/-- what a loop hands on -/
def nxt {S ρ : Type} : Stp S ρ → Option S
  | .nx s => some s
  | _ => none
def aft {S ρ : Type} (st : Stp S ρ) (k : S → Option ρ) : Option ρ := match st with
  | .nx s => k s
  | .rt r => some r
  | .bk _ => none
/-- what a block's end must lead to: st by the block's own word -/
structure To {S ρ : Type} (D : Ends) (F0 : Hp) (st : Stp S ρ) (N B : S → St → Hp → Prop) (RR : ρ → Hp → V → List OA → Prop) : Prop where
  nx : ∀ s, st = .nx s → ∀ σ H, N s σ H → D.nx σ H
  ct : ∀ s, st = .nx s → ∀ σ H, N s σ H → D.ct σ H
  bk : ∀ s, st = .bk s → ∀ σ H, B s σ H → D.bk σ H
  rt : ∀ r, st = .rt r → RT F0 (RR r) D.rt
theorem bnd_some {α β : Type} {o : Option α} {f : α → Option β} {r : β} (h : o.bind f = some r) : ∃ a, o = some a ∧ f a = some r := by
  cases o with
  | none => cases h
  | some a => exact ⟨a, rfl, h⟩
theorem xs_while {S ρ : Type} {c : S → Option Bool} {bd : S → Option (Stp S ρ)} {fuel : Nat} {s0 : S} {st : Stp S ρ} {tc : TT} {tb : TS} (G : S → List (Option VA)) (O : S → List OA) (RR : ρ → Hp → V → List OA → Prop)
    (hm : whileM c bd fuel s0 = some st)
    (hc : ∀ s v, c s = some v → XT tc (G s) (O s) v (O s))
    (hb : ∀ s s', c s = some true → bd s = some s' → ∀ F1 D', Same F0 F1 → To D' F1 s' (fun s => NX F1 (G s) (O s)) (fun s => NX F1 (G s) (O s)) RR → XS tb D' F1 (G s) (O s))
    (hn : ∀ s, st = .nx s → ∀ σ H, NX F0 (G s) (O s) σ H → D.nx σ H) (hr : ∀ r, st = .rt r → RT F0 (RR r) D.rt) : XS (tWhile tc tb) D F0 (G s0) (O s0) := by
  intro σ H n0
  refine ⟨fun m σ H => ∃ s, whileM c bd m s = some st ∧ NX F0 (G s) (O s) σ H, ⟨fuel, s0, hm, n0⟩, ?_⟩
  rintro m σ H ⟨s, hs, F, f0, e, hh⟩
  cases m with
  | zero => cases hs
  | succ m =>
    obtain ⟨v, hv, hs⟩ := bnd_some hs
    refine hc s v hv F σ H e hh _ fun F1 H1 e1 hh1 => ?_
    cases v with
    | false =>
      rw [if_neg Bool.false_ne_true]
      rw [if_neg Bool.false_ne_true] at hs
      cases hs
      exact hn s rfl σ H1 ⟨F1, f0.trans e1, e.mono e1, hh1⟩
    | true =>
      rw [if_pos rfl] at hs ⊢
      obtain ⟨s', hs', hs⟩ := bnd_some hs
      have hN : ∀ σ' H', (∃ s2, s' = .nx s2 ∧ NX F0 (G s2) (O s2) σ' H') → ∃ m', m' < m + 1 ∧ ∃ s, whileM c bd m' s = some st ∧ NX F0 (G s) (O s) σ' H' := by
        rintro σ' H' ⟨s2, rfl, n2⟩
        exact ⟨m, Nat.lt_succ_self _, s2, hs, n2⟩
      refine ⟨fun σ' H' => ∃ s2, s' = .nx s2 ∧ NX F0 (G s2) (O s2) σ' H', hN, ?_⟩
      refine hb s s' hv hs' F0 { D with nx := fun σ' H' => ∃ s2, s' = .nx s2 ∧ NX F0 (G s2) (O s2) σ' H', ct := fun σ' H' => ∃ s2, s' = .nx s2 ∧ NX F0 (G s2) (O s2) σ' H', bk := D.nx } (Same.refl _) ⟨fun s2 z σ' H' n2 => ⟨s2, z, n2⟩, fun s2 z σ' H' n2 => ⟨s2, z, n2⟩, fun s2 z σ' H' n2 => ?_, fun r z => ?_⟩ σ H1 ⟨F1, f0.trans e1, e.mono e1, hh1⟩
      · subst z
        cases hs
        exact hn s2 rfl σ' H' n2
      · subst z
        cases hs
        exact hr r rfl
/-- what a for's target does with its item -/
def Tgt (g : TG) (A : VA) (f : List (Option VA) → List (Option VA)) (js : List Nat) : Prop := ∀ F σ Γ x H Ω, Env F σ Γ → Holds F Ω H → A.P F x → ∀ Q : L2.St → Hp → Prop,
  (∀ F' σ' H', Same F F' → Env F' σ' (f Γ) → Holds F' Ω H' → (∀ vs, (∀ j ∈ js, j ∈ vs) → wipe σ' vs = wipe σ vs) → Q σ' H') → g x σ H Q
theorem wipe_set {σ : L2.St} {j : Nat} {v : Option V} : ∀ {vs : List Nat}, j ∈ vs → wipe (σ.set j v) vs = wipe σ vs := by
  intro vs hj
  apply List.ext_getElem?
  intro k
  have len : (wipe (σ.set j v) vs).length = (wipe σ vs).length := by rw [wipe_length, wipe_length, List.length_set]
  by_cases hk : k ∈ vs
  · have : ∀ (τ : L2.St) (vs : List Nat), k ∈ vs → k < τ.length → (wipe τ vs)[k]? = some none := by
      intro τ vs
      induction vs with
      | nil => intro h; cases h
      | cons a r ih =>
        intro h lt
        unfold wipe
        by_cases ha : a = k
        · subst ha; rw [List.getElem?_set_self (by rw [wipe_length]; exact lt)]
        · rw [List.getElem?_set_ne ha]
          rcases List.mem_cons.mp h with z | z
          · exact absurd z.symm ha
          · exact ih z lt
    by_cases lt : k < σ.length
    · rw [this σ vs hk lt, this _ vs hk (by rw [List.length_set]; exact lt)]
    · rw [List.getElem?_eq_none (by rw [wipe_length, List.length_set]; omega), List.getElem?_eq_none (by rw [wipe_length]; omega)]
  · rw [wipe_out hk, wipe_out hk]
    have ne : j ≠ k := fun e => hk (e ▸ hj)
    rw [List.getElem?_set_ne ne]
theorem tgt_name {k : Nat} : Tgt (gName k) A (fun Γ => Γ.set k (some A)) [k] := fun F σ Γ x H Ω e hh a Q q => q F _ H (Same.refl F) (e.set a) hh fun vs h => wipe_set (h k List.mem_cons_self)
theorem tgt_pair {α β : Type} [Rp α] [Rp β] {x : α × β} {k l : Nat} : Tgt (gTup T.K 2 (gCons (gName k) (gCons (gName l) gNil))) (va T x) (fun Γ => (Γ.set k (some (va T x.1))).set l (some (va T x.2))) [k, l] := fun F σ Γ v H Ω e hh a Q q => by
  obtain ⟨p, y, z, rfl, ht, ry, rz⟩ := a
  refine ⟨p, [y, z], rfl, Same.tup hh.same ht, rfl, y, [z], rfl, z, [], rfl, rfl, ?_⟩
  exact q F _ H (Same.refl F) ((e.set (A := va T x.1) ry).set (A := va T x.2) rz) hh fun vs h => (wipe_set (h l (by simp))).trans (wipe_set (h k (by simp)))
structure Wk {α : Type} (J : It) (Sx : Hp → Prop) (xs : List α) (A : α → VA) : Prop where
  mono : ∀ F F', Same F F' → Sx F → Sx F'
  go : ∀ (i : Nat) F Ω H, Sx F → Holds F Ω H → i < xs.length → J.go i H
  stop : ∀ F Ω H, Sx F → Holds F Ω H → J.stop xs.length H
  yld : ∀ (i : Nat) a F Ω H x H', Sx F → Holds F Ω H → xs[i]? = some a → J.yld i H x H' → ∃ F', Same F F' ∧ Holds F' Ω H' ∧ (A a).P F' x
def XI {α : Type} (wi : TI) (Γ : List (Option VA)) (Ω : List OA) (xs : List α) (A : α → VA) (Ω2 : List OA) : Prop :=
  ∀ F σ H, Env F σ Γ → Holds F Ω H → ∀ R : It → Hp → Prop, (∀ F' J H' Sx, Same F F' → Holds F' Ω2 H' → Wk J Sx xs A → Sx F' → R J H') → wi σ H R
theorem xs_for {α S ρ : Type} {bd : α → S → Option (Stp S ρ)} {s0 : S} {st : Stp S ρ} {wi : TI} {tb : TS} {g : TG} {xs : List α} {A : α → VA} {f : α → List (Option VA) → List (Option VA)} (G : S → List (Option VA)) (O : S → List OA) (RR : ρ → Hp → V → List OA → Prop)
    (hm : forM' bd xs s0 = some st) (hi : XI wi (G s0) Ω xs A (O s0)) {js : List Nat} (ht : ∀ a, Tgt g (A a) (f a) js)
    (hb : ∀ a s s', a ∈ xs → bd a s = some s' → ∀ F1 D', Same F0 F1 → To D' F1 s' (fun s => NX F1 (G s) (O s)) (fun s => NX F1 (G s) (O s)) RR → XS tb D' F1 (f a (G s)) (O s))
    (hn : ∀ s, st = .nx s → ∀ σ H, NX F0 (G s) (O s) σ H → D.nx σ H) (hr : ∀ r, st = .rt r → RT F0 (RR r) D.rt) : XS (tFor wi g tb) D F0 (G s0) Ω := by
  rintro σ H ⟨F, f0, e, hh⟩
  refine hi F σ H e hh _ fun F1 J H1 Sx e1 hh1 W sx => ?_
  refine ⟨fun i m σ H => m = xs.length - i ∧ i ≤ xs.length ∧ ∃ s F, forM' bd (xs.drop i) s = some st ∧ Same F0 F ∧ Sx F ∧ Env F σ (G s) ∧ Holds F (O s) H, ⟨xs.length, by simp, Nat.zero_le _, s0, F1, by rw [List.drop_zero]; exact hm, f0.trans e1, sx, e.mono e1, hh1⟩, ?_⟩
  rintro i m σ H ⟨rfl, hi, s, F, hs, f0, sx, e, hh⟩
  by_cases hlt : i < xs.length
  · refine .inr ⟨W.go i F (O s) H sx hh hlt, ?_⟩
    have hx : xs[i]? = some xs[i] := List.getElem?_eq_getElem hlt
    rw [List.drop_eq_getElem_cons hlt] at hs
    obtain ⟨s', h1, hs⟩ := bnd_some hs
    refine ⟨fun σ' H' => ∃ s2, s' = .nx s2 ∧ ∃ F, Same F0 F ∧ Sx F ∧ Env F σ' (G s2) ∧ Holds F (O s2) H', ?_, fun x H' y => ?_⟩
    · rintro σ' H' ⟨s2, rfl, F', f0', sx', e', hh'⟩
      exact ⟨xs.length - (i + 1), by omega, rfl, hlt, s2, F', hs, f0', sx', e', hh'⟩
    · obtain ⟨F2, e2, hh2, a2⟩ := W.yld i _ F (O s) H x H' sx hh hx y
      refine ht xs[i] F2 σ (G s) x H' (O s) (e.mono e2) hh2 a2 _ fun F3 σ3 H3 e3 en3 hh3 _ => ?_
      have sx3 := W.mono _ _ (e2.trans e3) sx
      have f3 : Same F0 F3 := f0.trans (e2.trans e3)
      have gN : ∀ (s2 : S) (σ' : L2.St) (H' : Hp), NX F3 (G s2) (O s2) σ' H' → ∃ F, Same F0 F ∧ Sx F ∧ Env F σ' (G s2) ∧ Holds F (O s2) H' := fun s2 σ' H' ⟨F4, f4, e4, hh4⟩ => ⟨F4, f3.trans f4, W.mono _ _ f4 sx3, e4, hh4⟩
      have gW : ∀ (s2 : S) (σ' : L2.St) (H' : Hp), NX F3 (G s2) (O s2) σ' H' → NX F0 (G s2) (O s2) σ' H' := fun s2 σ' H' ⟨F4, f4, e4, hh4⟩ => ⟨F4, f3.trans f4, e4, hh4⟩
      refine hb xs[i] s s' (List.getElem_mem hlt) h1 F3 { D with nx := fun σ' H' => ∃ s2, s' = .nx s2 ∧ ∃ F, Same F0 F ∧ Sx F ∧ Env F σ' (G s2) ∧ Holds F (O s2) H', ct := fun σ' H' => ∃ s2, s' = .nx s2 ∧ ∃ F, Same F0 F ∧ Sx F ∧ Env F σ' (G s2) ∧ Holds F (O s2) H', bk := D.nx } f3 ⟨fun s2 z σ' H' n2 => ⟨s2, z, gN s2 σ' H' n2⟩, fun s2 z σ' H' n2 => ⟨s2, z, gN s2 σ' H' n2⟩, fun s2 z σ' H' n2 => ?_, fun r z => ?_⟩ σ3 H3 ⟨F3, Same.refl _, en3, hh3⟩
      · subst z
        cases hs
        exact hn s2 rfl σ' H' (gW s2 σ' H' n2)
      · subst z
        cases hs
        exact (hr r rfl).mono f3
  · have ei : i = xs.length := by omega
    subst ei
    refine .inl ⟨W.stop F (O s) H sx hh, ?_⟩
    rw [List.drop_length] at hs
    cases hs
    exact hn s rfl σ H ⟨F, f0, e, hh⟩
theorem xs_whileS {S ρ : Type} {c : S → Option Bool} {bd : S → Option (Stp S ρ)} {fuel : Nat} {s0 : S} {st : Stp S ρ} {tc : TT} {tb : TS} (G : S → List (Option VA)) (O : S → List OA) (RR : ρ → Hp → V → List OA → Prop)
    (hm : whileM c bd fuel s0 = some st)
    (hc : ∀ s v, c s = some v → XT tc (G s) (O s) v (O s))
    (hb : ∀ s s', c s = some true → bd s = some s' → ∀ F1 D', Same F0 F1 → To D' F1 s' (fun s => NX F1 (G s) (O s)) (fun s => NX F1 (G s) (O s)) RR → XS tb D' F1 (G s) (O s))
    (hn : ∀ s, st = .nx s → XS ts D F0 (G s) (O s)) (hr : ∀ r, st = .rt r → RT F0 (RR r) D.rt) : XS (tSeq (tWhile tc tb) ts) D F0 (G s0) (O s0) :=
  xs_seq (xs_while G O RR hm hc hb (fun s e σ H n => hn s e σ H n) hr)
theorem xs_forS {α S ρ : Type} {bd : α → S → Option (Stp S ρ)} {s0 : S} {st : Stp S ρ} {wi : TI} {tb : TS} {g : TG} {xs : List α} {A : α → VA} {f : α → List (Option VA) → List (Option VA)} (G : S → List (Option VA)) (O : S → List OA) (RR : ρ → Hp → V → List OA → Prop)
    (hm : forM' bd xs s0 = some st) (hi : XI wi (G s0) Ω xs A (O s0)) {js : List Nat} (ht : ∀ a, Tgt g (A a) (f a) js)
    (hb : ∀ a s s', a ∈ xs → bd a s = some s' → ∀ F1 D', Same F0 F1 → To D' F1 s' (fun s => NX F1 (G s) (O s)) (fun s => NX F1 (G s) (O s)) RR → XS tb D' F1 (f a (G s)) (O s))
    (hn : ∀ s, st = .nx s → XS ts D F0 (G s) (O s)) (hr : ∀ r, st = .rt r → RT F0 (RR r) D.rt) : XS (tSeq (tFor wi g tb) ts) D F0 (G s0) Ω :=
  xs_seq (xs_for G O RR hm hi ht hb (fun s e σ H n => hn s e σ H n) hr)
end
end VL

set_option Elab.async false
set_option linter.all false
set_option maxRecDepth 100000
/-! lists, fields, the machine, the numbers, defs -/
namespace VL
open PySem L2

theorem alA_map {α : Type} [Rp α] {T : TC} {F : Hp} : ∀ {vs : List V} {l : List α}, AlA F vs (l.map (va T)) → Al T F vs l
  | _, [], h => by cases h; exact .nil
  | _, a :: r, h => by cases h with | cons h t => exact .cons h (alA_map t)
def cut {α : Type} (l : List α) (lo hi : Option Int) : List α := (l.drop (HT.sIx l.length 0 lo)).take (HT.sIx l.length l.length hi - HT.sIx l.length 0 lo)
theorem al_cut {α : Type} [Rp α] {T : TC} {F : Hp} {vs : List V} {l : List α} (lo hi : Option Int) (h : Al T F vs l) : Al T F (cutV vs lo hi) (cut l lo hi) := by
  unfold cut cutV
  rw [al_len h]
  exact al_take _ (al_drop _ h)
theorem al_at {α : Type} [Rp α] {T : TC} {F : Hp} {vs : List V} {l : List α} {i : Int} {a : α} (h : Al T F vs l) (e : atI l i = some a) : ∃ v, atI vs i = some v ∧ Rp.rep T F v a := by
  unfold atI at e ⊢
  rw [al_len h]
  cases hx : ixN l.length i with
  | none => rw [hx] at e; cases e
  | some k =>
    rw [hx] at e
    exact al_get h e

section
variable {T : TC} {Γ : List (Option VA)} {Ω Ω1 Ω2 Ω3 : List OA} {A B C : VA} {As : List VA} {ta tb te : TE} {t u : TT} {i j n m : Int} {b c : Bool} {α : Type} [Rp α] {l l2 : List α} {F0 : Hp} {D : Ends} {ts : TS}

/-! ### what a list holds, whoever holds it -/
def IsL (T : TC) (Ω : List OA) (A : VA) (l : List α) : Prop := ∀ F H v, Holds F Ω H → A.P F v → ∃ p vs, v = .ref p ∧ SqL T.K H p vs ∧ Al T F vs l
def IsLs (T : TC) (Ω : List OA) (A : VA) (l : List α) : Prop := ∀ F H v, Holds F Ω H → A.P F v → ∃ p vs, v = .ref p ∧ H p = some (.lst vs) ∧ Al T F vs l
def IsT (T : TC) (Ω : List OA) (A : VA) (l : List α) : Prop := ∀ F H v, Holds F Ω H → A.P F v → ∃ p vs, v = .ref p ∧ SqT T.K H p vs ∧ Al T F vs l
theorem isLs_LF : IsLs T Ω (va T (LF.mk l)) l := fun F H v hh ⟨p, vs, h1, h2, h3⟩ => ⟨p, vs, h1, hh.same _ _ h2, h3⟩
theorem isL_LF : IsL T Ω (va T (LF.mk l)) l := fun F H v hh ⟨p, vs, h1, h2, h3⟩ => ⟨p, vs, h1, SqL.of (hh.same _ _ h2), h3⟩
theorem isT_TF : IsT T Ω (va T (TF.mk l)) l := fun F H v hh ⟨p, vs, h1, h2, h3⟩ => ⟨p, vs, h1, Same.tup hh.same h2, h3⟩
theorem isLs_M {k : Nat} {p : Addr} (h : Ω[k]? = some (lstA T p l)) : IsLs T Ω (vr p) l := fun F H v hh e => by
  obtain ⟨t, ⟨vs, h1, h2⟩, st, _⟩ := hh.get h
  exact ⟨p, vs, e, st _ _ h1, h2⟩
theorem isL_M {k : Nat} {p : Addr} (h : Ω[k]? = some (lstA T p l)) : IsL T Ω (vr p) l := fun F H v hh e => by
  obtain ⟨t, ⟨vs, h1, h2⟩, st, _⟩ := hh.get h
  exact ⟨p, vs, e, SqL.of (st _ _ h1), h2⟩

def rLen (K : PySem.W.Frag) : List V → Hp → VK → Prop := fun xs H Q => ∃ p ys, xs = [.ref p] ∧ (SqL K H p ys ∨ SqT K H p ys) ∧ Q (.int ys.length) H
theorem cr_len {X : Cx} : CallR X (.builtin "len") (rLen X.K) := call_len_seq
theorem alA1 {F : Hp} {vs : List V} (h : AlA F vs [A]) : ∃ v, vs = [v] ∧ A.P F v := by
  cases h with
  | cons h t => cases t; exact ⟨_, rfl, h⟩
theorem alA2 {F : Hp} {vs : List V} (h : AlA F vs [A, B]) : ∃ v w, vs = [v, w] ∧ A.P F v ∧ B.P F w := by
  cases h with
  | cons h t => cases t with | cons h2 t => cases t; exact ⟨_, _, rfl, h, h2⟩
theorem rc_lenL (h : IsL T Ω A l) : RC (rLen T.K) Ω [A] (va T (l.length : Int)) := fun F H vs hh a Q q => by
  obtain ⟨v, rfl, a1⟩ := alA1 a
  obtain ⟨p, ws, e, hs, al⟩ := h F H v hh a1
  refine ⟨p, ws, by rw [e], .inl hs, q F _ H (Same.refl F) hh ?_⟩
  show V.int _ = V.int _
  rw [al_len al]
theorem xe_lenL (ha : XE te Γ Ω A Ω1) (h : IsL T Ω1 A l) : XE (tCB (rLen T.K) (tCons te tNil)) Γ Ω (va T (l.length : Int)) Ω1 := xe_cb (xa_cons ha xa_nil) (rc_lenL h)
theorem ro_ixL {a : α} (h : IsL T Ω A l) (e : atI l i = some a) : RO (rIx T.K) Ω A (va T i) (va T a) := fun F H x y hh a1 a2 Q q => by
  obtain ⟨p, ws, rfl, hs, al⟩ := h F H x hh a1
  obtain ⟨v, hv, rv⟩ := al_at al e
  exact .inl ⟨p, ws, i, v, rfl, a2, hs, hv, q F v H (Same.refl F) hh rv⟩
/-! new lists -/
theorem xe_lst {ta : TA} (h : XA ta Γ Ω (l.map (va T)) Ω1) (hz : l.length ≤ sizeLine) : XE (tLst ta) Γ Ω (va T (LF.mk l)) Ω1 := fun F σ H e hh Q q => by
  refine h F σ H e hh _ fun F1 xs H1 e1 hh1 a1 => ?_
  have al := alA_map a1
  refine ⟨by rw [al_len al]; exact hz, fun p hp => ?_⟩
  obtain ⟨hh2, e2⟩ := hh1.newF (u := .lst xs) hp
  exact q _ _ _ _ (e1.trans e2) hh2 ⟨⟨p, xs, rfl, upd_same, al.mono e2⟩, rfl⟩
theorem xn_lst {ta : TA} (h : XA ta Γ Ω (l.map (va T)) Ω1) (hz : l.length ≤ sizeLine) : XG (tLst ta) Γ Ω (RN Ω1 fun p => lstA T p l) := fun F σ H e hh Q q => by
  refine h F σ H e hh _ fun F1 xs H1 e1 hh1 a1 => ?_
  have al := alA_map a1
  refine ⟨by rw [al_len al]; exact hz, fun p hp => ?_⟩
  exact q F1 _ _ _ e1 (hh1.newL (o := lstA T p l) hp ⟨xs, upd_same, al⟩) ⟨p, rfl, rfl⟩
theorem xe_tup2 {β : Type} [Rp β] {a : α} {x : β} {ta : TA} (h : XA ta Γ Ω [va T a, va T x] Ω1) : XE (tTup ta) Γ Ω (va T (a, x)) Ω1 := fun F σ H e hh Q q => by
  refine h F σ H e hh _ fun F1 xs H1 e1 hh1 a1 => ?_
  obtain ⟨v, w, rfl, h1, h2⟩ := alA2 a1
  refine ⟨by show 2 ≤ sizeLine; decide, fun p hp => ?_⟩
  obtain ⟨hh2, e2⟩ := hh1.newF (u := .tup [v, w]) hp
  exact q _ _ _ _ (e1.trans e2) hh2 ⟨⟨p, v, w, rfl, SqT.of upd_same, Rp.mono e2 h1, Rp.mono e2 h2⟩, rfl⟩
theorem xe_tup3 {β γ : Type} [Rp β] [Rp γ] {a : α} {x : β} {y : γ} {ta : TA} (h : XA ta Γ Ω [va T a, va T x, va T y] Ω1) : XE (tTup ta) Γ Ω (va T (T3.mk a x y)) Ω1 := fun F σ H e hh Q q => by
  refine h F σ H e hh _ fun F1 xs H1 e1 hh1 a1 => ?_
  cases a1 with
  | cons h1 a1 =>
    obtain ⟨v, w, rfl, h2, h3⟩ := alA2 a1
    refine ⟨by show 3 ≤ sizeLine; decide, fun p hp => ?_⟩
    obtain ⟨hh2, e2⟩ := hh1.newF (u := .tup [_, v, w]) hp
    exact q _ _ _ _ (e1.trans e2) hh2 ⟨⟨p, _, v, w, rfl, SqT.of upd_same, Rp.mono e2 h1, Rp.mono e2 h2, Rp.mono e2 h3⟩, rfl⟩
/-- xs + ys -/
theorem ro_cat (h : IsLs T Ω A l) (h2 : IsLs T Ω B l2) (hz : l.length + l2.length ≤ sizeLine) : RO rCat Ω A B (va T (LF.mk (l ++ l2))) := fun F H x y hh a1 a2 Q q => by
  obtain ⟨p, vs, rfl, hp, al⟩ := h F H x hh a1
  obtain ⟨p2, vs2, rfl, hp2, al2⟩ := h2 F H y hh a2
  refine ⟨p, p2, vs, vs2, rfl, rfl, hp, hp2, by rw [al_len al, al_len al2]; exact hz, fun d hd => ?_⟩
  obtain ⟨hh2, e2⟩ := hh.newF (u := .lst (vs ++ vs2)) hd
  exact q _ _ _ e2 hh2 ⟨d, _, rfl, upd_same, (al_app al al2).mono e2⟩
theorem al_repF {vs : List V} {F : Hp} (h : Al T F vs l) : ∀ n : Nat, Al T F (List.replicate n vs).flatten (List.replicate n l).flatten
  | 0 => .nil
  | n + 1 => by rw [List.replicate_succ, List.flatten_cons, List.replicate_succ, List.flatten_cons]; exact al_app h (al_repF h n)
theorem ro_rep (h : IsLs T Ω A l) (h1 : -(2 ^ 63) ≤ i) (h2 : i < 2 ^ 63) (hz : l.length * i.toNat ≤ sizeLine) : RO rRep Ω A (va T i) (va T (LF.mk (List.replicate i.toNat l).flatten)) := fun F H x y hh a1 a2 Q q => by
  obtain ⟨p, vs, rfl, hp, al⟩ := h F H x hh a1
  refine ⟨p, i, vs, rfl, a2, hp, h1, h2, by rw [al_len al]; exact hz, fun d hd => ?_⟩
  obtain ⟨hh2, e2⟩ := hh.newF (u := .lst (List.replicate i.toNat vs).flatten) hd
  exact q _ _ _ e2 hh2 ⟨d, _, rfl, upd_same, (al_repF al _).mono e2⟩
/-- list(xs) -/
def rList (K : PySem.W.Frag) : List V → Hp → VK → Prop := fun xs H Q => ∃ p ys, xs = [.ref p] ∧ (SqL K H p ys ∨ SqT K H p ys) ∧ ∀ l, H l = none → Q (.ref l) (upd H l (.lst ys))
theorem cr_list {X : Cx} : CallR X (.type "list") (rList X.K) := call_list_of
theorem xe_listT (ha : XE te Γ Ω A Ω1) (h : IsT T Ω1 A l) : XE (tCB (rList T.K) (tCons te tNil)) Γ Ω (va T (LF.mk l)) Ω1 := xe_cb (xa_cons ha xa_nil) fun F H vs hh a Q q => by
  obtain ⟨v, rfl, a1⟩ := alA1 a
  obtain ⟨p, ws, e, hs, al⟩ := h F H v hh a1
  refine ⟨p, ws, by rw [e], .inr hs, fun d hd => ?_⟩
  obtain ⟨hh2, e2⟩ := hh.newF (u := .lst ws) hd
  exact q _ _ _ e2 hh2 ⟨d, _, rfl, upd_same, al.mono e2⟩
/-- tuple(xs): of a list, a new one; of a tuple, itself -/
def rTuple (K : PySem.W.Frag) : List V → Hp → VK → Prop := fun xs H Q => ∃ p ys, xs = [.ref p] ∧ ((SqL K H p ys ∧ ∀ l, H l = none → Q (.ref l) (upd H l (.tup ys))) ∨ (SqT K H p ys ∧ Q (.ref p) H))
theorem cr_tuple {X : Cx} : CallR X (.type "tuple") (rTuple X.K) := call_tuple_of
theorem xe_tupleL (ha : XE te Γ Ω A Ω1) (h : IsL T Ω1 A l) : XE (tCB (rTuple T.K) (tCons te tNil)) Γ Ω (va T (TF.mk l)) Ω1 := xe_cb (xa_cons ha xa_nil) fun F H vs hh a Q q => by
  obtain ⟨v, rfl, a1⟩ := alA1 a
  obtain ⟨p, ws, e, hs, al⟩ := h F H v hh a1
  refine ⟨p, ws, by rw [e], .inl ⟨hs, fun d hd => ?_⟩⟩
  obtain ⟨hh2, e2⟩ := hh.newF (u := .tup ws) hd
  exact q _ _ _ e2 hh2 ⟨d, _, rfl, SqT.of upd_same, al.mono e2⟩
theorem xe_tupleT (ha : XE te Γ Ω (va T (TF.mk l)) Ω1) : XE (tCB (rTuple T.K) (tCons te tNil)) Γ Ω (va T (TF.mk l)) Ω1 := xe_cb (xa_cons ha xa_nil) fun F H vs hh a Q q => by
  obtain ⟨v, rfl, a1⟩ := alA1 a
  obtain ⟨p, ws, e, hs, al⟩ := id a1
  exact ⟨p, ws, by rw [e], .inr ⟨Same.tup hh.same hs, q F _ H (Same.refl F) hh (e ▸ a1)⟩⟩
/-! slices -/
def XO (to : TO) (Γ : List (Option VA)) (Ω : List OA) (o : Option Int) : Prop := ∀ F σ H, Env F σ Γ → Holds F Ω H → ∀ Q : Option Int → Hp → Prop, (∀ F' H', Same F F' → Holds F' Ω H' → Q o H') → to σ H Q
theorem xo_none : XO tNoPart Γ Ω none := fun F σ H e hh Q q => q F H (Same.refl F) hh
theorem xo_some (h : XE te Γ Ω (va T i) Ω) : XO (tPart te) Γ Ω (some i) := fun F σ H e hh Q q => by
  refine h F σ H e hh _ fun F1 x H1 Ω' e1 hh1 ⟨a1, o1⟩ => ?_
  subst o1
  exact ⟨i, a1, q F1 H1 e1 hh1⟩
theorem xe_sliceL {tl th : TO} {lo hi : Option Int} (ha : XE te Γ Ω A Ω1) (hl : XO tl Γ Ω1 lo) (hu : XO th Γ Ω1 hi) (h : IsL T Ω1 A l) : XE (tSl (rSlL T.K) te tl th) Γ Ω (va T (LF.mk (cut l lo hi))) Ω1 := fun F σ H e hh Q q => by
  refine ha F σ H e hh _ fun F1 x H1 Ω' e1 hh1 ⟨a1, o1⟩ => ?_
  subst o1
  refine hl F1 σ H1 (e.mono e1) hh1 _ fun F2 H2 e2 hh2 => ?_
  refine hu F2 σ H2 ((e.mono e1).mono e2) hh2 _ fun F3 H3 e3 hh3 => ?_
  obtain ⟨p, ws, rfl, hs, al⟩ := h F3 H3 x hh3 (A.mono (e2.trans e3) a1)
  refine ⟨p, ws, rfl, hs, fun d hd => ?_⟩
  obtain ⟨hh4, e4⟩ := hh3.newF (u := .lst (cutV ws lo hi)) hd
  exact q _ _ _ _ (((e1.trans e2).trans e3).trans e4) hh4 ⟨⟨d, _, rfl, upd_same, (al_cut lo hi al).mono e4⟩, rfl⟩
/-! lists that change -/
theorem xe_app {k : Nat} {p : Addr} {a : α} (h0 : Ω[k]? = some (lstA T p l2)) (hk : Ω1[k]? = some (lstA T p l)) (ha : XE ta Γ Ω (vr p) Ω) (hb : XE tb Γ Ω (va T a) Ω1) (hz : l.length < sizeLine) :
    XE (tBM T.K "list" rAppend ta (tCons tb tNil)) Γ Ω (va T ()) (Ω1.set k (lstA T p (l ++ [a]))) := fun F σ H e hh Q q => by
  refine ha F σ H e hh _ fun F1 x H1 Ω' e1 hh1 ⟨a1, o1⟩ => ?_
  subst o1
  obtain ⟨p0, vs0, e0, h00, _⟩ := isLs_M h0 F1 H1 x hh1 a1
  have a1 : x = .ref p := a1
  subst a1
  cases e0
  refine ⟨.inl ⟨rfl, _, SqL.of h00⟩, ?_⟩
  refine hb F1 σ H1 (e.mono e1) hh1 _ fun F2 y H2 Ω'' e2 hh2 ⟨a2, o2⟩ => ?_
  subst o2
  obtain ⟨t, ⟨vs, h1, al⟩, st, _, wr⟩ := hh2.get hk
  refine ⟨p, vs, y, rfl, rfl, st _ _ h1, by rw [al_len al]; exact hz, ?_⟩
  exact q F2 _ _ _ (e1.trans e2) (wr (lstA T p (l ++ [a])) p _ _ h1 ⟨_, upd_same, al_app al (.cons a2 .nil)⟩) ⟨rfl, rfl⟩
/-- xs[i] = e, xs a name's own list -/
theorem xs_setL {k : Nat} {p : Addr} {a : α} {to ti : TE} {jn : Nat} (hv : XE te Γ Ω (va T a) Ω1) (ho : XE to Γ Ω1 (vr p) Ω1) (hi : XE ti Γ Ω1 (va T i) Ω1) (hk : Ω1[k]? = some (lstA T p l)) (hj : ixN l.length i = some jn) (q : XS ts D F0 Γ (Ω1.set k (lstA T p (l.set jn a)))) :
    XS (tSeq (tAsg te (gSub to ti rSetL)) ts) D F0 Γ Ω := fun σ H ⟨F, f0, e, hh⟩ => by
  refine hv F σ H e hh _ fun F1 v H1 Ω' e1 hh1 ⟨a1, o1⟩ => ?_
  subst o1
  refine ho F1 σ H1 (e.mono e1) hh1 _ fun F2 o H2 Ω' e2 hh2 ⟨a2, o2⟩ => ?_
  subst o2
  refine hi F2 σ H2 ((e.mono e1).mono e2) hh2 _ fun F3 x H3 Ω' e3 hh3 ⟨a3, o3⟩ => ?_
  subst o3
  obtain ⟨t, ⟨vs, h1, al⟩, st, _, wr⟩ := hh3.get hk
  refine ⟨p, vs, i, jn, a2, a3, st _ _ h1, by rw [al_len al]; exact hj, ?_⟩
  exact q σ _ ⟨F3, f0.trans ((e1.trans e2).trans e3), ((e.mono e1).mono e2).mono e3, wr (lstA T p (l.set jn a)) p _ _ h1 ⟨_, upd_same, al_set (Rp.mono (e2.trans e3) a1) jn al⟩⟩
/-! walks -/
theorem wk_list {p : Addr} {vs : List V} : Wk (Itl T.K p) (fun F => SqL T.K F p vs ∧ Al T F vs l) l (fun a => va T a) where
  mono := fun F F' e ⟨h1, h2⟩ => ⟨e.seq h1, h2.mono e⟩
  go := fun i F Ω H ⟨h1, h2⟩ hh hi => ⟨vs, vs[i]'(by rw [al_len h2]; exact hi), hh.same.seq h1, List.getElem?_eq_getElem _⟩
  stop := fun F Ω H ⟨h1, h2⟩ hh => ⟨vs, hh.same.seq h1, by rw [al_len h2]; exact Nat.le_refl _⟩
  yld := fun i a F Ω H x H' ⟨h1, h2⟩ hh hx y => by
    obtain ⟨e, y⟩ := y
    subst e
    obtain ⟨v, hv, rv⟩ := al_get h2 hx
    have ev := y vs (hh.same.seq h1)
    rw [hv] at ev
    cases ev
    exact ⟨F, Same.refl F, hh, rv⟩
theorem wk_tup {p : Addr} {vs : List V} : Wk (Itt T.K p) (fun F => SqT T.K F p vs ∧ Al T F vs l) l (fun a => va T a) where
  mono := fun F F' e ⟨h1, h2⟩ => ⟨Same.tup e h1, h2.mono e⟩
  go := fun i F Ω H ⟨h1, h2⟩ hh hi => ⟨vs, vs[i]'(by rw [al_len h2]; exact hi), Same.tup hh.same h1, List.getElem?_eq_getElem _⟩
  stop := fun F Ω H ⟨h1, h2⟩ hh => ⟨vs, Same.tup hh.same h1, by rw [al_len h2]; exact Nat.le_refl _⟩
  yld := fun i a F Ω H x H' ⟨h1, h2⟩ hh hx y => by
    obtain ⟨e, y⟩ := y
    subst e
    obtain ⟨v, hv, rv⟩ := al_get h2 hx
    have ev := y vs (Same.tup hh.same h1)
    rw [hv] at ev
    cases ev
    exact ⟨F, Same.refl F, hh, rv⟩
theorem wk_range {n : Nat} {lo : Int} : Wk (Itr lo n) (fun _ => True) ((List.range n).map fun (k : Nat) => lo + (k : Int)) (fun a => va T a) where
  mono := fun _ _ _ _ => trivial
  go := fun i F Ω H _ _ hi => by
    have hi : i < n := by simpa using hi
    exact hi
  stop := fun F Ω H _ _ => by show n ≤ _; simp
  yld := fun i a F Ω H x H' _ hh hx y => by
    obtain ⟨e, y⟩ := y
    subst e y
    refine ⟨F, Same.refl F, hh, ?_⟩
    show V.int _ = V.int a
    rw [List.getElem?_map] at hx
    cases hr : (List.range n)[i]? with
    | none => rw [hr] at hx; cases hx
    | some k =>
      rw [hr] at hx
      have hk : i = k := by
        obtain ⟨h1, h2⟩ := List.getElem?_eq_some_iff.mp hr
        rw [List.getElem_range] at h2
        exact h2
      subst hk
      cases hx
      rfl
theorem xi_list (ha : XE te Γ Ω A Ω1) (h : ∀ F v, A.P F v → ∃ p vs, v = .ref p ∧ SqL T.K F p vs ∧ Al T F vs l) : XI (iList T.K te) Γ Ω l (fun a => va T a) Ω1 := fun F σ H e hh R r => by
  refine ha F σ H e hh _ fun F1 x H1 Ω' e1 hh1 ⟨a1, o1⟩ => ?_
  subst o1
  obtain ⟨p, vs, rfl, h1, al⟩ := h F1 x a1
  exact ⟨p, rfl, ⟨vs, hh1.same.seq h1⟩, r F1 _ H1 _ e1 hh1 wk_list ⟨h1, al⟩⟩
theorem xi_LF (ha : XE te Γ Ω (va T (LF.mk l)) Ω1) : XI (iList T.K te) Γ Ω l (fun a => va T a) Ω1 := xi_list ha fun F v ⟨p, vs, h1, h2, h3⟩ => ⟨p, vs, h1, SqL.of h2, h3⟩
/-- the ints from lo on, so many -/
def rng (lo : Int) (n : Nat) : List Int := (List.range n).map fun (k : Nat) => lo + (k : Int)
theorem xi_range1 {ta : TA} (ha : XA ta Γ Ω [va T i] Ω1) (h1 : -(2 ^ 62) ≤ i) (h2 : i < 2 ^ 62) : XI (iRng1 ta) Γ Ω (rng 0 i.toNat) (fun a => va T a) Ω1 := fun F σ H e hh R r => by
  refine ha F σ H e hh _ fun F1 vs H1 e1 hh1 a1 => ?_
  obtain ⟨v, rfl, b1⟩ := alA1 a1
  have b1 : v = .int i := b1
  subst b1
  exact ⟨i, rfl, h1, h2, r F1 _ H1 _ e1 hh1 wk_range trivial⟩
theorem rev_get {β : Type} {xs : List β} {i : Nat} {a : β} (h : xs.reverse[i]? = some a) : i < xs.length ∧ xs[xs.length - 1 - i]? = some a := by
  have lt : i < xs.length := by have := getlt h; rwa [List.length_reverse] at this
  rw [List.getElem?_reverse lt] at h
  exact ⟨lt, h⟩
theorem wk_revL {p : Addr} {vs : List V} : Wk (Itv T.K p vs.length) (fun F => SqL T.K F p vs ∧ Al T F vs l) l.reverse (fun a => va T a) where
  mono := fun F F' e ⟨h1, h2⟩ => ⟨e.seq h1, h2.mono e⟩
  go := fun i F Ω H ⟨h1, h2⟩ hh hi => by
    rw [List.length_reverse, ← al_len h2] at hi
    exact ⟨hi, vs, _, hh.same.seq h1, List.getElem?_eq_getElem (by omega)⟩
  stop := fun F Ω H ⟨h1, h2⟩ hh => by show vs.length ≤ _; rw [List.length_reverse, al_len h2]; exact Nat.le_refl _
  yld := fun i a F Ω H x H' ⟨h1, h2⟩ hh hx y => by
    obtain ⟨e, y⟩ := y
    subst e
    obtain ⟨lt, hx⟩ := rev_get hx
    obtain ⟨v, hv, rv⟩ := al_get h2 hx
    have ev := y vs (hh.same.seq h1)
    rw [al_len h2, hv] at ev
    cases ev
    exact ⟨F, Same.refl F, hh, rv⟩
theorem xi_revL (ha : XE te Γ Ω (va T (LF.mk l)) Ω1) : XI (_root_.RT.iRevA T.K te) Γ Ω l.reverse (fun a => va T a) Ω1 := fun F σ H e hh R r => by
  refine ha F σ H e hh _ fun F1 x H1 Ω' e1 hh1 ⟨a1, o1⟩ => ?_
  subst o1
  obtain ⟨p, vs, rfl, h1, al⟩ := id a1
  exact ⟨p, vs, rfl, .inl ⟨SqL.of (hh1.same _ _ h1), r F1 _ H1 _ e1 hh1 wk_revL ⟨SqL.of h1, al⟩⟩⟩

/-! ### a list comprehension -/
/-- b x s: whether the item is taken, its value, the state behind -/
def lcM {β γ S : Type} (b : β → S → Option (Option γ × S)) : List β → S → Option (List γ × S)
  | [], s => some ([], s)
  | x :: r, s => (b x s).bind fun (o, s') => (lcM b r s').bind fun (ys, s'') => some ((match o with | some y => y :: ys | none => ys), s'')
/-- what is known behind the wiping of the slots vs -/
def wip (Γ : List (Option VA)) : List Nat → List (Option VA)
  | [] => Γ
  | i :: r => (wip Γ r).set i none
theorem env_none {F : Hp} {σ : L2.St} {k : Nat} (h : Env F σ Γ) : Env F (σ.set k none) (Γ.set k none) := by
  refine ⟨by rw [List.length_set, List.length_set]; exact h.1, fun i A q => ?_⟩
  by_cases hk : k = i
  · subst hk
    have lt : k < Γ.length := by have := getlt q; rwa [List.length_set] at this
    rw [List.getElem?_set_self lt] at q
    cases q
  · rw [List.getElem?_set_ne hk] at q
    obtain ⟨w, h1, h2⟩ := h.2 i A q
    exact ⟨w, by rw [List.getElem?_set_ne hk]; exact h1, h2⟩
theorem wip_env {F : Hp} {σ : L2.St} (h : Env F σ Γ) : ∀ vs : List Nat, Env F (wipe σ vs) (wip Γ vs)
  | [] => h
  | i :: r => env_none (wip_env h r)
theorem wipe_wipe {σ : L2.St} (vs : List Nat) : wipe (wipe σ vs) vs = wipe σ vs := by
  have : ∀ (r : List Nat) (τ : L2.St), (∀ i ∈ r, i ∈ vs) → wipe (wipe τ r) vs = wipe τ vs := by
    intro r
    induction r with
    | nil => intro τ _; rfl
    | cons a r ih =>
      intro τ h
      show wipe ((wipe τ r).set a none) vs = _
      rw [wipe_set (h a List.mem_cons_self)]
      exact ih τ fun i hi => h i (List.mem_cons_of_mem _ hi)
  exact this vs σ fun _ h => h
theorem set_last {β : Type} {l : List β} {a b : β} : (l ++ [a]).set l.length b = l ++ [b] := by
  rw [List.set_append_right _ _ (Nat.le_refl _)]; simp
theorem xn_lc {β γ S : Type} [Rp γ] {b : β → S → Option (Option γ × S)} {xs : List β} {s0 s1 : S} {ys : List γ} {wi : TI} {g : TG} {tt : TT} {vs : List Nat} {A : β → VA} {f : β → List (Option VA) → List (Option VA)} {js : List Nat} (O : S → List OA)
    (hm : lcM b xs s0 = some (ys, s1)) (hi : XI wi Γ Ω xs A (O s0)) (ht : ∀ a, Tgt g (A a) (f a) js) (hj : ∀ j ∈ js, j ∈ vs) (hz : xs.length ≤ sizeLine)
    (hb : ∀ a s o s', a ∈ xs → b a s = some (o, s') → ∀ X : OA, (o = none → XT tt (f a (wip Γ vs)) (O s ++ [X]) false (O s' ++ [X])) ∧
      (∀ y, o = some y → XT tt (f a (wip Γ vs)) (O s ++ [X]) true (O s ++ [X]) ∧ XE te (f a (wip Γ vs)) (O s ++ [X]) (va T y) (O s' ++ [X]))) :
    XG (tLc wi g tt te vs) Γ Ω (RN (O s1) fun p => lstA T p ys) := by
  intro F σ H e hh Q q
  refine hi F σ H e hh _ fun F1 J H1 Sx e1 hh1 W sx => fun d hd => ?_
  refine ⟨fun i m H => m = xs.length - i ∧ i ≤ xs.length ∧ ∃ s F acc r, lcM b (xs.drop i) s = some (r, s1) ∧ acc ++ r = ys ∧ acc.length ≤ i ∧ Same F1 F ∧ Sx F ∧ Holds F (O s ++ [lstA T d acc]) H,
    ⟨xs.length, by simp, Nat.zero_le _, s0, F1, [], ys, by rw [List.drop_zero]; exact hm, rfl, Nat.zero_le _, Same.refl _, sx, hh1.newL (o := lstA T d ([] : List γ)) hd ⟨[], upd_same, .nil⟩⟩, ?_⟩
  rintro i m H ⟨rfl, hi, s, F, acc, r, hs, he, hl, f1, sx, hh⟩
  by_cases hlt : i < xs.length
  · refine .inr ⟨W.go i F _ H sx hh hlt, ?_⟩
    have hx : xs[i]? = some xs[i] := List.getElem?_eq_getElem hlt
    rw [List.drop_eq_getElem_cons hlt] at hs
    obtain ⟨⟨o, s'⟩, h1, hs⟩ := bnd_some hs
    obtain ⟨⟨r2, s2⟩, h2, hs⟩ := bnd_some hs
    cases hs
    refine ⟨fun H' => ∃ s F acc r, lcM b (xs.drop (i + 1)) s = some (r, s1) ∧ acc ++ r = ys ∧ acc.length ≤ i + 1 ∧ Same F1 F ∧ Sx F ∧ Holds F (O s ++ [lstA T d acc]) H', fun H' n => ⟨xs.length - (i + 1), by omega, rfl, hlt, n⟩, fun x H' y => ?_⟩
    obtain ⟨F2, e2, hh2, a2⟩ := W.yld i _ F _ H x H' sx hh hx y
    have en : Env F2 (wipe σ vs) (wip Γ vs) := wip_env ((e.mono e1).mono (f1.trans e2)) vs
    refine ht xs[i] F2 (wipe σ vs) (wip Γ vs) x H' _ en hh2 a2 _ fun F3 σ3 H3 e3 en3 hh3 hw => ⟨(hw vs hj).trans (wipe_wipe vs), ?_⟩
    obtain ⟨c1, c2⟩ := hb xs[i] s o s' (List.getElem_mem hlt) h1 (lstA T d acc)
    have f3 : Same F1 F3 := f1.trans (e2.trans e3)
    have sx3 := W.mono _ _ (e2.trans e3) sx
    cases o with
    | none =>
      refine c1 rfl F3 σ3 H3 en3 hh3 _ fun F4 H4 e4 hh4 => ?_
      rw [if_neg Bool.false_ne_true]
      exact ⟨s', F4, acc, r2, h2, he, by omega, f3.trans e4, W.mono _ _ e4 sx3, hh4⟩
    | some y =>
      obtain ⟨c3, c4⟩ := c2 y rfl
      refine c3 F3 σ3 H3 en3 hh3 _ fun F4 H4 e4 hh4 => ?_
      rw [if_pos rfl]
      refine c4 F4 σ3 H4 (en3.mono e4) hh4 _ fun F5 v H5 Ω5 e5 hh5 ⟨a5, o5⟩ => ?_
      subst o5
      have hk : (O s' ++ [lstA T d acc])[(O s').length]? = some (lstA T d acc) := app_at
      obtain ⟨t, ⟨ws, w1, al⟩, st, _, wr⟩ := hh5.get hk
      refine ⟨ws, st _ _ w1, by rw [al_len al]; omega, ?_⟩
      have hh6 := wr (lstA T d (acc ++ [y])) d _ (.lst (ws ++ [v])) w1 ⟨_, upd_same, al_app al (.cons a5 .nil)⟩
      rw [set_last] at hh6
      refine ⟨s', F5, acc ++ [y], r2, h2, by rw [List.append_assoc]; exact he, by rw [List.length_append]; simp; omega, f3.trans (e4.trans e5), W.mono _ _ (e4.trans e5) sx3, hh6⟩
  · have ei : i = xs.length := by omega
    subst ei
    refine .inl ⟨W.stop F _ H sx hh, ?_⟩
    rw [List.drop_length] at hs
    cases hs
    rw [List.append_nil] at he
    subst he
    exact q F (.ref d) H _ (e1.trans f1) hh ⟨d, rfl, rfl⟩
theorem xn_lcS {β γ S : Type} [Rp γ] {b : β → S → Option (Option γ × S)} {xs : List β} {s0 s1 : S} {ys : List γ} {wi : TI} {g : TG} {tt : TT} {vs : List Nat} {A : β → VA} {f : β → List (Option VA) → List (Option VA)} {js : List Nat} {Ω0 : List OA} (ks : S → List (Nat × OA)) (L : S → List OA)
    (hm : lcM b xs s0 = some (ys, s1)) (hi : XI wi Γ Ω0 xs A (stt Ω (ks s0) (L s0))) (ht : ∀ a, Tgt g (A a) (f a) js) (hj : ∀ j ∈ js, j ∈ vs) (hz : xs.length ≤ sizeLine)
    (hb : ∀ a s o s', a ∈ xs → b a s = some (o, s') → ∀ X : OA, (o = none → XT tt (f a (wip Γ vs)) (stt Ω (ks s) (L s ++ [X])) false (stt Ω (ks s') (L s' ++ [X]))) ∧
      (∀ y, o = some y → XT tt (f a (wip Γ vs)) (stt Ω (ks s) (L s ++ [X])) true (stt Ω (ks s) (L s ++ [X])) ∧ XE te (f a (wip Γ vs)) (stt Ω (ks s) (L s ++ [X])) (va T y) (stt Ω (ks s') (L s' ++ [X])))) :
    XG (tLc wi g tt te vs) Γ Ω0 (RN (stt Ω (ks s1) (L s1)) fun p => lstA T p ys) :=
  xn_lc (fun s => stt Ω (ks s) (L s)) hm hi ht hj hz fun a s o s' ha h X => by
    simp only [stt_app]
    exact hb a s o s' ha h X
/-- no test -/
theorem xt_yes : XT tYes Γ Ω true Ω := fun F σ H e hh Q q => q F H (Same.refl F) hh
end
end VL

set_option Elab.async false
set_option linter.all false
set_option maxRecDepth 100000
/-! defs, the machine, the numbers -/
namespace VL
open PySem L2
open PyProof.Rows (envOfC)

/-! ### a def by its body -/
/-- a body at a promise's arguments -/
def Bod (X : Cx) (body : List Stmt) (Γ : List (Option VA)) (Ω : List OA) (F0 : Hp) (R : Hp → V → List OA → Prop) : Prop :=
  ∃ t, PSs X body t ∧ ∀ D : Ends, RT F0 R D.rt → (∀ F σ H Ω', Same F0 F → Holds F Ω' H → R F .non Ω' → D.nx σ H) → XS t D F0 Γ Ω
theorem start_env {F : Hp} {N : List Str} {vs : List V} {As : List VA} (h : AlA F vs As) : Env F (L2.start N vs) (As.map some ++ List.replicate (N.length - As.length) none) := by
  have hl := h.len
  refine ⟨by unfold L2.start; simp [hl], fun i A q => ?_⟩
  by_cases hi : i < As.length
  · rw [List.getElem?_append_left (by simpa using hi), List.getElem?_map] at q
    have : ∀ {vs : List V} {As : List VA} {i : Nat}, AlA F vs As → (As[i]?).map some = some (some A) → ∃ v, vs[i]? = some v ∧ A.P F v := by
      intro vs As i h
      induction h generalizing i with
      | nil => intro q; simp at q
      | cons a t ih =>
        intro q
        cases i with
        | zero => simp at q; subst q; exact ⟨_, rfl, a⟩
        | succ i => simpa using ih (by simpa using q)
    obtain ⟨v, h1, h2⟩ := this h q
    refine ⟨v, ?_, h2⟩
    unfold L2.start
    rw [List.getElem?_append_left (by rw [List.length_map]; exact getlt h1), List.getElem?_map, h1]
    rfl
  · rw [List.getElem?_append_right (by simpa using hi), List.getElem?_replicate] at q
    split at q <;> cases q
section
variable {P : Program} {w : World} {K : PySem.W.Frag} {mg : Str → Option Value} {base : Heap}
theorem fn_ok {x qual : Str} {st : Stmt} {f : Addr} {fd : FuncData} {N ps : List Str} {k : Nat} {Pre : PreT} (F : Fun K x qual st f fd) (S : FnScope N ps (defScope st)) (hl : ∀ As Ω R, Pre As Ω R → As.length = ps.length)
    (hb : ∀ (cdv : Value) (A : Around) (outer : List PySem.Env) (s : Shared) (H : Hp) (E : XK), Room k (A.deeper (envOfC qual (defScope st) s.heap.objs.size f cdv)) → ∀ As Ω R F0, Pre As Ω R →
      Bod (cxOf CX0 P w K mg base N qual (defScope st) f cdv A outer s H E).nox (defBody st) (As.map some ++ List.replicate (N.length - As.length) none) Ω F0 R) : FnOk P w K mg base CX0 (k + 1) f fd ps (mkSp Pre) := by
  refine F.ok S (fun vs H Q E h => ?_) (fun cdv A outer s H vs Q E hr h => ?_)
  · obtain ⟨F, Ω, As, R, hp, ha, _⟩ := h
    rw [ha.len]; exact hl _ _ _ hp
  · obtain ⟨F0, Ω, As, R, hp, ha, hh, hq⟩ := h
    obtain ⟨t, h1, h2⟩ := hb cdv A outer s H E hr As Ω R F0 hp
    refine ⟨t, h1, h2 _ (fun F v H Ω' e hh r => hq F v H Ω' e hh r) (fun F σ H Ω' e hh r => hq F .non H Ω' e hh r) _ _ ⟨F0, Same.refl F0, start_env ha, hh⟩⟩

/-! ### a def that may be called -/
structure Cal (P : Program) (w : World) (K : PySem.W.Frag) (mg : Str → Option Value) (base : Heap) (k : Nat) (x : Str) (ps : List Str) (sp : Sp) : Prop where
  ex : ∃ f fd, FnOk P w K mg base CX0 k f fd ps sp ∧ mg x = some (.ref f) ∧ PySem.W.keepIn K (.ref f) = true ∧ Binds K fd ps []
theorem pe_cal {X : Cx} {k : Nat} {x : Str} {ps : List Str} {sp : Sp} {p pos : Pos} {e : Expr} {es : List Expr} {t : TA} (C : Cal X.prog X.w X.K X.mg X.base k x ps sp) (hr : Room k X.A) (hg : Gl X x) (ha : PA X (e :: es) t)
    (hdb : (x == ("__debug__" : Str)) = false := by decide) (he : starEach (e :: es) X.env = (false, eval e X.env) :: starEach es X.env := by rfl) (hpl : (backTo pos (starEach es X.env)).any (·.1) = false := by rfl) :
    PE X (.Call (.Name x p) (e :: es) [] pos) (tCall sp [] E0 t) := by
  obtain ⟨f, fd, F, hm, hk, hb⟩ := C.ex
  exact pe_call F hr hg hm hk hb .nil pass0 ha hdb he hpl
/-- a method -/
structure CalM (P : Program) (w : World) (K : PySem.W.Frag) (mg : Str → Option Value) (base : Heap) (k : Nat) (C : Addr) (m : Str) (ps : List Str) (sp : Sp) : Prop where
  ex : ∃ f fd, FnOk P w K mg base CX0 k f fd ps sp ∧ Meth K C m f ∧ Binds K fd ps []
  cl : Cls K C
end

/-! ### the machine -/
structure MS where
  w : Int
  c : Int
  cnt : Str → Int
  wk : List (T3 Str Int Int)
def mf (s : MS) (d e : Addr) : List (Str × V) := [("width", .int s.w), ("cutoff", .int s.c), ("counts", .ref d), ("entered", .ref e)]
def mkv (s : MS) : List (Key × V) := mwords.map fun w => (Sum.inr w, V.int (s.cnt w))
def MachAt (T : TC) (p dx d e : Addr) (ws : List V) (s : MS) (F t : Hp) : Prop := t p = some (.ins (T.C 0) dx (mf s d e)) ∧ t d = some (.dK (mkv s)) ∧ t e = some (.lst ws) ∧ Al T F ws s.wk
def machA (T : TC) (p : Addr) (s : MS) : OA := ⟨fun F t => ∃ dx d e ws, MachAt T p dx d e ws s F t, fun h ⟨dx, d, e, ws, h1, h2, h3, h4⟩ => ⟨dx, d, e, ws, h1, h2, h3, h4.mono h⟩⟩
section
variable {T : TC} {Γ : List (Option VA)} {Ω Ω1 Ω2 : List OA} {A B C : VA} {ta tb te : TE} {s : MS} {p : Addr} {k : Nat}
/-- machine.width, machine.cutoff -/
theorem xe_mw (cl : Cls T.K (T.C 0)) (na : NoAttr T.K (T.C 0) "width") (ha : XE ta Γ Ω (vr p) Ω1) (hk : Ω1[k]? = some (machA T p s)) : XE (tFld T.K ta "width") Γ Ω (va T s.w) Ω1 := fun F σ H e hh Q q => by
  refine ha F σ H e hh _ fun F1 x H1 Ω' e1 hh1 ⟨a1, o1⟩ => ?_
  subst o1
  obtain ⟨t, ⟨dx, d, en, ws, h1, h2, h3, h4⟩, st, _⟩ := hh1.get hk
  exact ⟨p, _, dx, _, _, a1, st _ _ h1, cl, na, rfl, q F1 _ H1 _ e1 hh1 ⟨rfl, rfl⟩⟩
theorem xe_mc (cl : Cls T.K (T.C 0)) (na : NoAttr T.K (T.C 0) "cutoff") (ha : XE ta Γ Ω (vr p) Ω1) (hk : Ω1[k]? = some (machA T p s)) : XE (tFld T.K ta "cutoff") Γ Ω (va T s.c) Ω1 := fun F σ H e hh Q q => by
  refine ha F σ H e hh _ fun F1 x H1 Ω' e1 hh1 ⟨a1, o1⟩ => ?_
  subst o1
  obtain ⟨t, ⟨dx, d, en, ws, h1, h2, h3, h4⟩, st, _⟩ := hh1.get hk
  exact ⟨p, _, dx, _, _, a1, st _ _ h1, cl, na, rfl, q F1 _ H1 _ e1 hh1 ⟨rfl, rfl⟩⟩
end

/-! ### the numbers -/
structure Bg where
  w : Int
  row : List Int
  v : Int
/-- the sign of a number -/
def sgn (v : Int) : Int := if v < 0 then -1 else if v = 0 then 0 else 1
instance : Rp Bg := ⟨fun T F v b => ∃ p dx r vs, v = .ref p ∧ F p = some (.ins (T.C 1) dx [("width", .int b.w), ("side", .int (sgn b.v)), ("row", .ref r), ("value", .int b.v)]) ∧ SqT T.K F r vs ∧ Al T F vs b.row,
  fun e ⟨p, dx, r, vs, h1, h2, h3, h4⟩ => ⟨p, dx, r, vs, h1, e _ _ h2, Same.tup e h3, h4.mono e⟩⟩
section
variable {T : TC} {Γ : List (Option VA)} {Ω Ω1 Ω2 : List OA} {A B C : VA} {ta tb te : TE} {x : Bg} {p : Addr} {k : Nat}
theorem xe_bw (cl : Cls T.K (T.C 1)) (na : NoAttr T.K (T.C 1) "width") (ha : XE ta Γ Ω (va T x) Ω1) : XE (tFld T.K ta "width") Γ Ω (va T x.w) Ω1 := fun F σ H e hh Q q => by
  refine ha F σ H e hh _ fun F1 v H1 Ω' e1 hh1 ⟨⟨p, dx, r, vs, h1, h2, h3, h4⟩, o1⟩ => ?_
  subst o1
  exact ⟨p, _, dx, _, _, h1, hh1.same _ _ h2, cl, na, rfl, q F1 _ H1 _ e1 hh1 ⟨rfl, rfl⟩⟩
theorem xe_bs (cl : Cls T.K (T.C 1)) (na : NoAttr T.K (T.C 1) "side") (ha : XE ta Γ Ω (va T x) Ω1) : XE (tFld T.K ta "side") Γ Ω (va T (sgn x.v)) Ω1 := fun F σ H e hh Q q => by
  refine ha F σ H e hh _ fun F1 v H1 Ω' e1 hh1 ⟨⟨p, dx, r, vs, h1, h2, h3, h4⟩, o1⟩ => ?_
  subst o1
  exact ⟨p, _, dx, _, _, h1, hh1.same _ _ h2, cl, na, rfl, q F1 _ H1 _ e1 hh1 ⟨rfl, rfl⟩⟩
theorem xe_br (cl : Cls T.K (T.C 1)) (na : NoAttr T.K (T.C 1) "row") (ha : XE ta Γ Ω (va T x) Ω1) : XE (tFld T.K ta "row") Γ Ω (va T (TF.mk x.row)) Ω1 := fun F σ H e hh Q q => by
  refine ha F σ H e hh _ fun F1 v H1 Ω' e1 hh1 ⟨⟨p, dx, r, vs, h1, h2, h3, h4⟩, o1⟩ => ?_
  subst o1
  exact ⟨p, _, dx, _, _, h1, hh1.same _ _ h2, cl, na, rfl, q F1 _ H1 _ e1 hh1 ⟨⟨r, vs, rfl, h3, h4⟩, rfl⟩⟩
theorem xe_bv (cl : Cls T.K (T.C 1)) (na : NoAttr T.K (T.C 1) "value") (ha : XE ta Γ Ω (va T x) Ω1) : XE (tFld T.K ta "value") Γ Ω (va T x.v) Ω1 := fun F σ H e hh Q q => by
  refine ha F σ H e hh _ fun F1 v H1 Ω' e1 hh1 ⟨⟨p, dx, r, vs, h1, h2, h3, h4⟩, o1⟩ => ?_
  subst o1
  exact ⟨p, _, dx, _, _, h1, hh1.same _ _ h2, cl, na, rfl, q F1 _ H1 _ e1 hh1 ⟨rfl, rfl⟩⟩
end
/-! ### things in the making -/
def rawA (t0 : Hp) : OA := ⟨fun _ t => Same t0 t, fun _ h => h⟩
section
variable {F F' H H' : Hp} {Ω : List OA} {o o' : OA} {i j : Nat} {a p : Addr} {u u' : HO}
theorem Holds.conv (h : Holds F Ω H) (q : Ω[i]? = some o) (k : ∀ t, o.P F t → o'.P F t) : Holds F (Ω.set i o') H := by
  obtain ⟨ts, h1, h2, h3, h4, h5⟩ := h
  have lt := getlt q
  refine ⟨ts, fun k x r => ?_, h2, fun k r => h3 k (by rwa [List.length_set] at r), fun k b x r => h4 k b x (by rwa [List.length_set] at r), fun k m b x r r2 => h5 k m b x (by rwa [List.length_set] at r) (by rwa [List.length_set] at r2)⟩
  by_cases hk : i = k
  · subst hk
    rw [List.getElem?_set_self lt] at r
    cases r
    exact k _ (h1 _ _ q)
  · rw [List.getElem?_set_ne hk] at r
    exact h1 k x r
/-- the thing at i, its part of the heap laid open -/
theorem Holds.opened (h : Holds F Ω H) (q : Ω[i]? = some o) : ∃ t, o.P F t ∧ Same t H ∧ Holds F (Ω.set i (rawA t)) H := by
  obtain ⟨ts, h1, h2, h3, h4, h5⟩ := h
  have lt := getlt q
  refine ⟨ts i, h1 i o q, h3 i lt, ts, fun k x r => ?_, h2, fun k r => h3 k (by rwa [List.length_set] at r), fun k b x r => h4 k b x (by rwa [List.length_set] at r), fun k m b x r r2 => h5 k m b x (by rwa [List.length_set] at r) (by rwa [List.length_set] at r2)⟩
  by_cases hk : i = k
  · subst hk
    rw [List.getElem?_set_self lt] at r
    cases r
    exact Same.refl _
  · rw [List.getElem?_set_ne hk] at r
    exact h1 k x r
theorem Holds.rawWrite {t : Hp} (h : Holds F Ω H) (q : Ω[i]? = some (rawA t)) (ha : t a = some u) : Holds F (Ω.set i (rawA (upd t a u'))) (upd H a u') := by
  obtain ⟨t2, s2, st, _, wr⟩ := h.get q
  refine wr (rawA (upd t a u')) a u u' (s2 _ _ ha) fun b x e => ?_
  by_cases hb : b = a
  · subst hb; rw [upd_same] at e ⊢; exact e
  · rw [upd_ne hb] at e ⊢; exact s2 _ _ e
theorem Holds.rawHas {t : Hp} (h : Holds F Ω H) (q : Ω[i]? = some (rawA t)) : Same t H := let ⟨_, s2, st, _⟩ := h.get q; fun b x e => st _ _ (s2 b x e)
end
/-- a new instance, nothing in it -/
def newA (C p : Addr) : OA := ⟨fun _ t => ∃ dx, t p = some (.ins C dx []), fun _ h => h⟩
section
variable {T : TC} {Γ : List (Option VA)} {Ω Ω1 Ω2 : List OA} {A B C : VA} {As Ds : List VA} {ta tb te : TE} {D : Ends} {F0 : Hp} {ts : TS}
theorem xn_make {C : Addr} {Pre : PreT} {E : XK} {t : TA} {dvs : List V} {o : Addr → OA} (ha : XA t Γ Ω As Ω1) (hd : ∀ F, AlA F dvs Ds) (hp : ∀ x, Pre (vr x :: (As ++ Ds)) (Ω1 ++ [newA C x]) (RV (va T ()) (Ω1 ++ [o x]))) :
    XG (tMake C (mkSp Pre) dvs E t) Γ Ω (RN Ω1 o) := fun F σ H e hh Q q => by
  refine ha F σ H e hh _ fun F1 xs H1 e1 hh1 a1 => ?_
  intro x dx nx ndx nex
  have hh2 : Holds F1 (Ω1 ++ [newA C x]) (upd (upd H1 dx (.own x)) x (.ins C dx [])) := by
    refine hh1.newO (t := upd (fun _ => none) x (.ins C dx [])) (fun b y r => by rw [sng_some r]; exact nx) (fun b y r => ?_) (fun b y r => ?_) ⟨dx, upd_same⟩
    · rw [upd_ne (ne_of_none r nx), upd_ne (ne_of_none r ndx)]; exact r
    · have hb := sng_some r
      subst hb
      rw [upd_same] at r ⊢; exact r
  refine ⟨F1, Ω1 ++ [newA C x], vr x :: (As ++ Ds), _, hp x, .cons rfl (a1.app (hd F1)), hh2, fun F' v H' Ω' e' hh' ⟨hv, ho⟩ => ⟨hv, ?_⟩⟩
  subst ho
  exact q F' _ H' _ (e1.trans e') hh' ⟨x, rfl, rfl⟩
def bigA (T : TC) (p : Addr) (b : Bg) : OA := ⟨fun F t => ∃ dx r vs, t p = some (.ins (T.C 1) dx [("width", .int b.w), ("side", .int (sgn b.v)), ("row", .ref r), ("value", .int b.v)]) ∧ SqT T.K F r vs ∧ Al T F vs b.row,
  fun e ⟨dx, r, vs, h2, h3, h4⟩ => ⟨dx, r, vs, h2, Same.tup e h3, h4.mono e⟩⟩
theorem xe_fzB {b : Bg} (h : XG te Γ Ω (RN Ω1 fun p => bigA T p b)) : XE te Γ Ω (va T b) Ω1 := fun F σ H e hh Q q =>
  h F σ H e hh Q fun F1 v H1 Ω' e1 hh1 ⟨p, hv, o1⟩ => by
    subst o1
    obtain ⟨F', t, s1, s2, ⟨dx, r, vs, h2, h3, h4⟩, hh'⟩ := hh1.freeze
    exact q F' v H1 _ (e1.trans s1) hh' ⟨⟨p, dx, r, vs, hv, s2 _ _ h2, Same.tup s1 h3, h4.mono s1⟩, rfl⟩
end
/-! ### what the machine's methods do -/
def MS.step (s : MS) (w : Str) (n : Int) : MS := { s with cnt := fun x => if x = w then s.cnt x + n else s.cnt x }
def MS.enter (s : MS) (w : Str) (m n : Int) : MS := { s with wk := if s.wk.length < 1000 then s.wk ++ [T3.mk w m n] else s.wk }
def MS.fresh (w c : Int) : MS := ⟨w, c, fun _ => 0, []⟩
def MS.reset (s : MS) : MS := MS.fresh s.w s.c
theorem mwords_nd : mwords.Nodup := by decide +kernel
theorem val_words {f : Str → Int} : ∀ {ws : List Str} {w : Str}, w ∈ ws → valV (ws.map fun w => ((Sum.inr w : Key), V.int (f w))) (Sum.inr w) = some (V.int (f w)) := by
  intro ws w hw
  unfold valV
  induction ws with
  | nil => cases hw
  | cons a r ih =>
    rw [List.map_cons, List.find?_cons]
    by_cases h : a = w
    · subst h; simp
    · have : decide ((Sum.inr a : Key) = Sum.inr w) = false := decide_eq_false fun e => h (Sum.inr.inj e)
      simp only [this]
      rcases List.mem_cons.mp hw with e | e
      · exact absurd e.symm h
      · exact ih e
end VL

set_option Elab.async false
set_option linter.all false
set_option maxRecDepth 100000
/-! the machine's methods, the numbers' -/
namespace VL
open PySem L2
theorem putK_words {f : Str → Int} {w : Str} (n : Int) {ws : List Str} (hw : w ∈ ws) :
    putK (ws.map fun x => ((Sum.inr x : Key), V.int (f x))) (Sum.inr w) (V.int n) = ws.map fun x => ((Sum.inr x : Key), V.int (if x = w then n else f x)) := by
  have any : ((ws.map fun x => ((Sum.inr x : Key), V.int (f x))).any fun kv => decide (kv.1 = Sum.inr w)) = true :=
    List.any_eq_true.mpr ⟨_, List.mem_map.mpr ⟨w, hw, rfl⟩, decide_eq_true rfl⟩
  unfold putK
  rw [if_pos any, List.map_map]
  apply List.map_congr_left
  intro x _
  show (if (Sum.inr x : Key) = Sum.inr w then ((Sum.inr x : Key), V.int n) else (Sum.inr x, V.int (f x))) = _
  by_cases e : x = w
  · rw [if_pos (by rw [e]), if_pos e]
  · rw [if_neg (fun z => e (Sum.inr.inj z)), if_neg e]
theorem mwords_len (s : MS) : (mkv s).length < sizeLine := by
  unfold mkv
  rw [List.length_map]
  decide +kernel
section
variable {T : TC} {Γ : List (Option VA)} {Ω Ω1 Ω2 : List OA} {A B C : VA} {As Ds : List VA} {ta tb te : TE} {D : Ends} {F0 : Hp} {ts : TS} {s : MS} {p : Addr} {k : Nat}
/-- what the machine's class must be -/
structure MCls (K : PySem.W.Frag) (C : Addr) : Prop where
  cl : Cls K C
  nw : NoAttr K C "width"
  nc : NoAttr K C "cutoff"
  nt : NoAttr K C "counts"
  ne : NoAttr K C "entered"
structure BCls (K : PySem.W.Frag) (C : Addr) : Prop where
  cl : Cls K C
  nw : NoAttr K C "width"
  ns : NoAttr K C "side"
  nr : NoAttr K C "row"
  nv : NoAttr K C "value"
theorem look_ne {a b : Str} {v : V} {fs : List (Str × V)} (h : (b == a) = false) : ((a, v) :: fs).lookup b = fs.lookup b := by
  rw [List.lookup_cons, h]
theorem mf_counts (d e : Addr) : (mf s d e).lookup ("counts" : Str) = some (V.ref d) := by
  unfold mf
  rw [look_ne (by decide +kernel), look_ne (by decide +kernel)]
  rfl
theorem mf_entered (d e : Addr) : (mf s d e).lookup ("entered" : Str) = some (V.ref e) := by
  unfold mf
  rw [look_ne (by decide +kernel), look_ne (by decide +kernel), look_ne (by decide +kernel)]
  rfl
theorem putF_hit {f : Str} {v x : V} {fs : List (Str × V)} : putF f v ((f, x) :: fs) = (f, v) :: fs := by
  show (if f = f then (f, v) :: fs else _) = _
  rw [if_pos rfl]
theorem putF_miss {f g : Str} {v x : V} {fs : List (Str × V)} (h : ¬ g = f) : putF f v ((g, x) :: fs) = (g, x) :: putF f v fs := by
  show (if g = f then _ else (g, x) :: putF f v fs) = _
  rw [if_neg h]
/-- self.counts[word] += many -/
theorem xs_step {wd : Str} {n : Int} (mc : MCls T.K (T.C 0)) (h0 : Γ[0]? = some (some (vr p))) (h1 : Γ[1]? = some (some (va T wd))) (h2 : Γ[2]? = some (some (va T n))) (hk : Ω[k]? = some (machA T p s)) (hw : wd ∈ mwords)
    (q : ∀ σ H, NX F0 Γ (Ω.set k (machA T p (s.step wd n))) σ H → D.nx σ H) : XS (sDAug (tFld T.K (tVar 0) "counts") (tVar 1) (tVar 2) rAdd) D F0 Γ Ω := fun σ H ⟨F, f0, e, hh⟩ => by
  obtain ⟨v0, a0, b0⟩ := e.2 0 _ h0
  obtain ⟨v1, a1, b1⟩ := e.2 1 _ h1
  obtain ⟨v2, a2, b2⟩ := e.2 2 _ h2
  have b1 : v1 = .str wd := b1
  have b2 : v2 = .int n := b2
  subst b1 b2
  obtain ⟨t, ⟨dx, d, en, ws, m1, m2, m3, m4⟩, st, _, wr⟩ := hh.get hk
  refine ⟨v0, a0, p, _, dx, _, _, b0, st _ _ m1, mc.cl, mc.nt, mf_counts d en, .str wd, a1, d, .int (s.cnt wd), rfl, ?_, .int n, a2, s.cnt wd, n, rfl, rfl, ?_⟩
  · have g := DGet.k (k := Sum.inr wd) (st _ _ m2)
    rw [show valV (mkv s) (Sum.inr wd) = some (V.int (s.cnt wd)) from val_words hw] at g
    exact g
  · refine ⟨_, DPut.k (k := Sum.inr wd) (st _ _ m2) (mwords_len s), q σ _ ⟨F, f0, e, wr (machA T p (s.step wd n)) d _ _ m2 ⟨dx, d, en, ws, ?_, ?_, ?_, m4⟩⟩⟩
    · rw [upd_ne (by intro z; rw [z, m2] at m1; cases m1)]; exact m1
    · rw [upd_same]
      unfold mkv
      rw [putK_words _ hw]
      congr 2
      apply List.map_congr_left
      intro x _
      show (Sum.inr x, V.int _) = (Sum.inr x, V.int (if x = wd then s.cnt x + n else s.cnt x))
      by_cases z : x = wd
      · rw [if_pos z, if_pos z, z]
      · rw [if_neg z, if_neg z]
    · rw [upd_ne (by intro z; rw [z, m2] at m3; cases m3)]; exact m3
/-- if len(self.entered) < 1000: self.entered.append((word, m, n)) -/
theorem xs_enter {wd : Str} {m n : Int} (mc : MCls T.K (T.C 0)) (h0 : Γ[0]? = some (some (vr p))) (h1 : Γ[1]? = some (some (va T wd))) (h2 : Γ[2]? = some (some (va T m))) (h3 : Γ[3]? = some (some (va T n))) (hk : Ω[k]? = some (machA T p s))
    (q : ∀ σ H, NX F0 Γ (Ω.set k (machA T p (s.enter wd m n))) σ H → D.nx σ H) :
    XS (tIfS (tTest (tOp (rI0 fun i j => .bl (decide (i < j))) (tCB (rLen T.K) (tCons (tFld T.K (tVar 0) "entered") tNil)) (tC (.int 1000))))
      (tDrop (tBM T.K "list" rAppend (tFld T.K (tVar 0) "entered") (tCons (tTup (tCons (tVar 1) (tCons (tVar 2) (tCons (tVar 3) tNil)))) tNil))) tNext) D F0 Γ Ω := fun σ H ⟨F, f0, e, hh⟩ => by
  obtain ⟨v0, a0, b0⟩ := e.2 0 _ h0
  obtain ⟨v1, a1, b1⟩ := e.2 1 _ h1
  obtain ⟨v2, a2, b2⟩ := e.2 2 _ h2
  obtain ⟨v3, a3, b3⟩ := e.2 3 _ h3
  obtain ⟨t, ⟨dx, d, en, ws, m1, m2, m3, m4⟩, st, _, wr⟩ := hh.get hk
  refine ⟨v0, a0, p, _, dx, _, _, b0, st _ _ m1, mc.cl, mc.ne, mf_entered d en, en, ws, rfl, .inl (SqL.of (st _ _ m3)), (ws.length : Int), 1000, rfl, rfl, _, rfl, ite2 (fun h => ?_) (fun h => ?_)⟩
  · have lt : ws.length < 1000 := by have := of_decide_eq_true h; omega
    refine ⟨v0, a0, p, _, dx, _, _, b0, st _ _ m1, mc.cl, mc.ne, mf_entered d en, .inl ⟨rfl, _, SqL.of (st _ _ m3)⟩, v1, a1, v2, a2, v3, a3, by show 3 ≤ sizeLine; decide, fun x hx => ?_⟩
    obtain ⟨hh2, e2⟩ := hh.newF (u := .tup [v1, v2, v3]) hx
    obtain ⟨t', ⟨dx', d', en', ws', m1', m2', m3', m4'⟩, st', _, wr'⟩ := hh2.get hk
    have nx : ∀ b y, H b = some y → b ≠ x := fun b y r => ne_of_none r hx
    have i1 := (st' _ _ m1').symm.trans ((upd_ne (nx _ _ (st _ _ m1))).trans (st _ _ m1))
    have i1 : mf s d' en' = mf s d en := by
      have := Option.some.inj i1
      injection this
    have i2 : en' = en := by
      unfold mf at i1
      injection i1 with _ i1
      injection i1 with _ i1
      injection i1 with _ i1
      injection i1 with i1 _
      injection i1 with _ i1
      injection i1
    subst i2
    have i3 := (st' _ _ m3').symm.trans ((upd_ne (nx _ _ (st _ _ m3))).trans (st _ _ m3))
    cases i3
    refine ⟨en', ws, _, rfl, rfl, st' _ _ m3', Nat.lt_trans lt (by decide), q σ _ ⟨_, f0.trans e2, e.mono e2, wr' (machA T p (s.enter wd m n)) en' _ _ m3' ⟨dx', d', en', _, ?_, ?_, upd_same, ?_⟩⟩⟩
    · rw [upd_ne (by intro z; rw [z, m3'] at m1'; cases m1')]; exact m1'
    · rw [upd_ne (by intro z; rw [z, m3'] at m2'; cases m2')]; exact m2'
    · have hl : s.wk.length < 1000 := by rw [← al_len m4]; exact lt
      show Al T _ _ (if s.wk.length < 1000 then s.wk ++ [T3.mk wd m n] else s.wk)
      rw [if_pos hl]
      exact al_app m4' (.cons ⟨x, v1, v2, v3, rfl, SqT.of upd_same, Rp.mono (α := Str) e2 b1, Rp.mono (α := Int) e2 b2, Rp.mono (α := Int) e2 b3⟩ .nil)
  · have ge : ¬ s.wk.length < 1000 := by
      intro z
      apply h
      rw [← al_len m4] at z
      exact decide_eq_true (by omega)
    refine q σ H ⟨F, f0, e, ?_⟩
    have es : s.enter wd m n = s := by
      unfold MS.enter
      rw [if_neg ge]
    rw [es]
    have : Ω.set k (machA T p s) = Ω := by
      apply List.ext_getElem?
      intro j
      by_cases z : k = j
      · subst z; rw [List.getElem?_set_self (getlt hk), hk]
      · rw [List.getElem?_set_ne z]
    rw [this]
    exact hh
/-! ### a thing in the making: its attributes stored one by one -/
theorem xs_fldV {C : Addr} {f : Str} {v0 : V} {t : Hp} {dx : Addr} {fs : List (Str × V)} {j : Nat} (cl : Cls T.K C) (na : NoAttr T.K C f) (h : XE te Γ Ω (vx v0) Ω) (hj : Γ[j]? = some (some (vr p))) (hk : Ω[k]? = some (rawA t)) (ht : t p = some (.ins C dx fs)) (hl : fs.length < 1000)
    (q : XS ts D F0 Γ (Ω.set k (rawA (upd t p (.ins C dx (putF f v0 fs)))))) : XS (tSeq (sFld T.K (tVar j) te f) ts) D F0 Γ Ω := fun σ H ⟨F, f0, e, hh⟩ => by
  refine h F σ H e hh _ fun F1 v H1 Ω' e1 hh1 ⟨a1, o1⟩ => ?_
  subst o1
  have a1 : v = v0 := a1
  subst a1
  obtain ⟨x, h1, h2⟩ := e.2 j _ hj
  refine ⟨x, h1, p, C, dx, fs, h2, hh1.rawHas hk _ _ ht, cl, na, hl, ?_⟩
  exact q σ _ ⟨F1, f0.trans e1, e.mono e1, hh1.rawWrite hk ht⟩
theorem xs_fldN {C : Addr} {f : Str} {u : HO} {t : Hp} {dx : Addr} {fs : List (Str × V)} {j : Nat} (cl : Cls T.K C) (na : NoAttr T.K C f) (h : XG te Γ Ω (RN Ω fun r => rawA (upd (fun _ => none) r u))) (hj : Γ[j]? = some (some (vr p))) (hk : Ω[k]? = some (rawA t)) (ht : t p = some (.ins C dx fs)) (hl : fs.length < 1000)
    (q : ∀ r, t r = none → XS ts D F0 Γ (Ω.set k (rawA (upd (upd t r u) p (.ins C dx (putF f (.ref r) fs)))))) : XS (tSeq (sFld T.K (tVar j) te f) ts) D F0 Γ Ω := fun σ H ⟨F, f0, e, hh⟩ => by
  refine h F σ H e hh _ fun F1 v H1 Ω' e1 hh1 ⟨r, a1, o1⟩ => ?_
  subst o1 a1
  obtain ⟨x, h1, h2⟩ := e.2 j _ hj
  obtain ⟨t1, t2, s1, s2, _, _, dj, kk⟩ := hh1.merge hk
  have nt : t r = none := by
    cases z : t r with
    | none => rfl
    | some y => exact (nn (s2 r u upd_same) (dj r y (s1 _ _ z))).elim
  have hh2 : Holds F1 (Ω.set k (rawA (upd t r u))) H1 := kk _ fun b y e => by
    by_cases hb : b = r
    · subst hb
      rw [upd_same] at e
      cases e
      refine cup_r (fun c y z => ?_) b u (s2 b u upd_same)
      cases w : t1 c with
      | none => rfl
      | some y2 => exact (nn z (dj c y2 w)).elim
    · rw [upd_ne hb] at e
      exact cup_l b y (s1 b y e)
  have hk2 : (Ω.set k (rawA (upd t r u)))[k]? = some (rawA (upd t r u)) := List.getElem?_set_self (getlt hk)
  have np : p ≠ r := ne_of_none ht nt
  have ht2 : upd t r u p = some (.ins C dx fs) := by rw [upd_ne np]; exact ht
  refine ⟨x, h1, p, C, dx, fs, h2, hh2.rawHas hk2 _ _ ht2, cl, na, hl, ?_⟩
  have hh3 := hh2.rawWrite (u' := .ins C dx (putF f (.ref r) fs)) hk2 ht2
  rw [List.set_set] at hh3
  exact q r nt σ _ ⟨F1, f0.trans e1, e.mono e1, hh3⟩
theorem NX.conv {o o' : OA} {σ : L2.St} {H : Hp} (h : NX F0 Γ Ω σ H) (hk : Ω[k]? = some o) (c : ∀ F t, Same F0 F → o.P F t → o'.P F t) : NX F0 Γ (Ω.set k o') σ H :=
  let ⟨F, f0, e, hh⟩ := h
  ⟨F, f0, e, hh.conv hk fun t => c F t f0⟩
/-- {word: 0 for word in WORDS} -/
theorem xn_zeros {aW : Addr} {i : Nat} {vs : List Nat} (hW : ∀ H, SqT T.K H aW (mwords.map V.str)) (hi : i ∈ vs) (hlt : i < Γ.length) :
    XG (tDc (iTup T.K (tC (.ref aW))) (gName i) tYes (tVar i) (tC (.int 0)) vs) Γ Ω (RN Ω fun r => rawA (upd (fun _ => none) r (.dK (mwords.map fun w => (Sum.inr w, V.int 0))))) := fun F σ H e hh Q q => by
  refine ⟨aW, rfl, ⟨_, hW H⟩, fun d hd => ?_⟩
  refine dc_tup (xs := mwords.map V.str) (fun m H' => Holds F (Ω ++ [rawA (upd (fun _ => none) d (.dK ((mwords.take m).map fun w => (Sum.inr w, V.int 0))))]) H') (hh.newL hd (Same.refl _)) (fun _ H' _ _ => hW H') (fun m x H' hx p => ?_) (fun H' p => ?_)
  · rw [List.getElem?_map] at hx
    cases hw : mwords[m]? with
    | none => rw [hw] at hx; cases hx
    | some wd =>
      rw [hw] at hx
      cases hx
      refine ⟨(wipe_set hi).trans (wipe_wipe vs), ?_⟩
      simp only [tYes, ↓reduceIte]
      have li : i < (wipe σ vs).length := by rw [wipe_length, e.1]; exact hlt
      refine ⟨.str wd, by rw [List.getElem?_set_self li], _, Sum.inr wd, rfl, p.rawHas app_at d _ upd_same, ?_, ?_⟩
      · rw [List.length_map, List.length_take]
        exact Nat.lt_of_le_of_lt (Nat.min_le_right _ _) (by decide +kernel)
      · have hh2 := p.rawWrite (u' := .dK (putK ((mwords.take m).map fun w => ((Sum.inr w : Key), V.int 0)) (Sum.inr wd) (.int 0))) app_at upd_same
        rw [set_last, upd_upd] at hh2
        have nin : valV ((mwords.take m).map fun w => ((Sum.inr w : Key), V.int 0)) (Sum.inr wd) = none := by
          cases z : valV ((mwords.take m).map fun w => ((Sum.inr w : Key), V.int 0)) (Sum.inr wd) with
          | none => rfl
          | some y =>
            have hm := valV_in z
            rw [List.map_map] at hm
            obtain ⟨w2, h2, e2⟩ := List.mem_map.mp hm
            have e2 : w2 = wd := Sum.inr.inj e2
            subst e2
            obtain ⟨j2, h3, h4⟩ := List.mem_take_iff_getElem.mp h2
            have hlt3 : j2 < mwords.length := by omega
            have eq2 : mwords[j2]? = some w2 := by rw [List.getElem?_eq_getElem hlt3, h4]
            have := nd_ix mwords_nd eq2 hw
            omega
        rw [putK_new _ nin] at hh2
        rw [List.take_add_one, hw, List.map_append, putK_new _ nin]
        exact hh2
  · rw [show (mwords.map V.str).length = mwords.length from List.length_map _, List.take_length] at p
    exact q F (.ref d) H' _ (Same.refl F) p ⟨d, rfl, rfl⟩
/-- the whole of a machine's __init__ behind its checks: four stores -/
theorem mf_put {w c : Int} {d e : Addr} : putF "entered" (.ref e) (putF "counts" (.ref d) (putF "cutoff" (.int c) (putF "width" (.int w) []))) = ([("width", .int w), ("cutoff", .int c), ("counts", .ref d), ("entered", .ref e)] : List (Str × V)) := by
  rw [show putF "width" (.int w) [] = [(("width" : Str), V.int w)] from rfl, putF_miss (f := "cutoff") (g := "width") (by decide +kernel), show putF "cutoff" (.int c) [] = [(("cutoff" : Str), V.int c)] from rfl,
    putF_miss (f := "counts") (g := "width") (by decide +kernel), putF_miss (f := "counts") (g := "cutoff") (by decide +kernel), show putF "counts" (.ref d) [] = [(("counts" : Str), V.ref d)] from rfl,
    putF_miss (f := "entered") (g := "width") (by decide +kernel), putF_miss (f := "entered") (g := "cutoff") (by decide +kernel), putF_miss (f := "entered") (g := "counts") (by decide +kernel)]
  all_goals rfl
theorem mf_reset {d e d2 e2 : Addr} : putF "entered" (.ref e2) (putF "counts" (.ref d2) (mf s d e)) = mf s d2 e2 := by
  unfold mf
  rw [putF_miss (f := "counts") (g := "width") (by decide +kernel), putF_miss (f := "counts") (g := "cutoff") (by decide +kernel), putF_hit,
    putF_miss (f := "entered") (g := "width") (by decide +kernel), putF_miss (f := "entered") (g := "cutoff") (by decide +kernel), putF_miss (f := "entered") (g := "counts") (by decide +kernel), putF_hit]
theorem set_get {l : List OA} {k : Nat} {o o' : OA} (h : l[k]? = some o) : (l.set k o')[k]? = some o' := List.getElem?_set_self (getlt h)
/-- self.width = bits; self.cutoff = cutoff; self.counts = {..}; self.entered = [] -/
theorem xs_minit {w c : Int} {aW : Addr} {i : Nat} {vs : List Nat} (mc : MCls T.K (T.C 0)) (hW : ∀ H, SqT T.K H aW (mwords.map V.str)) (hi : i ∈ vs) (hlt : i < Γ.length)
    (h0 : Γ[0]? = some (some (vr p))) (h1 : Γ[1]? = some (some (va T w))) (h2 : Γ[2]? = some (some (va T c))) (hk : Ω[k]? = some (newA (T.C 0) p)) (q : ∀ σ H, NX F0 Γ (Ω.set k (machA T p (MS.fresh w c))) σ H → D.nx σ H) :
    XS (tSeq (sFld T.K (tVar 0) (tVar 1) "width") (tSeq (sFld T.K (tVar 0) (tVar 2) "cutoff") (tSeq (sFld T.K (tVar 0) (tDc (iTup T.K (tC (.ref aW))) (gName i) tYes (tVar i) (tC (.int 0)) vs) "counts") (sFld T.K (tVar 0) (tLst tNil) "entered")))) D F0 Γ Ω := by
  intro σ H ⟨F, f0, e, hh⟩
  obtain ⟨t, ⟨dx, ht⟩, _, hh2⟩ := hh.opened hk
  have hk2 : (Ω.set k (rawA t))[k]? = some (rawA t) := set_get hk
  have iv : ∀ {j : Nat} {n : Int} {Ω' : List OA}, Γ[j]? = some (some (va T n)) → XE (tVar j) Γ Ω' (vx (.int n)) Ω' := fun h => (xe_var h).to fun F v a => a
  refine xs_fldV (D := D) (ts := (tSeq (sFld T.K (tVar 0) (tVar 2) "cutoff") (tSeq (sFld T.K (tVar 0) (tDc (iTup T.K (tC (.ref aW))) (gName i) tYes (tVar i) (tC (.int 0)) vs) "counts") (sFld T.K (tVar 0) (tLst tNil) "entered")))) mc.cl mc.nw (iv h1) h0 hk2 ht (by decide) ?_ σ H ⟨F, Same.refl F, e, hh2⟩
  rw [List.set_set]
  refine xs_fldV mc.cl mc.nc (iv h2) h0 (set_get hk) upd_same (by show 1 < 1000; decide) ?_
  rw [List.set_set, upd_upd]
  refine xs_fldN mc.cl mc.nt (xn_zeros hW hi hlt) h0 (set_get hk) upd_same (by rw [show putF "width" (V.int w) [] = [(("width" : Str), V.int w)] from rfl, putF_miss (by decide +kernel)]; show 2 < 1000; decide) fun d hd => ?_
  rw [List.set_set]
  refine fun σ H n => xs_fldN (ts := tNext) mc.cl mc.ne (u := .lst []) (p := p) ?_ h0 (set_get hk) upd_same ?_ (fun en he => ?_) σ H n
  · exact fun F σ H e hh Q q => ⟨Nat.zero_le _, fun r hr => q F (.ref r) _ _ (Same.refl F) (hh.newL (o := rawA (upd (fun _ => none) r (.lst []))) hr (Same.refl _)) ⟨r, rfl, rfl⟩⟩
  · rw [show putF "width" (V.int w) [] = [(("width" : Str), V.int w)] from rfl, putF_miss (by decide +kernel), show putF "cutoff" (V.int c) [] = [(("cutoff" : Str), V.int c)] from rfl, putF_miss (by decide +kernel), putF_miss (by decide +kernel)]
    show 3 < 1000
    decide
  · rw [List.set_set, mf_put]
    intro σ H n
    have npd : d ≠ p := fun z => by rw [z, upd_same] at hd; cases hd
    have npe : en ≠ p := fun z => by rw [z, upd_same] at he; cases he
    have nde : d ≠ en := fun z => by rw [← z, upd_ne npd, upd_same] at he; cases he
    have n2 := n.conv (o' := machA T p (MS.fresh w c)) (set_get hk) fun F t f st => ⟨dx, d, en, [], st p _ upd_same, st d _ (by rw [upd_ne npd, upd_ne nde, upd_ne npd, upd_same]; rfl), st en _ (by rw [upd_ne npe, upd_same]), .nil⟩
    rw [List.set_set] at n2
    obtain ⟨F2, f2, e2, hh3⟩ := n2
    exact q σ H ⟨F2, f0.trans f2, e2, hh3⟩
/-- self.counts = {..}; self.entered = [] -/
theorem xs_mreset {aW : Addr} {i : Nat} {vs : List Nat} (mc : MCls T.K (T.C 0)) (hW : ∀ H, SqT T.K H aW (mwords.map V.str)) (hi : i ∈ vs) (hlt : i < Γ.length)
    (h0 : Γ[0]? = some (some (vr p))) (hk : Ω[k]? = some (machA T p s)) (q : ∀ σ H, NX F0 Γ (Ω.set k (machA T p s.reset)) σ H → D.nx σ H) :
    XS (tSeq (sFld T.K (tVar 0) (tDc (iTup T.K (tC (.ref aW))) (gName i) tYes (tVar i) (tC (.int 0)) vs) "counts") (sFld T.K (tVar 0) (tLst tNil) "entered")) D F0 Γ Ω := by
  intro σ H ⟨F, f0, e, hh⟩
  obtain ⟨t, ⟨dx, d0, e0, ws, ht, _⟩, _, hh2⟩ := hh.opened hk
  have hk2 : (Ω.set k (rawA t))[k]? = some (rawA t) := set_get hk
  refine xs_fldN (D := D) (ts := sFld T.K (tVar 0) (tLst tNil) "entered") mc.cl mc.nt (xn_zeros hW hi hlt) h0 hk2 ht (by show 4 < 1000; decide) (fun d hd => ?_) σ H ⟨F, Same.refl F, e, hh2⟩
  rw [List.set_set]
  refine fun σ H n => xs_fldN (ts := tNext) mc.cl mc.ne (u := .lst []) (p := p) ?_ h0 (set_get hk) upd_same ?_ (fun en he => ?_) σ H n
  · exact fun F σ H e hh Q q => ⟨Nat.zero_le _, fun r hr => q F (.ref r) _ _ (Same.refl F) (hh.newL (o := rawA (upd (fun _ => none) r (.lst []))) hr (Same.refl _)) ⟨r, rfl, rfl⟩⟩
  · unfold mf
    rw [putF_miss (by decide +kernel), putF_miss (by decide +kernel), putF_hit]
    show 4 < 1000
    decide
  · rw [List.set_set, mf_reset]
    intro σ H n
    have npd : d ≠ p := fun z => by rw [z, ht] at hd; cases hd
    have npe : en ≠ p := fun z => by rw [z, upd_same] at he; cases he
    have nde : d ≠ en := fun z => by rw [← z, upd_ne npd, upd_same] at he; cases he
    have n2 := n.conv (o' := machA T p s.reset) (set_get hk) fun F t f st => ⟨dx, d, en, [], st p _ upd_same, st d _ (by rw [upd_ne npd, upd_ne nde, upd_ne npd, upd_same]; rfl), st en _ (by rw [upd_ne npe, upd_same]), .nil⟩
    rw [List.set_set] at n2
    obtain ⟨F2, f2, e2, hh3⟩ := n2
    exact q σ H ⟨F2, f0.trans f2, e2, hh3⟩
/-- self.counts[word] -/
theorem xe_cnt {wd : Str} {i j : Nat} (mc : MCls T.K (T.C 0)) (ha : Γ[j]? = some (some (vr p))) (hy : Γ[i]? = some (some (va T wd))) (hk : Ω[k]? = some (machA T p s)) (hw : wd ∈ mwords) : XE (tDGet (tFld T.K (tVar j) "counts") (tVar i)) Γ Ω (va T (s.cnt wd)) Ω := fun F σ H e hh Q q => by
  obtain ⟨v0, a0, b0⟩ := e.2 j _ ha
  obtain ⟨v1, a1, b1⟩ := e.2 i _ hy
  have b1 : v1 = .str wd := b1
  subst b1
  obtain ⟨t, ⟨dx, d, en, ws, m1, m2, m3, m4⟩, st, _⟩ := hh.get hk
  refine ⟨v0, a0, p, _, dx, _, _, b0, st _ _ m1, mc.cl, mc.nt, mf_counts d en, .str wd, a1, d, .int (s.cnt wd), rfl, ?_, q F _ H _ (Same.refl F) hh ⟨rfl, rfl⟩⟩
  have g := DGet.k (k := Sum.inr wd) (st _ _ m2)
  rw [show valV (mkv s) (Sum.inr wd) = some (V.int (s.cnt wd)) from val_words hw] at g
  exact g
/-- self.entered, as a list -/
theorem xe_walk {j : Nat} (mc : MCls T.K (T.C 0)) (ha : Γ[j]? = some (some (vr p))) (hk : Ω[k]? = some (machA T p s)) : XE (tCB (rList T.K) (tCons (tFld T.K (tVar j) "entered") tNil)) Γ Ω (va T (LF.mk s.wk)) Ω := fun F σ H e hh Q q => by
  obtain ⟨v0, a0, b0⟩ := e.2 j _ ha
  obtain ⟨t, ⟨dx, d, en, ws, m1, m2, m3, m4⟩, st, _⟩ := hh.get hk
  refine ⟨v0, a0, p, _, dx, _, _, b0, st _ _ m1, mc.cl, mc.ne, mf_entered d en, en, ws, rfl, .inl (SqL.of (st _ _ m3)), fun l hl => ?_⟩
  obtain ⟨hh2, e2⟩ := hh.newF (u := .lst ws) hl
  exact q _ _ _ _ e2 hh2 ⟨⟨l, ws, rfl, upd_same, m4.mono e2⟩, rfl⟩
/-- the words of the tally -/
theorem xi_words {aW : Addr} (hW : ∀ H, SqT T.K H aW (mwords.map V.str)) : XI (iTup T.K (tC (.ref aW))) Γ Ω mwords (fun a => va T a) Ω := fun F σ H e hh R r => by
  have al : ∀ l : List Str, Al T F (l.map V.str) l := fun l => by
    induction l with
    | nil => exact .nil
    | cons a r ih => exact .cons rfl ih
  exact ⟨aW, rfl, ⟨_, hW H⟩, r F _ H _ (Same.refl F) hh wk_tup ⟨hW F, al mwords⟩⟩
theorem lcM_all {β γ : Type} (f : β → γ) : ∀ l : List β, lcM (fun x (_ : Unit) => some (some (f x), ())) l () = some (l.map f, ())
  | [] => rfl
  | x :: r => by
    show ((lcM (fun x (_ : Unit) => some (some (f x), ())) r ()).bind fun (ys, s'') => some (f x :: ys, s'')) = _
    rw [lcM_all f r]
    rfl
def MS.tally (s : MS) : List (Str × Int) := mwords.map fun w => (w, s.cnt w)
theorem xe_tally {aW : Addr} {i j : Nat} {vs : List Nat} (mc : MCls T.K (T.C 0)) (hW : ∀ H, SqT T.K H aW (mwords.map V.str)) (hi : i ∈ vs) (ha : ((wip Γ vs).set i none)[j]? = some (some (vr p))) (hlt : i < (wip Γ vs).length) (hk : Ω[k]? = some (machA T p s)) :
    XE (tLc (iTup T.K (tC (.ref aW))) (gName i) tYes (tTup (tCons (tVar i) (tCons (tDGet (tFld T.K (tVar j) "counts") (tVar i)) tNil))) vs) Γ Ω (va T (LF.mk s.tally)) Ω := by
  refine xe_fz (xn_lc (fun _ : Unit => Ω) (lcM_all (fun w => (w, s.cnt w)) mwords) (xi_words hW) (fun a => tgt_name) (fun m hm => by rw [List.mem_singleton.mp hm]; exact hi) (by decide +kernel) fun a s1 o s2 hm h X => ⟨fun e => ?_, fun y e => ?_⟩)
  · subst e; cases h
  · subst e
    cases h
    have hj : ((wip Γ vs).set i (some (va T a)))[j]? = some (some (vr p)) := by
      have ne : i ≠ j := fun z => by
        subst z
        rw [List.getElem?_set_self hlt] at ha
        cases ha
      rw [List.getElem?_set_ne ne] at ha ⊢
      exact ha
    have hi' : ((wip Γ vs).set i (some (va T a)))[i]? = some (some (va T a)) := List.getElem?_set_self hlt
    exact ⟨xt_yes, xe_tup2 (xa_cons (xe_var hi') (xa_cons (xe_cnt mc hj hi' (app_lt hk) hm) xa_nil))⟩
/-- a frozen thing stored -/
theorem xs_fldR {C : Addr} {f : Str} {t : Hp} {dx : Addr} {fs : List (Str × V)} {j : Nat} {row : List Int} (cl : Cls T.K C) (na : NoAttr T.K C f) (h : ∀ Ω', XE te Γ Ω' (va T (TF.mk row)) Ω') (hj : Γ[j]? = some (some (vr p))) (hk : Ω[k]? = some (rawA t)) (ht : t p = some (.ins C dx fs)) (hl : fs.length < 1000)
    (q : ∀ F1 r vs, Same F0 F1 → SqT T.K F1 r vs → Al T F1 vs row → XS ts D F1 Γ (Ω.set k (rawA (upd t p (.ins C dx (putF f (.ref r) fs)))))) : XS (tSeq (sFld T.K (tVar j) te f) ts) D F0 Γ Ω := fun σ H ⟨F, f0, e, hh⟩ => by
  refine h Ω F σ H e hh _ fun F1 v H1 Ω' e1 hh1 ⟨⟨r, vs, hv, s1, a1⟩, o1⟩ => ?_
  subst o1 hv
  obtain ⟨x, h1, h2⟩ := e.2 j _ hj
  refine ⟨x, h1, p, C, dx, fs, h2, hh1.rawHas hk _ _ ht, cl, na, hl, ?_⟩
  exact q F1 r vs (f0.trans e1) s1 a1 σ _ ⟨F1, Same.refl F1, e.mono e1, hh1.rawWrite hk ht⟩
/-- a number's __init__ -/
theorem bg_put {w s v : Int} {r : Addr} : putF "value" (.int v) (putF "row" (.ref r) (putF "side" (.int s) (putF "width" (.int w) []))) = ([("width", .int w), ("side", .int s), ("row", .ref r), ("value", .int v)] : List (Str × V)) := by
  rw [show putF "width" (V.int w) [] = [(("width" : Str), V.int w)] from rfl, putF_miss (f := "side") (g := "width") (by decide +kernel), show putF "side" (V.int s) [] = [(("side" : Str), V.int s)] from rfl,
    putF_miss (f := "row") (g := "width") (by decide +kernel), putF_miss (f := "row") (g := "side") (by decide +kernel), show putF "row" (V.ref r) [] = [(("row" : Str), V.ref r)] from rfl,
    putF_miss (f := "value") (g := "width") (by decide +kernel), putF_miss (f := "value") (g := "side") (by decide +kernel), putF_miss (f := "value") (g := "row") (by decide +kernel)]
  rfl
theorem xs_binit {ts1 : TE} {w v : Int} {row : List Int} (bc : BCls T.K (T.C 1)) (h0 : Γ[0]? = some (some (vr p))) (h1 : Γ[1]? = some (some (va T w))) (h2 : Γ[2]? = some (some (va T v)))
    (hs : ∀ Ω', XE ts1 Γ Ω' (va T (sgn v)) Ω') (h3 : ∀ Ω', XE te Γ Ω' (va T (TF.mk row)) Ω') (hk : Ω[k]? = some (newA (T.C 1) p)) (q : ∀ σ H, NX F0 Γ (Ω.set k (bigA T p ⟨w, row, v⟩)) σ H → D.nx σ H) :
    XS (tSeq (sFld T.K (tVar 0) (tVar 1) "width") (tSeq (sFld T.K (tVar 0) ts1 "side") (tSeq (sFld T.K (tVar 0) te "row") (sFld T.K (tVar 0) (tVar 2) "value")))) D F0 Γ Ω := by
  intro σ H ⟨F, f0, e, hh⟩
  obtain ⟨t, ⟨dx, ht⟩, _, hh2⟩ := hh.opened hk
  have hk2 : (Ω.set k (rawA t))[k]? = some (rawA t) := set_get hk
  have iv : ∀ {j : Nat} {n : Int} {Ω' : List OA}, Γ[j]? = some (some (va T n)) → XE (tVar j) Γ Ω' (vx (.int n)) Ω' := fun h => (xe_var h).to fun F v a => a
  refine xs_fldV (D := D) (ts := (tSeq (sFld T.K (tVar 0) ts1 "side") (tSeq (sFld T.K (tVar 0) te "row") (sFld T.K (tVar 0) (tVar 2) "value")))) bc.cl bc.nw (iv h1) h0 hk2 ht (by decide) ?_ σ H ⟨F, Same.refl F, e, hh2⟩
  rw [List.set_set]
  refine xs_fldV (v0 := .int (sgn v)) bc.cl bc.ns ((hs _).to fun F u a => a) h0 (set_get hk) upd_same (by show 1 < 1000; decide) ?_
  rw [List.set_set, upd_upd]
  refine xs_fldR bc.cl bc.nr h3 h0 (set_get hk) upd_same (by rw [show putF "width" (V.int w) [] = [(("width" : Str), V.int w)] from rfl, putF_miss (by decide +kernel)]; show 2 < 1000; decide) fun F1 r vs e1 s1 a1 => ?_
  rw [List.set_set, upd_upd]
  refine fun σ H n => xs_fldV (ts := tNext) bc.cl bc.nv (iv h2) h0 (set_get hk) upd_same ?_ ?_ σ H n
  · rw [show putF "width" (V.int w) [] = [(("width" : Str), V.int w)] from rfl, putF_miss (by decide +kernel), show putF "side" (V.int (sgn v)) [] = [(("side" : Str), V.int (sgn v))] from rfl, putF_miss (by decide +kernel), putF_miss (by decide +kernel)]
    show 3 < 1000
    decide
  · rw [List.set_set, upd_upd, bg_put]
    intro σ H n
    have n2 := n.conv (o' := bigA T p ⟨w, row, v⟩) (set_get hk) fun F t f st => ⟨dx, r, vs, st p _ upd_same, Same.tup f s1, a1.mono f⟩
    rw [List.set_set] at n2
    obtain ⟨F2, f2, e2, hh3⟩ := n2
    exact q σ H ⟨F2, f0.trans (e1.trans f2), e2, hh3⟩
end
end VL

set_option Elab.async false
set_option linter.all false
set_option maxRecDepth 100000
/-! what the printed texts lean on -/
namespace VL
open PySem L2
open PyProof.Rows (envOfC)
section
variable {P : Program} {w : World} {K : PySem.W.Frag} {mg : Str → Option Value} {base : Heap}
theorem fn_okD {x qual : Str} {params : Arguments} {body : List Stmt} {scope : Scope} {dvs : List V} {f : Addr} {fd : FuncData} {N ps : List Str} {k : Nat} {Pre : PreT} (F : FunD K x qual params body scope dvs [] f fd) (S : FnScope N ps scope) (hl : ∀ As Ω R, Pre As Ω R → As.length = ps.length)
    (hb : ∀ (cdv : Value) (A : Around) (outer : List PySem.Env) (s : Shared) (H : Hp) (E : XK), Room k (A.deeper (envOfC qual scope s.heap.objs.size f cdv)) → ∀ As Ω R F0, Pre As Ω R →
      Bod (cxOf CX0 P w K mg base N qual scope f cdv A outer s H E).nox body (As.map some ++ List.replicate (N.length - As.length) none) Ω F0 R) : FnOk P w K mg base CX0 (k + 1) f fd ps (mkSp Pre) := by
  refine F.ok S (fun vs H Q E h => ?_) (fun cdv A outer s H vs Q E hr h => ?_)
  · obtain ⟨F, Ω, As, R, hp, ha, _⟩ := h
    rw [ha.len]; exact hl _ _ _ hp
  · obtain ⟨F0, Ω, As, R, hp, ha, hh, hq⟩ := h
    obtain ⟨t, h1, h2⟩ := hb cdv A outer s H E hr As Ω R F0 hp
    exact ⟨t, h1.nox, h2 _ (fun F v H Ω' e hh r => hq F v H Ω' e hh r) (fun F σ H Ω' e hh r => hq F .non H Ω' e hh r) _ _ ⟨F0, Same.refl F0, start_env ha, hh⟩⟩
/-- a class that may be made: dvs fill up what is not written -/
structure CalC (P : Program) (w : World) (K : PySem.W.Frag) (mg : Str → Option Value) (base : Heap) (k : Nat) (x : Str) (C : Addr) (ps : List Str) (dvs : List V) (sp : Sp) : Prop where
  ex : ∃ f fd ds, FnOk P w K mg base CX0 k f fd ps sp ∧ mg x = some (.ref C) ∧ Mk K C f ∧ Vals dvs ds ∧ Binds K fd ps ds
section
variable {X : Cx} {k : Nat} {x m : Str} {C : Addr} {ps : List Str} {dvs : List V} {sp : Sp} {p pos apos : Pos} {e o : Expr} {es : List Expr} {t : TA} {ta : TE}
theorem pe_calC (c : CalC X.prog X.w X.K X.mg X.base k x C ps dvs sp) (hr : Room (k + 1) X.A) (hg : Gl X x) (ha : PA X (e :: es) t)
    (hdb : (x == ("__debug__" : Str)) = false := by decide) (he : starEach (e :: es) X.env = (false, eval e X.env) :: starEach es X.env := by rfl) (hpl : (backTo pos (starEach es X.env)).any (·.1) = false := by rfl) :
    PE X (.Call (.Name x p) (e :: es) [] pos) (tMake C sp dvs E0 t) := by
  obtain ⟨f, fd, ds, F, hm, M, hv, hb⟩ := c.ex
  exact pe_make M F hr hg hm hb hv pass0 ha hdb he hpl
theorem pe_calM {pl : Sem Bool} (he : PE X o ta) (c : CalM X.prog X.w X.K X.mg X.base k C m ps sp) (hr : Room k X.A) (ha : PA X (e :: es) t)
    (hst : starEach (e :: es) X.env = (false, eval e X.env) :: starEach es X.env := by rfl) (hpl : (backTo pos (starEach es X.env)).any (·.1) = false := by rfl)
    (ht : eval (.Call (.Attribute o m apos) (e :: es) [] pos) X.env = (do
      let ov ← eval o X.env
      standAt apos.atName
      let (f, first) ← holding [ov] (getMethod ov m pl)
      callWith pos f first (backTo pos (starEach (e :: es) X.env)) (backToKw pos (keywordEach [] X.env))) := by rfl) :
    PE X (.Call (.Attribute o m apos) (e :: es) [] pos) (tMeth C m sp [] E0 ta t) := by
  obtain ⟨f, fd, F, hm, hb⟩ := c.ex
  exact pe_meth he c.cl hm F hr hb .nil pass0 ha hst hpl ht
theorem pe_calM0 {pl : Sem Bool} (he : PE X o ta) (c : CalM X.prog X.w X.K X.mg X.base k C m ps sp) (hr : Room k X.A)
    (ht : eval (.Call (.Attribute o m apos) [] [] pos) X.env = (do
      let ov ← eval o X.env
      standAt apos.atName
      let (f, first) ← holding [ov] (getMethod ov m pl)
      callWith pos f first (backTo pos (starEach [] X.env)) (backToKw pos (keywordEach [] X.env))) := by rfl) :
    PE X (.Call (.Attribute o m apos) [] [] pos) (tMeth C m sp [] E0 ta tNil) := by
  obtain ⟨f, fd, F, hm, hb⟩ := c.ex
  exact pe_meth0 he c.cl hm F hr hb .nil pass0 ht
/-- a module's constant -/
theorem pe_gl {x : Str} {v : V} {pos : Pos} (hg : Gl X x) (hm : ∃ u, X.mg x = some u ∧ RelV v u) (hd : (x == ("__debug__" : Str)) = false := by decide) : PE X (.Name x pos) (tC v) := by
  obtain ⟨u, h1, h2⟩ := hm
  exact pe_glob hg h1 h2 hd
end
end
section
variable {X : Cx}
theorem op_mulG : OpR X (binaryOp .Mult) (rI IntMulOk fun i j => .int (i * j)) := L2.opI fun _ _ _ _ _ _ _ hc q => PyProof.Rows.mul_int q hc
/-- + of ints, of lists; * of ints, of a list and an int -/
def rAddQ : R2 := fun x y H Q => rI0 (fun i j => .int (i + j)) x y H Q ∨ rCat x y H Q
theorem op_addQ : OpR X (binaryOp .Add) rAddQ := op_add.or op_cat
def rMulQ : R2 := fun x y H Q => rI IntMulOk (fun i j => .int (i * j)) x y H Q ∨ rRep x y H Q
theorem op_mulQ : OpR X (binaryOp .Mult) rMulQ := op_mulG.or op_rep
/-- int(x) -/
def rInt : List V → Hp → VK → Prop := fun xs H Q => (∃ i, xs = [.int i] ∧ Q (.int i) H) ∨ ∃ k, xs = [.bl k] ∧ Q (.int (if k then 1 else 0)) H
theorem cr_int : CallR X (.type "int") rInt := call_int1
def rAbs : List V → Hp → VK → Prop := fun xs H Q => ∃ i, xs = [.int i] ∧ Q (.int (if i < 0 then -i else i)) H
theorem cr_abs : CallR X (.builtin "abs") rAbs := call_abs
def rMax2 : List V → Hp → VK → Prop := fun xs H Q => ∃ i j, xs = [.int i, .int j] ∧ Q (.int (if j > i then j else i)) H
theorem cr_max2 (hc : X.calm = true) : CallR X (.builtin "max") rMax2 := call_max2 hc
def rMin2 : List V → Hp → VK → Prop := fun xs H Q => ∃ i j, xs = [.int i, .int j] ∧ Q (.int (if j < i then j else i)) H
theorem cr_min2 (hc : X.calm = true) : CallR X (.builtin "min") rMin2 := call_min2 hc
/-- x op= y by the operator's rule -/
theorem ip_of {op : Operator} {r : R2} (h : OpR X (inplaceOp op) r) : PIp X op r := h
end
section
variable {T : TC} {Γ : List (Option VA)} {Ω Ω1 Ω2 : List OA} {A B C : VA} {As Ds : List VA} {ta tb te : TE} {t u : TT} {D : Ends} {F0 : Hp} {ts : TS} {i j : Int} {b c : Bool} {α : Type} [Rp α] {l l2 : List α} {p : Addr} {k : Nat} {s : MS} {R : Hp → V → List OA → Prop}
theorem ro_or1 {r r' : R2} (h : RO r Ω A B C) : RO (fun x y H Q => r x y H Q ∨ r' x y H Q) Ω A B C := fun F H x y hh a1 a2 Q q => .inl (h F H x y hh a1 a2 Q q)
theorem ro_or2 {r r' : R2} (h : RO r' Ω A B C) : RO (fun x y H Q => r x y H Q ∨ r' x y H Q) Ω A B C := fun F H x y hh a1 a2 Q q => .inr (h F H x y hh a1 a2 Q q)
theorem xe_add (ha : XE ta Γ Ω (va T i) Ω1) (hb : XE tb Γ Ω1 (va T j) Ω2) : XE (tOp rAddQ ta tb) Γ Ω (va T (i + j)) Ω2 := xe_op ha hb (ro_or1 ro_int)
theorem xe_sub (ha : XE ta Γ Ω (va T i) Ω1) (hb : XE tb Γ Ω1 (va T j) Ω2) : XE (tOp (rI0 fun i j => .int (i - j)) ta tb) Γ Ω (va T (i - j)) Ω2 := xe_op ha hb ro_int
theorem xe_mul (h : IntMulOk i j) (ha : XE ta Γ Ω (va T i) Ω1) (hb : XE tb Γ Ω1 (va T j) Ω2) : XE (tOp rMulQ ta tb) Γ Ω (va T (i * j)) Ω2 := xe_op ha hb (ro_or1 (ro_intD h))
theorem xe_fdiv (h : CDivW i j) (ha : XE ta Γ Ω (va T i) Ω1) (hb : XE tb Γ Ω1 (va T j) Ω2) : XE (tOp (rI CDivW fun i j => .int (i / j)) ta tb) Γ Ω (va T (i / j)) Ω2 := xe_op ha hb (ro_intD h)
theorem xe_mod (h : 0 < j) (ha : XE ta Γ Ω (va T i) Ω1) (hb : XE tb Γ Ω1 (va T j) Ω2) : XE (tOp (rI (fun _ j => 0 < j) fun i j => .int (i % j)) ta tb) Γ Ω (va T (i % j)) Ω2 := xe_op ha hb (ro_intD (D := fun _ j => 0 < j) h)
theorem xe_shl (h : CShl i j) (ha : XE ta Γ Ω (va T i) Ω1) (hb : XE tb Γ Ω1 (va T j) Ω2) : XE (tOp (rI CShl fun i j => .int (i * 2 ^ j.toNat)) ta tb) Γ Ω (va T (i * 2 ^ j.toNat)) Ω2 := xe_op ha hb (ro_intD h)
theorem xe_shr (h : 0 ≤ j) (ha : XE ta Γ Ω (va T i) Ω1) (hb : XE tb Γ Ω1 (va T j) Ω2) : XE (tOp (rI (fun _ j => 0 ≤ j) fun i j => .int (i / 2 ^ j.toNat)) ta tb) Γ Ω (va T (i / 2 ^ j.toNat)) Ω2 := xe_op ha hb (ro_intD (D := fun _ j => 0 ≤ j) h)
theorem xe_pow (h : CPow i j) (ha : XE ta Γ Ω (va T i) Ω1) (hb : XE tb Γ Ω1 (va T j) Ω2) : XE (tOp (rI CPow fun i j => .int (i ^ j.toNat)) ta tb) Γ Ω (va T (i ^ j.toNat)) Ω2 := xe_op ha hb (ro_intD h)
theorem xe_band (ha : XE ta Γ Ω (va T i) Ω1) (hb : XE tb Γ Ω1 (va T j) Ω2) : XE (tOp (rI0 fun i j => .int (Builtin.bitAnd i j)) ta tb) Γ Ω (va T (Builtin.bitAnd i j)) Ω2 := xe_op ha hb ro_int
theorem xe_neg (ha : XE ta Γ Ω (va T i) Ω1) : XE (tUn (rU fun i => .int (-i)) ta) Γ Ω (va T (-i)) Ω1 := xe_un ha ru_int
theorem xe_cat {A B : VA} (ha : XE ta Γ Ω A Ω1) (hb : XE tb Γ Ω1 B Ω2) (h : IsLs T Ω2 A l) (h2 : IsLs T Ω2 B l2) (hz : l.length + l2.length ≤ sizeLine) : XE (tOp rAddQ ta tb) Γ Ω (va T (LF.mk (l ++ l2))) Ω2 := xe_op ha hb (ro_or2 (ro_cat h h2 hz))
theorem xe_rep {A : VA} (ha : XE ta Γ Ω A Ω1) (hb : XE tb Γ Ω1 (va T i) Ω2) (h : IsLs T Ω2 A l) (h1 : (-(2 ^ 63) ≤ i ∧ i < 2 ^ 63) ∧ l.length * i.toNat ≤ sizeLine) : XE (tOp rMulQ ta tb) Γ Ω (va T (LF.mk (List.replicate i.toNat l).flatten)) Ω2 := xe_op ha hb (ro_or2 (ro_rep h h1.1.1 h1.1.2 h1.2))
theorem xe_ix {A : VA} {a : α} (ha : XE ta Γ Ω A Ω1) (hb : XE tb Γ Ω1 (va T i) Ω2) (h : IsL T Ω2 A l) (e : atI l i = some a) : XE (tOp (rIx T.K) ta tb) Γ Ω (va T a) Ω2 := xe_op ha hb (ro_ixL h e)
theorem xe_int1 (ha : XE te Γ Ω (va T i) Ω1) : XE (tCB rInt (tCons te tNil)) Γ Ω (va T i) Ω1 := xe_cb (xa_cons ha xa_nil) fun F H vs hh a Q q => by
  obtain ⟨v, rfl, a1⟩ := alA1 a
  have a1 : v = .int i := a1
  subst a1
  exact .inl ⟨i, rfl, q F _ H (Same.refl F) hh rfl⟩
theorem xe_intb (ha : XE te Γ Ω (va T b) Ω1) : XE (tCB rInt (tCons te tNil)) Γ Ω (va T (if b = true then (1 : Int) else 0)) Ω1 := xe_cb (xa_cons ha xa_nil) fun F H vs hh a Q q => by
  obtain ⟨v, rfl, a1⟩ := alA1 a
  have a1 : v = .bl b := a1
  subst a1
  refine .inr ⟨b, rfl, q F _ H (Same.refl F) hh ?_⟩
  cases b <;> rfl
theorem xe_abs (ha : XE te Γ Ω (va T i) Ω1) : XE (tCB rAbs (tCons te tNil)) Γ Ω (va T ((i.natAbs : Nat) : Int)) Ω1 := xe_cb (xa_cons ha xa_nil) fun F H vs hh a Q q => by
  obtain ⟨v, rfl, a1⟩ := alA1 a
  have a1 : v = .int i := a1
  subst a1
  refine ⟨i, rfl, q F _ H (Same.refl F) hh ?_⟩
  show V.int _ = V.int _
  congr 1
  split <;> omega
theorem xe_max2 (ha : XE ta Γ Ω (va T i) Ω1) (hb : XE tb Γ Ω1 (va T j) Ω2) : XE (tCB rMax2 (tCons ta (tCons tb tNil))) Γ Ω (va T (max i j)) Ω2 := xe_cb (xa_cons ha (xa_cons hb xa_nil)) fun F H vs hh a Q q => by
  obtain ⟨v, w, rfl, a1, a2⟩ := alA2 a
  have a1 : v = .int i := a1
  have a2 : w = .int j := a2
  subst a1 a2
  refine ⟨i, j, rfl, q F _ H (Same.refl F) hh ?_⟩
  show V.int _ = V.int _
  congr 1
  split <;> omega
theorem xe_min2 (ha : XE ta Γ Ω (va T i) Ω1) (hb : XE tb Γ Ω1 (va T j) Ω2) : XE (tCB rMin2 (tCons ta (tCons tb tNil))) Γ Ω (va T (min i j)) Ω2 := xe_cb (xa_cons ha (xa_cons hb xa_nil)) fun F H vs hh a Q q => by
  obtain ⟨v, w, rfl, a1, a2⟩ := alA2 a
  have a1 : v = .int i := a1
  have a2 : w = .int j := a2
  subst a1 a2
  refine ⟨i, j, rfl, q F _ H (Same.refl F) hh ?_⟩
  show V.int _ = V.int _
  congr 1
  split <;> omega
theorem xe_sum {l : List Int} {A : VA} (ha : XE te Γ Ω A Ω1) (h : IsL T Ω1 A l) : XE (tCB (rSum T.K) (tCons te tNil)) Γ Ω (va T l.sum) Ω1 := xe_cb (xa_cons ha xa_nil) fun F H vs hh a Q q => by
  obtain ⟨v, rfl, a1⟩ := alA1 a
  obtain ⟨p, ws, e, hs, al⟩ := h F H v hh a1
  rw [al_int al] at hs
  exact ⟨p, l, by rw [e], hs, q F _ H (Same.refl F) hh rfl⟩
theorem xe_bits (ha : XE te Γ Ω (va T i) Ω1) : XE (tBits te) Γ Ω (va T ((Builtin.Int.intBits i : Nat) : Int)) Ω1 := fun F σ H e hh Q q => by
  refine ha F σ H e hh _ fun F1 x H1 Ω' e1 hh1 ⟨a1, o1⟩ => ?_
  subst o1
  exact ⟨i, a1, q F1 _ H1 _ e1 hh1 ⟨rfl, rfl⟩⟩
theorem xe_ite {a a' : α} (h : XT t Γ Ω b Ω1) (h1 : XE ta Γ Ω1 (va T a) Ω2) (h2 : XE tb Γ Ω1 (va T a') Ω2) : XE (tIf t ta tb) Γ Ω (va T (if b = true then a else a')) Ω2 :=
  xe_if h (fun e => xe_eq h1 (by rw [if_pos e])) (fun e => xe_eq h2 (by rw [if_neg (by rw [e]; exact Bool.false_ne_true)]))
theorem xe_lt (ha : XE ta Γ Ω (va T i) Ω1) (hb : XE tb Γ Ω1 (va T j) Ω2) : XE (tOp (rI0 fun i j => .bl (decide (i < j))) ta tb) Γ Ω (va T (decide (i < j))) Ω2 := (xe_op ha hb ro_bl)
theorem xe_le (ha : XE ta Γ Ω (va T i) Ω1) (hb : XE tb Γ Ω1 (va T j) Ω2) : XE (tOp (rI0 fun i j => .bl (decide (i ≤ j))) ta tb) Γ Ω (va T (decide (i ≤ j))) Ω2 := (xe_op ha hb ro_bl)
theorem xe_gt (ha : XE ta Γ Ω (va T i) Ω1) (hb : XE tb Γ Ω1 (va T j) Ω2) : XE (tOp (rI0 fun i j => .bl (decide (j < i))) ta tb) Γ Ω (va T (decide (j < i))) Ω2 := (xe_op ha hb (ro_bl (g := fun i j => decide (j < i))))
theorem xe_ge (ha : XE ta Γ Ω (va T i) Ω1) (hb : XE tb Γ Ω1 (va T j) Ω2) : XE (tOp (rI0 fun i j => .bl (decide (j ≤ i))) ta tb) Γ Ω (va T (decide (j ≤ i))) Ω2 := (xe_op ha hb (ro_bl (g := fun i j => decide (j ≤ i))))
/-! == by values, by data -/
def rEqX (K : PySem.W.Frag) : R2 := fun x y H Q => rEq x y H Q ∨ rEqD K x y H Q
theorem op_eqX {X : Cx} (hu : X.A.units + 64 < cLine) : OpR X (compareOp .Eq) (rEqX X.K) := op_eq.or (op_eqD hu)
def rNeX (K : PySem.W.Frag) : R2 := fun x y H Q => rNe x y H Q ∨ rNeD K x y H Q
theorem op_neX {X : Cx} (hu : X.A.units + 64 < cLine) : OpR X (compareOp .NotEq) (rNeX X.K) := op_ne.or (op_neD hu)
theorem xe_eqI (ha : XE ta Γ Ω (va T i) Ω1) (hb : XE tb Γ Ω1 (va T j) Ω2) : XE (tOp (rEqX T.K) ta tb) Γ Ω (va T (decide (i = j))) Ω2 := xe_op ha hb (ro_or1 ro_eqI)
theorem xe_neI (ha : XE ta Γ Ω (va T i) Ω1) (hb : XE tb Γ Ω1 (va T j) Ω2) : XE (tOp (rNeX T.K) ta tb) Γ Ω (va T (!decide (i = j))) Ω2 := xe_op ha hb (ro_or1 ro_neI)
theorem xe_eqB (ha : XE ta Γ Ω (va T b) Ω1) (hb : XE tb Γ Ω1 (va T c) Ω2) : XE (tOp (rEqX T.K) ta tb) Γ Ω (va T (decide (b = c))) Ω2 := xe_op ha hb (ro_or1 ro_eqB)
/-! statements, further -/
theorem xs_ifN {t1 : TS} (h : XT t Γ Ω false Ω1) (q : XS ts D F0 Γ Ω1) : XS (tSeq (tIfS t t1 tNext) ts) D F0 Γ Ω := xs_ifF h q
theorem nt {b : Bool} (h : ¬ b = true) : b = false := by cases b with
  | true => exact absurd rfl h
  | false => rfl
variable {n : Int}
theorem xs_augI {k : Nat} {g : Int → Int → Int} (hx : Γ[k]? = some (some (va T i))) (h : XE te Γ Ω (va T j) Ω1) (e : g i j = n) (q : XS ts D F0 (Γ.set k (some (va T n))) Ω1) : XS (tSeq (tAug k te (rI0 fun i j => .int (g i j))) ts) D F0 Γ Ω := fun σ H ⟨F, f0, en, hh⟩ => by
  subst e
  obtain ⟨x, h1, h2⟩ := en.2 k _ hx
  refine ⟨x, h1, ?_⟩
  refine h F σ H en hh _ fun F1 v H1 Ω' e1 hh1 ⟨a1, o1⟩ => ?_
  exact ⟨i, j, h2, a1, q _ H1 ⟨F1, f0.trans e1, (en.mono e1).set (A := va T (g i j)) rfl, o1 ▸ hh1⟩⟩
theorem xs_augI1 {k : Nat} {g : Int → Int → Int} (hx : Γ[k]? = some (some (va T i))) (h : XE te Γ Ω (va T j) Ω1) (e : g i j = n) (q : ∀ σ H, NX F0 (Γ.set k (some (va T n))) Ω1 σ H → D.nx σ H) : XS (tAug k te (rI0 fun i j => .int (g i j))) D F0 Γ Ω := fun σ H m => xs_augI (ts := tNext) hx h e q σ H m
theorem xs_augD {k : Nat} {Dd : Int → Int → Prop} {g : Int → Int → Int} (hx : Γ[k]? = some (some (va T i))) (hd : Dd i j) (h : XE te Γ Ω (va T j) Ω1) (e : g i j = n) (q : XS ts D F0 (Γ.set k (some (va T n))) Ω1) : XS (tSeq (tAug k te (rI Dd fun i j => .int (g i j))) ts) D F0 Γ Ω := fun σ H ⟨F, f0, en, hh⟩ => by
  subst e
  obtain ⟨x, h1, h2⟩ := en.2 k _ hx
  refine ⟨x, h1, ?_⟩
  refine h F σ H en hh _ fun F1 v H1 Ω' e1 hh1 ⟨a1, o1⟩ => ?_
  exact ⟨i, j, h2, a1, hd, q _ H1 ⟨F1, f0.trans e1, (en.mono e1).set (A := va T (g i j)) rfl, o1 ▸ hh1⟩⟩
theorem xs_augD1 {k : Nat} {Dd : Int → Int → Prop} {g : Int → Int → Int} (hx : Γ[k]? = some (some (va T i))) (hd : Dd i j) (h : XE te Γ Ω (va T j) Ω1) (e : g i j = n) (q : ∀ σ H, NX F0 (Γ.set k (some (va T n))) Ω1 σ H → D.nx σ H) : XS (tAug k te (rI Dd fun i j => .int (g i j))) D F0 Γ Ω := fun σ H m => xs_augD (ts := tNext) hx hd h e q σ H m
theorem xs_par2 {k l : Nat} {ta : TA} (h : XA ta Γ Ω [A, B] Ω1) (q : XS ts D F0 ((Γ.set k (some A)).set l (some B)) Ω1) : XS (tSeq (tPar k l ta) ts) D F0 Γ Ω := fun σ H ⟨F, f0, en, hh⟩ => by
  refine h F σ H en hh _ fun F1 vs H1 e1 hh1 a1 => ?_
  obtain ⟨v, w, rfl, b1, b2⟩ := alA2 a1
  exact ⟨v, w, rfl, q _ H1 ⟨F1, f0.trans e1, ((en.mono e1).set b1).set b2, hh1⟩⟩
theorem xs_par3 {k l m : Nat} {ta : TA} (h : XA ta Γ Ω [A, B, C] Ω1) (q : XS ts D F0 (((Γ.set k (some A)).set l (some B)).set m (some C)) Ω1) : XS (tSeq (tPar3 k l m ta) ts) D F0 Γ Ω := fun σ H ⟨F, f0, en, hh⟩ => by
  refine h F σ H en hh _ fun F1 vs H1 e1 hh1 a1 => ?_
  cases a1 with
  | cons b0 a1 =>
    obtain ⟨v, w, rfl, b1, b2⟩ := alA2 a1
    exact ⟨_, v, w, rfl, q _ H1 ⟨F1, f0.trans e1, (((en.mono e1).set b0).set b1).set b2, hh1⟩⟩
theorem xs_par21 {k l : Nat} {ta : TA} (h : XA ta Γ Ω [A, B] Ω1) (q : ∀ σ H, NX F0 ((Γ.set k (some A)).set l (some B)) Ω1 σ H → D.nx σ H) : XS (tPar k l ta) D F0 Γ Ω := fun σ H n => xs_par2 (ts := tNext) h q σ H n
theorem xs_asgG {g : TG} {f : List (Option VA) → List (Option VA)} {js : List Nat} (h : XE te Γ Ω A Ω1) (ht : Tgt g A f js) (q : XS ts D F0 (f Γ) Ω1) : XS (tSeq (tAsg te g) ts) D F0 Γ Ω := fun σ H ⟨F, f0, en, hh⟩ => by
  refine h F σ H en hh _ fun F1 v H1 Ω' e1 hh1 ⟨a1, o1⟩ => ?_
  subst o1
  exact ht F1 σ Γ v H1 _ (en.mono e1) hh1 a1 _ fun F2 σ2 H2 e2 en2 hh2 _ => q σ2 H2 ⟨F2, f0.trans (e1.trans e2), en2, hh2⟩
theorem xs_asgG1 {g : TG} {f : List (Option VA) → List (Option VA)} {js : List Nat} (h : XE te Γ Ω A Ω1) (ht : Tgt g A f js) (q : ∀ σ H, NX F0 (f Γ) Ω1 σ H → D.nx σ H) : XS (tAsg te g) D F0 Γ Ω := fun σ H n => xs_asgG (ts := tNext) h ht q σ H n
theorem mf_none {m : Str} {d e : Addr} (h : (m == "width" || m == "cutoff" || m == "counts" || m == "entered") = false) : (mf s d e).lookup m = none := by
  simp only [Bool.or_eq_false_iff] at h
  unfold mf
  rw [look_ne h.1.1.1, look_ne h.1.1.2, look_ne h.1.2, look_ne h.2]
  rfl
/-- a method of the machine -/
theorem xe_mcall {m : Str} {Pre : PreT} {E : XK} {ta : TE} {t : TA} {Ω' : List OA} (ha : XE ta Γ Ω (vr p) Ω) (hk : Ω[k]? = some (machA T p s)) (hx : XA t Γ Ω As Ω1) (hp : Pre (vr p :: As) Ω1 (RV A Ω')) (he : Ω' = Ω2)
    (hm : (m == "width" || m == "cutoff" || m == "counts" || m == "entered") = false := by decide +kernel) : XE (tMeth (T.C 0) m (mkSp Pre) [] E ta t) Γ Ω A Ω2 := fun F σ H e hh Q q => by
  subst he
  refine ha F σ H e hh _ fun F1 x H1 Ωa e1 hh1 ⟨a1, o1⟩ => ?_
  subst o1
  obtain ⟨t0, ⟨dx, d, en, ws, m1, m2, m3, m4⟩, st, _⟩ := hh1.get hk
  refine ⟨p, dx, _, a1, st _ _ m1, mf_none hm, ?_⟩
  refine hx F1 σ H1 (e.mono e1) hh1 _ fun F2 vs H2 e2 hh2 a2 => ?_
  refine ⟨F2, Ω1, vr p :: As, _, hp, ?_, hh2, fun F' v H' Ω3 e' hh' r => q F' v H' Ω3 ((e1.trans e2).trans e') hh' r⟩
  rw [List.append_nil]
  exact .cons a1 a2
end
section
variable {T : TC} {Γ : List (Option VA)} {Ω Ω1 Ω2 : List OA} {A B C : VA} {ta tb te tc : TE} {i j : Int} {b : Bool}
def rIsi (K : PySem.W.Frag) : List V → Hp → VK → Prop := fun xs H Q => ∃ (x c : V) (t u : Value) (b : Bool), xs = [x, c] ∧ ClsV c u ∧ TyX K H x t ∧ PySem.W.kitOne K t u = some b ∧ Q (.bl b) H
theorem cr_isi {X : Cx} : CallR X (.builtin "isinstance") (rIsi X.K) := call_isi
/-- what a class must be that isinstance asks for -/
structure ICls (K : PySem.W.Frag) (C : Addr) : Prop where
  cl : Cls K C
  ha : PySem.W.findIn K (.ref C) "__class__" = some (some (.builtin "object.__class__"))
  hn : PySem.W.specialIn K (.builtin "object.__class__") "__get__" = some (some (.builtin "getset_descriptor.__get__"))
  htk : PySem.W.takesIn K (.builtin "object.__class__") = some true
  hm : PySem.W.mroIn K C (.type "object") = some true
  kit : PySem.W.kitOne K (.ref C) (.ref C) = some true
theorem xe_isi {c : V} {t u : Value} (ha : XE ta Γ Ω A Ω1) (hb : XE tc Γ Ω1 (vx c) Ω1) (hc : ClsV c u) (ht : ∀ F H v, Holds F Ω1 H → A.P F v → TyX T.K H v t) (hk : PySem.W.kitOne T.K t u = some b) :
    XE (tCB (rIsi T.K) (tCons ta (tCons tc tNil))) Γ Ω (va T b) Ω1 := xe_cb (xa_cons ha (xa_cons hb xa_nil)) fun F H vs hh a Q q => by
  obtain ⟨v, w, rfl, a1, a2⟩ := alA2 a
  have a2 : w = c := a2
  subst a2
  exact ⟨v, w, t, u, b, rfl, hc, ht F H v hh a1, hk, q F _ H (Same.refl F) hh rfl⟩
theorem xe_vx {c : V} : XE (tC c) Γ Ω (vx c) Ω := xe_c fun _ => rfl
theorem ty_int {F H : Hp} {v : V} (_ : Holds F Ω H) (a : (va T i).P F v) : TyX T.K H v (.type "int") := by
  have a : v = .int i := a
  subst a
  exact .base (.int i)
theorem ty_mach {F H : Hp} {v : V} {p : Addr} {k : Nat} {s : MS} (ic : ICls T.K (T.C 0)) (hk : Ω[k]? = some (machA T p s)) (hh : Holds F Ω H) (a : (vr p).P F v) : TyX T.K H v (.ref (T.C 0)) := by
  have a : v = .ref p := a
  subst a
  obtain ⟨t, ⟨dx, d, en, ws, m1, _⟩, st, _⟩ := hh.get hk
  exact .base (.ins (st _ _ m1) ic.cl ic.ha ic.hn ic.htk ic.hm)
theorem ty_big {F H : Hp} {v : V} {x : Bg} (ic : ICls T.K (T.C 1)) (hh : Holds F Ω H) (a : (va T x).P F v) : TyX T.K H v (.ref (T.C 1)) := by
  obtain ⟨p, dx, r, vs, rfl, h2, _⟩ := a
  exact .base (.ins (hh.same _ _ h2) ic.cl ic.ha ic.hn ic.htk ic.hm)
end
section
variable {X : Cx} {K : PySem.W.Frag} {e o tg l : Expr} {es : List Expr} {f m name : Str} {pos p1 p2 p3 apos cpos : Pos} {te ta tl : TE} {t : TA} {k : Nat} {id Tn : String} {r : V → List V → Hp → VK → Prop}
/-! the rules, the written part named (within a comprehension's block) -/
theorem pe_fldK (he : PE X e ta) (hb : attributeBase e f X.env (eval e X.env) = eval e X.env) (hK : X.K = K) : PE X (.Attribute e f pos) (tFld K ta f) := hK ▸ pe_fld he hb
theorem cr_lenK (hK : X.K = K) : CallR X (.builtin "len") (rLen K) := hK ▸ cr_len
theorem cr_listK (hK : X.K = K) : CallR X (.type "list") (rList K) := hK ▸ cr_list
theorem cr_isiK (hK : X.K = K) : CallR X (.builtin "isinstance") (rIsi K) := hK ▸ cr_isi
theorem cr_sumK (hc : X.calm = true) (hK : X.K = K) : CallR X (.builtin "sum") (rSum K) := hK ▸ cr_sum hc
theorem ix_seqK (hK : X.K = K) : IxR X (rIx K) := hK ▸ ix_seq
theorem sl_listK (hK : X.K = K) : SlR X (rSlL K) := hK ▸ sl_list
theorem op_eqXK (hu : X.A.units + 64 < cLine) (hK : X.K = K) : OpR X (compareOp .Eq) (rEqX K) := hK ▸ op_eqX hu
theorem op_neXK (hu : X.A.units + 64 < cLine) (hK : X.K = K) : OpR X (compareOp .NotEq) (rNeX K) := hK ▸ op_neX hu
theorem pi_listK (hl : PE X l tl) (hK : X.K = K) : PI X tg l (iList K tl) := hK ▸ pi_list hl
theorem pg_tupK {es : List Expr} {k : Nat} {t : TGs} {n : Nat} (hK : X.K = K) (hc : X.calm = true) (h : PGs X es t)
    (hn : (assignEach es X.env).length = n := by rfl) (hst : (assignEach es X.env).findIdx? (·.1) = none := by rfl) : PG X (.Tuple es k pos) (gTup K n t) := hK ▸ pg_tup hc h hn hst
end
theorem neK_ {α : Type} [DecidableEq α] {a b : α} (h : a = b) : (!decide (a = b)) = false := by rw [decide_eq_true h]; rfl
/-! ### promises of the machine's and the numbers' methods -/
def Pre_Mach_step (T : TC) : PreT := fun As Ω R => ∃ (k : Nat) (p : Addr) (s : MS) (wd : Str) (n : Int), As = [vr p, va T wd, va T n] ∧ Ω[k]? = some (machA T p s) ∧ wd ∈ mwords ∧ R = RV (va T ()) (stt Ω [(k, machA T p (s.step wd n))] [])
def Pre_Mach_enter (T : TC) : PreT := fun As Ω R => ∃ (k : Nat) (p : Addr) (s : MS) (wd : Str) (m n : Int), As = [vr p, va T wd, va T m, va T n] ∧ Ω[k]? = some (machA T p s) ∧ R = RV (va T ()) (stt Ω [(k, machA T p (s.enter wd m n))] [])
def Pre_Mach_reset (T : TC) : PreT := fun As Ω R => ∃ (k : Nat) (p : Addr) (s : MS), As = [vr p] ∧ Ω[k]? = some (machA T p s) ∧ R = RV (va T ()) (stt Ω [(k, machA T p s.reset)] [])
def Pre_Mach_tally (T : TC) : PreT := fun As Ω R => ∃ (k : Nat) (p : Addr) (s : MS), As = [vr p] ∧ Ω[k]? = some (machA T p s) ∧ R = RV (va T (LF.mk s.tally)) Ω
def Pre_Mach_walk (T : TC) : PreT := fun As Ω R => ∃ (k : Nat) (p : Addr) (s : MS), As = [vr p] ∧ Ω[k]? = some (machA T p s) ∧ R = RV (va T (LF.mk s.wk)) Ω
def Pre_Mach_parts (T : TC) : PreT := fun As Ω R => ∃ (k : Nat) (p : Addr) (s : MS), As = [vr p] ∧ Ω[k]? = some (machA T p s) ∧ R = RV (va T (s.w, s.c)) Ω
def Pre_Machine (T : TC) : PreT := fun As Ω R => ∃ (Ω0 : List OA) (p : Addr) (w c : Int), As = [vr p, va T w, va T c] ∧ ((8 ≤ w ∧ w ≤ 30) ∧ 2 ≤ c ∧ c ≤ 1000) ∧ Ω = Ω0 ++ [newA (T.C 0) p] ∧ R = RV (va T ()) (Ω0 ++ [machA T p (MS.fresh w c)])
def Pre_Big (T : TC) : PreT := fun As Ω R => ∃ (Ω0 : List OA) (p : Addr) (w v : Int) (row : List Int) (B : VA), (B = va T (LF.mk row) ∨ B = va T (TF.mk row)) ∧ As = [vr p, va T w, va T v, B] ∧ Ω = Ω0 ++ [newA (T.C 1) p] ∧ R = RV (va T ()) (Ω0 ++ [bigA T p ⟨w, row, v⟩])
/-- what must hold to go on -/
noncomputable def chkP (p : Prop) : Option Unit := @ite _ p (Classical.propDecidable p) (some ()) none
theorem chkP_some {p : Prop} {r : Unit} (h : chkP p = some r) : p := by
  unfold chkP at h
  split at h
  · assumption
  · cases h
end VL

set_option Elab.async false
set_option linter.all false
set_option maxRecDepth 100000
/-! == of data; new things side by side -/
namespace VL
open PySem L2
class Dat (α : Type) [Rp α] where
  dat : α → PyData
  ok : α → Prop
  dep : Nat
  dp : ∀ {T : TC} {F H : Hp} {v : V} {a : α}, Same F H → Rp.rep T F v a → Dp T.K H v (dat a)
  lay : ∀ {a : α}, ok a → (dat a).canLay0 = true
  depth : ∀ {a : α}, (dat a).depth ≤ dep
  eqv : ∀ {a b : α}, PyData.eqv (dat a) (dat b) = true ↔ a = b
instance : Dat Int := ⟨.int, fun _ => True, 0, fun _ h => by
    rw [show _ = V.int _ from h]; exact .int _, fun _ => rfl, Nat.le_refl _, fun {a b} => by
    show (a == b) = true ↔ a = b
    exact beq_iff_eq⟩
instance : Dat Bool := ⟨.bool, fun _ => True, 0, fun _ h => by
    rw [show _ = V.bl _ from h]; exact .bl _, fun _ => rfl, Nat.le_refl _, fun {a b} => by
    show (a == b) = true ↔ a = b
    exact beq_iff_eq⟩
instance : Dat Str := ⟨.str, fun s => (PyData.str s).canLay0 = true, 0, fun _ h => by
    rw [show _ = V.str _ from h]; exact .str _, fun h => h, Nat.le_refl _, fun {a b} => by
    show (a == b) = true ↔ a = b
    exact beq_iff_eq⟩
section
variable {α : Type} [Rp α] [Dat α]
theorem dp_all {T : TC} {F H : Hp} (e : Same F H) : ∀ {vs : List V} {l : List α}, Al T F vs l → DpAll T.K H vs (l.map Dat.dat)
  | _, _, .nil => .nil
  | _, _, .cons h t => .cons (Dat.dp e h) (dp_all e t)
theorem lay_all : ∀ {l : List α}, (∀ x ∈ l, Dat.ok x) → PyData.canLayAll0 (l.map Dat.dat) = true
  | [], _ => rfl
  | x :: r, h => by
    show (PyData.canLay0 (Dat.dat x) && PyData.canLayAll0 (r.map Dat.dat)) = true
    rw [Dat.lay (h x List.mem_cons_self), lay_all fun y hy => h y (List.mem_cons_of_mem _ hy)]
    rfl
theorem dep_all : ∀ {l : List α}, PyData.depthAll (l.map Dat.dat) ≤ Dat.dep α
  | [] => Nat.zero_le _
  | x :: r => by
    show max (PyData.depth (Dat.dat x)) (PyData.depthAll (r.map Dat.dat)) ≤ _
    exact Nat.max_le.mpr ⟨Dat.depth, dep_all⟩
theorem eqv_all : ∀ {l m : List α}, PyData.eqvAll (l.map Dat.dat) (m.map Dat.dat) = true ↔ l = m
  | [], [] => by simp [PyData.eqvAll]
  | [], _ :: _ => by simp [PyData.eqvAll]
  | _ :: _, [] => by simp [PyData.eqvAll]
  | x :: r, y :: s => by
    simp only [List.map_cons, PyData.eqvAll, Bool.and_eq_true, Dat.eqv, eqv_all, List.cons.injEq]
end
theorem depth_list {ds : List PyData} : (PyData.list ds).depth = PyData.depthAll ds + 1 := by simp [PyData.depth]
theorem depth_tuple {ds : List PyData} : (PyData.tuple ds).depth = PyData.depthAll ds + 1 := by simp [PyData.depth]
instance {α : Type} [Rp α] [Dat α] : Dat (LF α) := ⟨fun l => .list (l.l.map Dat.dat), fun l => ∀ x ∈ l.l, Dat.ok x, Dat.dep α + 1, fun e ⟨p, vs, h1, h2, h3⟩ => by
    rw [h1]; exact .lst (SqL.of (e _ _ h2)) (dp_all e h3), fun h => by show PyData.canLayAll0 _ = true; exact lay_all h, fun {a} => by rw [depth_list]; exact Nat.succ_le_succ dep_all, fun {a b} => by
    show PyData.eqvAll _ _ = true ↔ a = b
    rw [eqv_all]
    cases a; cases b; simp⟩
instance {α : Type} [Rp α] [Dat α] : Dat (TF α) := ⟨fun l => .tuple (l.l.map Dat.dat), fun l => ∀ x ∈ l.l, Dat.ok x, Dat.dep α + 1, fun e ⟨p, vs, h1, h2, h3⟩ => by
    rw [h1]; exact .tup (Same.tup e h2) (dp_all e h3), fun h => by show PyData.canLayAll0 _ = true; exact lay_all h, fun {a} => by rw [depth_tuple]; exact Nat.succ_le_succ dep_all, fun {a b} => by
    show PyData.eqvAll _ _ = true ↔ a = b
    rw [eqv_all]
    cases a; cases b; simp⟩
instance {α β : Type} [Rp α] [Rp β] [Dat α] [Dat β] : Dat (α × β) := ⟨fun l => .tuple [Dat.dat l.1, Dat.dat l.2], fun l => Dat.ok l.1 ∧ Dat.ok l.2, max (Dat.dep α) (Dat.dep β) + 1, fun e ⟨p, x, y, h1, h2, h3, h4⟩ => by
    rw [h1]; exact .tup (Same.tup e h2) (.cons (Dat.dp e h3) (.cons (Dat.dp e h4) .nil)), fun h => by
    show (PyData.canLay0 (Dat.dat _) && (PyData.canLay0 (Dat.dat _) && true)) = true
    rw [Dat.lay h.1, Dat.lay h.2]; rfl, fun {a} => by
    rw [depth_tuple]
    refine Nat.succ_le_succ ?_
    show max (PyData.depth (Dat.dat a.1)) (max (PyData.depth (Dat.dat a.2)) 0) ≤ _
    have h1 := Dat.depth (a := a.1)
    have h2 := Dat.depth (a := a.2)
    omega, fun {a b} => by
    show (PyData.eqv (Dat.dat a.1) (Dat.dat b.1) && (PyData.eqv (Dat.dat a.2) (Dat.dat b.2) && true)) = true ↔ a = b
    rw [Bool.and_true, Bool.and_eq_true, Dat.eqv, Dat.eqv]
    exact Prod.ext_iff.symm⟩
instance {α β γ : Type} [Rp α] [Rp β] [Rp γ] [Dat α] [Dat β] [Dat γ] : Dat (T3 α β γ) := ⟨fun l => .tuple [Dat.dat l.a, Dat.dat l.b, Dat.dat l.c], fun l => Dat.ok l.a ∧ Dat.ok l.b ∧ Dat.ok l.c, max (Dat.dep α) (max (Dat.dep β) (Dat.dep γ)) + 1, fun e ⟨p, x, y, z, h1, h2, h3, h4, h5⟩ => by
    rw [h1]; exact .tup (Same.tup e h2) (.cons (Dat.dp e h3) (.cons (Dat.dp e h4) (.cons (Dat.dp e h5) .nil))), fun h => by
    show (PyData.canLay0 (Dat.dat _) && (PyData.canLay0 (Dat.dat _) && (PyData.canLay0 (Dat.dat _) && true))) = true
    rw [Dat.lay h.1, Dat.lay h.2.1, Dat.lay h.2.2]; rfl, fun {a} => by
    rw [depth_tuple]
    refine Nat.succ_le_succ ?_
    show max (PyData.depth (Dat.dat a.a)) (max (PyData.depth (Dat.dat a.b)) (max (PyData.depth (Dat.dat a.c)) 0)) ≤ _
    have h1 := Dat.depth (a := a.a)
    have h2 := Dat.depth (a := a.b)
    have h3 := Dat.depth (a := a.c)
    omega, fun {a b} => by
    show (PyData.eqv (Dat.dat a.a) (Dat.dat b.a) && (PyData.eqv (Dat.dat a.b) (Dat.dat b.b) && (PyData.eqv (Dat.dat a.c) (Dat.dat b.c) && true))) = true ↔ a = b
    rw [Bool.and_true, Bool.and_eq_true, Bool.and_eq_true, Dat.eqv, Dat.eqv, Dat.eqv]
    cases a; cases b; simp⟩
/-- == -/
def eqD {α : Type} [Rp α] [Dat α] (x y : α) : Bool := PyData.eqv (Dat.dat x) (Dat.dat y)
theorem eqD_iff {α : Type} [Rp α] [Dat α] {x y : α} : eqD x y = true ↔ x = y := Dat.eqv
/-- A is data d -/
def IsD (T : TC) (Ω : List OA) (A : VA) (d : PyData) : Prop := ∀ F H v, Holds F Ω H → A.P F v → Dp T.K H v d
section
variable {T : TC} {Γ : List (Option VA)} {Ω Ω1 Ω2 Ω3 : List OA} {A B C : VA} {ta tb te : TE} {D : Ends} {F0 : Hp} {ts : TS} {b : Bool} {α : Type} [Rp α] [Dat α] {x y : α} {l m : List α} {p : Addr} {k : Nat}
theorem isD_va : IsD T Ω (va T x) (Dat.dat x) := fun F H v hh a => Dat.dp hh.same a
theorem shp {x : α} (h : Dat.ok x) (hd : Dat.dep α ≤ 64) : SeqAt.shaped (Dat.dat x) = true := by
  unfold SeqAt.shaped
  rw [Dat.lay h, Bool.true_and]
  exact decide_eq_true (Nat.le_trans Dat.depth hd)
theorem ro_eqD {d e : PyData} (h1 : IsD T Ω A d) (h2 : IsD T Ω B e) (s1 : SeqAt.shaped d = true) (s2 : SeqAt.shaped e = true) : RO (rEqX T.K) Ω A B (va T (PyData.eqv d e)) := fun F H x y hh a1 a2 Q q =>
  .inr ⟨d, e, h1 F H x hh a1, h2 F H y hh a2, s1, s2, q F _ H (Same.refl F) hh rfl⟩
theorem ro_neD {d e : PyData} (h1 : IsD T Ω A d) (h2 : IsD T Ω B e) (s1 : SeqAt.shaped d = true) (s2 : SeqAt.shaped e = true) : RO (rNeX T.K) Ω A B (va T (!PyData.eqv d e)) := fun F H x y hh a1 a2 Q q =>
  .inr ⟨d, e, h1 F H x hh a1, h2 F H y hh a2, s1, s2, q F _ H (Same.refl F) hh rfl⟩
theorem xe_neK (h : x = y ∧ Dat.ok x) (hd : Dat.dep α ≤ 64) (ha : XE ta Γ Ω A Ω1) (hb : XE tb Γ Ω1 B Ω2) (i1 : IsD T Ω2 A (Dat.dat x)) (i2 : IsD T Ω2 B (Dat.dat y)) : XE (tOp (rNeX T.K) ta tb) Γ Ω (va T false) Ω2 := by
  obtain ⟨h, o⟩ := h
  subst h
  have := xe_op ha hb (ro_neD i1 i2 (shp o hd) (shp o hd))
  rw [Dat.eqv.mpr rfl] at this
  exact this
theorem xe_appE {k : Nat} {p : Addr} {a : α} {l l2 : List α} {Ω2 : List OA} (h0 : Ω[k]? = some (lstA T p l2)) (hk : Ω1[k]? = some (lstA T p l)) (ha : XE ta Γ Ω (vr p) Ω) (hb : XE tb Γ Ω (va T a) Ω1) (hz : l.length < sizeLine) (he : Ω1.set k (lstA T p (l ++ [a])) = Ω2) :
    XE (tBM T.K "list" rAppend ta (tCons tb tNil)) Γ Ω (va T ()) Ω2 := he ▸ xe_app h0 hk ha hb hz
/-- == of data -/
theorem xe_eqD (h : Dat.ok x ∧ Dat.ok y) (hd : Dat.dep α ≤ 64) (ha : XE ta Γ Ω A Ω1) (hb : XE tb Γ Ω1 B Ω2) (i1 : IsD T Ω2 A (Dat.dat x)) (i2 : IsD T Ω2 B (Dat.dat y)) : XE (tOp (rEqX T.K) ta tb) Γ Ω (va T (eqD x y)) Ω2 := xe_op ha hb (ro_eqD i1 i2 (shp h.1 hd) (shp h.2 hd))
/-- things made in a turn are left -/
theorem Holds.cutL {F H : Hp} {Ω : List OA} {ks : List (Nat × OA)} {L M : List OA} (h : Holds F (stt Ω ks (L ++ M)) H) : Holds F (stt Ω ks L) H := by
  have e : stt Ω ks (L ++ M) = stt Ω ks L ++ M := (List.append_assoc _ _ _).symm
  rw [e] at h
  obtain ⟨ts, h1, h2, h3, h4, h5⟩ := h
  have len : (stt Ω ks L ++ M).length = (stt Ω ks L).length + M.length := List.length_append
  exact ⟨ts, fun i o q => h1 i o (by rw [List.getElem?_append_left (getlt q)]; exact q), h2, fun i q => h3 i (by omega), fun i b x q => h4 i b x (by omega), fun i j b x qi qj => h5 i j b x (by omega) (by omega)⟩
theorem NX.cutL {ks : List (Nat × OA)} {σ : L2.St} {H : Hp} {L' : List OA} (L M : List OA) (h : NX F0 Γ (stt Ω ks L') σ H) (e : L' = L ++ M := by rfl) : NX F0 Γ (stt Ω ks L) σ H := by
  subst e
  let ⟨F, f0, en, hh⟩ := h
  exact ⟨F, f0, en, hh.cutL⟩
end
/-! ### keyword arguments -/
/-- the parameters' values out of those that are written, by place -/
def prm {α : Type} (ix : List Nat) (l : List α) : List α := ix.filterMap fun i => l[i]?
structure CalK (P : Program) (w : World) (K : PySem.W.Frag) (mg : Str → Option Value) (base : Heap) (k : Nat) (x : Str) (ps : List Str) (n : Nat) (ks : List Str) (ix : List Nat) (sp : Sp) : Prop where
  ex : ∃ f fd, FnOk P w K mg base CX0 k f fd ps sp ∧ mg x = some (.ref f) ∧ PySem.W.keepIn K (.ref f) = true ∧ KBn K fd ps n ks (fun us ws => prm ix (us ++ ws)) (fun vs zs => prm ix (vs ++ zs))
section
variable {X : Cx} {k n : Nat} {x : Str} {ps ks : List Str} {ix : List Nat} {sp : Sp} {p pos : Pos} {e : Expr} {es : List Expr} {kws : List Keyword} {t tk : TA}
end
section
variable {T : TC} {Γ : List (Option VA)} {Ω Ω1 Ω2 Ω3 : List OA} {A : VA} {As Ks : List VA}
end
end VL

set_option Elab.async false
set_option linter.all false
set_option maxRecDepth 100000
/-! frozen dicts from texts to ints; zip; pairs by place -/
namespace VL
open PySem L2 PyProof.Rows
structure DF where
  l : List (Str × Int)
def dkv (l : List (Str × Int)) : List (Key × V) := l.map fun q => (Sum.inr q.1, V.int q.2)
instance : Rp DF := ⟨fun T F v d => ∃ p od, v = .ref p ∧ F p = some (.frz od (.dK (dkv d.l))), fun e ⟨p, od, h1, h2⟩ => ⟨p, od, h1, e _ _ h2⟩⟩
/-- what an expression makes is locked for good -/
def tFz (te : TE) : TE := fun σ H Q => te σ H fun v H1 => ∃ p kvs, v = .ref p ∧ H1 p = some (.dK kvs) ∧ ∀ od, Q v (upd H1 p (.frz od (.dK kvs)))
theorem pe_fz {X : Cx} {e : Expr} {te : TE} (he : PE X e te) : PE X e (tFz te) := by
  refine ⟨fun pins s σ H Q I hw => ?_⟩
  refine thn (he.run pins s σ H _ I hw) fun u s1 ⟨x, H1, I1, rx, p, kvs, ex, hp, q⟩ => ?_
  obtain ⟨od, I2⟩ := I1.lock hp trivial
  exact ⟨x, _, I2, rx, q od⟩
/-! ### a dict on its way -/
def rawD (p : Addr) (kvs : List (Key × V)) : OA := ⟨fun _ t => t p = some (.dK kvs), fun _ h => h⟩
theorem Holds.newD {F H : Hp} {Ω : List OA} {p : Addr} {kvs : List (Key × V)} (h : Holds F Ω H) (n : H p = none) : Holds F (Ω ++ [rawD p kvs]) (upd H p (.dK kvs)) := by
  refine h.newO (t := upd (fun _ => none) p (.dK kvs)) (fun b x e => ?_) (same_upd n) (fun b x e => ?_) upd_same
  · by_cases hb : b = p
    · rw [hb]; exact n
    · rw [upd_ne hb] at e; cases e
  · by_cases hb : b = p
    · subst hb; rw [upd_same] at e ⊢; exact e
    · rw [upd_ne hb] at e; cases e
theorem Holds.fzD {F H : Hp} {Ω : List OA} {p : Addr} {kvs : List (Key × V)} {u : HO} (h : Holds F (Ω ++ [rawD p kvs]) H) : H p = some (.dK kvs) ∧ Holds (upd F p u) Ω (upd H p u) ∧ Same F (upd F p u) := by
  obtain ⟨ts, h1, h2, h3, h4, h5⟩ := h
  have len : (Ω ++ [rawD p kvs]).length = Ω.length + 1 := by simp
  have tp : ts Ω.length p = some (.dK kvs) := h1 Ω.length (rawD p kvs) app_at
  have nF : F p = none := h4 Ω.length p _ (by omega) tp
  have sF : Same F (upd F p u) := same_upd nF
  have nt : ∀ i, i < Ω.length → ts i p = none := fun i q => h5 Ω.length i p _ (by omega) (by omega) (by omega) tp
  refine ⟨h3 Ω.length (by omega) p _ tp, ⟨ts, fun i o q => o.mono sF (h1 i o (app_lt q)), fun b x e => ?_, fun i q b x e => ?_, fun i b x q e => ?_, fun i j b x qi qj ne e => h5 i j b x (by omega) (by omega) ne e⟩, sF⟩
  · by_cases hb : b = p
    · subst hb; rw [upd_same] at e ⊢; exact e
    · rw [upd_ne hb] at e ⊢; exact h2 b x e
  · by_cases hb : b = p
    · subst hb; rw [nt i q] at e; cases e
    · rw [upd_ne hb]; exact h3 i (by omega) b x e
  · by_cases hb : b = p
    · subst hb; rw [nt i q] at e; cases e
    · rw [upd_ne hb]; exact h4 i b x (by omega) e
section
variable {T : TC} {Γ : List (Option VA)} {Ω Ω1 Ω2 Ω3 : List OA} {A B C : VA} {ta tb te : TE} {D : Ends} {F0 : Hp} {ts : TS}
/-- keys that differ: merging leaves them as they are -/
theorem any_dkv {k : Str} : ∀ {l : List (Str × Int)}, (k ∉ l.map (·.1)) → ((dkv l).any fun kv => decide (kv.1 = (Sum.inr k : Key))) = false := by
  intro l h
  rw [List.any_eq_false]
  intro x hx
  obtain ⟨y, hy, rfl⟩ := List.mem_map.mp hx
  have : y.1 ≠ k := fun e => h (List.mem_map.mpr ⟨y, hy, e⟩)
  simp [this]
theorem merge_dkv : ∀ {l acc : List (Str × Int)}, ((acc ++ l).map (·.1)).Nodup → mergeK (dkv acc) (dkv l) = dkv (acc ++ l)
  | [], acc, _ => by rw [List.append_nil]; rfl
  | x :: r, acc, h => by
    have hx : x.1 ∉ acc.map (·.1) := fun m => by
      rw [List.map_append, List.nodup_append] at h
      exact h.2.2 _ m _ (by simp) rfl
    have e : mergeK (dkv acc) (dkv (x :: r)) = mergeK (putK (dkv acc) (Sum.inr x.1) (V.int x.2)) (dkv r) := rfl
    have e2 : putK (dkv acc) (Sum.inr x.1) (V.int x.2) = dkv (acc ++ [x]) := by
      unfold putK
      rw [any_dkv hx]
      show dkv acc ++ [(Sum.inr x.1, V.int x.2)] = _
      unfold dkv
      rw [List.map_append]
      rfl
    rw [e, e2, merge_dkv (l := r) (acc := acc ++ [x]) (by rw [List.append_assoc]; exact h), List.append_assoc]
    rfl
theorem merge0 {l : List (Str × Int)} (h : (l.map (·.1)).Nodup) : mergeK [] (dkv l) = dkv l := merge_dkv (acc := []) h
theorem val_dkv {k : Str} {v : Int} : ∀ {l : List (Str × Int)}, l.lookup k = some v → valV (dkv l) (Sum.inr k) = some (V.int v)
  | [], h => by cases h
  | x :: r, h => by
    by_cases e : x.1 = k
    · have hb : (k == x.1) = true := by rw [e]; exact beq_self_eq_true k
      have h2 : (match k == x.1 with | true => some x.2 | false => r.lookup k) = some v := h
      rw [hb] at h2
      have h3 : x.2 = v := Option.some.inj h2
      show valV ((Sum.inr x.1, V.int x.2) :: dkv r) (Sum.inr k) = _
      rw [valV_pos (p := ((Sum.inr x.1 : Key), V.int x.2)) (by show (Sum.inr x.1 : Key) = Sum.inr k; rw [e])]
      show some (V.int x.2) = _
      rw [h3]
    · have hb : (k == x.1) = false := by
        cases q : k == x.1 with
        | false => rfl
        | true => exact absurd (beq_iff_eq.mp q).symm e
      have h2 : (match k == x.1 with | true => some x.2 | false => r.lookup k) = some v := h
      rw [hb] at h2
      have ih := val_dkv (l := r) h2
      show valV ((Sum.inr x.1, V.int x.2) :: dkv r) (Sum.inr k) = _
      unfold valV at ih ⊢
      rw [List.find?_cons_of_neg (by simp [e])]
      exact ih
/-! ### a display -/
def XPs (trs : List (TE × TE)) (Γ : List (Option VA)) (Ω : List OA) (kvs : List (Str × Int)) : Prop :=
  ∀ F σ H, Env F σ Γ → Holds F Ω H → ∀ Q : List (V × V) → Hp → Prop, (∀ F' H', Same F F' → Holds F' Ω H' → Q (kvs.map fun q => (V.str q.1, V.int q.2)) H') → tPairs trs σ H Q
theorem xps_nil : XPs [] Γ Ω [] := fun F σ H e hh Q q => q F H (Same.refl F) hh
theorem xps_cons {tk tv : TE} {trs : List (TE × TE)} {k : Str} {v : Int} {r : List (Str × Int)} (hk : XE tk Γ Ω (va T k) Ω) (hv : XE tv Γ Ω (va T v) Ω) (hr : XPs trs Γ Ω r) : XPs ((tk, tv) :: trs) Γ Ω ((k, v) :: r) := fun F σ H e hh Q q => by
  refine hk F σ H e hh _ fun F1 x H1 Ω' e1 hh1 ⟨a1, o1⟩ => ?_
  subst o1
  refine hv F1 σ H1 (e.mono e1) hh1 _ fun F2 y H2 Ω' e2 hh2 ⟨a2, o2⟩ => ?_
  subst o2
  have a1 : x = V.str k := a1
  have a2 : y = V.int v := a2
  subst a1 a2
  exact hr F2 σ H2 ((e.mono e1).mono e2) hh2 _ fun F3 H3 e3 hh3 => q F3 H3 ((e1.trans e2).trans e3) hh3
theorem xe_disp {trs : List (TE × TE)} {kvs : List (Str × Int)} {ks : List (Nat × OA)} {L : List OA} (h : ∀ X, XPs trs Γ (stt Ω ks (L ++ [X])) kvs) (hn : (kvs.map (·.1)).Nodup) (h15 : kvs.length ≤ 15) : XE (tFz (tDisp trs)) Γ (stt Ω ks L) (va T (DF.mk kvs)) (stt Ω ks L) := fun F σ H e hh Q q => by
  intro p hp
  have hh1 := hh.newD (kvs := []) hp
  rw [stt_app] at hh1
  refine h (rawD p []) F σ _ e hh1 _ fun F2 H2 e2 hh2 => ?_
  rw [← stt_app] at hh2
  refine ⟨(hh2.fzD (u := .dK [])).1, dkv kvs, ?_, by unfold dkv; rw [List.length_map]; exact h15, p, _, rfl, upd_same, fun od => ?_⟩
  · unfold dkv
    rw [List.map_map]
    rfl
  · obtain ⟨_, hh3, e3⟩ := hh2.fzD (u := .frz od (.dK (mergeK [] (dkv kvs))))
    have eu : upd (upd H2 p (.dK (mergeK [] (dkv kvs)))) p (.frz od (.dK (mergeK [] (dkv kvs)))) = upd H2 p (.frz od (.dK (mergeK [] (dkv kvs)))) := by
      funext b
      by_cases hb : b = p
      · subst hb; rw [upd_same, upd_same]
      · rw [upd_ne hb, upd_ne hb, upd_ne hb]
    rw [eu]
    exact q _ _ _ _ (e2.trans e3) hh3 ⟨⟨p, od, rfl, by rw [upd_same, merge0 hn]⟩, rfl⟩
theorem xe_disp0 : XE (tFz tDNewK) Γ Ω (va T (DF.mk [])) Ω := fun F σ H e hh Q q => by
  intro p hp
  refine ⟨p, [], rfl, upd_same, fun od => ?_⟩
  have eu : upd (upd H p (.dK [])) p (.frz od (.dK [])) = upd H p (.frz od (.dK [])) := by
    funext b
    by_cases hb : b = p
    · subst hb; rw [upd_same, upd_same]
    · rw [upd_ne hb, upd_ne hb, upd_ne hb]
  rw [eu]
  obtain ⟨hh3, e3⟩ := hh.newF (u := .frz od (.dK [])) hp
  exact q _ _ _ _ e3 hh3 ⟨⟨p, od, rfl, upd_same⟩, rfl⟩

/-! ### dict(pairs) -/
def rDictP (K : PySem.W.Frag) : List V → Hp → VK → Prop := fun xs H Q => ∃ (a : Addr) (ps : List Addr) (kvs : List (Key × V)), xs = [.ref a] ∧ SqL K H a (ps.map V.ref) ∧ Paired (fun p kv => SqT K H p [kV kv.1, kv.2]) ps kvs ∧
    ∀ p, H p = none → Q (.ref p) (upd H p (.dK (mergeK [] kvs)))
theorem cr_dictPK {X : Cx} {K : PySem.W.Frag} (hc : X.calm = true) (hK : X.K = K) : CallR X (.type "dict") (rDictP K) := hK ▸ call_dictP hc
theorem pairs_al {F : Hp} : ∀ {vs : List V} {l : List (Str × Int)}, Al T F vs l → ∃ ps : List Addr, vs = ps.map V.ref ∧ Paired (fun p kv => SqT T.K F p [kV kv.1, kv.2]) ps (dkv l)
  | _, _, .nil => ⟨[], rfl, .nil⟩
  | _, _, .cons h t => by
    obtain ⟨p, x, y, hv, hs, h1, h2⟩ := h
    have h1 : x = V.str _ := h1
    have h2 : y = V.int _ := h2
    obtain ⟨ps, e, pr⟩ := pairs_al t
    subst h1 h2
    exact ⟨p :: ps, by rw [hv, e]; rfl, .cons hs pr⟩
theorem paired_imp {α β : Type} {R R' : α → β → Prop} (k : ∀ a b, R a b → R' a b) : ∀ {xs : List α} {ys : List β}, Paired R xs ys → Paired R' xs ys
  | _, _, .nil => .nil
  | _, _, .cons h t => .cons (k _ _ h) (paired_imp k t)
theorem fz_upd {H : Hp} {p : Addr} {u u' : HO} : upd (upd H p u) p u' = upd H p u' := by
  funext b
  by_cases hb : b = p
  · subst hb; rw [upd_same, upd_same]
  · rw [upd_ne hb, upd_ne hb, upd_ne hb]
theorem xe_dictP {l : List (Str × Int)} (ha : XE te Γ Ω A Ω1) (h : IsL T Ω1 A l) (hn : (l.map (·.1)).Nodup) : XE (tFz (tCB (rDictP T.K) (tCons te tNil))) Γ Ω (va T (DF.mk l)) Ω1 := fun F σ H e hh Q q => by
  refine ha F σ H e hh _ fun F1 x H1 Ω' e1 hh1 ⟨a1, o1⟩ => ?_
  subst o1
  obtain ⟨p, ws, ev, hs, al⟩ := h F1 H1 x hh1 a1
  obtain ⟨ps, ew, pr⟩ := pairs_al al
  refine ⟨p, ps, dkv l, by rw [ev], (by rw [← ew]; exact hs), paired_imp (fun a b q => Same.tup hh1.same q) pr, fun d hd => ?_⟩
  refine ⟨d, _, rfl, upd_same, fun od => ?_⟩
  rw [fz_upd]
  obtain ⟨hh3, e3⟩ := hh1.newF (u := .frz od (.dK (mergeK [] (dkv l)))) hd
  exact q _ _ _ _ (e1.trans e3) hh3 ⟨⟨d, od, rfl, by rw [upd_same, merge0 hn]⟩, rfl⟩
/-! ### the keys walked, d[k], k in d -/
theorem wk_keys {p : Addr} {od : Obj} {l : List (Str × Int)} : Wk (Itk p od (dkv l)) (fun F => F p = some (.frz od (.dK (dkv l)))) (l.map (·.1)) (fun a => va T a) where
  mono := fun F F' e h => e _ _ h
  go := fun i F Ω H h hh hi => ⟨hh.same _ _ h, by unfold dkv; rw [List.length_map] at hi ⊢; exact hi⟩
  stop := fun F Ω H h hh => ⟨hh.same _ _ h, by unfold dkv; rw [List.length_map, List.length_map]; exact Nat.le_refl _⟩
  yld := fun i a F Ω H x H' h hh hx y => by
    obtain ⟨e, k, v, hk, hv⟩ := y
    subst e hv
    refine ⟨F, Same.refl F, hh, ?_⟩
    unfold dkv at hk
    rw [List.getElem?_map] at hx hk
    cases hl : l[i]? with
    | none => rw [hl] at hx; cases hx
    | some z =>
      rw [hl] at hx hk
      have e1 : z.1 = a := Option.some.inj hx
      have e2 : ((Sum.inr z.1 : Key), V.int z.2) = (k, v) := Option.some.inj hk
      have e3 : k = Sum.inr z.1 := (Prod.mk.inj e2).1.symm
      subst e3 e1
      rfl
theorem xi_keys {l : List (Str × Int)} (ha : XE te Γ Ω (va T (DF.mk l)) Ω1) : XI (iKeys te) Γ Ω (l.map (·.1)) (fun a => va T a) Ω1 := fun F σ H e hh R r => by
  refine ha F σ H e hh _ fun F1 x H1 Ω' e1 hh1 ⟨a1, o1⟩ => ?_
  subst o1
  obtain ⟨p, od, rfl, hp⟩ := a1
  exact ⟨p, od, rfl, .inl ⟨dkv l, hh1.same _ _ hp, r F1 _ H1 _ e1 hh1 wk_keys hp⟩⟩
theorem xe_dget {l : List (Str × Int)} {k : Str} {v : Int} (ha : XE ta Γ Ω (va T (DF.mk l)) Ω1) (hb : XE tb Γ Ω1 (va T k) Ω2) (h : l.lookup k = some v) : XE (tDGet ta tb) Γ Ω (va T v) Ω2 := fun F σ H e hh Q q => by
  refine ha F σ H e hh _ fun F1 x H1 Ω' e1 hh1 ⟨a1, o1⟩ => ?_
  subst o1
  refine hb F1 σ H1 (e.mono e1) hh1 _ fun F2 y H2 Ω' e2 hh2 ⟨a2, o2⟩ => ?_
  subst o2
  obtain ⟨p, od, rfl, hp⟩ := a1
  have a2 : y = V.str k := a2
  subst a2
  exact ⟨p, V.int v, rfl, .inl ⟨dkv l, Sum.inr k, .inr ⟨od, hh2.same _ _ (e2 _ _ hp)⟩, rfl, (val_dkv h).symm⟩, q F2 _ H2 _ (e1.trans e2) hh2 ⟨rfl, rfl⟩⟩
/-! ### == where it is known to hold -/
def rEqF : R2 := fun x y H Q => ∃ a b oa ob ks ls, x = .ref a ∧ y = .ref b ∧ H a = some (.frz oa (.dK ks)) ∧ H b = some (.frz ob (.dK ls)) ∧ ks.length = ls.length ∧ (∀ p ∈ ks, valV ls p.1 = some p.2 ∧ flatB p.2 = true) ∧ Q (.bl true) H
theorem op_eqF {X : Cx} (units : X.A.units < cLine) : OpR X (compareOp .Eq) rEqF := by
  intro pins s σ H x y v u Q inv r1 r2 h
  obtain ⟨a, b, oa, ob, ks, ls, rfl, rfl, ha, hb, len, vals, q⟩ := h
  obtain rfl : v = Value.ref a := r1
  obtain rfl : u = Value.ref b := r2
  have okA : ObjOk X.prog X.w H s.heap a (.dK ks) := (show s.heap.get? a = some oa ∧ ObjOk X.prog X.w H s.heap a (.dK ks) from inv.hok a _ ha).2
  have okB : ObjOk X.prog X.w H s.heap b (.dK ls) := (show s.heap.get? b = some ob ∧ ObjOk X.prog X.w H s.heap b (.dK ls) from inv.hok b _ hb).2
  obtain ⟨_, n1, w1, k1, d1⟩ := okA
  obtain ⟨_, n2, w2, k2, d2⟩ := okB
  have same : w1.length = w2.length := by rw [← k1.length, ← k2.length]; exact len
  exact PySem.W.keq_eq (r := true) (knd := mixKind X.prog X.w) n1 n2 d1 d2 units (fun _ => hits_all k2 k1 vals) (fin_bl inv q (by simp [same]))
/-- the same keys, the same numbers -/
def sameD (l m : List (Str × Int)) : Prop := l.length = m.length ∧ ∀ x ∈ l, m.lookup x.1 = some x.2
theorem xe_eqDF {l m : List (Str × Int)} (ha : XE ta Γ Ω (va T (DF.mk l)) Ω1) (hb : XE tb Γ Ω1 (va T (DF.mk m)) Ω2) (h : sameD l m) : XE (tOp rEqF ta tb) Γ Ω (va T true) Ω2 := xe_op ha hb fun F H x y hh a1 a2 Q q => by
  obtain ⟨p, o1, rfl, h1⟩ := a1
  obtain ⟨p2, o2, rfl, h2⟩ := a2
  refine ⟨p, p2, o1, o2, dkv l, dkv m, rfl, rfl, hh.same _ _ h1, hh.same _ _ h2, by unfold dkv; rw [List.length_map, List.length_map]; exact h.1, fun z hz => ?_, q F _ H (Same.refl F) hh rfl⟩
  obtain ⟨x, hx, rfl⟩ := List.mem_map.mp hz
  exact ⟨val_dkv (h.2 x hx), rfl⟩
/-! ### a pair's part -/
theorem xe_fst {α β : Type} [Rp α] [Rp β] {z : α × β} (ha : XE te Γ Ω (va T z) Ω1) : XE (tOp (rIx T.K) te (tC (.int 0))) Γ Ω (va T z.1) Ω1 := xe_op ha (xe_int (T := T) (n := 0)) fun F H x y hh a1 a2 Q q => by
  obtain ⟨p, u, v, rfl, hs, r1, r2⟩ := a1
  exact .inr (.inl ⟨p, _, 0, u, rfl, a2, Same.tup hh.same hs, rfl, q F u H (Same.refl F) hh r1⟩)
/-! ### x, y = a value, a new thing -/
theorem xs_parVN {i j : Nat} {ks : List (Nat × OA)} {L : List OA} {o : Addr → OA} {Ω0 : List OA} (h1 : XE ta Γ Ω0 A Ω1) (h2 : XG tb Γ Ω1 (RN (stt Ω ks L) o))
    (q : ∀ p, XS ts D F0 ((Γ.set i (some A)).set j (some (vr p))) (stt Ω ks (L ++ [o p]))) : XS (tSeq (tPar i j (tCons ta (tCons tb tNil))) ts) D F0 Γ Ω0 := fun σ H ⟨F, f0, e, hh⟩ => by
  refine h1 F σ H e hh _ fun F1 x H1 Ω' e1 hh1 ⟨a1, o1⟩ => ?_
  subst o1
  refine h2 F1 σ H1 (e.mono e1) hh1 _ fun F2 y H2 Ω' e2 hh2 ⟨p, a2, o2⟩ => ?_
  subst a2 o2
  rw [stt_app] at hh2
  exact ⟨_, _, rfl, q p _ H2 ⟨F2, f0.trans (e1.trans e2), (((e.mono e1).mono e2).set (A.mono e2 a1)).set (A := vr p) rfl, hh2⟩⟩
def rSumT (K : PySem.W.Frag) : List V → Hp → VK → Prop := fun vs H Q => ∃ (a : Addr) (ns : List Int), vs = [V.ref a] ∧ SqT K H a (ns.map V.int) ∧ Q (.int ns.sum) H
end
end VL

set_option Elab.async false
set_option linter.all false
set_option maxRecDepth 100000
/-! enumerate over a tuple; a truth whose second part may have no value; slices of tuples -/
namespace VL
open PySem L2 PyProof.Rows
/-- the tuple at a, its items in new pairs with their places -/
def IteT (K : PySem.W.Frag) (a : Addr) : It :=
  ⟨fun i H => ∃ xs x, SqT K H a xs ∧ xs[i]? = some x, fun i H v H' => ∃ p x, v = .ref p ∧ H p = none ∧ H' = upd H p (.tup [.int (i : Nat), x]) ∧ ∀ xs, SqT K H a xs → xs[i]? = some x, fun i H => ∃ xs, SqT K H a xs ∧ xs.length = i⟩
def iEnumT (K : PySem.W.Frag) (ta : TA) : TI := fun σ H R => ta σ H fun vs H1 => ∃ a xs, vs = [.ref a] ∧ SqT K H1 a xs ∧ R (IteT K a) H1
section
variable {T : TC} {Γ : List (Option VA)} {Ω Ω1 Ω2 Ω3 : List OA} {A B C : VA} {ta tb te : TE} {b : Bool} {α : Type} [Rp α] {l : List α}
/-- the items with their places -/
def nums (l : List α) : List (Int × α) := (rng 0 l.length).zip l
/-! ### a truth whose second part may have no value -/
theorem xe_andO {mb : Option Bool} {v : Bool} (h1 : XE ta Γ Ω (va T b) Ω) (hm : (if b = true then mb else some false) = some v) (h2 : ∀ v, mb = some v → XE tb Γ Ω (va T v) Ω) : XE (tAndV ta tb) Γ Ω (va T v) Ω := fun F σ H e hh Q q => by
  refine h1 F σ H e hh _ fun F1 x H1 Ω' e1 hh1 ⟨a1, o1⟩ => ?_
  subst o1
  refine ⟨b, a1, ?_⟩
  cases b with
  | true =>
    rw [if_pos rfl] at hm ⊢
    exact h2 v hm F1 σ H1 (e.mono e1) hh1 Q fun F2 y H2 Ω'' e2 hh2 r => q F2 y H2 Ω'' (e1.trans e2) hh2 r
  | false =>
    rw [if_neg Bool.false_ne_true] at hm ⊢
    cases hm
    exact q F1 _ H1 _ e1 hh1 ⟨rfl, rfl⟩
theorem xe_orO {mb : Option Bool} {v : Bool} (h1 : XE ta Γ Ω (va T b) Ω) (hm : (if b = true then some true else mb) = some v) (h2 : ∀ v, mb = some v → XE tb Γ Ω (va T v) Ω) : XE (tOrV ta tb) Γ Ω (va T v) Ω := fun F σ H e hh Q q => by
  refine h1 F σ H e hh _ fun F1 x H1 Ω' e1 hh1 ⟨a1, o1⟩ => ?_
  subst o1
  refine ⟨b, a1, ?_⟩
  cases b with
  | false =>
    rw [if_neg Bool.false_ne_true] at hm ⊢
    exact h2 v hm F1 σ H1 (e.mono e1) hh1 Q fun F2 y H2 Ω'' e2 hh2 r => q F2 y H2 Ω'' (e1.trans e2) hh2 r
  | true =>
    rw [if_pos rfl] at hm ⊢
    cases hm
    exact q F1 _ H1 _ e1 hh1 ⟨rfl, rfl⟩
/-! ### a pair of a new list and a value -/
def RNP (T : TC) (Ω2 : List OA) (o : Addr → OA) (B : VA) : Hp → V → List OA → Prop := fun F v Ω' => ∃ p t w, v = .ref t ∧ SqT T.K F t [.ref p, w] ∧ B.P F w ∧ Ω' = Ω2 ++ [o p]
def RNQ (T : TC) (Ω2 : List OA) (p : Addr) (B : VA) : Hp → V → List OA → Prop := fun F v Ω' => ∃ t w, v = .ref t ∧ SqT T.K F t [.ref p, w] ∧ B.P F w ∧ Ω' = Ω2
theorem xg_tupNP {p : Addr} {t : TA} (h : XA t Γ Ω [vr p, B] Ω1) : XG (tTup t) Γ Ω (RNQ T Ω1 p B) := fun F σ H e hh Q q => by
  refine h F σ H e hh _ fun F1 xs H1 e1 hh1 a1 => ?_
  obtain ⟨v, w, rfl, b1, b2⟩ := alA2 a1
  have b1 : v = V.ref p := b1
  subst b1
  refine ⟨by show 2 ≤ sizeLine; decide, fun d hd => ?_⟩
  obtain ⟨hh2, e2⟩ := hh1.newF (u := .tup [.ref p, w]) hd
  exact q _ _ _ _ (e1.trans e2) hh2 ⟨d, w, rfl, SqT.of upd_same, B.mono e2 b2, rfl⟩
theorem RT.handNP {F0 : Hp} {Q : VK} {o : Addr → OA} {p : Addr} {j : Nat} {ks : List (Nat × OA)} {L : List OA} (k : RT F0 (RNP T (stt Ω ks []) o B) Q) (hj : L[j]? = some (o p)) : RT F0 (RNQ T (stt Ω ks L) p B) Q := fun F v H Ω' f hh ⟨t, w, a, b, c, e⟩ => by
  subst e
  refine k F v H _ f (Holds.sel (Ω := apk Ω ks) hh hj) ⟨p, t, w, a, b, c, ?_⟩
  rw [stt_nil]
theorem xn_callNP {Pre : PreT} {E : XK} {t : TA} {As : List VA} {Ω' : List OA} {o : Addr → OA} (ha : XA t Γ Ω As Ω1) (hp : Pre As Ω1 (RNP T Ω' o B)) (he : Ω' = Ω2) : XG (tCall (mkSp Pre) [] E t) Γ Ω (RNP T Ω2 o B) := he ▸ xg_call ha hp
theorem xs_asgNP {D : Ends} {F0 : Hp} {ts : TS} {i j : Nat} {ks : List (Nat × OA)} {L : List OA} {o : Addr → OA} {Ω0 : List OA} (h : XG te Γ Ω0 (RNP T (stt Ω ks L) o B))
    (q : ∀ p, XS ts D F0 ((Γ.set i (some (vr p))).set j (some B)) (stt Ω ks (L ++ [o p]))) : XS (tSeq (tAsg te (gTup T.K 2 (gCons (gName i) (gCons (gName j) gNil)))) ts) D F0 Γ Ω0 := fun σ H ⟨F, f0, e, hh⟩ =>
  h F σ H e hh _ fun F1 v H1 Ω' e1 hh1 ⟨p, t, w, a, b, c, eo⟩ => by
    subst eo
    rw [stt_app] at hh1
    exact ⟨t, [.ref p, w], a, Same.tup hh1.same b, rfl, .ref p, [w], rfl, w, [], rfl, rfl, q p _ H1 ⟨F1, f0.trans e1, ((e.mono e1).set (A := vr p) rfl).set c, hh1⟩⟩
end
end VL

set_option Elab.async false
set_option linter.all false
set_option maxRecDepth 100000
/-! == and != by the text's own __eq__ -/
namespace VL
open PySem L2 PyProof.Rows
/-- x == y, x != y of two instances of the class at C: what its own __eq__ promises -/
def rOwnEq (C : Addr) (sp : Sp) : R2 := fun x y H Q => ∃ a b dx dy fs gs, x = .ref a ∧ y = .ref b ∧ H a = some (.ins C dx fs) ∧ H b = some (.ins C dy gs) ∧ sp [x, y] H (fun v H' => ∃ r, v = .bl r ∧ Q (.bl r) H') E0
def rOwnNe (C : Addr) (sp : Sp) : R2 := fun x y H Q => ∃ a b dx dy fs gs, x = .ref a ∧ y = .ref b ∧ H a = some (.ins C dx fs) ∧ H b = some (.ins C dy gs) ∧ sp [x, y] H (fun v H' => ∃ r, v = .bl r ∧ Q (.bl (!r)) H') E0
section
variable {X : Cx} {n : Nat} {C f : Addr} {fd : FuncData} {ps : List Str} {sp : Sp}
end
section
variable {T : TC} {Γ : List (Option VA)} {Ω Ω1 Ω2 Ω3 : List OA} {A B C : VA} {ta tb te : TE} {x y : Bg} {r : Bool}
end
structure CalEq (P : Program) (w : World) (K : PySem.W.Frag) (mg : Str → Option Value) (base : Heap) (n : Nat) (C : Addr) (sp : Sp) : Prop where
  ex : ∃ f fd, FnOk P w K mg base CX0 n f fd ["self", "other"] sp ∧ ownB K C f = true ∧ Meth K C "__eq__" f ∧ Binds K fd ["self", "other"] []
section
variable {X : Cx} {n : Nat} {C : Addr} {sp : Sp}
end
end VL

set_option Elab.async false
set_option linter.all false
set_option maxRecDepth 100000
/-! bits joined; tuples of four -/
namespace VL
open PySem L2
structure T4 (α β γ δ : Type) where
  a : α
  b : β
  c : γ
  d : δ
instance {α β γ δ : Type} [Rp α] [Rp β] [Rp γ] [Rp δ] : Rp (T4 α β γ δ) := ⟨fun T F v l => ∃ p x y z u, v = .ref p ∧ SqT T.K F p [x, y, z, u] ∧ Rp.rep T F x l.a ∧ Rp.rep T F y l.b ∧ Rp.rep T F z l.c ∧ Rp.rep T F u l.d,
  fun e ⟨p, x, y, z, u, h1, h2, h3, h4, h5, h6⟩ => ⟨p, x, y, z, u, h1, Same.tup e h2, Rp.mono e h3, Rp.mono e h4, Rp.mono e h5, Rp.mono e h6⟩⟩
section
variable {T : TC} {Γ : List (Option VA)} {Ω Ω1 Ω2 Ω3 : List OA} {A B C : VA} {As : List VA} {ta tb te : TE} {t u : TT} {i j n m : Int} {b c : Bool}
theorem xe_bor (ha : XE ta Γ Ω (va T i) Ω1) (hb : XE tb Γ Ω1 (va T j) Ω2) : XE (tOp (rI0 fun i j => .int (Builtin.bitOr i j)) ta tb) Γ Ω (va T (Builtin.bitOr i j)) Ω2 := xe_op ha hb ro_int
theorem xe_tup4 {α β γ δ : Type} [Rp α] [Rp β] [Rp γ] [Rp δ] {a : α} {x : β} {y : γ} {z : δ} {ta : TA} (h : XA ta Γ Ω [va T a, va T x, va T y, va T z] Ω1) : XE (tTup ta) Γ Ω (va T (T4.mk a x y z)) Ω1 := fun F σ H e hh Q q => by
  refine h F σ H e hh _ fun F1 xs H1 e1 hh1 a1 => ?_
  cases a1 with
  | cons h1 a1 =>
    cases a1 with
    | cons h2 a1 =>
      obtain ⟨v, w, rfl, h3, h4⟩ := alA2 a1
      refine ⟨by show 4 ≤ sizeLine; decide, fun p hp => ?_⟩
      obtain ⟨hh2, e2⟩ := hh1.newF (u := .tup [_, _, v, w]) hp
      exact q _ _ _ _ (e1.trans e2) hh2 ⟨⟨p, _, _, v, w, rfl, SqT.of upd_same, Rp.mono e2 h1, Rp.mono e2 h2, Rp.mono e2 h3, Rp.mono e2 h4⟩, rfl⟩
theorem tgt_quad {α β γ δ : Type} [Rp α] [Rp β] [Rp γ] [Rp δ] {x : T4 α β γ δ} {k l m n : Nat} : Tgt (gTup T.K 4 (gCons (gName k) (gCons (gName l) (gCons (gName m) (gCons (gName n) gNil))))) (va T x) (fun Γ => (((Γ.set k (some (va T x.a))).set l (some (va T x.b))).set m (some (va T x.c))).set n (some (va T x.d))) [k, l, m, n] := fun F σ Γ v H Ω e hh a Q q => by
  obtain ⟨p, y, z, w, u, rfl, ht, ry, rz, rw, ru⟩ := a
  refine ⟨p, [y, z, w, u], rfl, Same.tup hh.same ht, rfl, y, [z, w, u], rfl, z, [w, u], rfl, w, [u], rfl, u, [], rfl, rfl, ?_⟩
  exact q F _ H (Same.refl F) ((((e.set (A := va T x.a) ry).set (A := va T x.b) rz).set (A := va T x.c) rw).set (A := va T x.d) ru) hh fun vs h => (wipe_set (h n (by simp))).trans ((wipe_set (h m (by simp))).trans ((wipe_set (h l (by simp))).trans (wipe_set (h k (by simp)))))
theorem xe_a4 {α β γ δ : Type} [Rp α] [Rp β] [Rp γ] [Rp δ] {x : T4 α β γ δ} (ha : XE te Γ Ω (va T x) Ω1) (hi : XE ti Γ Ω1 (va T (2 : Int)) Ω1) : XE (tOp (rIx T.K) te ti) Γ Ω (va T x.c) Ω1 := xe_op ha hi fun F H v w hh a1 a2 Q q => by
  obtain ⟨p, y, z, u, o, rfl, ht, ry, rz, rw, ru⟩ := a1
  exact .inr (.inl ⟨p, [y, z, u, o], 2, u, rfl, a2, Same.tup hh.same ht, rfl, q F u H (Same.refl F) hh rw⟩)
theorem xe_b4 {α β γ δ : Type} [Rp α] [Rp β] [Rp γ] [Rp δ] {x : T4 α β γ δ} (ha : XE te Γ Ω (va T x) Ω1) (hi : XE ti Γ Ω1 (va T (1 : Int)) Ω1) : XE (tOp (rIx T.K) te ti) Γ Ω (va T x.b) Ω1 := xe_op ha hi fun F H v w hh a1 a2 Q q => by
  obtain ⟨p, y, z, u, o, rfl, ht, ry, rz, rw, ru⟩ := a1
  exact .inr (.inl ⟨p, [y, z, u, o], 1, z, rfl, a2, Same.tup hh.same ht, rfl, q F z H (Same.refl F) hh rz⟩)
theorem cal0' {Ω : List OA} : stt Ω [] [] = Ω := List.append_nil _
end
end VL

set_option Elab.async false
set_option linter.all false
set_option maxRecDepth 100000
/-! texts compared; items of a dict; enumerate over a list; lists unpacked; extend -/
namespace VL
open PySem L2
section
variable {T : TC} {Γ : List (Option VA)} {Ω Ω1 Ω2 Ω3 : List OA} {A B C : VA} {As : List VA} {ta tb te ti : TE} {t u : TT} {i j n m : Int} {b c : Bool} {x y : Str}
def un2 {α : Type} : List α → Option (α × α)
  | [a, b] => some (a, b)
  | _ => none
end
instance {α β γ δ : Type} [Rp α] [Rp β] [Rp γ] [Rp δ] [Dat α] [Dat β] [Dat γ] [Dat δ] : Dat (T4 α β γ δ) := ⟨fun l => .tuple [Dat.dat l.a, Dat.dat l.b, Dat.dat l.c, Dat.dat l.d], fun l => Dat.ok l.a ∧ Dat.ok l.b ∧ Dat.ok l.c ∧ Dat.ok l.d, max (Dat.dep α) (max (Dat.dep β) (max (Dat.dep γ) (Dat.dep δ))) + 1, fun e ⟨p, x, y, z, u, h1, h2, h3, h4, h5, h6⟩ => by
    rw [h1]; exact .tup (Same.tup e h2) (.cons (Dat.dp e h3) (.cons (Dat.dp e h4) (.cons (Dat.dp e h5) (.cons (Dat.dp e h6) .nil)))), fun h => by
    show (PyData.canLay0 (Dat.dat _) && (PyData.canLay0 (Dat.dat _) && (PyData.canLay0 (Dat.dat _) && (PyData.canLay0 (Dat.dat _) && true)))) = true
    rw [Dat.lay h.1, Dat.lay h.2.1, Dat.lay h.2.2.1, Dat.lay h.2.2.2]; rfl, fun {a} => by
    rw [depth_tuple]
    refine Nat.succ_le_succ ?_
    show max (PyData.depth (Dat.dat a.a)) (max (PyData.depth (Dat.dat a.b)) (max (PyData.depth (Dat.dat a.c)) (max (PyData.depth (Dat.dat a.d)) 0))) ≤ _
    have h1 := Dat.depth (a := a.a)
    have h2 := Dat.depth (a := a.b)
    have h3 := Dat.depth (a := a.c)
    have h4 := Dat.depth (a := a.d)
    omega, fun {a b} => by
    show (PyData.eqv (Dat.dat a.a) (Dat.dat b.a) && (PyData.eqv (Dat.dat a.b) (Dat.dat b.b) && (PyData.eqv (Dat.dat a.c) (Dat.dat b.c) && (PyData.eqv (Dat.dat a.d) (Dat.dat b.d) && true)))) = true ↔ a = b
    rw [Bool.and_true, Bool.and_eq_true, Bool.and_eq_true, Bool.and_eq_true, Dat.eqv, Dat.eqv, Dat.eqv, Dat.eqv]
    cases a; cases b; simp⟩
section
variable {X : Cx} {K : PySem.W.Frag} {e : Expr} {ta : TA} {p pos tpos : Pos} {elts : List Expr} {kk : Nat}
end
end VL

set_option Elab.async false
set_option linter.all false
set_option maxRecDepth 100000
/-! != of tuples item by item; == and != of pairs (frozen dict, data) that are equal -/
namespace VNe
open PySem
end VNe
namespace VL
open PySem L2 PyProof.Rows
/-- two frozen dicts of the same keys and flat values -/
def FD (H : Hp) (x y : V) : Prop := ∃ a b oa ob ks ls, x = .ref a ∧ y = .ref b ∧ H a = some (.frz oa (.dK ks)) ∧ H b = some (.frz ob (.dK ls)) ∧ ks.length = ls.length ∧ ∀ p ∈ ks, valV ls p.1 = some p.2 ∧ flatB p.2 = true
/-- the same data -/
def FS (K : PySem.W.Frag) (H : Hp) (x y : V) : Prop := ∃ d, Dp K H x d ∧ Dp K H y d ∧ d.canLay0 = true ∧ d.depth ≤ 60 ∧ PyData.eqv d d = true
section
variable {X : Cx} {pins : List (Addr × Obj)} {σ : L2.St} {H : Hp} {s : Shared}
end
def PkE (K : PySem.W.Frag) (x y : V) (H : Hp) : Prop := ∃ a b x1 x2 y1 y2, x = .ref a ∧ y = .ref b ∧ SqT K H a [x1, x2] ∧ SqT K H b [y1, y2] ∧ FD H x1 y1 ∧ FS K H x2 y2
def rPkEq (K : PySem.W.Frag) : R2 := fun x y H Q => PkE K x y H ∧ Q (.bl true) H
def rPkNe (K : PySem.W.Frag) : R2 := fun x y H Q => PkE K x y H ∧ Q (.bl false) H
section
variable {X : Cx} {pins : List (Addr × Obj)} {σ : L2.St} {H : Hp} {s : Shared}
end
section
variable {T : TC} {Γ : List (Option VA)} {Ω Ω1 Ω2 : List OA} {ta tb : TE} {α : Type} [Rp α] [Dat α] {x y : DF × α}
end
/-! d.get(k, x) -/
theorem val_dkvN {k : Str} : ∀ {l : List (Str × Int)}, l.lookup k = none → valV (dkv l) (Sum.inr k) = none
  | [], _ => rfl
  | x :: r, h => by
    have e : (k == x.1) = false := by
      cases q : k == x.1 with
      | false => rfl
      | true =>
        have h2 : (match k == x.1 with | true => some x.2 | false => r.lookup k) = none := h
        rw [q] at h2
        cases h2
    have h2 : (match k == x.1 with | true => some x.2 | false => r.lookup k) = none := h
    rw [e] at h2
    have ih := val_dkvN (l := r) h2
    have ne : x.1 ≠ k := fun z => by rw [z, beq_self_eq_true] at e; cases e
    show valV ((Sum.inr x.1, V.int x.2) :: dkv r) (Sum.inr k) = _
    unfold valV at ih ⊢
    rw [List.find?_cons_of_neg (by simp [ne])]
    exact ih
theorem val_dkvO {k : Str} {l : List (Str × Int)} : valV (dkv l) (Sum.inr k) = (l.lookup k).map V.int := by
  cases h : l.lookup k with
  | some v => exact val_dkv h
  | none => exact val_dkvN h
section
variable {T : TC} {Γ : List (Option VA)} {Ω Ω1 Ω2 Ω3 : List OA} {ta tb tc : TE}
end
end VL

set_option Elab.async false
set_option linter.all false
set_option maxRecDepth 100000
/-! != of lists whose items have a text's own __eq__; a list unpacked into three -/
namespace VNe
open PySem PySem.SeqAt
end VNe
namespace VL
open PySem L2 PyProof.Rows
/-- pair by pair the own __eq__ says yes; both lists stay -/
def WL (C : Addr) (sp : Sp) (a b : Addr) (xs ys : List V) : List (V × V) → Hp → (Hp → Prop) → Prop
  | [], H, Q => Q H
  | z :: r, H, Q => ∃ p q dx dy fs gs, z.1 = .ref p ∧ z.2 = .ref q ∧ H p = some (.ins C dx fs) ∧ H q = some (.ins C dy gs) ∧ (p = q → WL C sp a b xs ys r H Q) ∧
    (p ≠ q → sp [z.1, z.2] H (fun v H' => v = .bl true ∧ H' a = some (.lst xs) ∧ H' b = some (.lst ys) ∧ WL C sp a b xs ys r H' Q) E0)
def rOwnL (C : Addr) (sp : Sp) (r : Bool) : R2 := fun x y H Q => ∃ a b xs ys, x = .ref a ∧ y = .ref b ∧ H a = some (.lst xs) ∧ H b = some (.lst ys) ∧ xs.length = ys.length ∧ WL C sp a b xs ys (xs.zip ys) H (fun H' => Q (.bl r) H')
section
variable {X : Cx} {n : Nat} {C f : Addr} {fd : FuncData} {ps : List Str} {sp : Sp}
/-- what the loop keeps -/
def LI (X : Cx) (pins : List (Addr × Obj)) (σ : L2.St) (C : Addr) (sp : Sp) (a b : Addr) (xs ys : List V) (Q : Hp → Prop) (i : Nat) (s : Shared) : Prop := ∃ H, Inv X pins σ H s ∧ H a = some (.lst xs) ∧ H b = some (.lst ys) ∧ WL C sp a b xs ys ((xs.zip ys).drop i) H Q
end
section
variable {T : TC} {Γ : List (Option VA)} {Ω Ω1 Ω2 Ω3 : List OA} {ta tb te : TE} {l m : List Bg}
def un3 {α : Type} : List α → Option (α × α × α)
  | [a, b, c] => some (a, b, c)
  | _ => none
end
end VL

set_option Elab.async false
set_option linter.all false
set_option maxRecDepth 100000
/-! None behind a list of numbers; a pair of a new list and a value, kept in a name -/
namespace VL
open PySem L2
inductive OI where
  | i (n : Int)
  | no
def OI.v : OI → V
  | .i n => .int n
  | .no => .non
def OI.d : OI → PyData
  | .i n => .int n
  | .no => .none
instance : Rp OI := ⟨fun _ _ v a => v = a.v, fun _ h => h⟩
instance : Dat OI := ⟨OI.d, fun _ => True, 0, fun {T F H v a} _ h => by
    rw [show v = a.v from h]
    cases a
    · exact .int _
    · exact .non, fun {a} _ => by cases a <;> rfl, fun {a} => by cases a <;> exact Nat.le_refl _, fun {a b} => by
    cases a <;> cases b
    · rename_i m n
      show (m == n) = true ↔ _
      rw [beq_iff_eq]
      exact ⟨fun e => by rw [e], fun e => by cases e; rfl⟩
    · exact ⟨(fun e => nomatch e), (fun e => nomatch e)⟩
    · exact ⟨(fun e => nomatch e), (fun e => nomatch e)⟩
    · exact ⟨fun _ => rfl, fun _ => rfl⟩⟩
/-- a pair of a list that changes, at p, and a value -/
def pvA (T : TC) (p : Addr) (B : VA) : VA := ⟨fun F v => ∃ t w, v = .ref t ∧ SqT T.K F t [.ref p, w] ∧ B.P F w, fun e ⟨t, w, a, b, c⟩ => ⟨t, w, a, Same.tup e b, B.mono e c⟩⟩
section
variable {T : TC} {Γ : List (Option VA)} {Ω Ω1 Ω2 Ω3 : List OA} {A B C : VA} {ta tb te : TE} {D : Ends} {F0 : Hp} {ts : TS} {p : Addr}
end
/-! ### walks over a list that may change, and doesn't -/
section
variable {T : TC} {Γ : List (Option VA)} {Ω Ω0 Ω1 Ω2 : List OA} {A B : VA} {te ta tb : TE} {D : Ends} {F0 : Hp} {ts : TS}
structure Wk2 (k : Nat) (o : OA) {α : Type} (J : It) (Sx : Hp → Prop) (xs : List α) (A : α → VA) : Prop where
  mono : ∀ F F', Same F F' → Sx F → Sx F'
  go : ∀ (i : Nat) F Ω H, Sx F → Holds F Ω H → Ω[k]? = some o → i < xs.length → J.go i H
  stop : ∀ F Ω H, Sx F → Holds F Ω H → Ω[k]? = some o → J.stop xs.length H
  yld : ∀ (i : Nat) a F Ω H x H', Sx F → Holds F Ω H → Ω[k]? = some o → xs[i]? = some a → J.yld i H x H' → ∃ F', Same F F' ∧ Holds F' Ω H' ∧ (A a).P F' x
def XI2 (k : Nat) (o : OA) {α : Type} (wi : TI) (Γ : List (Option VA)) (Ω : List OA) (xs : List α) (A : α → VA) (Ω2 : List OA) : Prop :=
  ∀ F σ H, Env F σ Γ → Holds F Ω H → ∀ R : It → Hp → Prop, (∀ F' J H' Sx, Same F F' → Holds F' Ω2 H' → Wk2 k o J Sx xs A → Sx F' → R J H') → wi σ H R
end
end VL

set_option Elab.async false
set_option linter.all false
set_option maxRecDepth 100000
/-! the parts of a pair with a list that changes -/
namespace VL
open PySem L2
section
variable {T : TC} {Γ : List (Option VA)} {Ω Ω1 Ω2 : List OA} {B : VA} {te : TE} {p : Addr}
end
end VL

set_option Elab.async false
set_option linter.all false
set_option maxRecDepth 100000
/-! an own __eq__ beside a number or a list; is, of truths; a new list of a tuple; a new machine handed over at once -/
namespace VL
open PySem L2 PyProof.Rows
/-- neither an int nor a list comes ahead of the class at C, nor is one of it -/
def otherB (K : PySem.W.Frag) (C : Addr) : Bool := PySem.W.notFirst K C (.type "int") && (PySem.W.notFirst K C (.type "list") && (decide (PySem.W.kitOne K (.type "int") (.ref C) = some false) && decide (PySem.W.kitOne K (.type "list") (.ref C) = some false)))
/-- an int or a list -/
def IsO (H : Hp) (y : V) : Prop := (∃ i, y = .int i) ∨ ∃ b vs, y = .ref b ∧ H b = some (.lst vs)
def rOwnX (K : PySem.W.Frag) (C : Addr) (sp : Sp) : R2 := fun x y H Q => ∃ a dx fs, x = .ref a ∧ H a = some (.ins C dx fs) ∧ IsO H y ∧ sp [x, y] H (fun v H' => v = .bl false ∧ Q (.bl false) H') E0
section
variable {X : Cx} {n : Nat} {C f : Addr} {fd : FuncData} {ps : List Str} {sp : Sp}
structure CalEqX (P : Program) (w : World) (K : PySem.W.Frag) (mg : Str → Option Value) (base : Heap) (n : Nat) (C : Addr) (sp : Sp) : Prop where
  ex : ∃ f fd, FnOk P w K mg base CX0 n f fd ["self", "other"] sp ∧ otherB K C = true ∧ Meth K C "__eq__" f ∧ Binds K fd ["self", "other"] []
end
/-- what __eq__ tells of a number beside an int or a list -/
def PreX (T : TC) : PreT := fun As Ω R => ∃ (x0 : Bg) (A : VA), As = [va T x0, A] ∧ (∀ F H v, Holds F Ω H → A.P F v → IsO H v) ∧ R = RV (va T false) (stt Ω [] [])
section
variable {T : TC} {Γ : List (Option VA)} {Ω Ω0 Ω1 Ω2 : List OA} {A B : VA} {ta tb te : TE} {x : Bg} {b c : Bool}
def rIsB : R2 := fun x y H Q => ∃ a b, x = .bl a ∧ y = .bl b ∧ Q (.bl (decide (a = b))) H
end
end VL

set_option Elab.async false
set_option linter.all false
set_option maxRecDepth 100000
/-! VL18: a name that holds one of several defs; and/or whose second part changes things. -/
namespace VL
open PySem L2
/-- one of several defs, by its number -/
structure FT where
  i : Nat
instance : Rp FT := ⟨fun T _ v a => v = .ref (T.C (200 + a.i)), fun _ h => h⟩
structure HeldF (P : Program) (w : World) (K : PySem.W.Frag) (mg : Str → Option Value) (base : Heap) (k : Nat) (f : Addr) (sp : Sp) : Prop where
  ex : ∃ (fd : FuncData) (ps : List Str), FnOk P w K mg base CX0 k f fd ps sp ∧ PySem.W.keepIn K (.ref f) = true ∧ Binds K fd ps []
structure HeldFK (P : Program) (w : World) (K : PySem.W.Frag) (mg : Str → Option Value) (base : Heap) (k : Nat) (f : Addr) (n : Nat) (ks : List Str) (ix : List Nat) (sp : Sp) : Prop where
  ex : ∃ (fd : FuncData) (ps : List Str), FnOk P w K mg base CX0 k f fd ps sp ∧ PySem.W.keepIn K (.ref f) = true ∧ KBn K fd ps n ks (fun us ws => prm ix (us ++ ws)) (fun vs zs => prm ix (vs ++ zs))
def tCallFn (i : Nat) (S : Addr → Sp → Prop) (t : TA) : TE := fun σ H Q => ∃ f sp, σ[i]? = some (some (.ref f)) ∧ S f sp ∧ t σ H fun vs H1 => sp (vs ++ []) H1 Q E0
def tCallFnN (i : Nat) (S : Addr → Sp → Prop) (n m : Nat) (g : List V → List V → List V) (t tk : TA) : TE := fun σ H Q => ∃ f sp, σ[i]? = some (some (.ref f)) ∧ S f sp ∧ tCallN n m sp g E0 t tk σ H Q
section
variable {X : Cx} {k i n : Nat} {S : Addr → Sp → Prop} {x : Str} {ks : List Str} {ix : List Nat} {p pos : Pos} {e : Expr} {es : List Expr} {kws : List Keyword} {t tk : TA}
end
section
variable {T : TC} {Γ : List (Option VA)} {Ω Ω1 Ω2 Ω3 : List OA} {A : VA} {As Ks : List VA} {a : FT} {i : Nat} {S : Addr → Sp → Prop}
end
end VL

set_option Elab.async false
set_option linter.all false
set_option maxRecDepth 100000
set_option maxHeartbeats 2000000
/-! VL19: a lambda without parameters handed to a def that calls it: what it makes of the caller's machine. -/
namespace VL
open PySem PySem.Spec PyProof.Rows L2 LamX
/-- the table at P in t: its code objects stand in F -/
def TabF (F t : Hp) (P : Addr) (q : Str) : Prop := ∃ ps : Array Value, t P = some (.tbl ps) ∧ TriplesOk ps.toList ∧ ∀ (pos : Pos) (cv : Value), codeAmong pos ps.toList = some cv → ∃ c, cv = .ref c ∧ F c = some (CodeO c q)
theorem TabF.mono {F F' t : Hp} {P : Addr} {q : Str} (e : Same F F') : TabF F t P q → TabF F' t P q := fun ⟨ps, h1, h2, h3⟩ => ⟨ps, h1, h2, fun pos cv h => let ⟨c, a, b⟩ := h3 pos cv h; ⟨c, a, e _ _ b⟩⟩
/-- all the tables of a law -/
def tabA (l : List (Addr × Str)) : OA := ⟨fun F t => ∀ p ∈ l, TabF F t p.1 p.2, fun e h p hp => (h p hp).mono e⟩
/-- the table's part of the heap behind a lambda's making: H as it was, or a new code object at c' -/
def Grown (H : Hp) (P : Addr) (q : Str) (H1 : Hp) (c' : Addr) : Prop :=
  (H1 = H ∧ ∃ (ps : Array Value) (pos : Pos), H P = some (.tbl ps) ∧ codeAmong pos ps.toList = some (.ref c')) ∨
  ∃ (ps more : Array Value), H P = some (.tbl ps) ∧ H c' = none ∧ H1 = upd (upd H P (.tbl (ps ++ more))) c' (CodeO c' q) ∧ (TriplesOk ps.toList → TriplesOk (ps ++ more).toList) ∧
    ∀ (pos : Pos) (cv : Value), TriplesOk ps.toList → codeAmong pos (ps ++ more).toList = some cv → codeAmong pos ps.toList = some cv ∨ cv = .ref c'
section
variable {X : Cx} {pins : List (Addr × Obj)} {σ : L2.St} {H : Hp} {s : Shared}
end
/-! ### a def that is handed a lambda -/
/-- what its name makes: act -/
def tAct (i : Nat) (f c' : Addr) (q : Str) (act : Hp → VK → Prop) : TE := fun σ H Q => σ[i]? = some (some (.ref f)) ∧ H c' = some (CodeO c' q) ∧ act H Q
/-- in each def's context that is entered at s: a call of the name that holds the lambda -/
def ActH (P : Program) (w : World) (K : PySem.W.Frag) (mg : Str → Option Value) (base : Heap) (k : Nat) (A : Around) (outer : List PySem.Env) (s : Shared) (H : Hp) (f c' : Addr) (q : Str) (act : Hp → VK → Prop) : Prop :=
  ∀ (Ng : List Str) (qg : Str) (sg : Scope) (g : Addr) (cdg : Value) (i : Nat) (a : Str) (p1 p2 : Pos), Room (k + 1) (A.deeper (envOfC qg sg s.heap.objs.size g cdg)) → Ng[i]? = some a → Vis sg a → (a == ("__debug__" : Str)) = false → (a == ("__classdict__" : Str)) = false →
    PE (cxOf CX0 P w K mg base Ng qg sg g cdg A outer s H E0).nox (.Call (.Name a p1) [] [] p2) (tAct i f c' q act)
abbrev PreLT := Addr → Addr → Str → (Hp → VK → Prop) → PreT
/-- that def: k, its depth; kl, that of the lambda's body -/
structure CalL (P : Program) (w : World) (K : PySem.W.Frag) (mg : Str → Option Value) (base : Heap) (kl k : Nat) (x : Str) (ps : List Str) (Pre : PreLT) : Prop where
  ex : ∃ g fd, mg x = some (.ref g) ∧ PySem.W.keepIn K (.ref g) = true ∧ Binds K fd ps [] ∧ (∀ f c' q act As Ω R, Pre f c' q act As Ω R → As.length = ps.length) ∧
    ∀ (A : Around) (outer : List PySem.Env) (s : Shared) (H : Hp) (us : List Value) (vs : List V) (Q : VK) (f c' : Addr) (q : Str) (act : Hp → VK → Prop), Room k A → Env0 P w K mg base A outer s H → BindsTo s fd ⟨us, []⟩ (ps.zip us) → Vals vs us →
      ActH P w K mg base kl A outer s H f c' q act → mkSp (Pre f c' q act) vs H Q E0 → codeAny (model P w) A (.call (.ref g) ⟨us, []⟩) (CR CX0 outer P w H s Q E0) s
section
variable {P : Program} {w : World} {K : PySem.W.Frag} {mg : Str → Option Value} {base : Heap}
end
/-! ### x(e, lambda: body) -/
def tLam (P : Addr) (q : Str) (Pre : PreLT) (ta tb : TE) : TE := fun σ H Q => ta σ H fun v H0 => (∃ ps : Array Value, H0 P = some (.tbl ps) ∧ TriplesOk ps.toList ∧ ∀ (pos : Pos) (cv : Value), codeAmong pos ps.toList = some cv → ∃ c, cv = .ref c ∧ H0 c = some (CodeO c q)) ∧
  ∀ f c' H1, Grown H0 P q H1 c' → mkSp (Pre f c' q fun H' Q' => tb σ H' Q') [v, .ref f] H1 Q E0
section
variable {X : Cx}
end
/-! ### what it makes of a machine -/
/-- the name's value: the lambda f, which takes the machine at k0 from m to r.2 and tells r.1 -/
def askA (T : TC) {α : Type} [Rp α] (f c' : Addr) (q : Str) (act : Hp → VK → Prop) (Ω : List OA) (k0 : Nat) (p0 : Addr) (M : MS → Option (α × MS)) : VA :=
  ⟨fun F v => v = .ref f ∧ F c' = some (CodeO c' q) ∧ ∀ m r, M m = some r → ∀ F1 H1, Same F F1 → Holds F1 (stt Ω [(k0, machA T p0 m)] []) H1 → ∀ Q : VK, (∀ F2 v H2, Same F1 F2 → Holds F2 (stt Ω [(k0, machA T p0 r.2)] []) H2 → (va T r.1).P F2 v → Q v H2) → act H1 Q,
   fun e ⟨h1, h2, h3⟩ => ⟨h1, e _ _ h2, fun m r hm F1 H1 e1 => h3 m r hm F1 H1 (e.trans e1)⟩⟩
section
variable {T : TC} {Γ : List (Option VA)} {Ω Ω1 : List OA} {α : Type} [Rp α]
end
section
variable {T : TC} {Γ : List (Option VA)} {Ω Ω1 Ω2 : List OA} {α : Type} [Rp α]
end
/-! ### a def whose code object is known -/
def CodeIs (K : PySem.W.Frag) (g c : Addr) : Prop := ∀ (oc : Value) (od : Option Addr) (x qual : Str) (ar : Arguments) (body : List Stmt) (sc : Scope) (dV kV doc pm : Value) (an : Option Addr) (cdv ct : Value) (osl : Array (Option Value)),
  K.lookup g = some ⟨oc, od, .func (PySem.W.fnOf x qual ar body sc dV kV doc pm an cdv ct), osl⟩ → PySem.W.codeIn K cdv qual = true → cdv = .ref c
section
variable {P : Program} {w : World} {K : PySem.W.Frag} {mg : Str → Option Value} {base : Heap}
end
end VL

set_option Elab.async false
set_option linter.all false
set_option maxRecDepth 100000
/-! VL20: the script with a list behind it; divmod; tests whose parts change things. -/
namespace VL
open PySem PySem.Spec PyProof.Rows L2
def rCatS (K : PySem.W.Frag) : R2 := fun x y H Q => ∃ l b xs zs, x = .ref l ∧ y = .ref b ∧ SqL K H l xs ∧ H b = some (.lst zs) ∧ xs.length + zs.length ≤ sizeLine ∧ ∀ p, H p = none → Q (.ref p) (upd H p (.lst (xs ++ zs)))
theorem op_catS {X : Cx} : OpR X (binaryOp .Add) (rCatS X.K) := by
  intro pins s σ H x y v u Q I rx ry h
  obtain ⟨l, b, xs, zs, rfl, rfl, hH, hB, hz, q⟩ := h
  obtain rfl : v = Value.ref l := rx
  obtain rfl : u = Value.ref b := ry
  obtain ⟨its, r, ⟨⟨cls, dd, data, sl⟩, n, ho, hc, hdn, hd⟩, hlen⟩ := I.list hH
  have hc1 : cls = Value.type "list" := hc
  have hd1 : data = Data.seq its.toArray n := hd
  subst hc1 hd1
  have hl := r.length
  obtain ⟨z2, its2, n2, r2, hl2, e2⟩ := I.lstM hB
  have hsz : its.toArray.size + its2.toArray.size ≤ sizeLine := by rw [List.size_toArray, List.size_toArray]; omega
  refine concat_meets ⟨_, ho, rfl⟩ ⟨_, e2, rfl⟩ noFill_list_add seq_list_add PySem.F.slot_list_add PySem.F.entry_list_add (PySem.F.args_list_add_2 _ _) (list_addW l b its.toArray its2.toArray n n2 dd none sl #[] hsz) ⟨ho, e2, ?_⟩
  have ea : its.toArray ++ its2.toArray = (its ++ its2).toArray := by simp
  rw [ea]
  exact ⟨.ref _, _, I.lnew (t' := s.toks) (r.append r2) (by rw [List.length_append]; omega), rfl, q _ I.fresh⟩
theorem op_catSK {X : Cx} {K : PySem.W.Frag} (h : X.K = K) : OpR X (binaryOp .Add) (rCatS K) := h ▸ op_catS
/-- divmod by what is not 0 -/
def CDivF (_ j : Int) : Prop := j ≠ 0 ∧ j.natAbs.log2 < 9000
def rDivmod : List V → Hp → VK → Prop := fun xs H Q => ∃ i j, xs = [.int i, .int j] ∧ CDivF i j ∧ ∀ p, H p = none → Q (.ref p) (upd H p (.tup [.int (i.fdiv j), .int (i.fmod j)]))
theorem cr_divmodF {X : Cx} : CallR X (.builtin "divmod") rDivmod := by
  intro pins s σ H xs us Q I r h
  obtain ⟨i, j, rfl, ⟨h1, h2⟩, q⟩ := h
  obtain ⟨u, w', rfl, ⟨t, rfl⟩, ⟨t', rfl⟩⟩ := vals2 r
  refine divmod_int h1 ?_ (.inl (PyProof.noPylong_of_log2 h2))
  have hn : H s.heap.objs.size = none := I.hok.fresh (Nat.le_refl _)
  refine ⟨.ref s.heap.objs.size, upd H s.heap.objs.size (.tup [.int (i.fdiv j), .int (i.fmod j)]), I.laid (fun b o e => Heap.get?_push_of_some _ e) (Nat.le_refl _) ⟨by simp only [List.length_cons, List.length_nil]; rw [sizeLine_eq]; decide, [.int (i.fdiv j) s.toks, .int (i.fmod j) (s.toks + 1)], .cons ⟨_, rfl⟩ (.cons ⟨_, rfl⟩ .nil), ⟨_, Heap.get?_push_size s.heap rfl, rfl, 0, rfl⟩⟩, rfl, q _ hn⟩
section
variable {T : TC} {ts : TA} {Γ : List (Option VA)} {Ω Ω1 Ω2 : List OA} {A : VA} {ta tb : TE} {t u : TT} {i j : Int} {b : Bool}
theorem xe_catS {α : Type} [Rp α] {l m : List α} (ha : XE ta Γ Ω (va T (SF.mk l)) Ω1) (hb : XE tb Γ Ω1 A Ω2) (h : IsLs T Ω2 A m) (hz : l.length + m.length ≤ sizeLine) : XE (tOp (rCatS T.K) ta tb) Γ Ω (va T (LF.mk (l ++ m))) Ω2 := xe_op ha hb fun F H x y hh a1 a2 Q q => by
  obtain ⟨p, vs, rfl, h1, h2⟩ := a1
  obtain ⟨p2, vs2, rfl, h3, h4⟩ := h F H y hh a2
  refine ⟨p, p2, vs, vs2, rfl, rfl, hh.same.seq h1, h3, by rw [al_len h2, al_len h4]; exact hz, fun r hr => ?_⟩
  obtain ⟨hh', s'⟩ := hh.newF (u := .lst (vs ++ vs2)) hr
  exact q _ _ _ s' hh' ⟨r, vs ++ vs2, rfl, upd_same, al_app (h2.mono s') (h4.mono s')⟩
theorem xe_divmod (ha : XA ts Γ Ω [va T i, va T j] Ω1) (hd : CDivF i j) : XE (tCB rDivmod ts) Γ Ω (va T ((i.fdiv j, i.fmod j) : Int × Int)) Ω1 := xe_cb ha fun F H vs hh a1 Q q => by
  cases a1 with
  | cons h1 t1 =>
  cases t1 with
  | cons h2 t2 =>
  cases t2
  have h1 : _ = V.int i := h1
  have h2 : _ = V.int j := h2
  subst h1 h2
  refine ⟨i, j, rfl, hd, fun p hp => ?_⟩
  obtain ⟨hh', s'⟩ := hh.newF (u := .tup [.int (i.fdiv j), .int (i.fmod j)]) hp
  exact q _ _ _ s' hh' ⟨p, .int (i.fdiv j), .int (i.fmod j), rfl, .inl (.inl upd_same), rfl, rfl⟩
end
end VL

set_option Elab.async false
set_option linter.all false
set_option maxRecDepth 100000
/-! VL21: == and != of tuples whose items are numbers by their own __eq__, frozen dicts and data. -/
namespace VNe
open PySem PySem.SeqAt
end VNe
namespace VL
open PySem L2 PyProof.Rows
/-- pair by pair: equal dicts, equal data, or the own __eq__ says yes -/
def WT (K : PySem.W.Frag) (C : Addr) (sp : Sp) : List (V × V) → Hp → (Hp → Prop) → Prop
  | [], H, Q => Q H
  | z :: r, H, Q => (FD H z.1 z.2 ∧ WT K C sp r H Q) ∨ (FS K H z.1 z.2 ∧ WT K C sp r H Q) ∨
    ∃ p q dx dy fs gs, z.1 = .ref p ∧ z.2 = .ref q ∧ H p = some (.ins C dx fs) ∧ H q = some (.ins C dy gs) ∧ (p = q → WT K C sp r H Q) ∧ (p ≠ q → sp [z.1, z.2] H (fun v H' => v = .bl true ∧ WT K C sp r H' Q) E0)
def rOwnT (K : PySem.W.Frag) (C : Addr) (sp : Sp) (b : Bool) : R2 := fun x y H Q => ∃ a c xs ys, x = .ref a ∧ y = .ref c ∧ SqT K H a xs ∧ SqT K H c ys ∧ xs.length = ys.length ∧ WT K C sp (xs.zip ys) H (fun H' => Q (.bl b) H')
section
variable {X : Cx} {n : Nat} {C f : Addr} {fd : FuncData} {ps : List Str} {sp : Sp}
/-- what the walk keeps -/
def TI (X : Cx) (pins : List (Addr × Obj)) (σ : L2.St) (C : Addr) (sp : Sp) (Q : Hp → Prop) (zs : List (Value × Value)) (s : Shared) : Prop :=
  ∃ H, Inv X pins σ H s ∧ ∃ us : List (V × V), us.length = zs.length ∧ (∀ i (h : i < us.length) (h2 : i < zs.length), RelV us[i].1 zs[i].1 ∧ RelV us[i].2 zs[i].2) ∧ WT X.K C sp us H Q
end
section
variable {T : TC} {Γ : List (Option VA)} {Ω Ω1 Ω2 : List OA} {ta tb : TE} {Pre : PreT}
/-- two items that compare alike -/
def ItE (T : TC) (Ω : List OA) (sp : Sp) (A B : VA) : Prop := ∀ F H x y r k, Holds F Ω H → A.P F x → B.P F y → (∀ F' H', Same F F' → Holds F' Ω H' → WT T.K (T.C 1) sp r H' k) → WT T.K (T.C 1) sp ((x, y) :: r) H k
end
end VL

set_option Elab.async false
set_option linter.all false
set_option maxRecDepth 100000
/-! VL22: a dict that changes: made, written, read, locked where it is read as a value. -/
namespace VL
open PySem L2 PyProof.Rows
/-- a dict that is locked from now on, at its old place -/
def fzDA (p : Addr) (l : List (Str × Int)) : OA := ⟨fun F _ => ∃ od, F p = some (.frz od (.dK (dkv l))), fun e ⟨od, h⟩ => ⟨od, e _ _ h⟩⟩
theorem Holds.fzAt {F H : Hp} {Ω : List OA} {k : Nat} {p : Addr} {l : List (Str × Int)} {od : Obj} (h : Holds F Ω H) (hk : Ω[k]? = some (rawD p (dkv l))) :
    Holds (upd F p (.frz od (.dK (dkv l)))) (Ω.set k (fzDA p l)) (upd H p (.frz od (.dK (dkv l)))) ∧ Same F (upd F p (.frz od (.dK (dkv l)))) := by
  obtain ⟨ts, h1, h2, h3, h4, h5⟩ := h
  have lt := getlt hk
  have tp : ts k p = some (.dK (dkv l)) := h1 k (rawD p (dkv l)) hk
  have nF : F p = none := h4 k p _ lt tp
  have sF : Same F (upd F p (.frz od (.dK (dkv l)))) := same_upd nF
  have nt : ∀ i, i < Ω.length → i ≠ k → ts i p = none := fun i q ne => h5 k i p _ lt q (fun e => ne e.symm) tp
  refine ⟨⟨fun i => if i = k then (fun _ => none) else ts i, fun i o r => ?_, fun b x e => ?_, fun i li b x e => ?_, fun i b x li e => ?_, fun i j b x li lj ne e => ?_⟩, sF⟩
  · show o.P _ (if i = k then _ else ts i)
    by_cases hi : i = k
    · subst hi
      rw [List.getElem?_set_self lt] at r
      cases r
      exact ⟨od, upd_same⟩
    · rw [if_neg hi]
      rw [List.getElem?_set_ne (fun z => hi z.symm)] at r
      exact o.mono sF (h1 i o r)
  · by_cases hb : b = p
    · subst hb; rw [upd_same] at e ⊢; exact e
    · rw [upd_ne hb] at e ⊢; exact h2 b x e
  · rw [List.length_set] at li
    have e : (if i = k then (fun _ => none) else ts i) b = some x := e
    by_cases hi : i = k
    · rw [if_pos hi] at e; cases e
    · rw [if_neg hi] at e
      by_cases hb : b = p
      · subst hb; rw [nt i li hi] at e; cases e
      · rw [upd_ne hb]; exact h3 i li b x e
  · rw [List.length_set] at li
    have e : (if i = k then (fun _ => none) else ts i) b = some x := e
    by_cases hi : i = k
    · rw [if_pos hi] at e; cases e
    · rw [if_neg hi] at e
      by_cases hb : b = p
      · subst hb; rw [nt i li hi] at e; cases e
      · rw [upd_ne hb]; exact h4 i b x li e
  · rw [List.length_set] at li lj
    have e : (if i = k then (fun _ => none) else ts i) b = some x := e
    show (if j = k then (fun _ => none) else ts j) b = none
    by_cases hi : i = k
    · rw [if_pos hi] at e; cases e
    · rw [if_neg hi] at e
      by_cases hj : j = k
      · rw [if_pos hj]
      · rw [if_neg hj]; exact h5 i j b x li lj ne e
/-- written in its place, or at the end -/
def dput (l : List (Str × Int)) (k : Str) (v : Int) : List (Str × Int) := if (l.any fun p => decide (p.1 = k)) = true then l.map (fun p => if p.1 = k then (p.1, v) else p) else l ++ [(k, v)]
theorem dput_kv (l : List (Str × Int)) (k : Str) (v : Int) : putK (dkv l) (Sum.inr k : Key) (V.int v) = dkv (dput l k v) := by
  have e : ((dkv l).any fun kv => decide (kv.1 = (Sum.inr k : Key))) = (l.any fun p => decide (p.1 = k)) := by
    unfold dkv
    rw [List.any_map]
    congr 1
    funext p
    exact decide_eq_decide.mpr ⟨fun h => Sum.inr.inj h, fun h => congrArg Sum.inr h⟩
  unfold putK dput
  rw [e]
  split
  · unfold dkv
    rw [List.map_map, List.map_map]
    congr 1
    funext p
    show (if (Sum.inr p.1 : Key) = Sum.inr k then ((Sum.inr p.1 : Key), V.int v) else (Sum.inr p.1, V.int p.2)) = _
    by_cases h : p.1 = k
    · rw [if_pos (congrArg Sum.inr h)]
      show _ = (fun q : Str × Int => ((Sum.inr q.1 : Key), V.int q.2)) (if p.1 = k then (p.1, v) else p)
      rw [if_pos h]
    · rw [if_neg (fun z => h (Sum.inr.inj z))]
      show _ = (fun q : Str × Int => ((Sum.inr q.1 : Key), V.int q.2)) (if p.1 = k then (p.1, v) else p)
      rw [if_neg h]
  · unfold dkv
    rw [List.map_append]; rfl
section
variable {T : TC} {Γ : List (Option VA)} {Ω Ω1 Ω2 Ω3 : List OA} {A B C : VA} {ta tb te : TE} {D : Ends} {F0 : Hp} {ts : TS}
/-! made -/
theorem xn_disp {trs : List (TE × TE)} {kvs : List (Str × Int)} {ks : List (Nat × OA)} {L : List OA} (h : ∀ X, XPs trs Γ (stt Ω ks (L ++ [X])) kvs) (hn : (kvs.map (·.1)).Nodup) (h15 : kvs.length ≤ 15) : XG (tDisp trs) Γ (stt Ω ks L) (RN (stt Ω ks L) fun p => rawD p (dkv kvs)) := fun F σ H e hh Q q => by
  intro p hp
  have hh1 := hh.newD (kvs := []) hp
  rw [stt_app] at hh1
  refine h (rawD p []) F σ _ e hh1 _ fun F2 H2 e2 hh2 => ?_
  rw [← stt_app] at hh2
  refine ⟨(hh2.fzD (u := .dK [])).1, dkv kvs, by unfold dkv; rw [List.map_map]; rfl, by unfold dkv; rw [List.length_map]; exact h15, ?_⟩
  rw [merge0 hn]
  obtain ⟨t, h1, h3, h4, h5⟩ := hh2.get app_at
  have h1 : t p = some (.dK []) := h1
  have := h5 (rawD p (dkv kvs)) p (.dK []) (.dK (dkv kvs)) h1 upd_same
  rw [show (stt Ω ks L ++ [rawD p []]).set (stt Ω ks L).length (rawD p (dkv kvs)) = stt Ω ks L ++ [rawD p (dkv kvs)] from by simp] at this
  exact q F2 _ _ _ e2 this ⟨p, rfl, rfl⟩
/-! read -/
theorem xe_dgetO {l : List (Str × Int)} {key : Str} {v : Int} {p : Addr} {k : Nat} (ha : XE ta Γ Ω (vr p) Ω1) (hb : XE tb Γ Ω1 (va T key) Ω2) (hk : Ω2[k]? = some (rawD p (dkv l))) (h : l.lookup key = some v) : XE (tDGet ta tb) Γ Ω (va T v) Ω2 := fun F σ H e hh Q q => by
  refine ha F σ H e hh _ fun F1 x H1 Ω' e1 hh1 ⟨a1, o1⟩ => ?_
  subst o1
  refine hb F1 σ H1 (e.mono e1) hh1 _ fun F2 y H2 Ω' e2 hh2 ⟨a2, o2⟩ => ?_
  subst o2
  have a1 : x = V.ref p := a1
  have a2 : y = V.str key := a2
  subst a1 a2
  obtain ⟨t, h1, h3, _⟩ := hh2.get hk
  have h1 : t p = some (.dK (dkv l)) := h1
  exact ⟨p, V.int v, rfl, .inl ⟨dkv l, Sum.inr key, .inl (h3 _ _ h1), rfl, (val_dkv h).symm⟩, q F2 _ H2 _ (e1.trans e2) hh2 ⟨rfl, rfl⟩⟩
/-- read as a value: locked for good -/
theorem xe_fzV {i k : Nat} {p : Addr} {l : List (Str × Int)} (hi : Γ[i]? = some (some (vr p))) (hk : Ω[k]? = some (rawD p (dkv l))) (he : Ω.set k (fzDA p l) = Ω2) : XE (tFz (tVar i)) Γ Ω (va T (DF.mk l)) Ω2 := fun F σ H e hh Q q => by
  subst he
  obtain ⟨v, h1, h2⟩ := e.2 i _ hi
  have h2 : v = V.ref p := h2
  subst h2
  obtain ⟨t, h3, h4, _⟩ := hh.get hk
  have h3 : t p = some (.dK (dkv l)) := h3
  refine ⟨_, h1, p, dkv l, rfl, h4 _ _ h3, fun od => ?_⟩
  obtain ⟨hh', s'⟩ := hh.fzAt (od := od) hk
  exact q _ _ _ _ s' hh' ⟨⟨p, od, rfl, upd_same⟩, rfl⟩
/-! written -/
/-- a target that writes a thing -/
def Tgo (g : TG) (A : VA) (Γ : List (Option VA)) (Ω Ω2 : List OA) : Prop := ∀ F σ v H, Env F σ Γ → Holds F Ω H → A.P F v → ∀ Q : L2.St → Hp → Prop, (∀ F' H', Same F F' → Holds F' Ω2 H' → Q σ H') → g v σ H Q
theorem tgo_dict {to ti : TE} {p : Addr} {l : List (Str × Int)} {key : Str} {v : Int} {k : Nat} (ho : XE to Γ Ω (vr p) Ω) (hi : XE ti Γ Ω (va T key) Ω) (hk : Ω[k]? = some (rawD p (dkv l))) (hz : l.length < sizeLine) (he : Ω.set k (rawD p (dkv (dput l key v))) = Ω2) : Tgo (gSub to ti rSetD) (va T v) Γ Ω Ω2 := fun F σ x H e hh a Q q => by
  subst he
  refine ho F σ H e hh _ fun F1 y H1 Ω' e1 hh1 ⟨a1, o1⟩ => ?_
  subst o1
  refine hi F1 σ H1 (e.mono e1) hh1 _ fun F2 z H2 Ω' e2 hh2 ⟨a2, o2⟩ => ?_
  subst o2
  have a1 : y = V.ref p := a1
  have a2 : z = V.str key := a2
  have a : x = V.int v := a
  subst a1 a2 a
  obtain ⟨t, h1, h3, _, h5⟩ := hh2.get hk
  have h1 : t p = some (.dK (dkv l)) := h1
  have := h5 (rawD p (dkv (dput l key v))) p (.dK (dkv l)) (.dK (dkv (dput l key v))) h1 upd_same
  refine ⟨p, upd H2 p (.dK (putK (dkv l) (Sum.inr key : Key) (V.int v))), rfl, DPut.k (k := (Sum.inr key : Key)) (h3 _ _ h1) (by unfold dkv; rw [List.length_map]; exact hz), ?_⟩
  rw [dput_kv]
  exact q F2 _ (e1.trans e2) this
theorem tgo_two {α β : Type} [Rp α] [Rp β] {a : α} {b : β} {g1 g2 : TG} (h1 : Tgo g1 (va T a) Γ Ω Ω1) (h2 : Tgo g2 (va T b) Γ Ω1 Ω2) : Tgo (gTup T.K 2 (gCons g1 (gCons g2 gNil))) (va T ((a, b) : α × β)) Γ Ω Ω2 := fun F σ v H e hh c Q q => by
  obtain ⟨p, x, y, rfl, ht, r1, r2⟩ := c
  refine ⟨p, [x, y], rfl, Same.tup hh.same ht, rfl, x, [y], rfl, ?_⟩
  refine h1 F σ x H e hh r1 _ fun F1 H1 e1 hh1 => ?_
  refine ⟨y, [], rfl, ?_⟩
  refine h2 F1 σ y H1 (e.mono e1) hh1 (Rp.mono e1 r2) _ fun F2 H2 e2 hh2 => ?_
  exact ⟨rfl, q F2 H2 (e1.trans e2) hh2⟩
theorem xs_asgO {g : TG} (h : XE te Γ Ω A Ω1) (ht : Tgo g A Γ Ω1 Ω2) (q : XS ts D F0 Γ Ω2) : XS (tSeq (tAsg te g) ts) D F0 Γ Ω := fun σ H ⟨F, f0, en, hh⟩ => by
  refine h F σ H en hh _ fun F1 v H1 Ω' e1 hh1 ⟨a1, o1⟩ => ?_
  subst o1
  exact ht F1 σ v H1 (en.mono e1) hh1 a1 _ fun F2 H2 e2 hh2 => q σ H2 ⟨F2, f0.trans (e1.trans e2), (en.mono e1).mono e2, hh2⟩
theorem xs_asgO1 {g : TG} (h : XE te Γ Ω A Ω1) (ht : Tgo g A Γ Ω1 Ω2) (q : ∀ σ H, NX F0 Γ Ω2 σ H → D.nx σ H) : XS (tAsg te g) D F0 Γ Ω := fun σ H n => xs_asgO (ts := tNext) h ht q σ H n
end
/-! != of two dicts, where they are known to be alike -/
def rNeF : R2 := fun x y H Q => ∃ a b oa ob ks ls, x = .ref a ∧ y = .ref b ∧ H a = some (.frz oa (.dK ks)) ∧ H b = some (.frz ob (.dK ls)) ∧ ks.length = ls.length ∧ (∀ p ∈ ks, valV ls p.1 = some p.2 ∧ flatB p.2 = true) ∧ Q (.bl false) H
theorem op_neF {X : Cx} (units : X.A.units < cLine) : OpR X (compareOp .NotEq) rNeF := by
  intro pins s σ H x y v u Q inv r1 r2 h
  obtain ⟨a, b, oa, ob, ks, ls, rfl, rfl, ha, hb, len, vals, q⟩ := h
  obtain rfl : v = Value.ref a := r1
  obtain rfl : u = Value.ref b := r2
  have okA : ObjOk X.prog X.w H s.heap a (.dK ks) := (show s.heap.get? a = some oa ∧ ObjOk X.prog X.w H s.heap a (.dK ks) from inv.hok a _ ha).2
  have okB : ObjOk X.prog X.w H s.heap b (.dK ls) := (show s.heap.get? b = some ob ∧ ObjOk X.prog X.w H s.heap b (.dK ls) from inv.hok b _ hb).2
  obtain ⟨_, n1, w1, k1, d1⟩ := okA
  obtain ⟨_, n2, w2, k2, d2⟩ := okB
  have same : w1.length = w2.length := by rw [← k1.length, ← k2.length]; exact len
  exact PySem.W.keq_ne (r := true) (knd := mixKind X.prog X.w) n1 n2 d1 d2 units (fun _ => hits_all k2 k1 vals) (fin_bl inv q (by simp [same]))
theorem xe_neDF {T : TC} {Γ : List (Option VA)} {Ω Ω1 Ω2 : List OA} {ta tb : TE} {l m : List (Str × Int)} (ha : XE ta Γ Ω (va T (DF.mk l)) Ω1) (hb : XE tb Γ Ω1 (va T (DF.mk m)) Ω2) (h : sameD l m) : XE (tOp rNeF ta tb) Γ Ω (va T false) Ω2 := xe_op ha hb fun F H x y hh a1 a2 Q q => by
  obtain ⟨p, o1, rfl, h1⟩ := a1
  obtain ⟨p2, o2, rfl, h2⟩ := a2
  refine ⟨p, p2, o1, o2, dkv l, dkv m, rfl, rfl, hh.same _ _ h1, hh.same _ _ h2, by unfold dkv; rw [List.length_map, List.length_map]; exact h.1, fun z hz => ?_, q F _ H (Same.refl F) hh rfl⟩
  obtain ⟨x, hx, rfl⟩ := List.mem_map.mp hz
  exact ⟨val_dkv (h.2 x hx), rfl⟩
end VL

set_option Elab.async false
set_option linter.all false
set_option maxRecDepth 100000
/-! VL23: range downwards, one by one; isinstance and len of pairs. -/
namespace VL
open PySem L2 PyProof.Rows
section
variable {T : TC} {Γ : List (Option VA)} {Ω Ω1 Ω2 : List OA} {A B C : VA} {ta tb te : TE}
/-- i, i - 1, .. (n of them) -/
def rngD (i : Int) (n : Nat) : List Int := (List.range n).map fun (k : Nat) => i + (k : Int) * (-1)
theorem wk_rangeD {n : Nat} {lo : Int} : Wk (Itc lo (-1) n) (fun _ => True) (rngD lo n) (fun a => va T a) where
  mono := fun _ _ _ _ => trivial
  go := fun i F Ω H _ _ hi => by
    have hi : i < n := by simpa [rngD] using hi
    exact hi
  stop := fun F Ω H _ _ => by show n ≤ _; simp [rngD]
  yld := fun i a F Ω H x H' _ hh hx y => by
    obtain ⟨e, y⟩ := y
    subst e y
    refine ⟨F, Same.refl F, hh, ?_⟩
    show V.int _ = V.int a
    unfold rngD at hx
    rw [List.getElem?_map] at hx
    cases hr : (List.range n)[i]? with
    | none => rw [hr] at hx; cases hx
    | some k =>
      rw [hr] at hx
      have hk : i = k := by
        obtain ⟨h1, h2⟩ := List.getElem?_eq_some_iff.mp hr
        rw [List.getElem_range] at h2
        exact h2
      subst hk
      cases hx
      rfl
theorem xi_range3 {i j : Int} {ta : TA} (ha : XA ta Γ Ω [va T i, va T j, va T (-1 : Int)] Ω1) (h1 : -(2 ^ 62) ≤ i ∧ i < 2 ^ 62 ∧ -(2 ^ 62) ≤ j ∧ j < 2 ^ 62) : XI (iRng3 ta) Γ Ω (rngD i (i - j).toNat) (fun a => va T a) Ω1 := fun F σ H e hh R r => by
  refine ha F σ H e hh _ fun F1 vs H1 e1 hh1 a1 => ?_
  cases a1 with
  | cons a1 t =>
    obtain ⟨v, w, rfl, a2, a3⟩ := alA2 t
    have a1 : _ = V.int i := a1
    have a2 : v = .int j := a2
    have a3 : w = .int (-1) := a3
    subst a1 a2 a3
    exact ⟨i, j, -1, (i - j).toNat, rfl, RgC.neg h1.1 h1.2.1 h1.2.2.1 h1.2.2.2, r F1 _ H1 _ e1 hh1 wk_rangeD trivial⟩
end
end VL

set_option Elab.async false
set_option linter.all false
set_option maxRecDepth 100000
/-! VL24: a pair of a dict and a list that both change: made, handed on, its parts; get of a dict that changes. -/
namespace VL
open PySem L2 PyProof.Rows
section
variable {T : TC} {Γ : List (Option VA)} {Ω Ω1 Ω2 Ω3 : List OA} {A B C : VA} {ta tb tc te : TE} {D : Ends} {F0 : Hp} {ts : TS}
theorem xe_dget2O {l : List (Str × Int)} {key : Str} {d : Int} {p : Addr} {k : Nat} (ha : XE ta Γ Ω (vr p) Ω1) (hb : XE tb Γ Ω1 (va T key) Ω2) (hc : XE tc Γ Ω2 (va T d) Ω3) (h1 : Ω1[k]? = some (rawD p (dkv l))) (hk : Ω3[k]? = some (rawD p (dkv l))) : XE (tDGet2 ta tb tc) Γ Ω (va T ((l.lookup key).getD d)) Ω3 := fun F σ H e hh Q q => by
  refine ha F σ H e hh _ fun F1 x H1 Ω' e1 hh1 ⟨a1, o1⟩ => ?_
  subst o1
  have a1 : x = V.ref p := a1
  subst a1
  obtain ⟨t1, g1, g3, _⟩ := hh1.get h1
  have g1 : t1 p = some (.dK (dkv l)) := g1
  refine ⟨p, rfl, .inl ⟨dkv l, .inl (g3 _ _ g1)⟩, ?_⟩
  refine hb F1 σ H1 (e.mono e1) hh1 _ fun F2 y H2 Ω' e2 hh2 ⟨a2, o2⟩ => ?_
  subst o2
  refine hc F2 σ H2 (e.mono (e1.trans e2)) hh2 _ fun F3 z H3 Ω' e3 hh3 ⟨a3, o3⟩ => ?_
  subst o3
  have a2 : y = V.str key := a2
  have a3 : z = V.int d := a3
  subst a2 a3
  obtain ⟨t, h1, h3, _⟩ := hh3.get hk
  have h1 : t p = some (.dK (dkv l)) := h1
  refine ⟨(l.lookup key).map V.int, .inl ⟨dkv l, Sum.inr key, .inl (h3 _ _ h1), rfl, val_dkvO.symm⟩, ?_⟩
  have ez : ((l.lookup key).map V.int).getD (V.int d) = V.int ((l.lookup key).getD d) := by cases l.lookup key <;> rfl
  rw [ez]
  exact q F3 _ H3 _ ((e1.trans e2).trans e3) hh3 ⟨rfl, rfl⟩
/-- dict(d): a new one, from a locked one -/
def rDictD : List V → Hp → VK → Prop := fun xs H Q => ∃ (a : Addr) (kvs : List (Key × V)), xs = [.ref a] ∧ Rd H a (.dK kvs) ∧ ∀ p, H p = none → Q (.ref p) (upd H p (.dK kvs))
end
end VL

set_option Elab.async false
set_option linter.all false
set_option maxRecDepth 100000
set_option maxHeartbeats 2000000
/-! VL25: a lambda with one parameter that has an int for its default, handed to a def that calls it without arguments. -/
namespace VL
open PySem PySem.Spec PyProof.Rows L2 LamX
structure LamSD (N : List Str) (nm : Str) (sc scope : Scope) : Prop where
  kind : scope.kind = .function
  co : scope.isCoroutine = false
  gen : scope.isGenerator = false
  own : ∀ y ∈ scope.names, y.2 ≠ .cell ∧ (y.2 = .local → y.1 ∉ N)
  free : ∀ y ∈ scope.names, y.2 = .free → sc.names.lookup y.1 = some .cell ∨ sc.names.lookup y.1 = some .free
  par : scope.names.lookup nm = some .local
def lamSDB (N : List Str) (nm : Str) (sc scope : Scope) : Bool :=
  decide (scope.kind = .function) && !scope.isCoroutine && !scope.isGenerator && (scope.names.all fun y => !decide (y.2 = .cell) && (!decide (y.2 = .local) || !decide (y.1 ∈ N)) && (!decide (y.2 = .free) || decide (sc.names.lookup y.1 = some .cell) || decide (sc.names.lookup y.1 = some .free))) && decide (scope.names.lookup nm = some .local)
theorem LamSD.has {X : Cx} {N : List Str} {nm : Str} {scope : Scope} (L : LamSD N nm X.env.scope scope) (ok : X.Ok) : ∀ y ∈ scope.names, y.2 = .free → ∃ c, X.env.cells.lookup y.1 = some c := fun y hy e => by
  rcases L.free y hy e with k | k
  · exact ok.has _ (.inl k)
  · exact ok.has _ (.inr k)
section
variable {X : Cx} {pins : List (Addr × Obj)} {σ : L2.St} {H : Hp} {s : Shared}
end
section
variable {X : Cx} {pins : List (Addr × Obj)} {σ : L2.St} {H HZ : Hp} {s s1 : Shared}
end
section
variable {X : Cx}
end
section
variable {X : Cx}
end
section
variable {T : TC} {Γ : List (Option VA)} {Ω Ω1 Ω2 : List OA} {ta tb : TE} {i j : Int}
end
end VL

set_option Elab.async false
set_option linter.all false
set_option maxRecDepth 100000
/-! VL26: the first and the last of four. -/
namespace VL
open PySem L2 PyProof.Rows
section
variable {T : TC} {Γ : List (Option VA)} {Ω Ω1 Ω2 : List OA} {te ti : TE}
end
end VL

set_option Elab.async false
set_option linter.all false
set_option maxRecDepth 100000
/-! VL27: == and != of tuples among whose items stand pairs of numbers with an own __eq__; a call with a new thing ahead of arguments that change things. -/
namespace VL
open PySem L2 PyProof.Rows
/-- pair by pair, as WT, or two tuples within -/
def WT2 (K : PySem.W.Frag) (C : Addr) (sp : Sp) : List (V × V) → Hp → (Hp → Prop) → Prop
  | [], H, Q => Q H
  | z :: r, H, Q => WT K C sp [z] H (fun H' => WT2 K C sp r H' Q) ∨
    ∃ p q xs ys, z.1 = .ref p ∧ z.2 = .ref q ∧ SqT K H p xs ∧ SqT K H q ys ∧ xs.length = ys.length ∧ (p = q → WT2 K C sp r H Q) ∧ (p ≠ q → WT K C sp (xs.zip ys) H (fun H' => WT2 K C sp r H' Q))
def rOwnT2 (K : PySem.W.Frag) (C : Addr) (sp : Sp) (b : Bool) : R2 := fun x y H Q => ∃ a c xs ys, x = .ref a ∧ y = .ref c ∧ SqT K H a xs ∧ SqT K H c ys ∧ xs.length = ys.length ∧ WT2 K C sp (xs.zip ys) H (fun H' => Q (.bl b) H')
section
variable {X : Cx} {n : Nat} {C f : Addr} {fd : FuncData} {ps : List Str} {sp : Sp}
def TI2 (X : Cx) (pins : List (Addr × Obj)) (σ : L2.St) (C : Addr) (sp : Sp) (Q : Hp → Prop) (zs : List (Value × Value)) (s : Shared) : Prop :=
  ∃ H, Inv X pins σ H s ∧ ∃ us : List (V × V), us.length = zs.length ∧ (∀ i (h : i < us.length) (h2 : i < zs.length), RelV us[i].1 zs[i].1 ∧ RelV us[i].2 zs[i].2) ∧ WT2 X.K C sp us H Q
end
section
variable {T : TC} {Γ : List (Option VA)} {Ω Ω1 Ω2 : List OA} {ta tb : TE} {Pre : PreT}
def ItE2 (T : TC) (Ω : List OA) (sp : Sp) (A B : VA) : Prop := ∀ F H x y r k, Holds F Ω H → A.P F x → B.P F y → (∀ F' H', Same F F' → Holds F' Ω H' → WT2 T.K (T.C 1) sp r H' k) → WT2 T.K (T.C 1) sp ((x, y) :: r) H k
end
end VL

set_option Elab.async false
set_option linter.all false
set_option maxRecDepth 100000
/-! VL28: a pair of a new list and a value out of one of several defs; such a pair handed on at once; a new list and two values in one assignment. -/
namespace VL
open PySem L2 PyProof.Rows
section
variable {T : TC} {Γ : List (Option VA)} {Ω Ω0 Ω1 Ω2 Ω3 : List OA} {A B C : VA} {As Ks : List VA} {a : FT} {i : Nat} {S : Addr → Sp → Prop} {ta tb te : TE} {D : Ends} {F0 : Hp} {ts : TS}
/-- arguments, among them a pair of a new list at p -/
def XAN (t : TA) (Γ : List (Option VA)) (Ω : List OA) (As : Addr → List VA) (Ω2 : Addr → List OA) : Prop :=
  ∀ F σ H, Env F σ Γ → Holds F Ω H → ∀ Q : List V → Hp → Prop, (∀ F' vs H' p, Same F F' → Holds F' (Ω2 p) H' → AlA F' vs (As p) → Q vs H') → t σ H Q
end
end VL

set_option Elab.async false
set_option linter.all false
set_option maxRecDepth 100000
/-! VL29: == and != of machines, with a new one, with a tuple; a machine made by keywords; in of a dict that changes; new lists told by a machine; a method of a new machine. -/
namespace VL
open PySem L2 PyProof.Rows
section
variable {T : TC} {Γ : List (Option VA)} {Ω Ω0 Ω1 Ω2 Ω3 : List OA} {A B C : VA} {As Ks : List VA} {ta tb te : TE} {D : Ends} {F0 : Hp} {ts : TS} {p p2 : Addr} {k k2 : Nat} {x y s : MS} {r : Bool}
end
/-! ### machine == a tuple -/
def otherT (K : PySem.W.Frag) (C : Addr) : Bool := PySem.W.notFirst K C (.type "tuple") && decide (PySem.W.kitOne K (.type "tuple") (.ref C) = some false)
def rOwnXT (K : PySem.W.Frag) (C : Addr) (sp : Sp) : R2 := fun x y H Q => ∃ a dx fs b xs, x = .ref a ∧ H a = some (.ins C dx fs) ∧ y = .ref b ∧ SqT K H b xs ∧ sp [x, y] H (fun v H' => v = .bl false ∧ Q (.bl false) H') E0
section
variable {X : Cx} {n : Nat} {C f : Addr} {fd : FuncData} {ps : List Str} {sp : Sp}
structure CalEqT (P : Program) (w : World) (K : PySem.W.Frag) (mg : Str → Option Value) (base : Heap) (n : Nat) (C : Addr) (sp : Sp) : Prop where
  ex : ∃ f fd, FnOk P w K mg base CX0 n f fd ["self", "other"] sp ∧ otherT K C = true ∧ Meth K C "__eq__" f ∧ Binds K fd ["self", "other"] []
end
/-- what __eq__ of a machine tells beside a tuple -/
def PreXT (T : TC) : PreT := fun As Ω R => ∃ (k0 : Nat) (p0 : Addr) (x0 : MS) (A : VA), As = [vr p0, A] ∧ Ω[k0]? = some (machA T p0 x0) ∧ (∀ F H v, Holds F Ω H → A.P F v → ∃ b xs, v = .ref b ∧ SqT T.K H b xs) ∧ R = RV (va T false) (stt Ω [] [])
section
variable {T : TC} {Γ : List (Option VA)} {Ω Ω0 Ω1 Ω2 Ω3 : List OA} {A B C : VA} {As Ks : List VA} {ta tb te : TE} {p : Addr} {k : Nat} {x s : MS} {r : Bool}
def rNoN : R2 := fun x y H Q => y = .non ∧ Q (.bl (!decide (x = .non))) H
/-! ### new lists that a machine tells -/
def Pre_Mach_tallyN (T : TC) : PreT := fun As Ω R => ∃ (k : Nat) (p : Addr) (s : MS), As = [vr p] ∧ Ω[k]? = some (machA T p s) ∧ R = RN Ω (fun q => lstA T q s.tally)
def Pre_Mach_walkN (T : TC) : PreT := fun As Ω R => ∃ (k : Nat) (p : Addr) (s : MS), As = [vr p] ∧ Ω[k]? = some (machA T p s) ∧ R = RN Ω (fun q => lstA T q s.wk)
structure CalCK (P : Program) (w : World) (K : PySem.W.Frag) (mg : Str → Option Value) (base : Heap) (k : Nat) (x : Str) (C : Addr) (ps ks : List Str) (ix : List Nat) (sp : Sp) : Prop where
  ex : ∃ f fd g, FnOk P w K mg base CX0 k f fd ps sp ∧ mg x = some (.ref C) ∧ Mk K C f ∧ KBn K fd ps 1 ks g (fun vs zs => prm ix (vs ++ zs))
end
end VL

set_option Elab.async false
set_option linter.all false
set_option maxRecDepth 100000
/-! VL30: a dict with three numbers, a dict and a list that change (a law's own tally and walk): made, its parts; ways that are never taken; ranges by a step; max of a list. -/
namespace VL
open PySem L2 PyProof.Rows
def wkv (b c B : Int) (d e : Addr) : List (Key × V) := [(Sum.inr ("bits" : Str), .int b), (Sum.inr ("cutoff" : Str), .int c), (Sum.inr ("base" : Str), .int B), (Sum.inr ("counts" : Str), .ref d), (Sum.inr ("walk" : Str), .ref e)]
section
variable {b c B : Int} {d e : Addr}
end
section
variable {T : TC} {Γ : List (Option VA)} {Ω Ω0 Ω1 Ω2 Ω3 : List OA} {A B' C : VA} {ta tb te : TE} {D : Ends} {F0 : Hp} {ts : TS} {b c B : Int} {p : Addr} {k : Nat}
/-- such a dict, new -/
def RNW (T : TC) (Ω2 : List OA) (b c B : Int) : Hp → V → List OA → Prop := fun _ v Ω' => ∃ p d e, v = .ref p ∧ Ω' = Ω2 ++ [rawD p (wkv b c B d e), rawD d (dkv []), lstA T e ([] : List (T3 Str Int Int))]
/-! ### is None -/
def rIsNo : R2 := fun x y H Q => y = .non ∧ Q (.bl (decide (x = .non))) H
def tNo : TE := fun _ _ _ => False
/-! ### max of a list -/
def maxL : List Int → Int
  | [] => 0
  | [a] => a
  | a :: r => max a (maxL r)
end
end VL
namespace VL
open PySem L2 PyProof.Rows
/-! ### range(0, j, c) -/
def rngS (c : Int) (n : Nat) : List Int := (List.range n).map fun (k : Nat) => 0 + (k : Int) * c
def CRg (j c : Int) : Prop := 0 < c ∧ c < 2 ^ 30 ∧ 0 ≤ j ∧ j < 2 ^ 30
section
variable {T : TC} {Γ : List (Option VA)} {Ω Ω1 Ω2 : List OA} {B' : VA} {As : List VA}
end
end VL

set_option Elab.async false
set_option linter.all false
set_option maxRecDepth 100000
/-! VL31: reversed(range(n)). -/
namespace VL
open PySem L2 PyProof.Rows
section
variable {T : TC} {Γ : List (Option VA)} {Ω Ω1 Ω2 : List OA} {A B C : VA} {ta tb te : TE}
end
end VL

set_option Elab.async false
set_option linter.all false
set_option maxRecDepth 100000
/-! VL32: defs with defaults and keyword-only parameters. -/
namespace VL
open PySem L2
open PyProof.Rows (envOfC)
section
variable {P : Program} {w : World} {K : PySem.W.Frag} {mg : Str → Option Value} {base : Heap}
/-- a def that may be called, what is not written filled up -/
structure CalD (P : Program) (w : World) (K : PySem.W.Frag) (mg : Str → Option Value) (base : Heap) (k : Nat) (x : Str) (ps : List Str) (dvs : List V) (sp : Sp) : Prop where
  ex : ∃ f fd ds, FnOk P w K mg base CX0 k f fd ps sp ∧ mg x = some (.ref f) ∧ PySem.W.keepIn K (.ref f) = true ∧ Vals dvs ds ∧ Binds K fd ps ds
structure CalKD (P : Program) (w : World) (K : PySem.W.Frag) (mg : Str → Option Value) (base : Heap) (k : Nat) (x : Str) (ps : List Str) (n : Nat) (ks : List Str) (dvs : List V) (ix : List Nat) (sp : Sp) : Prop where
  ex : ∃ f fd g, FnOk P w K mg base CX0 k f fd ps sp ∧ mg x = some (.ref f) ∧ PySem.W.keepIn K (.ref f) = true ∧ KBn K fd ps n ks g (fun vs zs => prm ix (vs ++ (dvs ++ zs)))
end
section
variable {X : Cx} {k n : Nat} {x : Str} {ps ks : List Str} {dvs : List V} {ix : List Nat} {sp : Sp} {p pos : Pos} {e : Expr} {es : List Expr} {kws : List Keyword} {t tk : TA}
end
section
variable {T : TC} {Γ : List (Option VA)} {Ω Ω1 Ω2 Ω3 : List OA} {A : VA} {As Ks Ds : List VA} {dvs : List V}
end
end VL

set_option Elab.async false
set_option linter.all false
set_option maxRecDepth 100000
/-! VL33: a list of two new machines. -/
namespace VL
open PySem L2
def rawLA (d : Addr) (vs : List V) : OA := ⟨fun _ t => t d = some (.lst vs), fun _ h => h⟩
/-- hands back a list of two new machines -/
abbrev RMM (T : TC) (Ω2 : List OA) (s1 s2 : MS) : Hp → V → List OA → Prop := fun F v Ω' => ∃ p q1 q2, v = .ref p ∧ F p = some (.lst [.ref q1, .ref q2]) ∧ Ω' = Ω2 ++ [machA T q1 s1, machA T q2 s2]
section
variable {T : TC} {Γ : List (Option VA)} {Ω Ω0 Ω1 Ω2 : List OA} {As : List VA} {ta tb te : TE}
variable {F0 : Hp}
end
end VL

set_option Elab.async false
set_option linter.all false
set_option maxRecDepth 100000
/-! VL34: count of a text in a list of texts. -/
namespace VL
open PySem L2
/-- how often -/
def cntStr (k : Str) (l : List Str) : Nat := l.countP (· == k)
def rCntS (K : PySem.W.Frag) : V → List V → Hp → VK → Prop := fun x xs H Q => ∃ (p : Addr) (l : List Str) (k : Str), x = .ref p ∧ xs = [.str k] ∧ SqL K H p (l.map V.str) ∧ Q (.int (cntStr k l : Nat)) H
section
variable {T : TC} {Ω Ω1 Ω2 : List OA}
end
end VL

set_option Elab.async false
set_option linter.all false
set_option maxRecDepth 100000
set_option maxHeartbeats 1000000
/-! VL35: list(reversed(l)) of a list. -/
namespace VLR
open PySem PySem.Spec PyProof.Rows RT
section
variable {prog : Program} {w : World} {A : Around} {E : Value → Shared → Prop} {s : Shared}
end
end VLR
namespace VL
open PySem PySem.Spec PyProof.Rows L2 _root_.RT
section
variable {X : Cx}
def tListRev (K : PySem.W.Frag) (te : TE) : TE := fun σ H Q => te σ H fun v H1 => ∃ (a : Addr) (xs : List V), v = .ref a ∧ SqL K H1 a xs ∧ ∀ q, H1 q = none → Q (.ref q) (upd H1 q (.lst xs.reverse))
end
section
variable {T : TC} {Ω Ω1 : List OA}
end
section
variable {T : TC} {Ω Ω1 Ω2 : List OA}
/-- a text among texts -/
def inS (k : Str) (l : List Str) : Bool := l.any fun y => y == k
end
end VL

set_option Elab.async false
set_option linter.all false
set_option maxRecDepth 100000
/-! VL36: a tuple of one thing and a pair make a triple. -/
namespace VL
open PySem L2
section
variable {T : TC} {Ω Ω1 Ω2 : List OA}
end
end VL

set_option Elab.async false
set_option linter.all false
set_option maxRecDepth 100000
/-! VL37: a dict that changed, locked within a pair that is handed back; both things of a pair one by one. -/
namespace VL
open PySem L2 PyProof.Rows
/-- some dict is locked for good -/
def tFzA (te : TE) : TE := fun σ H Q => te σ H fun v H1 => ∃ p kvs, H1 p = some (.dK kvs) ∧ ∀ od, Q v (upd H1 p (.frz od (.dK kvs)))
section
variable {T : TC} {Γ : List (Option VA)} {Ω Ω1 Ω2 Ω3 : List OA} {A B C : VA} {ta tb te : TE} {D : Ends} {F0 : Hp} {ts : TS}
end
end VL

set_option Elab.async false
set_option linter.all false
set_option maxRecDepth 100000
set_option maxHeartbeats 2000000
/-! VL38: a lambda with one parameter, handed to a def that calls it with a machine. -/
namespace VL
open PySem PySem.Spec PyProof.Rows L2 LamX
/-- the context of the body of such a lambda: the caller's names and its own -/
def lamCx1 (X : Cx) (nm : Str) (A : Around) (outer : List PySem.Env) (s : Shared) (H : Hp) (E : XK) (scope : Scope) (f c' : Addr) : Cx := { lamCx X A outer s H E scope f c' with N := X.N ++ [nm] }
section
variable {X : Cx} {pins : List (Addr × Obj)} {σ : L2.St} {H HZ : Hp} {s s1 : Shared}
/-- what a call of the name with one value makes -/
def tAct1 (i : Nat) (f c' : Addr) (q : Str) (act : V → Hp → VK → Prop) (te : TE) : TE := fun σ H Q => σ[i]? = some (some (.ref f)) ∧ te σ H fun v H1 => H1 c' = some (CodeO c' q) ∧ act v H1 Q
end
/-! ### a def that is handed such a lambda -/
def ActH1 (P : Program) (w : World) (K : PySem.W.Frag) (mg : Str → Option Value) (base : Heap) (k : Nat) (A : Around) (outer : List PySem.Env) (s : Shared) (H : Hp) (f c' : Addr) (q : Str) (act : V → Hp → VK → Prop) : Prop :=
  ∀ (Ng : List Str) (qg : Str) (sg : Scope) (g : Addr) (cdg : Value) (i : Nat) (a : Str) (p1 p2 : Pos) (e : Expr) (te : TE), Room (k + 1) (A.deeper (envOfC qg sg s.heap.objs.size g cdg)) → Ng[i]? = some a → Vis sg a → (a == ("__debug__" : Str)) = false → (a == ("__classdict__" : Str)) = false →
    PE (cxOf CX0 P w K mg base Ng qg sg g cdg A outer s H E0).nox e te → starEach [e] (envOfC qg sg s.heap.objs.size g cdg) = (false, eval e (envOfC qg sg s.heap.objs.size g cdg)) :: starEach [] (envOfC qg sg s.heap.objs.size g cdg) →
    PE (cxOf CX0 P w K mg base Ng qg sg g cdg A outer s H E0).nox (.Call (.Name a p1) [e] [] p2) (tAct1 i f c' q act te)
abbrev PreLT1 := Addr → Addr → Str → (V → Hp → VK → Prop) → PreT
structure CalL1 (P : Program) (w : World) (K : PySem.W.Frag) (mg : Str → Option Value) (base : Heap) (kl k : Nat) (x : Str) (ps : List Str) (Pre : PreLT1) : Prop where
  ex : ∃ g fd, mg x = some (.ref g) ∧ PySem.W.keepIn K (.ref g) = true ∧ Binds K fd ps [] ∧ (∀ f c' q act As Ω R, Pre f c' q act As Ω R → As.length = ps.length) ∧
    ∀ (A : Around) (outer : List PySem.Env) (s : Shared) (H : Hp) (us : List Value) (vs : List V) (Q : VK) (f c' : Addr) (q : Str) (act : V → Hp → VK → Prop), Room k A → Env0 P w K mg base A outer s H → BindsTo s fd ⟨us, []⟩ (ps.zip us) → Vals vs us →
      ActH1 P w K mg base kl A outer s H f c' q act → mkSp (Pre f c' q act) vs H Q E0 → codeAny (model P w) A (.call (.ref g) ⟨us, []⟩) (CR CX0 outer P w H s Q E0) s
section
variable {P : Program} {w : World} {K : PySem.W.Frag} {mg : Str → Option Value} {base : Heap}
end
def tLam1 (P : Addr) (q : Str) (Pre : PreLT1) (ta tb : TE) : TE := fun σ H Q => ta σ H fun v H0 => (∃ ps : Array Value, H0 P = some (.tbl ps) ∧ TriplesOk ps.toList ∧ ∀ (pos : Pos) (cv : Value), codeAmong pos ps.toList = some cv → ∃ c, cv = .ref c ∧ H0 c = some (CodeO c q)) ∧
  ∀ f c' H1, Grown H0 P q H1 c' → mkSp (Pre f c' q fun u H' Q' => tb (σ ++ [some u]) H' Q') [v, .ref f] H1 Q E0
section
variable {X : Cx}
end
/-- the name's value: the lambda f, which takes the machine at k0, handed over, from m to r.2 and tells r.1 -/
def askA1 (T : TC) {α : Type} [Rp α] (f c' : Addr) (q : Str) (act : V → Hp → VK → Prop) (Ω : List OA) (k0 : Nat) (p0 : Addr) (M : MS → Option (α × MS)) : VA :=
  ⟨fun F v => v = .ref f ∧ F c' = some (CodeO c' q) ∧ ∀ m r, M m = some r → ∀ F1 H1, Same F F1 → Holds F1 (stt Ω [(k0, machA T p0 m)] []) H1 → ∀ Q : VK, (∀ F2 v H2, Same F1 F2 → Holds F2 (stt Ω [(k0, machA T p0 r.2)] []) H2 → (va T r.1).P F2 v → Q v H2) → act (.ref p0) H1 Q,
   fun e ⟨h1, h2, h3⟩ => ⟨h1, e _ _ h2, fun m r hm F1 H1 e1 => h3 m r hm F1 H1 (e.trans e1)⟩⟩
section
variable {T : TC} {Γ : List (Option VA)} {Ω Ω1 Ω2 : List OA} {α : Type} [Rp α]
end
/-! ### a dict with a machine, a list and a dict -/
def wev (m e d : Addr) : List (Key × V) := [(Sum.inr ("engine" : Str), .ref m), (Sum.inr ("walk" : Str), .ref e), (Sum.inr ("counts" : Str), .ref d)]
section
variable {m e d : Addr}
end
section
variable {T : TC} {Γ : List (Option VA)} {Ω Ω0 Ω1 Ω2 Ω3 : List OA} {A B' C : VA} {ta tb te : TE} {D : Ends} {F0 : Hp} {ts : TS} {p m : Addr} {k : Nat}
/-- such a dict, new, about the machine at m -/
def RNE (T : TC) (Ω2 : List OA) (m : Addr) : Hp → V → List OA → Prop := fun _ v Ω' => ∃ p e d, v = .ref p ∧ Ω' = Ω2 ++ [rawD p (wev m e d), lstA T e ([] : List (T3 Str Int Int)), rawD d (dkv [])]
end
end VL

set_option Elab.async false
set_option linter.all false
set_option maxRecDepth 100000
/-! VL39: a list of two machines by its name: kept, taken apart, handed over; a dict with a machine out of a def. -/
namespace VL
open PySem L2 PyProof.Rows
/-- a list of the things at q1 and q2, for good -/
def mmA (q1 q2 : Addr) : VA := ⟨fun F v => ∃ p, v = .ref p ∧ F p = some (.lst [.ref q1, .ref q2]), fun e ⟨p, a, b⟩ => ⟨p, a, e _ _ b⟩⟩
section
variable {T : TC} {Γ : List (Option VA)} {Ω Ω0 Ω1 Ω2 Ω3 : List OA} {A B C : VA} {As : List VA} {ta tb te : TE} {D : Ends} {F0 : Hp} {ts : TS} {p m q1 q2 : Addr}
end
end VL

set_option Elab.async false
set_option linter.all false
set_option maxRecDepth 100000
/-! VL40: x *= e; two names for one value; range(a, j, c). -/
namespace VL
open PySem L2 PyProof.Rows
section
variable {T : TC} {Γ : List (Option VA)} {Ω Ω0 Ω1 Ω2 : List OA} {A B' : VA} {As : List VA} {te : TE} {D : Ends} {F0 : Hp} {ts : TS}
def rngA (a c : Int) (n : Nat) : List Int := (List.range n).map fun (k : Nat) => a + (k : Int) * c
def CRgA (a j c : Int) : Prop := 0 < c ∧ c < 2 ^ 30 ∧ 0 ≤ a ∧ a ≤ j ∧ j < 2 ^ 30
end
end VL

set_option Elab.async false
set_option linter.all false
set_option maxRecDepth 100000
/-! VL41: list(range(a, j, c)); the first part of a triple. -/
namespace VL
open PySem PySem.Spec L2 PyProof.Rows
def rgVC (a c : Int) (n : Nat) : List V := (rngA a c n).map V.int
def tLstRgC (ta : TA) : TE := fun σ H Q => ta σ H fun vs H1 => ∃ (i j c : Int) (n : Nat), vs = [.int i, .int j, .int c] ∧ RgC i j c n ∧ n ≤ 2 ^ 24 ∧ ∀ q, H1 q = none → Q (.ref q) (upd H1 q (.lst (rgVC i c n)))
section
variable {X : Cx}
end
section
variable {T : TC} {Γ : List (Option VA)} {Ω Ω1 : List OA} {te : TE}
end
end VL

set_option Elab.async false
set_option linter.all false
set_option maxRecDepth 100000
/-! VL42: three things that change; a list of two new machines handed to a def; w, x, y, z = values and a new list. -/
namespace VL
open PySem L2 PyProof.Rows
section
variable {T : TC} {Γ : List (Option VA)} {Ω Ω0 Ω1 : List OA} {A B C : VA} {As : List VA} {ta tb tc td : TE} {D : Ends} {F0 : Hp} {ts : TS}
end
end VL

set_option Elab.async false
set_option linter.all false
set_option maxRecDepth 100000
/-! VL43: a pair turned about, p[::-1]; d.get(k) of a key that is there. -/
namespace VL
open PySem PySem.Spec PySem.Calls L2 PyProof.Rows
section
variable {prog : Program} {w : World} {A : Around} {E : Value → Shared → Prop} {s : Shared}
end
def tRevP (K : PySem.W.Frag) (te : TE) : TE := fun σ H Q => te σ H fun x H1 => ∃ a u v, x = .ref a ∧ SqT K H1 a [u, v] ∧ ∀ p, H1 p = none → Q (.ref p) (upd H1 p (.tup [v, u]))
section
variable {X : Cx}
end
section
variable {T : TC} {Γ : List (Option VA)} {Ω Ω1 Ω2 : List OA} {te ta tb : TE}
end
section
variable {T : TC} {Γ : List (Option VA)} {Ω Ω1 Ω2 : List OA} {ta tb : TE}
/-- a number among numbers -/
def inI (k : Int) (l : List Int) : Bool := l.any fun y => y == k
end
end VL

set_option Elab.async false
set_option linter.all false
set_option maxRecDepth 100000
/-! VL44: sum(d.values()). -/
namespace VL
open PySem PySem.Spec PySem.Calls PySem.W L2 PyProof PyProof.Rows
def tSumVals (td : TE) : TE := fun σ H Q => td σ H fun x H1 => ∃ (a : Addr) (kvs : List (Key × V)) (is : List Int), x = V.ref a ∧ Rd H1 a (.dK kvs) ∧ kvs.map (·.2) = is.map V.int ∧ Q (.int (preSum (fun i => is.getD i 0) is.length)) H1
section
variable {X : Cx} {o : Expr} {p pos apos mpos : Pos} {td : TE}
end
section
variable {T : TC} {Γ : List (Option VA)} {Ω Ω1 : List OA} {te : TE}
end
end VL

set_option Elab.async false
set_option linter.all false
set_option maxRecDepth 100000
/-! VL45: defs that raise an own exception without arguments; try .. except X around one statement. -/
namespace VL
open PySem L2
open PyProof.Rows (envOfC)
/-- a promise to raise: of the arguments As in the state Ω -/
abbrev PreXX := List VA → List OA → (Hp → Value → Option Addr → List OA → Prop) → Prop
def mkSpX (Pre : PreXX) : Sp := fun vs H _ E => ∃ F Ω As R, Pre As Ω R ∧ AlA F vs As ∧ Holds F Ω H ∧ ∀ F' c d H' Ω', Same F F' → Holds F' Ω' H' → R F' c d Ω' → E c d H'
/-- an exception of the class at C, the state Ω2 -/
abbrev RX (C : Addr) (Ω2 : List OA) : Hp → Value → Option Addr → List OA → Prop := fun _ c _ Ω' => c = .ref C ∧ Ω' = Ω2
/-- it returns, or it raises -/
def sp2 (Pre : PreT) (PreX : PreXX) : Sp := fun vs H Q E => mkSp Pre vs H Q E ∨ mkSpX PreX vs H Q E
def RTX (F0 : Hp) (R : Hp → Value → Option Addr → List OA → Prop) : XK → Prop := fun E => ∀ F c d H Ω, Same F0 F → Holds F Ω H → R F c d Ω → E c d H
def BodX (X : Cx) (body : List Stmt) (Γ : List (Option VA)) (Ω : List OA) (F0 : Hp) : Prop := ∃ t, PSs X body t ∧ ∀ D : Ends, XS t D F0 Γ Ω
abbrev WXE (E : XK) : WX := fun c d _ H => E c d H
section
variable {P : Program} {w : World} {K : PySem.W.Frag} {mg : Str → Option Value} {base : Heap}
theorem fn_okX {x qual : Str} {st : Stmt} {f : Addr} {fd : FuncData} {N ps : List Str} {k : Nat} {Pre : PreXX} (F : Fun K x qual st f fd) (S : FnScope N ps (defScope st)) (hl : ∀ As Ω R, Pre As Ω R → As.length = ps.length)
    (hb : ∀ (cdv : Value) (A : Around) (outer : List PySem.Env) (s : Shared) (H : Hp) (E : XK), Room k (A.deeper (envOfC qual (defScope st) s.heap.objs.size f cdv)) → ∀ As Ω R F0, Pre As Ω R → RTX F0 R E →
      Takes (cxOf (L2.CX P w) P w K mg base N qual (defScope st) f cdv A outer s H E) (WXE E) →
      BodX (cxOf (L2.CX P w) P w K mg base N qual (defScope st) f cdv A outer s H E) (defBody st) (As.map some ++ List.replicate (N.length - As.length) none) Ω F0) : FnOk P w K mg base (L2.CX P w) (k + 1) f fd ps (mkSpX Pre) := by
  refine F.okX S (fun vs H Q E h => ?_) (fun cdv A outer s H vs Q E hr h => ?_)
  · obtain ⟨F, Ω, As, R, hp, ha, _⟩ := h
    rw [ha.len]; exact hl _ _ _ hp
  · obtain ⟨F0, Ω, As, R, hp, ha, hh, hq⟩ := h
    obtain ⟨t, h1, h2⟩ := hb cdv A outer s H E hr As Ω R F0 hp (fun F c d H Ω e hh r => hq F c d H Ω e hh r) (takes_of rfl rfl rfl rfl)
    exact ⟨t, h1, h2 _ _ _ ⟨F0, Same.refl F0, start_env ha, hh⟩⟩
/-- what never raises may stand where something may be let out -/
theorem FnOk.up {k : Nat} {f : Addr} {fd : FuncData} {ps : List Str} {sp : Sp} (F : FnOk P w K mg base CX0 k f fd ps sp) : FnOk P w K mg base (L2.CX P w) k f fd ps sp :=
  ⟨F.len, fun A outer s H args us vs Q E hr he hb hv hs => codeAny_mono (F.run A outer s H args us vs Q E hr he hb hv hs) fun r s' q => by
    cases r with
    | error e => exact False.elim q
    | ok fl => cases fl <;> exact q⟩
theorem FnOk.or {k : Nat} {f : Addr} {fd : FuncData} {ps : List Str} {Pre : PreT} {PreX : PreXX} (F : FnOk P w K mg base CX0 k f fd ps (mkSp Pre)) (G : FnOk P w K mg base (L2.CX P w) k f fd ps (mkSpX PreX)) : FnOk P w K mg base (L2.CX P w) k f fd ps (sp2 Pre PreX) :=
  ⟨fun vs H Q E h => h.elim (F.len vs H Q E) (G.len vs H Q E), fun A outer s H args us vs Q E hr he hb hv hs => hs.elim (fun h => (FnOk.up F).run A outer s H args us vs Q E hr he hb hv h) (fun h => G.run A outer s H args us vs Q E hr he hb hv h)⟩
/-- a def that may be called, and may raise -/
structure CalX (P : Program) (w : World) (K : PySem.W.Frag) (mg : Str → Option Value) (base : Heap) (k : Nat) (x : Str) (ps : List Str) (sp : Sp) : Prop where
  ex : ∃ f fd, FnOk P w K mg base (L2.CX P w) k f fd ps sp ∧ mg x = some (.ref f) ∧ PySem.W.keepIn K (.ref f) = true ∧ Binds K fd ps []
end
/-! ### an own exception -/
structure ExcC (K : PySem.W.Frag) (mg : Str → Option Value) (x : Str) (C : Addr) : Prop where
  q : PySem.W.excIn K C aeBase "ArithmeticError.__new__" = true
  k : PySem.W.keepIn K (.ref C) = true
  s : PySem.W.subIn K (.ref C) (.type "BaseException") = some true
  t : PySem.W.typeIn K (.ref C) = some (.type "type")
  g : mg x = some (.ref C)
theorem excB_ok {K : PySem.W.Frag} {mg : Str → Option Value} {x : Str} {C : Addr} (h : excB K C = true) (g : mg x = some (.ref C)) : ExcC K mg x C ∧ PySem.W.exmOne K (.ref C) (.ref C) = some true := by
  obtain ⟨h1, h⟩ := Bool.and_eq_true_iff.mp h
  obtain ⟨h2, h⟩ := Bool.and_eq_true_iff.mp h
  obtain ⟨h3, h⟩ := Bool.and_eq_true_iff.mp h
  obtain ⟨h4, h5⟩ := Bool.and_eq_true_iff.mp h
  exact ⟨⟨h1, h2, of_decide_eq_true h3, of_decide_eq_true h4, g⟩, of_decide_eq_true h5⟩
section
variable {X : Cx} {C : Addr} {x : Str} {p pos : Pos} {W : WX}
/-- X() -/
theorem pmk_exc0 (E : ExcC X.K X.mg x C) (hg : Gl X x) (hdb : (x == ("__debug__" : Str)) = false := by decide) : PMk X (.Call (.Name x p) [] [] pos) (fun _ H Q => Q (.ref C) none H) := by
  intro pins s σ H Q I h
  refine PySem.wpAny_Call_Name_kw (ld_glob I hg E.g ?_ hdb)
  refine PySem.W.callWith_K0 I.kIn E.k ?_
  obtain ⟨bm, N, nm, qn, bs, hdct, sn, sub, ab, col, dd, k0, k1, k2, k3, k5, mN, hC, hN, hni, T⟩ := exc_obj I.kIn E.q
  refine PySem.wpAny_call_exc_subT PySem.F.excBase_ArithmeticError T hC hN hni (fun h' e hm => ?_) (Nat.zero_le _)
  exact mk_of I hm (raises_own E.s E.t) h (I.hok.gone hm.new)
/-- raise X() -/
def tRz (c : Value) (W : WX) : TS := fun _ σ H => W c none σ H
theorem ps_raise0 {pos2 : Pos} (hc : X.calm = true) (tk : Takes X W) (E : ExcC X.K X.mg x C) (hg : Gl X x) (hdb : (x == ("__debug__" : Str)) = false := by decide) : PS X (.Raise (some (.Call (.Name x p) [] [] pos)) none pos2) (tRz (.ref C) W) :=
  ps_raise hc tk (pmk_exc0 E hg hdb)
/-- f(..), f may raise -/
theorem pe_calX {k : Nat} {f : Str} {ps : List Str} {sp : Sp} {e : Expr} {es : List Expr} {t : TA} (c : CalX X.prog X.w X.K X.mg X.base k f ps sp) (hr : Room k X.A) (hg : Gl X f) (tk : Takes X W) (ha : PA X (e :: es) t)
    (hdb : (f == ("__debug__" : Str)) = false := by decide) (he : starEach (e :: es) X.env = (false, eval e X.env) :: starEach es X.env := by rfl) (hpl : (backTo pos (starEach es X.env)).any (·.1) = false := by rfl) :
    PE X (.Call (.Name f p) (e :: es) [] pos) (tCallS sp (WE W) t) := by
  obtain ⟨g, fd, F, hm, hk, hb⟩ := c.ex
  exact pe_callS F hr hg hm hk hb (passAt tk) ha hdb he hpl
end
section
variable {T : TC} {Γ Γ' : List (Option VA)} {Ω Ω' Ω1 Ω2 : List OA} {A : VA} {As : List VA} {te : TE} {t : TA} {D : Ends} {F0 : Hp} {W : WX} {C : Addr} {Pre : PreT} {PreX : PreXX} {E : XK} {R : Hp → Value → Option Addr → List OA → Prop}
/-- the wish W takes an exception of the class at C at such slots in such a state -/
def WTk (W : WX) (C : Addr) (F0 : Hp) (Γ : List (Option VA)) (Ω : List OA) : Prop := ∀ d σ H, NX F0 Γ Ω σ H → W (.ref C) d σ H
/-- an expression that raises -/
def XR (te : TE) (F0 : Hp) (Γ : List (Option VA)) (Ω : List OA) : Prop := ∀ σ H, NX F0 Γ Ω σ H → ∀ Q : VK, te σ H Q
theorem xr_callS (ha : XA t Γ Ω As Ω1) (hp : PreX As Ω1 (RX C Ω2)) (hw : WTk W C F0 Γ Ω2) : XR (tCallS (sp2 Pre PreX) (WE W) t) F0 Γ Ω := fun σ H ⟨F, f0, e, hh⟩ Q =>
  ha F σ H e hh _ fun F1 vs H1 e1 hh1 a1 => .inr ⟨F1, Ω1, As, _, hp, a1, hh1, fun F' c d H' Ω' e' hh' ⟨h1, h2⟩ => by
    subst h1 h2
    exact hw d σ H' ⟨F', (f0.trans e1).trans e', e.mono (e1.trans e'), hh'⟩⟩
theorem xg_callS {R : Hp → V → List OA → Prop} {E : St → XK} (ha : XA t Γ Ω As Ω1) (hp : Pre As Ω1 R) : XG (tCallS (sp2 Pre PreX) E t) Γ Ω R := fun F σ H e hh Q q =>
  ha F σ H e hh _ fun F1 xs H1 e1 hh1 a1 => .inl ⟨F1, Ω1, As, R, hp, a1, hh1, fun F' v H' Ω' e' hh' r => q F' v H' Ω' (e1.trans e') hh' r⟩
theorem xe_callS {E : St → XK} {Ω' : List OA} (ha : XA t Γ Ω As Ω1) (hp : Pre As Ω1 (RV A Ω')) (he : Ω' = Ω2) : XE (tCallS (sp2 Pre PreX) E t) Γ Ω A Ω2 := he ▸ xg_callS ha hp
theorem xs_dropX (h : XR te F0 Γ Ω) : XS (tDrop te) D F0 Γ Ω := fun σ H n => h σ H n _
/-! try: .. except x: .. -/
def tTry (K : PySem.W.Frag) (c : Value) (ts : Addr → Value → Option Addr → TS) (tb : WX → TS) (Wout : WX) : TS := fun D σ H => tb (wOnly K c ts Wout D) D σ H
theorem xs_try {K : PySem.W.Frag} {c : Value} {ts : Addr → Value → Option Addr → TS} {tb : WX → TS} {Wout : WX} (h : ∀ W, XS (tb W) D F0 Γ Ω) : XS (tTry K c ts tb Wout) D F0 Γ Ω := fun σ H n => h _ σ H n
theorem xs_tryX {K : PySem.W.Frag} {c : Value} {ts : Addr → Value → Option Addr → TS} {tb : WX → TS} {Wout : WX} (hm : PySem.W.exmOne K (.ref C) c = some true)
    (h : ∀ W, WTk W C F0 Γ' Ω' → XS (tb W) D F0 Γ Ω) (hs : ∀ a d, XS (ts a (.ref C) d) D F0 Γ' Ω') : XS (tTry K c ts tb Wout) D F0 Γ Ω := fun σ H n =>
  h _ (fun d σ H n => ⟨true, hm, fun _ a _ => hs a d σ H n, fun z => nomatch z⟩) σ H n
end
section
variable {X : Cx} {x : Str} {C : Addr} {np pos pos' : Pos} {body suite : List Stmt} {b₀ : Stmt} {tb : WX → TS} {ts : Addr → Value → Option Addr → TS}
theorem takesF : Takes X (fun _ _ _ _ => False) := fun _ _ ⟨_, _, _, _, _, _, _, _, _, _, _, _, _, _, _, _, w⟩ => w.elim
theorem ps_tryO (hs : X.stack = X.env :: X.outer) (hf : X.env.frame = some X.env.locals) (E : ExcC X.K X.mg x C) (hg : Gl X x)
    (hb : ∀ (W : WX) (pn : List (Addr × Obj)) (xe : Value → Shared → Prop), Takes (X.tr pn xe) W → PassesOwn (model X.prog X.w) X.A X.env xe → PSs (X.tr pn xe) body (tb W))
    (hsu : ∀ (a : Addr) (oe : Obj) (cls : Value) (d : Option Addr) (pn : List (Addr × Obj)), PSs (X.suite a ((a, oe) :: pn)) (b₀ :: suite) (ts a cls d)) (hdb : (x == ("__debug__" : Str)) = false := by decide) :
    PS X (.Try body [.ExceptHandler (some (.Name x np)) none (b₀ :: suite) pos'] [] [] pos) (tTry X.K (.ref C) ts tb (fun _ _ _ _ => False)) :=
  ps_try_only (c := .ref C) (Wout := fun _ _ _ _ => False) hs hf ⟨hg, hdb, .inl E.g⟩ takesF hb fun a oe cls d pn _ _ => hsu a oe cls d pn
end
/-- a call's way: it raises (the class told by a number), or it returns -/
def onX {β : Type} (o : Option Nat) (s : Nat → Option β) (n : Option β) : Option β := match o with | some k => s k | none => n
theorem onX_s {β : Type} {o : Option Nat} {k : Nat} {s : Nat → Option β} {n : Option β} (h : o = some k) : onX o s n = s k := by rw [h]; rfl
theorem onX_n {β : Type} {o : Option Nat} {s : Nat → Option β} {n : Option β} (h : o = none) : onX o s n = n := by rw [h]; rfl
end VL
namespace VL
open PySem L2
section
variable {T : TC} {Γ Γ' : List (Option VA)} {Ω Ω' Ω1 Ω2 : List OA} {A : VA} {D : Ends} {F0 : Hp} {C : Addr} {E : XK} {K : PySem.W.Frag} {c : Value} {us : Addr → Value → Option Addr → TS} {te : WX → TE} {Wo : WX} {ts : TS} {R : Hp → V → List OA → Prop}
theorem xs_rzL {L : List OA} (q : RTX F0 (RX C Ω) E) : XS (tRz (.ref C) (WXE E)) D F0 Γ (stt Ω [] L) := fun σ H ⟨F, f0, e, hh⟩ => q F _ _ H _ f0 hh.all ⟨rfl, List.append_nil _⟩
theorem xs_nxI (h : XS ts D F0 Γ Ω) : ∀ σ H, NX F0 Γ Ω σ H → Ends.nx { D with nx := ts D } σ H := h
theorem xs_try_drop1 (h : ∀ W, XE (te W) Γ Ω A Ω1) (q : ∀ σ H, NX F0 Γ Ω1 σ H → D.nx σ H) : XS (tTry K c us (fun W => tDrop (te W)) Wo) D F0 Γ Ω := xs_try fun W => xs_drop1 (h W) q
theorem xs_tryX_drop (hm : PySem.W.exmOne K (.ref C) c = some true) (h : ∀ W, WTk W C F0 Γ Ω' → XR (te W) F0 Γ Ω) (hs : ∀ a d, XS (us a (.ref C) d) D F0 Γ Ω') : XS (tTry K c us (fun W => tDrop (te W)) Wo) D F0 Γ Ω :=
  xs_tryX hm (fun W hw => xs_dropX (h W hw)) hs
/-- the exception's state is the caller's -/
theorem xr_callS0 {As : List VA} {t : TA} {W : WX} {Pre : PreT} {PreX : PreXX} (ha : XA t Γ Ω As Ω1) (hp : PreX As Ω1 (RX C Ω1)) (hw : WTk W C F0 Γ Ω1) : XR (tCallS (sp2 Pre PreX) (WE W) t) F0 Γ Ω := xr_callS ha hp hw
end
/-! a value or None, a value or a text -/
inductive EN (α : Type) where
  | ok (a : α)
  | no
inductive ES (α : Type) where
  | ok (a : α)
  | s (t : Str)
instance {α : Type} [Rp α] : Rp (EN α) := ⟨fun T F v x => match x with | .ok a => Rp.rep T F v a | .no => v = .non, fun {T F F' v a} e h => by
  cases a with
  | ok a => exact Rp.mono e h
  | no => exact h⟩
instance {α : Type} [Rp α] : Rp (ES α) := ⟨fun T F v x => match x with | .ok a => Rp.rep T F v a | .s t => v = .str t, fun {T F F' v a} e h => by
  cases a with
  | ok a => exact Rp.mono e h
  | s t => exact h⟩
def EN.get {α : Type} : EN α → Option α
  | .ok a => some a
  | .no => none
def EN.isN {α : Type} : EN α → Bool
  | .ok _ => false
  | .no => true
def ES.get {α : Type} : ES α → Option α
  | .ok a => some a
  | .s _ => none
/-- data that is neither None nor a text -/
class Tupl (α : Type) [Rp α] [Dat α] where
  n1 : ∀ a : α, PyData.eqv (Dat.dat a) .none = false
  n2 : ∀ a : α, PyData.eqv .none (Dat.dat a) = false
  s1 : ∀ (a : α) (t : Str), PyData.eqv (Dat.dat a) (.str t) = false
  s2 : ∀ (a : α) (t : Str), PyData.eqv (.str t) (Dat.dat a) = false
  nn : ∀ {T : TC} {F : Hp} {v : V} {a : α}, Rp.rep T F v a → v ≠ .non
end VL
namespace VL
open PySem L2
instance {α β : Type} [Rp α] [Rp β] [Dat α] [Dat β] : Tupl (α × β) := ⟨fun _ => rfl, fun _ => rfl, fun _ _ => rfl, fun _ _ => rfl, fun ⟨p, _, _, h, _⟩ e => by rw [h] at e; cases e⟩
instance {α β γ : Type} [Rp α] [Rp β] [Rp γ] [Dat α] [Dat β] [Dat γ] : Tupl (T3 α β γ) := ⟨fun _ => rfl, fun _ => rfl, fun _ _ => rfl, fun _ _ => rfl, fun ⟨p, _, _, _, h, _⟩ e => by rw [h] at e; cases e⟩
instance {α : Type} [Rp α] [Dat α] [Tupl α] : Dat (EN α) := ⟨fun x => match x with | .ok a => Dat.dat a | .no => .none, fun x => match x with | .ok a => Dat.ok a | .no => True, Dat.dep α, fun {T F H v a} e h => by
    cases a with
    | ok a => exact Dat.dp e h
    | no => rw [show v = V.non from h]; exact .non, fun {a} h => by
    cases a with
    | ok a => exact Dat.lay h
    | no => rfl, fun {a} => by
    cases a with
    | ok a => exact Dat.depth
    | no => exact Nat.zero_le _, fun {a b} => by
    cases a <;> cases b
    · exact Dat.eqv.trans ⟨fun h => by rw [h], fun h => EN.ok.inj h⟩
    · exact ⟨fun h => (Bool.false_ne_true ((Tupl.n1 _).symm.trans h)).elim, fun h => by cases h⟩
    · exact ⟨fun h => (Bool.false_ne_true ((Tupl.n2 _).symm.trans h)).elim, fun h => by cases h⟩
    · exact ⟨fun _ => rfl, fun _ => rfl⟩⟩
instance {α : Type} [Rp α] [Dat α] [Tupl α] : Dat (ES α) := ⟨fun x => match x with | .ok a => Dat.dat a | .s t => .str t, fun x => match x with | .ok a => Dat.ok a | .s t => Dat.ok t, Dat.dep α, fun {T F H v a} e h => by
    cases a with
    | ok a => exact Dat.dp e h
    | s t => rw [show v = V.str t from h]; exact .str _, fun {a} h => by
    cases a with
    | ok a => exact Dat.lay h
    | s t => exact h, fun {a} => by
    cases a with
    | ok a => exact Dat.depth
    | s t => exact Nat.zero_le _, fun {a b} => by
    cases a <;> cases b
    · exact Dat.eqv.trans ⟨fun h => by rw [h], fun h => ES.ok.inj h⟩
    · exact ⟨fun h => (Bool.false_ne_true ((Tupl.s1 _ _).symm.trans h)).elim, fun h => by cases h⟩
    · exact ⟨fun h => (Bool.false_ne_true ((Tupl.s2 _ _).symm.trans h)).elim, fun h => by cases h⟩
    · exact (Dat.eqv (α := Str)).trans ⟨fun h => by rw [h], fun h => ES.s.inj h⟩⟩
section
variable {T : TC} {Γ : List (Option VA)} {Ω Ω1 Ω2 : List OA} {A B : VA} {ta tb te : TE} {α : Type} [Rp α]
end
end VL
namespace VL
open PySem L2
section
variable {T : TC} {Γ : List (Option VA)} {Ω Ω0 Ω1 Ω2 : List OA} {A : VA} {As Ks : List VA} {ta te : TE}
/-- arguments, the last of which is a new thing -/
def XANw (t : TA) (Γ : List (Option VA)) (Ω : List OA) (As : List VA) (Ω2 : List OA) (o : Addr → OA) : Prop :=
  ∀ F σ H, Env F σ Γ → Holds F Ω H → ∀ Q : List V → Hp → Prop, (∀ F' vs H' q, Same F F' → Holds F' (Ω2 ++ [o q]) H' → AlA F' vs (As ++ [vr q]) → Q vs H') → t σ H Q
end
end VL

namespace VL
open PySem PySem.Spec PyProof.Rows L2
theorem op_fdivP {X : Cx} : OpR X (binaryOp .FloorDiv) (rI CDivP fun i j => .int (i / j)) := opI fun i j _ _ _ _ _ hc q => by
  have h1 : (0 : Int) < j := hc.1
  exact floordiv_int (by omega) (by rw [Int.fdiv_eq_ediv_of_nonneg i (by omega)]; exact q) (.inl hc.2)
section
variable {T : TC} {Γ : List (Option VA)} {Ω Ω1 Ω2 : List OA} {ta tb : TE} {i j : Int}
theorem xe_fdivP (h : CDivP i j) (ha : XE ta Γ Ω (va T i) Ω1) (hb : XE tb Γ Ω1 (va T j) Ω2) : XE (tOp (rI CDivP fun i j => .int (i / j)) ta tb) Γ Ω (va T (i / j)) Ω2 := xe_op ha hb (ro_intD h)
end
/-- a quotient of few bits -/
theorem cdivP_near {x y b : Nat} (hy : 0 < y) (hb : b ≤ 4000) (h : x < y * 2 ^ b) : CDivP (x : Int) (y : Int) := by
  refine ⟨by omega, ?_⟩
  unfold Builtin.divisionGoesByPylong
  have hy2 : ((y : Int) == 0) = false := by
    rw [show ((y : Int) == 0) = decide ((y : Int) = 0) from rfl]
    exact decide_eq_false (by omega)
  refine (Bool.and_eq_false_iff).mpr (.inr (decide_eq_false ?_))
  dsimp only
  rw [Int.natAbs_natCast, Int.natAbs_natCast]
  have dx : (if ((x : Int) == 0) = true then 0 else x.log2 / 30 + 1) ≤ x.log2 / 30 + 1 := by split <;> omega
  have dy : (if ((y : Int) == 0) = true then 0 else y.log2 / 30 + 1) = y.log2 / 30 + 1 := by rw [hy2]; rfl
  rw [dy]
  have h2 : x.log2 < y.log2 + 1 + b := by
    by_cases z : x = 0
    · subst z
      rw [show Nat.log2 0 = 0 by decide]
      omega
    · have h1 : y < 2 ^ (y.log2 + 1) := Nat.lt_log2_self
      refine (Nat.log2_lt z).mpr (Nat.lt_of_lt_of_le h ?_)
      rw [Nat.pow_add]
      exact Nat.mul_le_mul_right _ (Nat.le_of_lt h1)
  omega
end VL

set_option Elab.async false
set_option linter.all false
set_option maxRecDepth 100000
/-! VL46: a triple of a value, a new thing and a value. -/
namespace VL
open PySem L2
section
variable {T : TC} {Γ : List (Option VA)} {Ω Ω1 Ω2 : List OA} {A B : VA} {te t0 td tl : TE}
def RNT (T : TC) (Ω2 : List OA) (o : Addr → OA) (A B : VA) : Hp → V → List OA → Prop := fun F v Ω' => ∃ p t x w, v = .ref t ∧ SqT T.K F t [x, .ref p, w] ∧ A.P F x ∧ B.P F w ∧ Ω' = Ω2 ++ [o p]
def RNTQ (T : TC) (Ω2 : List OA) (p : Addr) (A B : VA) : Hp → V → List OA → Prop := fun F v Ω' => ∃ t x w, v = .ref t ∧ SqT T.K F t [x, .ref p, w] ∧ A.P F x ∧ B.P F w ∧ Ω' = Ω2
theorem xg_tupNT {p : Addr} {t : TA} (h : XA t Γ Ω [A, vr p, B] Ω1) : XG (tTup t) Γ Ω (RNTQ T Ω1 p A B) := fun F σ H e hh Q q => by
  refine h F σ H e hh _ fun F1 xs H1 e1 hh1 a1 => ?_
  cases a1 with
  | cons b0 a1 =>
    obtain ⟨v, w, rfl, b1, b2⟩ := alA2 a1
    have b1 : v = V.ref p := b1
    subst b1
    refine ⟨by show 3 ≤ sizeLine; decide, fun d hd => ?_⟩
    obtain ⟨hh2, e2⟩ := hh1.newF (u := .tup [_, .ref p, w]) hd
    exact q _ _ _ _ (e1.trans e2) hh2 ⟨d, _, w, rfl, SqT.of upd_same, A.mono e2 b0, B.mono e2 b2, rfl⟩
theorem RT.handNT {F0 : Hp} {Q : VK} {o : Addr → OA} {p : Addr} {j : Nat} {ks : List (Nat × OA)} {L : List OA} (k : RT F0 (RNT T (stt Ω ks []) o A B) Q) (hj : L[j]? = some (o p)) : RT F0 (RNTQ T (stt Ω ks L) p A B) Q := fun F v H Ω' f hh ⟨t, x, w, a, b, c, d, e⟩ => by
  subst e
  refine k F v H _ f (Holds.sel (Ω := apk Ω ks) hh hj) ⟨p, t, x, w, a, b, c, d, ?_⟩
  rw [stt_nil]
theorem RT.allNT {F0 : Hp} {Q : VK} {o : Addr → OA} {ks : List (Nat × OA)} {L : List OA} (k : RT F0 (RNT T (stt Ω ks []) o A B) Q) : RT F0 (RNT T (stt Ω ks L) o A B) Q := fun F v H Ω' f hh ⟨p, t, x, w, a, b, c, d, e⟩ => by
  subst e
  rw [stt_app] at hh
  refine k F v H _ f (Holds.sel (Ω := apk Ω ks) (o := o p) (j := L.length) hh app_at) ⟨p, t, x, w, a, b, c, d, ?_⟩
  rw [stt_nil]
theorem xg_tup3N {ks : List (Nat × OA)} {L : List OA} {o : Addr → OA} {Ω0 : List OA} (h0 : XE t0 Γ Ω0 A (stt Ω ks L)) (h1 : XG td Γ (stt Ω ks L) (RN (stt Ω ks L) o)) (h2 : ∀ p, XE tl Γ (stt Ω ks (L ++ [o p])) B (stt Ω ks (L ++ [o p]))) :
    XG (tTup (tCons t0 (tCons td (tCons tl tNil)))) Γ Ω0 (RNT T (stt Ω ks L) o A B) := fun F σ H e hh Q q => by
  refine h0 F σ H e hh _ fun F1 x H1 Ω' e1 hh1 ⟨a1, o1⟩ => ?_
  subst o1
  refine h1 F1 σ H1 (e.mono e1) hh1 _ fun F2 y H2 Ω'' e2 hh2 ⟨p, a2, o2⟩ => ?_
  subst o2 a2
  rw [stt_app] at hh2
  refine h2 p F2 σ H2 ((e.mono e1).mono e2) hh2 _ fun F3 z H3 Ω3 e3 hh3 ⟨a3, o3⟩ => ?_
  subst o3
  refine ⟨by show 3 ≤ sizeLine; decide, fun d hd => ?_⟩
  obtain ⟨hh4, e4⟩ := hh3.newF (u := .tup [x, .ref p, z]) hd
  exact q _ _ _ _ (((e1.trans e2).trans e3).trans e4) hh4 ⟨p, d, x, z, rfl, SqT.of upd_same, A.mono ((e2.trans e3).trans e4) a1, B.mono e4 a3, stt_app.symm⟩
theorem xn_callNT {Pre : PreT} {E : XK} {t : TA} {As : List VA} {Ω' : List OA} {o : Addr → OA} (ha : XA t Γ Ω As Ω1) (hp : Pre As Ω1 (RNT T Ω' o A B)) (he : Ω' = Ω2) : XG (tCall (mkSp Pre) [] E t) Γ Ω (RNT T Ω2 o A B) := he ▸ xg_call ha hp
theorem xs_asgNT {D : Ends} {F0 : Hp} {ts : TS} {i j k : Nat} {ks : List (Nat × OA)} {L : List OA} {o : Addr → OA} {Ω0 : List OA} (h : XG te Γ Ω0 (RNT T (stt Ω ks L) o A B))
    (q : ∀ p, XS ts D F0 (((Γ.set i (some A)).set j (some (vr p))).set k (some B)) (stt Ω ks (L ++ [o p]))) : XS (tSeq (tAsg te (gTup T.K 3 (gCons (gName i) (gCons (gName j) (gCons (gName k) gNil))))) ts) D F0 Γ Ω0 := fun σ H ⟨F, f0, e, hh⟩ =>
  h F σ H e hh _ fun F1 v H1 Ω' e1 hh1 ⟨p, t, x, w, a, b, c, d, eo⟩ => by
    subst eo
    rw [stt_app] at hh1
    exact ⟨t, [x, .ref p, w], a, Same.tup hh1.same b, rfl, x, [.ref p, w], rfl, .ref p, [w], rfl, w, [], rfl, rfl, q p _ H1 ⟨F1, f0.trans e1, (((e.mono e1).set c).set (A := vr p) rfl).set d, hh1⟩⟩
end
end VL

set_option Elab.async false
set_option linter.all false
/-! the mathematics: loops by invariants, digits, bits -/
namespace VL
open PySem L2
theorem chkP_eq {p : Prop} (h : p) : chkP p = some () := by unfold chkP; exact if_pos h
theorem bnd_of {α β : Type} {o : Option α} {a : α} {f : α → Option β} {r : Option β} (h : o = some a) (k : f a = r) : o.bind f = r := by rw [h]; exact k
theorem nxt_nx {S ρ : Type} {s : S} : nxt (Stp.nx (ρ := ρ) s) = some s := rfl
/-! ### loops -/
section
variable {α S ρ : Type} {b : α → S → Option (Stp S ρ)}
theorem forM_cons {x : α} {r : List α} {s s' : S} (h : b x s = some (.nx s')) : forM' b (x :: r) s = forM' b r s' := by
  show (b x s).bind _ = _
  rw [h]
  rfl
theorem forM_ind (I : Nat → S → Prop) : ∀ (xs : List α) (k : Nat) (s : S), (∀ i x s, xs[i]? = some x → I (k + i) s → ∃ s', b x s = some (.nx s') ∧ I (k + i + 1) s') → I k s → ∃ s', forM' b xs s = some (.nx s') ∧ I (k + xs.length) s'
  | [], k, s, _, h => ⟨s, rfl, h⟩
  | x :: r, k, s, hs, h => by
    obtain ⟨s1, e1, i1⟩ := hs 0 x s rfl h
    obtain ⟨s2, e2, i2⟩ := forM_ind I r (k + 1) s1 (fun i y t hy ht => by
      obtain ⟨t', e, q⟩ := hs (i + 1) y t hy (by rw [show k + (i + 1) = k + 1 + i from by omega]; exact ht)
      exact ⟨t', e, by rw [show k + 1 + i + 1 = k + (i + 1) + 1 from by omega]; exact q⟩) i1
    exact ⟨s2, by rw [forM_cons e1, e2], by rw [List.length_cons, show k + (r.length + 1) = k + 1 + r.length from by omega]; exact i2⟩
theorem whileM_f {c : S → Option Bool} {bd : S → Option (Stp S ρ)} {n : Nat} {s : S} (h : c s = some false) : whileM c bd (n + 1) s = some (.nx s) := by
  show (c s).bind _ = _
  rw [h]
  rfl
theorem whileM_t {c : S → Option Bool} {bd : S → Option (Stp S ρ)} {n : Nat} {s s' : S} (h : c s = some true) (h2 : bd s = some (.nx s')) : whileM c bd (n + 1) s = whileM c bd n s' := by
  show (c s).bind _ = _
  rw [h]
  show (bd s).bind _ = _
  rw [h2]
  rfl
end
theorem lcM_mapU {β γ : Type} {b : β → Unit → Option (Option γ × Unit)} {f : β → γ} : ∀ {xs : List β}, (∀ x ∈ xs, b x () = some (some (f x), ())) → lcM b xs () = some (xs.map f, ())
  | [], _ => rfl
  | x :: r, h => by
    show (b x ()).bind _ = _
    rw [h x List.mem_cons_self]
    show (lcM b r ()).bind _ = _
    rw [lcM_mapU fun y hy => h y (List.mem_cons_of_mem _ hy)]
    rfl
/-! ### bits -/
def bl (a : Nat) : Nat := if a = 0 then 0 else a.log2 + 1
theorem intBits_nat (a : Nat) : Builtin.Int.intBits (a : Int) = bl a := by
  unfold Builtin.Int.intBits bl
  by_cases h : a = 0
  · subst h; rfl
  · rw [if_neg h, if_neg (by simpa using h), Int.natAbs_natCast]
def pc (a : Nat) : Nat := if h : a = 0 then 0 else a % 2 + pc (a / 2)
termination_by a
decreasing_by omega
/-! ### digits -/
def dg (w a : Nat) : List Int := if h : a = 0 ∨ w = 0 then [] else ((a % 2 ^ w : Nat) : Int) :: dg w (a / 2 ^ w)
termination_by a
decreasing_by
  have h1 : a ≠ 0 := fun e => h (.inl e)
  have h2 : w ≠ 0 := fun e => h (.inr e)
  exact Nat.div_lt_self (by omega) (Nat.one_lt_two_pow h2)
theorem dg_zero (w : Nat) : dg w 0 = [] := by unfold dg; rfl
theorem dg_pos {w a : Nat} (hw : w ≠ 0) (h : a ≠ 0) : dg w a = ((a % 2 ^ w : Nat) : Int) :: dg w (a / 2 ^ w) := by
  rw [dg, dif_neg (fun e => e.elim h hw)]
theorem dg_ind {w : Nat} (hw : w ≠ 0) {p : Nat → Prop} (h0 : p 0) (hs : ∀ a, a ≠ 0 → p (a / 2 ^ w) → p a) : ∀ a, p a := fun a => by
  induction a using Nat.strongRecOn with
  | ind a ih =>
    by_cases h : a = 0
    · subst h; exact h0
    · exact hs a h (ih _ (Nat.div_lt_self (by omega) (Nat.one_lt_two_pow hw)))
section
variable {w : Nat} (hw : w ≠ 0)
include hw
theorem dg_mem : ∀ a, ∀ x ∈ dg w a, ∃ d : Nat, x = (d : Int) ∧ d < 2 ^ w := by
  refine dg_ind hw (fun x hx => by rw [dg_zero] at hx; cases hx) fun a h ih x hx => ?_
  rw [dg_pos hw h] at hx
  rcases List.mem_cons.mp hx with e | e
  · exact ⟨_, e, Nat.mod_lt _ (Nat.two_pow_pos w)⟩
  · exact ih x e
theorem dg_len : ∀ a m, a < 2 ^ (w * m) → (dg w a).length ≤ m := by
  refine dg_ind hw (fun m _ => by rw [dg_zero]; exact Nat.zero_le _) fun a h ih m hm => ?_
  rw [dg_pos hw h, List.length_cons]
  cases m with
  | zero => rw [Nat.mul_zero, Nat.pow_zero] at hm; omega
  | succ m =>
    have := ih m (by
      rw [Nat.div_lt_iff_lt_mul (Nat.two_pow_pos w), ← Nat.pow_add, show w * m + w = w * (m + 1) from by rw [Nat.mul_succ]]
      exact hm)
    omega
end
/-! ### rows from the last digit on, compared -/
def vm (B : Int) : List Int → Int
  | [] => 0
  | d :: r => d * B ^ r.length + vm B r
theorem vm_snoc {B : Int} : ∀ {r : List Int} {d : Int}, vm B (r ++ [d]) = vm B r * B + d
  | [], d => by show d * B ^ 0 + 0 = 0 * B + d; simp
  | e :: r, d => by
    show e * B ^ (r ++ [d]).length + vm B (r ++ [d]) = (e * B ^ r.length + vm B r) * B + d
    rw [vm_snoc (r := r), List.length_append, show [d].length = 1 from rfl, Int.pow_succ, Int.add_mul, ← Int.mul_assoc, Int.add_assoc]
theorem vm_bound {B : Int} (hB : 0 < B) : ∀ {r : List Int}, (∀ x ∈ r, 0 ≤ x ∧ x < B) → 0 ≤ vm B r ∧ vm B r < B ^ r.length
  | [], _ => ⟨Int.le_refl _, by show (0 : Int) < B ^ 0; rw [Int.pow_zero]; decide⟩
  | d :: r, h => by
    obtain ⟨i0, i1⟩ := vm_bound hB (r := r) fun x hx => h x (List.mem_cons_of_mem _ hx)
    obtain ⟨d0, d1⟩ := h d List.mem_cons_self
    have hp : 0 < B ^ r.length := Int.pow_pos hB
    have h0 : 0 ≤ d * B ^ r.length := Int.mul_nonneg d0 (by omega)
    have h1 : (d + 1) * B ^ r.length ≤ B * B ^ r.length := Int.mul_le_mul_of_nonneg_right (by omega) (by omega)
    rw [Int.add_mul, Int.one_mul] at h1
    show 0 ≤ d * B ^ r.length + vm B r ∧ d * B ^ r.length + vm B r < B ^ (r.length + 1)
    rw [Int.pow_succ, Int.mul_comm (B ^ r.length) B]
    omega
theorem vm_dg {w : Nat} (hw : w ≠ 0) : ∀ a : Nat, vm (2 ^ w) (dg w a).reverse = (a : Int) := by
  refine dg_ind hw (by rw [dg_zero]; rfl) fun a h ih => ?_
  rw [dg_pos hw h, List.reverse_cons, vm_snoc, ih]
  have := Nat.div_add_mod a (2 ^ w)
  have q : (a : Int) = ((2 ^ w * (a / 2 ^ w) + a % 2 ^ w : Nat) : Int) := by rw [this]
  conv => rhs; rw [q]
  push_cast
  rw [Int.mul_comm]
theorem dg_bound {w : Nat} (hw : w ≠ 0) (a : Nat) : a < 2 ^ (w * (dg w a).length) := by
  have h := (vm_bound (B := 2 ^ w) (Int.pow_pos (by decide)) (r := (dg w a).reverse) fun x hx => by
    obtain ⟨d, rfl, lt⟩ := dg_mem hw a x (List.mem_reverse.mp hx)
    have : ((d : Nat) : Int) < ((2 ^ w : Nat) : Int) := Int.ofNat_lt.mpr lt
    rw [Int.natCast_pow] at this
    exact ⟨by omega, this⟩).2
  rw [vm_dg hw, List.length_reverse] at h
  have e : (((2 ^ w) ^ (dg w a).length : Nat) : Int) = ((2 : Int) ^ w) ^ (dg w a).length := by rw [Int.natCast_pow, Int.natCast_pow]; rfl
  rw [← e] at h
  rw [Nat.pow_mul]
  exact Int.ofNat_lt.mp h
def cp : List Int → List Int → Nat
  | x :: r, y :: t => if x = y then cp r t + 1 else 0
  | _, _ => 0
end VL

set_option Elab.async false
set_option linter.all false
/-! rows from the first digit on; masks of any number -/
namespace VL
open PySem L2
theorem mod_neg (t : Nat) {M : Nat} (hM : 0 < M) : (-(t : Int) - 1) % (M : Int) = (M : Int) - 1 - ((t % M : Nat) : Int) := by
  have h := Nat.div_add_mod t M
  have lt := Nat.mod_lt t hM
  have e : (-(t : Int) - 1) = ((M : Int) - 1 - ((t % M : Nat) : Int)) + (M : Int) * (-((t / M : Nat) : Int) - 1) := by
    have q : (t : Int) = ((M * (t / M) + t % M : Nat) : Int) := by rw [h]
    rw [q, Int.mul_sub, Int.mul_neg, Int.mul_one]
    push_cast
    omega
  rw [e, Int.add_mul_emod_self_left, Int.emod_eq_of_lt (by omega) (by omega)]
theorem and_low (x : Int) (W : Nat) : Builtin.bitAnd x ((2 ^ W - 1 : Nat) : Int) = x % 2 ^ W := by
  have hp : 0 < 2 ^ W := Nat.two_pow_pos W
  have e2 : ((2 : Int) ^ W) = ((2 ^ W : Nat) : Int) := by rw [Int.natCast_pow]; rfl
  rw [e2]
  by_cases h : 0 ≤ x
  · obtain ⟨a, rfl⟩ := Int.eq_ofNat_of_zero_le h
    rw [PySem.W.os_band, Nat.and_two_pow_sub_one_eq_mod]
    exact Int.natCast_emod _ _
  · obtain ⟨t, ht⟩ := Int.eq_ofNat_of_zero_le (a := -x - 1) (by omega)
    have ex : x = -(t : Int) - 1 := by omega
    have en : Builtin.bitNot x = (t : Int) := by show -x - 1 = (t : Int); exact ht
    unfold Builtin.bitAnd
    rw [decide_eq_false h, decide_eq_true (show (0 : Int) ≤ ((2 ^ W - 1 : Nat) : Int) from by omega)]
    show ((2 ^ W - 1 : Nat) : Int) - (((((2 ^ W - 1 : Nat) : Int)).toNat &&& (Builtin.bitNot x).toNat : Nat) : Int) = _
    rw [en, Int.toNat_natCast, Int.toNat_natCast, Nat.and_comm, Nat.and_two_pow_sub_one_eq_mod, ex, mod_neg t hp]
    omega
def lv (B : Int) : List Int → Int
  | [] => 0
  | d :: r => d + B * lv B r
theorem lv_snoc {B : Int} : ∀ {r : List Int} {d : Int}, lv B (r ++ [d]) = lv B r + d * B ^ r.length
  | [], d => by show d + B * 0 = 0 + d * B ^ 0; simp
  | e :: r, d => by
    show e + B * lv B (r ++ [d]) = (e + B * lv B r) + d * B ^ (r.length + 1)
    rw [lv_snoc (r := r), Int.mul_add, Int.pow_succ, Int.mul_comm B (d * B ^ r.length), Int.mul_assoc d]
    omega
theorem lv_bound {B : Int} (hB : 0 < B) : ∀ {r : List Int}, (∀ x ∈ r, 0 ≤ x ∧ x < B) → 0 ≤ lv B r ∧ lv B r < B ^ r.length
  | [], _ => ⟨Int.le_refl _, by show (0 : Int) < B ^ 0; rw [Int.pow_zero]; decide⟩
  | d :: r, h => by
    obtain ⟨i0, i1⟩ := lv_bound hB (r := r) fun x hx => h x (List.mem_cons_of_mem _ hx)
    obtain ⟨d0, d1⟩ := h d List.mem_cons_self
    have h0 : 0 ≤ B * lv B r := Int.mul_nonneg (by omega) i0
    have h1 : B * (lv B r + 1) ≤ B * B ^ r.length := Int.mul_le_mul_of_nonneg_left (by omega) (by omega)
    rw [Int.mul_add, Int.mul_one] at h1
    show 0 ≤ d + B * lv B r ∧ d + B * lv B r < B ^ (r.length + 1)
    rw [Int.pow_succ, Int.mul_comm (B ^ r.length) B]
    omega
theorem lv_split {B : Int} : ∀ (m : Nat) (l : List Int), m ≤ l.length → lv B l = lv B (l.take m) + B ^ m * lv B (l.drop m)
  | 0, l, _ => by rw [List.take_zero, List.drop_zero, Int.pow_zero, Int.one_mul]; show lv B l = 0 + lv B l; omega
  | m + 1, [], h => absurd h (by rw [List.length_nil]; omega)
  | m + 1, d :: r, h => by
    rw [List.take_succ_cons, List.drop_succ_cons]
    show d + B * lv B r = (d + B * lv B (r.take m)) + B ^ (m + 1) * lv B (r.drop m)
    rw [lv_split m r (by rw [List.length_cons] at h; omega), Int.mul_add, Int.pow_succ, Int.mul_comm (B ^ m) B, Int.mul_assoc]
    omega
end VL

set_option Elab.async false
set_option linter.all false
/-! sizes; rows of so many digits; differences -/
namespace VL
open PySem L2
theorem intBits_abs (n : Int) : Builtin.Int.intBits n = bl n.natAbs := by
  rw [← intBits_nat]
  unfold Builtin.Int.intBits
  rw [Int.natAbs_natCast]
  by_cases h : n = 0
  · subst h; rfl
  · rw [if_neg (by simpa using h), if_neg (by simpa using h)]
theorem bl_lt (a : Nat) : a < 2 ^ bl a := by
  unfold bl
  by_cases h : a = 0
  · subst h; decide
  · rw [if_neg h]; exact Nat.lt_log2_self
theorem bl_le {a k : Nat} : bl a ≤ k ↔ a < 2 ^ k := by
  constructor
  · intro h
    exact Nat.lt_of_lt_of_le (bl_lt a) (Nat.pow_le_pow_right (by decide) h)
  · intro h
    unfold bl
    by_cases e : a = 0
    · rw [if_pos e]; exact Nat.zero_le _
    · rw [if_neg e]
      have := (Nat.log2_lt e).mpr h
      omega
/-- how many digits -/
def sz (W a : Nat) : Nat := (bl a + W - 1) / W
theorem sz_le {W : Nat} (hw : W ≠ 0) {a k : Nat} : sz W a ≤ k ↔ a < 2 ^ (W * k) := by
  rw [← bl_le]
  unfold sz
  constructor
  · intro h
    have h1 := Nat.div_add_mod (bl a + W - 1) W
    have h2 := Nat.mod_lt (bl a + W - 1) (Nat.pos_of_ne_zero hw)
    have h3 : W * ((bl a + W - 1) / W) ≤ W * k := Nat.mul_le_mul_left W h
    omega
  · intro h
    have : bl a + W - 1 < W * (k + 1) := by rw [Nat.mul_succ]; omega
    have := (Nat.div_lt_iff_lt_mul (Nat.pos_of_ne_zero hw)).mpr (by rw [Nat.mul_comm]; exact this : bl a + W - 1 < (k + 1) * W)
    omega
theorem eq_of_le {x y : Nat} (h : ∀ k, x ≤ k ↔ y ≤ k) : x = y := by
  have h1 := (h y).mpr (Nat.le_refl _)
  have h2 := (h x).mp (Nat.le_refl _)
  omega
theorem dg_size {W : Nat} (hw : W ≠ 0) (a : Nat) : (dg W a).length = sz W a := eq_of_le fun k => by
  rw [sz_le hw]
  exact ⟨fun h => Nat.lt_of_lt_of_le (dg_bound hw a) (Nat.pow_le_pow_right (by decide) (Nat.mul_le_mul_left W h)), fun h => dg_len hw a k h⟩
theorem sz_zero {W : Nat} (hw : W ≠ 0) {a : Nat} : sz W a = 0 ↔ a = 0 := by
  have h := sz_le hw (a := a) (k := 0)
  rw [Nat.mul_zero, Nat.pow_zero] at h
  omega
/-! rows of so many digits -/
def rw_ (W : Nat) (n : Int) : Nat → List Int
  | 0 => []
  | k + 1 => (n % 2 ^ W) :: rw_ W (n / 2 ^ W) k
theorem p2 (k : Nat) : (2 : Int) ^ k = ((2 ^ k : Nat) : Int) := by rw [Int.natCast_pow]; rfl
theorem ppos (k : Nat) : (0 : Int) < 2 ^ k := Int.pow_pos (by decide)
theorem rw_len (W : Nat) : ∀ (k : Nat) (n : Int), (rw_ W n k).length = k
  | 0, _ => rfl
  | k + 1, n => by show (rw_ W (n / 2 ^ W) k).length + 1 = _; rw [rw_len W k]
theorem ediv_pow (n : Int) (a b : Nat) : n / 2 ^ a / 2 ^ b = n / 2 ^ (a + b) := by
  rw [Int.pow_add, Int.ediv_ediv_of_nonneg (Int.le_of_lt (ppos a))]
theorem rw_app (W : Nat) : ∀ (k : Nat) (n : Int) (m : Nat), rw_ W n (k + m) = rw_ W n k ++ rw_ W (n / 2 ^ (k * W)) m
  | 0, n, m => by rw [Nat.zero_mul, Int.pow_zero, Int.ediv_one, Nat.zero_add]; rfl
  | k + 1, n, m => by
    rw [show k + 1 + m = (k + m) + 1 from by omega]
    show (n % 2 ^ W) :: rw_ W (n / 2 ^ W) (k + m) = _
    rw [rw_app W k, ediv_pow, show W + k * W = (k + 1) * W from by rw [Nat.succ_mul]; omega]
    rfl
theorem mod_div_pow (n : Int) (a b : Nat) : n % 2 ^ (a + b) / 2 ^ a = n / 2 ^ a % 2 ^ b := by
  have ha := ppos a
  have hb := ppos b
  have e : n % 2 ^ (a + b) = n - 2 ^ (a + b) * (n / 2 ^ (a + b)) := Int.emod_def ..
  rw [e, ← ediv_pow, Int.pow_add, Int.mul_assoc, Int.sub_eq_add_neg, ← Int.mul_neg, Int.add_mul_ediv_left _ _ (by omega), Int.emod_def]
  omega
theorem mod_mod_pow (n : Int) (a b : Nat) : n % 2 ^ (a + b) % 2 ^ a = n % 2 ^ a := by
  rw [Int.pow_add]
  exact Int.emod_emod_of_dvd n (Int.dvd_mul_right _ _)
theorem rw_mod (W : Nat) : ∀ (k : Nat) (n : Int), rw_ W (n % 2 ^ (k * W)) k = rw_ W n k
  | 0, _ => rfl
  | k + 1, n => by
    show ((n % 2 ^ ((k + 1) * W)) % 2 ^ W) :: rw_ W (n % 2 ^ ((k + 1) * W) / 2 ^ W) k = (n % 2 ^ W) :: rw_ W (n / 2 ^ W) k
    rw [show (k + 1) * W = W + k * W from by rw [Nat.succ_mul]; omega, mod_mod_pow, mod_div_pow, rw_mod W k]
theorem rw_dg {W : Nat} (hw : W ≠ 0) (a : Nat) : rw_ W (a : Int) (sz W a) = dg W a := by
  rw [← dg_size hw]
  revert a
  refine dg_ind hw (by rw [dg_zero]; rfl) fun a h ih => ?_
  rw [dg_pos hw h]
  show ((a : Int) % 2 ^ W) :: rw_ W ((a : Int) / 2 ^ W) (dg W (a / 2 ^ W)).length = _
  rw [p2, ← Int.natCast_emod, ← Int.natCast_ediv, ih]
theorem nat_of {n : Int} {k : Nat} (h0 : 0 ≤ n) (h : n < 2 ^ k) : n.natAbs < 2 ^ k := by
  rw [p2] at h
  omega
theorem int_of {n : Int} {k : Nat} (h : n.natAbs < 2 ^ k) : -(2 ^ k) < n ∧ n < 2 ^ k := by
  rw [p2]
  omega
theorem shl_ok {n i : Int} {k : Nat} (h : n.natAbs < 2 ^ k) (h0 : 0 ≤ i) (h2 : (k : Int) + i ≤ 2 ^ 27) : CShl n i := ⟨h0, by
  rw [intBits_abs]
  have := bl_le.mpr h
  omega⟩
theorem mul_small {a b : Int} (h : a.natAbs < 2 ^ 64) : IntMulOk a b := by
  have h := int_of h
  exact .of_left (PySem.intBits_le_64 h.1 h.2)
theorem mul_small' {a b : Int} (h : b.natAbs < 2 ^ 64) : IntMulOk a b := by
  have h := int_of h
  exact .of_right (PySem.intBits_le_64 h.1 h.2)
end VL
/-! ### a value that is there, and of which something holds -/
namespace VL
open PySem L2
def Sat {α : Type} (o : Option α) (P : α → Prop) : Prop := ∃ r, o = some r ∧ P r
section
variable {α β S ρ : Type} {o : Option α} {P : α → Prop} {Q : β → Prop} {f : α → Option β} {a : α}
theorem sat_bind (h : Sat o P) (k : ∀ r, P r → Sat (f r) Q) : Sat (o.bind f) Q := by
  obtain ⟨r, e, p⟩ := h
  rw [e]
  exact k r p
theorem sat_eq (h : o = some a) (k : Sat (f a) Q) : Sat (o.bind f) Q := by rw [h]; exact k
theorem sat_let (k : Sat (f a) Q) : Sat ((some a).bind f) Q := k
theorem sat_chk {p : Prop} {f : Unit → Option β} (h : p) (k : Sat (f ()) Q) : Sat ((chkP p).bind f) Q := by rw [chkP_eq h]; exact k
theorem sat_some {a : β} (h : Q a) : Sat (some a) Q := ⟨a, rfl, h⟩
theorem sat_ite {c : Bool} {x y : Option β} (h1 : c = true → Sat x Q) (h2 : c = false → Sat y Q) : Sat (if c = true then x else y) Q := by
  cases c with
  | true => rw [if_pos rfl]; exact h1 rfl
  | false => rw [if_neg Bool.false_ne_true]; exact h2 rfl
theorem sat_get (h : Sat o (fun r => r = a)) : o = some a := by
  obtain ⟨r, e, p⟩ := h
  rw [e, p]
variable {γ : Type}
theorem sat_for {b : γ → S → Option (Stp S ρ)} {xs : List γ} {s0 : S} {g : Stp S ρ → Option β} (I : Nat → S → Prop)
    (h : ∀ i x s, xs[i]? = some x → I i s → Sat (b x s) (fun st => ∃ s', st = .nx s' ∧ I (i + 1) s')) (h0 : I 0 s0) (k : ∀ s, I xs.length s → Sat (g (.nx s)) Q) : Sat ((forM' b xs s0).bind g) Q := by
  obtain ⟨s', e, i⟩ := forM_ind (b := b) I xs 0 s0 (fun i x s hx hi => by
    rw [Nat.zero_add] at hi
    obtain ⟨st, e, s', e2, q⟩ := h i x s hx hi
    exact ⟨s', by rw [e, e2], by rw [Nat.zero_add]; exact q⟩) h0
  rw [e]
  rw [Nat.zero_add] at i
  exact k s' i
theorem sat_forA {b : γ → S → Option (Stp S ρ)} {xs : List γ} {s0 : S} {g : Stp S ρ → Option β} (I : S → Prop)
    (h : ∀ x ∈ xs, ∀ s, I s → Sat (b x s) (fun st => ∃ s', st = .nx s' ∧ I s')) (h0 : I s0) (k : ∀ s, I s → Sat (g (.nx s)) Q) : Sat ((forM' b xs s0).bind g) Q :=
  sat_for (fun _ => I) (fun i x s hx hi => h x (List.mem_of_getElem? hx) s hi) h0 fun s hi => k s hi
theorem sat_nx {s : S} {g : S → Option β} (k : Sat (g s) Q) : Sat ((nxt (Stp.nx (ρ := ρ) s)).bind g) Q := k
theorem sat_end {s : S} {I : S → Prop} (h : I s) : Sat (some (Stp.nx (ρ := ρ) s)) (fun st => ∃ s', st = .nx s' ∧ I s') := ⟨_, rfl, s, rfl, h⟩
end
theorem rng_len (lo : Int) (n : Nat) : (rng lo n).length = n := by unfold rng; rw [List.length_map, List.length_range]
theorem sat_atI {α β : Type} {Q : β → Prop} {l : List α} {i : Int} {f : α → Option β} (h0 : 0 ≤ i) (h : i < (l.length : Int)) (k : ∀ x ∈ l, Sat (f x) Q) : Sat ((atI l i).bind f) Q := by
  obtain ⟨n, rfl⟩ := Int.eq_ofNat_of_zero_le h0
  have lt : n < l.length := by omega
  rw [atI_nat (List.getElem?_eq_getElem lt)]
  exact k _ (List.getElem_mem lt)
theorem cdiv_s {i j : Int} (h : 0 < j) (h2 : j < 2 ^ 64) : CDivW i j := ⟨h, by
  have : j.natAbs < 2 ^ 64 := by omega
  have h0 : j.natAbs ≠ 0 := by omega
  have := (Nat.log2_lt h0 (k := 64)).mpr this
  omega⟩
theorem size_lt {n m : Nat} (h : n ≤ m) (hm : m < 16777216) : n < sizeLine := Nat.lt_of_le_of_lt h (by show m < 2 ^ 24; exact hm)
theorem size_le {n m : Nat} (h : n ≤ m) (hm : m ≤ 16777216) : n ≤ sizeLine := Nat.le_trans h (by show m ≤ 2 ^ 24; exact hm)
/-! ### what a machine has counted -/
theorem nd_le {α : Type} [DecidableEq α] : ∀ {l m : List α}, l.Nodup → (∀ x ∈ l, x ∈ m) → l.length ≤ m.length
  | [], _, _, _ => Nat.zero_le _
  | x :: r, m, h, s => by
    obtain ⟨h1, h2⟩ := List.nodup_cons.mp h
    have hx := s x List.mem_cons_self
    have := nd_le (l := r) (m := m.erase x) h2 fun y hy => (List.mem_erase_of_ne (fun e => h1 (by rw [← e]; exact hy))).mpr (s y (List.mem_cons_of_mem _ hy))
    rw [List.length_erase_of_mem hx] at this
    have := List.length_pos_of_mem hx
    rw [List.length_cons]
    omega
/-- the words with numbers above 0 -/
def posL (l : List (Str × Int)) : List (Str × Int) := l.filter fun p => decide (0 < p.2)
theorem lookup_of {l : List (Str × Int)} (hd : (l.map (·.1)).Nodup) {x : Str × Int} (h : x ∈ l) : l.lookup x.1 = some x.2 := by
  induction l with
  | nil => cases h
  | cons a r ih =>
    rw [List.map_cons] at hd
    obtain ⟨h1, h2⟩ := List.nodup_cons.mp hd
    rw [show (a :: r) = ((a.1, a.2) :: r) from rfl, List.lookup_cons]
    rcases List.mem_cons.mp h with e | e
    · subst e; rw [beq_self_eq_true]
    · have ne : (x.1 == a.1) = false := by
        cases q : x.1 == a.1 with
        | false => rfl
        | true => exact absurd (List.mem_map.mpr ⟨x, e, by rw [beq_iff_eq.mp q]⟩) h1
      rw [ne]
      exact ih h2 e
theorem mem_lookup {l : List (Str × Int)} {k : Str} {v : Int} (h : l.lookup k = some v) : (k, v) ∈ l := by
  induction l with
  | nil => cases h
  | cons a r ih =>
    rw [show (a :: r) = ((a.1, a.2) :: r) from rfl, List.lookup_cons] at h
    cases q : k == a.1 with
    | true =>
      rw [q] at h
      have h := Option.some.inj h
      rw [beq_iff_eq.mp q, ← h]
      exact List.mem_cons_self
    | false => rw [q] at h; exact List.mem_cons_of_mem _ (ih h)
theorem same_of {l m : List (Str × Int)} (h1 : (l.map (·.1)).Nodup) (h2 : (m.map (·.1)).Nodup) (h : ∀ x, x ∈ l ↔ x ∈ m) : sameD l m := by
  have nd : ∀ {l : List (Str × Int)}, (l.map (·.1)).Nodup → l.Nodup := fun {l} h => by
    induction l with
    | nil => exact List.nodup_nil
    | cons a r ih =>
      rw [List.map_cons] at h
      obtain ⟨q1, q2⟩ := List.nodup_cons.mp h
      exact List.nodup_cons.mpr ⟨fun z => q1 (List.mem_map.mpr ⟨a, z, rfl⟩), ih q2⟩
  refine ⟨Nat.le_antisymm (nd_le (nd h1) fun x hx => (h x).mp hx) (nd_le (nd h2) fun x hx => (h x).mpr hx), fun x hx => lookup_of h2 ((h x).mp hx)⟩
theorem tally_keys (S : MS) : (S.tally.map (·.1)).Nodup := by
  have : S.tally.map (·.1) = mwords := by
    unfold MS.tally
    rw [List.map_map]
    exact List.map_id _
  rw [this]
  exact mwords_nd
theorem mem_tally {S : MS} {x : Str × Int} : x ∈ S.tally ↔ x.1 ∈ mwords ∧ x.2 = S.cnt x.1 := by
  unfold MS.tally
  constructor
  · intro h
    obtain ⟨w, hw, rfl⟩ := List.mem_map.mp h
    exact ⟨hw, rfl⟩
  · rintro ⟨h1, h2⟩
    exact List.mem_map.mpr ⟨x.1, h1, by rw [← h2]⟩
/-- the same above 0 -/
def Cnt (S : MS) (l : List (Str × Int)) : Prop := (l.map (·.1)).Nodup ∧ (∀ x ∈ l, x.1 ∈ mwords) ∧ ∀ w ∈ mwords, (∀ n, l.lookup w = some n → 0 < n → S.cnt w = n) ∧ (0 < S.cnt w → l.lookup w = some (S.cnt w))
theorem lcM_filter {γ : Type} {b : γ → Unit → Option (Option γ × Unit)} {p : γ → Bool} : ∀ {l : List γ}, (∀ x ∈ l, b x () = some (if p x = true then some x else none, ())) → lcM b l () = some (l.filter p, ())
  | [], _ => rfl
  | x :: r, h => by
    show (b x ()).bind _ = _
    rw [h x List.mem_cons_self, List.filter_cons]
    show (lcM b r ()).bind _ = _
    rw [lcM_filter fun y hy => h y (List.mem_cons_of_mem _ hy)]
    cases p x <;> rfl
end VL
namespace VL
open PySem L2
end VL
namespace VL
open PySem L2
theorem wk_enter {S : MS} {w : Str} {m n : Int} (h : S.wk.length < 1000) : (S.enter w m n).wk = S.wk ++ [T3.mk w m n] := by
  unfold MS.enter
  exact if_pos h
end VL
namespace VL
open PySem L2
def WkOk (l : List (T3 Str Int Int)) : Prop := ∀ x ∈ l, (PyData.str x.a).canLay0 = true
theorem wkok_dat {l : List (T3 Str Int Int)} (h : WkOk l) : Dat.ok (LF.mk l) := fun x hx => ⟨h x hx, trivial, trivial⟩
theorem wkok_nil : WkOk [] := fun x h => (by cases h)
theorem wkok_one {w : Str} {m n : Int} (hw : (PyData.str w).canLay0 = true := by decide +kernel) : WkOk [T3.mk w m n] := fun x hx => by rw [List.mem_singleton.mp hx]; exact hw
end VL
namespace VL
open PySem L2
end VL

set_option Elab.async false
set_option linter.all false
/-! bits of any integers -/
namespace VL
open PySem L2 PyProof.Rows
abbrev band := Builtin.bitAnd
theorem half (x y : Int) : band x y = 2 * band (x / 2) (y / 2) + (if x % 2 = 1 ∧ y % 2 = 1 then 1 else 0) := PySem.W.kbt_halves x y
theorem hl_div (h l : Int) (k : Nat) (h0 : 0 ≤ l) (h1 : l < 2 ^ (k + 1)) : (h * 2 ^ (k + 1) + l) / 2 = h * 2 ^ k + l / 2 ∧ (h * 2 ^ (k + 1) + l) % 2 = l % 2 ∧ 0 ≤ l / 2 ∧ l / 2 < 2 ^ k := by
  rw [Int.pow_succ] at h1 ⊢
  have e : h * (2 ^ k * 2) = 2 * (h * 2 ^ k) := by rw [← Int.mul_assoc, Int.mul_comm (h * 2 ^ k) 2]
  rw [e]
  omega
/-- both parts join by themselves -/
theorem band_split : ∀ (k : Nat) (h g l m : Int), 0 ≤ l → l < 2 ^ k → 0 ≤ m → m < 2 ^ k → band (h * 2 ^ k + l) (g * 2 ^ k + m) = band h g * 2 ^ k + band l m
  | 0, h, g, l, m, l0, l1, m0, m1 => by
    rw [Int.pow_zero] at l1 m1 ⊢
    have e1 : l = 0 := by omega
    have e2 : m = 0 := by omega
    subst e1 e2
    rw [show band 0 0 = 0 from rfl, Int.mul_one, Int.mul_one, Int.mul_one, Int.add_zero, Int.add_zero, Int.add_zero]
  | k + 1, h, g, l, m, l0, l1, m0, m1 => by
    obtain ⟨a1, a2, a3, a4⟩ := hl_div h l k l0 l1
    obtain ⟨b1, b2, b3, b4⟩ := hl_div g m k m0 m1
    rw [half (h * 2 ^ (k + 1) + l), a1, a2, b1, b2, band_split k h g _ _ a3 a4 b3 b4, half l m, Int.pow_succ, ← Int.mul_assoc, Int.mul_add, Int.mul_comm (band h g * 2 ^ k) 2]
    omega
theorem band_parts (x y : Int) (k : Nat) : band x y = band (x / 2 ^ k) (y / 2 ^ k) * 2 ^ k + band (x % 2 ^ k) (y % 2 ^ k) := by
  have hp := ppos k
  have e1 : x = x / 2 ^ k * 2 ^ k + x % 2 ^ k := (Int.mul_comm _ _ ▸ (Int.mul_ediv_add_emod x (2 ^ k)).symm)
  have e2 : y = y / 2 ^ k * 2 ^ k + y % 2 ^ k := (Int.mul_comm _ _ ▸ (Int.mul_ediv_add_emod y (2 ^ k)).symm)
  have := band_split k (x / 2 ^ k) (y / 2 ^ k) (x % 2 ^ k) (y % 2 ^ k) (Int.emod_nonneg _ (by omega)) (Int.emod_lt_of_pos _ hp) (Int.emod_nonneg _ (by omega)) (Int.emod_lt_of_pos _ hp)
  rwa [← e1, ← e2] at this
theorem band_nn {l m : Int} {k : Nat} (h0 : 0 ≤ l) (m0 : 0 ≤ m) (m1 : m < 2 ^ k) : 0 ≤ band l m ∧ band l m < 2 ^ k := by
  have := bitAnd_range l m0
  exact ⟨this.1, Int.lt_of_le_of_lt this.2 m1⟩
theorem rng_div {x : Int} {k : Nat} : (-(2 ^ k) ≤ x ∧ x < 2 ^ k) ↔ (x / 2 ^ k = 0 ∨ x / 2 ^ k = -1) := by
  have hp := ppos k
  have e := Int.mul_ediv_add_emod x (2 ^ k)
  have m0 := Int.emod_nonneg x (b := 2 ^ k) (by omega)
  have m1 := Int.emod_lt_of_pos x hp
  constructor
  · rintro ⟨h1, h2⟩
    have a : -1 ≤ x / 2 ^ k := by rw [Int.le_ediv_iff_mul_le hp]; omega
    have b : x / 2 ^ k < 1 := Int.ediv_lt_of_lt_mul hp (by omega)
    omega
  · rintro (h | h)
    · rw [h, Int.mul_zero] at e; omega
    · rw [h] at e; omega
theorem band_rng {x y : Int} {k : Nat} (hx : -(2 ^ k) ≤ x ∧ x < 2 ^ k) (hy : -(2 ^ k) ≤ y ∧ y < 2 ^ k) : -(2 ^ k) ≤ band x y ∧ band x y < 2 ^ k := by
  have hp := ppos k
  have e := band_parts x y k
  have n := band_nn (k := k) (Int.emod_nonneg x (b := 2 ^ k) (by omega)) (Int.emod_nonneg y (b := 2 ^ k) (by omega)) (Int.emod_lt_of_pos y hp)
  rcases rng_div.mp hx with h1 | h1 <;> rcases rng_div.mp hy with h2 | h2 <;> rw [h1, h2] at e
  · rw [show band 0 0 = 0 from rfl] at e; omega
  · rw [show band 0 (-1) = 0 from rfl] at e; omega
  · rw [show band (-1) 0 = 0 from rfl] at e; omega
  · rw [show band (-1) (-1) = -1 from rfl] at e; omega
theorem bnot_eq (x : Int) : Builtin.bitNot x = -x - 1 := rfl
theorem bnot_rng {x : Int} {k : Nat} (hx : -(2 ^ k) ≤ x ∧ x < 2 ^ k) : -(2 ^ k) ≤ Builtin.bitNot x ∧ Builtin.bitNot x < 2 ^ k := by rw [bnot_eq]; omega
theorem bor_rng {x y : Int} {k : Nat} (hx : -(2 ^ k) ≤ x ∧ x < 2 ^ k) (hy : -(2 ^ k) ≤ y ∧ y < 2 ^ k) : -(2 ^ k) ≤ Builtin.bitOr x y ∧ Builtin.bitOr x y < 2 ^ k := bnot_rng (band_rng (bnot_rng hx) (bnot_rng hy))
/-! one bit -/
def bit (x : Int) (i : Nat) : Int := x / 2 ^ i % 2
end VL

set_option Elab.async false
set_option linter.all false
set_option maxRecDepth 100000
/-! VD: long division digit by digit, by numbers: the guess, how often it is corrected, what each place finds. -/
namespace VL
open PySem L2
section
variable {B E b r : Nat}
theorem kn_q_lt (h : r < b * B) : r / b < B := Nat.div_lt_of_lt_mul h
theorem kn_low (hE : 0 < E) (hV : 0 < b / E) (hb : 0 < b) : r / b ≤ r / E / (b / E) := by
  rw [Nat.le_div_iff_mul_le hV, Nat.le_div_iff_mul_le hE]
  have h1 : b / E * E ≤ b := Nat.div_mul_le_self b E
  have h2 : r / b * b ≤ r := Nat.div_mul_le_self r b
  have h3 : r / b * (b / E * E) ≤ r / b * b := Nat.mul_le_mul_left _ h1
  rw [Nat.mul_assoc]
  omega
theorem kn_high (hB : 0 < B) (hE : 0 < E) (hV : B ≤ b / E) (hb : 0 < b) (h : r < b * B) : r / E / (b / E) ≤ r / b + 1 := by
  have hq := kn_q_lt h
  generalize hqq : r / b = q at *
  generalize hVV : b / E = V at *
  refine Nat.le_of_lt_succ (Nat.lt_of_not_le fun z => ?_)
  have h1 : (q + 2) * V ≤ r / E := Nat.le_trans (Nat.mul_le_mul_right V z) (Nat.div_mul_le_self _ _)
  have h2 : (q + 2) * V * E ≤ r := Nat.le_trans (Nat.mul_le_mul_right E h1) (Nat.div_mul_le_self _ _)
  have h3 : r < (q + 1) * b := by
    have := Nat.lt_div_mul_add (a := r) hb
    rw [hqq] at this
    rw [Nat.add_mul, Nat.one_mul]
    exact this
  have h4 : b + 1 ≤ (V + 1) * E := by
    have := Nat.lt_div_mul_add (a := b) hE
    rw [hVV] at this
    rw [Nat.add_mul, Nat.one_mul]
    exact this
  have h5 : (q + 1) * b ≤ (q + 1) * ((V + 1) * E) := Nat.mul_le_mul_left _ (by omega)
  have h6 : (q + 2) * V * E < (q + 1) * (V + 1) * E := by
    rw [Nat.mul_assoc (q + 1)]
    omega
  have h7 : (q + 2) * V < (q + 1) * (V + 1) := Nat.lt_of_mul_lt_mul_right h6
  have e1 : (q + 2) * V = q * V + 2 * V := Nat.add_mul _ _ _
  have e2 : (q + 1) * (V + 1) = q * V + V + q + 1 := by rw [Nat.mul_add, Nat.add_mul]; omega
  omega
variable {h v1 v2 : Nat}
theorem kn_guess_ge (hB : 0 < B) (hv : 0 < v1) : h / (v1 * B + v2) ≤ h / B / v1 := by
  rw [Nat.le_div_iff_mul_le hv, Nat.le_div_iff_mul_le hB]
  have h1 : h / (v1 * B + v2) * (v1 * B + v2) ≤ h := Nat.div_mul_le_self _ _
  have h2 : h / (v1 * B + v2) * (v1 * B) ≤ h / (v1 * B + v2) * (v1 * B + v2) := Nat.mul_le_mul_left _ (by omega)
  rw [Nat.mul_assoc]
  omega
theorem kn_guess_le (hB : 0 < B) (hv : 0 < v1) (hn : B ≤ 2 * v1) (hh : h < (v1 + 1) * B * B) : h / B / v1 ≤ B + 1 := by
  have h1 : h / B < (v1 + 1) * B := Nat.div_lt_of_lt_mul (by rw [Nat.mul_comm]; exact hh)
  have h2 : h / B / v1 * v1 ≤ h / B := Nat.div_mul_le_self _ _
  refine Nat.le_of_lt_succ (Nat.lt_of_not_le fun z => ?_)
  have h3 : (B + 2) * v1 ≤ h / B / v1 * v1 := Nat.mul_le_mul_right _ z
  have e1 : (B + 2) * v1 = v1 * B + 2 * v1 := by rw [Nat.add_mul, Nat.mul_comm B]
  have e2 : (v1 + 1) * B = v1 * B + B := by rw [Nat.add_mul, Nat.one_mul]
  omega
theorem kn_guess_two (hB : 0 < B) (hv : 0 < v1) (h2 : v2 < B) (hn : B ≤ 2 * v1) (hg : h / B / v1 ≤ B + 1) : h / B / v1 ≤ h / (v1 * B + v2) + 2 := by
  generalize hgg : h / B / v1 = g at *
  by_cases q : g ≤ 2
  · exact Nat.le_trans q (Nat.le_add_left 2 _)
  · obtain ⟨k, rfl⟩ : ∃ k, g = k + 2 := ⟨g - 2, by omega⟩
    have : k ≤ h / (v1 * B + v2) := by
      have hV : 0 < v1 * B + v2 := by have := Nat.mul_pos hv hB; omega
      rw [Nat.le_div_iff_mul_le hV]
      have h1 : (k + 2) * v1 ≤ h / B := by rw [← hgg]; exact Nat.div_mul_le_self _ _
      have h3 : (k + 2) * v1 * B ≤ h := Nat.le_trans (Nat.mul_le_mul_right B h1) (Nat.div_mul_le_self _ _)
      have h4 : k * (v1 * B + v2) ≤ k * ((v1 + 1) * B) := Nat.mul_le_mul_left _ (by rw [Nat.add_mul]; omega)
      have e1 : k * ((v1 + 1) * B) = k * v1 * B + k * B := by rw [Nat.add_mul, Nat.one_mul, Nat.mul_add, Nat.mul_assoc]
      have e2 : (k + 2) * v1 * B = k * v1 * B + 2 * v1 * B := by rw [Nat.add_mul, Nat.add_mul]
      have h5 : k * B ≤ 2 * v1 * B := Nat.mul_le_mul_right B (by omega)
      omega
    exact Nat.add_le_add_right this 2
end
/-! ### the steps, by the two numbers that are divided: b has all its digits, E stands behind its last two -/
/-- what is divided at place i: the rest so far and the next digit -/
def dvR (B A b i : Nat) : Nat := A / B ^ (i + 1) % b * B + A / B ^ i % B
def dvS (B E A b i : Nat) : T4 Int Int Bool Int :=
  ⟨((dvR B A b i / E / B / (b / E / B) : Nat) : Int), ((dvR B A b i / E / B / (b / E / B) : Nat) : Int) - ((dvR B A b i / E / (b / E) : Nat) : Int), decide (dvR B A b i / b < dvR B A b i / E / (b / E)), ((dvR B A b i / b : Nat) : Int)⟩
/-- the steps of k places, from the top -/
def dvSteps (B E A b : Nat) : Nat → List (T4 Int Int Bool Int)
  | 0 => []
  | k + 1 => dvS B E A b k :: dvSteps B E A b k
theorem dvSteps_len {B E A b : Nat} : ∀ k, (dvSteps B E A b k).length = k
  | 0 => rfl
  | k + 1 => congrArg (· + 1) (dvSteps_len k)
theorem dv_split {B A i : Nat} (hB : 0 < B) : A / B ^ i = A / B ^ (i + 1) * B + A / B ^ i % B := by
  have h := Nat.div_add_mod (A / B ^ i) B
  rw [Nat.div_div_eq_div_mul, ← Nat.pow_succ, Nat.mul_comm] at h
  exact h.symm
theorem dvR_lt {B A b i : Nat} (hB : 0 < B) (hb : 0 < b) : dvR B A b i < b * B := by
  unfold dvR
  have h1 : A / B ^ (i + 1) % b + 1 ≤ b := Nat.mod_lt _ hb
  have h2 : A / B ^ i % B < B := Nat.mod_lt _ hB
  have h3 : (A / B ^ (i + 1) % b + 1) * B ≤ b * B := Nat.mul_le_mul_right B h1
  rw [Nat.add_mul, Nat.one_mul] at h3
  omega
/-- the rest behind place i -/
theorem dvR_mod {B A b i : Nat} (hB : 0 < B) (hb : 0 < b) : dvR B A b i % b = A / B ^ i % b := by
  have e := dv_split (A := A) (i := i) hB
  unfold dvR
  generalize A / B ^ i % B = d at *
  rw [e]
  conv => rhs; rw [← Nat.div_add_mod (A / B ^ (i + 1)) b]
  rw [Nat.add_mul, Nat.mul_assoc, Nat.add_assoc, Nat.mul_add_mod]
/-- the quotient so far -/
theorem dvR_div {B A b i : Nat} (hB : 0 < B) (hb : 0 < b) : A / B ^ i / b = A / B ^ (i + 1) / b * B + dvR B A b i / b := by
  have e := dv_split (A := A) (i := i) hB
  unfold dvR
  generalize A / B ^ i % B = d at *
  rw [e]
  conv => lhs; rw [← Nat.div_add_mod (A / B ^ (i + 1)) b]
  rw [Nat.add_mul, Nat.mul_assoc, Nat.add_assoc, Nat.mul_add_div hb]
/-- the digits of the steps, the last place first, are those of the quotient -/
theorem dvSteps_val {B E A b : Nat} (hB : 0 < B) (hb : 0 < b) : ∀ k, A / B ^ k < b → lv (B : Int) ((dvSteps B E A b k).reverse.map fun s => s.d) = ((A / b : Nat) : Int) := by
  have key : ∀ k, lv (B : Int) ((dvSteps B E A b k).reverse.map fun s => s.d) + ((A / B ^ k / b : Nat) : Int) * (B : Int) ^ k = ((A / b : Nat) : Int) := by
    intro k
    induction k with
    | zero => rw [Nat.pow_zero, Nat.div_one, Int.pow_zero, Int.mul_one]; exact Int.zero_add _
    | succ k ih =>
      show lv (B : Int) (((dvS B E A b k :: dvSteps B E A b k).reverse).map fun s => s.d) + _ = _
      rw [List.reverse_cons, List.map_append]
      show lv (B : Int) ((dvSteps B E A b k).reverse.map (fun s => s.d) ++ [((dvR B A b k / b : Nat) : Int)]) + _ = _
      rw [lv_snoc, List.length_map, List.length_reverse, dvSteps_len, ← ih, dvR_div hB hb (i := k), Int.pow_succ]
      push_cast
      grind
  intro k hk
  have := key k
  rw [Nat.div_eq_of_lt hk] at this
  simpa using this
theorem dvSteps_mem {B E A b : Nat} (hB : 0 < B) (hb : 0 < b) : ∀ k, ∀ s ∈ dvSteps B E A b k, 0 ≤ s.d ∧ s.d < (B : Int)
  | 0, s, hs => by cases hs
  | k + 1, s, hs => by
    rcases List.mem_cons.mp hs with e | e
    · subst e
      have := kn_q_lt (dvR_lt (A := A) (i := k) hB hb)
      show 0 ≤ ((dvR B A b k / b : Nat) : Int) ∧ ((dvR B A b k / b : Nat) : Int) < (B : Int)
      generalize dvR B A b k / b = q at *
      omega
    · exact dvSteps_mem hB hb k s e
end VL

set_option Elab.async false
set_option linter.all false
set_option maxRecDepth 100000
set_option maxHeartbeats 4000000
namespace P
open PySem L2 VL
section
variable {P : Program} {w : World} {mg : Str → Option Value} {base : Heap} {T : TC}

noncomputable def M_is_integer (x0 : Int) : Option Bool :=
  some (true && (!false))
def Pre_is_integer (T : TC) : PreT := fun As Ω R => ∃ (x0 : Int) (r : Bool), As = [va T x0] ∧ M_is_integer x0 = some r ∧ R = RV (va T r) (stt Ω [] [])
theorem sc_is_integer : FnScope ["value"] ["value"] (defScope s_is_integer) := ⟨rfl, rfl, rfl, by decide +kernel, rfl, by decide +kernel, by decide +kernel⟩
theorem ok_is_integer {f : Addr} {fd : FuncData} (F : Fun T.K "is_integer" "is_integer" s_is_integer f fd) (z_isinstance : mg "isinstance" = none) (z_int : mg "int" = none) (z_bool : mg "bool" = none) : FnOk P w T.K mg base CX0 1 f fd ["value"] (mkSp (Pre_is_integer T)) := by
  refine fn_ok F sc_is_integer (fun As Ω R h => ?_) (fun cdv A outer s H E hr As Ω R F0 h => ?_)
  · obtain ⟨x0, r, rfl, _⟩ := h
    rfl
  obtain ⟨x0, r, rfl, hm, rfl⟩ := h
  refine ⟨_, (pss_one (ps_ret (pe_and (pe_callB (cr_isiK (K := T.K) rfl) (by rfl) z_isinstance (by decide +kernel) (pa_cons (pv 0) (pa_cons (pe_bltn (v := .ty "int") (by rfl) z_int (by decide +kernel) rfl) pa_nil))) (pe_one (pe_not (pe_callB (cr_isiK (K := T.K) rfl) (by rfl) z_isinstance (by decide +kernel) (pa_cons (pv 0) (pa_cons (pe_bltn (v := .ty "bool") (by rfl) z_bool (by decide +kernel) rfl) pa_nil)))))))), fun D hrt hnx => ?_⟩
  have ok : Okk Ω [] := okk0
  suffices hx : XS _ D F0 [some (va T x0)] (stt Ω [] []) by
    rw [show (stt Ω [] []) = Ω from stt_self (by simp)] at hx
    exact hx
  unfold M_is_integer at hm
  obtain rfl := Option.some.inj hm
  refine xs_ret (xe_andV (xe_isi (xe_var (i := 0) rfl) xe_vx (.ty _) (fun F H v hh a => ty_int hh a) (kit_ty (by decide +kernel))) (fun _ => (xe_notV (xe_isi (xe_var (i := 0) rfl) xe_vx (.ty _) (fun F H v hh a => ty_int hh a) (kit_ty (by decide +kernel)))))) hrt.all
noncomputable def M_is_between (x0 : Int) (x1 : Int) (x2 : Int) : Option Bool :=
  (M_is_integer x0).bind fun z1 => some (z1 && (decide (x1 ≤ x0) && decide (x0 ≤ x2)))
def Pre_is_between (T : TC) : PreT := fun As Ω R => ∃ (x0 : Int) (x1 : Int) (x2 : Int) (r : Bool), As = [va T x0, va T x1, va T x2] ∧ M_is_between x0 x1 x2 = some r ∧ R = RV (va T r) (stt Ω [] [])
theorem sc_is_between : FnScope ["value", "low", "high"] ["value", "low", "high"] (defScope s_is_between) := ⟨rfl, rfl, rfl, by decide +kernel, rfl, by decide +kernel, by decide +kernel⟩
theorem ok_is_between {f : Addr} {fd : FuncData} (F : Fun T.K "is_between" "is_between" s_is_between f fd) (c_is_integer : Cal P w T.K mg base 1 "is_integer" ["value"] (mkSp (Pre_is_integer T))) : FnOk P w T.K mg base CX0 2 f fd ["value", "low", "high"] (mkSp (Pre_is_between T)) := by
  refine fn_ok F sc_is_between (fun As Ω R h => ?_) (fun cdv A outer s H E hr As Ω R F0 h => ?_)
  · obtain ⟨x0, x1, x2, r, rfl, _⟩ := h
    rfl
  obtain ⟨x0, x1, x2, r, rfl, hm, rfl⟩ := h
  refine ⟨_, (pss_one (ps_ret (pe_and (pe_cal c_is_integer (hr.mono (by decide)) (by rfl) (pa_cons (pv 0) pa_nil)) (pe_one (pe_chain op_le op_le (pv 1) (pv 0) (pv 2)))))), fun D hrt hnx => ?_⟩
  have ok : Okk Ω [] := okk0
  suffices hx : XS _ D F0 [some (va T x0), some (va T x1), some (va T x2)] (stt Ω [] []) by
    rw [show (stt Ω [] []) = Ω from stt_self (by simp)] at hx
    exact hx
  unfold M_is_between at hm
  obtain ⟨z1, hz1, hm⟩ := bnd_some hm
  obtain rfl := Option.some.inj hm
  refine xs_ret (xe_andV (xe_call (xa_cons (xe_var (i := 0) rfl) xa_nil) ⟨x0, z1, rfl, hz1, rfl⟩ cal0) (fun _ => (xe_chain (xe_var (i := 1) rfl) (xe_var (i := 0) rfl) ro_bl (fun _ => (xe_var (i := 2) rfl)) (fun _ => ro_bl)))) hrt.all
theorem sc_Mach_step : FnScope ["self", "word", "many"] ["self", "word", "many"] (defScope s_Mach_step) := ⟨rfl, rfl, rfl, by decide +kernel, rfl, by decide +kernel, by decide +kernel⟩
theorem ok_Mach_step {f : Addr} {fd : FuncData} (F : Fun T.K "step" "Machine.step" s_Mach_step f fd) (mc : MCls T.K (T.C 0))  : FnOk P w T.K mg base CX0 1 f fd ["self", "word", "many"] (mkSp (Pre_Mach_step T)) := by
  refine fn_ok F sc_Mach_step (fun As Ω R h => ?_) (fun cdv A outer s H E hr As Ω R F0 h => ?_)
  · obtain ⟨k, p, x, wd, n, rfl, _⟩ := h; rfl
  obtain ⟨k, p, x, wd, n, rfl, hk, hw, rfl⟩ := h
  refine ⟨_, pss_one (ps_daug (hu_of hr) (pe_fld (pv 0) (by rfl)) (pv 1) (pv 2) in_add (fun _ _ _ => rfl)), fun D hrt hnx => ?_⟩
  exact xs_step mc rfl rfl rfl hk hw fun σ H ⟨F, f0, e, hh⟩ => hnx F σ H _ f0 hh ⟨rfl, stt_one.symm⟩
theorem sc_Mach_enter : FnScope ["self", "word", "m", "n"] ["self", "word", "m", "n"] (defScope s_Mach_enter) := ⟨rfl, rfl, rfl, by decide +kernel, rfl, by decide +kernel, by decide +kernel⟩
theorem ok_Mach_enter {f : Addr} {fd : FuncData} (F : Fun T.K "enter" "Machine.enter" s_Mach_enter f fd) (mc : MCls T.K (T.C 0)) (z_len : mg "len" = none) (g_LONGEST_WALK : ∃ u, mg "LONGEST_WALK" = some u ∧ RelV (.int 1000) u) : FnOk P w T.K mg base CX0 1 f fd ["self", "word", "m", "n"] (mkSp (Pre_Mach_enter T)) := by
  refine fn_ok F sc_Mach_enter (fun As Ω R h => ?_) (fun cdv A outer s H E hr As Ω R F0 h => ?_)
  · obtain ⟨k, p, x, wd, m, n, rfl, _⟩ := h; rfl
  obtain ⟨k, p, x, wd, m, n, rfl, hk, rfl⟩ := h
  refine ⟨_, pss_one (ps_if (pt_cmpR op_lt (pe_callB cr_len (by rfl) z_len PySem.boot_len (pa_cons (pe_fld (pv 0) (by rfl)) pa_nil)) (pe_gl rfl g_LONGEST_WALK) (nomark _)) (pss_one (ps_expr (pe_bm PySem.F.plainAttrs_list PySem.F.slot_list_append PySem.F.type_list_append mt_append (pe_fld (pv 0) (by rfl)) (pa_cons (pe_tup (pa_cons (pv 1) (pa_cons (pv 2) (pa_cons (pv 3) pa_nil)))) pa_nil)))) pss_nil), fun D hrt hnx => ?_⟩
  exact xs_enter mc rfl rfl rfl rfl hk fun σ H ⟨F, f0, e, hh⟩ => hnx F σ H _ f0 hh ⟨rfl, stt_one.symm⟩
theorem sc_Mach_reset : FnScope ["self", "word"] ["self"] (defScope s_Mach_reset) := ⟨rfl, rfl, rfl, by decide +kernel, rfl, by decide +kernel, by decide +kernel⟩
theorem ok_Mach_reset {f : Addr} {fd : FuncData} (F : Fun T.K "reset" "Machine.reset" s_Mach_reset f fd) (mc : MCls T.K (T.C 0)) {aW : Addr} (g_WORDS : ∃ u, mg "WORDS" = some u ∧ RelV (.ref aW) u) (hW : ∀ H, SqT T.K H aW (mwords.map V.str)) : FnOk P w T.K mg base CX0 1 f fd ["self"] (mkSp (Pre_Mach_reset T)) := by
  refine fn_ok F sc_Mach_reset (fun As Ω R h => ?_) (fun cdv A outer s H E hr As Ω R F0 h => ?_)
  · obtain ⟨k, p, x, rfl, _⟩ := h; rfl
  obtain ⟨k, p, x, rfl, hk, rfl⟩ := h
  refine ⟨_, pss_cons (ps_fld (pv 0) (pe_dc (own := [("word", 1)]) rfl sc_Mach_reset.nd (pi_tup (pe_gl rfl g_WORDS)) (blkOk_by (N := ["self", "word"]) (sc := defScope s_Mach_reset) (by decide +kernel)) (fun _ _ _ _ _ => pg_name (i := 1) sc_Mach_reset.nd rfl (.inl rfl)) (fun _ _ _ _ _ => pts_nil) (fun _ _ _ _ _ => pv 1) (fun _ _ _ _ _ => pe_int)) rfl) (pss_one (ps_fld (pv 0) (pe_lst pa_nil) rfl)), fun D hrt hnx => ?_⟩
  exact xs_mreset mc hW (by simp) (by simp) rfl hk fun σ H ⟨F, f0, e, hh⟩ => hnx F σ H _ f0 hh ⟨rfl, stt_one.symm⟩
theorem sc_Mach_tally : FnScope ["self", "word"] ["self"] (defScope s_Mach_tally) := ⟨rfl, rfl, rfl, by decide +kernel, rfl, by decide +kernel, by decide +kernel⟩
theorem ok_Mach_tally {f : Addr} {fd : FuncData} (F : Fun T.K "tally" "Machine.tally" s_Mach_tally f fd) (mc : MCls T.K (T.C 0)) {aW : Addr} (g_WORDS : ∃ u, mg "WORDS" = some u ∧ RelV (.ref aW) u) (hW : ∀ H, SqT T.K H aW (mwords.map V.str)) : FnOk P w T.K mg base CX0 1 f fd ["self"] (mkSp (Pre_Mach_tally T)) := by
  refine fn_ok F sc_Mach_tally (fun As Ω R h => ?_) (fun cdv A outer s H E hr As Ω R F0 h => ?_)
  · obtain ⟨k, p, x, rfl, _⟩ := h; rfl
  obtain ⟨k, p, x, rfl, hk, rfl⟩ := h
  refine ⟨_, pss_one (ps_ret (pe_lc (own := [("word", 1)]) rfl sc_Mach_tally.nd (pi_tup (pe_gl rfl g_WORDS)) (blkOk_by (N := ["self", "word"]) (sc := defScope s_Mach_tally) (by decide +kernel)) (fun _ _ _ _ _ => pg_name (i := 1) sc_Mach_tally.nd rfl (.inl rfl)) (fun _ _ _ _ _ => pts_nil) (fun _ _ _ _ _ => pe_tup (pa_cons (pv 1) (pa_cons (pe_dget (by exact hu_of hr) (pe_fldK (K := T.K) (pv 0) (by rfl) rfl) (pv 1) (by intro _ _; rfl)) pa_nil))))), fun D hrt hnx => ?_⟩
  exact xs_ret (xe_tally mc hW (by simp) rfl (by simp [wip]) hk) hrt
theorem sc_Mach_walk : FnScope ["self"] ["self"] (defScope s_Mach_walk) := ⟨rfl, rfl, rfl, by decide +kernel, rfl, by decide +kernel, by decide +kernel⟩
theorem ok_Mach_walk {f : Addr} {fd : FuncData} (F : Fun T.K "walk" "Machine.walk" s_Mach_walk f fd) (mc : MCls T.K (T.C 0)) (z_list : mg "list" = none) : FnOk P w T.K mg base CX0 1 f fd ["self"] (mkSp (Pre_Mach_walk T)) := by
  refine fn_ok F sc_Mach_walk (fun As Ω R h => ?_) (fun cdv A outer s H E hr As Ω R F0 h => ?_)
  · obtain ⟨k, p, x, rfl, _⟩ := h; rfl
  obtain ⟨k, p, x, rfl, hk, rfl⟩ := h
  refine ⟨_, pss_one (ps_ret (pe_callTy cr_list (by rfl) z_list (by decide +kernel) (pa_cons (pe_fld (pv 0) (by rfl)) pa_nil))), fun D hrt hnx => ?_⟩
  exact xs_ret (xe_walk mc rfl hk) hrt
theorem sc_Mach_parts : FnScope ["self"] ["self"] (defScope s_Mach_parts) := ⟨rfl, rfl, rfl, by decide +kernel, rfl, by decide +kernel, by decide +kernel⟩
theorem ok_Mach_parts {f : Addr} {fd : FuncData} (F : Fun T.K "parts" "Machine.parts" s_Mach_parts f fd) (mc : MCls T.K (T.C 0))  : FnOk P w T.K mg base CX0 1 f fd ["self"] (mkSp (Pre_Mach_parts T)) := by
  refine fn_ok F sc_Mach_parts (fun As Ω R h => ?_) (fun cdv A outer s H E hr As Ω R F0 h => ?_)
  · obtain ⟨k, p, x, rfl, _⟩ := h; rfl
  obtain ⟨k, p, x, rfl, hk, rfl⟩ := h
  refine ⟨_, pss_one (ps_ret (pe_tup (pa_cons (pe_fld (pv 0) (by rfl)) (pa_cons (pe_fld (pv 0) (by rfl)) pa_nil)))), fun D hrt hnx => ?_⟩
  exact xs_ret (xe_tup2 (xa_cons (xe_mw mc.cl mc.nw (xe_var (i := 0) rfl) hk) (xa_cons (xe_mc mc.cl mc.nc (xe_var (i := 0) rfl) hk) xa_nil))) hrt
theorem sc_Mach_init : FnScope ["self", "bits", "cutoff", "word"] ["self", "bits", "cutoff"] (defScope s_Mach_init) := ⟨rfl, rfl, rfl, by decide +kernel, rfl, by decide +kernel, by decide +kernel⟩
theorem ok_Mach_init {f : Addr} {fd : FuncData} (F : FunD T.K "__init__" "Machine.__init__" (defArgs s_Mach_init) (defBody s_Mach_init) (defScope s_Mach_init) [.int 30, .int 70] [] f fd) (mc : MCls T.K (T.C 0)) {aW : Addr} (g_WORDS : ∃ u, mg "WORDS" = some u ∧ RelV (.ref aW) u) (hW : ∀ H, SqT T.K H aW (mwords.map V.str)) (c_is_between : Cal P w T.K mg base 2 "is_between" ["value", "low", "high"] (mkSp (Pre_is_between T))) : FnOk P w T.K mg base CX0 3 f fd ["self", "bits", "cutoff"] (mkSp (Pre_Machine T)) := by
  refine fn_okD F sc_Mach_init (fun As Ω R h => ?_) (fun cdv A outer s H E hr As Ω R F0 h => ?_)
  · obtain ⟨Ω0, p, w, c, rfl, _⟩ := h; rfl
  obtain ⟨Ω0, p, w, c, rfl, hc, rfl, rfl⟩ := h
  refine ⟨_, pss_cons (ps_if (pt_not (pt_val (pe_cal c_is_between (hr.mono (by decide)) (by rfl) (pa_cons (pv 1) (pa_cons pe_int (pa_cons pe_int pa_nil)))))) pss_never pss_nil) (pss_cons (ps_if (pt_not (pt_val (pe_cal c_is_between (hr.mono (by decide)) (by rfl) (pa_cons (pv 2) (pa_cons pe_int (pa_cons pe_int pa_nil)))))) pss_never pss_nil) (pss_cons (ps_fld (pv 0) (pv 1) rfl) (pss_cons (ps_fld (pv 0) (pv 2) rfl) (pss_cons (ps_fld (pv 0) (pe_dc (own := [("word", 3)]) rfl sc_Mach_init.nd (pi_tup (pe_gl rfl g_WORDS)) (blkOk_by (N := ["self", "bits", "cutoff", "word"]) (sc := defScope s_Mach_init) (by decide +kernel)) (fun _ _ _ _ _ => pg_name (i := 3) sc_Mach_init.nd rfl (.inl rfl)) (fun _ _ _ _ _ => pts_nil) (fun _ _ _ _ _ => pv 3) (fun _ _ _ _ _ => pe_int)) rfl) (pss_one (ps_fld (pv 0) (pe_lst pa_nil) rfl)))))), fun D hrt hnx => ?_⟩
  have m1 : M_is_between w 8 30 = some true := by simp [M_is_between, M_is_integer, hc.1.1, hc.1.2]
  have m2 : M_is_between c 2 1000 = some true := by simp [M_is_between, M_is_integer, hc.2.1, hc.2.2]
  show XS _ D F0 [some (vr p), some (va T w), some (va T c), none] _
  refine xs_ifN (xt_notF (xt_tB (T := T) (xe_call (xa_cons (xe_var (i := 1) rfl) (xa_cons xe_int (xa_cons xe_int xa_nil))) ⟨w, 8, 30, true, rfl, m1, rfl⟩ (List.append_nil _)))) ?_
  show XS _ D F0 [some (vr p), some (va T w), some (va T c), none] _
  refine xs_ifN (xt_notF (xt_tB (T := T) (xe_call (xa_cons (xe_var (i := 2) rfl) (xa_cons xe_int (xa_cons xe_int xa_nil))) ⟨c, 2, 1000, true, rfl, m2, rfl⟩ (List.append_nil _)))) ?_
  show XS _ D F0 [some (vr p), some (va T w), some (va T c), none] _
  exact xs_minit (k := Ω0.length) mc hW (by simp) (by simp) rfl rfl rfl app_at fun σ H ⟨F, f0, e, hh⟩ => hnx F σ H _ f0 hh ⟨rfl, set_last⟩
noncomputable def M_Big_eq (x0 : Bg) (x1 : Bg) : Option Bool :=
  some (true && ((decide (x0.w = x1.w)) && (decide (x0.v = x1.v))))
def Pre_Big_eq (T : TC) : PreT := fun As Ω R => ∃ (x0 : Bg) (x1 : Bg) (r : Bool), As = [va T x0, va T x1] ∧ M_Big_eq x0 x1 = some r ∧ R = RV (va T r) (stt Ω [] [])
theorem sc_Big_eq : FnScope ["self", "other"] ["self", "other"] (defScope s_Big_eq) := ⟨rfl, rfl, rfl, by decide +kernel, rfl, by decide +kernel, by decide +kernel⟩
theorem ok_Big_eq {f : Addr} {fd : FuncData} (F : Fun T.K "__eq__" "Big.__eq__" s_Big_eq f fd) (z_isinstance : mg "isinstance" = none) (icb : ICls T.K (T.C 1)) (g_Big : ∃ u, mg "Big" = some u ∧ RelV (.ref (T.C 1)) u) (bc : BCls T.K (T.C 1)) : FnOk P w T.K mg base CX0 1 f fd ["self", "other"] (mkSp (Pre_Big_eq T)) := by
  refine fn_ok F sc_Big_eq (fun As Ω R h => ?_) (fun cdv A outer s H E hr As Ω R F0 h => ?_)
  · obtain ⟨x0, x1, r, rfl, _⟩ := h
    rfl
  obtain ⟨x0, x1, r, rfl, hm, rfl⟩ := h
  refine ⟨_, (pss_one (ps_ret (pe_and (pe_callB (cr_isiK (K := T.K) rfl) (by rfl) z_isinstance (by decide +kernel) (pa_cons (pv 1) (pa_cons (pe_gl rfl g_Big) pa_nil))) (pe_and (pe_cmpR (op_eqXK (K := T.K) (by exact hr.units) rfl) (pe_fldK (K := T.K) (pv 0) (by rfl) rfl) (pe_fldK (K := T.K) (pv 1) (by rfl) rfl) (nomark _)) (pe_one (pe_cmpR (op_eqXK (K := T.K) (by exact hr.units) rfl) (pe_fldK (K := T.K) (pv 0) (by rfl) rfl) (pe_fldK (K := T.K) (pv 1) (by rfl) rfl) (nomark _))))))), fun D hrt hnx => ?_⟩
  have ok : Okk Ω [] := okk0
  suffices hx : XS _ D F0 [some (va T x0), some (va T x1)] (stt Ω [] []) by
    rw [show (stt Ω [] []) = Ω from stt_self (by simp)] at hx
    exact hx
  unfold M_Big_eq at hm
  obtain rfl := Option.some.inj hm
  refine xs_ret (xe_andV (xe_isi (xe_var (i := 1) rfl) xe_vx (.own _) (fun F H v hh a => ty_big icb hh a) icb.kit) (fun _ => (xe_andV (xe_eqI (xe_bw bc.cl bc.nw (xe_var (i := 0) rfl)) (xe_bw bc.cl bc.nw (xe_var (i := 1) rfl))) (fun _ => (xe_eqI (xe_bv bc.cl bc.nv (xe_var (i := 0) rfl)) (xe_bv bc.cl bc.nv (xe_var (i := 1) rfl))))))) hrt.all
noncomputable def M_Big_digits (x0 : Bg) : Option (List Int) :=
  some x0.row
def Pre_Big_digits (T : TC) : PreT := fun As Ω R => ∃ (x0 : Bg) (r : List Int), As = [va T x0] ∧ M_Big_digits x0 = some r ∧ R = RV (va T (LF.mk r)) (stt Ω [] [])
theorem sc_Big_digits : FnScope ["self"] ["self"] (defScope s_Big_digits) := ⟨rfl, rfl, rfl, by decide +kernel, rfl, by decide +kernel, by decide +kernel⟩
theorem ok_Big_digits {f : Addr} {fd : FuncData} (F : Fun T.K "digits" "Big.digits" s_Big_digits f fd) (bc : BCls T.K (T.C 1)) (z_list : mg "list" = none) : FnOk P w T.K mg base CX0 1 f fd ["self"] (mkSp (Pre_Big_digits T)) := by
  refine fn_ok F sc_Big_digits (fun As Ω R h => ?_) (fun cdv A outer s H E hr As Ω R F0 h => ?_)
  · obtain ⟨x0, r, rfl, _⟩ := h
    rfl
  obtain ⟨x0, r, rfl, hm, rfl⟩ := h
  refine ⟨_, (pss_one (ps_ret (pe_callTy (cr_listK (K := T.K) rfl) (by rfl) z_list (by decide +kernel) (pa_cons (pe_fldK (K := T.K) (pv 0) (by rfl) rfl) pa_nil)))), fun D hrt hnx => ?_⟩
  have ok : Okk Ω [] := okk0
  suffices hx : XS _ D F0 [some (va T x0)] (stt Ω [] []) by
    rw [show (stt Ω [] []) = Ω from stt_self (by simp)] at hx
    exact hx
  unfold M_Big_digits at hm
  obtain rfl := Option.some.inj hm
  refine xs_ret (xe_listT (xe_br bc.cl bc.nr (xe_var (i := 0) rfl)) isT_TF) hrt.all
noncomputable def M_Big_sign (x0 : Bg) : Option Int :=
  some (sgn x0.v)
def Pre_Big_sign (T : TC) : PreT := fun As Ω R => ∃ (x0 : Bg) (r : Int), As = [va T x0] ∧ M_Big_sign x0 = some r ∧ R = RV (va T r) (stt Ω [] [])
theorem sc_Big_sign : FnScope ["self"] ["self"] (defScope s_Big_sign) := ⟨rfl, rfl, rfl, by decide +kernel, rfl, by decide +kernel, by decide +kernel⟩
theorem ok_Big_sign {f : Addr} {fd : FuncData} (F : Fun T.K "sign" "Big.sign" s_Big_sign f fd) (bc : BCls T.K (T.C 1)) : FnOk P w T.K mg base CX0 1 f fd ["self"] (mkSp (Pre_Big_sign T)) := by
  refine fn_ok F sc_Big_sign (fun As Ω R h => ?_) (fun cdv A outer s H E hr As Ω R F0 h => ?_)
  · obtain ⟨x0, r, rfl, _⟩ := h
    rfl
  obtain ⟨x0, r, rfl, hm, rfl⟩ := h
  refine ⟨_, (pss_one (ps_ret (pe_fldK (K := T.K) (pv 0) (by rfl) rfl))), fun D hrt hnx => ?_⟩
  have ok : Okk Ω [] := okk0
  suffices hx : XS _ D F0 [some (va T x0)] (stt Ω [] []) by
    rw [show (stt Ω [] []) = Ω from stt_self (by simp)] at hx
    exact hx
  unfold M_Big_sign at hm
  obtain rfl := Option.some.inj hm
  refine xs_ret (xe_bs bc.cl bc.ns (xe_var (i := 0) rfl)) hrt.all
noncomputable def M_Big_bits (x0 : Bg) : Option Int :=
  some x0.w
def Pre_Big_bits (T : TC) : PreT := fun As Ω R => ∃ (x0 : Bg) (r : Int), As = [va T x0] ∧ M_Big_bits x0 = some r ∧ R = RV (va T r) (stt Ω [] [])
theorem sc_Big_bits : FnScope ["self"] ["self"] (defScope s_Big_bits) := ⟨rfl, rfl, rfl, by decide +kernel, rfl, by decide +kernel, by decide +kernel⟩
theorem ok_Big_bits {f : Addr} {fd : FuncData} (F : Fun T.K "bits" "Big.bits" s_Big_bits f fd) (bc : BCls T.K (T.C 1)) : FnOk P w T.K mg base CX0 1 f fd ["self"] (mkSp (Pre_Big_bits T)) := by
  refine fn_ok F sc_Big_bits (fun As Ω R h => ?_) (fun cdv A outer s H E hr As Ω R F0 h => ?_)
  · obtain ⟨x0, r, rfl, _⟩ := h
    rfl
  obtain ⟨x0, r, rfl, hm, rfl⟩ := h
  refine ⟨_, (pss_one (ps_ret (pe_fldK (K := T.K) (pv 0) (by rfl) rfl))), fun D hrt hnx => ?_⟩
  have ok : Okk Ω [] := okk0
  suffices hx : XS _ D F0 [some (va T x0)] (stt Ω [] []) by
    rw [show (stt Ω [] []) = Ω from stt_self (by simp)] at hx
    exact hx
  unfold M_Big_bits at hm
  obtain rfl := Option.some.inj hm
  refine xs_ret (xe_bw bc.cl bc.nw (xe_var (i := 0) rfl)) hrt.all
noncomputable def M_order_of (x0 : Int) (x1 : Int) : Option Int :=
  if (decide (x0 < x1)) = true then some (-(1 : Int)) else some (if (decide (x0 = x1)) = true then (0 : Int) else (1 : Int))
def Pre_order_of (T : TC) : PreT := fun As Ω R => ∃ (x0 : Int) (x1 : Int) (r : Int), As = [va T x0, va T x1] ∧ M_order_of x0 x1 = some r ∧ R = RV (va T r) (stt Ω [] [])
theorem sc_order_of : FnScope ["a", "b"] ["a", "b"] (defScope s_order_of) := ⟨rfl, rfl, rfl, by decide +kernel, rfl, by decide +kernel, by decide +kernel⟩
theorem ok_order_of {f : Addr} {fd : FuncData} (F : Fun T.K "order_of" "order_of" s_order_of f fd)  : FnOk P w T.K mg base CX0 1 f fd ["a", "b"] (mkSp (Pre_order_of T)) := by
  refine fn_ok F sc_order_of (fun As Ω R h => ?_) (fun cdv A outer s H E hr As Ω R F0 h => ?_)
  · obtain ⟨x0, x1, r, rfl, _⟩ := h
    rfl
  obtain ⟨x0, x1, r, rfl, hm, rfl⟩ := h
  refine ⟨_, (pss_cons (ps_if (pt_cmpR op_lt (pv 0) (pv 1) (nomark _)) (pss_one (ps_ret (pe_un un_neg pe_int))) pss_nil) (pss_one (ps_ret (pe_ifExp (pt_cmpR (op_eqXK (K := T.K) (by exact hr.units) rfl) (pv 0) (pv 1) (nomark _)) pe_int pe_int)))), fun D hrt hnx => ?_⟩
  have ok : Okk Ω [] := okk0
  suffices hx : XS _ D F0 [some (va T x0), some (va T x1)] (stt Ω [] []) by
    rw [show (stt Ω [] []) = Ω from stt_self (by simp)] at hx
    exact hx
  unfold M_order_of at hm
  by_cases hc : (decide (x0 < x1)) = true
  · rw [if_pos hc] at hm
    refine xs_ifT (xt_eq (xt_test (T := T) (xe_lt (xe_var (i := 0) rfl) (xe_var (i := 1) rfl))) hc) ?_
    obtain rfl := Option.some.inj hm
    refine xs_ret (xe_neg xe_int) hrt.all
  · rw [if_neg hc] at hm
    refine xs_ifN (xt_eq (xt_test (T := T) (xe_lt (xe_var (i := 0) rfl) (xe_var (i := 1) rfl))) (nt hc)) ?_
    show XS (tRet _) _ _ [some (va T x0), some (va T x1)] (stt Ω [] [])
    obtain rfl := Option.some.inj hm
    refine xs_ret (xe_ite (xt_test (T := T) (xe_eqI (xe_var (i := 0) rfl) (xe_var (i := 1) rfl))) xe_int xe_int) hrt.all
theorem sc_Big_init : FnScope ["self", "width", "value", "row"] ["self", "width", "value", "row"] (defScope s_Big_init) := ⟨rfl, rfl, rfl, by decide +kernel, rfl, by decide +kernel, by decide +kernel⟩
theorem order_sgn (v : Int) : M_order_of v 0 = some (sgn v) := by
  unfold M_order_of sgn
  by_cases h : v < 0
  · rw [if_pos (decide_eq_true h), if_pos h]
  · rw [if_neg (by simpa using h), if_neg h]
    by_cases e : v = 0
    · rw [if_pos (decide_eq_true e), if_pos e]
    · rw [if_neg (by simpa using e), if_neg e]
theorem ok_Big_init {f : Addr} {fd : FuncData} (F : Fun T.K "__init__" "Big.__init__" s_Big_init f fd) (bc : BCls T.K (T.C 1)) (z_tuple : mg "tuple" = none) (c_order_of : Cal P w T.K mg base 1 "order_of" ["a", "b"] (mkSp (Pre_order_of T))) : FnOk P w T.K mg base CX0 2 f fd ["self", "width", "value", "row"] (mkSp (Pre_Big T)) := by
  refine fn_ok F sc_Big_init (fun As Ω R h => ?_) (fun cdv A outer s H E hr As Ω R F0 h => ?_)
  · obtain ⟨Ω0, p, w, sd, row, B, _, rfl, _⟩ := h; rfl
  obtain ⟨Ω0, p, w, sd, row, B, hB, rfl, rfl, rfl⟩ := h
  refine ⟨_, pss_cons (ps_fld (pv 0) (pv 1) rfl) (pss_cons (ps_fld (pv 0) (pe_cal c_order_of (hr.mono (by decide)) (by rfl) (pa_cons (pv 2) (pa_cons pe_int pa_nil))) rfl) (pss_cons (ps_fld (pv 0) (pe_callTy cr_tuple (by rfl) z_tuple (by decide +kernel) (pa_cons (pv 3) pa_nil)) rfl) (pss_one (ps_fld (pv 0) (pv 2) rfl)))), fun D hrt hnx => ?_⟩
  show XS _ D F0 [some (vr p), some (va T w), some (va T sd), some B] _
  refine xs_binit (k := Ω0.length) (row := row) bc rfl rfl rfl (fun Ω' => xe_call (xa_cons (xe_var (i := 2) rfl) (xa_cons xe_int xa_nil)) ⟨sd, 0, sgn sd, rfl, order_sgn sd, rfl⟩ cal0') (fun Ω' => ?_) app_at fun σ H ⟨F, f0, e, hh⟩ => hnx F σ H _ f0 hh ⟨rfl, set_last⟩
  rcases hB with rfl | rfl
  · exact xe_tupleL (xe_var (i := 3) rfl) isL_LF
  · exact xe_tupleT (xe_var (i := 3) rfl)
noncomputable def M_check_machine (x0 : MS) : Option Unit :=
  (chkP (true = true)).bind fun z1 => some ()
def Pre_check_machine (T : TC) : PreT := fun As Ω R => ∃ (k0 : Nat) (p0 : Addr) (x0 : MS) (r : Unit), As = [vr p0] ∧ Ω[k0]? = some (machA T p0 x0) ∧ M_check_machine x0 = some r ∧ R = RV (va T r) (stt Ω [] [])
theorem sc_check_machine : FnScope ["machine"] ["machine"] (defScope s_check_machine) := ⟨rfl, rfl, rfl, by decide +kernel, rfl, by decide +kernel, by decide +kernel⟩
theorem ok_check_machine {f : Addr} {fd : FuncData} (F : Fun T.K "check_machine" "check_machine" s_check_machine f fd) (z_isinstance : mg "isinstance" = none) (icm : ICls T.K (T.C 0)) (g_Machine : ∃ u, mg "Machine" = some u ∧ RelV (.ref (T.C 0)) u) : FnOk P w T.K mg base CX0 1 f fd ["machine"] (mkSp (Pre_check_machine T)) := by
  refine fn_ok F sc_check_machine (fun As Ω R h => ?_) (fun cdv A outer s H E hr As Ω R F0 h => ?_)
  · obtain ⟨k0, p0, x0, r, rfl, _⟩ := h
    rfl
  obtain ⟨k0, p0, x0, r, rfl, hk0, hm, rfl⟩ := h
  refine ⟨_, (pss_one (ps_if (pt_not (pt_val (pe_callB (cr_isiK (K := T.K) rfl) (by rfl) z_isinstance (by decide +kernel) (pa_cons (pv 0) (pa_cons (pe_gl rfl g_Machine) pa_nil))))) pss_never pss_nil)), fun D hrt hnx => ?_⟩
  have ok : Okk Ω [] := okk0
  suffices hx : XS _ D F0 [some (vr p0)] (stt Ω [] []) by
    rw [show (stt Ω [] []) = Ω from stt_self (by simp)] at hx
    exact hx
  unfold M_check_machine at hm
  obtain ⟨z1, hz1, hm⟩ := bnd_some hm
  refine xs_ifF1 (xt_notF (xt_eq (xt_tB (T := T) (xe_isi (xe_var (i := 0) rfl) xe_vx (.own _) (fun F H v hh a => ty_mach icm (stt_getU hk0) hh a) icm.kit)) (chkP_some hz1))) ?_
  obtain rfl := Option.some.inj hm
  exact fun σ H ⟨F, f0, e, hh⟩ => hnx F σ H _ f0 hh.all ⟨rfl, rfl⟩
noncomputable def M_top_digit (x0 : Int) : Option Int :=
  (chkP (CShl (1 : Int) x0)).bind fun z1 => some (((1 : Int) * 2 ^ (x0).toNat) - (1 : Int))
def Pre_top_digit (T : TC) : PreT := fun As Ω R => ∃ (x0 : Int) (r : Int), As = [va T x0] ∧ M_top_digit x0 = some r ∧ R = RV (va T r) (stt Ω [] [])
theorem sc_top_digit : FnScope ["width"] ["width"] (defScope s_top_digit) := ⟨rfl, rfl, rfl, by decide +kernel, rfl, by decide +kernel, by decide +kernel⟩
theorem ok_top_digit {f : Addr} {fd : FuncData} (F : Fun T.K "top_digit" "top_digit" s_top_digit f fd)  : FnOk P w T.K mg base CX0 1 f fd ["width"] (mkSp (Pre_top_digit T)) := by
  refine fn_ok F sc_top_digit (fun As Ω R h => ?_) (fun cdv A outer s H E hr As Ω R F0 h => ?_)
  · obtain ⟨x0, r, rfl, _⟩ := h
    rfl
  obtain ⟨x0, r, rfl, hm, rfl⟩ := h
  refine ⟨_, (pss_one (ps_ret (pe_op op_sub (pe_op op_shlW pe_int (pv 0)) pe_int))), fun D hrt hnx => ?_⟩
  have ok : Okk Ω [] := okk0
  suffices hx : XS _ D F0 [some (va T x0)] (stt Ω [] []) by
    rw [show (stt Ω [] []) = Ω from stt_self (by simp)] at hx
    exact hx
  unfold M_top_digit at hm
  obtain ⟨z1, hz1, hm⟩ := bnd_some hm
  obtain rfl := Option.some.inj hm
  refine xs_ret (xe_sub (xe_shl (chkP_some hz1) xe_int (xe_var (i := 0) rfl)) xe_int) hrt.all
noncomputable def M_size_of (x0 : Int) (x1 : Int) : Option Int :=
  (chkP (CDivW ((((Builtin.Int.intBits x1 : Nat) : Int) + x0) - (1 : Int)) x0)).bind fun z1 => some (((((Builtin.Int.intBits x1 : Nat) : Int) + x0) - (1 : Int)) / x0)
def Pre_size_of (T : TC) : PreT := fun As Ω R => ∃ (x0 : Int) (x1 : Int) (r : Int), As = [va T x0, va T x1] ∧ M_size_of x0 x1 = some r ∧ R = RV (va T r) (stt Ω [] [])
theorem sc_size_of : FnScope ["width", "n"] ["width", "n"] (defScope s_size_of) := ⟨rfl, rfl, rfl, by decide +kernel, rfl, by decide +kernel, by decide +kernel⟩
theorem ok_size_of {f : Addr} {fd : FuncData} (F : Fun T.K "size_of" "size_of" s_size_of f fd)  : FnOk P w T.K mg base CX0 2 f fd ["width", "n"] (mkSp (Pre_size_of T)) := by
  refine fn_ok F sc_size_of (fun As Ω R h => ?_) (fun cdv A outer s H E hr As Ω R F0 h => ?_)
  · obtain ⟨x0, x1, r, rfl, _⟩ := h
    rfl
  obtain ⟨x0, x1, r, rfl, hm, rfl⟩ := h
  refine ⟨_, (pss_one (ps_ret (pe_op op_fdivW (pe_op op_sub (pe_op op_addQ (pe_bits (pv 1)) (pv 0)) pe_int) (pv 0)))), fun D hrt hnx => ?_⟩
  have ok : Okk Ω [] := okk0
  suffices hx : XS _ D F0 [some (va T x0), some (va T x1)] (stt Ω [] []) by
    rw [show (stt Ω [] []) = Ω from stt_self (by simp)] at hx
    exact hx
  unfold M_size_of at hm
  obtain ⟨z1, hz1, hm⟩ := bnd_some hm
  obtain rfl := Option.some.inj hm
  refine xs_ret (xe_fdiv (chkP_some hz1) (xe_sub (xe_add (xe_bits (xe_var (i := 1) rfl)) (xe_var (i := 0) rfl)) xe_int) (xe_var (i := 0) rfl)) hrt.all
noncomputable def M_number_of : Nat → Int → (List Int) → Option Int
  | 0, _, _ => none
  | kf + 1, x0, x1 => (some (x1.length : Int)).bind fun y1 => if (decide ((32 : Int) < y1)) = true then (chkP (CDivW y1 (2 : Int))).bind fun z2 => (some (y1 / (2 : Int))).bind fun y3 => (M_number_of kf x0 (cut x1 none (some y3))).bind fun z4 => (M_number_of kf x0 (cut x1 (some y3) none)).bind fun z5 => (chkP (IntMulOk y3 x0)).bind fun z6 => (chkP (CShl z5 (y3 * x0))).bind fun z7 => some (z4 + (z5 * 2 ^ ((y3 * x0)).toNat)) else (forM' (ρ := Unit) (fun (a9 : Int) (s8 : Int) => (chkP (CShl s8 x0)).bind fun z10 => (some ((s8 * 2 ^ (x0).toNat) + a9)).bind fun y11 => some (Stp.nx y11)) ((x1).reverse) (0 : Int)).bind fun z12 => (nxt z12).bind fun s13 => some s13
theorem M_number_of_succ (kf : Nat) (x0 : Int) (x1 : List Int) : M_number_of (kf + 1) x0 x1 = ((some (x1.length : Int)).bind fun y1 => if (decide ((32 : Int) < y1)) = true then (chkP (CDivW y1 (2 : Int))).bind fun z2 => (some (y1 / (2 : Int))).bind fun y3 => (M_number_of kf x0 (cut x1 none (some y3))).bind fun z4 => (M_number_of kf x0 (cut x1 (some y3) none)).bind fun z5 => (chkP (IntMulOk y3 x0)).bind fun z6 => (chkP (CShl z5 (y3 * x0))).bind fun z7 => some (z4 + (z5 * 2 ^ ((y3 * x0)).toNat)) else (forM' (ρ := Unit) (fun (a9 : Int) (s8 : Int) => (chkP (CShl s8 x0)).bind fun z10 => (some ((s8 * 2 ^ (x0).toNat) + a9)).bind fun y11 => some (Stp.nx y11)) ((x1).reverse) (0 : Int)).bind fun z12 => (nxt z12).bind fun s13 => some s13) := by rw [M_number_of]
theorem M_number_of_zero (x0 : Int) (x1 : List Int) : M_number_of 0 x0 x1 = none := by rw [M_number_of]
def Pre_number_of (kf : Nat) (T : TC) : PreT := fun As Ω R => ∃ (x0 : Int) (x1 : List Int) (r : Int), As = [va T x0, va T (LF.mk x1)] ∧ M_number_of kf x0 x1 = some r ∧ R = RV (va T r) (stt Ω [] [])
theorem sc_number_of : FnScope ["width", "row", "size", "half", "number", "digit"] ["width", "row"] (defScope s_number_of) := ⟨rfl, rfl, rfl, by decide +kernel, rfl, by decide +kernel, by decide +kernel⟩
theorem ok0_number_of {f : Addr} {fd : FuncData} (F : Fun T.K "number_of" "number_of" s_number_of f fd) : FnOk P w T.K mg base CX0 1 f fd ["width", "row"] (mkSp (Pre_number_of 0 T)) := by
  refine fn_ok (k := 0) F sc_number_of (fun As Ω R h => ?_) (fun cdv A outer s H E hr As Ω R F0 h => ?_)
  · obtain ⟨x0, x1, r, rfl, _⟩ := h
    rfl
  obtain ⟨x0, x1, r, rfl, hm, rfl⟩ := h
  rw [M_number_of_zero] at hm
  cases hm
theorem ok_number_of (kf : Nat) {f : Addr} {fd : FuncData} (F : Fun T.K "number_of" "number_of" s_number_of f fd) (z_len : mg "len" = none) (g_LONGEST_LOOP : ∃ u, mg "LONGEST_LOOP" = some u ∧ RelV (.int 32) u) (c_number_of : Cal P w T.K mg base (1 + kf) "number_of" ["width", "row"] (mkSp (Pre_number_of kf T))) (z_reversed : mg "reversed" = none) : FnOk P w T.K mg base CX0 (1 + kf + 1) f fd ["width", "row"] (mkSp (Pre_number_of (kf + 1) T)) := by
  refine fn_ok F sc_number_of (fun As Ω R h => ?_) (fun cdv A outer s H E hr As Ω R F0 h => ?_)
  · obtain ⟨x0, x1, r, rfl, _⟩ := h
    rfl
  obtain ⟨x0, x1, r, rfl, hm, rfl⟩ := h
  refine ⟨_, (pss_cons (ps_set (i := 2) sc_number_of.nd rfl (.inl rfl) (pe_callB (cr_lenK (K := T.K) rfl) (by rfl) z_len PySem.boot_len (pa_cons (pv 1) pa_nil))) (pss_cons (ps_if (pt_cmpR op_gt (pv 2) (pe_gl rfl g_LONGEST_LOOP) (nomark _)) (pss_cons (ps_set (i := 3) sc_number_of.nd rfl (.inl rfl) (pe_op op_fdivW (pv 2) pe_int)) (pss_one (ps_ret (pe_op op_addQ (pe_cal c_number_of (hr.mono (by omega)) (by rfl) (pa_cons (pv 0) (pa_cons (pe_slice (sl_listK (K := T.K) rfl) (pv 1) po_none (po_some (pv 3))) pa_nil))) (pe_op op_shlW (pe_cal c_number_of (hr.mono (by omega)) (by rfl) (pa_cons (pv 0) (pa_cons (pe_slice (sl_listK (K := T.K) rfl) (pv 1) (po_some (pv 3)) po_none) pa_nil))) (pe_op op_mulQ (pv 3) (pv 0))))))) pss_nil) (pss_cons (ps_set (i := 4) sc_number_of.nd rfl (.inl rfl) pe_int) (pss_cons (ps_for PassesOwn.never rfl (RT.pi_revA (by rfl) z_reversed (pv 1)) (pg_name (i := 5) sc_number_of.nd rfl (.inl rfl)) (pss_one (ps_set (i := 4) sc_number_of.nd rfl (.inl rfl) (pe_op op_addQ (pe_op op_shlW (pv 4) (pv 0)) (pv 5))))) (pss_one (ps_ret (pv 4))))))), fun D hrt hnx => ?_⟩
  have ok : Okk Ω [] := okk0
  suffices hx : XS _ D F0 [some (va T x0), some (va T (LF.mk x1)), none, none, none, none] (stt Ω [] []) by
    rw [show (stt Ω [] []) = Ω from stt_self (by simp)] at hx
    exact hx
  rw [M_number_of_succ] at hm
  obtain ⟨y1, hy1, hm⟩ := bnd_some hm
  refine xs_set (A := va T y1) (xe_eq (xe_lenL (xe_var (i := 1) rfl) isL_LF) (Option.some.inj hy1)) ?_
  show XS (tSeq _ _) _ _ [some (va T x0), some (va T (LF.mk x1)), some (va T y1), none, none, none] (stt Ω [] [])
  by_cases hc : (decide ((32 : Int) < y1)) = true
  · rw [if_pos hc] at hm
    refine xs_ifT (xt_eq (xt_test (T := T) (xe_gt (xe_var (i := 2) rfl) xe_int)) hc) ?_
    obtain ⟨z2, hz2, hm⟩ := bnd_some hm
    obtain ⟨y3, hy3, hm⟩ := bnd_some hm
    refine xs_set (A := va T y3) (xe_eq (xe_fdiv (chkP_some hz2) (xe_var (i := 2) rfl) xe_int) (Option.some.inj hy3)) ?_
    show XS (tRet _) _ _ [some (va T x0), some (va T (LF.mk x1)), some (va T y1), some (va T y3), none, none] (stt Ω [] [])
    obtain ⟨z4, hz4, hm⟩ := bnd_some hm
    obtain ⟨z5, hz5, hm⟩ := bnd_some hm
    obtain ⟨z6, hz6, hm⟩ := bnd_some hm
    obtain ⟨z7, hz7, hm⟩ := bnd_some hm
    obtain rfl := Option.some.inj hm
    refine xs_ret (xe_add (xe_call (xa_cons (xe_var (i := 0) rfl) (xa_cons (xe_sliceL (xe_var (i := 1) rfl) xo_none (xo_some (T := T) (xe_var (i := 3) rfl)) isL_LF) xa_nil)) ⟨x0, (cut x1 none (some y3)), z4, rfl, hz4, rfl⟩ cal0) (xe_shl (chkP_some hz7) (xe_call (xa_cons (xe_var (i := 0) rfl) (xa_cons (xe_sliceL (xe_var (i := 1) rfl) (xo_some (T := T) (xe_var (i := 3) rfl)) xo_none isL_LF) xa_nil)) ⟨x0, (cut x1 (some y3) none), z5, rfl, hz5, rfl⟩ cal0) (xe_mul (chkP_some hz6) (xe_var (i := 3) rfl) (xe_var (i := 0) rfl)))) hrt.all
  · rw [if_neg hc] at hm
    refine xs_ifN (xt_eq (xt_test (T := T) (xe_gt (xe_var (i := 2) rfl) xe_int)) (nt hc)) ?_
    show XS (tSeq _ _) _ _ [some (va T x0), some (va T (LF.mk x1)), some (va T y1), none, none, none] (stt Ω [] [])
    refine xs_set (A := va T (0 : Int)) xe_int ?_
    show XS (tSeq _ _) _ _ [some (va T x0), some (va T (LF.mk x1)), some (va T y1), none, some (va T (0 : Int)), none] (stt Ω [] [])
    obtain ⟨z12, hz12, hm⟩ := bnd_some hm
    refine xs_forS (fun (s8 : Int) => [some (va T x0), some (va T (LF.mk x1)), some (va T y1), none, some (va T s8), none]) (fun (s8 : Int) => (stt Ω [] [])) (fun (_ : Unit) _ _ _ => False) hz12 (xi_revL (xe_var (i := 1) rfl)) (fun _ => tgt_name) (fun a9 s8 s' ha hm F1 D1 e1 hD => ?_) (fun s13 es => ?_) (fun r1 es => ?_)
    · show XS (tAsg _ _) _ _ [some (va T x0), some (va T (LF.mk x1)), some (va T y1), none, some (va T s8), some (va T a9)] (stt Ω [] [])
      obtain ⟨z10, hz10, hm⟩ := bnd_some hm
      obtain ⟨y11, hy11, hm⟩ := bnd_some hm
      refine xs_set1 (A := va T y11) (xe_eq (xe_add (xe_shl (chkP_some hz10) (xe_var (i := 4) rfl) (xe_var (i := 0) rfl)) (xe_var (i := 5) rfl)) (Option.some.inj hy11)) ?_
      obtain rfl := Option.some.inj hm
      exact fun σ H n => hD.nx _ rfl σ H (n.forget 5)
    · subst es
      obtain ⟨s2, hs2, hm⟩ := bnd_some hm
      cases hs2
      show XS (tRet _) _ _ [some (va T x0), some (va T (LF.mk x1)), some (va T y1), none, some (va T s13), none] (stt Ω [] [])
      obtain rfl := Option.some.inj hm
      refine xs_ret (xe_var (i := 4) rfl) hrt.all
    · subst es
      cases hm
noncomputable def M_low_part (x0 : Int) (x1 : Int) (x2 : Int) : Option Int :=
  (chkP (IntMulOk x2 x0)).bind fun z1 => (chkP (CShl (1 : Int) (x2 * x0))).bind fun z2 => some (Builtin.bitAnd x1 (((1 : Int) * 2 ^ ((x2 * x0)).toNat) - (1 : Int)))
def Pre_low_part (T : TC) : PreT := fun As Ω R => ∃ (x0 : Int) (x1 : Int) (x2 : Int) (r : Int), As = [va T x0, va T x1, va T x2] ∧ M_low_part x0 x1 x2 = some r ∧ R = RV (va T r) (stt Ω [] [])
theorem sc_low_part : FnScope ["width", "n", "size"] ["width", "n", "size"] (defScope s_low_part) := ⟨rfl, rfl, rfl, by decide +kernel, rfl, by decide +kernel, by decide +kernel⟩
theorem ok_low_part {f : Addr} {fd : FuncData} (F : Fun T.K "low_part" "low_part" s_low_part f fd)  : FnOk P w T.K mg base CX0 1 f fd ["width", "n", "size"] (mkSp (Pre_low_part T)) := by
  refine fn_ok F sc_low_part (fun As Ω R h => ?_) (fun cdv A outer s H E hr As Ω R F0 h => ?_)
  · obtain ⟨x0, x1, x2, r, rfl, _⟩ := h
    rfl
  obtain ⟨x0, x1, x2, r, rfl, hm, rfl⟩ := h
  refine ⟨_, (pss_one (ps_ret (pe_op op_and (pv 1) (pe_op op_sub (pe_op op_shlW pe_int (pe_op op_mulQ (pv 2) (pv 0))) pe_int)))), fun D hrt hnx => ?_⟩
  have ok : Okk Ω [] := okk0
  suffices hx : XS _ D F0 [some (va T x0), some (va T x1), some (va T x2)] (stt Ω [] []) by
    rw [show (stt Ω [] []) = Ω from stt_self (by simp)] at hx
    exact hx
  unfold M_low_part at hm
  obtain ⟨z1, hz1, hm⟩ := bnd_some hm
  obtain ⟨z2, hz2, hm⟩ := bnd_some hm
  obtain rfl := Option.some.inj hm
  refine xs_ret (xe_band (xe_var (i := 1) rfl) (xe_sub (xe_shl (chkP_some hz2) xe_int (xe_mul (chkP_some hz1) (xe_var (i := 2) rfl) (xe_var (i := 0) rfl))) xe_int)) hrt.all
noncomputable def M_row_of : Nat → Int → Int → Int → Option (List Int)
  | 0, _, _, _ => none
  | kf + 1, x0, x1, x2 => if (decide ((32 : Int) < x2)) = true then (chkP (CDivW x2 (2 : Int))).bind fun z1 => (some (x2 / (2 : Int))).bind fun y2 => (M_low_part x0 x1 y2).bind fun z3 => (M_row_of kf x0 z3 y2).bind fun z4 => (chkP (IntMulOk y2 x0)).bind fun z5 => (chkP (0 ≤ (y2 * x0))).bind fun z6 => (M_row_of kf x0 (x1 / 2 ^ ((y2 * x0)).toNat) (x2 - y2)).bind fun z7 => (chkP (z4.length + z7.length ≤ sizeLine)).bind fun z8 => some (z4 ++ z7) else (M_top_digit x0).bind fun z9 => (some ([] : List Int)).bind fun y10 => (chkP (-(2 ^ 62) ≤ x2 ∧ x2 < 2 ^ 62)).bind fun z13 => (forM' (ρ := Unit) (fun (a15 : Int) (s14 : Int × (List Int)) => (chkP (s14.2.length < sizeLine)).bind fun z16 => (chkP (0 ≤ x0)).bind fun z17 => (some (s14.1 / 2 ^ (x0).toNat)).bind fun y18 => some (Stp.nx (y18, (s14.2 ++ [(Builtin.bitAnd s14.1 z9)])))) (rng 0 (x2).toNat) (x1, y10)).bind fun z19 => (nxt z19).bind fun s20 => some s20.2
theorem M_row_of_succ (kf : Nat) (x0 : Int) (x1 : Int) (x2 : Int) : M_row_of (kf + 1) x0 x1 x2 = (if (decide ((32 : Int) < x2)) = true then (chkP (CDivW x2 (2 : Int))).bind fun z1 => (some (x2 / (2 : Int))).bind fun y2 => (M_low_part x0 x1 y2).bind fun z3 => (M_row_of kf x0 z3 y2).bind fun z4 => (chkP (IntMulOk y2 x0)).bind fun z5 => (chkP (0 ≤ (y2 * x0))).bind fun z6 => (M_row_of kf x0 (x1 / 2 ^ ((y2 * x0)).toNat) (x2 - y2)).bind fun z7 => (chkP (z4.length + z7.length ≤ sizeLine)).bind fun z8 => some (z4 ++ z7) else (M_top_digit x0).bind fun z9 => (some ([] : List Int)).bind fun y10 => (chkP (-(2 ^ 62) ≤ x2 ∧ x2 < 2 ^ 62)).bind fun z13 => (forM' (ρ := Unit) (fun (a15 : Int) (s14 : Int × (List Int)) => (chkP (s14.2.length < sizeLine)).bind fun z16 => (chkP (0 ≤ x0)).bind fun z17 => (some (s14.1 / 2 ^ (x0).toNat)).bind fun y18 => some (Stp.nx (y18, (s14.2 ++ [(Builtin.bitAnd s14.1 z9)])))) (rng 0 (x2).toNat) (x1, y10)).bind fun z19 => (nxt z19).bind fun s20 => some s20.2) := by rw [M_row_of]
theorem M_row_of_zero (x0 : Int) (x1 : Int) (x2 : Int) : M_row_of 0 x0 x1 x2 = none := by rw [M_row_of]
def Pre_row_of (kf : Nat) (T : TC) : PreT := fun As Ω R => ∃ (x0 : Int) (x1 : Int) (x2 : Int) (r : List Int), As = [va T x0, va T x1, va T x2] ∧ M_row_of kf x0 x1 x2 = some r ∧ R = RV (va T (LF.mk r)) (stt Ω [] [])
theorem sc_row_of : FnScope ["width", "n", "size", "half", "top", "row", "place"] ["width", "n", "size"] (defScope s_row_of) := ⟨rfl, rfl, rfl, by decide +kernel, rfl, by decide +kernel, by decide +kernel⟩
theorem ok0_row_of {f : Addr} {fd : FuncData} (F : Fun T.K "row_of" "row_of" s_row_of f fd) : FnOk P w T.K mg base CX0 1 f fd ["width", "n", "size"] (mkSp (Pre_row_of 0 T)) := by
  refine fn_ok (k := 0) F sc_row_of (fun As Ω R h => ?_) (fun cdv A outer s H E hr As Ω R F0 h => ?_)
  · obtain ⟨x0, x1, x2, r, rfl, _⟩ := h
    rfl
  obtain ⟨x0, x1, x2, r, rfl, hm, rfl⟩ := h
  rw [M_row_of_zero] at hm
  cases hm
theorem ok_row_of (kf : Nat) {f : Addr} {fd : FuncData} (F : Fun T.K "row_of" "row_of" s_row_of f fd) (g_LONGEST_LOOP : ∃ u, mg "LONGEST_LOOP" = some u ∧ RelV (.int 32) u) (c_low_part : Cal P w T.K mg base 1 "low_part" ["width", "n", "size"] (mkSp (Pre_low_part T))) (c_row_of : Cal P w T.K mg base (1 + kf) "row_of" ["width", "n", "size"] (mkSp (Pre_row_of kf T))) (c_top_digit : Cal P w T.K mg base 1 "top_digit" ["width"] (mkSp (Pre_top_digit T))) (z_range : mg "range" = none) : FnOk P w T.K mg base CX0 (1 + kf + 1) f fd ["width", "n", "size"] (mkSp (Pre_row_of (kf + 1) T)) := by
  refine fn_ok F sc_row_of (fun As Ω R h => ?_) (fun cdv A outer s H E hr As Ω R F0 h => ?_)
  · obtain ⟨x0, x1, x2, r, rfl, _⟩ := h
    rfl
  obtain ⟨x0, x1, x2, r, rfl, hm, rfl⟩ := h
  refine ⟨_, (pss_cons (ps_if (pt_cmpR op_gt (pv 2) (pe_gl rfl g_LONGEST_LOOP) (nomark _)) (pss_cons (ps_set (i := 3) sc_row_of.nd rfl (.inl rfl) (pe_op op_fdivW (pv 2) pe_int)) (pss_one (ps_ret (pe_op op_addQ (pe_cal c_row_of (hr.mono (by omega)) (by rfl) (pa_cons (pv 0) (pa_cons (pe_cal c_low_part (hr.mono (by omega)) (by rfl) (pa_cons (pv 0) (pa_cons (pv 1) (pa_cons (pv 3) pa_nil)))) (pa_cons (pv 3) pa_nil)))) (pe_cal c_row_of (hr.mono (by omega)) (by rfl) (pa_cons (pv 0) (pa_cons (pe_op op_shr (pv 1) (pe_op op_mulQ (pv 3) (pv 0))) (pa_cons (pe_op op_sub (pv 2) (pv 3)) pa_nil)))))))) pss_nil) (pss_cons (ps_set (i := 4) sc_row_of.nd rfl (.inl rfl) (pe_cal c_top_digit (hr.mono (by omega)) (by rfl) (pa_cons (pv 0) pa_nil))) (pss_cons (ps_set (i := 5) sc_row_of.nd rfl (.inl rfl) (pe_lst pa_nil)) (pss_cons (ps_for PassesOwn.never rfl (pi_range1 rfl z_range (pa_cons (pv 2) pa_nil)) (pg_name (i := 6) sc_row_of.nd rfl (.inl rfl)) (pss_cons (ps_expr (pe_bm PySem.F.plainAttrs_list PySem.F.slot_list_append PySem.F.type_list_append mt_append (pv 5) (pa_cons (pe_op op_and (pv 1) (pv 4)) pa_nil))) (pss_one (ps_aug (i := 1) sc_row_of.nd rfl (.inl rfl) (pv 0) (ip_of iop_shr))))) (pss_one (ps_ret (pv 5))))))), fun D hrt hnx => ?_⟩
  have ok : Okk Ω [] := okk0
  suffices hx : XS _ D F0 [some (va T x0), some (va T x1), some (va T x2), none, none, none, none] (stt Ω [] []) by
    rw [show (stt Ω [] []) = Ω from stt_self (by simp)] at hx
    exact hx
  rw [M_row_of_succ] at hm
  by_cases hc : (decide ((32 : Int) < x2)) = true
  · rw [if_pos hc] at hm
    refine xs_ifT (xt_eq (xt_test (T := T) (xe_gt (xe_var (i := 2) rfl) xe_int)) hc) ?_
    obtain ⟨z1, hz1, hm⟩ := bnd_some hm
    obtain ⟨y2, hy2, hm⟩ := bnd_some hm
    refine xs_set (A := va T y2) (xe_eq (xe_fdiv (chkP_some hz1) (xe_var (i := 2) rfl) xe_int) (Option.some.inj hy2)) ?_
    show XS (tRet _) _ _ [some (va T x0), some (va T x1), some (va T x2), some (va T y2), none, none, none] (stt Ω [] [])
    obtain ⟨z3, hz3, hm⟩ := bnd_some hm
    obtain ⟨z4, hz4, hm⟩ := bnd_some hm
    obtain ⟨z5, hz5, hm⟩ := bnd_some hm
    obtain ⟨z6, hz6, hm⟩ := bnd_some hm
    obtain ⟨z7, hz7, hm⟩ := bnd_some hm
    obtain ⟨z8, hz8, hm⟩ := bnd_some hm
    obtain rfl := Option.some.inj hm
    refine xs_ret (xe_cat (xe_call (xa_cons (xe_var (i := 0) rfl) (xa_cons (xe_call (xa_cons (xe_var (i := 0) rfl) (xa_cons (xe_var (i := 1) rfl) (xa_cons (xe_var (i := 3) rfl) xa_nil))) ⟨x0, x1, y2, z3, rfl, hz3, rfl⟩ cal0) (xa_cons (xe_var (i := 3) rfl) xa_nil))) ⟨x0, z3, y2, z4, rfl, hz4, rfl⟩ cal0) (xe_call (xa_cons (xe_var (i := 0) rfl) (xa_cons (xe_shr (chkP_some hz6) (xe_var (i := 1) rfl) (xe_mul (chkP_some hz5) (xe_var (i := 3) rfl) (xe_var (i := 0) rfl))) (xa_cons (xe_sub (xe_var (i := 2) rfl) (xe_var (i := 3) rfl)) xa_nil))) ⟨x0, (x1 / 2 ^ ((y2 * x0)).toNat), (x2 - y2), z7, rfl, hz7, rfl⟩ cal0) isLs_LF isLs_LF (chkP_some hz8)) hrt.all
  · rw [if_neg hc] at hm
    refine xs_ifN (xt_eq (xt_test (T := T) (xe_gt (xe_var (i := 2) rfl) xe_int)) (nt hc)) ?_
    show XS (tSeq _ _) _ _ [some (va T x0), some (va T x1), some (va T x2), none, none, none, none] (stt Ω [] [])
    obtain ⟨z9, hz9, hm⟩ := bnd_some hm
    refine xs_set (A := va T z9) (xe_call (xa_cons (xe_var (i := 0) rfl) xa_nil) ⟨x0, z9, rfl, hz9, rfl⟩ cal0) ?_
    show XS (tSeq _ _) _ _ [some (va T x0), some (va T x1), some (va T x2), none, some (va T z9), none, none] (stt Ω [] [])
    obtain ⟨y10, hy10, hm⟩ := bnd_some hm
    obtain rfl := Option.some.inj hy10
    refine xs_setO ((xn_lst (T := T) (l := ([] : List Int)) xa_nil (Nat.zero_le _))) (fun pp11 => ?_)
    show XS (tSeq _ _) _ _ [some (va T x0), some (va T x1), some (va T x2), none, some (va T z9), some (vr pp11), none] (stt Ω [] [lstA T pp11 (([] : List Int) : List Int)])
    obtain ⟨z13, hz13, hm⟩ := bnd_some hm
    obtain ⟨z19, hz19, hm⟩ := bnd_some hm
    refine xs_forS (fun (s14 : Int × (List Int)) => [some (va T x0), some (va T s14.1), some (va T x2), none, some (va T z9), some (vr pp11), none]) (fun (s14 : Int × (List Int)) => (stt Ω [] [lstA T pp11 (s14.2 : List Int)])) (fun (_ : Unit) _ _ _ => False) hz19 (xi_range1 (T := T) (xa_cons (xe_var (i := 2) rfl) xa_nil) (chkP_some hz13).1 (chkP_some hz13).2) (fun _ => tgt_name) (fun a15 s14 s' ha hm F1 D1 e1 hD => ?_) (fun s20 es => ?_) (fun r1 es => ?_)
    · show XS (tSeq _ _) _ _ [some (va T x0), some (va T s14.1), some (va T x2), none, some (va T z9), some (vr pp11), some (va T a15)] (stt Ω [] [lstA T pp11 (s14.2 : List Int)])
      obtain ⟨z16, hz16, hm⟩ := bnd_some hm
      refine xs_drop (xe_appE (stt_getL (j := 0) rfl) (stt_getL (j := 0) rfl) (xe_var (i := 5) rfl) (xe_band (xe_var (i := 1) rfl) (xe_var (i := 4) rfl)) (chkP_some hz16) (stt_setL (j := 0))) ?_
      show XS (tAug _ _ _) _ _ [some (va T x0), some (va T s14.1), some (va T x2), none, some (va T z9), some (vr pp11), some (va T a15)] (stt Ω [] [lstA T pp11 ((s14.2 ++ [(Builtin.bitAnd s14.1 z9)]) : List Int)])
      obtain ⟨z17, hz17, hm⟩ := bnd_some hm
      obtain ⟨y18, hy18, hm⟩ := bnd_some hm
      refine xs_augD1 (T := T) rfl (chkP_some hz17) (xe_var (i := 0) rfl) (Option.some.inj hy18) ?_
      obtain rfl := Option.some.inj hm
      exact fun σ H n => hD.nx _ rfl σ H (n.forget 6)
    · subst es
      obtain ⟨s2, hs2, hm⟩ := bnd_some hm
      cases hs2
      show XS (tRet _) _ _ [some (va T x0), some (va T s20.1), some (va T x2), none, some (va T z9), some (vr pp11), none] (stt Ω [] [lstA T pp11 (s20.2 : List Int)])
      obtain rfl := Option.some.inj hm
      refine xs_fzJ (k := 5) (j := 0) rfl rfl ?_
      show XS _ _ _ [some (va T x0), some (va T s20.1), some (va T x2), none, some (va T z9), some (va T (LF.mk s20.2)), none] (stt Ω [] [nilA])
      exact xs_ret (xe_var (i := 5) rfl) hrt.all
    · subst es
      cases hm
noncomputable def M_check_big (x0 : Bg) (x1 : Str) : Option Unit :=
  (chkP (true = true)).bind fun z1 => some ()
def Pre_check_big (T : TC) : PreT := fun As Ω R => ∃ (x0 : Bg) (x1 : Str) (r : Unit), As = [va T x0, va T x1] ∧ M_check_big x0 x1 = some r ∧ R = RV (va T r) (stt Ω [] [])
theorem sc_check_big : FnScope ["value", "name"] ["value", "name"] (defScope s_check_big) := ⟨rfl, rfl, rfl, by decide +kernel, rfl, by decide +kernel, by decide +kernel⟩
theorem ok_check_big {f : Addr} {fd : FuncData} (F : Fun T.K "check_big" "check_big" s_check_big f fd) (z_isinstance : mg "isinstance" = none) (icb : ICls T.K (T.C 1)) (g_Big : ∃ u, mg "Big" = some u ∧ RelV (.ref (T.C 1)) u) : FnOk P w T.K mg base CX0 1 f fd ["value", "name"] (mkSp (Pre_check_big T)) := by
  refine fn_ok F sc_check_big (fun As Ω R h => ?_) (fun cdv A outer s H E hr As Ω R F0 h => ?_)
  · obtain ⟨x0, x1, r, rfl, _⟩ := h
    rfl
  obtain ⟨x0, x1, r, rfl, hm, rfl⟩ := h
  refine ⟨_, (pss_one (ps_if (pt_not (pt_val (pe_callB (cr_isiK (K := T.K) rfl) (by rfl) z_isinstance (by decide +kernel) (pa_cons (pv 0) (pa_cons (pe_gl rfl g_Big) pa_nil))))) pss_never pss_nil)), fun D hrt hnx => ?_⟩
  have ok : Okk Ω [] := okk0
  suffices hx : XS _ D F0 [some (va T x0), some (va T x1)] (stt Ω [] []) by
    rw [show (stt Ω [] []) = Ω from stt_self (by simp)] at hx
    exact hx
  unfold M_check_big at hm
  obtain ⟨z1, hz1, hm⟩ := bnd_some hm
  refine xs_ifF1 (xt_notF (xt_eq (xt_tB (T := T) (xe_isi (xe_var (i := 0) rfl) xe_vx (.own _) (fun F H v hh a => ty_big icb hh a) icb.kit)) (chkP_some hz1))) ?_
  obtain rfl := Option.some.inj hm
  exact fun σ H ⟨F, f0, e, hh⟩ => hnx F σ H _ f0 hh.all ⟨rfl, rfl⟩
noncomputable def M_check_fit (x0 : MS) (x1 : Bg) (x2 : Str) : Option Unit :=
  (M_check_big x1 x2).bind fun z1 => (chkP (x1.w = x0.w)).bind fun z2 => some ()
def Pre_check_fit (T : TC) : PreT := fun As Ω R => ∃ (k0 : Nat) (p0 : Addr) (x0 : MS) (x1 : Bg) (x2 : Str) (r : Unit), As = [vr p0, va T x1, va T x2] ∧ Ω[k0]? = some (machA T p0 x0) ∧ M_check_fit x0 x1 x2 = some r ∧ R = RV (va T r) (stt Ω [] [])
theorem sc_check_fit : FnScope ["machine", "value", "name"] ["machine", "value", "name"] (defScope s_check_fit) := ⟨rfl, rfl, rfl, by decide +kernel, rfl, by decide +kernel, by decide +kernel⟩
theorem ok_check_fit {f : Addr} {fd : FuncData} (F : Fun T.K "check_fit" "check_fit" s_check_fit f fd) (c_check_big : Cal P w T.K mg base 1 "check_big" ["value", "name"] (mkSp (Pre_check_big T))) (bc : BCls T.K (T.C 1)) (mc : MCls T.K (T.C 0)) : FnOk P w T.K mg base CX0 2 f fd ["machine", "value", "name"] (mkSp (Pre_check_fit T)) := by
  refine fn_ok F sc_check_fit (fun As Ω R h => ?_) (fun cdv A outer s H E hr As Ω R F0 h => ?_)
  · obtain ⟨k0, p0, x0, x1, x2, r, rfl, _⟩ := h
    rfl
  obtain ⟨k0, p0, x0, x1, x2, r, rfl, hk0, hm, rfl⟩ := h
  refine ⟨_, (pss_cons (ps_expr (pe_cal c_check_big (hr.mono (by decide)) (by rfl) (pa_cons (pv 1) (pa_cons (pv 2) pa_nil)))) (pss_one (ps_if (pt_cmpR (op_neXK (K := T.K) (by exact hr.units) rfl) (pe_fldK (K := T.K) (pv 1) (by rfl) rfl) (pe_fldK (K := T.K) (pv 0) (by rfl) rfl) (nomark _)) pss_never pss_nil))), fun D hrt hnx => ?_⟩
  have ok : Okk Ω [] := okk0
  suffices hx : XS _ D F0 [some (vr p0), some (va T x1), some (va T x2)] (stt Ω [] []) by
    rw [show (stt Ω [] []) = Ω from stt_self (by simp)] at hx
    exact hx
  unfold M_check_fit at hm
  obtain ⟨z1, hz1, hm⟩ := bnd_some hm
  refine xs_drop (xe_call (xa_cons (xe_var (i := 1) rfl) (xa_cons (xe_var (i := 2) rfl) xa_nil)) ⟨x1, x2, z1, rfl, hz1, rfl⟩ cal0) ?_
  show XS (tIfS _ _ _) _ _ [some (vr p0), some (va T x1), some (va T x2)] (stt Ω [] [])
  obtain ⟨z2, hz2, hm⟩ := bnd_some hm
  refine xs_ifF1 (xt_test (T := T) (xe_eq (xe_neI (xe_bw bc.cl bc.nw (xe_var (i := 1) rfl)) (xe_mw mc.cl mc.nw (xe_var (i := 0) rfl) (stt_getU hk0))) (neK_ (chkP_some hz2)))) ?_
  obtain rfl := Option.some.inj hm
  exact fun σ H ⟨F, f0, e, hh⟩ => hnx F σ H _ f0 hh.all ⟨rfl, rfl⟩
noncomputable def M_check_one (x0 : MS) (x1 : Bg) : Option Unit :=
  (M_check_machine x0).bind fun z1 => (M_check_fit x0 x1 ("x" : Str)).bind fun z2 => some ()
def Pre_check_one (T : TC) : PreT := fun As Ω R => ∃ (k0 : Nat) (p0 : Addr) (x0 : MS) (x1 : Bg) (r : Unit), As = [vr p0, va T x1] ∧ Ω[k0]? = some (machA T p0 x0) ∧ M_check_one x0 x1 = some r ∧ R = RV (va T r) (stt Ω [] [])
theorem sc_check_one : FnScope ["machine", "x"] ["machine", "x"] (defScope s_check_one) := ⟨rfl, rfl, rfl, by decide +kernel, rfl, by decide +kernel, by decide +kernel⟩
theorem ok_check_one {f : Addr} {fd : FuncData} (F : Fun T.K "check_one" "check_one" s_check_one f fd) (c_check_machine : Cal P w T.K mg base 1 "check_machine" ["machine"] (mkSp (Pre_check_machine T))) (c_check_fit : Cal P w T.K mg base 2 "check_fit" ["machine", "value", "name"] (mkSp (Pre_check_fit T))) : FnOk P w T.K mg base CX0 3 f fd ["machine", "x"] (mkSp (Pre_check_one T)) := by
  refine fn_ok F sc_check_one (fun As Ω R h => ?_) (fun cdv A outer s H E hr As Ω R F0 h => ?_)
  · obtain ⟨k0, p0, x0, x1, r, rfl, _⟩ := h
    rfl
  obtain ⟨k0, p0, x0, x1, r, rfl, hk0, hm, rfl⟩ := h
  refine ⟨_, (pss_cons (ps_expr (pe_cal c_check_machine (hr.mono (by decide)) (by rfl) (pa_cons (pv 0) pa_nil))) (pss_one (ps_expr (pe_cal c_check_fit (hr.mono (by decide)) (by rfl) (pa_cons (pv 0) (pa_cons (pv 1) (pa_cons pe_str pa_nil))))))), fun D hrt hnx => ?_⟩
  have ok : Okk Ω [] := okk0
  suffices hx : XS _ D F0 [some (vr p0), some (va T x1)] (stt Ω [] []) by
    rw [show (stt Ω [] []) = Ω from stt_self (by simp)] at hx
    exact hx
  unfold M_check_one at hm
  obtain ⟨z1, hz1, hm⟩ := bnd_some hm
  refine xs_drop (xe_call (xa_cons (xe_var (i := 0) rfl) xa_nil) ⟨k0, p0, x0, z1, rfl, (stt_getU hk0), hz1, rfl⟩ cal0) ?_
  show XS (tDrop _) _ _ [some (vr p0), some (va T x1)] (stt Ω [] [])
  obtain ⟨z2, hz2, hm⟩ := bnd_some hm
  refine xs_drop1 (xe_call (xa_cons (xe_var (i := 0) rfl) (xa_cons (xe_var (i := 1) rfl) (xa_cons xe_str xa_nil))) ⟨k0, p0, x0, x1, ("x" : Str), z2, rfl, (stt_getU hk0), hz2, rfl⟩ cal0) ?_
  obtain rfl := Option.some.inj hm
  exact fun σ H ⟨F, f0, e, hh⟩ => hnx F σ H _ f0 hh.all ⟨rfl, rfl⟩
noncomputable def M_check_two (x0 : MS) (x1 : Bg) (x2 : Bg) : Option Unit :=
  (M_check_one x0 x1).bind fun z1 => (M_check_fit x0 x2 ("y" : Str)).bind fun z2 => some ()
def Pre_check_two (T : TC) : PreT := fun As Ω R => ∃ (k0 : Nat) (p0 : Addr) (x0 : MS) (x1 : Bg) (x2 : Bg) (r : Unit), As = [vr p0, va T x1, va T x2] ∧ Ω[k0]? = some (machA T p0 x0) ∧ M_check_two x0 x1 x2 = some r ∧ R = RV (va T r) (stt Ω [] [])
theorem sc_check_two : FnScope ["machine", "x", "y"] ["machine", "x", "y"] (defScope s_check_two) := ⟨rfl, rfl, rfl, by decide +kernel, rfl, by decide +kernel, by decide +kernel⟩
theorem ok_check_two {f : Addr} {fd : FuncData} (F : Fun T.K "check_two" "check_two" s_check_two f fd) (c_check_one : Cal P w T.K mg base 3 "check_one" ["machine", "x"] (mkSp (Pre_check_one T))) (c_check_fit : Cal P w T.K mg base 2 "check_fit" ["machine", "value", "name"] (mkSp (Pre_check_fit T))) : FnOk P w T.K mg base CX0 4 f fd ["machine", "x", "y"] (mkSp (Pre_check_two T)) := by
  refine fn_ok F sc_check_two (fun As Ω R h => ?_) (fun cdv A outer s H E hr As Ω R F0 h => ?_)
  · obtain ⟨k0, p0, x0, x1, x2, r, rfl, _⟩ := h
    rfl
  obtain ⟨k0, p0, x0, x1, x2, r, rfl, hk0, hm, rfl⟩ := h
  refine ⟨_, (pss_cons (ps_expr (pe_cal c_check_one (hr.mono (by decide)) (by rfl) (pa_cons (pv 0) (pa_cons (pv 1) pa_nil)))) (pss_one (ps_expr (pe_cal c_check_fit (hr.mono (by decide)) (by rfl) (pa_cons (pv 0) (pa_cons (pv 2) (pa_cons pe_str pa_nil))))))), fun D hrt hnx => ?_⟩
  have ok : Okk Ω [] := okk0
  suffices hx : XS _ D F0 [some (vr p0), some (va T x1), some (va T x2)] (stt Ω [] []) by
    rw [show (stt Ω [] []) = Ω from stt_self (by simp)] at hx
    exact hx
  unfold M_check_two at hm
  obtain ⟨z1, hz1, hm⟩ := bnd_some hm
  refine xs_drop (xe_call (xa_cons (xe_var (i := 0) rfl) (xa_cons (xe_var (i := 1) rfl) xa_nil)) ⟨k0, p0, x0, x1, z1, rfl, (stt_getU hk0), hz1, rfl⟩ cal0) ?_
  show XS (tDrop _) _ _ [some (vr p0), some (va T x1), some (va T x2)] (stt Ω [] [])
  obtain ⟨z2, hz2, hm⟩ := bnd_some hm
  refine xs_drop1 (xe_call (xa_cons (xe_var (i := 0) rfl) (xa_cons (xe_var (i := 2) rfl) (xa_cons xe_str xa_nil))) ⟨k0, p0, x0, x2, ("y" : Str), z2, rfl, (stt_getU hk0), hz2, rfl⟩ cal0) ?_
  obtain rfl := Option.some.inj hm
  exact fun σ H ⟨F, f0, e, hh⟩ => hnx F σ H _ f0 hh.all ⟨rfl, rfl⟩
noncomputable def M_big_of (x0 : MS) (x1 : Int) : Option Bg :=
  (M_size_of x0.w x1).bind fun z1 => (M_row_of 20 x0.w ((x1.natAbs : Nat) : Int) z1).bind fun z2 => some (Bg.mk x0.w z2 x1)
def Pre_big_of (T : TC) : PreT := fun As Ω R => ∃ (k0 : Nat) (p0 : Addr) (x0 : MS) (x1 : Int) (r : Bg), As = [vr p0, va T x1] ∧ Ω[k0]? = some (machA T p0 x0) ∧ M_big_of x0 x1 = some r ∧ R = RV (va T r) (stt Ω [] [])
theorem sc_big_of : FnScope ["machine", "value"] ["machine", "value"] (defScope s_big_of) := ⟨rfl, rfl, rfl, by decide +kernel, rfl, by decide +kernel, by decide +kernel⟩
theorem ok_big_of {f : Addr} {fd : FuncData} (F : Fun T.K "big_of" "big_of" s_big_of f fd) (mc : MCls T.K (T.C 0)) (z_abs : mg "abs" = none) (c_size_of : Cal P w T.K mg base 2 "size_of" ["width", "n"] (mkSp (Pre_size_of T))) (c_row_of : Cal P w T.K mg base 21 "row_of" ["width", "n", "size"] (mkSp (Pre_row_of 20 T))) (c_Big : CalC P w T.K mg base 2 "Big" (T.C 1) ["self", "width", "value", "row"] [] (mkSp (Pre_Big T))) : FnOk P w T.K mg base CX0 22 f fd ["machine", "value"] (mkSp (Pre_big_of T)) := by
  refine fn_ok F sc_big_of (fun As Ω R h => ?_) (fun cdv A outer s H E hr As Ω R F0 h => ?_)
  · obtain ⟨k0, p0, x0, x1, r, rfl, _⟩ := h
    rfl
  obtain ⟨k0, p0, x0, x1, r, rfl, hk0, hm, rfl⟩ := h
  refine ⟨_, (pss_one (ps_ret (pe_calC c_Big (hr.mono (by decide)) (by rfl) (pa_cons (pe_fldK (K := T.K) (pv 0) (by rfl) rfl) (pa_cons (pv 1) (pa_cons (pe_cal c_row_of (hr.mono (by decide)) (by rfl) (pa_cons (pe_fldK (K := T.K) (pv 0) (by rfl) rfl) (pa_cons (pe_callB cr_abs (by rfl) z_abs (by decide +kernel) (pa_cons (pv 1) pa_nil)) (pa_cons (pe_cal c_size_of (hr.mono (by decide)) (by rfl) (pa_cons (pe_fldK (K := T.K) (pv 0) (by rfl) rfl) (pa_cons (pv 1) pa_nil))) pa_nil)))) pa_nil)))))), fun D hrt hnx => ?_⟩
  have ok : Okk Ω [] := okk0
  suffices hx : XS _ D F0 [some (vr p0), some (va T x1)] (stt Ω [] []) by
    rw [show (stt Ω [] []) = Ω from stt_self (by simp)] at hx
    exact hx
  unfold M_big_of at hm
  obtain ⟨z1, hz1, hm⟩ := bnd_some hm
  obtain ⟨z2, hz2, hm⟩ := bnd_some hm
  obtain rfl := Option.some.inj hm
  refine xs_ret (xe_fzB (xn_make (Ds := []) (xa_cons (xe_mw mc.cl mc.nw (xe_var (i := 0) rfl) (stt_getU hk0)) (xa_cons (xe_var (i := 1) rfl) (xa_cons (xe_call (xa_cons (xe_mw mc.cl mc.nw (xe_var (i := 0) rfl) (stt_getU hk0)) (xa_cons (xe_abs (xe_var (i := 1) rfl)) (xa_cons (xe_call (xa_cons (xe_mw mc.cl mc.nw (xe_var (i := 0) rfl) (stt_getU hk0)) (xa_cons (xe_var (i := 1) rfl) xa_nil)) ⟨x0.w, x1, z1, rfl, hz1, rfl⟩ cal0) xa_nil))) ⟨x0.w, ((x1.natAbs : Nat) : Int), z1, z2, rfl, hz2, rfl⟩ cal0) xa_nil))) (fun _ => .nil) (fun q => ⟨_, q, x0.w, x1, z2, _, .inl rfl, rfl, rfl, rfl⟩))) hrt.all
noncomputable def M_big (x0 : MS) (x1 : Int) : Option Bg :=
  (M_check_machine x0).bind fun z1 => (M_is_integer x1).bind fun z2 => (chkP (z2 = true)).bind fun z3 => (M_big_of x0 x1).bind fun z4 => some z4
def Pre_big (T : TC) : PreT := fun As Ω R => ∃ (k0 : Nat) (p0 : Addr) (x0 : MS) (x1 : Int) (r : Bg), As = [vr p0, va T x1] ∧ Ω[k0]? = some (machA T p0 x0) ∧ M_big x0 x1 = some r ∧ R = RV (va T r) (stt Ω [] [])
theorem sc_big : FnScope ["machine", "n"] ["machine", "n"] (defScope s_big) := ⟨rfl, rfl, rfl, by decide +kernel, rfl, by decide +kernel, by decide +kernel⟩
theorem ok_big {f : Addr} {fd : FuncData} (F : Fun T.K "big" "big" s_big f fd) (c_check_machine : Cal P w T.K mg base 1 "check_machine" ["machine"] (mkSp (Pre_check_machine T))) (c_is_integer : Cal P w T.K mg base 1 "is_integer" ["value"] (mkSp (Pre_is_integer T))) (c_big_of : Cal P w T.K mg base 22 "big_of" ["machine", "value"] (mkSp (Pre_big_of T))) : FnOk P w T.K mg base CX0 23 f fd ["machine", "n"] (mkSp (Pre_big T)) := by
  refine fn_ok F sc_big (fun As Ω R h => ?_) (fun cdv A outer s H E hr As Ω R F0 h => ?_)
  · obtain ⟨k0, p0, x0, x1, r, rfl, _⟩ := h
    rfl
  obtain ⟨k0, p0, x0, x1, r, rfl, hk0, hm, rfl⟩ := h
  refine ⟨_, (pss_cons (ps_expr (pe_cal c_check_machine (hr.mono (by decide)) (by rfl) (pa_cons (pv 0) pa_nil))) (pss_cons (ps_if (pt_not (pt_val (pe_cal c_is_integer (hr.mono (by decide)) (by rfl) (pa_cons (pv 1) pa_nil)))) pss_never pss_nil) (pss_one (ps_ret (pe_cal c_big_of (hr.mono (by decide)) (by rfl) (pa_cons (pv 0) (pa_cons (pv 1) pa_nil))))))), fun D hrt hnx => ?_⟩
  have ok : Okk Ω [] := okk0
  suffices hx : XS _ D F0 [some (vr p0), some (va T x1)] (stt Ω [] []) by
    rw [show (stt Ω [] []) = Ω from stt_self (by simp)] at hx
    exact hx
  unfold M_big at hm
  obtain ⟨z1, hz1, hm⟩ := bnd_some hm
  refine xs_drop (xe_call (xa_cons (xe_var (i := 0) rfl) xa_nil) ⟨k0, p0, x0, z1, rfl, (stt_getU hk0), hz1, rfl⟩ cal0) ?_
  show XS (tSeq _ _) _ _ [some (vr p0), some (va T x1)] (stt Ω [] [])
  obtain ⟨z2, hz2, hm⟩ := bnd_some hm
  obtain ⟨z3, hz3, hm⟩ := bnd_some hm
  refine xs_ifN (xt_notF (xt_eq (xt_tB (T := T) (xe_call (xa_cons (xe_var (i := 1) rfl) xa_nil) ⟨x1, z2, rfl, hz2, rfl⟩ cal0)) (chkP_some hz3))) ?_
  show XS (tRet _) _ _ [some (vr p0), some (va T x1)] (stt Ω [] [])
  obtain ⟨z4, hz4, hm⟩ := bnd_some hm
  obtain rfl := Option.some.inj hm
  refine xs_ret (xe_call (xa_cons (xe_var (i := 0) rfl) (xa_cons (xe_var (i := 1) rfl) xa_nil)) ⟨k0, p0, x0, x1, z4, rfl, (stt_getU hk0), hz4, rfl⟩ cal0) hrt.all
noncomputable def M_plain (x0 : Bg) : Option Int :=
  (M_check_big x0 ("x" : Str)).bind fun z1 => some x0.v
def Pre_plain (T : TC) : PreT := fun As Ω R => ∃ (x0 : Bg) (r : Int), As = [va T x0] ∧ M_plain x0 = some r ∧ R = RV (va T r) (stt Ω [] [])
theorem sc_plain : FnScope ["x"] ["x"] (defScope s_plain) := ⟨rfl, rfl, rfl, by decide +kernel, rfl, by decide +kernel, by decide +kernel⟩
theorem ok_plain {f : Addr} {fd : FuncData} (F : Fun T.K "plain" "plain" s_plain f fd) (c_check_big : Cal P w T.K mg base 1 "check_big" ["value", "name"] (mkSp (Pre_check_big T))) (bc : BCls T.K (T.C 1)) : FnOk P w T.K mg base CX0 2 f fd ["x"] (mkSp (Pre_plain T)) := by
  refine fn_ok F sc_plain (fun As Ω R h => ?_) (fun cdv A outer s H E hr As Ω R F0 h => ?_)
  · obtain ⟨x0, r, rfl, _⟩ := h
    rfl
  obtain ⟨x0, r, rfl, hm, rfl⟩ := h
  refine ⟨_, (pss_cons (ps_expr (pe_cal c_check_big (hr.mono (by decide)) (by rfl) (pa_cons (pv 0) (pa_cons pe_str pa_nil)))) (pss_one (ps_ret (pe_fldK (K := T.K) (pv 0) (by rfl) rfl)))), fun D hrt hnx => ?_⟩
  have ok : Okk Ω [] := okk0
  suffices hx : XS _ D F0 [some (va T x0)] (stt Ω [] []) by
    rw [show (stt Ω [] []) = Ω from stt_self (by simp)] at hx
    exact hx
  unfold M_plain at hm
  obtain ⟨z1, hz1, hm⟩ := bnd_some hm
  refine xs_drop (xe_call (xa_cons (xe_var (i := 0) rfl) (xa_cons xe_str xa_nil)) ⟨x0, ("x" : Str), z1, rfl, hz1, rfl⟩ cal0) ?_
  show XS (tRet _) _ _ [some (va T x0)] (stt Ω [] [])
  obtain rfl := Option.some.inj hm
  refine xs_ret (xe_bv bc.cl bc.nv (xe_var (i := 0) rfl)) hrt.all
noncomputable def M_lifted (x0 : MS) (x1 : Int) (x2 : Int) (x3 : Int) : Option (Int × MS) :=
  (chkP (("shifted" : Str) ∈ mwords)).bind fun z1 => (chkP (CShl x1 x3)).bind fun z2 => some ((x1 * 2 ^ (x3).toNat), ((x0.enter ("lift" : Str) x2 x3).step ("shifted" : Str) x2))
def Pre_lifted (T : TC) : PreT := fun As Ω R => ∃ (k0 : Nat) (p0 : Addr) (x0 : MS) (x1 : Int) (x2 : Int) (x3 : Int) (r : Int × MS), As = [vr p0, va T x1, va T x2, va T x3] ∧ Ω[k0]? = some (machA T p0 x0) ∧ M_lifted x0 x1 x2 x3 = some r ∧ R = RV (va T r.1) (stt Ω [(k0, machA T p0 r.2)] [])
theorem sc_lifted : FnScope ["machine", "number", "size", "count"] ["machine", "number", "size", "count"] (defScope s_lifted) := ⟨rfl, rfl, rfl, by decide +kernel, rfl, by decide +kernel, by decide +kernel⟩
theorem ok_lifted {f : Addr} {fd : FuncData} (F : Fun T.K "lifted" "lifted" s_lifted f fd) (mc : MCls T.K (T.C 0)) (c_Mach_enter : CalM P w T.K mg base 1 (T.C 0) "enter" ["self", "word", "m", "n"] (mkSp (Pre_Mach_enter T))) (c_Mach_step : CalM P w T.K mg base 1 (T.C 0) "step" ["self", "word", "many"] (mkSp (Pre_Mach_step T))) : FnOk P w T.K mg base CX0 2 f fd ["machine", "number", "size", "count"] (mkSp (Pre_lifted T)) := by
  refine fn_ok F sc_lifted (fun As Ω R h => ?_) (fun cdv A outer s H E hr As Ω R F0 h => ?_)
  · obtain ⟨k0, p0, x0, x1, x2, x3, r, rfl, _⟩ := h
    rfl
  obtain ⟨k0, p0, x0, x1, x2, x3, r, rfl, hk0, hm, rfl⟩ := h
  refine ⟨_, (pss_cons (ps_expr (pe_calM (pv 0) c_Mach_enter (hr.mono (by decide)) (pa_cons pe_str (pa_cons (pv 2) (pa_cons (pv 3) pa_nil))))) (pss_cons (ps_expr (pe_calM (pv 0) c_Mach_step (hr.mono (by decide)) (pa_cons pe_str (pa_cons (pv 2) pa_nil)))) (pss_one (ps_ret (pe_op op_shlW (pv 1) (pv 3)))))), fun D hrt hnx => ?_⟩
  have ok := okk1 hk0
  suffices hx : XS _ D F0 [some (vr p0), some (va T x1), some (va T x2), some (va T x3)] (stt Ω [(k0, machA T p0 x0)] []) by
    rw [show (stt Ω [(k0, machA T p0 x0)] []) = Ω from stt_self (by simp [hk0])] at hx
    exact hx
  unfold M_lifted at hm
  refine xs_drop (xe_mcall (xe_var (i := 0) rfl) (stt_get ok (i := 0) rfl) (xa_cons xe_str (xa_cons (xe_var (i := 2) rfl) (xa_cons (xe_var (i := 3) rfl) xa_nil))) ⟨k0, p0, x0, ("lift" : Str), x2, x3, rfl, (stt_get ok (i := 0) rfl), rfl⟩ (cal1 ok (i := 0) rfl)) ?_
  show XS (tSeq _ _) _ _ [some (vr p0), some (va T x1), some (va T x2), some (va T x3)] (stt Ω [(k0, machA T p0 (x0.enter ("lift" : Str) x2 x3))] [])
  obtain ⟨z1, hz1, hm⟩ := bnd_some hm
  refine xs_drop (xe_mcall (xe_var (i := 0) rfl) (stt_get ok (i := 0) rfl) (xa_cons xe_str (xa_cons (xe_var (i := 2) rfl) xa_nil)) ⟨k0, p0, (x0.enter ("lift" : Str) x2 x3), ("shifted" : Str), x2, rfl, (stt_get ok (i := 0) rfl), chkP_some hz1, rfl⟩ (cal1 ok (i := 0) rfl)) ?_
  show XS (tRet _) _ _ [some (vr p0), some (va T x1), some (va T x2), some (va T x3)] (stt Ω [(k0, machA T p0 ((x0.enter ("lift" : Str) x2 x3).step ("shifted" : Str) x2))] [])
  obtain ⟨z2, hz2, hm⟩ := bnd_some hm
  obtain rfl := Option.some.inj hm
  refine xs_ret (xe_shl (chkP_some hz2) (xe_var (i := 1) rfl) (xe_var (i := 3) rfl)) hrt.all
noncomputable def M_lowered (x0 : MS) (x1 : Int) (x2 : Int) (x3 : Int) : Option (Int × MS) :=
  (chkP (("shifted" : Str) ∈ mwords)).bind fun z1 => (chkP (0 ≤ x3)).bind fun z2 => some ((x1 / 2 ^ (x3).toNat), ((x0.enter ("lower" : Str) x2 x3).step ("shifted" : Str) x2))
def Pre_lowered (T : TC) : PreT := fun As Ω R => ∃ (k0 : Nat) (p0 : Addr) (x0 : MS) (x1 : Int) (x2 : Int) (x3 : Int) (r : Int × MS), As = [vr p0, va T x1, va T x2, va T x3] ∧ Ω[k0]? = some (machA T p0 x0) ∧ M_lowered x0 x1 x2 x3 = some r ∧ R = RV (va T r.1) (stt Ω [(k0, machA T p0 r.2)] [])
theorem sc_lowered : FnScope ["machine", "number", "size", "count"] ["machine", "number", "size", "count"] (defScope s_lowered) := ⟨rfl, rfl, rfl, by decide +kernel, rfl, by decide +kernel, by decide +kernel⟩
theorem ok_lowered {f : Addr} {fd : FuncData} (F : Fun T.K "lowered" "lowered" s_lowered f fd) (mc : MCls T.K (T.C 0)) (c_Mach_enter : CalM P w T.K mg base 1 (T.C 0) "enter" ["self", "word", "m", "n"] (mkSp (Pre_Mach_enter T))) (c_Mach_step : CalM P w T.K mg base 1 (T.C 0) "step" ["self", "word", "many"] (mkSp (Pre_Mach_step T))) : FnOk P w T.K mg base CX0 2 f fd ["machine", "number", "size", "count"] (mkSp (Pre_lowered T)) := by
  refine fn_ok F sc_lowered (fun As Ω R h => ?_) (fun cdv A outer s H E hr As Ω R F0 h => ?_)
  · obtain ⟨k0, p0, x0, x1, x2, x3, r, rfl, _⟩ := h
    rfl
  obtain ⟨k0, p0, x0, x1, x2, x3, r, rfl, hk0, hm, rfl⟩ := h
  refine ⟨_, (pss_cons (ps_expr (pe_calM (pv 0) c_Mach_enter (hr.mono (by decide)) (pa_cons pe_str (pa_cons (pv 2) (pa_cons (pv 3) pa_nil))))) (pss_cons (ps_expr (pe_calM (pv 0) c_Mach_step (hr.mono (by decide)) (pa_cons pe_str (pa_cons (pv 2) pa_nil)))) (pss_one (ps_ret (pe_op op_shr (pv 1) (pv 3)))))), fun D hrt hnx => ?_⟩
  have ok := okk1 hk0
  suffices hx : XS _ D F0 [some (vr p0), some (va T x1), some (va T x2), some (va T x3)] (stt Ω [(k0, machA T p0 x0)] []) by
    rw [show (stt Ω [(k0, machA T p0 x0)] []) = Ω from stt_self (by simp [hk0])] at hx
    exact hx
  unfold M_lowered at hm
  refine xs_drop (xe_mcall (xe_var (i := 0) rfl) (stt_get ok (i := 0) rfl) (xa_cons xe_str (xa_cons (xe_var (i := 2) rfl) (xa_cons (xe_var (i := 3) rfl) xa_nil))) ⟨k0, p0, x0, ("lower" : Str), x2, x3, rfl, (stt_get ok (i := 0) rfl), rfl⟩ (cal1 ok (i := 0) rfl)) ?_
  show XS (tSeq _ _) _ _ [some (vr p0), some (va T x1), some (va T x2), some (va T x3)] (stt Ω [(k0, machA T p0 (x0.enter ("lower" : Str) x2 x3))] [])
  obtain ⟨z1, hz1, hm⟩ := bnd_some hm
  refine xs_drop (xe_mcall (xe_var (i := 0) rfl) (stt_get ok (i := 0) rfl) (xa_cons xe_str (xa_cons (xe_var (i := 2) rfl) xa_nil)) ⟨k0, p0, (x0.enter ("lower" : Str) x2 x3), ("shifted" : Str), x2, rfl, (stt_get ok (i := 0) rfl), chkP_some hz1, rfl⟩ (cal1 ok (i := 0) rfl)) ?_
  show XS (tRet _) _ _ [some (vr p0), some (va T x1), some (va T x2), some (va T x3)] (stt Ω [(k0, machA T p0 ((x0.enter ("lower" : Str) x2 x3).step ("shifted" : Str) x2))] [])
  obtain ⟨z2, hz2, hm⟩ := bnd_some hm
  obtain rfl := Option.some.inj hm
  refine xs_ret (xe_shr (chkP_some hz2) (xe_var (i := 1) rfl) (xe_var (i := 3) rfl)) hrt.all
noncomputable def M_check_division (x0 : MS) (x1 : Bg) (x2 : Bg) : Option Unit :=
  (M_check_two x0 x1 x2).bind fun z1 => (chkP (x2.v ≠ (0 : Int))).bind fun z2 => some ()
def Pre_check_division (T : TC) : PreT := fun As Ω R => ∃ (k0 : Nat) (p0 : Addr) (x0 : MS) (x1 : Bg) (x2 : Bg) (r : Unit), As = [vr p0, va T x1, va T x2] ∧ Ω[k0]? = some (machA T p0 x0) ∧ M_check_division x0 x1 x2 = some r ∧ R = RV (va T r) (stt Ω [] [])
theorem sc_check_division : FnScope ["machine", "x", "y"] ["machine", "x", "y"] (defScope s_check_division) := ⟨rfl, rfl, rfl, by decide +kernel, rfl, by decide +kernel, by decide +kernel⟩
theorem ok_check_division {f : Addr} {fd : FuncData} (F : Fun T.K "check_division" "check_division" s_check_division f fd) (c_check_two : Cal P w T.K mg base 4 "check_two" ["machine", "x", "y"] (mkSp (Pre_check_two T))) (bc : BCls T.K (T.C 1)) : FnOk P w T.K mg base CX0 5 f fd ["machine", "x", "y"] (mkSp (Pre_check_division T)) := by
  refine fn_ok F sc_check_division (fun As Ω R h => ?_) (fun cdv A outer s H E hr As Ω R F0 h => ?_)
  · obtain ⟨k0, p0, x0, x1, x2, r, rfl, _⟩ := h
    rfl
  obtain ⟨k0, p0, x0, x1, x2, r, rfl, hk0, hm, rfl⟩ := h
  refine ⟨_, (pss_cons (ps_expr (pe_cal c_check_two (hr.mono (by decide)) (by rfl) (pa_cons (pv 0) (pa_cons (pv 1) (pa_cons (pv 2) pa_nil))))) (pss_one (ps_if (pt_cmpR (op_eqXK (K := T.K) (by exact hr.units) rfl) (pe_fldK (K := T.K) (pv 2) (by rfl) rfl) pe_int (nomark _)) pss_never pss_nil))), fun D hrt hnx => ?_⟩
  have ok : Okk Ω [] := okk0
  suffices hx : XS _ D F0 [some (vr p0), some (va T x1), some (va T x2)] (stt Ω [] []) by
    rw [show (stt Ω [] []) = Ω from stt_self (by simp)] at hx
    exact hx
  unfold M_check_division at hm
  obtain ⟨z1, hz1, hm⟩ := bnd_some hm
  refine xs_drop (xe_call (xa_cons (xe_var (i := 0) rfl) (xa_cons (xe_var (i := 1) rfl) (xa_cons (xe_var (i := 2) rfl) xa_nil))) ⟨k0, p0, x0, x1, x2, z1, rfl, (stt_getU hk0), hz1, rfl⟩ cal0) ?_
  show XS (tIfS _ _ _) _ _ [some (vr p0), some (va T x1), some (va T x2)] (stt Ω [] [])
  obtain ⟨z2, hz2, hm⟩ := bnd_some hm
  refine xs_ifF1 (xt_test (T := T) (xe_eq (xe_eqI (xe_bv bc.cl bc.nv (xe_var (i := 2) rfl)) xe_int) (decide_eq_false (chkP_some hz2)))) ?_
  obtain rfl := Option.some.inj hm
  exact fun σ H ⟨F, f0, e, hh⟩ => hnx F σ H _ f0 hh.all ⟨rfl, rfl⟩
noncomputable def M_short_division (x0 : MS) (x1 : Str) (x2 : Int) (x3 : Int) (x4 : Int) : Option ((Int × Int) × MS) :=
  (chkP (("quotient" : Str) ∈ mwords)).bind fun z1 => (chkP (CDivF x2 x4)).bind fun z2 => some (((x2.fdiv x4, x2.fmod x4) : Int × Int), ((x0.enter x1 x3 (1 : Int)).step ("quotient" : Str) x3))
def Pre_short_division (T : TC) : PreT := fun As Ω R => ∃ (k0 : Nat) (p0 : Addr) (x0 : MS) (x1 : Str) (x2 : Int) (x3 : Int) (x4 : Int) (r : (Int × Int) × MS), As = [vr p0, va T x1, va T x2, va T x3, va T x4] ∧ Ω[k0]? = some (machA T p0 x0) ∧ M_short_division x0 x1 x2 x3 x4 = some r ∧ R = RV (va T r.1) (stt Ω [(k0, machA T p0 r.2)] [])
theorem sc_short_division : FnScope ["machine", "word", "a", "m", "b"] ["machine", "word", "a", "m", "b"] (defScope s_short_division) := ⟨rfl, rfl, rfl, by decide +kernel, rfl, by decide +kernel, by decide +kernel⟩
theorem ok_short_division {f : Addr} {fd : FuncData} (F : Fun T.K "short_division" "short_division" s_short_division f fd) (mc : MCls T.K (T.C 0)) (c_Mach_enter : CalM P w T.K mg base 1 (T.C 0) "enter" ["self", "word", "m", "n"] (mkSp (Pre_Mach_enter T))) (c_Mach_step : CalM P w T.K mg base 1 (T.C 0) "step" ["self", "word", "many"] (mkSp (Pre_Mach_step T))) (z_divmod : mg "divmod" = none) : FnOk P w T.K mg base CX0 2 f fd ["machine", "word", "a", "m", "b"] (mkSp (Pre_short_division T)) := by
  refine fn_ok F sc_short_division (fun As Ω R h => ?_) (fun cdv A outer s H E hr As Ω R F0 h => ?_)
  · obtain ⟨k0, p0, x0, x1, x2, x3, x4, r, rfl, _⟩ := h
    rfl
  obtain ⟨k0, p0, x0, x1, x2, x3, x4, r, rfl, hk0, hm, rfl⟩ := h
  refine ⟨_, (pss_cons (ps_expr (pe_calM (pv 0) c_Mach_enter (hr.mono (by decide)) (pa_cons (pv 1) (pa_cons (pv 3) (pa_cons pe_int pa_nil))))) (pss_cons (ps_expr (pe_calM (pv 0) c_Mach_step (hr.mono (by decide)) (pa_cons pe_str (pa_cons (pv 3) pa_nil)))) (pss_one (ps_ret (pe_callB cr_divmodF (by rfl) z_divmod (by decide +kernel) (pa_cons (pv 2) (pa_cons (pv 4) pa_nil))))))), fun D hrt hnx => ?_⟩
  have ok := okk1 hk0
  suffices hx : XS _ D F0 [some (vr p0), some (va T x1), some (va T x2), some (va T x3), some (va T x4)] (stt Ω [(k0, machA T p0 x0)] []) by
    rw [show (stt Ω [(k0, machA T p0 x0)] []) = Ω from stt_self (by simp [hk0])] at hx
    exact hx
  unfold M_short_division at hm
  refine xs_drop (xe_mcall (xe_var (i := 0) rfl) (stt_get ok (i := 0) rfl) (xa_cons (xe_var (i := 1) rfl) (xa_cons (xe_var (i := 3) rfl) (xa_cons xe_int xa_nil))) ⟨k0, p0, x0, x1, x3, (1 : Int), rfl, (stt_get ok (i := 0) rfl), rfl⟩ (cal1 ok (i := 0) rfl)) ?_
  show XS (tSeq _ _) _ _ [some (vr p0), some (va T x1), some (va T x2), some (va T x3), some (va T x4)] (stt Ω [(k0, machA T p0 (x0.enter x1 x3 (1 : Int)))] [])
  obtain ⟨z1, hz1, hm⟩ := bnd_some hm
  refine xs_drop (xe_mcall (xe_var (i := 0) rfl) (stt_get ok (i := 0) rfl) (xa_cons xe_str (xa_cons (xe_var (i := 3) rfl) xa_nil)) ⟨k0, p0, (x0.enter x1 x3 (1 : Int)), ("quotient" : Str), x3, rfl, (stt_get ok (i := 0) rfl), chkP_some hz1, rfl⟩ (cal1 ok (i := 0) rfl)) ?_
  show XS (tRet _) _ _ [some (vr p0), some (va T x1), some (va T x2), some (va T x3), some (va T x4)] (stt Ω [(k0, machA T p0 ((x0.enter x1 x3 (1 : Int)).step ("quotient" : Str) x3))] [])
  obtain ⟨z2, hz2, hm⟩ := bnd_some hm
  obtain rfl := Option.some.inj hm
  refine xs_ret (xe_divmod (xa_cons (xe_var (i := 2) rfl) (xa_cons (xe_var (i := 4) rfl) xa_nil)) (chkP_some hz2)) hrt.all
noncomputable def M_corrections (x0 : Int) (x1 : Int) (x2 : Int) (x3 : Int) (x4 : Int) (x5 : Int) : Option Int :=
  (whileM (ρ := Unit) (fun (s1 : Int × Int) => (chkP (0 ≤ x0)).bind fun z2 => (if (decide ((s1.2 / 2 ^ (x0).toNat) = (0 : Int))) = true then (chkP (IntMulOk x4 (x1 - s1.1))).bind fun z3 => (chkP (CShl s1.2 x0)).bind fun z4 => some (decide (((s1.2 * 2 ^ (x0).toNat) + x5) < (x4 * (x1 - s1.1)))) else some false).bind fun z5 => some z5) (fun (s1 : Int × Int) => (some (s1.1 + (1 : Int))).bind fun y7 => (some (s1.2 + x3)).bind fun y8 => some (Stp.nx (y7, y8))) (4) ((0 : Int), x2)).bind fun z9 => (nxt z9).bind fun s10 => some s10.1
def Pre_corrections (T : TC) : PreT := fun As Ω R => ∃ (x0 : Int) (x1 : Int) (x2 : Int) (x3 : Int) (x4 : Int) (x5 : Int) (r : Int), As = [va T x0, va T x1, va T x2, va T x3, va T x4, va T x5] ∧ M_corrections x0 x1 x2 x3 x4 x5 = some r ∧ R = RV (va T r) (stt Ω [] [])
theorem sc_corrections : FnScope ["width", "guess", "left", "b_last", "b_second", "third", "corrected"] ["width", "guess", "left", "b_last", "b_second", "third"] (defScope s_corrections) := ⟨rfl, rfl, rfl, by decide +kernel, rfl, by decide +kernel, by decide +kernel⟩
theorem ok_corrections {f : Addr} {fd : FuncData} (F : Fun T.K "corrections" "corrections" s_corrections f fd)  : FnOk P w T.K mg base CX0 1 f fd ["width", "guess", "left", "b_last", "b_second", "third"] (mkSp (Pre_corrections T)) := by
  refine fn_ok F sc_corrections (fun As Ω R h => ?_) (fun cdv A outer s H E hr As Ω R F0 h => ?_)
  · obtain ⟨x0, x1, x2, x3, x4, x5, r, rfl, _⟩ := h
    rfl
  obtain ⟨x0, x1, x2, x3, x4, x5, r, rfl, hm, rfl⟩ := h
  refine ⟨_, (pss_cons (ps_set (i := 6) sc_corrections.nd rfl (.inl rfl) pe_int) (pss_cons (ps_while PassesOwn.never (PW.pt (pw_and (pt_cmpR (op_eqXK (K := T.K) (by exact hr.units) rfl) (pe_op op_shr (pv 2) (pv 0)) pe_int (nomark _)) (pw_and1 (pt_cmpR op_gt (pe_op op_mulQ (pv 4) (pe_op op_sub (pv 1) (pv 6))) (pe_op op_addQ (pe_op op_shlW (pv 2) (pv 0)) (pv 5)) (nomark _))))) (pss_cons (ps_aug (i := 6) sc_corrections.nd rfl (.inl rfl) pe_int (ip_of iop_add)) (pss_one (ps_aug (i := 2) sc_corrections.nd rfl (.inl rfl) (pv 3) (ip_of iop_add))))) (pss_one (ps_ret (pv 6))))), fun D hrt hnx => ?_⟩
  have ok : Okk Ω [] := okk0
  suffices hx : XS _ D F0 [some (va T x0), some (va T x1), some (va T x2), some (va T x3), some (va T x4), some (va T x5), none] (stt Ω [] []) by
    rw [show (stt Ω [] []) = Ω from stt_self (by simp)] at hx
    exact hx
  unfold M_corrections at hm
  refine xs_set (A := va T (0 : Int)) xe_int ?_
  show XS (tSeq _ _) _ _ [some (va T x0), some (va T x1), some (va T x2), some (va T x3), some (va T x4), some (va T x5), some (va T (0 : Int))] (stt Ω [] [])
  obtain ⟨z9, hz9, hm⟩ := bnd_some hm
  refine xs_whileS (fun (s1 : Int × Int) => [some (va T x0), some (va T x1), some (va T s1.2), some (va T x3), some (va T x4), some (va T x5), some (va T s1.1)]) (fun (s1 : Int × Int) => (stt Ω [] [])) (fun (_ : Unit) _ _ _ => False) hz9 (fun s1 v hc => ?_) (fun s1 s' hc0 hm F1 D1 e1 hD => ?_) (fun s10 es => ?_) (fun r1 es => ?_)
  · clear hm
    have hm := hc
    obtain ⟨z2, hz2, hm⟩ := bnd_some hm
    obtain ⟨z5, hz5, hm⟩ := bnd_some hm
    obtain rfl := Option.some.inj hm
    refine (xt_andO (xt_test (T := T) (xe_eqI (xe_shr (chkP_some hz2) (xe_var (i := 2) rfl) (xe_var (i := 0) rfl)) xe_int)) hz5 ?q6)
    case q6 =>
      exact (fun v hm => by
        obtain ⟨z3, hz3, hm⟩ := bnd_some hm
        obtain ⟨z4, hz4, hm⟩ := bnd_some hm
        obtain rfl := Option.some.inj hm
        exact (xt_test (T := T) (xe_gt (xe_mul (chkP_some hz3) (xe_var (i := 4) rfl) (xe_sub (xe_var (i := 1) rfl) (xe_var (i := 6) rfl))) (xe_add (xe_shl (chkP_some hz4) (xe_var (i := 2) rfl) (xe_var (i := 0) rfl)) (xe_var (i := 5) rfl)))))
  · clear hc0
    show XS (tSeq _ _) _ _ [some (va T x0), some (va T x1), some (va T s1.2), some (va T x3), some (va T x4), some (va T x5), some (va T s1.1)] (stt Ω [] [])
    obtain ⟨y7, hy7, hm⟩ := bnd_some hm
    refine xs_augI (T := T) rfl xe_int (Option.some.inj hy7) ?_
    show XS (tAug _ _ _) _ _ [some (va T x0), some (va T x1), some (va T s1.2), some (va T x3), some (va T x4), some (va T x5), some (va T y7)] (stt Ω [] [])
    obtain ⟨y8, hy8, hm⟩ := bnd_some hm
    refine xs_augI1 (T := T) rfl (xe_var (i := 3) rfl) (Option.some.inj hy8) ?_
    obtain rfl := Option.some.inj hm
    exact fun σ H n => hD.nx _ rfl σ H n
  · subst es
    obtain ⟨s2, hs2, hm⟩ := bnd_some hm
    cases hs2
    show XS (tRet _) _ _ [some (va T x0), some (va T x1), some (va T s10.2), some (va T x3), some (va T x4), some (va T x5), some (va T s10.1)] (stt Ω [] [])
    obtain rfl := Option.some.inj hm
    refine xs_ret (xe_var (i := 6) rfl) hrt.all
  · subst es
    cases hm
noncomputable def M_count_steps (x0 : MS) (x1 : List (T4 Int Int Bool Int)) (x2 : Int) : Option (Unit × MS) :=
  (chkP (x1.length ≤ sizeLine)).bind fun z1 => (lcM (fun (a3 : (T4 Int Int Bool Int)) (s2 : Unit) => if a3.c = true then some (some a3, ()) else some (none, ())) x1 ()).bind fun z4 => (some (z4.1.length : Int)).bind fun y6 => (chkP (("quotient" : Str) ∈ mwords)).bind fun z7 => (chkP (x1.length ≤ sizeLine)).bind fun z8 => (lcM (fun (a10 : (T4 Int Int Bool Int)) (s9 : Unit) => some (some a10.b, ())) x1 ()).bind fun z11 => (chkP (("corrected" : Str) ∈ mwords)).bind fun z13 => (chkP (IntMulOk (x1.length : Int) x2)).bind fun z14 => (chkP (("product" : Str) ∈ mwords)).bind fun z15 => (chkP (("restored" : Str) ∈ mwords)).bind fun z16 => (chkP (IntMulOk y6 x2)).bind fun z17 => (chkP (("sum" : Str) ∈ mwords)).bind fun z18 => some ((), (((((x0.step ("quotient" : Str) (x1.length : Int)).step ("corrected" : Str) z11.1.sum).step ("product" : Str) ((x1.length : Int) * x2)).step ("restored" : Str) y6).step ("sum" : Str) (y6 * x2)))
def Pre_count_steps (T : TC) : PreT := fun As Ω R => ∃ (k0 : Nat) (p0 : Addr) (x0 : MS) (x1 : List (T4 Int Int Bool Int)) (x2 : Int) (r : Unit × MS), As = [vr p0, va T (LF.mk x1), va T x2] ∧ Ω[k0]? = some (machA T p0 x0) ∧ M_count_steps x0 x1 x2 = some r ∧ R = RV (va T r.1) (stt Ω [(k0, machA T p0 r.2)] [])
theorem sc_count_steps : FnScope ["machine", "steps", "n", "restored", "step"] ["machine", "steps", "n"] (defScope s_count_steps) := ⟨rfl, rfl, rfl, by decide +kernel, rfl, by decide +kernel, by decide +kernel⟩
theorem ok_count_steps {f : Addr} {fd : FuncData} (F : Fun T.K "count_steps" "count_steps" s_count_steps f fd) (z_len : mg "len" = none) (mc : MCls T.K (T.C 0)) (c_Mach_step : CalM P w T.K mg base 1 (T.C 0) "step" ["self", "word", "many"] (mkSp (Pre_Mach_step T))) (z_sum : mg "sum" = none) : FnOk P w T.K mg base CX0 2 f fd ["machine", "steps", "n"] (mkSp (Pre_count_steps T)) := by
  refine fn_ok F sc_count_steps (fun As Ω R h => ?_) (fun cdv A outer s H E hr As Ω R F0 h => ?_)
  · obtain ⟨k0, p0, x0, x1, x2, r, rfl, _⟩ := h
    rfl
  obtain ⟨k0, p0, x0, x1, x2, r, rfl, hk0, hm, rfl⟩ := h
  refine ⟨_, (pss_cons (ps_set (i := 3) sc_count_steps.nd rfl (.inl rfl) (pe_callB (cr_lenK (K := T.K) rfl) (by rfl) z_len PySem.boot_len (pa_cons (pe_lc (own := [("step", 4)]) rfl sc_count_steps.nd (pi_listK (K := T.K) (pv 1) rfl) (blkOk_by (N := ["machine", "steps", "n", "restored", "step"]) (sc := defScope s_count_steps) (by decide +kernel)) (fun _ _ _ _ _ => (pg_name (i := 4) sc_count_steps.nd rfl (.inl rfl))) (fun _ _ _ _ _ => (pts_one (pt_val (pe_ix (ix_seqK (K := T.K) rfl) (pv 4) pe_int (by intro _ _; rfl))))) (fun _ _ _ _ _ => (pv 4))) pa_nil))) (pss_cons (ps_expr (pe_calM (pv 0) c_Mach_step (hr.mono (by decide)) (pa_cons pe_str (pa_cons (pe_callB (cr_lenK (K := T.K) rfl) (by rfl) z_len PySem.boot_len (pa_cons (pv 1) pa_nil)) pa_nil)))) (pss_cons (ps_expr (pe_calM (pv 0) c_Mach_step (hr.mono (by decide)) (pa_cons pe_str (pa_cons (pe_callB (cr_sumK (K := T.K) rfl rfl) (by rfl) z_sum (by decide +kernel) (pa_cons (pe_lc (own := [("step", 4)]) rfl sc_count_steps.nd (pi_listK (K := T.K) (pv 1) rfl) (blkOk_by (N := ["machine", "steps", "n", "restored", "step"]) (sc := defScope s_count_steps) (by decide +kernel)) (fun _ _ _ _ _ => (pg_name (i := 4) sc_count_steps.nd rfl (.inl rfl))) (fun _ _ _ _ _ => pts_nil) (fun _ _ _ _ _ => (pe_ix (ix_seqK (K := T.K) rfl) (pv 4) pe_int (by intro _ _; rfl)))) pa_nil)) pa_nil)))) (pss_cons (ps_expr (pe_calM (pv 0) c_Mach_step (hr.mono (by decide)) (pa_cons pe_str (pa_cons (pe_op op_mulQ (pe_callB (cr_lenK (K := T.K) rfl) (by rfl) z_len PySem.boot_len (pa_cons (pv 1) pa_nil)) (pv 2)) pa_nil)))) (pss_cons (ps_expr (pe_calM (pv 0) c_Mach_step (hr.mono (by decide)) (pa_cons pe_str (pa_cons (pv 3) pa_nil)))) (pss_one (ps_expr (pe_calM (pv 0) c_Mach_step (hr.mono (by decide)) (pa_cons pe_str (pa_cons (pe_op op_mulQ (pv 3) (pv 2)) pa_nil)))))))))), fun D hrt hnx => ?_⟩
  have ok := okk1 hk0
  suffices hx : XS _ D F0 [some (vr p0), some (va T (LF.mk x1)), some (va T x2), none, none] (stt Ω [(k0, machA T p0 x0)] []) by
    rw [show (stt Ω [(k0, machA T p0 x0)] []) = Ω from stt_self (by simp [hk0])] at hx
    exact hx
  unfold M_count_steps at hm
  obtain ⟨z1, hz1, hm⟩ := bnd_some hm
  obtain ⟨z4, hz4, hm⟩ := bnd_some hm
  obtain ⟨y6, hy6, hm⟩ := bnd_some hm
  refine xs_set (A := va T y6) (xe_eq (xe_lenL (xe_fz (xn_lcS (T := T) (fun (s2 : Unit) => [(k0, machA T p0 x0)]) (fun (s2 : Unit) => []) hz4 (xi_LF (xe_var (i := 1) rfl)) (fun _ => tgt_name) (by simp) (chkP_some hz1) ?q5)) isL_LF) (Option.some.inj hy6)) ?_
  case q5 =>
    exact (fun a3 s2 o s2 ha hm X => by
      by_cases hc : a3.c = true
      · rw [if_pos hc] at hm
        obtain ⟨rfl, rfl⟩ := Prod.mk.inj (Option.some.inj hm)
        refine ⟨(fun e => nomatch e), fun y e => ?_⟩
        obtain rfl := Option.some.inj e
        refine ⟨xt_eq (xt_tB (T := T) (xe_a4 (xe_var (i := 4) rfl) xe_int)) hc, (xe_var (i := 4) rfl)⟩
      · rw [if_neg hc] at hm
        obtain ⟨rfl, rfl⟩ := Prod.mk.inj (Option.some.inj hm)
        exact ⟨fun _ => xt_eq (xt_tB (T := T) (xe_a4 (xe_var (i := 4) rfl) xe_int)) (nt hc), fun y e => nomatch e⟩)
  show XS (tSeq _ _) _ _ [some (vr p0), some (va T (LF.mk x1)), some (va T x2), some (va T y6), none] (stt Ω [(k0, machA T p0 x0)] [])
  obtain ⟨z7, hz7, hm⟩ := bnd_some hm
  refine xs_drop (xe_mcall (xe_var (i := 0) rfl) (stt_get ok (i := 0) rfl) (xa_cons xe_str (xa_cons (xe_lenL (xe_var (i := 1) rfl) isL_LF) xa_nil)) ⟨k0, p0, x0, ("quotient" : Str), (x1.length : Int), rfl, (stt_get ok (i := 0) rfl), chkP_some hz7, rfl⟩ (cal1 ok (i := 0) rfl)) ?_
  show XS (tSeq _ _) _ _ [some (vr p0), some (va T (LF.mk x1)), some (va T x2), some (va T y6), none] (stt Ω [(k0, machA T p0 (x0.step ("quotient" : Str) (x1.length : Int)))] [])
  obtain ⟨z8, hz8, hm⟩ := bnd_some hm
  obtain ⟨z11, hz11, hm⟩ := bnd_some hm
  obtain ⟨z13, hz13, hm⟩ := bnd_some hm
  refine xs_drop (xe_mcall (xe_var (i := 0) rfl) (stt_get ok (i := 0) rfl) (xa_cons xe_str (xa_cons (xe_sum (xe_fz (xn_lcS (T := T) (fun (s9 : Unit) => [(k0, machA T p0 (x0.step ("quotient" : Str) (x1.length : Int)))]) (fun (s9 : Unit) => []) hz11 (xi_LF (xe_var (i := 1) rfl)) (fun _ => tgt_name) (by simp) (chkP_some hz8) ?q12)) isL_LF) xa_nil)) ⟨k0, p0, (x0.step ("quotient" : Str) (x1.length : Int)), ("corrected" : Str), z11.1.sum, rfl, (stt_get ok (i := 0) rfl), chkP_some hz13, rfl⟩ (cal1 ok (i := 0) rfl)) ?_
  case q12 =>
    exact (fun a10 s9 o s2 ha hm X => by
      obtain ⟨rfl, rfl⟩ := Prod.mk.inj (Option.some.inj hm)
      refine ⟨(fun e => nomatch e), fun y e => ?_⟩
      obtain rfl := Option.some.inj e
      refine ⟨xt_yes, (xe_b4 (xe_var (i := 4) rfl) xe_int)⟩)
  show XS (tSeq _ _) _ _ [some (vr p0), some (va T (LF.mk x1)), some (va T x2), some (va T y6), none] (stt Ω [(k0, machA T p0 ((x0.step ("quotient" : Str) (x1.length : Int)).step ("corrected" : Str) z11.1.sum))] [])
  obtain ⟨z14, hz14, hm⟩ := bnd_some hm
  obtain ⟨z15, hz15, hm⟩ := bnd_some hm
  refine xs_drop (xe_mcall (xe_var (i := 0) rfl) (stt_get ok (i := 0) rfl) (xa_cons xe_str (xa_cons (xe_mul (chkP_some hz14) (xe_lenL (xe_var (i := 1) rfl) isL_LF) (xe_var (i := 2) rfl)) xa_nil)) ⟨k0, p0, ((x0.step ("quotient" : Str) (x1.length : Int)).step ("corrected" : Str) z11.1.sum), ("product" : Str), ((x1.length : Int) * x2), rfl, (stt_get ok (i := 0) rfl), chkP_some hz15, rfl⟩ (cal1 ok (i := 0) rfl)) ?_
  show XS (tSeq _ _) _ _ [some (vr p0), some (va T (LF.mk x1)), some (va T x2), some (va T y6), none] (stt Ω [(k0, machA T p0 (((x0.step ("quotient" : Str) (x1.length : Int)).step ("corrected" : Str) z11.1.sum).step ("product" : Str) ((x1.length : Int) * x2)))] [])
  obtain ⟨z16, hz16, hm⟩ := bnd_some hm
  refine xs_drop (xe_mcall (xe_var (i := 0) rfl) (stt_get ok (i := 0) rfl) (xa_cons xe_str (xa_cons (xe_var (i := 3) rfl) xa_nil)) ⟨k0, p0, (((x0.step ("quotient" : Str) (x1.length : Int)).step ("corrected" : Str) z11.1.sum).step ("product" : Str) ((x1.length : Int) * x2)), ("restored" : Str), y6, rfl, (stt_get ok (i := 0) rfl), chkP_some hz16, rfl⟩ (cal1 ok (i := 0) rfl)) ?_
  show XS (tDrop _) _ _ [some (vr p0), some (va T (LF.mk x1)), some (va T x2), some (va T y6), none] (stt Ω [(k0, machA T p0 ((((x0.step ("quotient" : Str) (x1.length : Int)).step ("corrected" : Str) z11.1.sum).step ("product" : Str) ((x1.length : Int) * x2)).step ("restored" : Str) y6))] [])
  obtain ⟨z17, hz17, hm⟩ := bnd_some hm
  obtain ⟨z18, hz18, hm⟩ := bnd_some hm
  refine xs_drop1 (xe_mcall (xe_var (i := 0) rfl) (stt_get ok (i := 0) rfl) (xa_cons xe_str (xa_cons (xe_mul (chkP_some hz17) (xe_var (i := 3) rfl) (xe_var (i := 2) rfl)) xa_nil)) ⟨k0, p0, ((((x0.step ("quotient" : Str) (x1.length : Int)).step ("corrected" : Str) z11.1.sum).step ("product" : Str) ((x1.length : Int) * x2)).step ("restored" : Str) y6), ("sum" : Str), (y6 * x2), rfl, (stt_get ok (i := 0) rfl), chkP_some hz18, rfl⟩ (cal1 ok (i := 0) rfl)) ?_
  obtain rfl := Option.some.inj hm
  exact fun σ H ⟨F, f0, e, hh⟩ => hnx F σ H _ f0 hh.all ⟨rfl, rfl⟩
noncomputable def M_quotient_steps (x0 : MS) (x1 : Int) (x2 : Int) (x3 : Int) (x4 : Int) : Option (((LF (T4 Int Int Bool Int)) × Int) × MS) :=
  (M_top_digit x0.w).bind fun z1 => (chkP (IntMulOk (x4 - (2 : Int)) x0.w)).bind fun z2 => (some ((x4 - (2 : Int)) * x0.w)).bind fun y3 => (chkP (0 ≤ (y3 + x0.w))).bind fun z4 => (some (x3 / 2 ^ ((y3 + x0.w)).toNat)).bind fun y5 => (chkP (0 ≤ y3)).bind fun z6 => (some (Builtin.bitAnd (x3 / 2 ^ (y3).toNat) z1)).bind fun y7 => (chkP (IntMulOk (x2 - x4) x0.w)).bind fun z8 => (chkP (0 ≤ ((x2 - x4) * x0.w))).bind fun z9 => (some (x1 / 2 ^ (((x2 - x4) * x0.w)).toNat)).bind fun y10 => (some ([] : List (T4 Int Int Bool Int))).bind fun y11 => (M_row_of 20 x0.w x1 (x2 - x4)).bind fun z14 => (forM' (ρ := Unit) (fun (a16 : Int) (s15 : Int × (List (T4 Int Int Bool Int))) => (chkP (CShl s15.1 x0.w)).bind fun z17 => (some ((s15.1 * 2 ^ (x0.w).toNat) + a16)).bind fun y18 => (chkP (0 ≤ y3)).bind fun z19 => (some (y18 / 2 ^ (y3).toNat)).bind fun y20 => (chkP (0 ≤ x0.w)).bind fun z21 => (chkP (CDivF (y20 / 2 ^ (x0.w).toNat) y5)).bind fun z22 => (some (((y20 / 2 ^ (x0.w).toNat).fdiv y5, (y20 / 2 ^ (x0.w).toNat).fmod y5) : Int × Int)).bind fun y23 => (M_corrections x0.w y23.1 y23.2 y5 y7 (Builtin.bitAnd y20 z1)).bind fun z24 => (some (y23.1 - z24)).bind fun y25 => (chkP (IntMulOk y25 x3)).bind fun z26 => (some (y18 - (y25 * x3))).bind fun y27 => (some (decide (y27 < (0 : Int)))).bind fun y28 => (if y28 = true then (some (y25 - (1 : Int))).bind fun y29 => (some (y27 + x3)).bind fun y30 => some (y29, y30) else some (y25, y27)).bind fun z33 => (chkP (s15.2.length < sizeLine)).bind fun z34 => some (Stp.nx (z33.2, (s15.2 ++ [(T4.mk y23.1 z24 y28 z33.1)])))) ((z14).reverse) (y10, y11)).bind fun z35 => (nxt z35).bind fun s36 => (M_count_steps x0 s36.2 x4).bind fun z37 => some (((LF.mk s36.2), s36.1), z37.2)
def Pre_quotient_steps (T : TC) : PreT := fun As Ω R => ∃ (k0 : Nat) (p0 : Addr) (x0 : MS) (x1 : Int) (x2 : Int) (x3 : Int) (x4 : Int) (r : ((LF (T4 Int Int Bool Int)) × Int) × MS), As = [vr p0, va T x1, va T x2, va T x3, va T x4] ∧ Ω[k0]? = some (machA T p0 x0) ∧ M_quotient_steps x0 x1 x2 x3 x4 = some r ∧ R = RV (va T r.1) (stt Ω [(k0, machA T p0 r.2)] [])
theorem sc_quotient_steps : FnScope ["machine", "a", "m", "b", "n", "width", "top", "behind", "b_last", "b_second", "rest", "steps", "digit", "head", "guess", "left", "corrected", "found", "restored"] ["machine", "a", "m", "b", "n"] (defScope s_quotient_steps) := ⟨rfl, rfl, rfl, by decide +kernel, rfl, by decide +kernel, by decide +kernel⟩
theorem ok_quotient_steps {f : Addr} {fd : FuncData} (F : Fun T.K "quotient_steps" "quotient_steps" s_quotient_steps f fd) (mc : MCls T.K (T.C 0)) (c_top_digit : Cal P w T.K mg base 1 "top_digit" ["width"] (mkSp (Pre_top_digit T))) (c_row_of : Cal P w T.K mg base 21 "row_of" ["width", "n", "size"] (mkSp (Pre_row_of 20 T))) (z_reversed : mg "reversed" = none) (z_divmod : mg "divmod" = none) (c_corrections : Cal P w T.K mg base 1 "corrections" ["width", "guess", "left", "b_last", "b_second", "third"] (mkSp (Pre_corrections T))) (c_count_steps : Cal P w T.K mg base 2 "count_steps" ["machine", "steps", "n"] (mkSp (Pre_count_steps T))) : FnOk P w T.K mg base CX0 22 f fd ["machine", "a", "m", "b", "n"] (mkSp (Pre_quotient_steps T)) := by
  refine fn_ok F sc_quotient_steps (fun As Ω R h => ?_) (fun cdv A outer s H E hr As Ω R F0 h => ?_)
  · obtain ⟨k0, p0, x0, x1, x2, x3, x4, r, rfl, _⟩ := h
    rfl
  obtain ⟨k0, p0, x0, x1, x2, x3, x4, r, rfl, hk0, hm, rfl⟩ := h
  refine ⟨_, (pss_cons (ps_set (i := 5) sc_quotient_steps.nd rfl (.inl rfl) (pe_fldK (K := T.K) (pv 0) (by rfl) rfl)) (pss_cons (ps_set (i := 6) sc_quotient_steps.nd rfl (.inl rfl) (pe_cal c_top_digit (hr.mono (by decide)) (by rfl) (pa_cons (pv 5) pa_nil))) (pss_cons (ps_set (i := 7) sc_quotient_steps.nd rfl (.inl rfl) (pe_op op_mulQ (pe_op op_sub (pv 4) pe_int) (pv 5))) (pss_cons (ps_set (i := 8) sc_quotient_steps.nd rfl (.inl rfl) (pe_op op_shr (pv 3) (pe_op op_addQ (pv 7) (pv 5)))) (pss_cons (ps_set (i := 9) sc_quotient_steps.nd rfl (.inl rfl) (pe_op op_and (pe_op op_shr (pv 3) (pv 7)) (pv 6))) (pss_cons (ps_set (i := 10) sc_quotient_steps.nd rfl (.inl rfl) (pe_op op_shr (pv 1) (pe_op op_mulQ (pe_op op_sub (pv 2) (pv 4)) (pv 5)))) (pss_cons (ps_set (i := 11) sc_quotient_steps.nd rfl (.inl rfl) (pe_lst pa_nil)) (pss_cons (ps_for PassesOwn.never rfl (RT.pi_revA (by rfl) z_reversed (pe_cal c_row_of (hr.mono (by decide)) (by rfl) (pa_cons (pv 5) (pa_cons (pv 1) (pa_cons (pe_op op_sub (pv 2) (pv 4)) pa_nil))))) (pg_name (i := 12) sc_quotient_steps.nd rfl (.inl rfl)) (pss_cons (ps_set (i := 10) sc_quotient_steps.nd rfl (.inl rfl) (pe_op op_addQ (pe_op op_shlW (pv 10) (pv 5)) (pv 12))) (pss_cons (ps_set (i := 13) sc_quotient_steps.nd rfl (.inl rfl) (pe_op op_shr (pv 10) (pv 7))) (pss_cons (ps_asg (pe_callB cr_divmodF (by rfl) z_divmod (by decide +kernel) (pa_cons (pe_op op_shr (pv 13) (pv 5)) (pa_cons (pv 8) pa_nil))) (pg_tupK (K := T.K) (n := 2) rfl rfl (pgs_cons (pg_name (i := 14) sc_quotient_steps.nd rfl (.inl rfl)) (pgs_cons (pg_name (i := 15) sc_quotient_steps.nd rfl (.inl rfl)) pgs_nil)))) (pss_cons (ps_set (i := 16) sc_quotient_steps.nd rfl (.inl rfl) (pe_cal c_corrections (hr.mono (by decide)) (by rfl) (pa_cons (pv 5) (pa_cons (pv 14) (pa_cons (pv 15) (pa_cons (pv 8) (pa_cons (pv 9) (pa_cons (pe_op op_and (pv 13) (pv 6)) pa_nil)))))))) (pss_cons (ps_set (i := 17) sc_quotient_steps.nd rfl (.inl rfl) (pe_op op_sub (pv 14) (pv 16))) (pss_cons (ps_aug (i := 10) sc_quotient_steps.nd rfl (.inl rfl) (pe_op op_mulQ (pv 17) (pv 3)) (ip_of iop_sub)) (pss_cons (ps_set (i := 18) sc_quotient_steps.nd rfl (.inl rfl) (pe_cmpR op_lt (pv 10) pe_int (nomark _))) (Evl.pss_cut (ps_if (pt_val (pv 18)) (pss_cons (ps_aug (i := 17) sc_quotient_steps.nd rfl (.inl rfl) pe_int (ip_of iop_sub)) (pss_one (ps_aug (i := 10) sc_quotient_steps.nd rfl (.inl rfl) (pv 3) (ip_of iop_add)))) pss_nil) (pss_one (ps_expr (pe_bm PySem.F.plainAttrs_list PySem.F.slot_list_append PySem.F.type_list_append mt_append (pv 11) (pa_cons (pe_tup (pa_cons (pv 14) (pa_cons (pv 16) (pa_cons (pv 18) (pa_cons (pv 17) pa_nil))))) pa_nil))))))))))))) (pss_cons (ps_expr (pe_cal c_count_steps (hr.mono (by decide)) (by rfl) (pa_cons (pv 0) (pa_cons (pv 11) (pa_cons (pv 4) pa_nil))))) (pss_one (ps_ret (pe_tup (pa_cons (pv 11) (pa_cons (pv 10) pa_nil)))))))))))))), fun D hrt hnx => ?_⟩
  have ok := okk1 hk0
  suffices hx : XS _ D F0 [some (vr p0), some (va T x1), some (va T x2), some (va T x3), some (va T x4), none, none, none, none, none, none, none, none, none, none, none, none, none, none] (stt Ω [(k0, machA T p0 x0)] []) by
    rw [show (stt Ω [(k0, machA T p0 x0)] []) = Ω from stt_self (by simp [hk0])] at hx
    exact hx
  unfold M_quotient_steps at hm
  refine xs_set (A := va T x0.w) (xe_mw mc.cl mc.nw (xe_var (i := 0) rfl) (stt_get ok (i := 0) rfl)) ?_
  show XS (tSeq _ _) _ _ [some (vr p0), some (va T x1), some (va T x2), some (va T x3), some (va T x4), some (va T x0.w), none, none, none, none, none, none, none, none, none, none, none, none, none] (stt Ω [(k0, machA T p0 x0)] [])
  obtain ⟨z1, hz1, hm⟩ := bnd_some hm
  refine xs_set (A := va T z1) (xe_call (xa_cons (xe_var (i := 5) rfl) xa_nil) ⟨x0.w, z1, rfl, hz1, rfl⟩ cal0) ?_
  show XS (tSeq _ _) _ _ [some (vr p0), some (va T x1), some (va T x2), some (va T x3), some (va T x4), some (va T x0.w), some (va T z1), none, none, none, none, none, none, none, none, none, none, none, none] (stt Ω [(k0, machA T p0 x0)] [])
  obtain ⟨z2, hz2, hm⟩ := bnd_some hm
  obtain ⟨y3, hy3, hm⟩ := bnd_some hm
  refine xs_set (A := va T y3) (xe_eq (xe_mul (chkP_some hz2) (xe_sub (xe_var (i := 4) rfl) xe_int) (xe_var (i := 5) rfl)) (Option.some.inj hy3)) ?_
  show XS (tSeq _ _) _ _ [some (vr p0), some (va T x1), some (va T x2), some (va T x3), some (va T x4), some (va T x0.w), some (va T z1), some (va T y3), none, none, none, none, none, none, none, none, none, none, none] (stt Ω [(k0, machA T p0 x0)] [])
  obtain ⟨z4, hz4, hm⟩ := bnd_some hm
  obtain ⟨y5, hy5, hm⟩ := bnd_some hm
  refine xs_set (A := va T y5) (xe_eq (xe_shr (chkP_some hz4) (xe_var (i := 3) rfl) (xe_add (xe_var (i := 7) rfl) (xe_var (i := 5) rfl))) (Option.some.inj hy5)) ?_
  show XS (tSeq _ _) _ _ [some (vr p0), some (va T x1), some (va T x2), some (va T x3), some (va T x4), some (va T x0.w), some (va T z1), some (va T y3), some (va T y5), none, none, none, none, none, none, none, none, none, none] (stt Ω [(k0, machA T p0 x0)] [])
  obtain ⟨z6, hz6, hm⟩ := bnd_some hm
  obtain ⟨y7, hy7, hm⟩ := bnd_some hm
  refine xs_set (A := va T y7) (xe_eq (xe_band (xe_shr (chkP_some hz6) (xe_var (i := 3) rfl) (xe_var (i := 7) rfl)) (xe_var (i := 6) rfl)) (Option.some.inj hy7)) ?_
  show XS (tSeq _ _) _ _ [some (vr p0), some (va T x1), some (va T x2), some (va T x3), some (va T x4), some (va T x0.w), some (va T z1), some (va T y3), some (va T y5), some (va T y7), none, none, none, none, none, none, none, none, none] (stt Ω [(k0, machA T p0 x0)] [])
  obtain ⟨z8, hz8, hm⟩ := bnd_some hm
  obtain ⟨z9, hz9, hm⟩ := bnd_some hm
  obtain ⟨y10, hy10, hm⟩ := bnd_some hm
  refine xs_set (A := va T y10) (xe_eq (xe_shr (chkP_some hz9) (xe_var (i := 1) rfl) (xe_mul (chkP_some hz8) (xe_sub (xe_var (i := 2) rfl) (xe_var (i := 4) rfl)) (xe_var (i := 5) rfl))) (Option.some.inj hy10)) ?_
  show XS (tSeq _ _) _ _ [some (vr p0), some (va T x1), some (va T x2), some (va T x3), some (va T x4), some (va T x0.w), some (va T z1), some (va T y3), some (va T y5), some (va T y7), some (va T y10), none, none, none, none, none, none, none, none] (stt Ω [(k0, machA T p0 x0)] [])
  obtain ⟨y11, hy11, hm⟩ := bnd_some hm
  obtain rfl := Option.some.inj hy11
  refine xs_setO ((xn_lst (T := T) (l := ([] : List (T4 Int Int Bool Int))) xa_nil (Nat.zero_le _))) (fun pp12 => ?_)
  show XS (tSeq _ _) _ _ [some (vr p0), some (va T x1), some (va T x2), some (va T x3), some (va T x4), some (va T x0.w), some (va T z1), some (va T y3), some (va T y5), some (va T y7), some (va T y10), some (vr pp12), none, none, none, none, none, none, none] (stt Ω [(k0, machA T p0 x0)] [lstA T pp12 (([] : List (T4 Int Int Bool Int)) : List (T4 Int Int Bool Int))])
  obtain ⟨z14, hz14, hm⟩ := bnd_some hm
  obtain ⟨z35, hz35, hm⟩ := bnd_some hm
  refine xs_forS (fun (s15 : Int × (List (T4 Int Int Bool Int))) => [some (vr p0), some (va T x1), some (va T x2), some (va T x3), some (va T x4), some (va T x0.w), some (va T z1), some (va T y3), some (va T y5), some (va T y7), some (va T s15.1), some (vr pp12), none, none, none, none, none, none, none]) (fun (s15 : Int × (List (T4 Int Int Bool Int))) => (stt Ω [(k0, machA T p0 x0)] [lstA T pp12 (s15.2 : List (T4 Int Int Bool Int))])) (fun (_ : Unit) _ _ _ => False) hz35 (xi_revL (xe_call (xa_cons (xe_var (i := 5) rfl) (xa_cons (xe_var (i := 1) rfl) (xa_cons (xe_sub (xe_var (i := 2) rfl) (xe_var (i := 4) rfl)) xa_nil))) ⟨x0.w, x1, (x2 - x4), z14, rfl, hz14, rfl⟩ cal0)) (fun _ => tgt_name) (fun a16 s15 s' ha hm F1 D1 e1 hD => ?_) (fun s36 es => ?_) (fun r1 es => ?_)
  · show XS (tSeq _ _) _ _ [some (vr p0), some (va T x1), some (va T x2), some (va T x3), some (va T x4), some (va T x0.w), some (va T z1), some (va T y3), some (va T y5), some (va T y7), some (va T s15.1), some (vr pp12), some (va T a16), none, none, none, none, none, none] (stt Ω [(k0, machA T p0 x0)] [lstA T pp12 (s15.2 : List (T4 Int Int Bool Int))])
    obtain ⟨z17, hz17, hm⟩ := bnd_some hm
    obtain ⟨y18, hy18, hm⟩ := bnd_some hm
    refine xs_set (A := va T y18) (xe_eq (xe_add (xe_shl (chkP_some hz17) (xe_var (i := 10) rfl) (xe_var (i := 5) rfl)) (xe_var (i := 12) rfl)) (Option.some.inj hy18)) ?_
    show XS (tSeq _ _) _ _ [some (vr p0), some (va T x1), some (va T x2), some (va T x3), some (va T x4), some (va T x0.w), some (va T z1), some (va T y3), some (va T y5), some (va T y7), some (va T y18), some (vr pp12), some (va T a16), none, none, none, none, none, none] (stt Ω [(k0, machA T p0 x0)] [lstA T pp12 (s15.2 : List (T4 Int Int Bool Int))])
    obtain ⟨z19, hz19, hm⟩ := bnd_some hm
    obtain ⟨y20, hy20, hm⟩ := bnd_some hm
    refine xs_set (A := va T y20) (xe_eq (xe_shr (chkP_some hz19) (xe_var (i := 10) rfl) (xe_var (i := 7) rfl)) (Option.some.inj hy20)) ?_
    show XS (tSeq _ _) _ _ [some (vr p0), some (va T x1), some (va T x2), some (va T x3), some (va T x4), some (va T x0.w), some (va T z1), some (va T y3), some (va T y5), some (va T y7), some (va T y18), some (vr pp12), some (va T a16), some (va T y20), none, none, none, none, none] (stt Ω [(k0, machA T p0 x0)] [lstA T pp12 (s15.2 : List (T4 Int Int Bool Int))])
    obtain ⟨z21, hz21, hm⟩ := bnd_some hm
    obtain ⟨z22, hz22, hm⟩ := bnd_some hm
    obtain ⟨y23, hy23, hm⟩ := bnd_some hm
    refine xs_asgG (xe_eq (xe_divmod (xa_cons (xe_shr (chkP_some hz21) (xe_var (i := 13) rfl) (xe_var (i := 5) rfl)) (xa_cons (xe_var (i := 8) rfl) xa_nil)) (chkP_some hz22)) (Option.some.inj hy23)) tgt_pair ?_
    show XS (tSeq _ _) _ _ [some (vr p0), some (va T x1), some (va T x2), some (va T x3), some (va T x4), some (va T x0.w), some (va T z1), some (va T y3), some (va T y5), some (va T y7), some (va T y18), some (vr pp12), some (va T a16), some (va T y20), some (va T y23.1), some (va T y23.2), none, none, none] (stt Ω [(k0, machA T p0 x0)] [lstA T pp12 (s15.2 : List (T4 Int Int Bool Int))])
    obtain ⟨z24, hz24, hm⟩ := bnd_some hm
    refine xs_set (A := va T z24) (xe_call (xa_cons (xe_var (i := 5) rfl) (xa_cons (xe_var (i := 14) rfl) (xa_cons (xe_var (i := 15) rfl) (xa_cons (xe_var (i := 8) rfl) (xa_cons (xe_var (i := 9) rfl) (xa_cons (xe_band (xe_var (i := 13) rfl) (xe_var (i := 6) rfl)) xa_nil)))))) ⟨x0.w, y23.1, y23.2, y5, y7, (Builtin.bitAnd y20 z1), z24, rfl, hz24, rfl⟩ cal0) ?_
    show XS (tSeq _ _) _ _ [some (vr p0), some (va T x1), some (va T x2), some (va T x3), some (va T x4), some (va T x0.w), some (va T z1), some (va T y3), some (va T y5), some (va T y7), some (va T y18), some (vr pp12), some (va T a16), some (va T y20), some (va T y23.1), some (va T y23.2), some (va T z24), none, none] (stt Ω [(k0, machA T p0 x0)] [lstA T pp12 (s15.2 : List (T4 Int Int Bool Int))])
    obtain ⟨y25, hy25, hm⟩ := bnd_some hm
    refine xs_set (A := va T y25) (xe_eq (xe_sub (xe_var (i := 14) rfl) (xe_var (i := 16) rfl)) (Option.some.inj hy25)) ?_
    show XS (tSeq _ _) _ _ [some (vr p0), some (va T x1), some (va T x2), some (va T x3), some (va T x4), some (va T x0.w), some (va T z1), some (va T y3), some (va T y5), some (va T y7), some (va T y18), some (vr pp12), some (va T a16), some (va T y20), some (va T y23.1), some (va T y23.2), some (va T z24), some (va T y25), none] (stt Ω [(k0, machA T p0 x0)] [lstA T pp12 (s15.2 : List (T4 Int Int Bool Int))])
    obtain ⟨z26, hz26, hm⟩ := bnd_some hm
    obtain ⟨y27, hy27, hm⟩ := bnd_some hm
    refine xs_augI (T := T) rfl (xe_mul (chkP_some hz26) (xe_var (i := 17) rfl) (xe_var (i := 3) rfl)) (Option.some.inj hy27) ?_
    show XS (tSeq _ _) _ _ [some (vr p0), some (va T x1), some (va T x2), some (va T x3), some (va T x4), some (va T x0.w), some (va T z1), some (va T y3), some (va T y5), some (va T y7), some (va T y27), some (vr pp12), some (va T a16), some (va T y20), some (va T y23.1), some (va T y23.2), some (va T z24), some (va T y25), none] (stt Ω [(k0, machA T p0 x0)] [lstA T pp12 (s15.2 : List (T4 Int Int Bool Int))])
    obtain ⟨y28, hy28, hm⟩ := bnd_some hm
    refine xs_set (A := va T y28) (xe_eq (xe_lt (xe_var (i := 10) rfl) xe_int) (Option.some.inj hy28)) ?_
    show XS (Evl.tCut _ _) _ _ [some (vr p0), some (va T x1), some (va T x2), some (va T x3), some (va T x4), some (va T x0.w), some (va T z1), some (va T y3), some (va T y5), some (va T y7), some (va T y27), some (vr pp12), some (va T a16), some (va T y20), some (va T y23.1), some (va T y23.2), some (va T z24), some (va T y25), some (va T y28)] (stt Ω [(k0, machA T p0 x0)] [lstA T pp12 (s15.2 : List (T4 Int Int Bool Int))])
    obtain ⟨z33, hz33, hm⟩ := bnd_some hm
    refine xs_cut (Γ' := [some (vr p0), some (va T x1), some (va T x2), some (va T x3), some (va T x4), some (va T x0.w), some (va T z1), some (va T y3), some (va T y5), some (va T y7), some (va T z33.2), some (vr pp12), some (va T a16), some (va T y20), some (va T y23.1), some (va T y23.2), some (va T z24), some (va T z33.1), some (va T y28)]) (Ω' := (stt Ω [(k0, machA T p0 x0)] [lstA T pp12 (s15.2 : List (T4 Int Int Bool Int))])) ?_ ?_
    · clear hm
      have hm := hz33
      clear hz33
      by_cases hc : y28 = true
      · rw [if_pos hc] at hm
        refine xs_ifT1 (xt_eq (xt_tB (T := T) (xe_var (i := 18) rfl)) hc) ?_
        obtain ⟨y29, hy29, hm⟩ := bnd_some hm
        refine xs_augI (T := T) rfl xe_int (Option.some.inj hy29) ?_
        show XS (tAug _ _ _) _ _ [some (vr p0), some (va T x1), some (va T x2), some (va T x3), some (va T x4), some (va T x0.w), some (va T z1), some (va T y3), some (va T y5), some (va T y7), some (va T y27), some (vr pp12), some (va T a16), some (va T y20), some (va T y23.1), some (va T y23.2), some (va T z24), some (va T y29), some (va T y28)] (stt Ω [(k0, machA T p0 x0)] [lstA T pp12 (s15.2 : List (T4 Int Int Bool Int))])
        obtain ⟨y30, hy30, hm⟩ := bnd_some hm
        refine xs_augI1 (T := T) rfl (xe_var (i := 3) rfl) (Option.some.inj hy30) ?_
        obtain rfl := Option.some.inj hm
        exact fun σ H n => n
      · rw [if_neg hc] at hm
        refine xs_ifF1 (xt_eq (xt_tB (T := T) (xe_var (i := 18) rfl)) (nt hc)) ?_
        obtain rfl := Option.some.inj hm
        exact fun σ H n => n
    · obtain ⟨z34, hz34, hm⟩ := bnd_some hm
      refine xs_drop1 (xe_appE (stt_getL (j := 0) rfl) (stt_getL (j := 0) rfl) (xe_var (i := 11) rfl) (xe_tup4 (xa_cons (xe_var (i := 14) rfl) (xa_cons (xe_var (i := 16) rfl) (xa_cons (xe_var (i := 18) rfl) (xa_cons (xe_var (i := 17) rfl) xa_nil))))) (chkP_some hz34) (stt_setL (j := 0))) ?_
      obtain rfl := Option.some.inj hm
      exact fun σ H n => hD.nx _ rfl σ H (((((((n.forget 13).forget 14).forget 15).forget 16).forget 17).forget 18).forget 12)
  · subst es
    obtain ⟨s2, hs2, hm⟩ := bnd_some hm
    cases hs2
    show XS (tSeq _ _) _ _ [some (vr p0), some (va T x1), some (va T x2), some (va T x3), some (va T x4), some (va T x0.w), some (va T z1), some (va T y3), some (va T y5), some (va T y7), some (va T s36.1), some (vr pp12), none, none, none, none, none, none, none] (stt Ω [(k0, machA T p0 x0)] [lstA T pp12 (s36.2 : List (T4 Int Int Bool Int))])
    refine xs_fzJ (k := 11) (j := 0) rfl rfl ?_
    show XS _ _ _ [some (vr p0), some (va T x1), some (va T x2), some (va T x3), some (va T x4), some (va T x0.w), some (va T z1), some (va T y3), some (va T y5), some (va T y7), some (va T s36.1), some (va T (LF.mk s36.2)), none, none, none, none, none, none, none] (stt Ω [(k0, machA T p0 x0)] [nilA])
    obtain ⟨z37, hz37, hm⟩ := bnd_some hm
    refine xs_drop (xe_call (xa_cons (xe_var (i := 0) rfl) (xa_cons (xe_var (i := 11) rfl) (xa_cons (xe_var (i := 4) rfl) xa_nil))) ⟨k0, p0, x0, s36.2, x4, z37, rfl, (stt_get ok (i := 0) rfl), hz37, rfl⟩ (cal1 ok (i := 0) rfl)) ?_
    show XS (tRet _) _ _ [some (vr p0), some (va T x1), some (va T x2), some (va T x3), some (va T x4), some (va T x0.w), some (va T z1), some (va T y3), some (va T y5), some (va T y7), some (va T s36.1), some (va T (LF.mk s36.2)), none, none, none, none, none, none, none] (stt Ω [(k0, machA T p0 z37.2)] [nilA])
    obtain rfl := Option.some.inj hm
    refine xs_ret (xe_tup2 (xa_cons (xe_var (i := 11) rfl) (xa_cons (xe_var (i := 10) rfl) xa_nil))) hrt.all
  · subst es
    cases hm
noncomputable def M_long_division (x0 : MS) (x1 : Int) (x2 : Int) (x3 : Int) (x4 : Int) : Option (((LF (T4 Int Int Bool Int)) × Int) × MS) :=
  (some ((x0.enter ("divide long" : Str) x2 x4).w)).bind fun y1 => (chkP (IntMulOk x4 y1)).bind fun z2 => (some ((x4 * y1) - ((Builtin.Int.intBits x3 : Nat) : Int))).bind fun y3 => (M_lifted (x0.enter ("divide long" : Str) x2 x4) x3 x4 y3).bind fun z4 => (M_lifted z4.2 x1 x2 y3).bind fun z5 => (chkP (IntMulOk (x2 - (1 : Int)) y1)).bind fun z6 => (chkP (0 ≤ ((x2 - (1 : Int)) * y1))).bind fun z7 => (chkP (IntMulOk (x4 - (1 : Int)) y1)).bind fun z8 => (chkP (0 ≤ ((x4 - (1 : Int)) * y1))).bind fun z9 => (if (decide ((z4.1 / 2 ^ (((x4 - (1 : Int)) * y1)).toNat) ≤ (z5.1 / 2 ^ (((x2 - (1 : Int)) * y1)).toNat))) = true then (some (x2 + (1 : Int))).bind fun y10 => some y10 else some x2).bind fun z13 => (M_quotient_steps z5.2 z5.1 z13 z4.1 x4).bind fun z14 => (M_lowered z14.2 z14.1.2 x4 y3).bind fun z15 => some (((LF.mk z14.1.1.l), z15.1), z15.2)
def Pre_long_division (T : TC) : PreT := fun As Ω R => ∃ (k0 : Nat) (p0 : Addr) (x0 : MS) (x1 : Int) (x2 : Int) (x3 : Int) (x4 : Int) (r : ((LF (T4 Int Int Bool Int)) × Int) × MS), As = [vr p0, va T x1, va T x2, va T x3, va T x4] ∧ Ω[k0]? = some (machA T p0 x0) ∧ M_long_division x0 x1 x2 x3 x4 = some r ∧ R = RV (va T r.1) (stt Ω [(k0, machA T p0 r.2)] [])
theorem sc_long_division : FnScope ["machine", "a", "m", "b", "n", "width", "short_of", "steps", "rest"] ["machine", "a", "m", "b", "n"] (defScope s_long_division) := ⟨rfl, rfl, rfl, by decide +kernel, rfl, by decide +kernel, by decide +kernel⟩
theorem ok_long_division {f : Addr} {fd : FuncData} (F : Fun T.K "long_division" "long_division" s_long_division f fd) (mc : MCls T.K (T.C 0)) (c_Mach_enter : CalM P w T.K mg base 1 (T.C 0) "enter" ["self", "word", "m", "n"] (mkSp (Pre_Mach_enter T))) (c_lifted : Cal P w T.K mg base 2 "lifted" ["machine", "number", "size", "count"] (mkSp (Pre_lifted T))) (c_quotient_steps : Cal P w T.K mg base 22 "quotient_steps" ["machine", "a", "m", "b", "n"] (mkSp (Pre_quotient_steps T))) (c_lowered : Cal P w T.K mg base 2 "lowered" ["machine", "number", "size", "count"] (mkSp (Pre_lowered T))) : FnOk P w T.K mg base CX0 23 f fd ["machine", "a", "m", "b", "n"] (mkSp (Pre_long_division T)) := by
  refine fn_ok F sc_long_division (fun As Ω R h => ?_) (fun cdv A outer s H E hr As Ω R F0 h => ?_)
  · obtain ⟨k0, p0, x0, x1, x2, x3, x4, r, rfl, _⟩ := h
    rfl
  obtain ⟨k0, p0, x0, x1, x2, x3, x4, r, rfl, hk0, hm, rfl⟩ := h
  refine ⟨_, (pss_cons (ps_expr (pe_calM (pv 0) c_Mach_enter (hr.mono (by decide)) (pa_cons pe_str (pa_cons (pv 2) (pa_cons (pv 4) pa_nil))))) (pss_cons (ps_set (i := 5) sc_long_division.nd rfl (.inl rfl) (pe_fldK (K := T.K) (pv 0) (by rfl) rfl)) (pss_cons (ps_set (i := 6) sc_long_division.nd rfl (.inl rfl) (pe_op op_sub (pe_op op_mulQ (pv 4) (pv 5)) (pe_bits (pv 3)))) (pss_cons (ps_set (i := 3) sc_long_division.nd rfl (.inl rfl) (pe_cal c_lifted (hr.mono (by decide)) (by rfl) (pa_cons (pv 0) (pa_cons (pv 3) (pa_cons (pv 4) (pa_cons (pv 6) pa_nil)))))) (pss_cons (ps_set (i := 1) sc_long_division.nd rfl (.inl rfl) (pe_cal c_lifted (hr.mono (by decide)) (by rfl) (pa_cons (pv 0) (pa_cons (pv 1) (pa_cons (pv 2) (pa_cons (pv 6) pa_nil)))))) (Evl.pss_cut (ps_if (pt_cmpR op_ge (pe_op op_shr (pv 1) (pe_op op_mulQ (pe_op op_sub (pv 2) pe_int) (pv 5))) (pe_op op_shr (pv 3) (pe_op op_mulQ (pe_op op_sub (pv 4) pe_int) (pv 5))) (nomark _)) (pss_one (ps_aug (i := 2) sc_long_division.nd rfl (.inl rfl) pe_int (ip_of iop_add))) pss_nil) (pss_cons (ps_asg (pe_cal c_quotient_steps (hr.mono (by decide)) (by rfl) (pa_cons (pv 0) (pa_cons (pv 1) (pa_cons (pv 2) (pa_cons (pv 3) (pa_cons (pv 4) pa_nil)))))) (pg_tupK (K := T.K) (n := 2) rfl rfl (pgs_cons (pg_name (i := 7) sc_long_division.nd rfl (.inl rfl)) (pgs_cons (pg_name (i := 8) sc_long_division.nd rfl (.inl rfl)) pgs_nil)))) (pss_one (ps_ret (pe_tup (pa_cons (pv 7) (pa_cons (pe_cal c_lowered (hr.mono (by decide)) (by rfl) (pa_cons (pv 0) (pa_cons (pv 8) (pa_cons (pv 4) (pa_cons (pv 6) pa_nil))))) pa_nil)))))))))))), fun D hrt hnx => ?_⟩
  have ok := okk1 hk0
  suffices hx : XS _ D F0 [some (vr p0), some (va T x1), some (va T x2), some (va T x3), some (va T x4), none, none, none, none] (stt Ω [(k0, machA T p0 x0)] []) by
    rw [show (stt Ω [(k0, machA T p0 x0)] []) = Ω from stt_self (by simp [hk0])] at hx
    exact hx
  unfold M_long_division at hm
  refine xs_drop (xe_mcall (xe_var (i := 0) rfl) (stt_get ok (i := 0) rfl) (xa_cons xe_str (xa_cons (xe_var (i := 2) rfl) (xa_cons (xe_var (i := 4) rfl) xa_nil))) ⟨k0, p0, x0, ("divide long" : Str), x2, x4, rfl, (stt_get ok (i := 0) rfl), rfl⟩ (cal1 ok (i := 0) rfl)) ?_
  show XS (tSeq _ _) _ _ [some (vr p0), some (va T x1), some (va T x2), some (va T x3), some (va T x4), none, none, none, none] (stt Ω [(k0, machA T p0 (x0.enter ("divide long" : Str) x2 x4))] [])
  obtain ⟨y1, hy1, hm⟩ := bnd_some hm
  refine xs_set (A := va T y1) (xe_eq (xe_mw mc.cl mc.nw (xe_var (i := 0) rfl) (stt_get ok (i := 0) rfl)) (Option.some.inj hy1)) ?_
  show XS (tSeq _ _) _ _ [some (vr p0), some (va T x1), some (va T x2), some (va T x3), some (va T x4), some (va T y1), none, none, none] (stt Ω [(k0, machA T p0 (x0.enter ("divide long" : Str) x2 x4))] [])
  obtain ⟨z2, hz2, hm⟩ := bnd_some hm
  obtain ⟨y3, hy3, hm⟩ := bnd_some hm
  refine xs_set (A := va T y3) (xe_eq (xe_sub (xe_mul (chkP_some hz2) (xe_var (i := 4) rfl) (xe_var (i := 5) rfl)) (xe_bits (xe_var (i := 3) rfl))) (Option.some.inj hy3)) ?_
  show XS (tSeq _ _) _ _ [some (vr p0), some (va T x1), some (va T x2), some (va T x3), some (va T x4), some (va T y1), some (va T y3), none, none] (stt Ω [(k0, machA T p0 (x0.enter ("divide long" : Str) x2 x4))] [])
  obtain ⟨z4, hz4, hm⟩ := bnd_some hm
  refine xs_set (A := va T z4.1) (xe_call (xa_cons (xe_var (i := 0) rfl) (xa_cons (xe_var (i := 3) rfl) (xa_cons (xe_var (i := 4) rfl) (xa_cons (xe_var (i := 6) rfl) xa_nil)))) ⟨k0, p0, (x0.enter ("divide long" : Str) x2 x4), x3, x4, y3, z4, rfl, (stt_get ok (i := 0) rfl), hz4, rfl⟩ (cal1 ok (i := 0) rfl)) ?_
  show XS (tSeq _ _) _ _ [some (vr p0), some (va T x1), some (va T x2), some (va T z4.1), some (va T x4), some (va T y1), some (va T y3), none, none] (stt Ω [(k0, machA T p0 z4.2)] [])
  obtain ⟨z5, hz5, hm⟩ := bnd_some hm
  refine xs_set (A := va T z5.1) (xe_call (xa_cons (xe_var (i := 0) rfl) (xa_cons (xe_var (i := 1) rfl) (xa_cons (xe_var (i := 2) rfl) (xa_cons (xe_var (i := 6) rfl) xa_nil)))) ⟨k0, p0, z4.2, x1, x2, y3, z5, rfl, (stt_get ok (i := 0) rfl), hz5, rfl⟩ (cal1 ok (i := 0) rfl)) ?_
  show XS (Evl.tCut _ _) _ _ [some (vr p0), some (va T z5.1), some (va T x2), some (va T z4.1), some (va T x4), some (va T y1), some (va T y3), none, none] (stt Ω [(k0, machA T p0 z5.2)] [])
  obtain ⟨z6, hz6, hm⟩ := bnd_some hm
  obtain ⟨z7, hz7, hm⟩ := bnd_some hm
  obtain ⟨z8, hz8, hm⟩ := bnd_some hm
  obtain ⟨z9, hz9, hm⟩ := bnd_some hm
  obtain ⟨z13, hz13, hm⟩ := bnd_some hm
  refine xs_cut (Γ' := [some (vr p0), some (va T z5.1), some (va T z13), some (va T z4.1), some (va T x4), some (va T y1), some (va T y3), none, none]) (Ω' := (stt Ω [(k0, machA T p0 z5.2)] [])) ?_ ?_
  · clear hm
    have hm := hz13
    clear hz13
    by_cases hc : (decide ((z4.1 / 2 ^ (((x4 - (1 : Int)) * y1)).toNat) ≤ (z5.1 / 2 ^ (((x2 - (1 : Int)) * y1)).toNat))) = true
    · rw [if_pos hc] at hm
      refine xs_ifT1 (xt_eq (xt_test (T := T) (xe_ge (xe_shr (chkP_some hz7) (xe_var (i := 1) rfl) (xe_mul (chkP_some hz6) (xe_sub (xe_var (i := 2) rfl) xe_int) (xe_var (i := 5) rfl))) (xe_shr (chkP_some hz9) (xe_var (i := 3) rfl) (xe_mul (chkP_some hz8) (xe_sub (xe_var (i := 4) rfl) xe_int) (xe_var (i := 5) rfl))))) hc) ?_
      obtain ⟨y10, hy10, hm⟩ := bnd_some hm
      refine xs_augI1 (T := T) rfl xe_int (Option.some.inj hy10) ?_
      obtain rfl := Option.some.inj hm
      exact fun σ H n => n
    · rw [if_neg hc] at hm
      refine xs_ifF1 (xt_eq (xt_test (T := T) (xe_ge (xe_shr (chkP_some hz7) (xe_var (i := 1) rfl) (xe_mul (chkP_some hz6) (xe_sub (xe_var (i := 2) rfl) xe_int) (xe_var (i := 5) rfl))) (xe_shr (chkP_some hz9) (xe_var (i := 3) rfl) (xe_mul (chkP_some hz8) (xe_sub (xe_var (i := 4) rfl) xe_int) (xe_var (i := 5) rfl))))) (nt hc)) ?_
      obtain rfl := Option.some.inj hm
      exact fun σ H n => n
  · obtain ⟨z14, hz14, hm⟩ := bnd_some hm
    refine xs_asgG (xe_call (xa_cons (xe_var (i := 0) rfl) (xa_cons (xe_var (i := 1) rfl) (xa_cons (xe_var (i := 2) rfl) (xa_cons (xe_var (i := 3) rfl) (xa_cons (xe_var (i := 4) rfl) xa_nil))))) ⟨k0, p0, z5.2, z5.1, z13, z4.1, x4, z14, rfl, (stt_get ok (i := 0) rfl), hz14, rfl⟩ (cal1 ok (i := 0) rfl)) tgt_pair ?_
    show XS (tRet _) _ _ [some (vr p0), some (va T z5.1), some (va T z13), some (va T z4.1), some (va T x4), some (va T y1), some (va T y3), some (va T (LF.mk z14.1.1.l)), some (va T z14.1.2)] (stt Ω [(k0, machA T p0 z14.2)] [])
    obtain ⟨z15, hz15, hm⟩ := bnd_some hm
    obtain rfl := Option.some.inj hm
    refine xs_ret (xe_tup2 (xa_cons (xe_var (i := 7) rfl) (xa_cons (xe_call (xa_cons (xe_var (i := 0) rfl) (xa_cons (xe_var (i := 8) rfl) (xa_cons (xe_var (i := 4) rfl) (xa_cons (xe_var (i := 6) rfl) xa_nil)))) ⟨k0, p0, z14.2, z14.1.2, x4, y3, z15, rfl, (stt_get ok (i := 0) rfl), hz15, rfl⟩ (cal1 ok (i := 0) rfl)) xa_nil))) hrt.all
noncomputable def M_divided_digits (x0 : MS) (x1 : Int) (x2 : Int) (x3 : Str) : Option ((Int × Int) × MS) :=
  (M_size_of x0.w x1).bind fun z1 => (M_size_of x0.w x2).bind fun z2 => if (decide (z2 = (1 : Int))) = true then (M_short_division x0 x3 x1 z1 x2).bind fun z3 => some (z3.1, z3.2) else (M_long_division x0 x1 z1 x2 z2).bind fun z4 => (chkP (((z4.1.1.l).reverse).length ≤ sizeLine)).bind fun z5 => (lcM (fun (a7 : (T4 Int Int Bool Int)) (s6 : Unit) => some (some a7.d, ())) ((z4.1.1.l).reverse) ()).bind fun z8 => (M_number_of 20 z4.2.w z8.1).bind fun z10 => some ((z10, z4.1.2), z4.2)
def Pre_divided_digits (T : TC) : PreT := fun As Ω R => ∃ (k0 : Nat) (p0 : Addr) (x0 : MS) (x1 : Int) (x2 : Int) (x3 : Str) (r : (Int × Int) × MS), As = [vr p0, va T x1, va T x2, va T x3] ∧ Ω[k0]? = some (machA T p0 x0) ∧ M_divided_digits x0 x1 x2 x3 = some r ∧ R = RV (va T r.1) (stt Ω [(k0, machA T p0 r.2)] [])
theorem sc_divided_digits : FnScope ["machine", "a", "b", "short_word", "m", "n", "steps", "rest", "guess", "corrected", "restored", "digit"] ["machine", "a", "b", "short_word"] (defScope s_divided_digits) := ⟨rfl, rfl, rfl, by decide +kernel, rfl, by decide +kernel, by decide +kernel⟩
theorem ok_divided_digits {f : Addr} {fd : FuncData} (F : Fun T.K "divided_digits" "divided_digits" s_divided_digits f fd) (mc : MCls T.K (T.C 0)) (c_size_of : Cal P w T.K mg base 2 "size_of" ["width", "n"] (mkSp (Pre_size_of T))) (c_short_division : Cal P w T.K mg base 2 "short_division" ["machine", "word", "a", "m", "b"] (mkSp (Pre_short_division T))) (c_long_division : Cal P w T.K mg base 23 "long_division" ["machine", "a", "m", "b", "n"] (mkSp (Pre_long_division T))) (z_reversed : mg "reversed" = none) (c_number_of : Cal P w T.K mg base 21 "number_of" ["width", "row"] (mkSp (Pre_number_of 20 T))) : FnOk P w T.K mg base CX0 24 f fd ["machine", "a", "b", "short_word"] (mkSp (Pre_divided_digits T)) := by
  refine fn_ok F sc_divided_digits (fun As Ω R h => ?_) (fun cdv A outer s H E hr As Ω R F0 h => ?_)
  · obtain ⟨k0, p0, x0, x1, x2, x3, r, rfl, _⟩ := h
    rfl
  obtain ⟨k0, p0, x0, x1, x2, x3, r, rfl, hk0, hm, rfl⟩ := h
  refine ⟨_, (pss_cons (ps_set (i := 4) sc_divided_digits.nd rfl (.inl rfl) (pe_cal c_size_of (hr.mono (by decide)) (by rfl) (pa_cons (pe_fldK (K := T.K) (pv 0) (by rfl) rfl) (pa_cons (pv 1) pa_nil)))) (pss_cons (ps_set (i := 5) sc_divided_digits.nd rfl (.inl rfl) (pe_cal c_size_of (hr.mono (by decide)) (by rfl) (pa_cons (pe_fldK (K := T.K) (pv 0) (by rfl) rfl) (pa_cons (pv 2) pa_nil)))) (pss_cons (ps_if (pt_cmpR (op_eqXK (K := T.K) (by exact hr.units) rfl) (pv 5) pe_int (nomark _)) (pss_one (ps_ret (pe_cal c_short_division (hr.mono (by decide)) (by rfl) (pa_cons (pv 0) (pa_cons (pv 3) (pa_cons (pv 1) (pa_cons (pv 4) (pa_cons (pv 2) pa_nil)))))))) pss_nil) (pss_cons (ps_asg (pe_cal c_long_division (hr.mono (by decide)) (by rfl) (pa_cons (pv 0) (pa_cons (pv 1) (pa_cons (pv 4) (pa_cons (pv 2) (pa_cons (pv 5) pa_nil)))))) (pg_tupK (K := T.K) (n := 2) rfl rfl (pgs_cons (pg_name (i := 6) sc_divided_digits.nd rfl (.inl rfl)) (pgs_cons (pg_name (i := 7) sc_divided_digits.nd rfl (.inl rfl)) pgs_nil)))) (pss_one (ps_ret (pe_tup (pa_cons (pe_cal c_number_of (hr.mono (by decide)) (by rfl) (pa_cons (pe_fldK (K := T.K) (pv 0) (by rfl) rfl) (pa_cons (pe_lc (own := [("guess", 8), ("corrected", 9), ("restored", 10), ("digit", 11)]) rfl sc_divided_digits.nd (RT.pi_revA (by rfl) z_reversed (pv 6)) (blkOk_by (N := ["machine", "a", "b", "short_word", "m", "n", "steps", "rest", "guess", "corrected", "restored", "digit"]) (sc := defScope s_divided_digits) (by decide +kernel)) (fun _ _ _ _ _ => (pg_tupK (K := T.K) (n := 4) rfl rfl (pgs_cons (pg_name (i := 8) sc_divided_digits.nd rfl (.inl rfl)) (pgs_cons (pg_name (i := 9) sc_divided_digits.nd rfl (.inl rfl)) (pgs_cons (pg_name (i := 10) sc_divided_digits.nd rfl (.inl rfl)) (pgs_cons (pg_name (i := 11) sc_divided_digits.nd rfl (.inl rfl)) pgs_nil)))))) (fun _ _ _ _ _ => pts_nil) (fun _ _ _ _ _ => (pv 11))) pa_nil))) (pa_cons (pv 7) pa_nil))))))))), fun D hrt hnx => ?_⟩
  have ok := okk1 hk0
  suffices hx : XS _ D F0 [some (vr p0), some (va T x1), some (va T x2), some (va T x3), none, none, none, none, none, none, none, none] (stt Ω [(k0, machA T p0 x0)] []) by
    rw [show (stt Ω [(k0, machA T p0 x0)] []) = Ω from stt_self (by simp [hk0])] at hx
    exact hx
  unfold M_divided_digits at hm
  obtain ⟨z1, hz1, hm⟩ := bnd_some hm
  refine xs_set (A := va T z1) (xe_call (xa_cons (xe_mw mc.cl mc.nw (xe_var (i := 0) rfl) (stt_get ok (i := 0) rfl)) (xa_cons (xe_var (i := 1) rfl) xa_nil)) ⟨x0.w, x1, z1, rfl, hz1, rfl⟩ cal0) ?_
  show XS (tSeq _ _) _ _ [some (vr p0), some (va T x1), some (va T x2), some (va T x3), some (va T z1), none, none, none, none, none, none, none] (stt Ω [(k0, machA T p0 x0)] [])
  obtain ⟨z2, hz2, hm⟩ := bnd_some hm
  refine xs_set (A := va T z2) (xe_call (xa_cons (xe_mw mc.cl mc.nw (xe_var (i := 0) rfl) (stt_get ok (i := 0) rfl)) (xa_cons (xe_var (i := 2) rfl) xa_nil)) ⟨x0.w, x2, z2, rfl, hz2, rfl⟩ cal0) ?_
  show XS (tSeq _ _) _ _ [some (vr p0), some (va T x1), some (va T x2), some (va T x3), some (va T z1), some (va T z2), none, none, none, none, none, none] (stt Ω [(k0, machA T p0 x0)] [])
  by_cases hc : (decide (z2 = (1 : Int))) = true
  · rw [if_pos hc] at hm
    refine xs_ifT (xt_eq (xt_test (T := T) (xe_eqI (xe_var (i := 5) rfl) xe_int)) hc) ?_
    obtain ⟨z3, hz3, hm⟩ := bnd_some hm
    obtain rfl := Option.some.inj hm
    refine xs_ret (xe_call (xa_cons (xe_var (i := 0) rfl) (xa_cons (xe_var (i := 3) rfl) (xa_cons (xe_var (i := 1) rfl) (xa_cons (xe_var (i := 4) rfl) (xa_cons (xe_var (i := 2) rfl) xa_nil))))) ⟨k0, p0, x0, x3, x1, z1, x2, z3, rfl, (stt_get ok (i := 0) rfl), hz3, rfl⟩ (cal1 ok (i := 0) rfl)) hrt.all
  · rw [if_neg hc] at hm
    refine xs_ifN (xt_eq (xt_test (T := T) (xe_eqI (xe_var (i := 5) rfl) xe_int)) (nt hc)) ?_
    show XS (tSeq _ _) _ _ [some (vr p0), some (va T x1), some (va T x2), some (va T x3), some (va T z1), some (va T z2), none, none, none, none, none, none] (stt Ω [(k0, machA T p0 x0)] [])
    obtain ⟨z4, hz4, hm⟩ := bnd_some hm
    refine xs_asgG (xe_call (xa_cons (xe_var (i := 0) rfl) (xa_cons (xe_var (i := 1) rfl) (xa_cons (xe_var (i := 4) rfl) (xa_cons (xe_var (i := 2) rfl) (xa_cons (xe_var (i := 5) rfl) xa_nil))))) ⟨k0, p0, x0, x1, z1, x2, z2, z4, rfl, (stt_get ok (i := 0) rfl), hz4, rfl⟩ (cal1 ok (i := 0) rfl)) tgt_pair ?_
    show XS (tRet _) _ _ [some (vr p0), some (va T x1), some (va T x2), some (va T x3), some (va T z1), some (va T z2), some (va T (LF.mk z4.1.1.l)), some (va T z4.1.2), none, none, none, none] (stt Ω [(k0, machA T p0 z4.2)] [])
    obtain ⟨z5, hz5, hm⟩ := bnd_some hm
    obtain ⟨z8, hz8, hm⟩ := bnd_some hm
    obtain ⟨z10, hz10, hm⟩ := bnd_some hm
    obtain rfl := Option.some.inj hm
    refine xs_ret (xe_tup2 (xa_cons (xe_call (xa_cons (xe_mw mc.cl mc.nw (xe_var (i := 0) rfl) (stt_get ok (i := 0) rfl)) (xa_cons (xe_fz (xn_lcS (T := T) (fun (s6 : Unit) => [(k0, machA T p0 z4.2)]) (fun (s6 : Unit) => []) hz8 (xi_revL (xe_var (i := 6) rfl)) (fun _ => tgt_quad) (by simp) (chkP_some hz5) ?q9)) xa_nil)) ⟨z4.2.w, z8.1, z10, rfl, hz10, rfl⟩ cal0) (xa_cons (xe_var (i := 7) rfl) xa_nil))) hrt.all
    case q9 =>
      exact (fun a7 s6 o s2 ha hm X => by
        obtain ⟨rfl, rfl⟩ := Prod.mk.inj (Option.some.inj hm)
        refine ⟨(fun e => nomatch e), fun y e => ?_⟩
        obtain rfl := Option.some.inj e
        refine ⟨xt_yes, (xe_var (i := 11) rfl)⟩)
noncomputable def M_has_bits_ahead (x0 : Int) (x1 : Int) : Option Bool :=
  (if (decide ((0 : Int) < x1)) = true then (chkP (CShl (1 : Int) x1)).bind fun z1 => some (!decide ((Builtin.bitAnd x0 (((1 : Int) * 2 ^ (x1).toNat) - (1 : Int))) = (0 : Int))) else some false).bind fun z2 => some z2
def Pre_has_bits_ahead (T : TC) : PreT := fun As Ω R => ∃ (x0 : Int) (x1 : Int) (r : Bool), As = [va T x0, va T x1] ∧ M_has_bits_ahead x0 x1 = some r ∧ R = RV (va T r) (stt Ω [] [])
theorem sc_has_bits_ahead : FnScope ["number", "count"] ["number", "count"] (defScope s_has_bits_ahead) := ⟨rfl, rfl, rfl, by decide +kernel, rfl, by decide +kernel, by decide +kernel⟩
theorem ok_has_bits_ahead {f : Addr} {fd : FuncData} (F : Fun T.K "has_bits_ahead" "has_bits_ahead" s_has_bits_ahead f fd)  : FnOk P w T.K mg base CX0 1 f fd ["number", "count"] (mkSp (Pre_has_bits_ahead T)) := by
  refine fn_ok F sc_has_bits_ahead (fun As Ω R h => ?_) (fun cdv A outer s H E hr As Ω R F0 h => ?_)
  · obtain ⟨x0, x1, r, rfl, _⟩ := h
    rfl
  obtain ⟨x0, x1, r, rfl, hm, rfl⟩ := h
  refine ⟨_, (pss_one (ps_ret (pe_and (pe_cmpR op_gt (pv 1) pe_int (nomark _)) (pe_one (pe_cmpR (op_neXK (K := T.K) (by exact hr.units) rfl) (pe_op op_and (pv 0) (pe_op op_sub (pe_op op_shlW pe_int (pv 1)) pe_int)) pe_int (nomark _)))))), fun D hrt hnx => ?_⟩
  have ok : Okk Ω [] := okk0
  suffices hx : XS _ D F0 [some (va T x0), some (va T x1)] (stt Ω [] []) by
    rw [show (stt Ω [] []) = Ω from stt_self (by simp)] at hx
    exact hx
  unfold M_has_bits_ahead at hm
  obtain ⟨z2, hz2, hm⟩ := bnd_some hm
  obtain rfl := Option.some.inj hm
  refine xs_ret (xe_andO (xe_gt (xe_var (i := 1) rfl) xe_int) hz2 ?q3) hrt.all
  case q3 =>
    exact (fun v hm => by
      obtain ⟨z1, hz1, hm⟩ := bnd_some hm
      obtain rfl := Option.some.inj hm
      exact (xe_neI (xe_band (xe_var (i := 0) rfl) (xe_sub (xe_shl (chkP_some hz1) xe_int (xe_var (i := 1) rfl)) xe_int)) xe_int))
noncomputable def M_moved (x0 : MS) (x1 : Int) (x2 : Int) : Option (Int × MS) :=
  (M_size_of x0.w x1).bind fun z1 => if (decide (x2 ≤ (0 : Int))) = true then (chkP (0 < x0.w)).bind fun z2 => (M_lifted x0 x1 z1 ((-x2) % x0.w)).bind fun z3 => (chkP (CShl x1 (-x2))).bind fun z4 => some ((x1 * 2 ^ ((-x2)).toNat), z3.2) else (chkP (CDivF x2 x0.w)).bind fun z5 => (some ((x2.fdiv x0.w, x2.fmod x0.w) : Int × Int)).bind fun y6 => (chkP (IntMulOk y6.1 x0.w)).bind fun z7 => (chkP (0 ≤ (y6.1 * x0.w))).bind fun z8 => (some (x1 / 2 ^ ((y6.1 * x0.w)).toNat)).bind fun y9 => (M_lowered x0 y9 (z1 - y6.1) y6.2).bind fun z10 => (M_has_bits_ahead y9 y6.2).bind fun z11 => (if (!z11) = true then (M_low_part x0.w x1 y6.1).bind fun z12 => (M_size_of x0.w z12).bind fun z13 => (chkP (("looked" : Str) ∈ mwords)).bind fun z14 => some (z10.2.step ("looked" : Str) (min ((y6.1 - z13) + (1 : Int)) y6.1)) else some z10.2).bind fun z17 => (chkP (0 ≤ x2)).bind fun z18 => some ((x1 / 2 ^ (x2).toNat), z17)
def Pre_moved (T : TC) : PreT := fun As Ω R => ∃ (k0 : Nat) (p0 : Addr) (x0 : MS) (x1 : Int) (x2 : Int) (r : Int × MS), As = [vr p0, va T x1, va T x2] ∧ Ω[k0]? = some (machA T p0 x0) ∧ M_moved x0 x1 x2 = some r ∧ R = RV (va T r.1) (stt Ω [(k0, machA T p0 r.2)] [])
theorem sc_moved : FnScope ["machine", "number", "shift", "width", "size", "whole", "part", "kept", "ahead"] ["machine", "number", "shift"] (defScope s_moved) := ⟨rfl, rfl, rfl, by decide +kernel, rfl, by decide +kernel, by decide +kernel⟩
theorem ok_moved {f : Addr} {fd : FuncData} (F : Fun T.K "moved" "moved" s_moved f fd) (mc : MCls T.K (T.C 0)) (c_size_of : Cal P w T.K mg base 2 "size_of" ["width", "n"] (mkSp (Pre_size_of T))) (c_lifted : Cal P w T.K mg base 2 "lifted" ["machine", "number", "size", "count"] (mkSp (Pre_lifted T))) (z_divmod : mg "divmod" = none) (c_lowered : Cal P w T.K mg base 2 "lowered" ["machine", "number", "size", "count"] (mkSp (Pre_lowered T))) (c_has_bits_ahead : Cal P w T.K mg base 1 "has_bits_ahead" ["number", "count"] (mkSp (Pre_has_bits_ahead T))) (c_low_part : Cal P w T.K mg base 1 "low_part" ["width", "n", "size"] (mkSp (Pre_low_part T))) (z_min : mg "min" = none) (c_Mach_step : CalM P w T.K mg base 1 (T.C 0) "step" ["self", "word", "many"] (mkSp (Pre_Mach_step T))) : FnOk P w T.K mg base CX0 3 f fd ["machine", "number", "shift"] (mkSp (Pre_moved T)) := by
  refine fn_ok F sc_moved (fun As Ω R h => ?_) (fun cdv A outer s H E hr As Ω R F0 h => ?_)
  · obtain ⟨k0, p0, x0, x1, x2, r, rfl, _⟩ := h
    rfl
  obtain ⟨k0, p0, x0, x1, x2, r, rfl, hk0, hm, rfl⟩ := h
  refine ⟨_, (pss_cons (ps_set (i := 3) sc_moved.nd rfl (.inl rfl) (pe_fldK (K := T.K) (pv 0) (by rfl) rfl)) (pss_cons (ps_set (i := 4) sc_moved.nd rfl (.inl rfl) (pe_cal c_size_of (hr.mono (by decide)) (by rfl) (pa_cons (pv 3) (pa_cons (pv 1) pa_nil)))) (pss_cons (ps_if (pt_cmpR op_le (pv 2) pe_int (nomark _)) (pss_cons (ps_expr (pe_cal c_lifted (hr.mono (by decide)) (by rfl) (pa_cons (pv 0) (pa_cons (pv 1) (pa_cons (pv 4) (pa_cons (pe_op op_mod (pe_un un_neg (pv 2)) (pv 3)) pa_nil)))))) (pss_one (ps_ret (pe_op op_shlW (pv 1) (pe_un un_neg (pv 2)))))) pss_nil) (pss_cons (ps_asg (pe_callB cr_divmodF (by rfl) z_divmod (by decide +kernel) (pa_cons (pv 2) (pa_cons (pv 3) pa_nil))) (pg_tupK (K := T.K) (n := 2) rfl rfl (pgs_cons (pg_name (i := 5) sc_moved.nd rfl (.inl rfl)) (pgs_cons (pg_name (i := 6) sc_moved.nd rfl (.inl rfl)) pgs_nil)))) (pss_cons (ps_set (i := 7) sc_moved.nd rfl (.inl rfl) (pe_op op_shr (pv 1) (pe_op op_mulQ (pv 5) (pv 3)))) (pss_cons (ps_expr (pe_cal c_lowered (hr.mono (by decide)) (by rfl) (pa_cons (pv 0) (pa_cons (pv 7) (pa_cons (pe_op op_sub (pv 4) (pv 5)) (pa_cons (pv 6) pa_nil)))))) (Evl.pss_cut (ps_if (pt_not (pt_val (pe_cal c_has_bits_ahead (hr.mono (by decide)) (by rfl) (pa_cons (pv 7) (pa_cons (pv 6) pa_nil))))) (pss_cons (ps_set (i := 8) sc_moved.nd rfl (.inl rfl) (pe_cal c_size_of (hr.mono (by decide)) (by rfl) (pa_cons (pv 3) (pa_cons (pe_cal c_low_part (hr.mono (by decide)) (by rfl) (pa_cons (pv 3) (pa_cons (pv 1) (pa_cons (pv 5) pa_nil)))) pa_nil)))) (pss_one (ps_expr (pe_calM (pv 0) c_Mach_step (hr.mono (by decide)) (pa_cons pe_str (pa_cons (pe_callB (cr_min2 rfl) (by rfl) z_min (by decide +kernel) (pa_cons (pe_op op_addQ (pe_op op_sub (pv 5) (pv 8)) pe_int) (pa_cons (pv 5) pa_nil))) pa_nil)))))) pss_nil) (pss_one (ps_ret (pe_op op_shr (pv 1) (pv 2))))))))))), fun D hrt hnx => ?_⟩
  have ok := okk1 hk0
  suffices hx : XS _ D F0 [some (vr p0), some (va T x1), some (va T x2), none, none, none, none, none, none] (stt Ω [(k0, machA T p0 x0)] []) by
    rw [show (stt Ω [(k0, machA T p0 x0)] []) = Ω from stt_self (by simp [hk0])] at hx
    exact hx
  unfold M_moved at hm
  refine xs_set (A := va T x0.w) (xe_mw mc.cl mc.nw (xe_var (i := 0) rfl) (stt_get ok (i := 0) rfl)) ?_
  show XS (tSeq _ _) _ _ [some (vr p0), some (va T x1), some (va T x2), some (va T x0.w), none, none, none, none, none] (stt Ω [(k0, machA T p0 x0)] [])
  obtain ⟨z1, hz1, hm⟩ := bnd_some hm
  refine xs_set (A := va T z1) (xe_call (xa_cons (xe_var (i := 3) rfl) (xa_cons (xe_var (i := 1) rfl) xa_nil)) ⟨x0.w, x1, z1, rfl, hz1, rfl⟩ cal0) ?_
  show XS (tSeq _ _) _ _ [some (vr p0), some (va T x1), some (va T x2), some (va T x0.w), some (va T z1), none, none, none, none] (stt Ω [(k0, machA T p0 x0)] [])
  by_cases hc : (decide (x2 ≤ (0 : Int))) = true
  · rw [if_pos hc] at hm
    refine xs_ifT (xt_eq (xt_test (T := T) (xe_le (xe_var (i := 2) rfl) xe_int)) hc) ?_
    obtain ⟨z2, hz2, hm⟩ := bnd_some hm
    obtain ⟨z3, hz3, hm⟩ := bnd_some hm
    refine xs_drop (xe_call (xa_cons (xe_var (i := 0) rfl) (xa_cons (xe_var (i := 1) rfl) (xa_cons (xe_var (i := 4) rfl) (xa_cons (xe_mod (chkP_some hz2) (xe_neg (xe_var (i := 2) rfl)) (xe_var (i := 3) rfl)) xa_nil)))) ⟨k0, p0, x0, x1, z1, ((-x2) % x0.w), z3, rfl, (stt_get ok (i := 0) rfl), hz3, rfl⟩ (cal1 ok (i := 0) rfl)) ?_
    show XS (tRet _) _ _ [some (vr p0), some (va T x1), some (va T x2), some (va T x0.w), some (va T z1), none, none, none, none] (stt Ω [(k0, machA T p0 z3.2)] [])
    obtain ⟨z4, hz4, hm⟩ := bnd_some hm
    obtain rfl := Option.some.inj hm
    refine xs_ret (xe_shl (chkP_some hz4) (xe_var (i := 1) rfl) (xe_neg (xe_var (i := 2) rfl))) hrt.all
  · rw [if_neg hc] at hm
    refine xs_ifN (xt_eq (xt_test (T := T) (xe_le (xe_var (i := 2) rfl) xe_int)) (nt hc)) ?_
    show XS (tSeq _ _) _ _ [some (vr p0), some (va T x1), some (va T x2), some (va T x0.w), some (va T z1), none, none, none, none] (stt Ω [(k0, machA T p0 x0)] [])
    obtain ⟨z5, hz5, hm⟩ := bnd_some hm
    obtain ⟨y6, hy6, hm⟩ := bnd_some hm
    refine xs_asgG (xe_eq (xe_divmod (xa_cons (xe_var (i := 2) rfl) (xa_cons (xe_var (i := 3) rfl) xa_nil)) (chkP_some hz5)) (Option.some.inj hy6)) tgt_pair ?_
    show XS (tSeq _ _) _ _ [some (vr p0), some (va T x1), some (va T x2), some (va T x0.w), some (va T z1), some (va T y6.1), some (va T y6.2), none, none] (stt Ω [(k0, machA T p0 x0)] [])
    obtain ⟨z7, hz7, hm⟩ := bnd_some hm
    obtain ⟨z8, hz8, hm⟩ := bnd_some hm
    obtain ⟨y9, hy9, hm⟩ := bnd_some hm
    refine xs_set (A := va T y9) (xe_eq (xe_shr (chkP_some hz8) (xe_var (i := 1) rfl) (xe_mul (chkP_some hz7) (xe_var (i := 5) rfl) (xe_var (i := 3) rfl))) (Option.some.inj hy9)) ?_
    show XS (tSeq _ _) _ _ [some (vr p0), some (va T x1), some (va T x2), some (va T x0.w), some (va T z1), some (va T y6.1), some (va T y6.2), some (va T y9), none] (stt Ω [(k0, machA T p0 x0)] [])
    obtain ⟨z10, hz10, hm⟩ := bnd_some hm
    refine xs_drop (xe_call (xa_cons (xe_var (i := 0) rfl) (xa_cons (xe_var (i := 7) rfl) (xa_cons (xe_sub (xe_var (i := 4) rfl) (xe_var (i := 5) rfl)) (xa_cons (xe_var (i := 6) rfl) xa_nil)))) ⟨k0, p0, x0, y9, (z1 - y6.1), y6.2, z10, rfl, (stt_get ok (i := 0) rfl), hz10, rfl⟩ (cal1 ok (i := 0) rfl)) ?_
    show XS (Evl.tCut _ _) _ _ [some (vr p0), some (va T x1), some (va T x2), some (va T x0.w), some (va T z1), some (va T y6.1), some (va T y6.2), some (va T y9), none] (stt Ω [(k0, machA T p0 z10.2)] [])
    obtain ⟨z11, hz11, hm⟩ := bnd_some hm
    obtain ⟨z17, hz17, hm⟩ := bnd_some hm
    refine xs_cut (Γ' := [some (vr p0), some (va T x1), some (va T x2), some (va T x0.w), some (va T z1), some (va T y6.1), some (va T y6.2), some (va T y9), none]) (Ω' := (stt Ω [(k0, machA T p0 z17)] [])) ?_ ?_
    · clear hm
      have hm := hz17
      clear hz17
      by_cases hc : (!z11) = true
      · rw [if_pos hc] at hm
        refine xs_ifT1 (xt_eq (xt_not (xt_tB (T := T) (xe_call (xa_cons (xe_var (i := 7) rfl) (xa_cons (xe_var (i := 6) rfl) xa_nil)) ⟨y9, y6.2, z11, rfl, hz11, rfl⟩ cal0))) hc) ?_
        obtain ⟨z12, hz12, hm⟩ := bnd_some hm
        obtain ⟨z13, hz13, hm⟩ := bnd_some hm
        refine xs_set (A := va T z13) (xe_call (xa_cons (xe_var (i := 3) rfl) (xa_cons (xe_call (xa_cons (xe_var (i := 3) rfl) (xa_cons (xe_var (i := 1) rfl) (xa_cons (xe_var (i := 5) rfl) xa_nil))) ⟨x0.w, x1, y6.1, z12, rfl, hz12, rfl⟩ cal0) xa_nil)) ⟨x0.w, z12, z13, rfl, hz13, rfl⟩ cal0) ?_
        show XS (tDrop _) _ _ [some (vr p0), some (va T x1), some (va T x2), some (va T x0.w), some (va T z1), some (va T y6.1), some (va T y6.2), some (va T y9), some (va T z13)] (stt Ω [(k0, machA T p0 z10.2)] [])
        obtain ⟨z14, hz14, hm⟩ := bnd_some hm
        refine xs_drop1 (xe_mcall (xe_var (i := 0) rfl) (stt_get ok (i := 0) rfl) (xa_cons xe_str (xa_cons (xe_min2 (xe_add (xe_sub (xe_var (i := 5) rfl) (xe_var (i := 8) rfl)) xe_int) (xe_var (i := 5) rfl)) xa_nil)) ⟨k0, p0, z10.2, ("looked" : Str), (min ((y6.1 - z13) + (1 : Int)) y6.1), rfl, (stt_get ok (i := 0) rfl), chkP_some hz14, rfl⟩ (cal1 ok (i := 0) rfl)) ?_
        obtain rfl := Option.some.inj hm
        exact fun σ H n => (n.forget 8)
      · rw [if_neg hc] at hm
        refine xs_ifF1 (xt_eq (xt_not (xt_tB (T := T) (xe_call (xa_cons (xe_var (i := 7) rfl) (xa_cons (xe_var (i := 6) rfl) xa_nil)) ⟨y9, y6.2, z11, rfl, hz11, rfl⟩ cal0))) (nt hc)) ?_
        obtain rfl := Option.some.inj hm
        exact fun σ H n => n
    · obtain ⟨z18, hz18, hm⟩ := bnd_some hm
      obtain rfl := Option.some.inj hm
      refine xs_ret (xe_shr (chkP_some hz18) (xe_var (i := 1) rfl) (xe_var (i := 2) rfl)) hrt.all
noncomputable def M_rounded (x0 : Int) (x1 : Int) (x2 : Bool) : Option (Int × Int) :=
  if (decide (x0 = (0 : Int))) = true then some ((0 : Int), (0 : Int)) else (some (max (((Builtin.Int.intBits x0 : Nat) : Int) - (53 : Int)) ((-1074 : Int) - x1))).bind fun y1 => (chkP (0 ≤ y1)).bind fun z2 => (some (x0 / 2 ^ (y1).toNat)).bind fun y3 => (some (x1 + y1)).bind fun y4 => (chkP (CShl y3 y1)).bind fun z5 => (some (x0 - (y3 * 2 ^ (y1).toNat))).bind fun y6 => (chkP (CShl (1 : Int) (y1 - (1 : Int)))).bind fun z7 => (some ((1 : Int) * 2 ^ ((y1 - (1 : Int))).toNat)).bind fun y8 => (if ((decide (y8 < y6)) || ((decide (y6 = y8)) && (x2 || (decide ((Builtin.bitAnd y3 (1 : Int)) = (1 : Int)))))) = true then (some (y3 + (1 : Int))).bind fun y9 => some y9 else some y3).bind fun z12 => (chkP (0 ≤ (53 : Int))).bind fun z13 => (if (decide ((z12 / 2 ^ ((53 : Int)).toNat) = (1 : Int))) = true then (chkP (0 ≤ (1 : Int))).bind fun z14 => (some (z12 / 2 ^ ((1 : Int)).toNat)).bind fun y15 => (some (y4 + (1 : Int))).bind fun y16 => some (y15, y16) else some (z12, y4)).bind fun z19 => some (if (decide ((0 : Int) < z19.1)) = true then (z19.1, z19.2) else ((0 : Int), (0 : Int)))
def Pre_rounded (T : TC) : PreT := fun As Ω R => ∃ (x0 : Int) (x1 : Int) (x2 : Bool) (r : (Int × Int)), As = [va T x0, va T x1, va T x2] ∧ M_rounded x0 x1 x2 = some r ∧ R = RV (va T r) (stt Ω [] [])
theorem sc_rounded : FnScope ["number", "exponent", "has_more", "cut", "mantissa", "behind", "half"] ["number", "exponent", "has_more"] (defScope s_rounded) := ⟨rfl, rfl, rfl, by decide +kernel, rfl, by decide +kernel, by decide +kernel⟩
theorem ok_rounded {f : Addr} {fd : FuncData} (F : Fun T.K "rounded" "rounded" s_rounded f fd) (g_MANTISSA : ∃ u, mg "MANTISSA" = some u ∧ RelV (.int 53) u) (g_LEAST_EXPONENT : ∃ u, mg "LEAST_EXPONENT" = some u ∧ RelV (.int (-1074)) u) (z_max : mg "max" = none) : FnOk P w T.K mg base CX0 2 f fd ["number", "exponent", "has_more"] (mkSp (Pre_rounded T)) := by
  refine fn_ok F sc_rounded (fun As Ω R h => ?_) (fun cdv A outer s H E hr As Ω R F0 h => ?_)
  · obtain ⟨x0, x1, x2, r, rfl, _⟩ := h
    rfl
  obtain ⟨x0, x1, x2, r, rfl, hm, rfl⟩ := h
  refine ⟨_, (pss_cons (ps_if (pt_cmpR (op_eqXK (K := T.K) (by exact hr.units) rfl) (pv 0) pe_int (nomark _)) (pss_one (ps_ret (pe_tup (pa_cons pe_int (pa_cons pe_int pa_nil))))) pss_nil) (pss_cons (ps_set (i := 3) sc_rounded.nd rfl (.inl rfl) (pe_callB (cr_max2 rfl) (by rfl) z_max (by decide +kernel) (pa_cons (pe_op op_sub (pe_bits (pv 0)) (pe_gl rfl g_MANTISSA)) (pa_cons (pe_op op_sub (pe_gl rfl g_LEAST_EXPONENT) (pv 1)) pa_nil)))) (pss_cons (ps_set (i := 4) sc_rounded.nd rfl (.inl rfl) (pe_op op_shr (pv 0) (pv 3))) (pss_cons (ps_aug (i := 1) sc_rounded.nd rfl (.inl rfl) (pv 3) (ip_of iop_add)) (pss_cons (ps_set (i := 5) sc_rounded.nd rfl (.inl rfl) (pe_op op_sub (pv 0) (pe_op op_shlW (pv 4) (pv 3)))) (pss_cons (ps_set (i := 6) sc_rounded.nd rfl (.inl rfl) (pe_op op_shlW pe_int (pe_op op_sub (pv 3) pe_int))) (Evl.pss_cut (ps_if (PW.pt (pw_or (pt_cmpR op_gt (pv 5) (pv 6) (nomark _)) (pw_or1 (PW.pt (pw_and (pt_cmpR (op_eqXK (K := T.K) (by exact hr.units) rfl) (pv 5) (pv 6) (nomark _)) (pw_and1 (PW.pt (pw_or (pt_val (pv 2)) (pw_or1 (pt_cmpR (op_eqXK (K := T.K) (by exact hr.units) rfl) (pe_op op_and (pv 4) pe_int) pe_int (nomark _))))))))))) (pss_one (ps_aug (i := 4) sc_rounded.nd rfl (.inl rfl) pe_int (ip_of iop_add))) pss_nil) (Evl.pss_cut (ps_if (pt_cmpR (op_eqXK (K := T.K) (by exact hr.units) rfl) (pe_op op_shr (pv 4) (pe_gl rfl g_MANTISSA)) pe_int (nomark _)) (pss_cons (ps_aug (i := 4) sc_rounded.nd rfl (.inl rfl) pe_int (ip_of iop_shr)) (pss_one (ps_aug (i := 1) sc_rounded.nd rfl (.inl rfl) pe_int (ip_of iop_add)))) pss_nil) (pss_one (ps_ret (pe_ifExp (pt_cmpR op_gt (pv 4) pe_int (nomark _)) (pe_tup (pa_cons (pv 4) (pa_cons (pv 1) pa_nil))) (pe_tup (pa_cons pe_int (pa_cons pe_int pa_nil)))))))))))))), fun D hrt hnx => ?_⟩
  have ok : Okk Ω [] := okk0
  suffices hx : XS _ D F0 [some (va T x0), some (va T x1), some (va T x2), none, none, none, none] (stt Ω [] []) by
    rw [show (stt Ω [] []) = Ω from stt_self (by simp)] at hx
    exact hx
  unfold M_rounded at hm
  by_cases hc : (decide (x0 = (0 : Int))) = true
  · rw [if_pos hc] at hm
    refine xs_ifT (xt_eq (xt_test (T := T) (xe_eqI (xe_var (i := 0) rfl) xe_int)) hc) ?_
    obtain rfl := Option.some.inj hm
    refine xs_ret (xe_tup2 (xa_cons xe_int (xa_cons xe_int xa_nil))) hrt.all
  · rw [if_neg hc] at hm
    refine xs_ifN (xt_eq (xt_test (T := T) (xe_eqI (xe_var (i := 0) rfl) xe_int)) (nt hc)) ?_
    show XS (tSeq _ _) _ _ [some (va T x0), some (va T x1), some (va T x2), none, none, none, none] (stt Ω [] [])
    obtain ⟨y1, hy1, hm⟩ := bnd_some hm
    refine xs_set (A := va T y1) (xe_eq (xe_max2 (xe_sub (xe_bits (xe_var (i := 0) rfl)) xe_int) (xe_sub xe_int (xe_var (i := 1) rfl))) (Option.some.inj hy1)) ?_
    show XS (tSeq _ _) _ _ [some (va T x0), some (va T x1), some (va T x2), some (va T y1), none, none, none] (stt Ω [] [])
    obtain ⟨z2, hz2, hm⟩ := bnd_some hm
    obtain ⟨y3, hy3, hm⟩ := bnd_some hm
    refine xs_set (A := va T y3) (xe_eq (xe_shr (chkP_some hz2) (xe_var (i := 0) rfl) (xe_var (i := 3) rfl)) (Option.some.inj hy3)) ?_
    show XS (tSeq _ _) _ _ [some (va T x0), some (va T x1), some (va T x2), some (va T y1), some (va T y3), none, none] (stt Ω [] [])
    obtain ⟨y4, hy4, hm⟩ := bnd_some hm
    refine xs_augI (T := T) rfl (xe_var (i := 3) rfl) (Option.some.inj hy4) ?_
    show XS (tSeq _ _) _ _ [some (va T x0), some (va T y4), some (va T x2), some (va T y1), some (va T y3), none, none] (stt Ω [] [])
    obtain ⟨z5, hz5, hm⟩ := bnd_some hm
    obtain ⟨y6, hy6, hm⟩ := bnd_some hm
    refine xs_set (A := va T y6) (xe_eq (xe_sub (xe_var (i := 0) rfl) (xe_shl (chkP_some hz5) (xe_var (i := 4) rfl) (xe_var (i := 3) rfl))) (Option.some.inj hy6)) ?_
    show XS (tSeq _ _) _ _ [some (va T x0), some (va T y4), some (va T x2), some (va T y1), some (va T y3), some (va T y6), none] (stt Ω [] [])
    obtain ⟨z7, hz7, hm⟩ := bnd_some hm
    obtain ⟨y8, hy8, hm⟩ := bnd_some hm
    refine xs_set (A := va T y8) (xe_eq (xe_shl (chkP_some hz7) xe_int (xe_sub (xe_var (i := 3) rfl) xe_int)) (Option.some.inj hy8)) ?_
    show XS (Evl.tCut _ _) _ _ [some (va T x0), some (va T y4), some (va T x2), some (va T y1), some (va T y3), some (va T y6), some (va T y8)] (stt Ω [] [])
    obtain ⟨z12, hz12, hm⟩ := bnd_some hm
    refine xs_cut (Γ' := [some (va T x0), some (va T y4), some (va T x2), some (va T y1), some (va T z12), some (va T y6), some (va T y8)]) (Ω' := (stt Ω [] [])) ?_ ?_
    · clear hm
      have hm := hz12
      clear hz12
      by_cases hc : ((decide (y8 < y6)) || ((decide (y6 = y8)) && (x2 || (decide ((Builtin.bitAnd y3 (1 : Int)) = (1 : Int)))))) = true
      · rw [if_pos hc] at hm
        refine xs_ifT1 (xt_eq (xt_or (xt_test (T := T) (xe_gt (xe_var (i := 5) rfl) (xe_var (i := 6) rfl))) (fun _ => (xt_and (xt_test (T := T) (xe_eqI (xe_var (i := 5) rfl) (xe_var (i := 6) rfl))) (fun _ => (xt_or (xt_tB (T := T) (xe_var (i := 2) rfl)) (fun _ => (xt_test (T := T) (xe_eqI (xe_band (xe_var (i := 4) rfl) xe_int) xe_int))) (fun _ => rfl))) (fun _ => rfl))) (fun _ => rfl)) hc) ?_
        obtain ⟨y9, hy9, hm⟩ := bnd_some hm
        refine xs_augI1 (T := T) rfl xe_int (Option.some.inj hy9) ?_
        obtain rfl := Option.some.inj hm
        exact fun σ H n => n
      · rw [if_neg hc] at hm
        refine xs_ifF1 (xt_eq (xt_or (xt_test (T := T) (xe_gt (xe_var (i := 5) rfl) (xe_var (i := 6) rfl))) (fun _ => (xt_and (xt_test (T := T) (xe_eqI (xe_var (i := 5) rfl) (xe_var (i := 6) rfl))) (fun _ => (xt_or (xt_tB (T := T) (xe_var (i := 2) rfl)) (fun _ => (xt_test (T := T) (xe_eqI (xe_band (xe_var (i := 4) rfl) xe_int) xe_int))) (fun _ => rfl))) (fun _ => rfl))) (fun _ => rfl)) (nt hc)) ?_
        obtain rfl := Option.some.inj hm
        exact fun σ H n => n
    · obtain ⟨z13, hz13, hm⟩ := bnd_some hm
      obtain ⟨z19, hz19, hm⟩ := bnd_some hm
      refine xs_cut (Γ' := [some (va T x0), some (va T z19.2), some (va T x2), some (va T y1), some (va T z19.1), some (va T y6), some (va T y8)]) (Ω' := (stt Ω [] [])) ?_ ?_
      · clear hm
        have hm := hz19
        clear hz19
        by_cases hc : (decide ((z12 / 2 ^ ((53 : Int)).toNat) = (1 : Int))) = true
        · rw [if_pos hc] at hm
          refine xs_ifT1 (xt_eq (xt_test (T := T) (xe_eqI (xe_shr (chkP_some hz13) (xe_var (i := 4) rfl) xe_int) xe_int)) hc) ?_
          obtain ⟨z14, hz14, hm⟩ := bnd_some hm
          obtain ⟨y15, hy15, hm⟩ := bnd_some hm
          refine xs_augD (T := T) rfl (chkP_some hz14) xe_int (Option.some.inj hy15) ?_
          show XS (tAug _ _ _) _ _ [some (va T x0), some (va T y4), some (va T x2), some (va T y1), some (va T y15), some (va T y6), some (va T y8)] (stt Ω [] [])
          obtain ⟨y16, hy16, hm⟩ := bnd_some hm
          refine xs_augI1 (T := T) rfl xe_int (Option.some.inj hy16) ?_
          obtain rfl := Option.some.inj hm
          exact fun σ H n => n
        · rw [if_neg hc] at hm
          refine xs_ifF1 (xt_eq (xt_test (T := T) (xe_eqI (xe_shr (chkP_some hz13) (xe_var (i := 4) rfl) xe_int) xe_int)) (nt hc)) ?_
          obtain rfl := Option.some.inj hm
          exact fun σ H n => n
      · obtain rfl := Option.some.inj hm
        refine xs_ret (xe_ite (xt_test (T := T) (xe_gt (xe_var (i := 4) rfl) xe_int)) (xe_tup2 (xa_cons (xe_var (i := 4) rfl) (xa_cons (xe_var (i := 1) rfl) xa_nil))) (xe_tup2 (xa_cons xe_int (xa_cons xe_int xa_nil)))) hrt.all
noncomputable def M_ratio (x0 : MS) (x1 : Int) (x2 : Int) : Option ((Int × Int) × MS) :=
  if (decide (x1 = (0 : Int))) = true then some (((0 : Int), (0 : Int)), x0) else (some (((Builtin.Int.intBits x1 : Nat) : Int) - ((Builtin.Int.intBits x2 : Nat) : Int))).bind fun y1 => (some ((max y1 ((-1074 : Int) + (53 : Int))) - (55 : Int))).bind fun y2 => if (decide ((max ((Builtin.Int.intBits x1 : Nat) : Int) ((Builtin.Int.intBits x2 : Nat) : Int)) ≤ (53 : Int))) = true then (chkP (("short" : Str) ∈ mwords)).bind fun z3 => (chkP (CShl x1 (-y2))).bind fun z4 => (chkP (CDivF (x1 * 2 ^ ((-y2)).toNat) x2)).bind fun z5 => (some (((x1 * 2 ^ ((-y2)).toNat).fdiv x2, (x1 * 2 ^ ((-y2)).toNat).fmod x2) : Int × Int)).bind fun y6 => (if (!decide (y6.2 = (0 : Int))) = true then some true else (M_has_bits_ahead x1 y2).bind fun z7 => some z7).bind fun z8 => (M_rounded y6.1 y2 z8).bind fun z10 => some (z10, (x0.step ("short" : Str) (1 : Int))) else if (decide (y1 < ((-1074 : Int) - (1 : Int)))) = true then some (((0 : Int), (0 : Int)), x0) else (M_size_of x0.w x1).bind fun z11 => (M_size_of x0.w x2).bind fun z12 => (M_moved (x0.enter ("ratio" : Str) z11 z12) x1 y2).bind fun z13 => (M_divided_digits z13.2 z13.1 x2 ("divide short" : Str)).bind fun z14 => (if (!decide (z14.1.2 = (0 : Int))) = true then some true else (M_has_bits_ahead x1 y2).bind fun z15 => some z15).bind fun z16 => (M_rounded z14.1.1 y2 z16).bind fun z18 => some (z18, z14.2)
def Pre_ratio (T : TC) : PreT := fun As Ω R => ∃ (k0 : Nat) (p0 : Addr) (x0 : MS) (x1 : Int) (x2 : Int) (r : (Int × Int) × MS), As = [vr p0, va T x1, va T x2] ∧ Ω[k0]? = some (machA T p0 x0) ∧ M_ratio x0 x1 x2 = some r ∧ R = RV (va T r.1) (stt Ω [(k0, machA T p0 r.2)] [])
theorem sc_ratio : FnScope ["machine", "a", "b", "more_bits", "shift", "quotient", "rest"] ["machine", "a", "b"] (defScope s_ratio) := ⟨rfl, rfl, rfl, by decide +kernel, rfl, by decide +kernel, by decide +kernel⟩
theorem ok_ratio {f : Addr} {fd : FuncData} (F : Fun T.K "ratio" "ratio" s_ratio f fd) (g_LEAST_EXPONENT : ∃ u, mg "LEAST_EXPONENT" = some u ∧ RelV (.int (-1074)) u) (g_MANTISSA : ∃ u, mg "MANTISSA" = some u ∧ RelV (.int 53) u) (z_max : mg "max" = none) (g_ROUNDED_BITS : ∃ u, mg "ROUNDED_BITS" = some u ∧ RelV (.int 55) u) (mc : MCls T.K (T.C 0)) (c_Mach_step : CalM P w T.K mg base 1 (T.C 0) "step" ["self", "word", "many"] (mkSp (Pre_Mach_step T))) (z_divmod : mg "divmod" = none) (c_has_bits_ahead : Cal P w T.K mg base 1 "has_bits_ahead" ["number", "count"] (mkSp (Pre_has_bits_ahead T))) (c_rounded : Cal P w T.K mg base 2 "rounded" ["number", "exponent", "has_more"] (mkSp (Pre_rounded T))) (c_size_of : Cal P w T.K mg base 2 "size_of" ["width", "n"] (mkSp (Pre_size_of T))) (c_Mach_enter : CalM P w T.K mg base 1 (T.C 0) "enter" ["self", "word", "m", "n"] (mkSp (Pre_Mach_enter T))) (c_moved : Cal P w T.K mg base 3 "moved" ["machine", "number", "shift"] (mkSp (Pre_moved T))) (c_divided_digits : Cal P w T.K mg base 24 "divided_digits" ["machine", "a", "b", "short_word"] (mkSp (Pre_divided_digits T))) : FnOk P w T.K mg base CX0 25 f fd ["machine", "a", "b"] (mkSp (Pre_ratio T)) := by
  refine fn_ok F sc_ratio (fun As Ω R h => ?_) (fun cdv A outer s H E hr As Ω R F0 h => ?_)
  · obtain ⟨k0, p0, x0, x1, x2, r, rfl, _⟩ := h
    rfl
  obtain ⟨k0, p0, x0, x1, x2, r, rfl, hk0, hm, rfl⟩ := h
  refine ⟨_, (pss_cons (ps_if (pt_cmpR (op_eqXK (K := T.K) (by exact hr.units) rfl) (pv 1) pe_int (nomark _)) (pss_one (ps_ret (pe_tup (pa_cons pe_int (pa_cons pe_int pa_nil))))) pss_nil) (pss_cons (ps_set (i := 3) sc_ratio.nd rfl (.inl rfl) (pe_op op_sub (pe_bits (pv 1)) (pe_bits (pv 2)))) (pss_cons (ps_set (i := 4) sc_ratio.nd rfl (.inl rfl) (pe_op op_sub (pe_callB (cr_max2 rfl) (by rfl) z_max (by decide +kernel) (pa_cons (pv 3) (pa_cons (pe_op op_addQ (pe_gl rfl g_LEAST_EXPONENT) (pe_gl rfl g_MANTISSA)) pa_nil))) (pe_gl rfl g_ROUNDED_BITS))) (pss_cons (ps_if (pt_cmpR op_le (pe_callB (cr_max2 rfl) (by rfl) z_max (by decide +kernel) (pa_cons (pe_bits (pv 1)) (pa_cons (pe_bits (pv 2)) pa_nil))) (pe_gl rfl g_MANTISSA) (nomark _)) (pss_cons (ps_expr (pe_calM (pv 0) c_Mach_step (hr.mono (by decide)) (pa_cons pe_str (pa_cons pe_int pa_nil)))) (pss_one (ps_asg (pe_callB cr_divmodF (by rfl) z_divmod (by decide +kernel) (pa_cons (pe_op op_shlW (pv 1) (pe_un un_neg (pv 4))) (pa_cons (pv 2) pa_nil))) (pg_tupK (K := T.K) (n := 2) rfl rfl (pgs_cons (pg_name (i := 5) sc_ratio.nd rfl (.inl rfl)) (pgs_cons (pg_name (i := 6) sc_ratio.nd rfl (.inl rfl)) pgs_nil)))))) (pss_one (ps_if (pt_cmpR op_lt (pv 3) (pe_op op_sub (pe_gl rfl g_LEAST_EXPONENT) pe_int) (nomark _)) (pss_one (ps_ret (pe_tup (pa_cons pe_int (pa_cons pe_int pa_nil))))) (pss_cons (ps_expr (pe_calM (pv 0) c_Mach_enter (hr.mono (by decide)) (pa_cons pe_str (pa_cons (pe_cal c_size_of (hr.mono (by decide)) (by rfl) (pa_cons (pe_fldK (K := T.K) (pv 0) (by rfl) rfl) (pa_cons (pv 1) pa_nil))) (pa_cons (pe_cal c_size_of (hr.mono (by decide)) (by rfl) (pa_cons (pe_fldK (K := T.K) (pv 0) (by rfl) rfl) (pa_cons (pv 2) pa_nil))) pa_nil))))) (pss_one (ps_asg (pe_cal c_divided_digits (hr.mono (by decide)) (by rfl) (pa_cons (pv 0) (pa_cons (pe_cal c_moved (hr.mono (by decide)) (by rfl) (pa_cons (pv 0) (pa_cons (pv 1) (pa_cons (pv 4) pa_nil)))) (pa_cons (pv 2) (pa_cons pe_str pa_nil))))) (pg_tupK (K := T.K) (n := 2) rfl rfl (pgs_cons (pg_name (i := 5) sc_ratio.nd rfl (.inl rfl)) (pgs_cons (pg_name (i := 6) sc_ratio.nd rfl (.inl rfl)) pgs_nil))))))))) (pss_one (ps_ret (pe_cal c_rounded (hr.mono (by decide)) (by rfl) (pa_cons (pv 5) (pa_cons (pv 4) (pa_cons (pe_or (pe_cmpR (op_neXK (K := T.K) (by exact hr.units) rfl) (pv 6) pe_int (nomark _)) (pe_one (pe_cal c_has_bits_ahead (hr.mono (by decide)) (by rfl) (pa_cons (pv 1) (pa_cons (pv 4) pa_nil))))) pa_nil)))))))))), fun D hrt hnx => ?_⟩
  have ok := okk1 hk0
  suffices hx : XS _ D F0 [some (vr p0), some (va T x1), some (va T x2), none, none, none, none] (stt Ω [(k0, machA T p0 x0)] []) by
    rw [show (stt Ω [(k0, machA T p0 x0)] []) = Ω from stt_self (by simp [hk0])] at hx
    exact hx
  unfold M_ratio at hm
  by_cases hc : (decide (x1 = (0 : Int))) = true
  · rw [if_pos hc] at hm
    refine xs_ifT (xt_eq (xt_test (T := T) (xe_eqI (xe_var (i := 1) rfl) xe_int)) hc) ?_
    obtain rfl := Option.some.inj hm
    refine xs_ret (xe_tup2 (xa_cons xe_int (xa_cons xe_int xa_nil))) hrt.all
  · rw [if_neg hc] at hm
    refine xs_ifN (xt_eq (xt_test (T := T) (xe_eqI (xe_var (i := 1) rfl) xe_int)) (nt hc)) ?_
    show XS (tSeq _ _) _ _ [some (vr p0), some (va T x1), some (va T x2), none, none, none, none] (stt Ω [(k0, machA T p0 x0)] [])
    obtain ⟨y1, hy1, hm⟩ := bnd_some hm
    refine xs_set (A := va T y1) (xe_eq (xe_sub (xe_bits (xe_var (i := 1) rfl)) (xe_bits (xe_var (i := 2) rfl))) (Option.some.inj hy1)) ?_
    show XS (tSeq _ _) _ _ [some (vr p0), some (va T x1), some (va T x2), some (va T y1), none, none, none] (stt Ω [(k0, machA T p0 x0)] [])
    obtain ⟨y2, hy2, hm⟩ := bnd_some hm
    refine xs_set (A := va T y2) (xe_eq (xe_sub (xe_max2 (xe_var (i := 3) rfl) (xe_add xe_int xe_int)) xe_int) (Option.some.inj hy2)) ?_
    show XS (tSeq _ _) _ _ [some (vr p0), some (va T x1), some (va T x2), some (va T y1), some (va T y2), none, none] (stt Ω [(k0, machA T p0 x0)] [])
    refine xs_seq ?_
    by_cases hc : (decide ((max ((Builtin.Int.intBits x1 : Nat) : Int) ((Builtin.Int.intBits x2 : Nat) : Int)) ≤ (53 : Int))) = true
    · rw [if_pos hc] at hm
      refine xs_ifT1 (xt_eq (xt_test (T := T) (xe_le (xe_max2 (xe_bits (xe_var (i := 1) rfl)) (xe_bits (xe_var (i := 2) rfl))) xe_int)) hc) ?_
      obtain ⟨z3, hz3, hm⟩ := bnd_some hm
      refine xs_drop (xe_mcall (xe_var (i := 0) rfl) (stt_get ok (i := 0) rfl) (xa_cons xe_str (xa_cons xe_int xa_nil)) ⟨k0, p0, x0, ("short" : Str), (1 : Int), rfl, (stt_get ok (i := 0) rfl), chkP_some hz3, rfl⟩ (cal1 ok (i := 0) rfl)) ?_
      show XS _ _ _ [some (vr p0), some (va T x1), some (va T x2), some (va T y1), some (va T y2), none, none] (stt Ω [(k0, machA T p0 (x0.step ("short" : Str) (1 : Int)))] [])
      obtain ⟨z4, hz4, hm⟩ := bnd_some hm
      obtain ⟨z5, hz5, hm⟩ := bnd_some hm
      obtain ⟨y6, hy6, hm⟩ := bnd_some hm
      refine xs_asgG1 (xe_eq (xe_divmod (xa_cons (xe_shl (chkP_some hz4) (xe_var (i := 1) rfl) (xe_neg (xe_var (i := 4) rfl))) (xa_cons (xe_var (i := 2) rfl) xa_nil)) (chkP_some hz5)) (Option.some.inj hy6)) tgt_pair ?_
      refine xs_nxI ?_
      show XS (tRet _) _ _ [some (vr p0), some (va T x1), some (va T x2), some (va T y1), some (va T y2), some (va T y6.1), some (va T y6.2)] (stt Ω [(k0, machA T p0 (x0.step ("short" : Str) (1 : Int)))] [])
      obtain ⟨z8, hz8, hm⟩ := bnd_some hm
      obtain ⟨z10, hz10, hm⟩ := bnd_some hm
      obtain rfl := Option.some.inj hm
      refine xs_ret (xe_call (xa_cons (xe_var (i := 5) rfl) (xa_cons (xe_var (i := 4) rfl) (xa_cons (xe_orO (xe_neI (xe_var (i := 6) rfl) xe_int) hz8 ?q9) xa_nil))) ⟨y6.1, y2, z8, z10, rfl, hz10, rfl⟩ cal0) hrt.all
      case q9 =>
        exact (fun v hm => by
          obtain ⟨z7, hz7, hm⟩ := bnd_some hm
          obtain rfl := Option.some.inj hm
          exact (xe_call (xa_cons (xe_var (i := 1) rfl) (xa_cons (xe_var (i := 4) rfl) xa_nil)) ⟨x1, y2, z7, rfl, hz7, rfl⟩ cal0))
    · rw [if_neg hc] at hm
      refine xs_ifF1 (xt_eq (xt_test (T := T) (xe_le (xe_max2 (xe_bits (xe_var (i := 1) rfl)) (xe_bits (xe_var (i := 2) rfl))) xe_int)) (nt hc)) ?_
      by_cases hc : (decide (y1 < ((-1074 : Int) - (1 : Int)))) = true
      · rw [if_pos hc] at hm
        refine xs_ifT1 (xt_eq (xt_test (T := T) (xe_lt (xe_var (i := 3) rfl) (xe_sub xe_int xe_int))) hc) ?_
        obtain rfl := Option.some.inj hm
        refine xs_ret (xe_tup2 (xa_cons xe_int (xa_cons xe_int xa_nil))) hrt.all
      · rw [if_neg hc] at hm
        refine xs_ifF1 (xt_eq (xt_test (T := T) (xe_lt (xe_var (i := 3) rfl) (xe_sub xe_int xe_int))) (nt hc)) ?_
        obtain ⟨z11, hz11, hm⟩ := bnd_some hm
        obtain ⟨z12, hz12, hm⟩ := bnd_some hm
        refine xs_drop (xe_mcall (xe_var (i := 0) rfl) (stt_get ok (i := 0) rfl) (xa_cons xe_str (xa_cons (xe_call (xa_cons (xe_mw mc.cl mc.nw (xe_var (i := 0) rfl) (stt_get ok (i := 0) rfl)) (xa_cons (xe_var (i := 1) rfl) xa_nil)) ⟨x0.w, x1, z11, rfl, hz11, rfl⟩ cal0) (xa_cons (xe_call (xa_cons (xe_mw mc.cl mc.nw (xe_var (i := 0) rfl) (stt_get ok (i := 0) rfl)) (xa_cons (xe_var (i := 2) rfl) xa_nil)) ⟨x0.w, x2, z12, rfl, hz12, rfl⟩ cal0) xa_nil))) ⟨k0, p0, x0, ("ratio" : Str), z11, z12, rfl, (stt_get ok (i := 0) rfl), rfl⟩ (cal1 ok (i := 0) rfl)) ?_
        show XS _ _ _ [some (vr p0), some (va T x1), some (va T x2), some (va T y1), some (va T y2), none, none] (stt Ω [(k0, machA T p0 (x0.enter ("ratio" : Str) z11 z12))] [])
        obtain ⟨z13, hz13, hm⟩ := bnd_some hm
        obtain ⟨z14, hz14, hm⟩ := bnd_some hm
        refine xs_asgG1 (xe_call (xa_cons (xe_var (i := 0) rfl) (xa_cons (xe_call (xa_cons (xe_var (i := 0) rfl) (xa_cons (xe_var (i := 1) rfl) (xa_cons (xe_var (i := 4) rfl) xa_nil))) ⟨k0, p0, (x0.enter ("ratio" : Str) z11 z12), x1, y2, z13, rfl, (stt_get ok (i := 0) rfl), hz13, rfl⟩ (cal1 ok (i := 0) rfl)) (xa_cons (xe_var (i := 2) rfl) (xa_cons xe_str xa_nil)))) ⟨k0, p0, z13.2, z13.1, x2, ("divide short" : Str), z14, rfl, (stt_get ok (i := 0) rfl), hz14, rfl⟩ (cal1 ok (i := 0) rfl)) tgt_pair ?_
        refine xs_nxI ?_
        show XS (tRet _) _ _ [some (vr p0), some (va T x1), some (va T x2), some (va T y1), some (va T y2), some (va T z14.1.1), some (va T z14.1.2)] (stt Ω [(k0, machA T p0 z14.2)] [])
        obtain ⟨z16, hz16, hm⟩ := bnd_some hm
        obtain ⟨z18, hz18, hm⟩ := bnd_some hm
        obtain rfl := Option.some.inj hm
        refine xs_ret (xe_call (xa_cons (xe_var (i := 5) rfl) (xa_cons (xe_var (i := 4) rfl) (xa_cons (xe_orO (xe_neI (xe_var (i := 6) rfl) xe_int) hz16 ?q17) xa_nil))) ⟨z14.1.1, y2, z16, z18, rfl, hz18, rfl⟩ cal0) hrt.all
        case q17 =>
          exact (fun v hm => by
            obtain ⟨z15, hz15, hm⟩ := bnd_some hm
            obtain rfl := Option.some.inj hm
            exact (xe_call (xa_cons (xe_var (i := 1) rfl) (xa_cons (xe_var (i := 4) rfl) xa_nil)) ⟨x1, y2, z15, rfl, hz15, rfl⟩ cal0))
noncomputable def M_true_quotient (x0 : MS) (x1 : Bg) (x2 : Bg) : Option ((T3 Int Int Int) × MS) :=
  (M_check_division x0 x1 x2).bind fun z1 => (some ((x1.v.natAbs : Nat) : Int)).bind fun y2 => (some ((x2.v.natAbs : Nat) : Int)).bind fun y3 => (chkP (IntMulOk (179769313486231580793728971405303415079934132710037826936173778980444968292764750946649017977587207096330286416692887910946555547851940402630657488671505820681908902000708383676273854845817711531764475730270069855571366959622842914819860834936475292719074168444365510704342711559699508093042880177904174497792 : Int) y3)).bind fun z4 => (chkP ((decide (((179769313486231580793728971405303415079934132710037826936173778980444968292764750946649017977587207096330286416692887910946555547851940402630657488671505820681908902000708383676273854845817711531764475730270069855571366959622842914819860834936475292719074168444365510704342711559699508093042880177904174497792 : Int) * y3) ≤ y2)) = false)).bind fun z5 => (M_ratio x0 y2 y3).bind fun z6 => some ((T3.mk (if (decide ((decide (x1.v < (0 : Int))) = (decide (x2.v < (0 : Int))))) = true then (1 : Int) else (-(1 : Int))) z6.1.1 z6.1.2), z6.2)
def Pre_true_quotient (T : TC) : PreT := fun As Ω R => ∃ (k0 : Nat) (p0 : Addr) (x0 : MS) (x1 : Bg) (x2 : Bg) (r : (T3 Int Int Int) × MS), As = [vr p0, va T x1, va T x2] ∧ Ω[k0]? = some (machA T p0 x0) ∧ M_true_quotient x0 x1 x2 = some r ∧ R = RV (va T r.1) (stt Ω [(k0, machA T p0 r.2)] [])
theorem sc_true_quotient : FnScope ["machine", "x", "y", "a", "b", "mantissa", "exponent"] ["machine", "x", "y"] (defScope s_true_quotient) := ⟨rfl, rfl, rfl, by decide +kernel, rfl, by decide +kernel, by decide +kernel⟩
theorem ok_true_quotient {f : Addr} {fd : FuncData} (F : Fun T.K "true_quotient" "true_quotient" s_true_quotient f fd) (c_check_division : Cal P w T.K mg base 5 "check_division" ["machine", "x", "y"] (mkSp (Pre_check_division T))) (bc : BCls T.K (T.C 1)) (z_abs : mg "abs" = none) (g_BOUND : ∃ u, mg "BOUND" = some u ∧ RelV (.int 179769313486231580793728971405303415079934132710037826936173778980444968292764750946649017977587207096330286416692887910946555547851940402630657488671505820681908902000708383676273854845817711531764475730270069855571366959622842914819860834936475292719074168444365510704342711559699508093042880177904174497792) u) (c_ratio : Cal P w T.K mg base 25 "ratio" ["machine", "a", "b"] (mkSp (Pre_ratio T))) : FnOk P w T.K mg base CX0 26 f fd ["machine", "x", "y"] (mkSp (Pre_true_quotient T)) := by
  refine fn_ok F sc_true_quotient (fun As Ω R h => ?_) (fun cdv A outer s H E hr As Ω R F0 h => ?_)
  · obtain ⟨k0, p0, x0, x1, x2, r, rfl, _⟩ := h
    rfl
  obtain ⟨k0, p0, x0, x1, x2, r, rfl, hk0, hm, rfl⟩ := h
  refine ⟨_, (pss_cons (ps_expr (pe_cal c_check_division (hr.mono (by decide)) (by rfl) (pa_cons (pv 0) (pa_cons (pv 1) (pa_cons (pv 2) pa_nil))))) (pss_cons (ps_set (i := 3) sc_true_quotient.nd rfl (.inl rfl) (pe_callB cr_abs (by rfl) z_abs (by decide +kernel) (pa_cons (pe_fldK (K := T.K) (pv 1) (by rfl) rfl) pa_nil))) (pss_cons (ps_set (i := 4) sc_true_quotient.nd rfl (.inl rfl) (pe_callB cr_abs (by rfl) z_abs (by decide +kernel) (pa_cons (pe_fldK (K := T.K) (pv 2) (by rfl) rfl) pa_nil))) (pss_cons (ps_if (pt_cmpR op_ge (pv 3) (pe_op op_mulQ (pe_gl rfl g_BOUND) (pv 4)) (nomark _)) pss_never pss_nil) (pss_cons (ps_asg (pe_cal c_ratio (hr.mono (by decide)) (by rfl) (pa_cons (pv 0) (pa_cons (pv 3) (pa_cons (pv 4) pa_nil)))) (pg_tupK (K := T.K) (n := 2) rfl rfl (pgs_cons (pg_name (i := 5) sc_true_quotient.nd rfl (.inl rfl)) (pgs_cons (pg_name (i := 6) sc_true_quotient.nd rfl (.inl rfl)) pgs_nil)))) (pss_one (ps_ret (pe_tup (pa_cons (pe_ifExp (pt_cmpR (op_eqXK (K := T.K) (by exact hr.units) rfl) (pe_cmpR op_lt (pe_fldK (K := T.K) (pv 1) (by rfl) rfl) pe_int (nomark _)) (pe_cmpR op_lt (pe_fldK (K := T.K) (pv 2) (by rfl) rfl) pe_int (nomark _)) (nomark _)) pe_int (pe_un un_neg pe_int)) (pa_cons (pv 5) (pa_cons (pv 6) pa_nil))))))))))), fun D hrt hnx => ?_⟩
  have ok := okk1 hk0
  suffices hx : XS _ D F0 [some (vr p0), some (va T x1), some (va T x2), none, none, none, none] (stt Ω [(k0, machA T p0 x0)] []) by
    rw [show (stt Ω [(k0, machA T p0 x0)] []) = Ω from stt_self (by simp [hk0])] at hx
    exact hx
  unfold M_true_quotient at hm
  obtain ⟨z1, hz1, hm⟩ := bnd_some hm
  refine xs_drop (xe_call (xa_cons (xe_var (i := 0) rfl) (xa_cons (xe_var (i := 1) rfl) (xa_cons (xe_var (i := 2) rfl) xa_nil))) ⟨k0, p0, x0, x1, x2, z1, rfl, (stt_get ok (i := 0) rfl), hz1, rfl⟩ cal0) ?_
  show XS (tSeq _ _) _ _ [some (vr p0), some (va T x1), some (va T x2), none, none, none, none] (stt Ω [(k0, machA T p0 x0)] [])
  obtain ⟨y2, hy2, hm⟩ := bnd_some hm
  refine xs_set (A := va T y2) (xe_eq (xe_abs (xe_bv bc.cl bc.nv (xe_var (i := 1) rfl))) (Option.some.inj hy2)) ?_
  show XS (tSeq _ _) _ _ [some (vr p0), some (va T x1), some (va T x2), some (va T y2), none, none, none] (stt Ω [(k0, machA T p0 x0)] [])
  obtain ⟨y3, hy3, hm⟩ := bnd_some hm
  refine xs_set (A := va T y3) (xe_eq (xe_abs (xe_bv bc.cl bc.nv (xe_var (i := 2) rfl))) (Option.some.inj hy3)) ?_
  show XS (tSeq _ _) _ _ [some (vr p0), some (va T x1), some (va T x2), some (va T y2), some (va T y3), none, none] (stt Ω [(k0, machA T p0 x0)] [])
  obtain ⟨z4, hz4, hm⟩ := bnd_some hm
  obtain ⟨z5, hz5, hm⟩ := bnd_some hm
  refine xs_ifN (xt_eq (xt_test (T := T) (xe_ge (xe_var (i := 3) rfl) (xe_mul (chkP_some hz4) xe_int (xe_var (i := 4) rfl)))) (chkP_some hz5)) ?_
  show XS (tSeq _ _) _ _ [some (vr p0), some (va T x1), some (va T x2), some (va T y2), some (va T y3), none, none] (stt Ω [(k0, machA T p0 x0)] [])
  obtain ⟨z6, hz6, hm⟩ := bnd_some hm
  refine xs_asgG (xe_call (xa_cons (xe_var (i := 0) rfl) (xa_cons (xe_var (i := 3) rfl) (xa_cons (xe_var (i := 4) rfl) xa_nil))) ⟨k0, p0, x0, y2, y3, z6, rfl, (stt_get ok (i := 0) rfl), hz6, rfl⟩ (cal1 ok (i := 0) rfl)) tgt_pair ?_
  show XS (tRet _) _ _ [some (vr p0), some (va T x1), some (va T x2), some (va T y2), some (va T y3), some (va T z6.1.1), some (va T z6.1.2)] (stt Ω [(k0, machA T p0 z6.2)] [])
  obtain rfl := Option.some.inj hm
  refine xs_ret (xe_tup3 (xa_cons (xe_ite (xt_test (T := T) (xe_eqB (xe_lt (xe_bv bc.cl bc.nv (xe_var (i := 1) rfl)) xe_int) (xe_lt (xe_bv bc.cl bc.nv (xe_var (i := 2) rfl)) xe_int))) xe_int (xe_neg xe_int)) (xa_cons (xe_var (i := 5) rfl) (xa_cons (xe_var (i := 6) rfl) xa_nil)))) hrt.all
noncomputable def X_true_quotient (x0 : MS) (x1 : Bg) (x2 : Bg) : Option Nat :=
  (M_check_division x0 x1 x2).bind fun z1 => (some ((x1.v.natAbs : Nat) : Int)).bind fun y2 => (some ((x2.v.natAbs : Nat) : Int)).bind fun y3 => (chkP (IntMulOk (179769313486231580793728971405303415079934132710037826936173778980444968292764750946649017977587207096330286416692887910946555547851940402630657488671505820681908902000708383676273854845817711531764475730270069855571366959622842914819860834936475292719074168444365510704342711559699508093042880177904174497792 : Int) y3)).bind fun z4 => if (decide (((179769313486231580793728971405303415079934132710037826936173778980444968292764750946649017977587207096330286416692887910946555547851940402630657488671505820681908902000708383676273854845817711531764475730270069855571366959622842914819860834936475292719074168444365510704342711559699508093042880177904174497792 : Int) * y3) ≤ y2)) = true then some 0 else none
def PreX_true_quotient (T : TC) : PreXX := fun As Ω R => ∃ (k0 : Nat) (p0 : Addr) (x0 : MS) (x1 : Bg) (x2 : Bg) (r : Nat), As = [vr p0, va T x1, va T x2] ∧ Ω[k0]? = some (machA T p0 x0) ∧ X_true_quotient x0 x1 x2 = some r ∧ R = RX (T.C (300 + r)) Ω
theorem okx_true_quotient {f : Addr} {fd : FuncData} (F : Fun T.K "true_quotient" "true_quotient" s_true_quotient f fd) (c_check_division : Cal P w T.K mg base 5 "check_division" ["machine", "x", "y"] (mkSp (Pre_check_division T))) (bc : BCls T.K (T.C 1)) (z_abs : mg "abs" = none) (g_BOUND : ∃ u, mg "BOUND" = some u ∧ RelV (.int 179769313486231580793728971405303415079934132710037826936173778980444968292764750946649017977587207096330286416692887910946555547851940402630657488671505820681908902000708383676273854845817711531764475730270069855571366959622842914819860834936475292719074168444365510704342711559699508093042880177904174497792) u) (e_TooGreat : ExcC T.K mg "TooGreat" (T.C 300)) : FnOk P w T.K mg base (L2.CX P w) 26 f fd ["machine", "x", "y"] (mkSpX (PreX_true_quotient T)) := by
  refine fn_okX F sc_true_quotient (fun As Ω R h => ?_) (fun cdv A outer s H E hr As Ω R F0 h hx tk => ?_)
  · obtain ⟨k0, p0, x0, x1, x2, r, rfl, _⟩ := h
    rfl
  obtain ⟨k0, p0, x0, x1, x2, r, rfl, hk0, hm, rfl⟩ := h
  refine ⟨_, (pss_cons (ps_expr (pe_cal c_check_division (hr.mono (by decide)) (by rfl) (pa_cons (pv 0) (pa_cons (pv 1) (pa_cons (pv 2) pa_nil))))) (pss_cons (ps_set (i := 3) sc_true_quotient.nd rfl (.inl rfl) (pe_callB cr_abs (by rfl) z_abs (by decide +kernel) (pa_cons (pe_fldK (K := T.K) (pv 1) (by rfl) rfl) pa_nil))) (pss_cons (ps_set (i := 4) sc_true_quotient.nd rfl (.inl rfl) (pe_callB cr_abs (by rfl) z_abs (by decide +kernel) (pa_cons (pe_fldK (K := T.K) (pv 2) (by rfl) rfl) pa_nil))) (pss_cons (ps_if (pt_cmpR op_ge (pv 3) (pe_op op_mulQ (pe_gl rfl g_BOUND) (pv 4)) (nomark _)) (pss_one (ps_raise0 rfl tk e_TooGreat (by rfl))) pss_nil) pss_never)))), fun D => ?_⟩
  suffices hy : XS _ D F0 [some (vr p0), some (va T x1), some (va T x2), none, none, none, none] (stt Ω [] []) by
    rw [show (stt Ω [] []) = Ω from stt_self (by simp)] at hy
    exact hy
  unfold X_true_quotient at hm
  obtain ⟨z1, hz1, hm⟩ := bnd_some hm
  refine xs_drop (xe_call (xa_cons (xe_var (i := 0) rfl) (xa_cons (xe_var (i := 1) rfl) (xa_cons (xe_var (i := 2) rfl) xa_nil))) ⟨k0, p0, x0, x1, x2, z1, rfl, (stt_getU hk0), hz1, rfl⟩ cal0) ?_
  show XS (tSeq _ _) _ _ [some (vr p0), some (va T x1), some (va T x2), none, none, none, none] (stt Ω [] [])
  obtain ⟨y2, hy2, hm⟩ := bnd_some hm
  refine xs_set (A := va T y2) (xe_eq (xe_abs (xe_bv bc.cl bc.nv (xe_var (i := 1) rfl))) (Option.some.inj hy2)) ?_
  show XS (tSeq _ _) _ _ [some (vr p0), some (va T x1), some (va T x2), some (va T y2), none, none, none] (stt Ω [] [])
  obtain ⟨y3, hy3, hm⟩ := bnd_some hm
  refine xs_set (A := va T y3) (xe_eq (xe_abs (xe_bv bc.cl bc.nv (xe_var (i := 2) rfl))) (Option.some.inj hy3)) ?_
  show XS (tSeq _ _) _ _ [some (vr p0), some (va T x1), some (va T x2), some (va T y2), some (va T y3), none, none] (stt Ω [] [])
  obtain ⟨z4, hz4, hm⟩ := bnd_some hm
  by_cases hc : (decide (((179769313486231580793728971405303415079934132710037826936173778980444968292764750946649017977587207096330286416692887910946555547851940402630657488671505820681908902000708383676273854845817711531764475730270069855571366959622842914819860834936475292719074168444365510704342711559699508093042880177904174497792 : Int) * y3) ≤ y2)) = true
  · rw [if_pos hc] at hm
    refine xs_ifT (xt_eq (xt_test (T := T) (xe_ge (xe_var (i := 3) rfl) (xe_mul (chkP_some hz4) xe_int (xe_var (i := 4) rfl)))) hc) ?_
    obtain rfl := Option.some.inj hm
    exact xs_rzL hx
  · rw [if_neg hc] at hm
    refine xs_ifN (xt_eq (xt_test (T := T) (xe_ge (xe_var (i := 3) rfl) (xe_mul (chkP_some hz4) xe_int (xe_var (i := 4) rfl)))) (nt hc)) ?_
    show XS _ _ _ [some (vr p0), some (va T x1), some (va T x2), some (va T y2), some (va T y3), none, none] (stt Ω [] [])
    cases hm
noncomputable def M__law_source (x0 : Int) : Option (List Int) :=
  (chkP (CPow (10 : Int) (18 : Int))).bind fun z1 => (chkP (IntMulOk ((x0.natAbs : Nat) : Int) (if (decide (((10 : Int) ^ ((18 : Int)).toNat) ≤ ((x0.natAbs : Nat) : Int))) = true then (1 : Int) else 0))).bind fun z2 => (chkP (0 < (2147483587 : Int))).bind fun z3 => some ([(((x0.natAbs : Nat) : Int) * (if (decide (((10 : Int) ^ ((18 : Int)).toNat) ≤ ((x0.natAbs : Nat) : Int))) = true then (1 : Int) else 0)), (x0 % (2147483587 : Int)), (0 : Int)] : List Int)
def Pre__law_source (T : TC) : PreT := fun As Ω R => ∃ (x0 : Int) (r : List Int), As = [va T x0] ∧ M__law_source x0 = some r ∧ R = RN (stt Ω [] []) (fun q => lstA T q r)
theorem sc__law_source : FnScope ["_law_cell"] ["_law_cell"] (defScope s__law_source) := ⟨rfl, rfl, rfl, by decide +kernel, rfl, by decide +kernel, by decide +kernel⟩
theorem ok__law_source {f : Addr} {fd : FuncData} (F : Fun T.K "_law_source" "_law_source" s__law_source f fd) (z_abs : mg "abs" = none) (z_int : mg "int" = none) : FnOk P w T.K mg base CX0 1 f fd ["_law_cell"] (mkSp (Pre__law_source T)) := by
  refine fn_ok F sc__law_source (fun As Ω R h => ?_) (fun cdv A outer s H E hr As Ω R F0 h => ?_)
  · obtain ⟨x0, r, rfl, _⟩ := h
    rfl
  obtain ⟨x0, r, rfl, hm, rfl⟩ := h
  refine ⟨_, (pss_one (ps_ret (pe_lst (pa_cons (pe_op op_mulQ (pe_callB cr_abs (by rfl) z_abs (by decide +kernel) (pa_cons (pv 0) pa_nil)) (pe_callTy cr_int (by rfl) z_int (by decide +kernel) (pa_cons (pe_cmpR op_ge (pe_callB cr_abs (by rfl) z_abs (by decide +kernel) (pa_cons (pv 0) pa_nil)) (pe_op op_pow pe_int pe_int) (nomark _)) pa_nil))) (pa_cons (pe_op op_mod (pe_callTy cr_int (by rfl) z_int (by decide +kernel) (pa_cons (pv 0) pa_nil)) pe_int) (pa_cons pe_int pa_nil)))))), fun D hrt hnx => ?_⟩
  have ok : Okk Ω [] := okk0
  suffices hx : XS _ D F0 [some (va T x0)] (stt Ω [] []) by
    rw [show (stt Ω [] []) = Ω from stt_self (by simp)] at hx
    exact hx
  unfold M__law_source at hm
  obtain ⟨z1, hz1, hm⟩ := bnd_some hm
  obtain ⟨z2, hz2, hm⟩ := bnd_some hm
  obtain ⟨z3, hz3, hm⟩ := bnd_some hm
  obtain rfl := Option.some.inj hm
  refine xs_ret (xn_lst (T := T) (l := [(((x0.natAbs : Nat) : Int) * (if (decide (((10 : Int) ^ ((18 : Int)).toNat) ≤ ((x0.natAbs : Nat) : Int))) = true then (1 : Int) else 0)), (x0 % (2147483587 : Int)), (0 : Int)]) (xa_cons (xe_mul (chkP_some hz2) (xe_abs (xe_var (i := 0) rfl)) (xe_intb (xe_ge (xe_abs (xe_var (i := 0) rfl)) (xe_pow (chkP_some hz1) xe_int xe_int)))) (xa_cons (xe_mod (chkP_some hz3) (xe_int1 (xe_var (i := 0) rfl)) xe_int) (xa_cons xe_int xa_nil))) (by show 3 ≤ sizeLine; decide)) (RT.allN hrt)
noncomputable def M__law_draw (x0 : List Int) (x1 : Int) : Option (Int × List Int) :=
  (atI x0 (0 : Int)).bind fun z1 => if (decide ((0 : Int) < z1)) = true then (atI x0 (0 : Int)).bind fun z2 => (chkP (0 < x1)).bind fun z3 => (some (z2 % x1)).bind fun y4 => (atI x0 (0 : Int)).bind fun z5 => (chkP (CDivW z5 x1)).bind fun z6 => (some (z5 / x1)).bind fun y7 => (ixN x0.length (0 : Int)).bind fun z8 => some (y4, (x0.set z8 y7)) else (atI x0 (2 : Int)).bind fun z9 => (some (z9 + (1 : Int))).bind fun y10 => (ixN x0.length (2 : Int)).bind fun z11 => (atI (x0.set z11 y10) (1 : Int)).bind fun z12 => (atI (x0.set z11 y10) (2 : Int)).bind fun z13 => (chkP (IntMulOk (52711 : Int) z13)).bind fun z14 => (chkP (IntMulOk ((z12 + ((52711 : Int) * z13)) + (13 : Int)) (48271 : Int))).bind fun z15 => (chkP (0 < (2147483629 : Int))).bind fun z16 => (some ((((z12 + ((52711 : Int) * z13)) + (13 : Int)) * (48271 : Int)) % (2147483629 : Int))).bind fun y17 => (chkP (CDivW y17 (1021 : Int))).bind fun z18 => (atI (x0.set z11 y10) (2 : Int)).bind fun z19 => (chkP (IntMulOk y17 (((y17 / (1021 : Int)) + (69621 : Int)) + z19))).bind fun z20 => (chkP (0 < (2147483579 : Int))).bind fun z21 => (some ((y17 * (((y17 / (1021 : Int)) + (69621 : Int)) + z19)) % (2147483579 : Int))).bind fun y22 => (chkP (CDivW y22 (2011 : Int))).bind fun z23 => (chkP (IntMulOk y22 ((y22 / (2011 : Int)) + (40692 : Int)))).bind fun z24 => (chkP (0 < (2147483549 : Int))).bind fun z25 => (chkP (CDivW ((y22 * ((y22 / (2011 : Int)) + (40692 : Int))) % (2147483549 : Int)) (3 : Int))).bind fun z26 => (chkP (0 < x1)).bind fun z27 => some (((((y22 * ((y22 / (2011 : Int)) + (40692 : Int))) % (2147483549 : Int)) / (3 : Int)) % x1), (x0.set z11 y10))
def Pre__law_draw (T : TC) : PreT := fun As Ω R => ∃ (k0 : Nat) (p0 : Addr) (x0 : List Int) (x1 : Int) (r : Int × List Int), As = [vr p0, va T x1] ∧ Ω[k0]? = some (lstA T p0 x0) ∧ M__law_draw x0 x1 = some r ∧ R = RV (va T r.1) (stt Ω [(k0, lstA T p0 r.2)] [])
theorem sc__law_draw : FnScope ["_law_source_here", "_law_size", "_law_digit", "_law_mixed"] ["_law_source_here", "_law_size"] (defScope s__law_draw) := ⟨rfl, rfl, rfl, by decide +kernel, rfl, by decide +kernel, by decide +kernel⟩
theorem ok__law_draw {f : Addr} {fd : FuncData} (F : Fun T.K "_law_draw" "_law_draw" s__law_draw f fd) (z_int : mg "int" = none) : FnOk P w T.K mg base CX0 1 f fd ["_law_source_here", "_law_size"] (mkSp (Pre__law_draw T)) := by
  refine fn_ok F sc__law_draw (fun As Ω R h => ?_) (fun cdv A outer s H E hr As Ω R F0 h => ?_)
  · obtain ⟨k0, p0, x0, x1, r, rfl, _⟩ := h
    rfl
  obtain ⟨k0, p0, x0, x1, r, rfl, hk0, hm, rfl⟩ := h
  refine ⟨_, (pss_cons (ps_if (pt_cmpR op_gt (pe_ix (ix_seqK (K := T.K) rfl) (pv 0) pe_int (by intro _ _; rfl)) pe_int (nomark _)) (pss_cons (ps_set (i := 2) sc__law_draw.nd rfl (.inl rfl) (pe_op op_mod (pe_callTy cr_int (by rfl) z_int (by decide +kernel) (pa_cons (pe_ix (ix_seqK (K := T.K) rfl) (pv 0) pe_int (by intro _ _; rfl)) pa_nil)) (pv 1))) (pss_cons (ps_asg (pe_op op_fdivW (pe_ix (ix_seqK (K := T.K) rfl) (pv 0) pe_int (by intro _ _; rfl)) (pv 1)) (pg_sub (pv 0) pe_int set_list)) (pss_one (ps_ret (pv 2))))) pss_nil) (pss_cons (ps_asg (pe_op op_addQ (pe_ix (ix_seqK (K := T.K) rfl) (pv 0) pe_int (by intro _ _; rfl)) pe_int) (pg_sub (pv 0) pe_int set_list)) (pss_cons (ps_set (i := 3) sc__law_draw.nd rfl (.inl rfl) (pe_op op_mod (pe_callTy cr_int (by rfl) z_int (by decide +kernel) (pa_cons (pe_op op_mulQ (pe_op op_addQ (pe_op op_addQ (pe_ix (ix_seqK (K := T.K) rfl) (pv 0) pe_int (by intro _ _; rfl)) (pe_op op_mulQ pe_int (pe_ix (ix_seqK (K := T.K) rfl) (pv 0) pe_int (by intro _ _; rfl)))) pe_int) pe_int) pa_nil)) pe_int)) (pss_cons (ps_set (i := 3) sc__law_draw.nd rfl (.inl rfl) (pe_op op_mod (pe_callTy cr_int (by rfl) z_int (by decide +kernel) (pa_cons (pe_op op_mulQ (pv 3) (pe_op op_addQ (pe_op op_addQ (pe_op op_fdivW (pv 3) pe_int) pe_int) (pe_ix (ix_seqK (K := T.K) rfl) (pv 0) pe_int (by intro _ _; rfl)))) pa_nil)) pe_int)) (pss_one (ps_ret (pe_op op_mod (pe_callTy cr_int (by rfl) z_int (by decide +kernel) (pa_cons (pe_op op_fdivW (pe_op op_mod (pe_callTy cr_int (by rfl) z_int (by decide +kernel) (pa_cons (pe_op op_mulQ (pv 3) (pe_op op_addQ (pe_op op_fdivW (pv 3) pe_int) pe_int)) pa_nil)) pe_int) pe_int) pa_nil)) (pv 1)))))))), fun D hrt hnx => ?_⟩
  have ok := okk1 hk0
  suffices hx : XS _ D F0 [some (vr p0), some (va T x1), none, none] (stt Ω [(k0, lstA T p0 (x0 : List Int))] []) by
    rw [show (stt Ω [(k0, lstA T p0 (x0 : List Int))] []) = Ω from stt_self (by simp [hk0])] at hx
    exact hx
  unfold M__law_draw at hm
  obtain ⟨z1, hz1, hm⟩ := bnd_some hm
  by_cases hc : (decide ((0 : Int) < z1)) = true
  · rw [if_pos hc] at hm
    refine xs_ifT (xt_eq (xt_test (T := T) (xe_gt (xe_ix (xe_var (i := 0) rfl) xe_int (isL_M (stt_get ok (i := 0) rfl)) hz1) xe_int)) hc) ?_
    obtain ⟨z2, hz2, hm⟩ := bnd_some hm
    obtain ⟨z3, hz3, hm⟩ := bnd_some hm
    obtain ⟨y4, hy4, hm⟩ := bnd_some hm
    refine xs_set (A := va T y4) (xe_eq (xe_mod (chkP_some hz3) (xe_int1 (xe_ix (xe_var (i := 0) rfl) xe_int (isL_M (stt_get ok (i := 0) rfl)) hz2)) (xe_var (i := 1) rfl)) (Option.some.inj hy4)) ?_
    show XS (tSeq _ _) _ _ [some (vr p0), some (va T x1), some (va T y4), none] (stt Ω [(k0, lstA T p0 (x0 : List Int))] [])
    obtain ⟨z5, hz5, hm⟩ := bnd_some hm
    obtain ⟨z6, hz6, hm⟩ := bnd_some hm
    obtain ⟨y7, hy7, hm⟩ := bnd_some hm
    obtain ⟨z8, hz8, hm⟩ := bnd_some hm
    refine xs_setL (xe_eq (xe_fdiv (chkP_some hz6) (xe_ix (xe_var (i := 0) rfl) xe_int (isL_M (stt_get ok (i := 0) rfl)) hz5) (xe_var (i := 1) rfl)) (Option.some.inj hy7)) (xe_var (i := 0) rfl) xe_int (stt_get ok (i := 0) rfl) hz8 ?_
    rw [(stt_set ok (i := 0) rfl)]
    show XS (tRet _) _ _ [some (vr p0), some (va T x1), some (va T y4), none] (stt Ω [(k0, lstA T p0 ((x0.set z8 y7) : List Int))] [])
    obtain rfl := Option.some.inj hm
    refine xs_ret (xe_var (i := 2) rfl) hrt.all
  · rw [if_neg hc] at hm
    refine xs_ifN (xt_eq (xt_test (T := T) (xe_gt (xe_ix (xe_var (i := 0) rfl) xe_int (isL_M (stt_get ok (i := 0) rfl)) hz1) xe_int)) (nt hc)) ?_
    show XS (tSeq _ _) _ _ [some (vr p0), some (va T x1), none, none] (stt Ω [(k0, lstA T p0 (x0 : List Int))] [])
    obtain ⟨z9, hz9, hm⟩ := bnd_some hm
    obtain ⟨y10, hy10, hm⟩ := bnd_some hm
    obtain ⟨z11, hz11, hm⟩ := bnd_some hm
    refine xs_setL (xe_eq (xe_add (xe_ix (xe_var (i := 0) rfl) xe_int (isL_M (stt_get ok (i := 0) rfl)) hz9) xe_int) (Option.some.inj hy10)) (xe_var (i := 0) rfl) xe_int (stt_get ok (i := 0) rfl) hz11 ?_
    rw [(stt_set ok (i := 0) rfl)]
    show XS (tSeq _ _) _ _ [some (vr p0), some (va T x1), none, none] (stt Ω [(k0, lstA T p0 ((x0.set z11 y10) : List Int))] [])
    obtain ⟨z12, hz12, hm⟩ := bnd_some hm
    obtain ⟨z13, hz13, hm⟩ := bnd_some hm
    obtain ⟨z14, hz14, hm⟩ := bnd_some hm
    obtain ⟨z15, hz15, hm⟩ := bnd_some hm
    obtain ⟨z16, hz16, hm⟩ := bnd_some hm
    obtain ⟨y17, hy17, hm⟩ := bnd_some hm
    refine xs_set (A := va T y17) (xe_eq (xe_mod (chkP_some hz16) (xe_int1 (xe_mul (chkP_some hz15) (xe_add (xe_add (xe_ix (xe_var (i := 0) rfl) xe_int (isL_M (stt_get ok (i := 0) rfl)) hz12) (xe_mul (chkP_some hz14) xe_int (xe_ix (xe_var (i := 0) rfl) xe_int (isL_M (stt_get ok (i := 0) rfl)) hz13))) xe_int) xe_int)) xe_int) (Option.some.inj hy17)) ?_
    show XS (tSeq _ _) _ _ [some (vr p0), some (va T x1), none, some (va T y17)] (stt Ω [(k0, lstA T p0 ((x0.set z11 y10) : List Int))] [])
    obtain ⟨z18, hz18, hm⟩ := bnd_some hm
    obtain ⟨z19, hz19, hm⟩ := bnd_some hm
    obtain ⟨z20, hz20, hm⟩ := bnd_some hm
    obtain ⟨z21, hz21, hm⟩ := bnd_some hm
    obtain ⟨y22, hy22, hm⟩ := bnd_some hm
    refine xs_set (A := va T y22) (xe_eq (xe_mod (chkP_some hz21) (xe_int1 (xe_mul (chkP_some hz20) (xe_var (i := 3) rfl) (xe_add (xe_add (xe_fdiv (chkP_some hz18) (xe_var (i := 3) rfl) xe_int) xe_int) (xe_ix (xe_var (i := 0) rfl) xe_int (isL_M (stt_get ok (i := 0) rfl)) hz19)))) xe_int) (Option.some.inj hy22)) ?_
    show XS (tRet _) _ _ [some (vr p0), some (va T x1), none, some (va T y22)] (stt Ω [(k0, lstA T p0 ((x0.set z11 y10) : List Int))] [])
    obtain ⟨z23, hz23, hm⟩ := bnd_some hm
    obtain ⟨z24, hz24, hm⟩ := bnd_some hm
    obtain ⟨z25, hz25, hm⟩ := bnd_some hm
    obtain ⟨z26, hz26, hm⟩ := bnd_some hm
    obtain ⟨z27, hz27, hm⟩ := bnd_some hm
    obtain rfl := Option.some.inj hm
    refine xs_ret (xe_mod (chkP_some hz27) (xe_int1 (xe_fdiv (chkP_some hz26) (xe_mod (chkP_some hz25) (xe_int1 (xe_mul (chkP_some hz24) (xe_var (i := 3) rfl) (xe_add (xe_fdiv (chkP_some hz23) (xe_var (i := 3) rfl) xe_int) xe_int))) xe_int) xe_int)) (xe_var (i := 1) rfl)) hrt.all
noncomputable def M__law_pick (x0 : List Int) (x1 : List Int) : Option (Int × List Int) :=
  (M__law_draw x0 (x1.length : Int)).bind fun z1 => (atI x1 z1.1).bind fun z2 => some (z2, z1.2)
def Pre__law_pick (T : TC) : PreT := fun As Ω R => ∃ (k0 : Nat) (p0 : Addr) (x0 : List Int) (x1 : List Int) (r : Int × List Int), As = [vr p0, va T (LF.mk x1)] ∧ Ω[k0]? = some (lstA T p0 x0) ∧ M__law_pick x0 x1 = some r ∧ R = RV (va T r.1) (stt Ω [(k0, lstA T p0 r.2)] [])
theorem sc__law_pick : FnScope ["_law_source_here", "_law_items"] ["_law_source_here", "_law_items"] (defScope s__law_pick) := ⟨rfl, rfl, rfl, by decide +kernel, rfl, by decide +kernel, by decide +kernel⟩
theorem ok__law_pick {f : Addr} {fd : FuncData} (F : Fun T.K "_law_pick" "_law_pick" s__law_pick f fd) (z_len : mg "len" = none) (c__law_draw : Cal P w T.K mg base 1 "_law_draw" ["_law_source_here", "_law_size"] (mkSp (Pre__law_draw T))) : FnOk P w T.K mg base CX0 2 f fd ["_law_source_here", "_law_items"] (mkSp (Pre__law_pick T)) := by
  refine fn_ok F sc__law_pick (fun As Ω R h => ?_) (fun cdv A outer s H E hr As Ω R F0 h => ?_)
  · obtain ⟨k0, p0, x0, x1, r, rfl, _⟩ := h
    rfl
  obtain ⟨k0, p0, x0, x1, r, rfl, hk0, hm, rfl⟩ := h
  refine ⟨_, (pss_one (ps_ret (pe_ix (ix_seqK (K := T.K) rfl) (pv 1) (pe_cal c__law_draw (hr.mono (by decide)) (by rfl) (pa_cons (pv 0) (pa_cons (pe_callB (cr_lenK (K := T.K) rfl) (by rfl) z_len PySem.boot_len (pa_cons (pv 1) pa_nil)) pa_nil))) (by intro _ _; rfl)))), fun D hrt hnx => ?_⟩
  have ok := okk1 hk0
  suffices hx : XS _ D F0 [some (vr p0), some (va T (LF.mk x1))] (stt Ω [(k0, lstA T p0 (x0 : List Int))] []) by
    rw [show (stt Ω [(k0, lstA T p0 (x0 : List Int))] []) = Ω from stt_self (by simp [hk0])] at hx
    exact hx
  unfold M__law_pick at hm
  obtain ⟨z1, hz1, hm⟩ := bnd_some hm
  obtain ⟨z2, hz2, hm⟩ := bnd_some hm
  obtain rfl := Option.some.inj hm
  refine xs_ret (xe_ix (xe_var (i := 1) rfl) (xe_call (xa_cons (xe_var (i := 0) rfl) (xa_cons (xe_lenL (xe_var (i := 1) rfl) isL_LF) xa_nil)) ⟨k0, p0, x0, (x1.length : Int), z1, rfl, (stt_get ok (i := 0) rfl), hz1, rfl⟩ (cal1 ok (i := 0) rfl)) isL_LF hz2) hrt.all
noncomputable def M__law_row (x0 : Int) (x1 : Int) : Option (List Int) :=
  (some ([] : List Int)).bind fun y1 => (whileM (ρ := Unit) (fun (s4 : Int × (List Int)) => some (decide ((0 : Int) < s4.1))) (fun (s4 : Int × (List Int)) => (chkP (CShl (1 : Int) x1)).bind fun z5 => (chkP (s4.2.length < sizeLine)).bind fun z6 => (chkP (0 ≤ x1)).bind fun z7 => (some (s4.1 / 2 ^ (x1).toNat)).bind fun y8 => some (Stp.nx (y8, (s4.2 ++ [(Builtin.bitAnd s4.1 (((1 : Int) * 2 ^ (x1).toNat) - (1 : Int)))])))) ((x0).natAbs + 1) (x0, y1)).bind fun z9 => (nxt z9).bind fun s10 => some s10.2
def Pre__law_row (T : TC) : PreT := fun As Ω R => ∃ (x0 : Int) (x1 : Int) (r : List Int), As = [va T x0, va T x1] ∧ M__law_row x0 x1 = some r ∧ R = RV (va T (LF.mk r)) (stt Ω [] [])
theorem sc__law_row : FnScope ["_law_number", "_law_wide", "_law_found"] ["_law_number", "_law_wide"] (defScope s__law_row) := ⟨rfl, rfl, rfl, by decide +kernel, rfl, by decide +kernel, by decide +kernel⟩
theorem ok__law_row {f : Addr} {fd : FuncData} (F : Fun T.K "_law_row" "_law_row" s__law_row f fd)  : FnOk P w T.K mg base CX0 2 f fd ["_law_number", "_law_wide"] (mkSp (Pre__law_row T)) := by
  refine fn_ok F sc__law_row (fun As Ω R h => ?_) (fun cdv A outer s H E hr As Ω R F0 h => ?_)
  · obtain ⟨x0, x1, r, rfl, _⟩ := h
    rfl
  obtain ⟨x0, x1, r, rfl, hm, rfl⟩ := h
  refine ⟨_, (pss_cons (ps_set (i := 2) sc__law_row.nd rfl (.inl rfl) (pe_lst pa_nil)) (pss_cons (ps_while PassesOwn.never (pt_cmpR op_gt (pv 0) pe_int (nomark _)) (pss_cons (ps_expr (pe_bm PySem.F.plainAttrs_list PySem.F.slot_list_append PySem.F.type_list_append mt_append (pv 2) (pa_cons (pe_op op_and (pv 0) (pe_op op_sub (pe_op op_shlW pe_int (pv 1)) pe_int)) pa_nil))) (pss_one (ps_set (i := 0) sc__law_row.nd rfl (.inl rfl) (pe_op op_shr (pv 0) (pv 1)))))) (pss_one (ps_ret (pv 2))))), fun D hrt hnx => ?_⟩
  have ok : Okk Ω [] := okk0
  suffices hx : XS _ D F0 [some (va T x0), some (va T x1), none] (stt Ω [] []) by
    rw [show (stt Ω [] []) = Ω from stt_self (by simp)] at hx
    exact hx
  unfold M__law_row at hm
  obtain ⟨y1, hy1, hm⟩ := bnd_some hm
  obtain rfl := Option.some.inj hy1
  refine xs_setO ((xn_lst (T := T) (l := ([] : List Int)) xa_nil (Nat.zero_le _))) (fun pp2 => ?_)
  show XS (tSeq _ _) _ _ [some (va T x0), some (va T x1), some (vr pp2)] (stt Ω [] [lstA T pp2 (([] : List Int) : List Int)])
  obtain ⟨z9, hz9, hm⟩ := bnd_some hm
  refine xs_whileS (fun (s4 : Int × (List Int)) => [some (va T s4.1), some (va T x1), some (vr pp2)]) (fun (s4 : Int × (List Int)) => (stt Ω [] [lstA T pp2 (s4.2 : List Int)])) (fun (_ : Unit) _ _ _ => False) hz9 (fun s4 v hc => ?_) (fun s4 s' hc0 hm F1 D1 e1 hD => ?_) (fun s10 es => ?_) (fun r1 es => ?_)
  · clear hm
    have hm := hc
    obtain rfl := Option.some.inj hm
    refine (xt_test (T := T) (xe_gt (xe_var (i := 0) rfl) xe_int))
  · clear hc0
    show XS (tSeq _ _) _ _ [some (va T s4.1), some (va T x1), some (vr pp2)] (stt Ω [] [lstA T pp2 (s4.2 : List Int)])
    obtain ⟨z5, hz5, hm⟩ := bnd_some hm
    obtain ⟨z6, hz6, hm⟩ := bnd_some hm
    refine xs_drop (xe_appE (stt_getL (j := 0) rfl) (stt_getL (j := 0) rfl) (xe_var (i := 2) rfl) (xe_band (xe_var (i := 0) rfl) (xe_sub (xe_shl (chkP_some hz5) xe_int (xe_var (i := 1) rfl)) xe_int)) (chkP_some hz6) (stt_setL (j := 0))) ?_
    show XS (tAsg _ _) _ _ [some (va T s4.1), some (va T x1), some (vr pp2)] (stt Ω [] [lstA T pp2 ((s4.2 ++ [(Builtin.bitAnd s4.1 (((1 : Int) * 2 ^ (x1).toNat) - (1 : Int)))]) : List Int)])
    obtain ⟨z7, hz7, hm⟩ := bnd_some hm
    obtain ⟨y8, hy8, hm⟩ := bnd_some hm
    refine xs_set1 (A := va T y8) (xe_eq (xe_shr (chkP_some hz7) (xe_var (i := 0) rfl) (xe_var (i := 1) rfl)) (Option.some.inj hy8)) ?_
    obtain rfl := Option.some.inj hm
    exact fun σ H n => hD.nx _ rfl σ H n
  · subst es
    obtain ⟨s2, hs2, hm⟩ := bnd_some hm
    cases hs2
    show XS (tRet _) _ _ [some (va T s10.1), some (va T x1), some (vr pp2)] (stt Ω [] [lstA T pp2 (s10.2 : List Int)])
    obtain rfl := Option.some.inj hm
    refine xs_fzJ (k := 2) (j := 0) rfl rfl ?_
    show XS _ _ _ [some (va T s10.1), some (va T x1), some (va T (LF.mk s10.2))] (stt Ω [] [nilA])
    exact xs_ret (xe_var (i := 2) rfl) hrt.all
  · subst es
    cases hm
noncomputable def M__law_box (x0 : List Int) : Option (MS × List Int) :=
  (M__law_draw x0 (23 : Int)).bind fun z1 => (M__law_pick z1.2 ([(8 : Int), (8 : Int), (9 : Int), (15 : Int), (30 : Int), ((8 : Int) + z1.1)] : List Int)).bind fun z2 => (M__law_draw z2.2 (9 : Int)).bind fun z3 => (chkP ((8 ≤ z2.1 ∧ z2.1 ≤ 30) ∧ 2 ≤ ((2 : Int) + z3.1) ∧ ((2 : Int) + z3.1) ≤ 1000)).bind fun z4 => some ((MS.fresh z2.1 ((2 : Int) + z3.1)), z3.2)
def Pre__law_box (T : TC) : PreT := fun As Ω R => ∃ (k0 : Nat) (p0 : Addr) (x0 : List Int) (r : MS × List Int), As = [vr p0] ∧ Ω[k0]? = some (lstA T p0 x0) ∧ M__law_box x0 = some r ∧ R = RN (stt Ω [(k0, lstA T p0 r.2)] []) (fun q => machA T q r.1)
theorem sc__law_box : FnScope ["_law_source_here"] ["_law_source_here"] (defScope s__law_box) := ⟨rfl, rfl, rfl, by decide +kernel, rfl, by decide +kernel, by decide +kernel⟩
theorem ok__law_box {f : Addr} {fd : FuncData} (F : Fun T.K "_law_box" "_law_box" s__law_box f fd) (c__law_draw : Cal P w T.K mg base 1 "_law_draw" ["_law_source_here", "_law_size"] (mkSp (Pre__law_draw T))) (c__law_pick : Cal P w T.K mg base 2 "_law_pick" ["_law_source_here", "_law_items"] (mkSp (Pre__law_pick T))) (c_Machine2 : CalC P w T.K mg base 3 "Machine" (T.C 0) ["self", "bits", "cutoff"] [] (mkSp (Pre_Machine T))) : FnOk P w T.K mg base CX0 5 f fd ["_law_source_here"] (mkSp (Pre__law_box T)) := by
  refine fn_ok F sc__law_box (fun As Ω R h => ?_) (fun cdv A outer s H E hr As Ω R F0 h => ?_)
  · obtain ⟨k0, p0, x0, r, rfl, _⟩ := h
    rfl
  obtain ⟨k0, p0, x0, r, rfl, hk0, hm, rfl⟩ := h
  refine ⟨_, (pss_one (ps_ret (pe_calC c_Machine2 (hr.mono (by decide)) (by rfl) (pa_cons (pe_cal c__law_pick (hr.mono (by decide)) (by rfl) (pa_cons (pv 0) (pa_cons (pe_lst (pa_cons pe_int (pa_cons pe_int (pa_cons pe_int (pa_cons pe_int (pa_cons pe_int (pa_cons (pe_op op_addQ pe_int (pe_cal c__law_draw (hr.mono (by decide)) (by rfl) (pa_cons (pv 0) (pa_cons pe_int pa_nil)))) pa_nil))))))) pa_nil))) (pa_cons (pe_op op_addQ pe_int (pe_cal c__law_draw (hr.mono (by decide)) (by rfl) (pa_cons (pv 0) (pa_cons pe_int pa_nil)))) pa_nil))))), fun D hrt hnx => ?_⟩
  have ok := okk1 hk0
  suffices hx : XS _ D F0 [some (vr p0)] (stt Ω [(k0, lstA T p0 (x0 : List Int))] []) by
    rw [show (stt Ω [(k0, lstA T p0 (x0 : List Int))] []) = Ω from stt_self (by simp [hk0])] at hx
    exact hx
  unfold M__law_box at hm
  obtain ⟨z1, hz1, hm⟩ := bnd_some hm
  obtain ⟨z2, hz2, hm⟩ := bnd_some hm
  obtain ⟨z3, hz3, hm⟩ := bnd_some hm
  obtain ⟨z4, hz4, hm⟩ := bnd_some hm
  obtain rfl := Option.some.inj hm
  refine xs_ret (xn_make (Ds := []) (xa_cons (xe_call (xa_cons (xe_var (i := 0) rfl) (xa_cons (xe_lst (l := [(8 : Int), (8 : Int), (9 : Int), (15 : Int), (30 : Int), ((8 : Int) + z1.1)]) (xa_cons xe_int (xa_cons xe_int (xa_cons xe_int (xa_cons xe_int (xa_cons xe_int (xa_cons (xe_add xe_int (xe_call (xa_cons (xe_var (i := 0) rfl) (xa_cons xe_int xa_nil)) ⟨k0, p0, x0, (23 : Int), z1, rfl, (stt_get ok (i := 0) rfl), hz1, rfl⟩ (cal1 ok (i := 0) rfl))) xa_nil)))))) (by show 6 ≤ sizeLine; decide)) xa_nil)) ⟨k0, p0, z1.2, ([(8 : Int), (8 : Int), (9 : Int), (15 : Int), (30 : Int), ((8 : Int) + z1.1)] : List Int), z2, rfl, (stt_get ok (i := 0) rfl), hz2, rfl⟩ (cal1 ok (i := 0) rfl)) (xa_cons (xe_add xe_int (xe_call (xa_cons (xe_var (i := 0) rfl) (xa_cons xe_int xa_nil)) ⟨k0, p0, z2.2, (9 : Int), z3, rfl, (stt_get ok (i := 0) rfl), hz3, rfl⟩ (cal1 ok (i := 0) rfl))) xa_nil)) (fun _ => .nil) (fun q => ⟨_, q, z2.1, ((2 : Int) + z3.1), rfl, chkP_some hz4, rfl, rfl⟩)) (RT.allN hrt)
noncomputable def M__law_signed (x0 : List Int) (x1 : Int) : Option (Int × List Int) :=
  (M__law_draw x0 (3 : Int)).bind fun z1 => (atI ([(1 : Int), (1 : Int), (-(1 : Int))] : List Int) z1.1).bind fun z2 => (chkP (IntMulOk x1 z2)).bind fun z3 => some ((x1 * z2), z1.2)
def Pre__law_signed (T : TC) : PreT := fun As Ω R => ∃ (k0 : Nat) (p0 : Addr) (x0 : List Int) (x1 : Int) (r : Int × List Int), As = [vr p0, va T x1] ∧ Ω[k0]? = some (lstA T p0 x0) ∧ M__law_signed x0 x1 = some r ∧ R = RV (va T r.1) (stt Ω [(k0, lstA T p0 r.2)] [])
theorem sc__law_signed : FnScope ["_law_source_here", "_law_number"] ["_law_source_here", "_law_number"] (defScope s__law_signed) := ⟨rfl, rfl, rfl, by decide +kernel, rfl, by decide +kernel, by decide +kernel⟩
theorem ok__law_signed {f : Addr} {fd : FuncData} (F : Fun T.K "_law_signed" "_law_signed" s__law_signed f fd) (c__law_draw : Cal P w T.K mg base 1 "_law_draw" ["_law_source_here", "_law_size"] (mkSp (Pre__law_draw T))) : FnOk P w T.K mg base CX0 2 f fd ["_law_source_here", "_law_number"] (mkSp (Pre__law_signed T)) := by
  refine fn_ok F sc__law_signed (fun As Ω R h => ?_) (fun cdv A outer s H E hr As Ω R F0 h => ?_)
  · obtain ⟨k0, p0, x0, x1, r, rfl, _⟩ := h
    rfl
  obtain ⟨k0, p0, x0, x1, r, rfl, hk0, hm, rfl⟩ := h
  refine ⟨_, (pss_one (ps_ret (pe_op op_mulQ (pv 1) (pe_ix (ix_seqK (K := T.K) rfl) (pe_lst (pa_cons pe_int (pa_cons pe_int (pa_cons (pe_un un_neg pe_int) pa_nil)))) (pe_cal c__law_draw (hr.mono (by decide)) (by rfl) (pa_cons (pv 0) (pa_cons pe_int pa_nil))) (by intro _ _; rfl))))), fun D hrt hnx => ?_⟩
  have ok := okk1 hk0
  suffices hx : XS _ D F0 [some (vr p0), some (va T x1)] (stt Ω [(k0, lstA T p0 (x0 : List Int))] []) by
    rw [show (stt Ω [(k0, lstA T p0 (x0 : List Int))] []) = Ω from stt_self (by simp [hk0])] at hx
    exact hx
  unfold M__law_signed at hm
  obtain ⟨z1, hz1, hm⟩ := bnd_some hm
  obtain ⟨z2, hz2, hm⟩ := bnd_some hm
  obtain ⟨z3, hz3, hm⟩ := bnd_some hm
  obtain rfl := Option.some.inj hm
  refine xs_ret (xe_mul (chkP_some hz3) (xe_var (i := 1) rfl) (xe_ix (xe_lst (l := [(1 : Int), (1 : Int), (-(1 : Int))]) (xa_cons xe_int (xa_cons xe_int (xa_cons (xe_neg xe_int) xa_nil))) (by show 3 ≤ sizeLine; decide)) (xe_call (xa_cons (xe_var (i := 0) rfl) (xa_cons xe_int xa_nil)) ⟨k0, p0, x0, (3 : Int), z1, rfl, (stt_get ok (i := 0) rfl), hz1, rfl⟩ (cal1 ok (i := 0) rfl)) isL_LF hz2)) hrt.all
noncomputable def M__law_due_of (x0 : DF) : Option DF :=
  (chkP ((x0.l.map (·.1)).length ≤ sizeLine)).bind fun z1 => (lcM (fun (a3 : Str) (s2 : Unit) => (x0.l.lookup a3).bind fun z4 => if (!decide (z4 = (0 : Int))) = true then (x0.l.lookup a3).bind fun z5 => some (some (a3, z5), ()) else some (none, ())) (x0.l.map (·.1)) ()).bind fun z6 => (chkP ((z6.1.map (·.1)).Nodup)).bind fun z8 => some (DF.mk z6.1)
def Pre__law_due_of (T : TC) : PreT := fun As Ω R => ∃ (x0 : DF) (r : DF), As = [va T x0] ∧ M__law_due_of x0 = some r ∧ R = RV (va T r) (stt Ω [] [])
theorem sc__law_due_of : FnScope ["_law_counts", "_law_word"] ["_law_counts"] (defScope s__law_due_of) := ⟨rfl, rfl, rfl, by decide +kernel, rfl, by decide +kernel, by decide +kernel⟩
theorem ok__law_due_of {f : Addr} {fd : FuncData} (F : Fun T.K "_law_due_of" "_law_due_of" s__law_due_of f fd) (z_dict : mg "dict" = none) : FnOk P w T.K mg base CX0 1 f fd ["_law_counts"] (mkSp (Pre__law_due_of T)) := by
  refine fn_ok F sc__law_due_of (fun As Ω R h => ?_) (fun cdv A outer s H E hr As Ω R F0 h => ?_)
  · obtain ⟨x0, r, rfl, _⟩ := h
    rfl
  obtain ⟨x0, r, rfl, hm, rfl⟩ := h
  refine ⟨_, (pss_one (ps_ret (pe_fz (pe_callTy (cr_dictPK (K := T.K) rfl rfl) (by rfl) z_dict (by decide +kernel) (pa_cons (pe_lc (own := [("_law_word", 1)]) rfl sc__law_due_of.nd (pi_keys (pv 0)) (blkOk_by (N := ["_law_counts", "_law_word"]) (sc := defScope s__law_due_of) (by decide +kernel)) (fun _ _ _ _ _ => (pg_name (i := 1) sc__law_due_of.nd rfl (.inl rfl))) (fun _ _ _ _ _ => (pts_one (pt_cmpR (op_neXK (K := T.K) (by exact hr.units) rfl) (pe_dget (by exact hu_of hr) (pv 0) (pv 1) (by intro _ _; rfl)) pe_int (nomark _)))) (fun _ _ _ _ _ => (pe_tup (pa_cons (pv 1) (pa_cons (pe_dget (by exact hu_of hr) (pv 0) (pv 1) (by intro _ _; rfl)) pa_nil))))) pa_nil))))), fun D hrt hnx => ?_⟩
  have ok : Okk Ω [] := okk0
  suffices hx : XS _ D F0 [some (va T x0), none] (stt Ω [] []) by
    rw [show (stt Ω [] []) = Ω from stt_self (by simp)] at hx
    exact hx
  unfold M__law_due_of at hm
  obtain ⟨z1, hz1, hm⟩ := bnd_some hm
  obtain ⟨z6, hz6, hm⟩ := bnd_some hm
  obtain ⟨z8, hz8, hm⟩ := bnd_some hm
  obtain rfl := Option.some.inj hm
  refine xs_ret (xe_dictP (xe_fz (xn_lcS (T := T) (fun (s2 : Unit) => []) (fun (s2 : Unit) => []) hz6 (xi_keys (xe_var (i := 0) rfl)) (fun _ => tgt_name) (by simp) (chkP_some hz1) ?q7)) isL_LF (chkP_some hz8)) hrt.all
  case q7 =>
    exact (fun a3 s2 o s2 ha hm X => by
      obtain ⟨z4, hz4, hm⟩ := bnd_some hm
      by_cases hc : (!decide (z4 = (0 : Int))) = true
      · rw [if_pos hc] at hm
        obtain ⟨z5, hz5, hm⟩ := bnd_some hm
        obtain ⟨rfl, rfl⟩ := Prod.mk.inj (Option.some.inj hm)
        refine ⟨(fun e => nomatch e), fun y e => ?_⟩
        obtain rfl := Option.some.inj e
        refine ⟨xt_eq (xt_test (T := T) (xe_neI (xe_dget (xe_var (i := 0) rfl) (xe_var (i := 1) rfl) hz4) xe_int)) hc, (xe_tup2 (xa_cons (xe_var (i := 1) rfl) (xa_cons (xe_dget (xe_var (i := 0) rfl) (xe_var (i := 1) rfl) hz5) xa_nil)))⟩
      · rw [if_neg hc] at hm
        obtain ⟨rfl, rfl⟩ := Prod.mk.inj (Option.some.inj hm)
        exact ⟨fun _ => xt_eq (xt_test (T := T) (xe_neI (xe_dget (xe_var (i := 0) rfl) (xe_var (i := 1) rfl) hz4) xe_int)) (nt hc), fun y e => nomatch e⟩)
noncomputable def M__law_long (x0 : Int) (x1 : Int) (x2 : Int) : Option (List (T4 Int Int Bool Int)) :=
  (M__law_row x0 x2).bind fun z1 => (M__law_row x1 x2).bind fun z2 => (chkP (CShl (1 : Int) x2)).bind fun z3 => (some (z2.length : Int)).bind fun y4 => (some (((1 : Int) * 2 ^ (x2).toNat) - (1 : Int))).bind fun y5 => (chkP (IntMulOk x2 y4)).bind fun z6 => (some ((x2 * y4) - ((Builtin.Int.intBits x1 : Nat) : Int))).bind fun y7 => (chkP (CShl x0 y7)).bind fun z8 => (chkP (CShl x1 y7)).bind fun z9 => (some (x0 * 2 ^ (y7).toNat)).bind fun y10 => (some (x1 * 2 ^ (y7).toNat)).bind fun y11 => (chkP (IntMulOk x2 ((z1.length : Int) - (1 : Int)))).bind fun z12 => (chkP (0 ≤ (x2 * ((z1.length : Int) - (1 : Int))))).bind fun z13 => (chkP (IntMulOk x2 (y4 - (1 : Int)))).bind fun z14 => (chkP (0 ≤ (x2 * (y4 - (1 : Int))))).bind fun z15 => (some (if (decide ((y11 / 2 ^ ((x2 * (y4 - (1 : Int)))).toNat) ≤ (y10 / 2 ^ ((x2 * ((z1.length : Int) - (1 : Int)))).toNat))) = true then (1 : Int) else 0)).bind fun y16 => (chkP (IntMulOk x2 (y4 - (1 : Int)))).bind fun z17 => (chkP (0 ≤ (x2 * (y4 - (1 : Int))))).bind fun z18 => (chkP (IntMulOk x2 (y4 - (2 : Int)))).bind fun z19 => (chkP (0 ≤ (x2 * (y4 - (2 : Int))))).bind fun z20 => (some (y11 / 2 ^ ((x2 * (y4 - (1 : Int)))).toNat)).bind fun y21 => (some (y11 / 2 ^ ((x2 * (y4 - (2 : Int)))).toNat)).bind fun y22 => (some (Builtin.bitAnd y22 y5)).bind fun y23 => (some ([] : List (T4 Int Int Bool Int))).bind fun y24 => (chkP (-(2 ^ 62) ≤ ((((z1.length : Int) + y16) - y4) - (1 : Int)) ∧ ((((z1.length : Int) + y16) - y4) - (1 : Int)) < 2 ^ 62 ∧ -(2 ^ 62) ≤ (-(1 : Int)) ∧ (-(1 : Int)) < 2 ^ 62)).bind fun z27 => (forM' (ρ := Unit) (fun (a29 : Int) (s28 : Int × (List (T4 Int Int Bool Int))) => (chkP (IntMulOk x2 ((a29 + y4) - (1 : Int)))).bind fun z30 => (chkP (0 ≤ (x2 * ((a29 + y4) - (1 : Int))))).bind fun z31 => (some (s28.1 / 2 ^ ((x2 * ((a29 + y4) - (1 : Int)))).toNat)).bind fun y32 => (chkP (CDivP y32 y21)).bind fun z33 => (chkP (0 < y21)).bind fun z34 => (some (y32 / y21)).bind fun y35 => (some (y32 % y21)).bind fun y36 => (chkP (IntMulOk x2 ((a29 + y4) - (2 : Int)))).bind fun z37 => (chkP (0 ≤ (x2 * ((a29 + y4) - (2 : Int))))).bind fun z38 => (some (Builtin.bitAnd (s28.1 / 2 ^ ((x2 * ((a29 + y4) - (2 : Int)))).toNat) y5)).bind fun y39 => (whileM (ρ := Unit) (fun (s40 : Int × Int) => (chkP (0 ≤ x2)).bind fun z41 => (if (decide ((s40.2 / 2 ^ (x2).toNat) = (0 : Int))) = true then (chkP (IntMulOk y23 (y35 - s40.1))).bind fun z42 => (chkP (CShl s40.2 x2)).bind fun z43 => some (decide (((s40.2 * 2 ^ (x2).toNat) + y39) < (y23 * (y35 - s40.1)))) else some false).bind fun z44 => some z44) (fun (s40 : Int × Int) => (some (s40.1 + (1 : Int))).bind fun y46 => (some (s40.2 + y21)).bind fun y47 => some (Stp.nx (y46, y47))) (4) ((0 : Int), y36)).bind fun z48 => (nxt z48).bind fun s49 => (chkP (IntMulOk x2 a29)).bind fun z50 => (chkP (CShl y11 (x2 * a29))).bind fun z51 => (chkP (CDivP s28.1 (y11 * 2 ^ ((x2 * a29)).toNat))).bind fun z52 => (some (s28.1 / (y11 * 2 ^ ((x2 * a29)).toNat))).bind fun y53 => (chkP (s28.2.length < sizeLine)).bind fun z54 => (chkP (IntMulOk x2 a29)).bind fun z55 => (chkP (CShl y11 (x2 * a29))).bind fun z56 => (chkP (IntMulOk y53 (y11 * 2 ^ ((x2 * a29)).toNat))).bind fun z57 => (some (s28.1 - (y53 * (y11 * 2 ^ ((x2 * a29)).toNat)))).bind fun y58 => some (Stp.nx (y58, (s28.2 ++ [(T4.mk y35 s49.1 (decide (y53 < (y35 - s49.1))) y53)])))) (rngD ((((z1.length : Int) + y16) - y4) - (1 : Int)) (((((z1.length : Int) + y16) - y4) - (1 : Int)) - (-(1 : Int))).toNat) (y10, y24)).bind fun z59 => (nxt z59).bind fun s60 => some s60.2
def Pre__law_long (T : TC) : PreT := fun As Ω R => ∃ (x0 : Int) (x1 : Int) (x2 : Int) (r : List (T4 Int Int Bool Int)), As = [va T x0, va T x1, va T x2] ∧ M__law_long x0 x1 x2 = some r ∧ R = RV (va T (LF.mk r)) (stt Ω [] [])
theorem sc__law_long : FnScope ["_law_size", "_law_other", "_law_wide", "_law_row_here", "_law_many", "_law_mask", "_law_by", "_law_rest", "_law_base", "_law_wider", "_law_high", "_law_second", "_law_found", "_law_place", "_law_two_here", "_law_guess", "_law_left", "_law_less", "_law_third", "_law_digit"] ["_law_size", "_law_other", "_law_wide"] (defScope s__law_long) := ⟨rfl, rfl, rfl, by decide +kernel, rfl, by decide +kernel, by decide +kernel⟩
theorem ok__law_long {f : Addr} {fd : FuncData} (F : Fun T.K "_law_long" "_law_long" s__law_long f fd) (c__law_row : Cal P w T.K mg base 2 "_law_row" ["_law_number", "_law_wide"] (mkSp (Pre__law_row T))) (z_len : mg "len" = none) (z_int : mg "int" = none) (z_range : mg "range" = none) : FnOk P w T.K mg base CX0 3 f fd ["_law_size", "_law_other", "_law_wide"] (mkSp (Pre__law_long T)) := by
  refine fn_ok F sc__law_long (fun As Ω R h => ?_) (fun cdv A outer s H E hr As Ω R F0 h => ?_)
  · obtain ⟨x0, x1, x2, r, rfl, _⟩ := h
    rfl
  obtain ⟨x0, x1, x2, r, rfl, hm, rfl⟩ := h
  refine ⟨_, (pss_cons (ps_par3 (i := 3) (j := 4) (l := 5) rfl sc__law_long.nd rfl rfl rfl (by decide) (by decide) (by decide) rfl rfl rfl (pa_cons (pe_cal c__law_row (hr.mono (by decide)) (by rfl) (pa_cons (pv 0) (pa_cons (pv 2) pa_nil))) (pa_cons (pe_callB (cr_lenK (K := T.K) rfl) (by rfl) z_len PySem.boot_len (pa_cons (pe_cal c__law_row (hr.mono (by decide)) (by rfl) (pa_cons (pv 1) (pa_cons (pv 2) pa_nil))) pa_nil)) (pa_cons (pe_op op_sub (pe_op op_shlW pe_int (pv 2)) pe_int) pa_nil))) (by rfl)) (pss_cons (ps_set (i := 6) sc__law_long.nd rfl (.inl rfl) (pe_op op_sub (pe_op op_mulQ (pv 2) (pv 4)) (pe_bits (pv 1)))) (pss_cons (ps_par (i := 7) (j := 8) rfl sc__law_long.nd rfl rfl (by decide) rfl rfl (pa_cons (pe_op op_shlW (pv 0) (pv 6)) (pa_cons (pe_op op_shlW (pv 1) (pv 6)) pa_nil)) (by rfl)) (pss_cons (ps_set (i := 9) sc__law_long.nd rfl (.inl rfl) (pe_callTy cr_int (by rfl) z_int (by decide +kernel) (pa_cons (pe_cmpR op_ge (pe_op op_shr (pv 7) (pe_op op_mulQ (pv 2) (pe_op op_sub (pe_callB (cr_lenK (K := T.K) rfl) (by rfl) z_len PySem.boot_len (pa_cons (pv 3) pa_nil)) pe_int))) (pe_op op_shr (pv 8) (pe_op op_mulQ (pv 2) (pe_op op_sub (pv 4) pe_int))) (nomark _)) pa_nil))) (pss_cons (ps_par (i := 10) (j := 11) rfl sc__law_long.nd rfl rfl (by decide) rfl rfl (pa_cons (pe_op op_shr (pv 8) (pe_op op_mulQ (pv 2) (pe_op op_sub (pv 4) pe_int))) (pa_cons (pe_op op_shr (pv 8) (pe_op op_mulQ (pv 2) (pe_op op_sub (pv 4) pe_int))) pa_nil)) (by rfl)) (pss_cons (ps_par (i := 11) (j := 12) rfl sc__law_long.nd rfl rfl (by decide) rfl rfl (pa_cons (pe_op op_and (pv 11) (pv 5)) (pa_cons (pe_lst pa_nil) pa_nil)) (by rfl)) (pss_cons (ps_for PassesOwn.never rfl (pi_range3 rfl z_range (pa_cons (pe_op op_sub (pe_op op_sub (pe_op op_addQ (pe_callB (cr_lenK (K := T.K) rfl) (by rfl) z_len PySem.boot_len (pa_cons (pv 3) pa_nil)) (pv 9)) (pv 4)) pe_int) (pa_cons (pe_un un_neg pe_int) (pa_cons (pe_un un_neg pe_int) pa_nil)))) (pg_name (i := 13) sc__law_long.nd rfl (.inl rfl)) (pss_cons (ps_set (i := 14) sc__law_long.nd rfl (.inl rfl) (pe_op op_shr (pv 7) (pe_op op_mulQ (pv 2) (pe_op op_sub (pe_op op_addQ (pv 13) (pv 4)) pe_int)))) (pss_cons (ps_par3 (i := 15) (j := 16) (l := 17) rfl sc__law_long.nd rfl rfl rfl (by decide) (by decide) (by decide) rfl rfl rfl (pa_cons (pe_op op_fdivP (pv 14) (pv 10)) (pa_cons (pe_op op_mod (pe_callTy cr_int (by rfl) z_int (by decide +kernel) (pa_cons (pv 14) pa_nil)) (pv 10)) (pa_cons pe_int pa_nil))) (by rfl)) (pss_cons (ps_set (i := 18) sc__law_long.nd rfl (.inl rfl) (pe_op op_and (pe_op op_shr (pv 7) (pe_op op_mulQ (pv 2) (pe_op op_sub (pe_op op_addQ (pv 13) (pv 4)) pe_int))) (pv 5))) (pss_cons (ps_while PassesOwn.never (PW.pt (pw_and (pt_cmpR (op_eqXK (K := T.K) (by exact hr.units) rfl) (pe_op op_shr (pv 16) (pv 2)) pe_int (nomark _)) (pw_and1 (pt_cmpR op_gt (pe_op op_mulQ (pv 11) (pe_op op_sub (pv 15) (pv 17))) (pe_op op_addQ (pe_op op_shlW (pv 16) (pv 2)) (pv 18)) (nomark _))))) (pss_one (ps_par (i := 17) (j := 16) rfl sc__law_long.nd rfl rfl (by decide) rfl rfl (pa_cons (pe_op op_addQ (pv 17) pe_int) (pa_cons (pe_op op_addQ (pv 16) (pv 10)) pa_nil)) (by rfl)))) (pss_cons (ps_set (i := 19) sc__law_long.nd rfl (.inl rfl) (pe_op op_fdivP (pv 7) (pe_op op_shlW (pv 8) (pe_op op_mulQ (pv 2) (pv 13))))) (pss_cons (ps_expr (pe_bm PySem.F.plainAttrs_list PySem.F.slot_list_append PySem.F.type_list_append mt_append (pv 12) (pa_cons (pe_tup (pa_cons (pv 15) (pa_cons (pv 17) (pa_cons (pe_cmpR op_gt (pe_op op_sub (pv 15) (pv 17)) (pv 19) (nomark _)) (pa_cons (pv 19) pa_nil))))) pa_nil))) (pss_one (ps_set (i := 7) sc__law_long.nd rfl (.inl rfl) (pe_op op_sub (pv 7) (pe_op op_mulQ (pv 19) (pe_op op_shlW (pv 8) (pe_op op_mulQ (pv 2) (pv 13)))))))))))))) (pss_one (ps_ret (pv 12)))))))))), fun D hrt hnx => ?_⟩
  have ok : Okk Ω [] := okk0
  suffices hx : XS _ D F0 [some (va T x0), some (va T x1), some (va T x2), none, none, none, none, none, none, none, none, none, none, none, none, none, none, none, none, none] (stt Ω [] []) by
    rw [show (stt Ω [] []) = Ω from stt_self (by simp)] at hx
    exact hx
  unfold M__law_long at hm
  obtain ⟨z1, hz1, hm⟩ := bnd_some hm
  obtain ⟨z2, hz2, hm⟩ := bnd_some hm
  obtain ⟨z3, hz3, hm⟩ := bnd_some hm
  obtain ⟨y4, hy4, hm⟩ := bnd_some hm
  obtain ⟨y5, hy5, hm⟩ := bnd_some hm
  refine xs_par3 (A := va T (LF.mk z1)) (B := va T y4) (C := va T y5) (xa_cons (xe_call (xa_cons (xe_var (i := 0) rfl) (xa_cons (xe_var (i := 2) rfl) xa_nil)) ⟨x0, x2, z1, rfl, hz1, rfl⟩ cal0) (xa_cons (xe_eq (xe_lenL (xe_call (xa_cons (xe_var (i := 1) rfl) (xa_cons (xe_var (i := 2) rfl) xa_nil)) ⟨x1, x2, z2, rfl, hz2, rfl⟩ cal0) isL_LF) (Option.some.inj hy4)) (xa_cons (xe_eq (xe_sub (xe_shl (chkP_some hz3) xe_int (xe_var (i := 2) rfl)) xe_int) (Option.some.inj hy5)) xa_nil))) ?_
  show XS (tSeq _ _) _ _ [some (va T x0), some (va T x1), some (va T x2), some (va T (LF.mk z1)), some (va T y4), some (va T y5), none, none, none, none, none, none, none, none, none, none, none, none, none, none] (stt Ω [] [])
  obtain ⟨z6, hz6, hm⟩ := bnd_some hm
  obtain ⟨y7, hy7, hm⟩ := bnd_some hm
  refine xs_set (A := va T y7) (xe_eq (xe_sub (xe_mul (chkP_some hz6) (xe_var (i := 2) rfl) (xe_var (i := 4) rfl)) (xe_bits (xe_var (i := 1) rfl))) (Option.some.inj hy7)) ?_
  show XS (tSeq _ _) _ _ [some (va T x0), some (va T x1), some (va T x2), some (va T (LF.mk z1)), some (va T y4), some (va T y5), some (va T y7), none, none, none, none, none, none, none, none, none, none, none, none, none] (stt Ω [] [])
  obtain ⟨z8, hz8, hm⟩ := bnd_some hm
  obtain ⟨z9, hz9, hm⟩ := bnd_some hm
  obtain ⟨y10, hy10, hm⟩ := bnd_some hm
  obtain ⟨y11, hy11, hm⟩ := bnd_some hm
  refine xs_par2 (A := va T y10) (B := va T y11) (xa_cons (xe_eq (xe_shl (chkP_some hz8) (xe_var (i := 0) rfl) (xe_var (i := 6) rfl)) (Option.some.inj hy10)) (xa_cons (xe_eq (xe_shl (chkP_some hz9) (xe_var (i := 1) rfl) (xe_var (i := 6) rfl)) (Option.some.inj hy11)) xa_nil)) ?_
  show XS (tSeq _ _) _ _ [some (va T x0), some (va T x1), some (va T x2), some (va T (LF.mk z1)), some (va T y4), some (va T y5), some (va T y7), some (va T y10), some (va T y11), none, none, none, none, none, none, none, none, none, none, none] (stt Ω [] [])
  obtain ⟨z12, hz12, hm⟩ := bnd_some hm
  obtain ⟨z13, hz13, hm⟩ := bnd_some hm
  obtain ⟨z14, hz14, hm⟩ := bnd_some hm
  obtain ⟨z15, hz15, hm⟩ := bnd_some hm
  obtain ⟨y16, hy16, hm⟩ := bnd_some hm
  refine xs_set (A := va T y16) (xe_eq (xe_intb (xe_ge (xe_shr (chkP_some hz13) (xe_var (i := 7) rfl) (xe_mul (chkP_some hz12) (xe_var (i := 2) rfl) (xe_sub (xe_lenL (xe_var (i := 3) rfl) isL_LF) xe_int))) (xe_shr (chkP_some hz15) (xe_var (i := 8) rfl) (xe_mul (chkP_some hz14) (xe_var (i := 2) rfl) (xe_sub (xe_var (i := 4) rfl) xe_int))))) (Option.some.inj hy16)) ?_
  show XS (tSeq _ _) _ _ [some (va T x0), some (va T x1), some (va T x2), some (va T (LF.mk z1)), some (va T y4), some (va T y5), some (va T y7), some (va T y10), some (va T y11), some (va T y16), none, none, none, none, none, none, none, none, none, none] (stt Ω [] [])
  obtain ⟨z17, hz17, hm⟩ := bnd_some hm
  obtain ⟨z18, hz18, hm⟩ := bnd_some hm
  obtain ⟨z19, hz19, hm⟩ := bnd_some hm
  obtain ⟨z20, hz20, hm⟩ := bnd_some hm
  obtain ⟨y21, hy21, hm⟩ := bnd_some hm
  obtain ⟨y22, hy22, hm⟩ := bnd_some hm
  refine xs_par2 (A := va T y21) (B := va T y22) (xa_cons (xe_eq (xe_shr (chkP_some hz18) (xe_var (i := 8) rfl) (xe_mul (chkP_some hz17) (xe_var (i := 2) rfl) (xe_sub (xe_var (i := 4) rfl) xe_int))) (Option.some.inj hy21)) (xa_cons (xe_eq (xe_shr (chkP_some hz20) (xe_var (i := 8) rfl) (xe_mul (chkP_some hz19) (xe_var (i := 2) rfl) (xe_sub (xe_var (i := 4) rfl) xe_int))) (Option.some.inj hy22)) xa_nil)) ?_
  show XS (tSeq _ _) _ _ [some (va T x0), some (va T x1), some (va T x2), some (va T (LF.mk z1)), some (va T y4), some (va T y5), some (va T y7), some (va T y10), some (va T y11), some (va T y16), some (va T y21), some (va T y22), none, none, none, none, none, none, none, none] (stt Ω [] [])
  obtain ⟨y23, hy23, hm⟩ := bnd_some hm
  obtain ⟨y24, hy24, hm⟩ := bnd_some hm
  obtain rfl := Option.some.inj hy24
  refine xs_parVN (A := va T y23) (xe_eq (xe_band (xe_var (i := 11) rfl) (xe_var (i := 5) rfl)) (Option.some.inj hy23)) (xn_lst (T := T) (l := ([] : List (T4 Int Int Bool Int))) xa_nil (Nat.zero_le _)) (fun pp25 => ?_)
  show XS (tSeq _ _) _ _ [some (va T x0), some (va T x1), some (va T x2), some (va T (LF.mk z1)), some (va T y4), some (va T y5), some (va T y7), some (va T y10), some (va T y11), some (va T y16), some (va T y21), some (va T y23), some (vr pp25), none, none, none, none, none, none, none] (stt Ω [] [lstA T pp25 (([] : List (T4 Int Int Bool Int)) : List (T4 Int Int Bool Int))])
  obtain ⟨z27, hz27, hm⟩ := bnd_some hm
  obtain ⟨z59, hz59, hm⟩ := bnd_some hm
  refine xs_forS (fun (s28 : Int × (List (T4 Int Int Bool Int))) => [some (va T x0), some (va T x1), some (va T x2), some (va T (LF.mk z1)), some (va T y4), some (va T y5), some (va T y7), some (va T s28.1), some (va T y11), some (va T y16), some (va T y21), some (va T y23), some (vr pp25), none, none, none, none, none, none, none]) (fun (s28 : Int × (List (T4 Int Int Bool Int))) => (stt Ω [] [lstA T pp25 (s28.2 : List (T4 Int Int Bool Int))])) (fun (_ : Unit) _ _ _ => False) hz59 (xi_range3 (T := T) (xa_cons (xe_sub (xe_sub (xe_add (xe_lenL (xe_var (i := 3) rfl) isL_LF) (xe_var (i := 9) rfl)) (xe_var (i := 4) rfl)) xe_int) (xa_cons (xe_neg xe_int) (xa_cons (xe_neg xe_int) xa_nil))) (chkP_some hz27)) (fun _ => tgt_name) (fun a29 s28 s' ha hm F1 D1 e1 hD => ?_) (fun s60 es => ?_) (fun r1 es => ?_)
  · show XS (tSeq _ _) _ _ [some (va T x0), some (va T x1), some (va T x2), some (va T (LF.mk z1)), some (va T y4), some (va T y5), some (va T y7), some (va T s28.1), some (va T y11), some (va T y16), some (va T y21), some (va T y23), some (vr pp25), some (va T a29), none, none, none, none, none, none] (stt Ω [] [lstA T pp25 (s28.2 : List (T4 Int Int Bool Int))])
    obtain ⟨z30, hz30, hm⟩ := bnd_some hm
    obtain ⟨z31, hz31, hm⟩ := bnd_some hm
    obtain ⟨y32, hy32, hm⟩ := bnd_some hm
    refine xs_set (A := va T y32) (xe_eq (xe_shr (chkP_some hz31) (xe_var (i := 7) rfl) (xe_mul (chkP_some hz30) (xe_var (i := 2) rfl) (xe_sub (xe_add (xe_var (i := 13) rfl) (xe_var (i := 4) rfl)) xe_int))) (Option.some.inj hy32)) ?_
    show XS (tSeq _ _) _ _ [some (va T x0), some (va T x1), some (va T x2), some (va T (LF.mk z1)), some (va T y4), some (va T y5), some (va T y7), some (va T s28.1), some (va T y11), some (va T y16), some (va T y21), some (va T y23), some (vr pp25), some (va T a29), some (va T y32), none, none, none, none, none] (stt Ω [] [lstA T pp25 (s28.2 : List (T4 Int Int Bool Int))])
    obtain ⟨z33, hz33, hm⟩ := bnd_some hm
    obtain ⟨z34, hz34, hm⟩ := bnd_some hm
    obtain ⟨y35, hy35, hm⟩ := bnd_some hm
    obtain ⟨y36, hy36, hm⟩ := bnd_some hm
    refine xs_par3 (A := va T y35) (B := va T y36) (C := va T (0 : Int)) (xa_cons (xe_eq (xe_fdivP (chkP_some hz33) (xe_var (i := 14) rfl) (xe_var (i := 10) rfl)) (Option.some.inj hy35)) (xa_cons (xe_eq (xe_mod (chkP_some hz34) (xe_int1 (xe_var (i := 14) rfl)) (xe_var (i := 10) rfl)) (Option.some.inj hy36)) (xa_cons xe_int xa_nil))) ?_
    show XS (tSeq _ _) _ _ [some (va T x0), some (va T x1), some (va T x2), some (va T (LF.mk z1)), some (va T y4), some (va T y5), some (va T y7), some (va T s28.1), some (va T y11), some (va T y16), some (va T y21), some (va T y23), some (vr pp25), some (va T a29), some (va T y32), some (va T y35), some (va T y36), some (va T (0 : Int)), none, none] (stt Ω [] [lstA T pp25 (s28.2 : List (T4 Int Int Bool Int))])
    obtain ⟨z37, hz37, hm⟩ := bnd_some hm
    obtain ⟨z38, hz38, hm⟩ := bnd_some hm
    obtain ⟨y39, hy39, hm⟩ := bnd_some hm
    refine xs_set (A := va T y39) (xe_eq (xe_band (xe_shr (chkP_some hz38) (xe_var (i := 7) rfl) (xe_mul (chkP_some hz37) (xe_var (i := 2) rfl) (xe_sub (xe_add (xe_var (i := 13) rfl) (xe_var (i := 4) rfl)) xe_int))) (xe_var (i := 5) rfl)) (Option.some.inj hy39)) ?_
    show XS (tSeq _ _) _ _ [some (va T x0), some (va T x1), some (va T x2), some (va T (LF.mk z1)), some (va T y4), some (va T y5), some (va T y7), some (va T s28.1), some (va T y11), some (va T y16), some (va T y21), some (va T y23), some (vr pp25), some (va T a29), some (va T y32), some (va T y35), some (va T y36), some (va T (0 : Int)), some (va T y39), none] (stt Ω [] [lstA T pp25 (s28.2 : List (T4 Int Int Bool Int))])
    obtain ⟨z48, hz48, hm⟩ := bnd_some hm
    refine xs_whileS (fun (s40 : Int × Int) => [some (va T x0), some (va T x1), some (va T x2), some (va T (LF.mk z1)), some (va T y4), some (va T y5), some (va T y7), some (va T s28.1), some (va T y11), some (va T y16), some (va T y21), some (va T y23), some (vr pp25), some (va T a29), some (va T y32), some (va T y35), some (va T s40.2), some (va T s40.1), some (va T y39), none]) (fun (s40 : Int × Int) => (stt Ω [] [lstA T pp25 (s28.2 : List (T4 Int Int Bool Int))])) (fun (_ : Unit) _ _ _ => False) hz48 (fun s40 v hc => ?_) (fun s40 s' hc0 hm F1 D1 e1 hD => ?_) (fun s49 es => ?_) (fun r1 es => ?_)
    · clear hm
      have hm := hc
      obtain ⟨z41, hz41, hm⟩ := bnd_some hm
      obtain ⟨z44, hz44, hm⟩ := bnd_some hm
      obtain rfl := Option.some.inj hm
      refine (xt_andO (xt_test (T := T) (xe_eqI (xe_shr (chkP_some hz41) (xe_var (i := 16) rfl) (xe_var (i := 2) rfl)) xe_int)) hz44 ?q45)
      case q45 =>
        exact (fun v hm => by
          obtain ⟨z42, hz42, hm⟩ := bnd_some hm
          obtain ⟨z43, hz43, hm⟩ := bnd_some hm
          obtain rfl := Option.some.inj hm
          exact (xt_test (T := T) (xe_gt (xe_mul (chkP_some hz42) (xe_var (i := 11) rfl) (xe_sub (xe_var (i := 15) rfl) (xe_var (i := 17) rfl))) (xe_add (xe_shl (chkP_some hz43) (xe_var (i := 16) rfl) (xe_var (i := 2) rfl)) (xe_var (i := 18) rfl)))))
    · clear hc0
      show XS _ _ _ [some (va T x0), some (va T x1), some (va T x2), some (va T (LF.mk z1)), some (va T y4), some (va T y5), some (va T y7), some (va T s28.1), some (va T y11), some (va T y16), some (va T y21), some (va T y23), some (vr pp25), some (va T a29), some (va T y32), some (va T y35), some (va T s40.2), some (va T s40.1), some (va T y39), none] (stt Ω [] [lstA T pp25 (s28.2 : List (T4 Int Int Bool Int))])
      obtain ⟨y46, hy46, hm⟩ := bnd_some hm
      obtain ⟨y47, hy47, hm⟩ := bnd_some hm
      refine xs_par21 (A := va T y46) (B := va T y47) (xa_cons (xe_eq (xe_add (xe_var (i := 17) rfl) xe_int) (Option.some.inj hy46)) (xa_cons (xe_eq (xe_add (xe_var (i := 16) rfl) (xe_var (i := 10) rfl)) (Option.some.inj hy47)) xa_nil)) ?_
      obtain rfl := Option.some.inj hm
      exact fun σ H n => hD.nx _ rfl σ H n
    · subst es
      obtain ⟨s2, hs2, hm⟩ := bnd_some hm
      cases hs2
      show XS (tSeq _ _) _ _ [some (va T x0), some (va T x1), some (va T x2), some (va T (LF.mk z1)), some (va T y4), some (va T y5), some (va T y7), some (va T s28.1), some (va T y11), some (va T y16), some (va T y21), some (va T y23), some (vr pp25), some (va T a29), some (va T y32), some (va T y35), some (va T s49.2), some (va T s49.1), some (va T y39), none] (stt Ω [] [lstA T pp25 (s28.2 : List (T4 Int Int Bool Int))])
      obtain ⟨z50, hz50, hm⟩ := bnd_some hm
      obtain ⟨z51, hz51, hm⟩ := bnd_some hm
      obtain ⟨z52, hz52, hm⟩ := bnd_some hm
      obtain ⟨y53, hy53, hm⟩ := bnd_some hm
      refine xs_set (A := va T y53) (xe_eq (xe_fdivP (chkP_some hz52) (xe_var (i := 7) rfl) (xe_shl (chkP_some hz51) (xe_var (i := 8) rfl) (xe_mul (chkP_some hz50) (xe_var (i := 2) rfl) (xe_var (i := 13) rfl)))) (Option.some.inj hy53)) ?_
      show XS (tSeq _ _) _ _ [some (va T x0), some (va T x1), some (va T x2), some (va T (LF.mk z1)), some (va T y4), some (va T y5), some (va T y7), some (va T s28.1), some (va T y11), some (va T y16), some (va T y21), some (va T y23), some (vr pp25), some (va T a29), some (va T y32), some (va T y35), some (va T s49.2), some (va T s49.1), some (va T y39), some (va T y53)] (stt Ω [] [lstA T pp25 (s28.2 : List (T4 Int Int Bool Int))])
      obtain ⟨z54, hz54, hm⟩ := bnd_some hm
      refine xs_drop (xe_appE (stt_getL (j := 0) rfl) (stt_getL (j := 0) rfl) (xe_var (i := 12) rfl) (xe_tup4 (xa_cons (xe_var (i := 15) rfl) (xa_cons (xe_var (i := 17) rfl) (xa_cons (xe_gt (xe_sub (xe_var (i := 15) rfl) (xe_var (i := 17) rfl)) (xe_var (i := 19) rfl)) (xa_cons (xe_var (i := 19) rfl) xa_nil))))) (chkP_some hz54) (stt_setL (j := 0))) ?_
      show XS (tAsg _ _) _ _ [some (va T x0), some (va T x1), some (va T x2), some (va T (LF.mk z1)), some (va T y4), some (va T y5), some (va T y7), some (va T s28.1), some (va T y11), some (va T y16), some (va T y21), some (va T y23), some (vr pp25), some (va T a29), some (va T y32), some (va T y35), some (va T s49.2), some (va T s49.1), some (va T y39), some (va T y53)] (stt Ω [] [lstA T pp25 ((s28.2 ++ [(T4.mk y35 s49.1 (decide (y53 < (y35 - s49.1))) y53)]) : List (T4 Int Int Bool Int))])
      obtain ⟨z55, hz55, hm⟩ := bnd_some hm
      obtain ⟨z56, hz56, hm⟩ := bnd_some hm
      obtain ⟨z57, hz57, hm⟩ := bnd_some hm
      obtain ⟨y58, hy58, hm⟩ := bnd_some hm
      refine xs_set1 (A := va T y58) (xe_eq (xe_sub (xe_var (i := 7) rfl) (xe_mul (chkP_some hz57) (xe_var (i := 19) rfl) (xe_shl (chkP_some hz56) (xe_var (i := 8) rfl) (xe_mul (chkP_some hz55) (xe_var (i := 2) rfl) (xe_var (i := 13) rfl))))) (Option.some.inj hy58)) ?_
      obtain rfl := Option.some.inj hm
      exact fun σ H n => hD.nx _ rfl σ H (((((((n.forget 14).forget 15).forget 16).forget 17).forget 18).forget 19).forget 13)
    · subst es
      cases hm
  · subst es
    obtain ⟨s2, hs2, hm⟩ := bnd_some hm
    cases hs2
    show XS (tRet _) _ _ [some (va T x0), some (va T x1), some (va T x2), some (va T (LF.mk z1)), some (va T y4), some (va T y5), some (va T y7), some (va T s60.1), some (va T y11), some (va T y16), some (va T y21), some (va T y23), some (vr pp25), none, none, none, none, none, none, none] (stt Ω [] [lstA T pp25 (s60.2 : List (T4 Int Int Bool Int))])
    obtain rfl := Option.some.inj hm
    refine xs_fzJ (k := 12) (j := 0) rfl rfl ?_
    show XS _ _ _ [some (va T x0), some (va T x1), some (va T x2), some (va T (LF.mk z1)), some (va T y4), some (va T y5), some (va T y7), some (va T s60.1), some (va T y11), some (va T y16), some (va T y21), some (va T y23), some (va T (LF.mk s60.2)), none, none, none, none, none, none, none] (stt Ω [] [nilA])
    exact xs_ret (xe_var (i := 12) rfl) hrt.all
  · subst es
    cases hm
noncomputable def M__law_long_counts (x0 : Int) (x1 : Int) (x2 : Int) : Option (DF × (LF (T3 Str Int Int))) :=
  (M__law_long x0 x1 x2).bind fun z1 => (M__law_row x0 x2).bind fun z2 => (M__law_row x1 x2).bind fun z3 => (some (z2.length : Int)).bind fun y4 => (some (z3.length : Int)).bind fun y5 => (chkP (z1.length ≤ sizeLine)).bind fun z6 => (lcM (fun (a8 : (T4 Int Int Bool Int)) (s7 : Unit) => if a8.c = true then some (some (1 : Int), ()) else some (none, ())) z1 ()).bind fun z9 => (some (z9.1.length : Int)).bind fun y11 => (chkP (IntMulOk (2 : Int) y5)).bind fun z12 => (chkP (IntMulOk (z1.length : Int) y5)).bind fun z13 => (chkP ((([(("shifted" : Str), (y4 + ((2 : Int) * y5))), (("quotient" : Str), (z1.length : Int)), (("product" : Str), ((z1.length : Int) * y5)), (("restored" : Str), y11)] : List (Str × Int)).map (·.1)).Nodup)).bind fun z14 => (some ([(("shifted" : Str), (y4 + ((2 : Int) * y5))), (("quotient" : Str), (z1.length : Int)), (("product" : Str), ((z1.length : Int) * y5)), (("restored" : Str), y11)])).bind fun y15 => (chkP (z1.length ≤ sizeLine)).bind fun z18 => (lcM (fun (a20 : (T4 Int Int Bool Int)) (s19 : Unit) => some (some a20.b, ())) z1 ()).bind fun z21 => (chkP (IntMulOk y11 y5)).bind fun z23 => (chkP (y15.length < sizeLine)).bind fun z24 => (chkP ((dput y15 ("corrected" : Str) z21.1.sum).length < sizeLine)).bind fun z25 => (chkP (IntMulOk x2 y5)).bind fun z26 => (some ((x2 * y5) - ((Builtin.Int.intBits x1 : Nat) : Int))).bind fun y27 => some (DF.mk (dput (dput y15 ("corrected" : Str) z21.1.sum) ("sum" : Str) (y11 * y5)), (LF.mk ([(T3.mk ("divide long" : Str) y4 y5), (T3.mk ("lift" : Str) y5 y27), (T3.mk ("lift" : Str) y4 y27), (T3.mk ("lower" : Str) y5 y27)] : List (T3 Str Int Int))))
def Pre__law_long_counts (T : TC) : PreT := fun As Ω R => ∃ (x0 : Int) (x1 : Int) (x2 : Int) (r : (DF × (LF (T3 Str Int Int)))), As = [va T x0, va T x1, va T x2] ∧ M__law_long_counts x0 x1 x2 = some r ∧ R = RNP T (stt Ω [] []) (fun q => rawD q (dkv r.1.l)) (va T r.2)
theorem sc__law_long_counts : FnScope ["_law_size", "_law_other", "_law_wide", "_law_steps", "_law_m", "_law_n", "_law_backs", "_law_counts", "_law_by", "_law_step"] ["_law_size", "_law_other", "_law_wide"] (defScope s__law_long_counts) := ⟨rfl, rfl, rfl, by decide +kernel, rfl, by decide +kernel, by decide +kernel⟩
theorem ok__law_long_counts {f : Addr} {fd : FuncData} (F : Fun T.K "_law_long_counts" "_law_long_counts" s__law_long_counts f fd) (c__law_long : Cal P w T.K mg base 3 "_law_long" ["_law_size", "_law_other", "_law_wide"] (mkSp (Pre__law_long T))) (c__law_row : Cal P w T.K mg base 2 "_law_row" ["_law_number", "_law_wide"] (mkSp (Pre__law_row T))) (z_len : mg "len" = none) (z_sum : mg "sum" = none) : FnOk P w T.K mg base CX0 4 f fd ["_law_size", "_law_other", "_law_wide"] (mkSp (Pre__law_long_counts T)) := by
  refine fn_ok F sc__law_long_counts (fun As Ω R h => ?_) (fun cdv A outer s H E hr As Ω R F0 h => ?_)
  · obtain ⟨x0, x1, x2, r, rfl, _⟩ := h
    rfl
  obtain ⟨x0, x1, x2, r, rfl, hm, rfl⟩ := h
  refine ⟨_, (pss_cons (ps_set (i := 3) sc__law_long_counts.nd rfl (.inl rfl) (pe_cal c__law_long (hr.mono (by decide)) (by rfl) (pa_cons (pv 0) (pa_cons (pv 1) (pa_cons (pv 2) pa_nil))))) (pss_cons (ps_par (i := 4) (j := 5) rfl sc__law_long_counts.nd rfl rfl (by decide) rfl rfl (pa_cons (pe_callB (cr_lenK (K := T.K) rfl) (by rfl) z_len PySem.boot_len (pa_cons (pe_cal c__law_row (hr.mono (by decide)) (by rfl) (pa_cons (pv 0) (pa_cons (pv 2) pa_nil))) pa_nil)) (pa_cons (pe_callB (cr_lenK (K := T.K) rfl) (by rfl) z_len PySem.boot_len (pa_cons (pe_cal c__law_row (hr.mono (by decide)) (by rfl) (pa_cons (pv 1) (pa_cons (pv 2) pa_nil))) pa_nil)) pa_nil)) (by rfl)) (pss_cons (ps_set (i := 6) sc__law_long_counts.nd rfl (.inl rfl) (pe_callB (cr_lenK (K := T.K) rfl) (by rfl) z_len PySem.boot_len (pa_cons (pe_lc (own := [("_law_step", 9)]) rfl sc__law_long_counts.nd (pi_listK (K := T.K) (pv 3) rfl) (blkOk_by (N := ["_law_size", "_law_other", "_law_wide", "_law_steps", "_law_m", "_law_n", "_law_backs", "_law_counts", "_law_by", "_law_step"]) (sc := defScope s__law_long_counts) (by decide +kernel)) (fun _ _ _ _ _ => (pg_name (i := 9) sc__law_long_counts.nd rfl (.inl rfl))) (fun _ _ _ _ _ => (pts_one (pt_val (pe_ix (ix_seqK (K := T.K) rfl) (pv 9) pe_int (by intro _ _; rfl))))) (fun _ _ _ _ _ => pe_int)) pa_nil))) (pss_cons (ps_set (i := 7) sc__law_long_counts.nd rfl (.inl rfl) (pe_disp (pps_cons pe_str (pe_op op_addQ (pv 4) (pe_op op_mulQ pe_int (pv 5))) (pps_cons pe_str (pe_callB (cr_lenK (K := T.K) rfl) (by rfl) z_len PySem.boot_len (pa_cons (pv 3) pa_nil)) (pps_cons pe_str (pe_op op_mulQ (pe_callB (cr_lenK (K := T.K) rfl) (by rfl) z_len PySem.boot_len (pa_cons (pv 3) pa_nil)) (pv 5)) (pps_cons pe_str (pv 6) pps_nil)))) (by rfl) (by rfl) (fun z => by cases z) (by decide))) (pss_cons (ps_asg (pe_tup (pa_cons (pe_callB (cr_sumK (K := T.K) rfl rfl) (by rfl) z_sum (by decide +kernel) (pa_cons (pe_lc (own := [("_law_step", 9)]) rfl sc__law_long_counts.nd (pi_listK (K := T.K) (pv 3) rfl) (blkOk_by (N := ["_law_size", "_law_other", "_law_wide", "_law_steps", "_law_m", "_law_n", "_law_backs", "_law_counts", "_law_by", "_law_step"]) (sc := defScope s__law_long_counts) (by decide +kernel)) (fun _ _ _ _ _ => (pg_name (i := 9) sc__law_long_counts.nd rfl (.inl rfl))) (fun _ _ _ _ _ => pts_nil) (fun _ _ _ _ _ => (pe_ix (ix_seqK (K := T.K) rfl) (pv 9) pe_int (by intro _ _; rfl)))) pa_nil)) (pa_cons (pe_op op_mulQ (pv 6) (pv 5)) pa_nil))) (pg_tupK (K := T.K) (n := 2) rfl rfl (pgs_cons (pg_sub (pv 7) pe_str (set_dict (Nat.lt_of_le_of_lt (Nat.add_le_add_left (by decide : 1 ≤ 64) _) (by exact hr.units)))) (pgs_cons (pg_sub (pv 7) pe_str (set_dict (Nat.lt_of_le_of_lt (Nat.add_le_add_left (by decide : 1 ≤ 64) _) (by exact hr.units)))) pgs_nil)))) (pss_cons (ps_set (i := 8) sc__law_long_counts.nd rfl (.inl rfl) (pe_op op_sub (pe_op op_mulQ (pv 2) (pv 5)) (pe_bits (pv 1)))) (pss_one (ps_ret (pe_tup (pa_cons (pv 7) (pa_cons (pe_lst (pa_cons (pe_tup (pa_cons pe_str (pa_cons (pv 4) (pa_cons (pv 5) pa_nil)))) (pa_cons (pe_tup (pa_cons pe_str (pa_cons (pv 5) (pa_cons (pv 8) pa_nil)))) (pa_cons (pe_tup (pa_cons pe_str (pa_cons (pv 4) (pa_cons (pv 8) pa_nil)))) (pa_cons (pe_tup (pa_cons pe_str (pa_cons (pv 5) (pa_cons (pv 8) pa_nil)))) pa_nil))))) pa_nil))))))))))), fun D hrt hnx => ?_⟩
  have ok : Okk Ω [] := okk0
  suffices hx : XS _ D F0 [some (va T x0), some (va T x1), some (va T x2), none, none, none, none, none, none, none] (stt Ω [] []) by
    rw [show (stt Ω [] []) = Ω from stt_self (by simp)] at hx
    exact hx
  unfold M__law_long_counts at hm
  obtain ⟨z1, hz1, hm⟩ := bnd_some hm
  refine xs_set (A := va T (LF.mk z1)) (xe_call (xa_cons (xe_var (i := 0) rfl) (xa_cons (xe_var (i := 1) rfl) (xa_cons (xe_var (i := 2) rfl) xa_nil))) ⟨x0, x1, x2, z1, rfl, hz1, rfl⟩ cal0) ?_
  show XS (tSeq _ _) _ _ [some (va T x0), some (va T x1), some (va T x2), some (va T (LF.mk z1)), none, none, none, none, none, none] (stt Ω [] [])
  obtain ⟨z2, hz2, hm⟩ := bnd_some hm
  obtain ⟨z3, hz3, hm⟩ := bnd_some hm
  obtain ⟨y4, hy4, hm⟩ := bnd_some hm
  obtain ⟨y5, hy5, hm⟩ := bnd_some hm
  refine xs_par2 (A := va T y4) (B := va T y5) (xa_cons (xe_eq (xe_lenL (xe_call (xa_cons (xe_var (i := 0) rfl) (xa_cons (xe_var (i := 2) rfl) xa_nil)) ⟨x0, x2, z2, rfl, hz2, rfl⟩ cal0) isL_LF) (Option.some.inj hy4)) (xa_cons (xe_eq (xe_lenL (xe_call (xa_cons (xe_var (i := 1) rfl) (xa_cons (xe_var (i := 2) rfl) xa_nil)) ⟨x1, x2, z3, rfl, hz3, rfl⟩ cal0) isL_LF) (Option.some.inj hy5)) xa_nil)) ?_
  show XS (tSeq _ _) _ _ [some (va T x0), some (va T x1), some (va T x2), some (va T (LF.mk z1)), some (va T y4), some (va T y5), none, none, none, none] (stt Ω [] [])
  obtain ⟨z6, hz6, hm⟩ := bnd_some hm
  obtain ⟨z9, hz9, hm⟩ := bnd_some hm
  obtain ⟨y11, hy11, hm⟩ := bnd_some hm
  refine xs_set (A := va T y11) (xe_eq (xe_lenL (xe_fz (xn_lcS (T := T) (fun (s7 : Unit) => []) (fun (s7 : Unit) => []) hz9 (xi_LF (xe_var (i := 3) rfl)) (fun _ => tgt_name) (by simp) (chkP_some hz6) ?q10)) isL_LF) (Option.some.inj hy11)) ?_
  case q10 =>
    exact (fun a8 s7 o s2 ha hm X => by
      by_cases hc : a8.c = true
      · rw [if_pos hc] at hm
        obtain ⟨rfl, rfl⟩ := Prod.mk.inj (Option.some.inj hm)
        refine ⟨(fun e => nomatch e), fun y e => ?_⟩
        obtain rfl := Option.some.inj e
        refine ⟨xt_eq (xt_tB (T := T) (xe_a4 (xe_var (i := 9) rfl) xe_int)) hc, xe_int⟩
      · rw [if_neg hc] at hm
        obtain ⟨rfl, rfl⟩ := Prod.mk.inj (Option.some.inj hm)
        exact ⟨fun _ => xt_eq (xt_tB (T := T) (xe_a4 (xe_var (i := 9) rfl) xe_int)) (nt hc), fun y e => nomatch e⟩)
  show XS (tSeq _ _) _ _ [some (va T x0), some (va T x1), some (va T x2), some (va T (LF.mk z1)), some (va T y4), some (va T y5), some (va T y11), none, none, none] (stt Ω [] [])
  obtain ⟨z12, hz12, hm⟩ := bnd_some hm
  obtain ⟨z13, hz13, hm⟩ := bnd_some hm
  obtain ⟨z14, hz14, hm⟩ := bnd_some hm
  obtain ⟨y15, hy15, hm⟩ := bnd_some hm
  obtain rfl := Option.some.inj hy15
  refine xs_setO ((xn_disp (fun X => (xps_cons (T := T) xe_str (xe_add (xe_var (i := 4) rfl) (xe_mul (chkP_some hz12) xe_int (xe_var (i := 5) rfl))) (xps_cons (T := T) xe_str (xe_lenL (xe_var (i := 3) rfl) isL_LF) (xps_cons (T := T) xe_str (xe_mul (chkP_some hz13) (xe_lenL (xe_var (i := 3) rfl) isL_LF) (xe_var (i := 5) rfl)) (xps_cons (T := T) xe_str (xe_var (i := 6) rfl) xps_nil))))) (chkP_some hz14) (by show 4 ≤ 15; decide))) (fun pp16 => ?_)
  show XS (tSeq _ _) _ _ [some (va T x0), some (va T x1), some (va T x2), some (va T (LF.mk z1)), some (va T y4), some (va T y5), some (va T y11), some (vr pp16), none, none] (stt Ω [] [rawD pp16 (dkv ([(("shifted" : Str), (y4 + ((2 : Int) * y5))), (("quotient" : Str), (z1.length : Int)), (("product" : Str), ((z1.length : Int) * y5)), (("restored" : Str), y11)]))])
  obtain ⟨z18, hz18, hm⟩ := bnd_some hm
  obtain ⟨z21, hz21, hm⟩ := bnd_some hm
  obtain ⟨z23, hz23, hm⟩ := bnd_some hm
  obtain ⟨z24, hz24, hm⟩ := bnd_some hm
  obtain ⟨z25, hz25, hm⟩ := bnd_some hm
  refine xs_asgO (xe_tup2 (xa_cons (xe_sum (xe_fz (xn_lcS (T := T) (fun (s19 : Unit) => []) (fun (s19 : Unit) => [rawD pp16 (dkv ([(("shifted" : Str), (y4 + ((2 : Int) * y5))), (("quotient" : Str), (z1.length : Int)), (("product" : Str), ((z1.length : Int) * y5)), (("restored" : Str), y11)]))]) hz21 (xi_LF (xe_var (i := 3) rfl)) (fun _ => tgt_name) (by simp) (chkP_some hz18) ?q22)) isL_LF) (xa_cons (xe_mul (chkP_some hz23) (xe_var (i := 6) rfl) (xe_var (i := 5) rfl)) xa_nil))) (tgo_two (tgo_dict (T := T) (xe_var (i := 7) rfl) xe_str (stt_getL (j := 0) rfl) (chkP_some hz24) (stt_setL (j := 0))) (tgo_dict (T := T) (xe_var (i := 7) rfl) xe_str (stt_getL (j := 0) rfl) (chkP_some hz25) (stt_setL (j := 0)))) ?_
  case q22 =>
    exact (fun a20 s19 o s2 ha hm X => by
      obtain ⟨rfl, rfl⟩ := Prod.mk.inj (Option.some.inj hm)
      refine ⟨(fun e => nomatch e), fun y e => ?_⟩
      obtain rfl := Option.some.inj e
      refine ⟨xt_yes, (xe_b4 (xe_var (i := 9) rfl) xe_int)⟩)
  show XS (tSeq _ _) _ _ [some (va T x0), some (va T x1), some (va T x2), some (va T (LF.mk z1)), some (va T y4), some (va T y5), some (va T y11), some (vr pp16), none, none] (stt Ω [] [rawD pp16 (dkv (dput (dput ([(("shifted" : Str), (y4 + ((2 : Int) * y5))), (("quotient" : Str), (z1.length : Int)), (("product" : Str), ((z1.length : Int) * y5)), (("restored" : Str), y11)]) ("corrected" : Str) z21.1.sum) ("sum" : Str) (y11 * y5)))])
  obtain ⟨z26, hz26, hm⟩ := bnd_some hm
  obtain ⟨y27, hy27, hm⟩ := bnd_some hm
  refine xs_set (A := va T y27) (xe_eq (xe_sub (xe_mul (chkP_some hz26) (xe_var (i := 2) rfl) (xe_var (i := 5) rfl)) (xe_bits (xe_var (i := 1) rfl))) (Option.some.inj hy27)) ?_
  show XS (tRet _) _ _ [some (va T x0), some (va T x1), some (va T x2), some (va T (LF.mk z1)), some (va T y4), some (va T y5), some (va T y11), some (vr pp16), some (va T y27), none] (stt Ω [] [rawD pp16 (dkv (dput (dput ([(("shifted" : Str), (y4 + ((2 : Int) * y5))), (("quotient" : Str), (z1.length : Int)), (("product" : Str), ((z1.length : Int) * y5)), (("restored" : Str), y11)]) ("corrected" : Str) z21.1.sum) ("sum" : Str) (y11 * y5)))])
  obtain rfl := Option.some.inj hm
  refine xs_ret (xg_tupNP (xa_cons (xe_var (i := 7) rfl) (xa_cons (xe_lst (l := [(T3.mk ("divide long" : Str) y4 y5), (T3.mk ("lift" : Str) y5 y27), (T3.mk ("lift" : Str) y4 y27), (T3.mk ("lower" : Str) y5 y27)]) (xa_cons (xe_tup3 (xa_cons xe_str (xa_cons (xe_var (i := 4) rfl) (xa_cons (xe_var (i := 5) rfl) xa_nil)))) (xa_cons (xe_tup3 (xa_cons xe_str (xa_cons (xe_var (i := 5) rfl) (xa_cons (xe_var (i := 8) rfl) xa_nil)))) (xa_cons (xe_tup3 (xa_cons xe_str (xa_cons (xe_var (i := 4) rfl) (xa_cons (xe_var (i := 8) rfl) xa_nil)))) (xa_cons (xe_tup3 (xa_cons xe_str (xa_cons (xe_var (i := 5) rfl) (xa_cons (xe_var (i := 8) rfl) xa_nil)))) xa_nil)))) (by show 4 ≤ sizeLine; decide)) xa_nil))) (RT.handNP hrt (j := 0) rfl)
noncomputable def M__law_wide_number (x0 : List Int) : Option (Int × List Int) :=
  (M__law_pick x0 ([(8 : Int), (53 : Int), (54 : Int), (64 : Int), (120 : Int), (300 : Int), (1100 : Int)] : List Int)).bind fun z1 => (M__law_draw z1.2 z1.1).bind fun z2 => (some ((1 : Int) + z2.1)).bind fun y3 => (chkP (CShl (1 : Int) (y3 - (1 : Int)))).bind fun z4 => (chkP (CShl (1 : Int) (y3 - (1 : Int)))).bind fun z5 => (M__law_draw z2.2 ((1 : Int) * 2 ^ ((y3 - (1 : Int))).toNat)).bind fun z6 => some ((((1 : Int) * 2 ^ ((y3 - (1 : Int))).toNat) + z6.1), z6.2)
def Pre__law_wide_number (T : TC) : PreT := fun As Ω R => ∃ (k0 : Nat) (p0 : Addr) (x0 : List Int) (r : Int × List Int), As = [vr p0] ∧ Ω[k0]? = some (lstA T p0 x0) ∧ M__law_wide_number x0 = some r ∧ R = RV (va T r.1) (stt Ω [(k0, lstA T p0 r.2)] [])
theorem sc__law_wide_number : FnScope ["_law_source_here", "_law_bits_so"] ["_law_source_here"] (defScope s__law_wide_number) := ⟨rfl, rfl, rfl, by decide +kernel, rfl, by decide +kernel, by decide +kernel⟩
theorem ok__law_wide_number {f : Addr} {fd : FuncData} (F : Fun T.K "_law_wide_number" "_law_wide_number" s__law_wide_number f fd) (c__law_pick : Cal P w T.K mg base 2 "_law_pick" ["_law_source_here", "_law_items"] (mkSp (Pre__law_pick T))) (c__law_draw : Cal P w T.K mg base 1 "_law_draw" ["_law_source_here", "_law_size"] (mkSp (Pre__law_draw T))) : FnOk P w T.K mg base CX0 3 f fd ["_law_source_here"] (mkSp (Pre__law_wide_number T)) := by
  refine fn_ok F sc__law_wide_number (fun As Ω R h => ?_) (fun cdv A outer s H E hr As Ω R F0 h => ?_)
  · obtain ⟨k0, p0, x0, r, rfl, _⟩ := h
    rfl
  obtain ⟨k0, p0, x0, r, rfl, hk0, hm, rfl⟩ := h
  refine ⟨_, (pss_cons (ps_set (i := 1) sc__law_wide_number.nd rfl (.inl rfl) (pe_op op_addQ pe_int (pe_cal c__law_draw (hr.mono (by decide)) (by rfl) (pa_cons (pv 0) (pa_cons (pe_cal c__law_pick (hr.mono (by decide)) (by rfl) (pa_cons (pv 0) (pa_cons (pe_lst (pa_cons pe_int (pa_cons pe_int (pa_cons pe_int (pa_cons pe_int (pa_cons pe_int (pa_cons pe_int (pa_cons pe_int pa_nil)))))))) pa_nil))) pa_nil))))) (pss_one (ps_ret (pe_op op_addQ (pe_op op_shlW pe_int (pe_op op_sub (pv 1) pe_int)) (pe_cal c__law_draw (hr.mono (by decide)) (by rfl) (pa_cons (pv 0) (pa_cons (pe_op op_shlW pe_int (pe_op op_sub (pv 1) pe_int)) pa_nil))))))), fun D hrt hnx => ?_⟩
  have ok := okk1 hk0
  suffices hx : XS _ D F0 [some (vr p0), none] (stt Ω [(k0, lstA T p0 (x0 : List Int))] []) by
    rw [show (stt Ω [(k0, lstA T p0 (x0 : List Int))] []) = Ω from stt_self (by simp [hk0])] at hx
    exact hx
  unfold M__law_wide_number at hm
  obtain ⟨z1, hz1, hm⟩ := bnd_some hm
  obtain ⟨z2, hz2, hm⟩ := bnd_some hm
  obtain ⟨y3, hy3, hm⟩ := bnd_some hm
  refine xs_set (A := va T y3) (xe_eq (xe_add xe_int (xe_call (xa_cons (xe_var (i := 0) rfl) (xa_cons (xe_call (xa_cons (xe_var (i := 0) rfl) (xa_cons (xe_lst (l := [(8 : Int), (53 : Int), (54 : Int), (64 : Int), (120 : Int), (300 : Int), (1100 : Int)]) (xa_cons xe_int (xa_cons xe_int (xa_cons xe_int (xa_cons xe_int (xa_cons xe_int (xa_cons xe_int (xa_cons xe_int xa_nil))))))) (by show 7 ≤ sizeLine; decide)) xa_nil)) ⟨k0, p0, x0, ([(8 : Int), (53 : Int), (54 : Int), (64 : Int), (120 : Int), (300 : Int), (1100 : Int)] : List Int), z1, rfl, (stt_get ok (i := 0) rfl), hz1, rfl⟩ (cal1 ok (i := 0) rfl)) xa_nil)) ⟨k0, p0, z1.2, z1.1, z2, rfl, (stt_get ok (i := 0) rfl), hz2, rfl⟩ (cal1 ok (i := 0) rfl))) (Option.some.inj hy3)) ?_
  show XS (tRet _) _ _ [some (vr p0), some (va T y3)] (stt Ω [(k0, lstA T p0 (z2.2 : List Int))] [])
  obtain ⟨z4, hz4, hm⟩ := bnd_some hm
  obtain ⟨z5, hz5, hm⟩ := bnd_some hm
  obtain ⟨z6, hz6, hm⟩ := bnd_some hm
  obtain rfl := Option.some.inj hm
  refine xs_ret (xe_add (xe_shl (chkP_some hz4) xe_int (xe_sub (xe_var (i := 1) rfl) xe_int)) (xe_call (xa_cons (xe_var (i := 0) rfl) (xa_cons (xe_shl (chkP_some hz5) xe_int (xe_sub (xe_var (i := 1) rfl) xe_int)) xa_nil)) ⟨k0, p0, z2.2, ((1 : Int) * 2 ^ ((y3 - (1 : Int))).toNat), z6, rfl, (stt_get ok (i := 0) rfl), hz6, rfl⟩ (cal1 ok (i := 0) rfl))) hrt.all
noncomputable def M__law_two (x0 : List Int) : Option ((Int × Int) × List Int) :=
  (M__law_wide_number x0).bind fun z1 => (M__law_wide_number z1.2).bind fun z2 => (M__law_draw z2.2 (7 : Int)).bind fun z3 => (chkP (CShl (1 : Int) (53 : Int))).bind fun z4 => (chkP (CShl (1 : Int) (53 : Int))).bind fun z5 => (M__law_draw z3.2 ((1 : Int) * 2 ^ ((53 : Int)).toNat)).bind fun z6 => (some (((1 : Int) * 2 ^ ((53 : Int)).toNat) + z6.1)).bind fun y7 => (if (decide (z3.1 = (1 : Int))) = true then (chkP (IntMulOk (Builtin.bitOr y7 (1 : Int)) z2.1)).bind fun z8 => (M__law_draw z6.2 (40 : Int)).bind fun z9 => (chkP (CShl ((Builtin.bitOr y7 (1 : Int)) * z2.1) z9.1)).bind fun z10 => (some (((Builtin.bitOr y7 (1 : Int)) * z2.1) * 2 ^ (z9.1).toNat)).bind fun y11 => some (y11, z2.1, z9.2) else if (decide (z3.1 = (2 : Int))) = true then (chkP (IntMulOk y7 z2.1)).bind fun z13 => (M__law_draw z6.2 (40 : Int)).bind fun z14 => (chkP (CShl (y7 * z2.1) z14.1)).bind fun z15 => (M__law_draw z14.2 (3 : Int)).bind fun z16 => (some ((((y7 * z2.1) * 2 ^ (z14.1).toNat) + z16.1) - (1 : Int))).bind fun y17 => some (y17, z2.1, z16.2) else if (decide (z3.1 = (3 : Int))) = true then (chkP (CShl (1 : Int) (1024 : Int))).bind fun z19 => (chkP (CShl (1 : Int) (970 : Int))).bind fun z20 => (chkP (IntMulOk (((1 : Int) * 2 ^ ((1024 : Int)).toNat) - ((1 : Int) * 2 ^ ((970 : Int)).toNat)) z2.1)).bind fun z21 => (chkP (CShl z2.1 (960 : Int))).bind fun z22 => (M__law_pick z6.2 ([(-(1 : Int)), (0 : Int), (1 : Int), (-(1 : Int)), ((0 : Int) - z2.1), ((0 : Int) - (z2.1 * 2 ^ ((960 : Int)).toNat))] : List Int)).bind fun z23 => (some (((((1 : Int) * 2 ^ ((1024 : Int)).toNat) - ((1 : Int) * 2 ^ ((970 : Int)).toNat)) * z2.1) + z23.1)).bind fun y24 => some (y24, z2.1, z23.2) else if (decide (z3.1 = (4 : Int))) = true then (M__law_draw z6.2 (100 : Int)).bind fun z26 => (chkP (CShl z1.1 ((1000 : Int) + z26.1))).bind fun z27 => (M__law_draw z26.2 (3 : Int)).bind fun z28 => (some (((z1.1 * 2 ^ (((1000 : Int) + z26.1)).toNat) + z28.1) - (1 : Int))).bind fun y29 => some (z1.1, y29, z28.2) else if (decide (z3.1 = (5 : Int))) = true then (M__law_draw z6.2 (2 : Int)).bind fun z31 => (M__law_draw z31.2 (150 : Int)).bind fun z32 => (chkP (CShl (1 : Int) ((1000 : Int) + z32.1))).bind fun z33 => (some (y7 + z31.1)).bind fun y34 => (some ((1 : Int) * 2 ^ (((1000 : Int) + z32.1)).toNat)).bind fun y35 => some (y34, y35, z32.2) else if (decide (z3.1 = (6 : Int))) = true then (M__law_pick z6.2 ([(300 : Int), (9000 : Int)] : List Int)).bind fun z37 => (M__law_draw z37.2 z37.1).bind fun z38 => (chkP (CShl z1.1 z38.1)).bind fun z39 => (M__law_draw z38.2 (3 : Int)).bind fun z40 => (some (max (1 : Int) (((z1.1 * 2 ^ (z38.1).toNat) + z40.1) - (1 : Int)))).bind fun y41 => (chkP (CShl z2.1 z38.1)).bind fun z42 => (M__law_draw z40.2 (3 : Int)).bind fun z43 => (some ((z2.1 * 2 ^ (z38.1).toNat) + z43.1)).bind fun y44 => some (y41, y44, z43.2) else some (z1.1, z2.1, z6.2)).bind fun z47 => some ((z47.1, z47.2.1), z47.2.2)
def Pre__law_two (T : TC) : PreT := fun As Ω R => ∃ (k0 : Nat) (p0 : Addr) (x0 : List Int) (r : (Int × Int) × List Int), As = [vr p0] ∧ Ω[k0]? = some (lstA T p0 x0) ∧ M__law_two x0 = some r ∧ R = RV (va T r.1) (stt Ω [(k0, lstA T p0 r.2)] [])
theorem sc__law_two : FnScope ["_law_source_here", "_law_one", "_law_other", "_law_way", "_law_middle", "_law_far"] ["_law_source_here"] (defScope s__law_two) := ⟨rfl, rfl, rfl, by decide +kernel, rfl, by decide +kernel, by decide +kernel⟩
theorem ok__law_two {f : Addr} {fd : FuncData} (F : Fun T.K "_law_two" "_law_two" s__law_two f fd) (c__law_wide_number : Cal P w T.K mg base 3 "_law_wide_number" ["_law_source_here"] (mkSp (Pre__law_wide_number T))) (c__law_draw : Cal P w T.K mg base 1 "_law_draw" ["_law_source_here", "_law_size"] (mkSp (Pre__law_draw T))) (c__law_pick : Cal P w T.K mg base 2 "_law_pick" ["_law_source_here", "_law_items"] (mkSp (Pre__law_pick T))) (z_max : mg "max" = none) : FnOk P w T.K mg base CX0 4 f fd ["_law_source_here"] (mkSp (Pre__law_two T)) := by
  refine fn_ok F sc__law_two (fun As Ω R h => ?_) (fun cdv A outer s H E hr As Ω R F0 h => ?_)
  · obtain ⟨k0, p0, x0, r, rfl, _⟩ := h
    rfl
  obtain ⟨k0, p0, x0, r, rfl, hk0, hm, rfl⟩ := h
  refine ⟨_, (pss_cons (ps_par (i := 1) (j := 2) rfl sc__law_two.nd rfl rfl (by decide) rfl rfl (pa_cons (pe_cal c__law_wide_number (hr.mono (by decide)) (by rfl) (pa_cons (pv 0) pa_nil)) (pa_cons (pe_cal c__law_wide_number (hr.mono (by decide)) (by rfl) (pa_cons (pv 0) pa_nil)) pa_nil)) (by rfl)) (pss_cons (ps_set (i := 3) sc__law_two.nd rfl (.inl rfl) (pe_cal c__law_draw (hr.mono (by decide)) (by rfl) (pa_cons (pv 0) (pa_cons pe_int pa_nil)))) (pss_cons (ps_set (i := 4) sc__law_two.nd rfl (.inl rfl) (pe_op op_addQ (pe_op op_shlW pe_int pe_int) (pe_cal c__law_draw (hr.mono (by decide)) (by rfl) (pa_cons (pv 0) (pa_cons (pe_op op_shlW pe_int pe_int) pa_nil))))) (Evl.pss_cut (ps_if (pt_cmpR (op_eqXK (K := T.K) (by exact hr.units) rfl) (pv 3) pe_int (nomark _)) (pss_one (ps_set (i := 1) sc__law_two.nd rfl (.inl rfl) (pe_op op_shlW (pe_op op_mulQ (pe_op op_or (pv 4) pe_int) (pv 2)) (pe_cal c__law_draw (hr.mono (by decide)) (by rfl) (pa_cons (pv 0) (pa_cons pe_int pa_nil)))))) (pss_one (ps_if (pt_cmpR (op_eqXK (K := T.K) (by exact hr.units) rfl) (pv 3) pe_int (nomark _)) (pss_one (ps_set (i := 1) sc__law_two.nd rfl (.inl rfl) (pe_op op_sub (pe_op op_addQ (pe_op op_shlW (pe_op op_mulQ (pv 4) (pv 2)) (pe_cal c__law_draw (hr.mono (by decide)) (by rfl) (pa_cons (pv 0) (pa_cons pe_int pa_nil)))) (pe_cal c__law_draw (hr.mono (by decide)) (by rfl) (pa_cons (pv 0) (pa_cons pe_int pa_nil)))) pe_int))) (pss_one (ps_if (pt_cmpR (op_eqXK (K := T.K) (by exact hr.units) rfl) (pv 3) pe_int (nomark _)) (pss_one (ps_set (i := 1) sc__law_two.nd rfl (.inl rfl) (pe_op op_addQ (pe_op op_mulQ (pe_op op_sub (pe_op op_shlW pe_int pe_int) (pe_op op_shlW pe_int pe_int)) (pv 2)) (pe_cal c__law_pick (hr.mono (by decide)) (by rfl) (pa_cons (pv 0) (pa_cons (pe_lst (pa_cons (pe_un un_neg pe_int) (pa_cons pe_int (pa_cons pe_int (pa_cons (pe_un un_neg pe_int) (pa_cons (pe_op op_sub pe_int (pv 2)) (pa_cons (pe_op op_sub pe_int (pe_op op_shlW (pv 2) pe_int)) pa_nil))))))) pa_nil)))))) (pss_one (ps_if (pt_cmpR (op_eqXK (K := T.K) (by exact hr.units) rfl) (pv 3) pe_int (nomark _)) (pss_one (ps_set (i := 2) sc__law_two.nd rfl (.inl rfl) (pe_op op_sub (pe_op op_addQ (pe_op op_shlW (pv 1) (pe_op op_addQ pe_int (pe_cal c__law_draw (hr.mono (by decide)) (by rfl) (pa_cons (pv 0) (pa_cons pe_int pa_nil))))) (pe_cal c__law_draw (hr.mono (by decide)) (by rfl) (pa_cons (pv 0) (pa_cons pe_int pa_nil)))) pe_int))) (pss_one (ps_if (pt_cmpR (op_eqXK (K := T.K) (by exact hr.units) rfl) (pv 3) pe_int (nomark _)) (pss_one (ps_par (i := 1) (j := 2) rfl sc__law_two.nd rfl rfl (by decide) rfl rfl (pa_cons (pe_op op_addQ (pv 4) (pe_cal c__law_draw (hr.mono (by decide)) (by rfl) (pa_cons (pv 0) (pa_cons pe_int pa_nil)))) (pa_cons (pe_op op_shlW pe_int (pe_op op_addQ pe_int (pe_cal c__law_draw (hr.mono (by decide)) (by rfl) (pa_cons (pv 0) (pa_cons pe_int pa_nil))))) pa_nil)) (by rfl))) (pss_one (ps_if (pt_cmpR (op_eqXK (K := T.K) (by exact hr.units) rfl) (pv 3) pe_int (nomark _)) (pss_cons (ps_set (i := 5) sc__law_two.nd rfl (.inl rfl) (pe_cal c__law_draw (hr.mono (by decide)) (by rfl) (pa_cons (pv 0) (pa_cons (pe_cal c__law_pick (hr.mono (by decide)) (by rfl) (pa_cons (pv 0) (pa_cons (pe_lst (pa_cons pe_int (pa_cons pe_int pa_nil))) pa_nil))) pa_nil)))) (pss_cons (ps_set (i := 1) sc__law_two.nd rfl (.inl rfl) (pe_callB (cr_max2 rfl) (by rfl) z_max (by decide +kernel) (pa_cons pe_int (pa_cons (pe_op op_sub (pe_op op_addQ (pe_op op_shlW (pv 1) (pv 5)) (pe_cal c__law_draw (hr.mono (by decide)) (by rfl) (pa_cons (pv 0) (pa_cons pe_int pa_nil)))) pe_int) pa_nil)))) (pss_one (ps_set (i := 2) sc__law_two.nd rfl (.inl rfl) (pe_op op_addQ (pe_op op_shlW (pv 2) (pv 5)) (pe_cal c__law_draw (hr.mono (by decide)) (by rfl) (pa_cons (pv 0) (pa_cons pe_int pa_nil)))))))) pss_nil))))))))))) (pss_one (ps_ret (pe_tup (pa_cons (pv 1) (pa_cons (pv 2) pa_nil))))))))), fun D hrt hnx => ?_⟩
  have ok := okk1 hk0
  suffices hx : XS _ D F0 [some (vr p0), none, none, none, none, none] (stt Ω [(k0, lstA T p0 (x0 : List Int))] []) by
    rw [show (stt Ω [(k0, lstA T p0 (x0 : List Int))] []) = Ω from stt_self (by simp [hk0])] at hx
    exact hx
  unfold M__law_two at hm
  obtain ⟨z1, hz1, hm⟩ := bnd_some hm
  obtain ⟨z2, hz2, hm⟩ := bnd_some hm
  refine xs_par2 (A := va T z1.1) (B := va T z2.1) (xa_cons (xe_call (xa_cons (xe_var (i := 0) rfl) xa_nil) ⟨k0, p0, x0, z1, rfl, (stt_get ok (i := 0) rfl), hz1, rfl⟩ (cal1 ok (i := 0) rfl)) (xa_cons (xe_call (xa_cons (xe_var (i := 0) rfl) xa_nil) ⟨k0, p0, z1.2, z2, rfl, (stt_get ok (i := 0) rfl), hz2, rfl⟩ (cal1 ok (i := 0) rfl)) xa_nil)) ?_
  show XS (tSeq _ _) _ _ [some (vr p0), some (va T z1.1), some (va T z2.1), none, none, none] (stt Ω [(k0, lstA T p0 (z2.2 : List Int))] [])
  obtain ⟨z3, hz3, hm⟩ := bnd_some hm
  refine xs_set (A := va T z3.1) (xe_call (xa_cons (xe_var (i := 0) rfl) (xa_cons xe_int xa_nil)) ⟨k0, p0, z2.2, (7 : Int), z3, rfl, (stt_get ok (i := 0) rfl), hz3, rfl⟩ (cal1 ok (i := 0) rfl)) ?_
  show XS (tSeq _ _) _ _ [some (vr p0), some (va T z1.1), some (va T z2.1), some (va T z3.1), none, none] (stt Ω [(k0, lstA T p0 (z3.2 : List Int))] [])
  obtain ⟨z4, hz4, hm⟩ := bnd_some hm
  obtain ⟨z5, hz5, hm⟩ := bnd_some hm
  obtain ⟨z6, hz6, hm⟩ := bnd_some hm
  obtain ⟨y7, hy7, hm⟩ := bnd_some hm
  refine xs_set (A := va T y7) (xe_eq (xe_add (xe_shl (chkP_some hz4) xe_int xe_int) (xe_call (xa_cons (xe_var (i := 0) rfl) (xa_cons (xe_shl (chkP_some hz5) xe_int xe_int) xa_nil)) ⟨k0, p0, z3.2, ((1 : Int) * 2 ^ ((53 : Int)).toNat), z6, rfl, (stt_get ok (i := 0) rfl), hz6, rfl⟩ (cal1 ok (i := 0) rfl))) (Option.some.inj hy7)) ?_
  show XS (Evl.tCut _ _) _ _ [some (vr p0), some (va T z1.1), some (va T z2.1), some (va T z3.1), some (va T y7), none] (stt Ω [(k0, lstA T p0 (z6.2 : List Int))] [])
  obtain ⟨z47, hz47, hm⟩ := bnd_some hm
  refine xs_cut (Γ' := [some (vr p0), some (va T z47.1), some (va T z47.2.1), some (va T z3.1), some (va T y7), none]) (Ω' := (stt Ω [(k0, lstA T p0 (z47.2.2 : List Int))] [])) ?_ ?_
  · clear hm
    have hm := hz47
    clear hz47
    by_cases hc : (decide (z3.1 = (1 : Int))) = true
    · rw [if_pos hc] at hm
      refine xs_ifT1 (xt_eq (xt_test (T := T) (xe_eqI (xe_var (i := 3) rfl) xe_int)) hc) ?_
      obtain ⟨z8, hz8, hm⟩ := bnd_some hm
      obtain ⟨z9, hz9, hm⟩ := bnd_some hm
      obtain ⟨z10, hz10, hm⟩ := bnd_some hm
      obtain ⟨y11, hy11, hm⟩ := bnd_some hm
      refine xs_set1 (A := va T y11) (xe_eq (xe_shl (chkP_some hz10) (xe_mul (chkP_some hz8) (xe_bor (xe_var (i := 4) rfl) xe_int) (xe_var (i := 2) rfl)) (xe_call (xa_cons (xe_var (i := 0) rfl) (xa_cons xe_int xa_nil)) ⟨k0, p0, z6.2, (40 : Int), z9, rfl, (stt_get ok (i := 0) rfl), hz9, rfl⟩ (cal1 ok (i := 0) rfl))) (Option.some.inj hy11)) ?_
      obtain rfl := Option.some.inj hm
      exact fun σ H n => n
    · rw [if_neg hc] at hm
      refine xs_ifF1 (xt_eq (xt_test (T := T) (xe_eqI (xe_var (i := 3) rfl) xe_int)) (nt hc)) ?_
      by_cases hc : (decide (z3.1 = (2 : Int))) = true
      · rw [if_pos hc] at hm
        refine xs_ifT1 (xt_eq (xt_test (T := T) (xe_eqI (xe_var (i := 3) rfl) xe_int)) hc) ?_
        obtain ⟨z13, hz13, hm⟩ := bnd_some hm
        obtain ⟨z14, hz14, hm⟩ := bnd_some hm
        obtain ⟨z15, hz15, hm⟩ := bnd_some hm
        obtain ⟨z16, hz16, hm⟩ := bnd_some hm
        obtain ⟨y17, hy17, hm⟩ := bnd_some hm
        refine xs_set1 (A := va T y17) (xe_eq (xe_sub (xe_add (xe_shl (chkP_some hz15) (xe_mul (chkP_some hz13) (xe_var (i := 4) rfl) (xe_var (i := 2) rfl)) (xe_call (xa_cons (xe_var (i := 0) rfl) (xa_cons xe_int xa_nil)) ⟨k0, p0, z6.2, (40 : Int), z14, rfl, (stt_get ok (i := 0) rfl), hz14, rfl⟩ (cal1 ok (i := 0) rfl))) (xe_call (xa_cons (xe_var (i := 0) rfl) (xa_cons xe_int xa_nil)) ⟨k0, p0, z14.2, (3 : Int), z16, rfl, (stt_get ok (i := 0) rfl), hz16, rfl⟩ (cal1 ok (i := 0) rfl))) xe_int) (Option.some.inj hy17)) ?_
        obtain rfl := Option.some.inj hm
        exact fun σ H n => n
      · rw [if_neg hc] at hm
        refine xs_ifF1 (xt_eq (xt_test (T := T) (xe_eqI (xe_var (i := 3) rfl) xe_int)) (nt hc)) ?_
        by_cases hc : (decide (z3.1 = (3 : Int))) = true
        · rw [if_pos hc] at hm
          refine xs_ifT1 (xt_eq (xt_test (T := T) (xe_eqI (xe_var (i := 3) rfl) xe_int)) hc) ?_
          obtain ⟨z19, hz19, hm⟩ := bnd_some hm
          obtain ⟨z20, hz20, hm⟩ := bnd_some hm
          obtain ⟨z21, hz21, hm⟩ := bnd_some hm
          obtain ⟨z22, hz22, hm⟩ := bnd_some hm
          obtain ⟨z23, hz23, hm⟩ := bnd_some hm
          obtain ⟨y24, hy24, hm⟩ := bnd_some hm
          refine xs_set1 (A := va T y24) (xe_eq (xe_add (xe_mul (chkP_some hz21) (xe_sub (xe_shl (chkP_some hz19) xe_int xe_int) (xe_shl (chkP_some hz20) xe_int xe_int)) (xe_var (i := 2) rfl)) (xe_call (xa_cons (xe_var (i := 0) rfl) (xa_cons (xe_lst (l := [(-(1 : Int)), (0 : Int), (1 : Int), (-(1 : Int)), ((0 : Int) - z2.1), ((0 : Int) - (z2.1 * 2 ^ ((960 : Int)).toNat))]) (xa_cons (xe_neg xe_int) (xa_cons xe_int (xa_cons xe_int (xa_cons (xe_neg xe_int) (xa_cons (xe_sub xe_int (xe_var (i := 2) rfl)) (xa_cons (xe_sub xe_int (xe_shl (chkP_some hz22) (xe_var (i := 2) rfl) xe_int)) xa_nil)))))) (by show 6 ≤ sizeLine; decide)) xa_nil)) ⟨k0, p0, z6.2, ([(-(1 : Int)), (0 : Int), (1 : Int), (-(1 : Int)), ((0 : Int) - z2.1), ((0 : Int) - (z2.1 * 2 ^ ((960 : Int)).toNat))] : List Int), z23, rfl, (stt_get ok (i := 0) rfl), hz23, rfl⟩ (cal1 ok (i := 0) rfl))) (Option.some.inj hy24)) ?_
          obtain rfl := Option.some.inj hm
          exact fun σ H n => n
        · rw [if_neg hc] at hm
          refine xs_ifF1 (xt_eq (xt_test (T := T) (xe_eqI (xe_var (i := 3) rfl) xe_int)) (nt hc)) ?_
          by_cases hc : (decide (z3.1 = (4 : Int))) = true
          · rw [if_pos hc] at hm
            refine xs_ifT1 (xt_eq (xt_test (T := T) (xe_eqI (xe_var (i := 3) rfl) xe_int)) hc) ?_
            obtain ⟨z26, hz26, hm⟩ := bnd_some hm
            obtain ⟨z27, hz27, hm⟩ := bnd_some hm
            obtain ⟨z28, hz28, hm⟩ := bnd_some hm
            obtain ⟨y29, hy29, hm⟩ := bnd_some hm
            refine xs_set1 (A := va T y29) (xe_eq (xe_sub (xe_add (xe_shl (chkP_some hz27) (xe_var (i := 1) rfl) (xe_add xe_int (xe_call (xa_cons (xe_var (i := 0) rfl) (xa_cons xe_int xa_nil)) ⟨k0, p0, z6.2, (100 : Int), z26, rfl, (stt_get ok (i := 0) rfl), hz26, rfl⟩ (cal1 ok (i := 0) rfl)))) (xe_call (xa_cons (xe_var (i := 0) rfl) (xa_cons xe_int xa_nil)) ⟨k0, p0, z26.2, (3 : Int), z28, rfl, (stt_get ok (i := 0) rfl), hz28, rfl⟩ (cal1 ok (i := 0) rfl))) xe_int) (Option.some.inj hy29)) ?_
            obtain rfl := Option.some.inj hm
            exact fun σ H n => n
          · rw [if_neg hc] at hm
            refine xs_ifF1 (xt_eq (xt_test (T := T) (xe_eqI (xe_var (i := 3) rfl) xe_int)) (nt hc)) ?_
            by_cases hc : (decide (z3.1 = (5 : Int))) = true
            · rw [if_pos hc] at hm
              refine xs_ifT1 (xt_eq (xt_test (T := T) (xe_eqI (xe_var (i := 3) rfl) xe_int)) hc) ?_
              obtain ⟨z31, hz31, hm⟩ := bnd_some hm
              obtain ⟨z32, hz32, hm⟩ := bnd_some hm
              obtain ⟨z33, hz33, hm⟩ := bnd_some hm
              obtain ⟨y34, hy34, hm⟩ := bnd_some hm
              obtain ⟨y35, hy35, hm⟩ := bnd_some hm
              refine xs_par21 (A := va T y34) (B := va T y35) (xa_cons (xe_eq (xe_add (xe_var (i := 4) rfl) (xe_call (xa_cons (xe_var (i := 0) rfl) (xa_cons xe_int xa_nil)) ⟨k0, p0, z6.2, (2 : Int), z31, rfl, (stt_get ok (i := 0) rfl), hz31, rfl⟩ (cal1 ok (i := 0) rfl))) (Option.some.inj hy34)) (xa_cons (xe_eq (xe_shl (chkP_some hz33) xe_int (xe_add xe_int (xe_call (xa_cons (xe_var (i := 0) rfl) (xa_cons xe_int xa_nil)) ⟨k0, p0, z31.2, (150 : Int), z32, rfl, (stt_get ok (i := 0) rfl), hz32, rfl⟩ (cal1 ok (i := 0) rfl)))) (Option.some.inj hy35)) xa_nil)) ?_
              obtain rfl := Option.some.inj hm
              exact fun σ H n => n
            · rw [if_neg hc] at hm
              refine xs_ifF1 (xt_eq (xt_test (T := T) (xe_eqI (xe_var (i := 3) rfl) xe_int)) (nt hc)) ?_
              by_cases hc : (decide (z3.1 = (6 : Int))) = true
              · rw [if_pos hc] at hm
                refine xs_ifT1 (xt_eq (xt_test (T := T) (xe_eqI (xe_var (i := 3) rfl) xe_int)) hc) ?_
                obtain ⟨z37, hz37, hm⟩ := bnd_some hm
                obtain ⟨z38, hz38, hm⟩ := bnd_some hm
                refine xs_set (A := va T z38.1) (xe_call (xa_cons (xe_var (i := 0) rfl) (xa_cons (xe_call (xa_cons (xe_var (i := 0) rfl) (xa_cons (xe_lst (l := [(300 : Int), (9000 : Int)]) (xa_cons xe_int (xa_cons xe_int xa_nil)) (by show 2 ≤ sizeLine; decide)) xa_nil)) ⟨k0, p0, z6.2, ([(300 : Int), (9000 : Int)] : List Int), z37, rfl, (stt_get ok (i := 0) rfl), hz37, rfl⟩ (cal1 ok (i := 0) rfl)) xa_nil)) ⟨k0, p0, z37.2, z37.1, z38, rfl, (stt_get ok (i := 0) rfl), hz38, rfl⟩ (cal1 ok (i := 0) rfl)) ?_
                show XS (tSeq _ _) _ _ [some (vr p0), some (va T z1.1), some (va T z2.1), some (va T z3.1), some (va T y7), some (va T z38.1)] (stt Ω [(k0, lstA T p0 (z38.2 : List Int))] [])
                obtain ⟨z39, hz39, hm⟩ := bnd_some hm
                obtain ⟨z40, hz40, hm⟩ := bnd_some hm
                obtain ⟨y41, hy41, hm⟩ := bnd_some hm
                refine xs_set (A := va T y41) (xe_eq (xe_max2 xe_int (xe_sub (xe_add (xe_shl (chkP_some hz39) (xe_var (i := 1) rfl) (xe_var (i := 5) rfl)) (xe_call (xa_cons (xe_var (i := 0) rfl) (xa_cons xe_int xa_nil)) ⟨k0, p0, z38.2, (3 : Int), z40, rfl, (stt_get ok (i := 0) rfl), hz40, rfl⟩ (cal1 ok (i := 0) rfl))) xe_int)) (Option.some.inj hy41)) ?_
                show XS (tAsg _ _) _ _ [some (vr p0), some (va T y41), some (va T z2.1), some (va T z3.1), some (va T y7), some (va T z38.1)] (stt Ω [(k0, lstA T p0 (z40.2 : List Int))] [])
                obtain ⟨z42, hz42, hm⟩ := bnd_some hm
                obtain ⟨z43, hz43, hm⟩ := bnd_some hm
                obtain ⟨y44, hy44, hm⟩ := bnd_some hm
                refine xs_set1 (A := va T y44) (xe_eq (xe_add (xe_shl (chkP_some hz42) (xe_var (i := 2) rfl) (xe_var (i := 5) rfl)) (xe_call (xa_cons (xe_var (i := 0) rfl) (xa_cons xe_int xa_nil)) ⟨k0, p0, z40.2, (3 : Int), z43, rfl, (stt_get ok (i := 0) rfl), hz43, rfl⟩ (cal1 ok (i := 0) rfl))) (Option.some.inj hy44)) ?_
                obtain rfl := Option.some.inj hm
                exact fun σ H n => (n.forget 5)
              · rw [if_neg hc] at hm
                refine xs_ifF1 (xt_eq (xt_test (T := T) (xe_eqI (xe_var (i := 3) rfl) xe_int)) (nt hc)) ?_
                obtain rfl := Option.some.inj hm
                exact fun σ H n => n
  · obtain rfl := Option.some.inj hm
    refine xs_ret (xe_tup2 (xa_cons (xe_var (i := 1) rfl) (xa_cons (xe_var (i := 2) rfl) xa_nil))) hrt.all
noncomputable def M__law_shifted (x0 : Int) (x1 : Int) (x2 : Int) : Option (T3 Int DF (LF (T3 Str Int Int))) :=
  (M__law_row x0 x2).bind fun z1 => (some (z1.length : Int)).bind fun y2 => (chkP (CDivW ((x1.natAbs : Nat) : Int) x2)).bind fun z3 => (chkP (0 < x2)).bind fun z4 => (some (((x1.natAbs : Nat) : Int) / x2)).bind fun y5 => (some (((x1.natAbs : Nat) : Int) % x2)).bind fun y6 => if (decide (x1 ≤ (0 : Int))) = true then (chkP (CShl x0 ((x1.natAbs : Nat) : Int))).bind fun z7 => (chkP ((([(("shifted" : Str), y2)] : List (Str × Int)).map (·.1)).Nodup)).bind fun z8 => some (T3.mk (x0 * 2 ^ (((x1.natAbs : Nat) : Int)).toNat) (DF.mk ([(("shifted" : Str), y2)])) (LF.mk ([(T3.mk ("lift" : Str) y2 y6)] : List (T3 Str Int Int)))) else (chkP ((([(("shifted" : Str), (y2 - y5))] : List (Str × Int)).map (·.1)).Nodup)).bind fun z9 => (some ([(("shifted" : Str), (y2 - y5))])).bind fun y10 => (chkP (IntMulOk x2 y5)).bind fun z13 => (chkP (0 ≤ (x2 * y5))).bind fun z14 => (chkP (CShl (1 : Int) y6)).bind fun z15 => (if ((decide ((Builtin.bitAnd (x0 / 2 ^ ((x2 * y5)).toNat) (((1 : Int) * 2 ^ (y6).toNat) - (1 : Int))) = (0 : Int))) && (decide ((0 : Int) < y5))) = true then (some (y5 - (1 : Int))).bind fun y16 => (whileM (ρ := Unit) (fun (s17 : Int) => (if (decide ((0 : Int) < s17)) = true then (chkP (IntMulOk x2 s17)).bind fun z18 => (chkP (0 ≤ (x2 * s17))).bind fun z19 => (chkP (CShl (1 : Int) x2)).bind fun z20 => some (decide ((Builtin.bitAnd (x0 / 2 ^ ((x2 * s17)).toNat) (((1 : Int) * 2 ^ (x2).toNat) - (1 : Int))) = (0 : Int))) else some false).bind fun z21 => some z21) (fun (s17 : Int) => (some (s17 - (1 : Int))).bind fun y23 => some (Stp.nx y23)) ((y16).toNat + 1) y16).bind fun z24 => (nxt z24).bind fun s25 => (chkP (y10.length < sizeLine)).bind fun z26 => some (dput y10 ("looked" : Str) (y5 - s25)) else some y10).bind fun z29 => (chkP (0 ≤ x1)).bind fun z30 => some (T3.mk (x0 / 2 ^ (x1).toNat) (DF.mk z29) (LF.mk ([(T3.mk ("lower" : Str) (y2 - y5) y6)] : List (T3 Str Int Int))))
def Pre__law_shifted (T : TC) : PreT := fun As Ω R => ∃ (x0 : Int) (x1 : Int) (x2 : Int) (r : (T3 Int DF (LF (T3 Str Int Int)))), As = [va T x0, va T x1, va T x2] ∧ M__law_shifted x0 x1 x2 = some r ∧ R = RNT T (stt Ω [] []) (fun q => rawD q (dkv r.b.l)) (va T r.a) (va T r.c)
theorem sc__law_shifted : FnScope ["_law_one", "_law_by", "_law_wide", "_law_size", "_law_word_so", "_law_low", "_law_due_here", "_law_place"] ["_law_one", "_law_by", "_law_wide"] (defScope s__law_shifted) := ⟨rfl, rfl, rfl, by decide +kernel, rfl, by decide +kernel, by decide +kernel⟩
theorem ok__law_shifted {f : Addr} {fd : FuncData} (F : Fun T.K "_law_shifted" "_law_shifted" s__law_shifted f fd) (c__law_row : Cal P w T.K mg base 2 "_law_row" ["_law_number", "_law_wide"] (mkSp (Pre__law_row T))) (z_len : mg "len" = none) (z_abs : mg "abs" = none) (z_int : mg "int" = none) : FnOk P w T.K mg base CX0 3 f fd ["_law_one", "_law_by", "_law_wide"] (mkSp (Pre__law_shifted T)) := by
  refine fn_ok F sc__law_shifted (fun As Ω R h => ?_) (fun cdv A outer s H E hr As Ω R F0 h => ?_)
  · obtain ⟨x0, x1, x2, r, rfl, _⟩ := h
    rfl
  obtain ⟨x0, x1, x2, r, rfl, hm, rfl⟩ := h
  refine ⟨_, (pss_cons (ps_set (i := 3) sc__law_shifted.nd rfl (.inl rfl) (pe_callB (cr_lenK (K := T.K) rfl) (by rfl) z_len PySem.boot_len (pa_cons (pe_cal c__law_row (hr.mono (by decide)) (by rfl) (pa_cons (pv 0) (pa_cons (pv 2) pa_nil))) pa_nil))) (pss_cons (ps_par (i := 4) (j := 5) rfl sc__law_shifted.nd rfl rfl (by decide) rfl rfl (pa_cons (pe_op op_fdivW (pe_callB cr_abs (by rfl) z_abs (by decide +kernel) (pa_cons (pv 1) pa_nil)) (pv 2)) (pa_cons (pe_op op_mod (pe_callTy cr_int (by rfl) z_int (by decide +kernel) (pa_cons (pe_callB cr_abs (by rfl) z_abs (by decide +kernel) (pa_cons (pv 1) pa_nil)) pa_nil)) (pv 2)) pa_nil)) (by rfl)) (pss_cons (ps_if (pt_cmpR op_le (pv 1) pe_int (nomark _)) (pss_one (ps_ret (pe_tup (pa_cons (pe_op op_shlW (pv 0) (pe_callB cr_abs (by rfl) z_abs (by decide +kernel) (pa_cons (pv 1) pa_nil))) (pa_cons (pe_disp (pps_cons pe_str (pv 3) pps_nil) (by rfl) (by rfl) (fun z => by cases z) (by decide)) (pa_cons (pe_lst (pa_cons (pe_tup (pa_cons pe_str (pa_cons (pv 3) (pa_cons (pv 5) pa_nil)))) pa_nil)) pa_nil)))))) pss_nil) (pss_cons (ps_set (i := 6) sc__law_shifted.nd rfl (.inl rfl) (pe_disp (pps_cons pe_str (pe_op op_sub (pv 3) (pv 4)) pps_nil) (by rfl) (by rfl) (fun z => by cases z) (by decide))) (Evl.pss_cut (ps_if (PW.pt (pw_and (pt_cmpR (op_eqXK (K := T.K) (by exact hr.units) rfl) (pe_op op_and (pe_op op_shr (pv 0) (pe_op op_mulQ (pv 2) (pv 4))) (pe_op op_sub (pe_op op_shlW pe_int (pv 5)) pe_int)) pe_int (nomark _)) (pw_and1 (pt_cmpR op_gt (pv 4) pe_int (nomark _))))) (pss_cons (ps_set (i := 7) sc__law_shifted.nd rfl (.inl rfl) (pe_op op_sub (pv 4) pe_int)) (pss_cons (ps_while PassesOwn.never (PW.pt (pw_and (pt_cmpR op_gt (pv 7) pe_int (nomark _)) (pw_and1 (pt_cmpR (op_eqXK (K := T.K) (by exact hr.units) rfl) (pe_op op_and (pe_op op_shr (pv 0) (pe_op op_mulQ (pv 2) (pv 7))) (pe_op op_sub (pe_op op_shlW pe_int (pv 2)) pe_int)) pe_int (nomark _))))) (pss_one (ps_set (i := 7) sc__law_shifted.nd rfl (.inl rfl) (pe_op op_sub (pv 7) pe_int)))) (pss_one (ps_asg (pe_op op_sub (pv 4) (pv 7)) (pg_sub (pv 6) pe_str (set_dict (Nat.lt_of_le_of_lt (Nat.add_le_add_left (by decide : 1 ≤ 64) _) (by exact hr.units)))))))) pss_nil) (pss_one (ps_ret (pe_tup (pa_cons (pe_op op_shr (pv 0) (pv 1)) (pa_cons (pv 6) (pa_cons (pe_lst (pa_cons (pe_tup (pa_cons pe_str (pa_cons (pe_op op_sub (pv 3) (pv 4)) (pa_cons (pv 5) pa_nil)))) pa_nil)) pa_nil))))))))))), fun D hrt hnx => ?_⟩
  have ok : Okk Ω [] := okk0
  suffices hx : XS _ D F0 [some (va T x0), some (va T x1), some (va T x2), none, none, none, none, none] (stt Ω [] []) by
    rw [show (stt Ω [] []) = Ω from stt_self (by simp)] at hx
    exact hx
  unfold M__law_shifted at hm
  obtain ⟨z1, hz1, hm⟩ := bnd_some hm
  obtain ⟨y2, hy2, hm⟩ := bnd_some hm
  refine xs_set (A := va T y2) (xe_eq (xe_lenL (xe_call (xa_cons (xe_var (i := 0) rfl) (xa_cons (xe_var (i := 2) rfl) xa_nil)) ⟨x0, x2, z1, rfl, hz1, rfl⟩ cal0) isL_LF) (Option.some.inj hy2)) ?_
  show XS (tSeq _ _) _ _ [some (va T x0), some (va T x1), some (va T x2), some (va T y2), none, none, none, none] (stt Ω [] [])
  obtain ⟨z3, hz3, hm⟩ := bnd_some hm
  obtain ⟨z4, hz4, hm⟩ := bnd_some hm
  obtain ⟨y5, hy5, hm⟩ := bnd_some hm
  obtain ⟨y6, hy6, hm⟩ := bnd_some hm
  refine xs_par2 (A := va T y5) (B := va T y6) (xa_cons (xe_eq (xe_fdiv (chkP_some hz3) (xe_abs (xe_var (i := 1) rfl)) (xe_var (i := 2) rfl)) (Option.some.inj hy5)) (xa_cons (xe_eq (xe_mod (chkP_some hz4) (xe_int1 (xe_abs (xe_var (i := 1) rfl))) (xe_var (i := 2) rfl)) (Option.some.inj hy6)) xa_nil)) ?_
  show XS (tSeq _ _) _ _ [some (va T x0), some (va T x1), some (va T x2), some (va T y2), some (va T y5), some (va T y6), none, none] (stt Ω [] [])
  by_cases hc : (decide (x1 ≤ (0 : Int))) = true
  · rw [if_pos hc] at hm
    refine xs_ifT (xt_eq (xt_test (T := T) (xe_le (xe_var (i := 1) rfl) xe_int)) hc) ?_
    obtain ⟨z7, hz7, hm⟩ := bnd_some hm
    obtain ⟨z8, hz8, hm⟩ := bnd_some hm
    obtain rfl := Option.some.inj hm
    refine xs_ret (xg_tup3N (xe_shl (chkP_some hz7) (xe_var (i := 0) rfl) (xe_abs (xe_var (i := 1) rfl))) (xn_disp (fun X => (xps_cons (T := T) xe_str (xe_var (i := 3) rfl) xps_nil)) (chkP_some hz8) (by show 1 ≤ 15; decide)) (fun q => (xe_lst (l := [(T3.mk ("lift" : Str) y2 y6)]) (xa_cons (xe_tup3 (xa_cons xe_str (xa_cons (xe_var (i := 3) rfl) (xa_cons (xe_var (i := 5) rfl) xa_nil)))) xa_nil) (by show 1 ≤ sizeLine; decide)))) (RT.allNT hrt)
  · rw [if_neg hc] at hm
    refine xs_ifN (xt_eq (xt_test (T := T) (xe_le (xe_var (i := 1) rfl) xe_int)) (nt hc)) ?_
    show XS (tSeq _ _) _ _ [some (va T x0), some (va T x1), some (va T x2), some (va T y2), some (va T y5), some (va T y6), none, none] (stt Ω [] [])
    obtain ⟨z9, hz9, hm⟩ := bnd_some hm
    obtain ⟨y10, hy10, hm⟩ := bnd_some hm
    obtain rfl := Option.some.inj hy10
    refine xs_setO ((xn_disp (fun X => (xps_cons (T := T) xe_str (xe_sub (xe_var (i := 3) rfl) (xe_var (i := 4) rfl)) xps_nil)) (chkP_some hz9) (by show 1 ≤ 15; decide))) (fun pp11 => ?_)
    show XS (Evl.tCut _ _) _ _ [some (va T x0), some (va T x1), some (va T x2), some (va T y2), some (va T y5), some (va T y6), some (vr pp11), none] (stt Ω [] [rawD pp11 (dkv ([(("shifted" : Str), (y2 - y5))]))])
    obtain ⟨z13, hz13, hm⟩ := bnd_some hm
    obtain ⟨z14, hz14, hm⟩ := bnd_some hm
    obtain ⟨z15, hz15, hm⟩ := bnd_some hm
    obtain ⟨z29, hz29, hm⟩ := bnd_some hm
    refine xs_cut (Γ' := [some (va T x0), some (va T x1), some (va T x2), some (va T y2), some (va T y5), some (va T y6), some (vr pp11), none]) (Ω' := (stt Ω [] [rawD pp11 (dkv z29)])) ?_ ?_
    · clear hm
      have hm := hz29
      clear hz29
      by_cases hc : ((decide ((Builtin.bitAnd (x0 / 2 ^ ((x2 * y5)).toNat) (((1 : Int) * 2 ^ (y6).toNat) - (1 : Int))) = (0 : Int))) && (decide ((0 : Int) < y5))) = true
      · rw [if_pos hc] at hm
        refine xs_ifT1 (xt_eq (xt_and (xt_test (T := T) (xe_eqI (xe_band (xe_shr (chkP_some hz14) (xe_var (i := 0) rfl) (xe_mul (chkP_some hz13) (xe_var (i := 2) rfl) (xe_var (i := 4) rfl))) (xe_sub (xe_shl (chkP_some hz15) xe_int (xe_var (i := 5) rfl)) xe_int)) xe_int)) (fun _ => (xt_test (T := T) (xe_gt (xe_var (i := 4) rfl) xe_int))) (fun _ => rfl)) hc) ?_
        obtain ⟨y16, hy16, hm⟩ := bnd_some hm
        refine xs_set (A := va T y16) (xe_eq (xe_sub (xe_var (i := 4) rfl) xe_int) (Option.some.inj hy16)) ?_
        show XS (tSeq _ _) _ _ [some (va T x0), some (va T x1), some (va T x2), some (va T y2), some (va T y5), some (va T y6), some (vr pp11), some (va T y16)] (stt Ω [] [rawD pp11 (dkv ([(("shifted" : Str), (y2 - y5))]))])
        obtain ⟨z24, hz24, hm⟩ := bnd_some hm
        refine xs_whileS (fun (s17 : Int) => [some (va T x0), some (va T x1), some (va T x2), some (va T y2), some (va T y5), some (va T y6), some (vr pp11), some (va T s17)]) (fun (s17 : Int) => (stt Ω [] [rawD pp11 (dkv ([(("shifted" : Str), (y2 - y5))]))])) (fun (_ : Unit) _ _ _ => False) hz24 (fun s17 v hc => ?_) (fun s17 s' hc0 hm F1 D1 e1 hD => ?_) (fun s25 es => ?_) (fun r1 es => ?_)
        · clear hm
          have hm := hc
          obtain ⟨z21, hz21, hm⟩ := bnd_some hm
          obtain rfl := Option.some.inj hm
          refine (xt_andO (xt_test (T := T) (xe_gt (xe_var (i := 7) rfl) xe_int)) hz21 ?q22)
          case q22 =>
            exact (fun v hm => by
              obtain ⟨z18, hz18, hm⟩ := bnd_some hm
              obtain ⟨z19, hz19, hm⟩ := bnd_some hm
              obtain ⟨z20, hz20, hm⟩ := bnd_some hm
              obtain rfl := Option.some.inj hm
              exact (xt_test (T := T) (xe_eqI (xe_band (xe_shr (chkP_some hz19) (xe_var (i := 0) rfl) (xe_mul (chkP_some hz18) (xe_var (i := 2) rfl) (xe_var (i := 7) rfl))) (xe_sub (xe_shl (chkP_some hz20) xe_int (xe_var (i := 2) rfl)) xe_int)) xe_int)))
        · clear hc0
          show XS (tAsg _ _) _ _ [some (va T x0), some (va T x1), some (va T x2), some (va T y2), some (va T y5), some (va T y6), some (vr pp11), some (va T s17)] (stt Ω [] [rawD pp11 (dkv ([(("shifted" : Str), (y2 - y5))]))])
          obtain ⟨y23, hy23, hm⟩ := bnd_some hm
          refine xs_set1 (A := va T y23) (xe_eq (xe_sub (xe_var (i := 7) rfl) xe_int) (Option.some.inj hy23)) ?_
          obtain rfl := Option.some.inj hm
          exact fun σ H n => hD.nx _ rfl σ H n
        · subst es
          obtain ⟨s2, hs2, hm⟩ := bnd_some hm
          cases hs2
          show XS (tAsg _ _) _ _ [some (va T x0), some (va T x1), some (va T x2), some (va T y2), some (va T y5), some (va T y6), some (vr pp11), some (va T s25)] (stt Ω [] [rawD pp11 (dkv ([(("shifted" : Str), (y2 - y5))]))])
          obtain ⟨z26, hz26, hm⟩ := bnd_some hm
          refine xs_asgO1 (xe_sub (xe_var (i := 4) rfl) (xe_var (i := 7) rfl)) (tgo_dict (T := T) (xe_var (i := 6) rfl) xe_str (stt_getL (j := 0) rfl) (chkP_some hz26) (stt_setL (j := 0))) ?_
          obtain rfl := Option.some.inj hm
          exact fun σ H n => (n.forget 7)
        · subst es
          cases hm
      · rw [if_neg hc] at hm
        refine xs_ifF1 (xt_eq (xt_and (xt_test (T := T) (xe_eqI (xe_band (xe_shr (chkP_some hz14) (xe_var (i := 0) rfl) (xe_mul (chkP_some hz13) (xe_var (i := 2) rfl) (xe_var (i := 4) rfl))) (xe_sub (xe_shl (chkP_some hz15) xe_int (xe_var (i := 5) rfl)) xe_int)) xe_int)) (fun _ => (xt_test (T := T) (xe_gt (xe_var (i := 4) rfl) xe_int))) (fun _ => rfl)) (nt hc)) ?_
        obtain rfl := Option.some.inj hm
        exact fun σ H n => n
    · obtain ⟨z30, hz30, hm⟩ := bnd_some hm
      obtain rfl := Option.some.inj hm
      refine xs_ret (xg_tupNT (xa_cons (xe_shr (chkP_some hz30) (xe_var (i := 0) rfl) (xe_var (i := 1) rfl)) (xa_cons (xe_var (i := 6) rfl) (xa_cons (xe_lst (l := [(T3.mk ("lower" : Str) (y2 - y5) y6)]) (xa_cons (xe_tup3 (xa_cons xe_str (xa_cons (xe_sub (xe_var (i := 3) rfl) (xe_var (i := 4) rfl)) (xa_cons (xe_var (i := 5) rfl) xa_nil)))) xa_nil) (by show 1 ≤ sizeLine; decide)) xa_nil)))) (RT.handNT hrt (j := 0) rfl)
noncomputable def M__law_due (x0 : Int) (x1 : Int) (x2 : Int) : Option (DF × (LF (T3 Str Int Int))) :=
  if (decide (x0 = (0 : Int))) = true then some ((DF.mk []), (LF.mk ([] : List (T3 Str Int Int)))) else if (decide ((max ((Builtin.Int.intBits x0 : Nat) : Int) ((Builtin.Int.intBits x1 : Nat) : Int)) ≤ (53 : Int))) = true then (chkP ((([(("short" : Str), (1 : Int))] : List (Str × Int)).map (·.1)).Nodup)).bind fun z1 => some ((DF.mk [(("short" : Str), (1 : Int))]), (LF.mk ([] : List (T3 Str Int Int)))) else (some (((Builtin.Int.intBits x0 : Nat) : Int) - ((Builtin.Int.intBits x1 : Nat) : Int))).bind fun y2 => if (decide (y2 < ((0 : Int) - (1075 : Int)))) = true then some ((DF.mk []), (LF.mk ([] : List (T3 Str Int Int)))) else (M__law_shifted x0 ((max y2 ((0 : Int) - (1021 : Int))) - (55 : Int)) x2).bind fun z3 => (M__law_row x0 x2).bind fun z6 => (M__law_row x1 x2).bind fun z7 => (chkP (([(T3.mk ("ratio" : Str) (z6.length : Int) (z7.length : Int))] : List (T3 Str Int Int)).length + z3.c.l.length ≤ sizeLine)).bind fun z8 => (some (([(T3.mk ("ratio" : Str) (z6.length : Int) (z7.length : Int))] : List (T3 Str Int Int)) ++ z3.c.l)).bind fun y9 => (M__law_row z3.a x2).bind fun z10 => (some (z10.length : Int)).bind fun y11 => (M__law_row x1 x2).bind fun z12 => if (decide ((z12.length : Int) = (1 : Int))) = true then (chkP (z3.b.l.length < sizeLine)).bind fun z13 => (chkP (y9.length + ([(T3.mk ("divide short" : Str) y11 (1 : Int))] : List (T3 Str Int Int)).length ≤ sizeLine)).bind fun z14 => some ((DF.mk (dput z3.b.l ("quotient" : Str) y11)), (LF.mk (y9 ++ ([(T3.mk ("divide short" : Str) y11 (1 : Int))] : List (T3 Str Int Int))))) else (M__law_long_counts z3.a x1 x2).bind fun z15 => (z15.1.l.lookup ("shifted" : Str)).bind fun z18 => (z3.b.l.lookup ("shifted" : Str)).bind fun z19 => (chkP (z15.1.l.length < sizeLine)).bind fun z20 => (chkP ((dput z15.1.l ("shifted" : Str) (z18 + z19)).length < sizeLine)).bind fun z21 => (chkP (y9.length + z15.2.l.length ≤ sizeLine)).bind fun z22 => some ((DF.mk (dput (dput z15.1.l ("shifted" : Str) (z18 + z19)) ("looked" : Str) ((z3.b.l.lookup ("looked" : Str)).getD (0 : Int)))), (LF.mk (y9 ++ z15.2.l)))
def Pre__law_due (T : TC) : PreT := fun As Ω R => ∃ (x0 : Int) (x1 : Int) (x2 : Int) (r : (DF × (LF (T3 Str Int Int)))), As = [va T x0, va T x1, va T x2] ∧ M__law_due x0 x1 x2 = some r ∧ R = RV (va T r) (stt Ω [] [])
theorem sc__law_due : FnScope ["_law_one", "_law_other", "_law_wide", "_law_far", "_law_made_so", "_law_due_here", "_law_walk", "_law_size", "_law_more", "_law_way"] ["_law_one", "_law_other", "_law_wide"] (defScope s__law_due) := ⟨rfl, rfl, rfl, by decide +kernel, rfl, by decide +kernel, by decide +kernel⟩
theorem ok__law_due {f : Addr} {fd : FuncData} (F : Fun T.K "_law_due" "_law_due" s__law_due f fd) (z_max : mg "max" = none) (c__law_shifted : Cal P w T.K mg base 3 "_law_shifted" ["_law_one", "_law_by", "_law_wide"] (mkSp (Pre__law_shifted T))) (c__law_row : Cal P w T.K mg base 2 "_law_row" ["_law_number", "_law_wide"] (mkSp (Pre__law_row T))) (z_len : mg "len" = none) (c__law_long_counts : Cal P w T.K mg base 4 "_law_long_counts" ["_law_size", "_law_other", "_law_wide"] (mkSp (Pre__law_long_counts T))) : FnOk P w T.K mg base CX0 5 f fd ["_law_one", "_law_other", "_law_wide"] (mkSp (Pre__law_due T)) := by
  refine fn_ok F sc__law_due (fun As Ω R h => ?_) (fun cdv A outer s H E hr As Ω R F0 h => ?_)
  · obtain ⟨x0, x1, x2, r, rfl, _⟩ := h
    rfl
  obtain ⟨x0, x1, x2, r, rfl, hm, rfl⟩ := h
  refine ⟨_, (pss_cons (ps_if (pt_cmpR (op_eqXK (K := T.K) (by exact hr.units) rfl) (pv 0) pe_int (nomark _)) (pss_one (ps_ret (pe_tup (pa_cons (pe_fz pe_dnewK) (pa_cons (pe_lst pa_nil) pa_nil))))) pss_nil) (pss_cons (ps_if (pt_cmpR op_le (pe_callB (cr_max2 rfl) (by rfl) z_max (by decide +kernel) (pa_cons (pe_bits (pv 0)) (pa_cons (pe_bits (pv 1)) pa_nil))) pe_int (nomark _)) (pss_one (ps_ret (pe_tup (pa_cons (pe_fz (pe_disp (pps_cons pe_str pe_int pps_nil) (by rfl) (by rfl) (fun z => by cases z) (by decide))) (pa_cons (pe_lst pa_nil) pa_nil))))) pss_nil) (pss_cons (ps_set (i := 3) sc__law_due.nd rfl (.inl rfl) (pe_op op_sub (pe_bits (pv 0)) (pe_bits (pv 1)))) (pss_cons (ps_if (pt_cmpR op_lt (pv 3) (pe_op op_sub pe_int pe_int) (nomark _)) (pss_one (ps_ret (pe_tup (pa_cons (pe_fz pe_dnewK) (pa_cons (pe_lst pa_nil) pa_nil))))) pss_nil) (pss_cons (ps_asg (pe_cal c__law_shifted (hr.mono (by decide)) (by rfl) (pa_cons (pv 0) (pa_cons (pe_op op_sub (pe_callB (cr_max2 rfl) (by rfl) z_max (by decide +kernel) (pa_cons (pv 3) (pa_cons (pe_op op_sub pe_int pe_int) pa_nil))) pe_int) (pa_cons (pv 2) pa_nil)))) (pg_tupK (K := T.K) (n := 3) rfl rfl (pgs_cons (pg_name (i := 4) sc__law_due.nd rfl (.inl rfl)) (pgs_cons (pg_name (i := 5) sc__law_due.nd rfl (.inl rfl)) (pgs_cons (pg_name (i := 6) sc__law_due.nd rfl (.inl rfl)) pgs_nil))))) (pss_cons (ps_set (i := 6) sc__law_due.nd rfl (.inl rfl) (pe_op op_addQ (pe_lst (pa_cons (pe_tup (pa_cons pe_str (pa_cons (pe_callB (cr_lenK (K := T.K) rfl) (by rfl) z_len PySem.boot_len (pa_cons (pe_cal c__law_row (hr.mono (by decide)) (by rfl) (pa_cons (pv 0) (pa_cons (pv 2) pa_nil))) pa_nil)) (pa_cons (pe_callB (cr_lenK (K := T.K) rfl) (by rfl) z_len PySem.boot_len (pa_cons (pe_cal c__law_row (hr.mono (by decide)) (by rfl) (pa_cons (pv 1) (pa_cons (pv 2) pa_nil))) pa_nil)) pa_nil)))) pa_nil)) (pv 6))) (pss_cons (ps_set (i := 7) sc__law_due.nd rfl (.inl rfl) (pe_callB (cr_lenK (K := T.K) rfl) (by rfl) z_len PySem.boot_len (pa_cons (pe_cal c__law_row (hr.mono (by decide)) (by rfl) (pa_cons (pv 4) (pa_cons (pv 2) pa_nil))) pa_nil))) (pss_cons (ps_if (pt_cmpR (op_eqXK (K := T.K) (by exact hr.units) rfl) (pe_callB (cr_lenK (K := T.K) rfl) (by rfl) z_len PySem.boot_len (pa_cons (pe_cal c__law_row (hr.mono (by decide)) (by rfl) (pa_cons (pv 1) (pa_cons (pv 2) pa_nil))) pa_nil)) pe_int (nomark _)) (pss_cons (ps_asg (pv 7) (pg_sub (pv 5) pe_str (set_dict (Nat.lt_of_le_of_lt (Nat.add_le_add_left (by decide : 1 ≤ 64) _) (by exact hr.units))))) (pss_one (ps_ret (pe_tup (pa_cons (pe_fz (pv 5)) (pa_cons (pe_op op_addQ (pv 6) (pe_lst (pa_cons (pe_tup (pa_cons pe_str (pa_cons (pv 7) (pa_cons pe_int pa_nil)))) pa_nil))) pa_nil)))))) pss_nil) (pss_cons (ps_asg (pe_cal c__law_long_counts (hr.mono (by decide)) (by rfl) (pa_cons (pv 4) (pa_cons (pv 1) (pa_cons (pv 2) pa_nil)))) (pg_tupK (K := T.K) (n := 2) rfl rfl (pgs_cons (pg_name (i := 8) sc__law_due.nd rfl (.inl rfl)) (pgs_cons (pg_name (i := 9) sc__law_due.nd rfl (.inl rfl)) pgs_nil)))) (pss_cons (ps_asg (pe_op op_addQ (pe_dget (by exact hu_of hr) (pv 8) pe_str (by intro _ _; rfl)) (pe_dget (by exact hu_of hr) (pv 5) pe_str (by intro _ _; rfl))) (pg_sub (pv 8) pe_str (set_dict (Nat.lt_of_le_of_lt (Nat.add_le_add_left (by decide : 1 ≤ 64) _) (by exact hr.units))))) (pss_cons (ps_asg (pe_dget2 (by exact hu_of hr) (pv 5) pe_str pe_int ⟨by rfl, by rfl, by rfl, by rfl⟩) (pg_sub (pv 8) pe_str (set_dict (Nat.lt_of_le_of_lt (Nat.add_le_add_left (by decide : 1 ≤ 64) _) (by exact hr.units))))) (pss_one (ps_ret (pe_tup (pa_cons (pe_fz (pv 8)) (pa_cons (pe_op op_addQ (pv 6) (pv 9)) pa_nil)))))))))))))))), fun D hrt hnx => ?_⟩
  have ok : Okk Ω [] := okk0
  suffices hx : XS _ D F0 [some (va T x0), some (va T x1), some (va T x2), none, none, none, none, none, none, none] (stt Ω [] []) by
    rw [show (stt Ω [] []) = Ω from stt_self (by simp)] at hx
    exact hx
  unfold M__law_due at hm
  by_cases hc : (decide (x0 = (0 : Int))) = true
  · rw [if_pos hc] at hm
    refine xs_ifT (xt_eq (xt_test (T := T) (xe_eqI (xe_var (i := 0) rfl) xe_int)) hc) ?_
    obtain rfl := Option.some.inj hm
    refine xs_ret (xe_tup2 (xa_cons xe_disp0 (xa_cons (xe_lst (T := T) (l := ([] : List (T3 Str Int Int))) xa_nil (Nat.zero_le _)) xa_nil))) hrt.all
  · rw [if_neg hc] at hm
    refine xs_ifN (xt_eq (xt_test (T := T) (xe_eqI (xe_var (i := 0) rfl) xe_int)) (nt hc)) ?_
    show XS (tSeq _ _) _ _ [some (va T x0), some (va T x1), some (va T x2), none, none, none, none, none, none, none] (stt Ω [] [])
    by_cases hc : (decide ((max ((Builtin.Int.intBits x0 : Nat) : Int) ((Builtin.Int.intBits x1 : Nat) : Int)) ≤ (53 : Int))) = true
    · rw [if_pos hc] at hm
      refine xs_ifT (xt_eq (xt_test (T := T) (xe_le (xe_max2 (xe_bits (xe_var (i := 0) rfl)) (xe_bits (xe_var (i := 1) rfl))) xe_int)) hc) ?_
      obtain ⟨z1, hz1, hm⟩ := bnd_some hm
      obtain rfl := Option.some.inj hm
      refine xs_ret (xe_tup2 (xa_cons (xe_disp (fun X => (xps_cons (T := T) xe_str xe_int xps_nil)) (chkP_some hz1) (by show 1 ≤ 15; decide)) (xa_cons (xe_lst (T := T) (l := ([] : List (T3 Str Int Int))) xa_nil (Nat.zero_le _)) xa_nil))) hrt.all
    · rw [if_neg hc] at hm
      refine xs_ifN (xt_eq (xt_test (T := T) (xe_le (xe_max2 (xe_bits (xe_var (i := 0) rfl)) (xe_bits (xe_var (i := 1) rfl))) xe_int)) (nt hc)) ?_
      show XS (tSeq _ _) _ _ [some (va T x0), some (va T x1), some (va T x2), none, none, none, none, none, none, none] (stt Ω [] [])
      obtain ⟨y2, hy2, hm⟩ := bnd_some hm
      refine xs_set (A := va T y2) (xe_eq (xe_sub (xe_bits (xe_var (i := 0) rfl)) (xe_bits (xe_var (i := 1) rfl))) (Option.some.inj hy2)) ?_
      show XS (tSeq _ _) _ _ [some (va T x0), some (va T x1), some (va T x2), some (va T y2), none, none, none, none, none, none] (stt Ω [] [])
      by_cases hc : (decide (y2 < ((0 : Int) - (1075 : Int)))) = true
      · rw [if_pos hc] at hm
        refine xs_ifT (xt_eq (xt_test (T := T) (xe_lt (xe_var (i := 3) rfl) (xe_sub xe_int xe_int))) hc) ?_
        obtain rfl := Option.some.inj hm
        refine xs_ret (xe_tup2 (xa_cons xe_disp0 (xa_cons (xe_lst (T := T) (l := ([] : List (T3 Str Int Int))) xa_nil (Nat.zero_le _)) xa_nil))) hrt.all
      · rw [if_neg hc] at hm
        refine xs_ifN (xt_eq (xt_test (T := T) (xe_lt (xe_var (i := 3) rfl) (xe_sub xe_int xe_int))) (nt hc)) ?_
        show XS (tSeq _ _) _ _ [some (va T x0), some (va T x1), some (va T x2), some (va T y2), none, none, none, none, none, none] (stt Ω [] [])
        obtain ⟨z3, hz3, hm⟩ := bnd_some hm
        refine xs_asgNT (xn_callNT (xa_cons (xe_var (i := 0) rfl) (xa_cons (xe_sub (xe_max2 (xe_var (i := 3) rfl) (xe_sub xe_int xe_int)) xe_int) (xa_cons (xe_var (i := 2) rfl) xa_nil))) ⟨x0, ((max y2 ((0 : Int) - (1021 : Int))) - (55 : Int)), x2, z3, rfl, hz3, rfl⟩ cal0) (fun pp4 => ?_)
        show XS (tSeq _ _) _ _ [some (va T x0), some (va T x1), some (va T x2), some (va T y2), some (va T z3.a), some (vr pp4), some (va T (LF.mk z3.c.l)), none, none, none] (stt Ω [] [rawD pp4 (dkv z3.b.l)])
        obtain ⟨z6, hz6, hm⟩ := bnd_some hm
        obtain ⟨z7, hz7, hm⟩ := bnd_some hm
        obtain ⟨z8, hz8, hm⟩ := bnd_some hm
        obtain ⟨y9, hy9, hm⟩ := bnd_some hm
        refine xs_set (A := va T (LF.mk y9)) (xe_eq (xe_cat (xe_lst (l := [(T3.mk ("ratio" : Str) (z6.length : Int) (z7.length : Int))]) (xa_cons (xe_tup3 (xa_cons xe_str (xa_cons (xe_lenL (xe_call (xa_cons (xe_var (i := 0) rfl) (xa_cons (xe_var (i := 2) rfl) xa_nil)) ⟨x0, x2, z6, rfl, hz6, rfl⟩ cal0) isL_LF) (xa_cons (xe_lenL (xe_call (xa_cons (xe_var (i := 1) rfl) (xa_cons (xe_var (i := 2) rfl) xa_nil)) ⟨x1, x2, z7, rfl, hz7, rfl⟩ cal0) isL_LF) xa_nil)))) xa_nil) (by show 1 ≤ sizeLine; decide)) (xe_var (i := 6) rfl) isLs_LF isLs_LF (chkP_some hz8)) (congrArg LF.mk (Option.some.inj hy9))) ?_
        show XS (tSeq _ _) _ _ [some (va T x0), some (va T x1), some (va T x2), some (va T y2), some (va T z3.a), some (vr pp4), some (va T (LF.mk y9)), none, none, none] (stt Ω [] [rawD pp4 (dkv z3.b.l)])
        obtain ⟨z10, hz10, hm⟩ := bnd_some hm
        obtain ⟨y11, hy11, hm⟩ := bnd_some hm
        refine xs_set (A := va T y11) (xe_eq (xe_lenL (xe_call (xa_cons (xe_var (i := 4) rfl) (xa_cons (xe_var (i := 2) rfl) xa_nil)) ⟨z3.a, x2, z10, rfl, hz10, rfl⟩ cal0) isL_LF) (Option.some.inj hy11)) ?_
        show XS (tSeq _ _) _ _ [some (va T x0), some (va T x1), some (va T x2), some (va T y2), some (va T z3.a), some (vr pp4), some (va T (LF.mk y9)), some (va T y11), none, none] (stt Ω [] [rawD pp4 (dkv z3.b.l)])
        obtain ⟨z12, hz12, hm⟩ := bnd_some hm
        by_cases hc : (decide ((z12.length : Int) = (1 : Int))) = true
        · rw [if_pos hc] at hm
          refine xs_ifT (xt_eq (xt_test (T := T) (xe_eqI (xe_lenL (xe_call (xa_cons (xe_var (i := 1) rfl) (xa_cons (xe_var (i := 2) rfl) xa_nil)) ⟨x1, x2, z12, rfl, hz12, rfl⟩ cal0) isL_LF) xe_int)) hc) ?_
          obtain ⟨z13, hz13, hm⟩ := bnd_some hm
          refine xs_asgO (xe_var (i := 7) rfl) (tgo_dict (T := T) (xe_var (i := 5) rfl) xe_str (stt_getL (j := 0) rfl) (chkP_some hz13) (stt_setL (j := 0))) ?_
          show XS (tRet _) _ _ [some (va T x0), some (va T x1), some (va T x2), some (va T y2), some (va T z3.a), some (vr pp4), some (va T (LF.mk y9)), some (va T y11), none, none] (stt Ω [] [rawD pp4 (dkv (dput z3.b.l ("quotient" : Str) y11))])
          obtain ⟨z14, hz14, hm⟩ := bnd_some hm
          obtain rfl := Option.some.inj hm
          refine xs_ret (xe_tup2 (xa_cons (xe_fzV (T := T) (i := 5) rfl (stt_getL (j := 0) rfl) (stt_setL (j := 0))) (xa_cons (xe_cat (xe_var (i := 6) rfl) (xe_lst (l := [(T3.mk ("divide short" : Str) y11 (1 : Int))]) (xa_cons (xe_tup3 (xa_cons xe_str (xa_cons (xe_var (i := 7) rfl) (xa_cons xe_int xa_nil)))) xa_nil) (by show 1 ≤ sizeLine; decide)) isLs_LF isLs_LF (chkP_some hz14)) xa_nil))) hrt.all
        · rw [if_neg hc] at hm
          refine xs_ifN (xt_eq (xt_test (T := T) (xe_eqI (xe_lenL (xe_call (xa_cons (xe_var (i := 1) rfl) (xa_cons (xe_var (i := 2) rfl) xa_nil)) ⟨x1, x2, z12, rfl, hz12, rfl⟩ cal0) isL_LF) xe_int)) (nt hc)) ?_
          show XS (tSeq _ _) _ _ [some (va T x0), some (va T x1), some (va T x2), some (va T y2), some (va T z3.a), some (vr pp4), some (va T (LF.mk y9)), some (va T y11), none, none] (stt Ω [] [rawD pp4 (dkv z3.b.l)])
          obtain ⟨z15, hz15, hm⟩ := bnd_some hm
          refine xs_asgNP (xn_callNP (xa_cons (xe_var (i := 4) rfl) (xa_cons (xe_var (i := 1) rfl) (xa_cons (xe_var (i := 2) rfl) xa_nil))) ⟨z3.a, x1, x2, z15, rfl, hz15, rfl⟩ cal0) (fun pp16 => ?_)
          show XS (tSeq _ _) _ _ [some (va T x0), some (va T x1), some (va T x2), some (va T y2), some (va T z3.a), some (vr pp4), some (va T (LF.mk y9)), some (va T y11), some (vr pp16), some (va T (LF.mk z15.2.l))] (stt Ω [] [rawD pp4 (dkv z3.b.l), rawD pp16 (dkv z15.1.l)])
          obtain ⟨z18, hz18, hm⟩ := bnd_some hm
          obtain ⟨z19, hz19, hm⟩ := bnd_some hm
          obtain ⟨z20, hz20, hm⟩ := bnd_some hm
          refine xs_asgO (xe_add (xe_dgetO (xe_var (i := 8) rfl) xe_str (stt_getL (j := 1) rfl) hz18) (xe_dgetO (xe_var (i := 5) rfl) xe_str (stt_getL (j := 0) rfl) hz19)) (tgo_dict (T := T) (xe_var (i := 8) rfl) xe_str (stt_getL (j := 1) rfl) (chkP_some hz20) (stt_setL (j := 1))) ?_
          show XS (tSeq _ _) _ _ [some (va T x0), some (va T x1), some (va T x2), some (va T y2), some (va T z3.a), some (vr pp4), some (va T (LF.mk y9)), some (va T y11), some (vr pp16), some (va T (LF.mk z15.2.l))] (stt Ω [] [rawD pp4 (dkv z3.b.l), rawD pp16 (dkv (dput z15.1.l ("shifted" : Str) (z18 + z19)))])
          obtain ⟨z21, hz21, hm⟩ := bnd_some hm
          refine xs_asgO (xe_dget2O (xe_var (i := 5) rfl) xe_str xe_int (stt_getL (j := 0) rfl) (stt_getL (j := 0) rfl)) (tgo_dict (T := T) (xe_var (i := 8) rfl) xe_str (stt_getL (j := 1) rfl) (chkP_some hz21) (stt_setL (j := 1))) ?_
          show XS (tRet _) _ _ [some (va T x0), some (va T x1), some (va T x2), some (va T y2), some (va T z3.a), some (vr pp4), some (va T (LF.mk y9)), some (va T y11), some (vr pp16), some (va T (LF.mk z15.2.l))] (stt Ω [] [rawD pp4 (dkv z3.b.l), rawD pp16 (dkv (dput (dput z15.1.l ("shifted" : Str) (z18 + z19)) ("looked" : Str) ((z3.b.l.lookup ("looked" : Str)).getD (0 : Int))))])
          obtain ⟨z22, hz22, hm⟩ := bnd_some hm
          obtain rfl := Option.some.inj hm
          refine xs_ret (xe_tup2 (xa_cons (xe_fzV (T := T) (i := 8) rfl (stt_getL (j := 1) rfl) (stt_setL (j := 1))) (xa_cons (xe_cat (xe_var (i := 6) rfl) (xe_var (i := 9) rfl) isLs_LF isLs_LF (chkP_some hz22)) xa_nil))) hrt.all
noncomputable def M__law_doubled (x0 : MS) (x1 : DF) (x2 : List (T3 Str Int Int)) : Option Bool :=
  (chkP (x0.tally.length ≤ sizeLine)).bind fun z1 => (lcM (fun (a3 : (Str × Int)) (s2 : Unit) => if (!decide (a3.2 = (0 : Int))) = true then some (some (a3.1, a3.2), ()) else some (none, ())) x0.tally ()).bind fun z4 => (chkP ((z4.1.map (·.1)).Nodup)).bind fun z6 => (some (DF.mk z4.1)).bind fun y7 => (chkP ((x1.l.map (·.1)).length ≤ sizeLine)).bind fun z8 => (lcM (fun (a10 : Str) (s9 : Unit) => (x1.l.lookup a10).bind fun z11 => (chkP (IntMulOk (2 : Int) z11)).bind fun z12 => some (some (a10, ((2 : Int) * z11)), ())) (x1.l.map (·.1)) ()).bind fun z13 => (chkP ((z13.1.map (·.1)).Nodup)).bind fun z15 => (chkP (sameD y7.l (DF.mk z13.1).l)).bind fun z16 => (chkP (true = true)).bind fun z17 => (chkP ((-(2 ^ 63) ≤ (2 : Int) ∧ (2 : Int) < 2 ^ 63) ∧ x2.length * ((2 : Int)).toNat ≤ sizeLine)).bind fun z18 => (chkP (Dat.ok (LF.mk x0.wk) ∧ Dat.ok (LF.mk (List.replicate ((2 : Int)).toNat x2).flatten))).bind fun z19 => (chkP ((eqD (LF.mk x0.wk) (LF.mk (List.replicate ((2 : Int)).toNat x2).flatten)) = true)).bind fun z20 => some true
def Pre__law_doubled (T : TC) : PreT := fun As Ω R => ∃ (k0 : Nat) (p0 : Addr) (x0 : MS) (x1 : DF) (x2 : List (T3 Str Int Int)) (r : Bool), As = [vr p0, va T x1, va T (LF.mk x2)] ∧ Ω[k0]? = some (machA T p0 x0) ∧ M__law_doubled x0 x1 x2 = some r ∧ R = RV (va T r) (stt Ω [] [])
theorem sc__law_doubled : FnScope ["_law_box_here", "_law_counts", "_law_walk", "_law_found", "_law_word", "_law_many"] ["_law_box_here", "_law_counts", "_law_walk"] (defScope s__law_doubled) := ⟨rfl, rfl, rfl, by decide +kernel, rfl, by decide +kernel, by decide +kernel⟩
theorem ok__law_doubled {f : Addr} {fd : FuncData} (F : Fun T.K "_law_doubled" "_law_doubled" s__law_doubled f fd) (mc : MCls T.K (T.C 0)) (c_Mach_tally : CalM P w T.K mg base 1 (T.C 0) "tally" ["self"] (mkSp (Pre_Mach_tally T))) (z_dict : mg "dict" = none) (c_Mach_walk : CalM P w T.K mg base 1 (T.C 0) "walk" ["self"] (mkSp (Pre_Mach_walk T))) : FnOk P w T.K mg base CX0 2 f fd ["_law_box_here", "_law_counts", "_law_walk"] (mkSp (Pre__law_doubled T)) := by
  refine fn_ok F sc__law_doubled (fun As Ω R h => ?_) (fun cdv A outer s H E hr As Ω R F0 h => ?_)
  · obtain ⟨k0, p0, x0, x1, x2, r, rfl, _⟩ := h
    rfl
  obtain ⟨k0, p0, x0, x1, x2, r, rfl, hk0, hm, rfl⟩ := h
  refine ⟨_, (pss_cons (ps_set (i := 3) sc__law_doubled.nd rfl (.inl rfl) (pe_fz (pe_callTy (cr_dictPK (K := T.K) rfl rfl) (by rfl) z_dict (by decide +kernel) (pa_cons (pe_lc (own := [("_law_word", 4), ("_law_many", 5)]) rfl sc__law_doubled.nd (pi_listK (K := T.K) (pe_calM0 (pv 0) c_Mach_tally (hr.mono (by decide))) rfl) (blkOk_by (N := ["_law_box_here", "_law_counts", "_law_walk", "_law_found", "_law_word", "_law_many"]) (sc := defScope s__law_doubled) (by decide +kernel)) (fun _ _ _ _ _ => (pg_tupK (K := T.K) (n := 2) rfl rfl (pgs_cons (pg_name (i := 4) sc__law_doubled.nd rfl (.inl rfl)) (pgs_cons (pg_name (i := 5) sc__law_doubled.nd rfl (.inl rfl)) pgs_nil)))) (fun _ _ _ _ _ => (pts_one (pt_cmpR (op_neXK (K := T.K) (by exact hr.units) rfl) (pv 5) pe_int (nomark _)))) (fun _ _ _ _ _ => (pe_tup (pa_cons (pv 4) (pa_cons (pv 5) pa_nil))))) pa_nil)))) (pss_one (ps_ret (pe_and (pe_cmpR (op_eqF (Nat.lt_of_le_of_lt (Nat.le_add_right _ 64) (by exact hr.units))) (pv 3) (pe_fz (pe_callTy (cr_dictPK (K := T.K) rfl rfl) (by rfl) z_dict (by decide +kernel) (pa_cons (pe_lc (own := [("_law_word", 4)]) rfl sc__law_doubled.nd (pi_keys (pv 1)) (blkOk_by (N := ["_law_box_here", "_law_counts", "_law_walk", "_law_found", "_law_word", "_law_many"]) (sc := defScope s__law_doubled) (by decide +kernel)) (fun _ _ _ _ _ => (pg_name (i := 4) sc__law_doubled.nd rfl (.inl rfl))) (fun _ _ _ _ _ => pts_nil) (fun _ _ _ _ _ => (pe_tup (pa_cons (pv 4) (pa_cons (pe_op op_mulQ pe_int (pe_dget (by exact hu_of hr) (pv 1) (pv 4) (by intro _ _; rfl))) pa_nil))))) pa_nil))) (nomark _)) (pe_one (pe_cmpR (op_eqXK (K := T.K) (by exact hr.units) rfl) (pe_calM0 (pv 0) c_Mach_walk (hr.mono (by decide))) (pe_op op_mulQ (pv 2) pe_int) (nomark _))))))), fun D hrt hnx => ?_⟩
  have ok : Okk Ω [] := okk0
  suffices hx : XS _ D F0 [some (vr p0), some (va T x1), some (va T (LF.mk x2)), none, none, none] (stt Ω [] []) by
    rw [show (stt Ω [] []) = Ω from stt_self (by simp)] at hx
    exact hx
  unfold M__law_doubled at hm
  obtain ⟨z1, hz1, hm⟩ := bnd_some hm
  obtain ⟨z4, hz4, hm⟩ := bnd_some hm
  obtain ⟨z6, hz6, hm⟩ := bnd_some hm
  obtain ⟨y7, hy7, hm⟩ := bnd_some hm
  refine xs_set (A := va T y7) (xe_eq (xe_dictP (xe_fz (xn_lcS (T := T) (fun (s2 : Unit) => []) (fun (s2 : Unit) => []) hz4 (xi_LF (xe_mcall (xe_var (i := 0) rfl) (stt_getU hk0) xa_nil ⟨k0, p0, x0, rfl, (stt_getU hk0), rfl⟩ rfl)) (fun _ => tgt_pair) (by simp) (chkP_some hz1) ?q5)) isL_LF (chkP_some hz6)) (Option.some.inj hy7)) ?_
  case q5 =>
    exact (fun a3 s2 o s2 ha hm X => by
      by_cases hc : (!decide (a3.2 = (0 : Int))) = true
      · rw [if_pos hc] at hm
        obtain ⟨rfl, rfl⟩ := Prod.mk.inj (Option.some.inj hm)
        refine ⟨(fun e => nomatch e), fun y e => ?_⟩
        obtain rfl := Option.some.inj e
        refine ⟨xt_eq (xt_test (T := T) (xe_neI (xe_var (i := 5) rfl) xe_int)) hc, (xe_tup2 (xa_cons (xe_var (i := 4) rfl) (xa_cons (xe_var (i := 5) rfl) xa_nil)))⟩
      · rw [if_neg hc] at hm
        obtain ⟨rfl, rfl⟩ := Prod.mk.inj (Option.some.inj hm)
        exact ⟨fun _ => xt_eq (xt_test (T := T) (xe_neI (xe_var (i := 5) rfl) xe_int)) (nt hc), fun y e => nomatch e⟩)
  show XS (tRet _) _ _ [some (vr p0), some (va T x1), some (va T (LF.mk x2)), some (va T y7), none, none] (stt Ω [] [])
  obtain ⟨z8, hz8, hm⟩ := bnd_some hm
  obtain ⟨z13, hz13, hm⟩ := bnd_some hm
  obtain ⟨z15, hz15, hm⟩ := bnd_some hm
  obtain ⟨z16, hz16, hm⟩ := bnd_some hm
  obtain ⟨z17, hz17, hm⟩ := bnd_some hm
  obtain ⟨z18, hz18, hm⟩ := bnd_some hm
  obtain ⟨z19, hz19, hm⟩ := bnd_some hm
  obtain ⟨z20, hz20, hm⟩ := bnd_some hm
  obtain rfl := Option.some.inj hm
  refine xs_ret (xe_andT (xe_eq (xe_eqDF (xe_var (i := 3) rfl) (xe_dictP (xe_fz (xn_lcS (T := T) (fun (s9 : Unit) => []) (fun (s9 : Unit) => []) hz13 (xi_keys (xe_var (i := 1) rfl)) (fun _ => tgt_name) (by simp) (chkP_some hz8) ?q14)) isL_LF (chkP_some hz15)) (chkP_some hz16)) (chkP_some hz17)) (xe_eq (xe_eqD (chkP_some hz19) (by decide) (xe_mcall (xe_var (i := 0) rfl) (stt_getU hk0) xa_nil ⟨k0, p0, x0, rfl, (stt_getU hk0), rfl⟩ rfl) (xe_rep (xe_var (i := 2) rfl) xe_int isLs_LF (chkP_some hz18)) isD_va isD_va) (chkP_some hz20))) hrt.all
  case q14 =>
    exact (fun a10 s9 o s2 ha hm X => by
      obtain ⟨z11, hz11, hm⟩ := bnd_some hm
      obtain ⟨z12, hz12, hm⟩ := bnd_some hm
      obtain ⟨rfl, rfl⟩ := Prod.mk.inj (Option.some.inj hm)
      refine ⟨(fun e => nomatch e), fun y e => ?_⟩
      obtain rfl := Option.some.inj e
      refine ⟨xt_yes, (xe_tup2 (xa_cons (xe_var (i := 4) rfl) (xa_cons (xe_mul (chkP_some hz12) xe_int (xe_dget (xe_var (i := 1) rfl) (xe_var (i := 4) rfl) hz11)) xa_nil)))⟩)
noncomputable def M__law_asked (x0 : MS) (x1 : Bg) (x2 : Bg) : Option (Bool × MS) :=
  onX (X_true_quotient x0 x1 x2) (fun k => if k = 0 then some (false, x0) else none) ((M_true_quotient x0 x1 x2).bind fun z1 => some (true, z1.2))
def Pre__law_asked (T : TC) : PreT := fun As Ω R => ∃ (k0 : Nat) (p0 : Addr) (x0 : MS) (x1 : Bg) (x2 : Bg) (r : Bool × MS), As = [vr p0, va T x1, va T x2] ∧ Ω[k0]? = some (machA T p0 x0) ∧ M__law_asked x0 x1 x2 = some r ∧ R = RV (va T r.1) (stt Ω [(k0, machA T p0 r.2)] [])
theorem sc__law_asked : FnScope ["_law_box_here", "_law_first", "_law_second"] ["_law_box_here", "_law_first", "_law_second"] (defScope s__law_asked) := ⟨rfl, rfl, rfl, by decide +kernel, rfl, by decide +kernel, by decide +kernel⟩
theorem ok__law_asked {f : Addr} {fd : FuncData} (F : Fun T.K "_law_asked" "_law_asked" s__law_asked f fd) (cx_true_quotient : CalX P w T.K mg base 26 "true_quotient" ["machine", "x", "y"] (sp2 (Pre_true_quotient T) (PreX_true_quotient T))) (e_TooGreat : ExcC T.K mg "TooGreat" (T.C 300)) (m_TooGreat : PySem.W.exmOne T.K (.ref (T.C 300)) (.ref (T.C 300)) = some true) : FnOk P w T.K mg base CX0 27 f fd ["_law_box_here", "_law_first", "_law_second"] (mkSp (Pre__law_asked T)) := by
  refine fn_ok F sc__law_asked (fun As Ω R h => ?_) (fun cdv A outer s H E hr As Ω R F0 h => ?_)
  · obtain ⟨k0, p0, x0, x1, x2, r, rfl, _⟩ := h
    rfl
  obtain ⟨k0, p0, x0, x1, x2, r, rfl, hk0, hm, rfl⟩ := h
  refine ⟨_, (pss_cons (ps_tryO rfl rfl e_TooGreat (by rfl) (fun W pn xe tk hp => (pss_one (ps_expr (pe_calX cx_true_quotient (hr.mono (by decide)) (by rfl) tk (pa_cons (pv 0) (pa_cons (pv 1) (pa_cons (pv 2) pa_nil))))))) (fun a oe cls d pn => (pss_one (ps_ret pe_bl)))) (pss_one (ps_ret pe_bl))), fun D hrt hnx => ?_⟩
  have ok := okk1 hk0
  suffices hx : XS _ D F0 [some (vr p0), some (va T x1), some (va T x2)] (stt Ω [(k0, machA T p0 x0)] []) by
    rw [show (stt Ω [(k0, machA T p0 x0)] []) = Ω from stt_self (by simp [hk0])] at hx
    exact hx
  unfold M__law_asked at hm
  cases hX : X_true_quotient x0 x1 x2 with
  | some k =>
    rw [onX_s hX] at hm
    by_cases hk : k = 0
    · subst hk
      rw [if_pos rfl] at hm
      refine xs_seq (xs_tryX_drop m_TooGreat (fun W hw => (xr_callS0 (xa_cons (xe_var (i := 0) rfl) (xa_cons (xe_var (i := 1) rfl) (xa_cons (xe_var (i := 2) rfl) xa_nil))) ⟨k0, p0, x0, x1, x2, 0, rfl, (stt_get ok (i := 0) rfl), hX, rfl⟩ hw)) (fun _ _ => ?_))
      obtain rfl := Option.some.inj hm
      refine xs_ret xe_bl hrt.all
    · rw [if_neg hk] at hm
      cases hm
  | none =>
    rw [onX_n hX] at hm
    obtain ⟨z1, hz1, hm⟩ := bnd_some hm
    refine xs_seq (xs_try_drop1 (fun W => (xe_callS (xa_cons (xe_var (i := 0) rfl) (xa_cons (xe_var (i := 1) rfl) (xa_cons (xe_var (i := 2) rfl) xa_nil))) ⟨k0, p0, x0, x1, x2, z1, rfl, (stt_get ok (i := 0) rfl), hz1, rfl⟩ (cal1 ok (i := 0) rfl))) (xs_nxI ?_))
    show XS (tRet _) _ _ [some (vr p0), some (va T x1), some (va T x2)] (stt Ω [(k0, machA T p0 z1.2)] [])
    obtain rfl := Option.some.inj hm
    refine xs_ret xe_bl hrt.all
noncomputable def M__law_right (x0 : MS) (x1 : Int) (x2 : Int) : Option (Bool × MS) :=
  (M_big x0 x1).bind fun z1 => (M_big x0 x2).bind fun z2 => (M__law_due ((x1.natAbs : Nat) : Int) ((x2.natAbs : Nat) : Int) ((x0.reset.w, x0.reset.c).1)).bind fun z3 => (M__law_asked x0.reset z1 z2).bind fun z4 => (if (!z4.1) = true then (some (DF.mk [])).bind fun y5 => (some ([] : List (T3 Str Int Int))).bind fun y6 => some (y5, y6) else some (z3.1, z3.2.l)).bind fun z9 => (chkP (z4.2.tally.length ≤ sizeLine)).bind fun z10 => (lcM (fun (a12 : (Str × Int)) (s11 : Unit) => if (!decide (a12.2 = (0 : Int))) = true then some (some (a12.1, a12.2), ()) else some (none, ())) z4.2.tally ()).bind fun z13 => (chkP ((z13.1.map (·.1)).Nodup)).bind fun z15 => (some (DF.mk z13.1)).bind fun y16 => (M__law_due_of z9.1).bind fun z17 => (chkP (sameD y16.l z17.l)).bind fun z18 => (chkP ((LF.mk z4.2.wk) = (LF.mk z9.2) ∧ Dat.ok (LF.mk z4.2.wk))).bind fun z19 => (M__law_asked z4.2 z1 z2).bind fun z20 => (M__law_doubled z20.2 y16 z9.2).bind fun z21 => (chkP (z21 = true)).bind fun z22 => (M_plain z1).bind fun z23 => (M_plain z2).bind fun z24 => (chkP (Dat.ok (z23, z24) ∧ Dat.ok (x1, x2))).bind fun z25 => (chkP ((eqD (z23, z24) (x1, x2)) = true)).bind fun z26 => some (true, z20.2)
def Pre__law_right (T : TC) : PreT := fun As Ω R => ∃ (k0 : Nat) (p0 : Addr) (x0 : MS) (x1 : Int) (x2 : Int) (r : Bool × MS), As = [vr p0, va T x1, va T x2] ∧ Ω[k0]? = some (machA T p0 x0) ∧ M__law_right x0 x1 x2 = some r ∧ R = RV (va T r.1) (stt Ω [(k0, machA T p0 r.2)] [])
theorem sc__law_right : FnScope ["_law_box_here", "_law_one", "_law_other", "_law_first", "_law_second", "_law_due_here", "_law_way", "_law_counts", "_law_word", "_law_many"] ["_law_box_here", "_law_one", "_law_other"] (defScope s__law_right) := ⟨rfl, rfl, rfl, by decide +kernel, rfl, by decide +kernel, by decide +kernel⟩
theorem ok__law_right {f : Addr} {fd : FuncData} (F : Fun T.K "_law_right" "_law_right" s__law_right f fd) (c_big : Cal P w T.K mg base 23 "big" ["machine", "n"] (mkSp (Pre_big T))) (mc : MCls T.K (T.C 0)) (c_Mach_reset : CalM P w T.K mg base 1 (T.C 0) "reset" ["self"] (mkSp (Pre_Mach_reset T))) (z_abs : mg "abs" = none) (c_Mach_parts : CalM P w T.K mg base 1 (T.C 0) "parts" ["self"] (mkSp (Pre_Mach_parts T))) (c__law_due : Cal P w T.K mg base 5 "_law_due" ["_law_one", "_law_other", "_law_wide"] (mkSp (Pre__law_due T))) (c__law_asked : Cal P w T.K mg base 27 "_law_asked" ["_law_box_here", "_law_first", "_law_second"] (mkSp (Pre__law_asked T))) (c_Mach_tally : CalM P w T.K mg base 1 (T.C 0) "tally" ["self"] (mkSp (Pre_Mach_tally T))) (z_dict : mg "dict" = none) (c__law_due_of : Cal P w T.K mg base 1 "_law_due_of" ["_law_counts"] (mkSp (Pre__law_due_of T))) (c_Mach_walk : CalM P w T.K mg base 1 (T.C 0) "walk" ["self"] (mkSp (Pre_Mach_walk T))) (c__law_doubled : Cal P w T.K mg base 2 "_law_doubled" ["_law_box_here", "_law_counts", "_law_walk"] (mkSp (Pre__law_doubled T))) (c_plain : Cal P w T.K mg base 2 "plain" ["x"] (mkSp (Pre_plain T))) : FnOk P w T.K mg base CX0 28 f fd ["_law_box_here", "_law_one", "_law_other"] (mkSp (Pre__law_right T)) := by
  refine fn_ok F sc__law_right (fun As Ω R h => ?_) (fun cdv A outer s H E hr As Ω R F0 h => ?_)
  · obtain ⟨k0, p0, x0, x1, x2, r, rfl, _⟩ := h
    rfl
  obtain ⟨k0, p0, x0, x1, x2, r, rfl, hk0, hm, rfl⟩ := h
  refine ⟨_, (pss_cons (ps_par (i := 3) (j := 4) rfl sc__law_right.nd rfl rfl (by decide) rfl rfl (pa_cons (pe_cal c_big (hr.mono (by decide)) (by rfl) (pa_cons (pv 0) (pa_cons (pv 1) pa_nil))) (pa_cons (pe_cal c_big (hr.mono (by decide)) (by rfl) (pa_cons (pv 0) (pa_cons (pv 2) pa_nil))) pa_nil)) (by rfl)) (pss_cons (ps_expr (pe_calM0 (pv 0) c_Mach_reset (hr.mono (by decide)))) (pss_cons (ps_asg (pe_cal c__law_due (hr.mono (by decide)) (by rfl) (pa_cons (pe_callB cr_abs (by rfl) z_abs (by decide +kernel) (pa_cons (pv 1) pa_nil)) (pa_cons (pe_callB cr_abs (by rfl) z_abs (by decide +kernel) (pa_cons (pv 2) pa_nil)) (pa_cons (pe_ix (ix_seqK (K := T.K) rfl) (pe_calM0 (pv 0) c_Mach_parts (hr.mono (by decide))) pe_int (by intro _ _; rfl)) pa_nil)))) (pg_tupK (K := T.K) (n := 2) rfl rfl (pgs_cons (pg_name (i := 5) sc__law_right.nd rfl (.inl rfl)) (pgs_cons (pg_name (i := 6) sc__law_right.nd rfl (.inl rfl)) pgs_nil)))) (Evl.pss_cut (ps_if (pt_not (pt_val (pe_cal c__law_asked (hr.mono (by decide)) (by rfl) (pa_cons (pv 0) (pa_cons (pv 3) (pa_cons (pv 4) pa_nil)))))) (pss_one (ps_par (i := 5) (j := 6) rfl sc__law_right.nd rfl rfl (by decide) rfl rfl (pa_cons (pe_fz pe_dnewK) (pa_cons (pe_lst pa_nil) pa_nil)) (by rfl))) pss_nil) (pss_cons (ps_set (i := 7) sc__law_right.nd rfl (.inl rfl) (pe_fz (pe_callTy (cr_dictPK (K := T.K) rfl rfl) (by rfl) z_dict (by decide +kernel) (pa_cons (pe_lc (own := [("_law_word", 8), ("_law_many", 9)]) rfl sc__law_right.nd (pi_listK (K := T.K) (pe_calM0 (pv 0) c_Mach_tally (hr.mono (by decide))) rfl) (blkOk_by (N := ["_law_box_here", "_law_one", "_law_other", "_law_first", "_law_second", "_law_due_here", "_law_way", "_law_counts", "_law_word", "_law_many"]) (sc := defScope s__law_right) (by decide +kernel)) (fun _ _ _ _ _ => (pg_tupK (K := T.K) (n := 2) rfl rfl (pgs_cons (pg_name (i := 8) sc__law_right.nd rfl (.inl rfl)) (pgs_cons (pg_name (i := 9) sc__law_right.nd rfl (.inl rfl)) pgs_nil)))) (fun _ _ _ _ _ => (pts_one (pt_cmpR (op_neXK (K := T.K) (by exact hr.units) rfl) (pv 9) pe_int (nomark _)))) (fun _ _ _ _ _ => (pe_tup (pa_cons (pv 8) (pa_cons (pv 9) pa_nil))))) pa_nil)))) (pss_cons (ps_if (PW.pt (pw_or (pt_cmpR (op_neF (Nat.lt_of_le_of_lt (Nat.le_add_right _ 64) (by exact hr.units))) (pv 7) (pe_cal c__law_due_of (hr.mono (by decide)) (by rfl) (pa_cons (pv 5) pa_nil)) (nomark _)) (pw_or1 (pt_cmpR (op_neXK (K := T.K) (by exact hr.units) rfl) (pe_calM0 (pv 0) c_Mach_walk (hr.mono (by decide))) (pv 6) (nomark _))))) pss_never pss_nil) (pss_cons (ps_expr (pe_cal c__law_asked (hr.mono (by decide)) (by rfl) (pa_cons (pv 0) (pa_cons (pv 3) (pa_cons (pv 4) pa_nil))))) (pss_one (ps_ret (pe_and (pe_cal c__law_doubled (hr.mono (by decide)) (by rfl) (pa_cons (pv 0) (pa_cons (pv 7) (pa_cons (pv 6) pa_nil)))) (pe_one (pe_cmpR (op_eqXK (K := T.K) (by exact hr.units) rfl) (pe_tup (pa_cons (pe_cal c_plain (hr.mono (by decide)) (by rfl) (pa_cons (pv 3) pa_nil)) (pa_cons (pe_cal c_plain (hr.mono (by decide)) (by rfl) (pa_cons (pv 4) pa_nil)) pa_nil))) (pe_tup (pa_cons (pv 1) (pa_cons (pv 2) pa_nil))) (nomark _))))))))))))), fun D hrt hnx => ?_⟩
  have ok := okk1 hk0
  suffices hx : XS _ D F0 [some (vr p0), some (va T x1), some (va T x2), none, none, none, none, none, none, none] (stt Ω [(k0, machA T p0 x0)] []) by
    rw [show (stt Ω [(k0, machA T p0 x0)] []) = Ω from stt_self (by simp [hk0])] at hx
    exact hx
  unfold M__law_right at hm
  obtain ⟨z1, hz1, hm⟩ := bnd_some hm
  obtain ⟨z2, hz2, hm⟩ := bnd_some hm
  refine xs_par2 (A := va T z1) (B := va T z2) (xa_cons (xe_call (xa_cons (xe_var (i := 0) rfl) (xa_cons (xe_var (i := 1) rfl) xa_nil)) ⟨k0, p0, x0, x1, z1, rfl, (stt_get ok (i := 0) rfl), hz1, rfl⟩ cal0) (xa_cons (xe_call (xa_cons (xe_var (i := 0) rfl) (xa_cons (xe_var (i := 2) rfl) xa_nil)) ⟨k0, p0, x0, x2, z2, rfl, (stt_get ok (i := 0) rfl), hz2, rfl⟩ cal0) xa_nil)) ?_
  show XS (tSeq _ _) _ _ [some (vr p0), some (va T x1), some (va T x2), some (va T z1), some (va T z2), none, none, none, none, none] (stt Ω [(k0, machA T p0 x0)] [])
  refine xs_drop (xe_mcall (xe_var (i := 0) rfl) (stt_get ok (i := 0) rfl) xa_nil ⟨k0, p0, x0, rfl, (stt_get ok (i := 0) rfl), rfl⟩ (cal1 ok (i := 0) rfl)) ?_
  show XS (tSeq _ _) _ _ [some (vr p0), some (va T x1), some (va T x2), some (va T z1), some (va T z2), none, none, none, none, none] (stt Ω [(k0, machA T p0 x0.reset)] [])
  obtain ⟨z3, hz3, hm⟩ := bnd_some hm
  refine xs_asgG (xe_call (xa_cons (xe_abs (xe_var (i := 1) rfl)) (xa_cons (xe_abs (xe_var (i := 2) rfl)) (xa_cons (xe_fst (xe_mcall (xe_var (i := 0) rfl) (stt_get ok (i := 0) rfl) xa_nil ⟨k0, p0, x0.reset, rfl, (stt_get ok (i := 0) rfl), rfl⟩ rfl)) xa_nil))) ⟨((x1.natAbs : Nat) : Int), ((x2.natAbs : Nat) : Int), (x0.reset.w, x0.reset.c).1, z3, rfl, hz3, rfl⟩ cal0) tgt_pair ?_
  show XS (Evl.tCut _ _) _ _ [some (vr p0), some (va T x1), some (va T x2), some (va T z1), some (va T z2), some (va T z3.1), some (va T (LF.mk z3.2.l)), none, none, none] (stt Ω [(k0, machA T p0 x0.reset)] [])
  obtain ⟨z4, hz4, hm⟩ := bnd_some hm
  obtain ⟨z9, hz9, hm⟩ := bnd_some hm
  refine xs_cut (Γ' := [some (vr p0), some (va T x1), some (va T x2), some (va T z1), some (va T z2), some (va T z9.1), some (va T (LF.mk z9.2)), none, none, none]) (Ω' := (stt Ω [(k0, machA T p0 z4.2)] [])) ?_ ?_
  · clear hm
    have hm := hz9
    clear hz9
    by_cases hc : (!z4.1) = true
    · rw [if_pos hc] at hm
      refine xs_ifT1 (xt_eq (xt_not (xt_tB (T := T) (xe_call (xa_cons (xe_var (i := 0) rfl) (xa_cons (xe_var (i := 3) rfl) (xa_cons (xe_var (i := 4) rfl) xa_nil))) ⟨k0, p0, x0.reset, z1, z2, z4, rfl, (stt_get ok (i := 0) rfl), hz4, rfl⟩ (cal1 ok (i := 0) rfl)))) hc) ?_
      obtain ⟨y5, hy5, hm⟩ := bnd_some hm
      obtain ⟨y6, hy6, hm⟩ := bnd_some hm
      refine xs_par21 (A := va T y5) (B := va T (LF.mk y6)) (xa_cons (xe_eq xe_disp0 (Option.some.inj hy5)) (xa_cons (xe_eq (xe_lst (T := T) (l := ([] : List (T3 Str Int Int))) xa_nil (Nat.zero_le _)) (congrArg LF.mk (Option.some.inj hy6))) xa_nil)) ?_
      obtain rfl := Option.some.inj hm
      exact fun σ H n => n
    · rw [if_neg hc] at hm
      refine xs_ifF1 (xt_eq (xt_not (xt_tB (T := T) (xe_call (xa_cons (xe_var (i := 0) rfl) (xa_cons (xe_var (i := 3) rfl) (xa_cons (xe_var (i := 4) rfl) xa_nil))) ⟨k0, p0, x0.reset, z1, z2, z4, rfl, (stt_get ok (i := 0) rfl), hz4, rfl⟩ (cal1 ok (i := 0) rfl)))) (nt hc)) ?_
      obtain rfl := Option.some.inj hm
      exact fun σ H n => n
  · obtain ⟨z10, hz10, hm⟩ := bnd_some hm
    obtain ⟨z13, hz13, hm⟩ := bnd_some hm
    obtain ⟨z15, hz15, hm⟩ := bnd_some hm
    obtain ⟨y16, hy16, hm⟩ := bnd_some hm
    refine xs_set (A := va T y16) (xe_eq (xe_dictP (xe_fz (xn_lcS (T := T) (fun (s11 : Unit) => [(k0, machA T p0 z4.2)]) (fun (s11 : Unit) => []) hz13 (xi_LF (xe_mcall (xe_var (i := 0) rfl) (stt_get ok (i := 0) rfl) xa_nil ⟨k0, p0, z4.2, rfl, (stt_get ok (i := 0) rfl), rfl⟩ rfl)) (fun _ => tgt_pair) (by simp) (chkP_some hz10) ?q14)) isL_LF (chkP_some hz15)) (Option.some.inj hy16)) ?_
    case q14 =>
      exact (fun a12 s11 o s2 ha hm X => by
        by_cases hc : (!decide (a12.2 = (0 : Int))) = true
        · rw [if_pos hc] at hm
          obtain ⟨rfl, rfl⟩ := Prod.mk.inj (Option.some.inj hm)
          refine ⟨(fun e => nomatch e), fun y e => ?_⟩
          obtain rfl := Option.some.inj e
          refine ⟨xt_eq (xt_test (T := T) (xe_neI (xe_var (i := 9) rfl) xe_int)) hc, (xe_tup2 (xa_cons (xe_var (i := 8) rfl) (xa_cons (xe_var (i := 9) rfl) xa_nil)))⟩
        · rw [if_neg hc] at hm
          obtain ⟨rfl, rfl⟩ := Prod.mk.inj (Option.some.inj hm)
          exact ⟨fun _ => xt_eq (xt_test (T := T) (xe_neI (xe_var (i := 9) rfl) xe_int)) (nt hc), fun y e => nomatch e⟩)
    show XS (tSeq _ _) _ _ [some (vr p0), some (va T x1), some (va T x2), some (va T z1), some (va T z2), some (va T z9.1), some (va T (LF.mk z9.2)), some (va T y16), none, none] (stt Ω [(k0, machA T p0 z4.2)] [])
    obtain ⟨z17, hz17, hm⟩ := bnd_some hm
    obtain ⟨z18, hz18, hm⟩ := bnd_some hm
    obtain ⟨z19, hz19, hm⟩ := bnd_some hm
    refine xs_ifN (xt_orF (xt_test (T := T) (xe_neDF (xe_var (i := 7) rfl) (xe_call (xa_cons (xe_var (i := 5) rfl) xa_nil) ⟨z9.1, z17, rfl, hz17, rfl⟩ cal0) (chkP_some hz18))) (xt_test (T := T) (xe_neK (chkP_some hz19) (by decide) (xe_mcall (xe_var (i := 0) rfl) (stt_get ok (i := 0) rfl) xa_nil ⟨k0, p0, z4.2, rfl, (stt_get ok (i := 0) rfl), rfl⟩ rfl) (xe_var (i := 6) rfl) isD_va isD_va))) ?_
    show XS (tSeq _ _) _ _ [some (vr p0), some (va T x1), some (va T x2), some (va T z1), some (va T z2), some (va T z9.1), some (va T (LF.mk z9.2)), some (va T y16), none, none] (stt Ω [(k0, machA T p0 z4.2)] [])
    obtain ⟨z20, hz20, hm⟩ := bnd_some hm
    refine xs_drop (xe_call (xa_cons (xe_var (i := 0) rfl) (xa_cons (xe_var (i := 3) rfl) (xa_cons (xe_var (i := 4) rfl) xa_nil))) ⟨k0, p0, z4.2, z1, z2, z20, rfl, (stt_get ok (i := 0) rfl), hz20, rfl⟩ (cal1 ok (i := 0) rfl)) ?_
    show XS (tRet _) _ _ [some (vr p0), some (va T x1), some (va T x2), some (va T z1), some (va T z2), some (va T z9.1), some (va T (LF.mk z9.2)), some (va T y16), none, none] (stt Ω [(k0, machA T p0 z20.2)] [])
    obtain ⟨z21, hz21, hm⟩ := bnd_some hm
    obtain ⟨z22, hz22, hm⟩ := bnd_some hm
    obtain ⟨z23, hz23, hm⟩ := bnd_some hm
    obtain ⟨z24, hz24, hm⟩ := bnd_some hm
    obtain ⟨z25, hz25, hm⟩ := bnd_some hm
    obtain ⟨z26, hz26, hm⟩ := bnd_some hm
    obtain rfl := Option.some.inj hm
    refine xs_ret (xe_andT (xe_eq (xe_call (xa_cons (xe_var (i := 0) rfl) (xa_cons (xe_var (i := 7) rfl) (xa_cons (xe_var (i := 6) rfl) xa_nil))) ⟨k0, p0, z20.2, y16, z9.2, z21, rfl, (stt_get ok (i := 0) rfl), hz21, rfl⟩ cal0) (chkP_some hz22)) (xe_eq (xe_eqD (chkP_some hz25) (by decide) (xe_tup2 (xa_cons (xe_call (xa_cons (xe_var (i := 3) rfl) xa_nil) ⟨z1, z23, rfl, hz23, rfl⟩ cal0) (xa_cons (xe_call (xa_cons (xe_var (i := 4) rfl) xa_nil) ⟨z2, z24, rfl, hz24, rfl⟩ cal0) xa_nil))) (xe_tup2 (xa_cons (xe_var (i := 1) rfl) (xa_cons (xe_var (i := 2) rfl) xa_nil))) isD_va isD_va) (chkP_some hz26))) hrt.all
noncomputable def M_law (x0 : List Int) : Option Bool :=
  (chkP (x0.length + ([(0 : Int)] : List Int).length ≤ sizeLine)).bind fun z1 => (forM' (ρ := Unit) (fun (a3 : Int) (s2 : Unit) => (M__law_source a3).bind fun z4 => (M__law_box z4).bind fun z7 => (chkP (-(2 ^ 62) ≤ (8 : Int) ∧ (8 : Int) < 2 ^ 62)).bind fun z10 => (forM' (ρ := Unit) (fun (a12 : Int) (s11 : (List Int) × MS) => (M__law_two s11.1).bind fun z13 => (if (decide (a12 = (7 : Int))) = true then (M__law_wide_number z13.2).bind fun z14 => (M__law_draw z14.2 (400 : Int)).bind fun z15 => (chkP (CShl z14.1 ((60 : Int) + z15.1))).bind fun z16 => (M__law_draw z15.2 (2 : Int)).bind fun z17 => (some ((z14.1 * 2 ^ (((60 : Int) + z15.1)).toNat) + z17.1)).bind fun y18 => some (y18, z17.2) else some (z13.1.1, z13.2)).bind fun z21 => (M__law_signed z21.2 z21.1).bind fun z22 => (M__law_signed z22.2 z13.1.2).bind fun z23 => (M__law_right s11.2 z22.1 z23.1).bind fun z24 => (chkP (z24.1 = true)).bind fun z25 => some (Stp.nx (z23.2, z24.2))) (rng 0 ((8 : Int)).toNat) (z7.2, z7.1)).bind fun z26 => (nxt z26).bind fun s27 => some (Stp.nx ())) (cut (x0 ++ ([(0 : Int)] : List Int)) none (some (4 : Int))) ()).bind fun z28 => (nxt z28).bind fun s29 => (chkP ((8 ≤ (8 : Int) ∧ (8 : Int) ≤ 30) ∧ 2 ≤ (70 : Int) ∧ (70 : Int) ≤ 1000)).bind fun z30 => (some (MS.fresh (8 : Int) 70)).bind fun y31 => (M__law_right y31 (0 : Int) (-(5 : Int))).bind fun z34 => (chkP (z34.1 = true)).bind fun z35 => (chkP (CShl (1 : Int) (1076 : Int))).bind fun z36 => (M__law_right z34.2 (1 : Int) ((1 : Int) * 2 ^ ((1076 : Int)).toNat)).bind fun z37 => (chkP (z37.1 = true)).bind fun z38 => (chkP (CShl (1 : Int) (400 : Int))).bind fun z39 => (M__law_right z37.2 (((1 : Int) * 2 ^ ((400 : Int)).toNat) + (1 : Int)) (3 : Int)).bind fun z40 => (chkP (z40.1 = true)).bind fun z41 => some true
def Pre_law (T : TC) : PreT := fun As Ω R => ∃ (x0 : List Int) (r : Bool), As = [va T (SF.mk x0)] ∧ M_law x0 = some r ∧ R = RV (va T r) (stt Ω [] [])
theorem sc_law : FnScope ["_law_script", "_law_cell", "_law_source_here", "_law_box_here", "_law_go", "_law_one", "_law_other", "_law_tiny"] ["_law_script"] (defScope s_law) := ⟨rfl, rfl, rfl, by decide +kernel, rfl, by decide +kernel, by decide +kernel⟩
theorem ok_law {f : Addr} {fd : FuncData} (F : Fun T.K "law" "law" s_law f fd) (c__law_source : Cal P w T.K mg base 1 "_law_source" ["_law_cell"] (mkSp (Pre__law_source T))) (c__law_box : Cal P w T.K mg base 5 "_law_box" ["_law_source_here"] (mkSp (Pre__law_box T))) (z_range : mg "range" = none) (c__law_two : Cal P w T.K mg base 4 "_law_two" ["_law_source_here"] (mkSp (Pre__law_two T))) (c__law_wide_number : Cal P w T.K mg base 3 "_law_wide_number" ["_law_source_here"] (mkSp (Pre__law_wide_number T))) (c__law_draw : Cal P w T.K mg base 1 "_law_draw" ["_law_source_here", "_law_size"] (mkSp (Pre__law_draw T))) (c__law_signed : Cal P w T.K mg base 2 "_law_signed" ["_law_source_here", "_law_number"] (mkSp (Pre__law_signed T))) (c__law_right : Cal P w T.K mg base 28 "_law_right" ["_law_box_here", "_law_one", "_law_other"] (mkSp (Pre__law_right T))) (c_Machine1 : CalC P w T.K mg base 3 "Machine" (T.C 0) ["self", "bits", "cutoff"] [.int 70] (mkSp (Pre_Machine T))) : FnOk P w T.K mg base CX0 29 f fd ["_law_script"] (mkSp (Pre_law T)) := by
  refine fn_ok F sc_law (fun As Ω R h => ?_) (fun cdv A outer s H E hr As Ω R F0 h => ?_)
  · obtain ⟨x0, r, rfl, _⟩ := h
    rfl
  obtain ⟨x0, r, rfl, hm, rfl⟩ := h
  refine ⟨_, (pss_cons (ps_for PassesOwn.never rfl (pi_listK (K := T.K) (pe_slice (sl_listK (K := T.K) rfl) (pe_op (op_catSK (K := T.K) rfl) (pv 0) (pe_lst (pa_cons pe_int pa_nil))) po_none (po_some pe_int)) rfl) (pg_name (i := 1) sc_law.nd rfl (.inl rfl)) (pss_cons (ps_set (i := 2) sc_law.nd rfl (.inl rfl) (pe_cal c__law_source (hr.mono (by decide)) (by rfl) (pa_cons (pv 1) pa_nil))) (pss_cons (ps_set (i := 3) sc_law.nd rfl (.inl rfl) (pe_cal c__law_box (hr.mono (by decide)) (by rfl) (pa_cons (pv 2) pa_nil))) (pss_one (ps_for PassesOwn.never rfl (pi_range1 rfl z_range (pa_cons pe_int pa_nil)) (pg_name (i := 4) sc_law.nd rfl (.inl rfl)) (pss_cons (ps_asg (pe_cal c__law_two (hr.mono (by decide)) (by rfl) (pa_cons (pv 2) pa_nil)) (pg_tupK (K := T.K) (n := 2) rfl rfl (pgs_cons (pg_name (i := 5) sc_law.nd rfl (.inl rfl)) (pgs_cons (pg_name (i := 6) sc_law.nd rfl (.inl rfl)) pgs_nil)))) (Evl.pss_cut (ps_if (pt_cmpR (op_eqXK (K := T.K) (by exact hr.units) rfl) (pv 4) pe_int (nomark _)) (pss_one (ps_set (i := 5) sc_law.nd rfl (.inl rfl) (pe_op op_addQ (pe_op op_shlW (pe_cal c__law_wide_number (hr.mono (by decide)) (by rfl) (pa_cons (pv 2) pa_nil)) (pe_op op_addQ pe_int (pe_cal c__law_draw (hr.mono (by decide)) (by rfl) (pa_cons (pv 2) (pa_cons pe_int pa_nil))))) (pe_cal c__law_draw (hr.mono (by decide)) (by rfl) (pa_cons (pv 2) (pa_cons pe_int pa_nil)))))) pss_nil) (pss_one (ps_if (pt_not (pt_val (pe_cal c__law_right (hr.mono (by decide)) (by rfl) (pa_cons (pv 3) (pa_cons (pe_cal c__law_signed (hr.mono (by decide)) (by rfl) (pa_cons (pv 2) (pa_cons (pv 5) pa_nil))) (pa_cons (pe_cal c__law_signed (hr.mono (by decide)) (by rfl) (pa_cons (pv 2) (pa_cons (pv 6) pa_nil))) pa_nil)))))) pss_never pss_nil))))))))) (pss_cons (ps_set (i := 7) sc_law.nd rfl (.inl rfl) (pe_calC c_Machine1 (hr.mono (by decide)) (by rfl) (pa_cons pe_int pa_nil))) (pss_one (ps_ret (pe_and (pe_cal c__law_right (hr.mono (by decide)) (by rfl) (pa_cons (pv 7) (pa_cons pe_int (pa_cons (pe_un un_neg pe_int) pa_nil)))) (pe_and (pe_cal c__law_right (hr.mono (by decide)) (by rfl) (pa_cons (pv 7) (pa_cons pe_int (pa_cons (pe_op op_shlW pe_int pe_int) pa_nil)))) (pe_one (pe_cal c__law_right (hr.mono (by decide)) (by rfl) (pa_cons (pv 7) (pa_cons (pe_op op_addQ (pe_op op_shlW pe_int pe_int) pe_int) (pa_cons pe_int pa_nil))))))))))), fun D hrt hnx => ?_⟩
  have ok : Okk Ω [] := okk0
  suffices hx : XS _ D F0 [some (va T (SF.mk x0)), none, none, none, none, none, none, none] (stt Ω [] []) by
    rw [show (stt Ω [] []) = Ω from stt_self (by simp)] at hx
    exact hx
  unfold M_law at hm
  obtain ⟨z1, hz1, hm⟩ := bnd_some hm
  obtain ⟨z28, hz28, hm⟩ := bnd_some hm
  refine xs_forS (fun (s2 : Unit) => [some (va T (SF.mk x0)), none, none, none, none, none, none, none]) (fun (s2 : Unit) => (stt Ω [] [])) (fun (_ : Unit) _ _ _ => False) hz28 (xi_LF (xe_sliceL (xe_catS (xe_var (i := 0) rfl) (xe_lst (l := [(0 : Int)]) (xa_cons xe_int xa_nil) (by show 1 ≤ sizeLine; decide)) isLs_LF (chkP_some hz1)) xo_none (xo_some (T := T) xe_int) isL_LF)) (fun _ => tgt_name) (fun a3 s2 s' ha hm F1 D1 e1 hD => ?_) (fun s29 es => ?_) (fun r1 es => ?_)
  · show XS (tSeq _ _) _ _ [some (va T (SF.mk x0)), some (va T a3), none, none, none, none, none, none] (stt Ω [] [])
    obtain ⟨z4, hz4, hm⟩ := bnd_some hm
    refine xs_setO (xn_call (xa_cons (xe_var (i := 1) rfl) xa_nil) ⟨a3, z4, rfl, hz4, rfl⟩ cal0) (fun pp5 => ?_)
    show XS (tSeq _ _) _ _ [some (va T (SF.mk x0)), some (va T a3), some (vr pp5), none, none, none, none, none] (stt Ω [] [lstA T pp5 (z4 : List Int)])
    obtain ⟨z7, hz7, hm⟩ := bnd_some hm
    refine xs_setO (xn_call (xa_cons (xe_var (i := 2) rfl) xa_nil) ⟨(Ω.length + 0), pp5, z4, z7, rfl, (stt_getL (j := 0) rfl), hz7, rfl⟩ (cal1L (j := 0))) (fun pp8 => ?_)
    show XS (tFor _ _ _) _ _ [some (va T (SF.mk x0)), some (va T a3), some (vr pp5), some (vr pp8), none, none, none, none] (stt Ω [] [lstA T pp5 (z7.2 : List Int), machA T pp8 z7.1])
    obtain ⟨z10, hz10, hm⟩ := bnd_some hm
    obtain ⟨z26, hz26, hm⟩ := bnd_some hm
    refine xs_for (fun (s11 : (List Int) × MS) => [some (va T (SF.mk x0)), some (va T a3), some (vr pp5), some (vr pp8), none, none, none, none]) (fun (s11 : (List Int) × MS) => (stt Ω [] [lstA T pp5 (s11.1 : List Int), machA T pp8 s11.2])) (fun (_ : Unit) _ _ _ => False) hz26 (xi_range1 (T := T) (xa_cons xe_int xa_nil) (chkP_some hz10).1 (chkP_some hz10).2) (fun _ => tgt_name) (fun a12 s11 s' ha hm F1 D1 e1 hD => ?_) (fun s27 es => ?_) (fun r1 es => ?_)
    · show XS (tSeq _ _) _ _ [some (va T (SF.mk x0)), some (va T a3), some (vr pp5), some (vr pp8), some (va T a12), none, none, none] (stt Ω [] [lstA T pp5 (s11.1 : List Int), machA T pp8 s11.2])
      obtain ⟨z13, hz13, hm⟩ := bnd_some hm
      refine xs_asgG (xe_call (xa_cons (xe_var (i := 2) rfl) xa_nil) ⟨(Ω.length + 0), pp5, s11.1, z13, rfl, (stt_getL (j := 0) rfl), hz13, rfl⟩ (cal1L (j := 0))) tgt_pair ?_
      show XS (Evl.tCut _ _) _ _ [some (va T (SF.mk x0)), some (va T a3), some (vr pp5), some (vr pp8), some (va T a12), some (va T z13.1.1), some (va T z13.1.2), none] (stt Ω [] [lstA T pp5 (z13.2 : List Int), machA T pp8 s11.2])
      obtain ⟨z21, hz21, hm⟩ := bnd_some hm
      refine xs_cut (Γ' := [some (va T (SF.mk x0)), some (va T a3), some (vr pp5), some (vr pp8), some (va T a12), some (va T z21.1), some (va T z13.1.2), none]) (Ω' := (stt Ω [] [lstA T pp5 (z21.2 : List Int), machA T pp8 s11.2])) ?_ ?_
      · clear hm
        have hm := hz21
        clear hz21
        by_cases hc : (decide (a12 = (7 : Int))) = true
        · rw [if_pos hc] at hm
          refine xs_ifT1 (xt_eq (xt_test (T := T) (xe_eqI (xe_var (i := 4) rfl) xe_int)) hc) ?_
          obtain ⟨z14, hz14, hm⟩ := bnd_some hm
          obtain ⟨z15, hz15, hm⟩ := bnd_some hm
          obtain ⟨z16, hz16, hm⟩ := bnd_some hm
          obtain ⟨z17, hz17, hm⟩ := bnd_some hm
          obtain ⟨y18, hy18, hm⟩ := bnd_some hm
          refine xs_set1 (A := va T y18) (xe_eq (xe_add (xe_shl (chkP_some hz16) (xe_call (xa_cons (xe_var (i := 2) rfl) xa_nil) ⟨(Ω.length + 0), pp5, z13.2, z14, rfl, (stt_getL (j := 0) rfl), hz14, rfl⟩ (cal1L (j := 0))) (xe_add xe_int (xe_call (xa_cons (xe_var (i := 2) rfl) (xa_cons xe_int xa_nil)) ⟨(Ω.length + 0), pp5, z14.2, (400 : Int), z15, rfl, (stt_getL (j := 0) rfl), hz15, rfl⟩ (cal1L (j := 0))))) (xe_call (xa_cons (xe_var (i := 2) rfl) (xa_cons xe_int xa_nil)) ⟨(Ω.length + 0), pp5, z15.2, (2 : Int), z17, rfl, (stt_getL (j := 0) rfl), hz17, rfl⟩ (cal1L (j := 0)))) (Option.some.inj hy18)) ?_
          obtain rfl := Option.some.inj hm
          exact fun σ H n => n
        · rw [if_neg hc] at hm
          refine xs_ifF1 (xt_eq (xt_test (T := T) (xe_eqI (xe_var (i := 4) rfl) xe_int)) (nt hc)) ?_
          obtain rfl := Option.some.inj hm
          exact fun σ H n => n
      · obtain ⟨z22, hz22, hm⟩ := bnd_some hm
        obtain ⟨z23, hz23, hm⟩ := bnd_some hm
        obtain ⟨z24, hz24, hm⟩ := bnd_some hm
        obtain ⟨z25, hz25, hm⟩ := bnd_some hm
        refine xs_ifF1 (xt_notF (xt_eq (xt_tB (T := T) (xe_call (xa_cons (xe_var (i := 3) rfl) (xa_cons (xe_call (xa_cons (xe_var (i := 2) rfl) (xa_cons (xe_var (i := 5) rfl) xa_nil)) ⟨(Ω.length + 0), pp5, z21.2, z21.1, z22, rfl, (stt_getL (j := 0) rfl), hz22, rfl⟩ (cal1L (j := 0))) (xa_cons (xe_call (xa_cons (xe_var (i := 2) rfl) (xa_cons (xe_var (i := 6) rfl) xa_nil)) ⟨(Ω.length + 0), pp5, z22.2, z13.1.2, z23, rfl, (stt_getL (j := 0) rfl), hz23, rfl⟩ (cal1L (j := 0))) xa_nil))) ⟨(Ω.length + 1), pp8, s11.2, z22.1, z23.1, z24, rfl, (stt_getL (j := 1) rfl), hz24, rfl⟩ (cal1L (j := 1)))) (chkP_some hz25))) ?_
        obtain rfl := Option.some.inj hm
        exact fun σ H n => hD.nx _ rfl σ H (((n.forget 5).forget 6).forget 4)
    · subst es
      obtain ⟨s2, hs2, hm⟩ := bnd_some hm
      cases hs2
      obtain rfl := Option.some.inj hm
      exact fun σ H n => hD.nx _ rfl σ H (NX.cutL [] [lstA T pp5 (s27.1 : List Int), machA T pp8 s27.2] (((n.forget 2).forget 3).forget 1))
    · subst es
      cases hm
  · subst es
    obtain ⟨s2, hs2, hm⟩ := bnd_some hm
    cases hs2
    show XS (tSeq _ _) _ _ [some (va T (SF.mk x0)), none, none, none, none, none, none, none] (stt Ω [] [])
    obtain ⟨z30, hz30, hm⟩ := bnd_some hm
    obtain ⟨y31, hy31, hm⟩ := bnd_some hm
    obtain rfl := Option.some.inj hy31
    refine xs_setO ((xn_make (Ds := [va T (70 : Int)]) (xa_cons xe_int xa_nil) (fun _ => .cons rfl .nil) (fun q => ⟨_, q, (8 : Int), 70, rfl, chkP_some hz30, rfl, rfl⟩))) (fun pp32 => ?_)
    show XS (tRet _) _ _ [some (va T (SF.mk x0)), none, none, none, none, none, none, some (vr pp32)] (stt Ω [] [machA T pp32 (MS.fresh (8 : Int) 70)])
    obtain ⟨z34, hz34, hm⟩ := bnd_some hm
    obtain ⟨z35, hz35, hm⟩ := bnd_some hm
    obtain ⟨z36, hz36, hm⟩ := bnd_some hm
    obtain ⟨z37, hz37, hm⟩ := bnd_some hm
    obtain ⟨z38, hz38, hm⟩ := bnd_some hm
    obtain ⟨z39, hz39, hm⟩ := bnd_some hm
    obtain ⟨z40, hz40, hm⟩ := bnd_some hm
    obtain ⟨z41, hz41, hm⟩ := bnd_some hm
    obtain rfl := Option.some.inj hm
    refine xs_ret (xe_andT (xe_eq (xe_call (xa_cons (xe_var (i := 7) rfl) (xa_cons xe_int (xa_cons (xe_neg xe_int) xa_nil))) ⟨(Ω.length + 0), pp32, (MS.fresh (8 : Int) 70), (0 : Int), (-(5 : Int)), z34, rfl, (stt_getL (j := 0) rfl), hz34, rfl⟩ (cal1L (j := 0))) (chkP_some hz35)) (xe_andT (xe_eq (xe_call (xa_cons (xe_var (i := 7) rfl) (xa_cons xe_int (xa_cons (xe_shl (chkP_some hz36) xe_int xe_int) xa_nil))) ⟨(Ω.length + 0), pp32, z34.2, (1 : Int), ((1 : Int) * 2 ^ ((1076 : Int)).toNat), z37, rfl, (stt_getL (j := 0) rfl), hz37, rfl⟩ (cal1L (j := 0))) (chkP_some hz38)) (xe_eq (xe_call (xa_cons (xe_var (i := 7) rfl) (xa_cons (xe_add (xe_shl (chkP_some hz39) xe_int xe_int) xe_int) (xa_cons xe_int xa_nil))) ⟨(Ω.length + 0), pp32, z37.2, (((1 : Int) * 2 ^ ((400 : Int)).toNat) + (1 : Int)), (3 : Int), z40, rfl, (stt_getL (j := 0) rfl), hz40, rfl⟩ (cal1L (j := 0))) (chkP_some hz41)))) hrt.all
  · subst es
    cases hm
end
end P

set_option Elab.async false
set_option linter.all false
set_option maxRecDepth 100000
set_option exponentiation.threshold 4000
namespace P
open PySem L2 VL
theorem mul_l {a b : Int} (h1 : -(2 ^ 64) < a) (h2 : a < 2 ^ 64) : IntMulOk a b := .of_left (intBits_le_64 h1 h2)
theorem mul_r {a b : Int} (h1 : -(2 ^ 64) < b) (h2 : b < 2 ^ 64) : IntMulOk a b := .of_right (intBits_le_64 h1 h2)
def Src (s : List Int) : Prop := ∃ a b c : Int, s = [a, b, c]
theorem source_s (x : Int) : Sat (M__law_source x) Src := by
  unfold M__law_source
  refine sat_chk (by unfold CPow; decide) ?_
  refine sat_chk (by split <;> exact mul_r (by decide) (by decide)) ?_
  refine sat_chk (by decide) ?_
  exact sat_some ⟨_, _, _, rfl⟩
theorem draw_s {s : List Int} {m : Int} (hs : Src s) (h : 0 < m) (h2 : m < 2 ^ 64) : Sat (M__law_draw s m) (fun r => Src r.2 ∧ 0 ≤ r.1 ∧ r.1 < m) := by
  obtain ⟨a, b, c, rfl⟩ := hs
  unfold M__law_draw
  refine sat_eq (a := a) rfl ?_
  refine sat_ite (fun _ => ?_) fun _ => ?_
  · refine sat_eq (a := a) rfl ?_
    refine sat_chk h ?_
    refine sat_let ?_
    refine sat_eq (a := a) rfl ?_
    refine sat_chk (cdiv_s h h2) ?_
    refine sat_let ?_
    refine sat_eq (a := 0) rfl ?_
    exact sat_some ⟨⟨_, b, c, rfl⟩, Int.emod_nonneg _ (by omega), Int.emod_lt_of_pos _ h⟩
  · refine sat_eq (a := c) rfl ?_
    refine sat_let ?_
    refine sat_eq (a := 2) rfl ?_
    rw [show [a, b, c].set 2 (c + 1) = [a, b, c + 1] from rfl]
    refine sat_eq (a := b) rfl ?_
    refine sat_eq (a := c + 1) rfl ?_
    refine sat_chk (mul_l (by decide) (by decide)) ?_
    refine sat_chk (mul_r (by decide) (by decide)) ?_
    refine sat_chk (by decide) ?_
    refine sat_let ?_
    generalize hy : ((b + 52711 * (c + 1)) + 13) * 48271 % (2147483629 : Int) = y
    have hy1 : 0 ≤ y ∧ y < 2147483629 := by rw [← hy]; exact ⟨Int.emod_nonneg _ (by decide), Int.emod_lt_of_pos _ (by decide)⟩
    refine sat_chk (cdiv_s (by decide) (by decide)) ?_
    refine sat_eq (a := c + 1) rfl ?_
    refine sat_chk (mul_l (by omega) (by omega)) ?_
    refine sat_chk (by decide) ?_
    refine sat_let ?_
    generalize hu : (y * ((y / 1021) + 69621 + (c + 1))) % (2147483579 : Int) = u
    have hu1 : 0 ≤ u ∧ u < 2147483579 := by rw [← hu]; exact ⟨Int.emod_nonneg _ (by decide), Int.emod_lt_of_pos _ (by decide)⟩
    refine sat_chk (cdiv_s (by decide) (by decide)) ?_
    refine sat_chk (mul_l (by omega) (by omega)) ?_
    refine sat_chk (by decide) ?_
    refine sat_chk (cdiv_s (by decide) (by decide)) ?_
    refine sat_chk h ?_
    exact sat_some ⟨⟨_, b, c + 1, rfl⟩, Int.emod_nonneg _ (by omega), Int.emod_lt_of_pos _ h⟩
theorem pick_s {s l : List Int} (hs : Src s) (h : l ≠ []) (h2 : l.length < 100) : Sat (M__law_pick s l) (fun r => Src r.2 ∧ r.1 ∈ l) := by
  have hp : 0 < l.length := List.length_pos_iff.mpr h
  unfold M__law_pick
  refine sat_bind (draw_s hs (m := (l.length : Int)) (by omega) (by omega)) fun r ⟨h1, a, b⟩ => ?_
  exact sat_atI a b fun x hx => sat_some ⟨h1, hx⟩
theorem box_s {s : List Int} (hs : Src s) : Sat (M__law_box s) (fun r => ∃ (W : Nat) (c : Int), r.1 = MS.fresh (W : Int) c ∧ 8 ≤ W ∧ W ≤ 30 ∧ Src r.2) := by
  unfold M__law_box
  refine sat_bind (draw_s hs (by decide) (by decide)) fun r1 ⟨h1, a1, b1⟩ => ?_
  refine sat_bind (pick_s h1 (List.cons_ne_nil _ _) (by show 6 < 100; decide)) fun r2 ⟨h2, m2⟩ => ?_
  refine sat_bind (draw_s h2 (by decide) (by decide)) fun r3 ⟨h3, a3, b3⟩ => ?_
  simp only [List.mem_cons, List.not_mem_nil, or_false] at m2
  have hw : 8 ≤ r2.1 ∧ r2.1 ≤ 30 := by omega
  refine sat_chk ⟨hw, by omega, by omega⟩ ?_
  refine sat_some ⟨r2.1.toNat, 2 + r3.1, ?_, by omega, by omega, h3⟩
  rw [Int.toNat_of_nonneg (by omega)]
theorem signed_s {s : List Int} (hs : Src s) (x : Int) : Sat (M__law_signed s x) (fun r => Src r.2 ∧ (r.1 = x ∨ r.1 = -x)) := by
  unfold M__law_signed
  refine sat_bind (draw_s hs (by decide) (by decide)) fun t1 ⟨v1, w1, x1⟩ => ?_
  refine sat_atI w1 (by show t1.1 < 3; exact x1) fun y hy => ?_
  simp only [List.mem_cons, List.not_mem_nil, or_false] at hy
  refine sat_chk (mul_small' (by omega)) ?_
  refine sat_some ⟨v1, ?_⟩
  rcases hy with e | e | e <;> subst e
  · exact .inl (Int.mul_one _)
  · exact .inl (Int.mul_one _)
  · exact .inr (by show x * (-1) = -x; omega)
theorem row_law {W : Nat} (h8 : 8 ≤ W) (h : W ≤ 30) {n : Nat} (hn : n < 2 ^ 30000) : M__law_row (n : Int) (W : Int) = some (dg W n) := by
  have hw : W ≠ 0 := by omega
  have loop : ∀ (a : Nat) (fuel m : Nat) (row : List Int), a < fuel → a < 2 ^ (W * m) → row.length + m ≤ 40000 →
      whileM (ρ := Unit) (fun (s4 : Int × (List Int)) => some (decide ((0 : Int) < s4.1))) (fun (s4 : Int × (List Int)) => (chkP (CShl (1 : Int) (W : Int))).bind fun z5 => (chkP (s4.2.length < sizeLine)).bind fun z6 => (chkP (0 ≤ (W : Int))).bind fun z7 => (some (s4.1 / 2 ^ ((W : Int)).toNat)).bind fun y8 => some (Stp.nx (y8, (s4.2 ++ [(Builtin.bitAnd s4.1 (((1 : Int) * 2 ^ ((W : Int)).toNat) - (1 : Int)))])))) fuel ((a : Int), row) = some (.nx ((0 : Int), row ++ dg W a)) := by
    refine dg_ind hw (fun fuel m row hf _ _ => ?_) fun a h0 ih fuel m row hf hm hl => ?_
    · obtain ⟨n, rfl⟩ : ∃ n, fuel = n + 1 := ⟨fuel - 1, by omega⟩
      rw [dg_zero, List.append_nil]
      exact whileM_f rfl
    · obtain ⟨n, rfl⟩ : ∃ n, fuel = n + 1 := ⟨fuel - 1, by omega⟩
      obtain ⟨k, rfl⟩ : ∃ k, m = k + 1 := by
        cases m with
        | zero => rw [Nat.mul_zero, Nat.pow_zero] at hm; omega
        | succ k => exact ⟨k, rfl⟩
      have lt : a / 2 ^ W < a := Nat.div_lt_self (by omega) (Nat.one_lt_two_pow hw)
      have e1 : (a : Int) / 2 ^ ((W : Int)).toNat = ((a / 2 ^ W : Nat) : Int) := by rw [Int.toNat_natCast, p2]; rfl
      have e2 : Builtin.bitAnd (a : Int) (((1 : Int) * 2 ^ ((W : Int)).toNat) - (1 : Int)) = ((a % 2 ^ W : Nat) : Int) := by
        rw [Int.toNat_natCast, Int.one_mul, p2, ← Int.natCast_one, ← Int.ofNat_sub (Nat.two_pow_pos _), and_low, p2]; rfl
      rw [whileM_t (s' := (((a / 2 ^ W : Nat) : Int), row ++ [((a % 2 ^ W : Nat) : Int)])) (by show some (decide ((0 : Int) < (a : Int))) = some true; rw [decide_eq_true (by omega)]) (by
        dsimp only
        rw [chkP_eq (shl_ok (k := 1) (by decide) (by omega) (by omega)), Option.bind_some, chkP_eq (size_lt (m := 40000) (show row.length ≤ 40000 by omega) (by decide)), Option.bind_some, chkP_eq (by omega), Option.bind_some, e1, e2]
        rfl)]
      rw [ih n k _ (by omega) (by
        rw [Nat.div_lt_iff_lt_mul (Nat.two_pow_pos W), ← Nat.pow_add, show W * k + W = W * (k + 1) from by rw [Nat.mul_succ]]
        exact hm) (by rw [List.length_append]; show row.length + 1 + k ≤ 40000; omega)]
      rw [dg_pos hw h0, List.append_assoc]
      rfl
  unfold M__law_row
  rw [Option.bind_some, Int.natAbs_natCast, loop n (n + 1) 30000 [] (by omega) (Nat.lt_of_lt_of_le hn (Nat.pow_le_pow_right (by decide) (by omega))) (by show 0 + 30000 ≤ 40000; decide)]
  rfl
theorem mul_k {a b : Int} {k : Nat} (hk : k ≤ 60000) (ha : a.natAbs < 2 ^ k) (hb : b.natAbs < 2 ^ k) : IntMulOk a b := .of_le (by rw [intBits_abs]; exact bl_le.mpr ha) (by rw [intBits_abs]; exact bl_le.mpr hb) (by omega)
/-! ### draws of great numbers -/
theorem draw_w {s : List Int} {m : Int} {k : Nat} (hs : Src s) (h : 0 < m) (h2 : m < 2 ^ k) (hk : k ≤ 9000) : Sat (M__law_draw s m) (fun r => Src r.2 ∧ 0 ≤ r.1 ∧ r.1 < m) := by
  have hd : ∀ a : Int, CDivW a m := fun a => by
    have : m.natAbs < 2 ^ (k + 1) := by
      have e : ((2 ^ k : Nat) : Int) = 2 ^ k := Int.natCast_pow 2 k
      have := Nat.pow_le_pow_right (n := 2) (by decide) (show k ≤ k + 1 by omega)
      omega
    by_cases l : k = 9000
    · have h0 : m.natAbs < 2 ^ k := by
        have e : ((2 ^ k : Nat) : Int) = 2 ^ k := Int.natCast_pow 2 k
        omega
      exact wide_div h h0 (by omega) hk
    · exact wide_div h this (by omega) (by omega)
  obtain ⟨a, b, c, rfl⟩ := hs
  unfold M__law_draw
  refine sat_eq (a := a) rfl ?_
  refine sat_ite (fun _ => ?_) fun _ => ?_
  · refine sat_eq (a := a) rfl ?_
    refine sat_chk h ?_
    refine sat_let ?_
    refine sat_eq (a := a) rfl ?_
    refine sat_chk (hd _) ?_
    refine sat_let ?_
    refine sat_eq (a := 0) rfl ?_
    exact sat_some ⟨⟨_, b, c, rfl⟩, Int.emod_nonneg _ (by omega), Int.emod_lt_of_pos _ h⟩
  · refine sat_eq (a := c) rfl ?_
    refine sat_let ?_
    refine sat_eq (a := 2) rfl ?_
    rw [show [a, b, c].set 2 (c + 1) = [a, b, c + 1] from rfl]
    refine sat_eq (a := b) rfl ?_
    refine sat_eq (a := c + 1) rfl ?_
    refine sat_chk (mul_l (by decide) (by decide)) ?_
    refine sat_chk (mul_r (by decide) (by decide)) ?_
    refine sat_chk (by decide) ?_
    refine sat_let ?_
    generalize hy : ((b + 52711 * (c + 1)) + 13) * 48271 % (2147483629 : Int) = y
    have hy1 : 0 ≤ y ∧ y < 2147483629 := by rw [← hy]; exact ⟨Int.emod_nonneg _ (by decide), Int.emod_lt_of_pos _ (by decide)⟩
    refine sat_chk (cdiv_s (by decide) (by decide)) ?_
    refine sat_eq (a := c + 1) rfl ?_
    refine sat_chk (mul_l (by omega) (by omega)) ?_
    refine sat_chk (by decide) ?_
    refine sat_let ?_
    generalize hu : (y * ((y / 1021) + 69621 + (c + 1))) % (2147483579 : Int) = u
    have hu1 : 0 ≤ u ∧ u < 2147483579 := by rw [← hu]; exact ⟨Int.emod_nonneg _ (by decide), Int.emod_lt_of_pos _ (by decide)⟩
    refine sat_chk (cdiv_s (by decide) (by decide)) ?_
    refine sat_chk (mul_l (by omega) (by omega)) ?_
    refine sat_chk (by decide) ?_
    refine sat_chk (cdiv_s (by decide) (by decide)) ?_
    refine sat_chk h ?_
    exact sat_some ⟨⟨_, b, c + 1, rfl⟩, Int.emod_nonneg _ (by omega), Int.emod_lt_of_pos _ h⟩
theorem nb_add {a b : Int} {k : Nat} (ha : a.natAbs < 2 ^ k) (hb : b.natAbs < 2 ^ k) : (a + b).natAbs < 2 ^ (k + 1) := by
  rw [Nat.pow_succ]; omega
theorem nb_sub {a b : Int} {k : Nat} (ha : a.natAbs < 2 ^ k) (hb : b.natAbs < 2 ^ k) : (a - b).natAbs < 2 ^ (k + 1) := by
  rw [Nat.pow_succ]; omega
theorem nb_mul {a b : Int} {i j : Nat} (ha : a.natAbs < 2 ^ i) (hb : b.natAbs < 2 ^ j) : (a * b).natAbs < 2 ^ (i + j) := by
  rw [Int.natAbs_mul, Nat.pow_add]
  exact Nat.mul_lt_mul'' ha hb
theorem nb_shl {a c : Int} {i j : Nat} (ha : a.natAbs < 2 ^ i) (hc : c.toNat ≤ j) : (a * 2 ^ c.toNat).natAbs < 2 ^ (i + j) := by
  rw [Int.natAbs_mul, p2, Int.natAbs_natCast, Nat.pow_add]
  exact Nat.lt_of_lt_of_le (Nat.mul_lt_mul_of_pos_right ha (Nat.two_pow_pos _)) (Nat.mul_le_mul_left _ (Nat.pow_le_pow_right (by decide) hc))
theorem nb_le {a : Int} {i j : Nat} (ha : a.natAbs < 2 ^ i) (h : i ≤ j) : a.natAbs < 2 ^ j := Nat.lt_of_lt_of_le ha (Nat.pow_le_pow_right (by decide) h)
theorem nb_sm {a : Int} {k : Nat} (h0 : -2 ≤ a) (h1 : a ≤ 2) (hk : 2 ≤ k) : a.natAbs < 2 ^ k := by
  have := Nat.pow_le_pow_right (n := 2) (by decide) hk
  omega
theorem wide_s {s : List Int} (hs : Src s) : Sat (M__law_wide_number s) (fun r => Src r.2 ∧ 0 < r.1 ∧ r.1.natAbs < 2 ^ 1100) := by
  unfold M__law_wide_number
  refine sat_bind (pick_s hs (List.cons_ne_nil _ _) (by show 7 < 100; decide)) fun t1 ⟨v1, w1⟩ => ?_
  simp only [List.mem_cons, List.not_mem_nil, or_false] at w1
  have hw : 0 < t1.1 ∧ t1.1 ≤ 1100 := by omega
  refine sat_bind (draw_s v1 hw.1 (by omega)) fun t2 ⟨v2, a2, b2⟩ => ?_
  refine sat_let ?_
  refine sat_chk (shl_ok (k := 1) (by decide) (by omega) (by omega)) ?_
  refine sat_chk (shl_ok (k := 1) (by decide) (by omega) (by omega)) ?_
  obtain ⟨k, hk⟩ := Int.eq_ofNat_of_zero_le a2
  rw [hk, show (1 + (k : Int) - 1).toNat = k by omega, Int.one_mul]
  have kl : k ≤ 1099 := by omega
  have e : ((2 ^ k : Nat) : Int) = 2 ^ k := Int.natCast_pow 2 k
  have pk : 0 < 2 ^ k := Nat.two_pow_pos k
  refine sat_bind (draw_w (k := k + 1) v2 (by omega) (by rw [Int.pow_succ]; omega) (by omega)) fun t3 ⟨v3, a3, b3⟩ => ?_
  refine sat_some ⟨v3, by omega, ?_⟩
  have h1 : (2 ^ k + t3.1).natAbs < 2 ^ (k + 1) := by rw [Nat.pow_succ]; omega
  exact nb_le h1 (by omega)
theorem two_s {s : List Int} (hs : Src s) : Sat (M__law_two s) (fun r => Src r.2 ∧ r.1.1.natAbs < 2 ^ 11000 ∧ 0 < r.1.2 ∧ r.1.2.natAbs < 2 ^ 11000) := by
  unfold M__law_two
  refine sat_bind (wide_s hs) fun t1 ⟨v1, a1, b1⟩ => ?_
  refine sat_bind (wide_s v1) fun t2 ⟨v2, a2, b2⟩ => ?_
  refine sat_bind (draw_s v2 (by decide) (by decide)) fun t3 ⟨v3, _⟩ => ?_
  refine sat_chk (by unfold CShl; decide) ?_
  refine sat_chk (by unfold CShl; decide) ?_
  rw [show ((1 : Int) * 2 ^ ((53 : Int)).toNat) = 9007199254740992 from rfl]
  refine sat_bind (draw_s v3 (by decide) (by decide)) fun t4 ⟨v4, a4, b4⟩ => ?_
  refine sat_let ?_
  have hmid : (9007199254740992 + t4.1).natAbs < 2 ^ 54 := by omega
  generalize 9007199254740992 + t4.1 = mid at *
  refine sat_bind (P := fun r => Src r.2.2 ∧ r.1.natAbs < 2 ^ 11000 ∧ 0 < r.2.1 ∧ r.2.1.natAbs < 2 ^ 11000) ?_ fun r ⟨x1, x2, x3, x4⟩ => sat_some ⟨x1, x2, x3, x4⟩
  have b2' := nb_le b2 (show 1100 ≤ 11000 by decide)
  have b1' := nb_le b1 (show 1100 ≤ 11000 by decide)
  refine sat_ite (fun _ => ?_) fun _ => sat_ite (fun _ => ?_) fun _ => sat_ite (fun _ => ?_) fun _ => sat_ite (fun _ => ?_) fun _ => sat_ite (fun _ => ?_) fun _ => sat_ite (fun _ => ?_) fun _ => ?_
  · have hb : (Builtin.bitOr mid 1).natAbs < 2 ^ 55 := by
      have := bor_rng (x := mid) (y := 1) (k := 54) (by omega) (by decide)
      omega
    refine sat_chk (mul_l (by omega) (by omega)) ?_
    refine sat_bind (draw_s v4 (by decide) (by decide)) fun t5 ⟨v5, a5, b5⟩ => ?_
    have hp := nb_mul hb b2
    refine sat_chk (shl_ok (k := 55 + 1100) hp a5 (by omega)) ?_
    refine sat_let ?_
    exact sat_some ⟨v5, nb_le (nb_shl (j := 40) hp (by omega)) (by decide), a2, b2'⟩
  · refine sat_chk (mul_l (by omega) (by omega)) ?_
    refine sat_bind (draw_s v4 (by decide) (by decide)) fun t5 ⟨v5, a5, b5⟩ => ?_
    have hp := nb_mul hmid b2
    refine sat_chk (shl_ok (k := 54 + 1100) hp a5 (by omega)) ?_
    refine sat_bind (draw_s v5 (by decide) (by decide)) fun t6 ⟨v6, a6, b6⟩ => ?_
    refine sat_let ?_
    exact sat_some ⟨v6, nb_le (nb_sub (nb_add (nb_shl (j := 40) hp (by omega)) (nb_sm (by omega) (by omega) (by decide))) (nb_sm (by decide) (by decide) (by decide))) (by decide), a2, b2'⟩
  · refine sat_chk (by unfold CShl; decide) ?_
    refine sat_chk (by unfold CShl; decide) ?_
    have hG : (((1 : Int) * 2 ^ ((1024 : Int)).toNat) - ((1 : Int) * 2 ^ ((970 : Int)).toNat)).natAbs < 2 ^ 1100 := by
      rw [show ((1024 : Int)).toNat = 1024 from rfl, show ((970 : Int)).toNat = 970 from rfl, Int.one_mul, Int.one_mul]
      decide +kernel
    generalize (((1 : Int) * 2 ^ ((1024 : Int)).toNat) - ((1 : Int) * 2 ^ ((970 : Int)).toNat)) = G at *
    refine sat_chk (mul_k (k := 1100) (by decide) hG b2) ?_
    refine sat_chk (shl_ok (k := 1100) b2 (by decide) (by decide)) ?_
    have h9 : (t2.1 * 2 ^ ((960 : Int)).toNat).natAbs < 2 ^ (1100 + 960) := nb_shl b2 (by decide)
    have h8 := nb_le b2 (show 1100 ≤ 1100 + 960 by decide)
    generalize t2.1 * 2 ^ ((960 : Int)).toNat = u at *
    refine sat_bind (pick_s v4 (List.cons_ne_nil _ _) (by show 6 < 100; decide)) fun t5 ⟨v5, w5⟩ => ?_
    simp only [List.mem_cons, List.not_mem_nil, or_false] at w5
    refine sat_let ?_
    have h5 : t5.1.natAbs < 2 ^ (1100 + 960) := by
      rcases w5 with e | e | e | e | e | e
      · rw [e]; exact nb_sm (by decide) (by decide) (by decide)
      · rw [e]; exact nb_sm (by decide) (by decide) (by decide)
      · rw [e]; exact nb_sm (by decide) (by decide) (by decide)
      · rw [e]; exact nb_sm (by decide) (by decide) (by decide)
      · rw [e, Int.zero_sub, Int.natAbs_neg]; exact h8
      · rw [e, Int.zero_sub, Int.natAbs_neg]; exact h9
    exact sat_some ⟨v5, nb_le (nb_add (nb_mul hG b2) (nb_le h5 (show 1100 + 960 ≤ 1100 + 1100 by decide))) (by decide), a2, b2'⟩
  · refine sat_bind (draw_s v4 (by decide) (by decide)) fun t5 ⟨v5, a5, b5⟩ => ?_
    refine sat_chk (shl_ok (k := 1100) b1 (by omega) (by omega)) ?_
    refine sat_bind (draw_s v5 (by decide) (by decide)) fun t6 ⟨v6, a6, b6⟩ => ?_
    refine sat_let ?_
    refine sat_some ⟨v6, b1', ?_, nb_le (nb_sub (nb_add (nb_shl (j := 1100) b1 (by omega)) (nb_sm (by omega) (by omega) (by decide))) (nb_sm (by decide) (by decide) (by decide))) (by decide)⟩
    have hk : 1 ≤ (1000 + t5.1).toNat := by omega
    obtain ⟨n, hn⟩ : ∃ n, (1000 + t5.1).toNat = n + 1 := ⟨(1000 + t5.1).toNat - 1, by omega⟩
    rw [hn, Int.pow_succ]
    have h0 : 0 < t1.1 * 2 ^ n := Int.mul_pos a1 (ppos n)
    have e2 : t1.1 * (2 ^ n * 2) = 2 * (t1.1 * 2 ^ n) := by rw [Int.mul_comm (2 ^ n) 2, Int.mul_left_comm]
    show 0 < t1.1 * (2 ^ n * 2) + t6.1 - 1
    rw [e2]
    generalize t1.1 * 2 ^ n = u at *
    omega
  · refine sat_bind (draw_s v4 (by decide) (by decide)) fun t5 ⟨v5, a5, b5⟩ => ?_
    refine sat_bind (draw_s v5 (by decide) (by decide)) fun t6 ⟨v6, a6, b6⟩ => ?_
    refine sat_chk (shl_ok (k := 1) (by decide) (by omega) (by omega)) ?_
    refine sat_let (sat_let ?_)
    refine sat_some ⟨v6, nb_le (nb_add hmid (nb_sm (by omega) (by omega) (by decide))) (by decide), ?_, nb_le (nb_shl (j := 1200) (show (1 : Int).natAbs < 2 ^ 1 by decide) (by omega)) (by decide)⟩
    rw [Int.one_mul]
    exact ppos _
  · refine sat_bind (pick_s v4 (List.cons_ne_nil _ _) (by show 2 < 100; decide)) fun t5 ⟨v5, w5⟩ => ?_
    simp only [List.mem_cons, List.not_mem_nil, or_false] at w5
    refine sat_bind (draw_s v5 (by omega) (by omega)) fun t6 ⟨v6, a6, b6⟩ => ?_
    refine sat_chk (shl_ok (k := 1100) b1 a6 (by omega)) ?_
    refine sat_bind (draw_s v6 (by decide) (by decide)) fun t7 ⟨v7, a7, b7⟩ => ?_
    refine sat_let ?_
    refine sat_chk (shl_ok (k := 1100) b2 a6 (by omega)) ?_
    refine sat_bind (draw_s v7 (by decide) (by decide)) fun t8 ⟨v8, a8, b8⟩ => ?_
    refine sat_let ?_
    have h1 := nb_sub (nb_add (nb_shl (j := 9000) b1 (show t6.1.toNat ≤ 9000 by omega)) (nb_sm (a := t7.1) (by omega) (by omega) (by decide))) (nb_sm (a := 1) (by decide) (by decide) (by decide))
    have h2 := nb_add (nb_shl (j := 9000) b2 (show t6.1.toNat ≤ 9000 by omega)) (nb_sm (a := t8.1) (by omega) (by omega) (by decide))
    have h3 : 0 < t2.1 * 2 ^ t6.1.toNat := Int.mul_pos a2 (ppos _)
    refine sat_some ⟨v8, ?_, by show 0 < t2.1 * 2 ^ t6.1.toNat + t8.1; omega, nb_le h2 (by decide)⟩
    show (max 1 (t1.1 * 2 ^ t6.1.toNat + t7.1 - 1)).natAbs < 2 ^ 11000
    have h1 := nb_le h1 (show 1100 + 9000 + 1 + 1 ≤ 11000 by decide)
    have h0 := nb_sm (a := 1) (k := 11000) (by decide) (by decide) (by decide)
    rcases Int.le_total 1 (t1.1 * 2 ^ t6.1.toNat + t7.1 - 1) with l | l
    · rw [Int.max_eq_right l]; exact h1
    · rw [Int.max_eq_left l]; exact h0
  · exact sat_some ⟨v4, b1', a2, b2'⟩
/-! ### the program's functions -/
theorem top_ok {W : Nat} (h : W ≤ 30) : M_top_digit (W : Int) = some ((2 ^ W - 1 : Nat) : Int) := by
  unfold M_top_digit
  refine bnd_of (chkP_eq (shl_ok (k := 1) (by decide) (by omega) (by omega))) ?_
  rw [Int.toNat_natCast, Int.one_mul, p2, Int.ofNat_sub (Nat.two_pow_pos W)]
  rfl
theorem size_ok {W : Nat} (h8 : 8 ≤ W) (h : W ≤ 30) (n : Int) : M_size_of (W : Int) n = some ((sz W n.natAbs : Nat) : Int) := by
  unfold M_size_of
  refine bnd_of (chkP_eq (cdiv_s (by omega) (by omega))) ?_
  rw [intBits_abs]
  unfold sz
  congr 1
  rw [show ((bl n.natAbs : Nat) : Int) + (W : Int) - 1 = ((bl n.natAbs + W - 1 : Nat) : Int) from by omega]
  exact (Int.natCast_ediv _ _).symm
theorem kW_le {W k : Nat} (h : W ≤ 30) (hk : k ≤ 4194304) : k * W ≤ 125829120 := Nat.le_trans (Nat.mul_le_mul hk h) (by decide)
theorem low_ok {W k : Nat} (h : W ≤ 30) (n : Int) (hk : k ≤ 4194304) : M_low_part (W : Int) n (k : Int) = some (n % 2 ^ (k * W)) := by
  have hm := kW_le h hk
  unfold M_low_part
  refine bnd_of (chkP_eq (mul_small' (by omega))) ?_
  rw [← Int.natCast_mul]
  refine bnd_of (chkP_eq (shl_ok (k := 1) (by decide) (by omega) (by omega))) ?_
  rw [Int.toNat_natCast, Int.one_mul, p2, ← Int.natCast_one, ← Int.ofNat_sub (Nat.two_pow_pos _), and_low, p2]
theorem row_loop {W : Nat} (h : W ≤ 30) : ∀ (xs : List Int) (n : Int) (row : List Int), row.length + xs.length < 16777216 →
    forM' (ρ := Unit) (fun (a15 : Int) (s14 : Int × (List Int)) => (chkP (s14.2.length < sizeLine)).bind fun z16 => (chkP (0 ≤ (W : Int))).bind fun z17 => (some (s14.1 / 2 ^ ((W : Int)).toNat)).bind fun y18 => some (Stp.nx (y18, (s14.2 ++ [(Builtin.bitAnd s14.1 ((2 ^ W - 1 : Nat) : Int))])))) xs (n, row) = some (.nx (n / 2 ^ (xs.length * W), row ++ rw_ W n xs.length))
  | [], n, row, _ => by
    show some (Stp.nx (n, row)) = some (Stp.nx (n / 2 ^ (0 * W), row ++ []))
    rw [Nat.zero_mul, Int.pow_zero, Int.ediv_one, List.append_nil]
  | x :: r, n, row, hl => by
    rw [List.length_cons] at hl
    rw [forM_cons (s' := (n / 2 ^ W, row ++ [n % 2 ^ W])) (by
      refine bnd_of (chkP_eq (size_lt (m := 16777215) (by show row.length ≤ _; omega) (by decide))) ?_
      refine bnd_of (chkP_eq (by omega)) ?_
      refine bnd_of rfl ?_
      rw [Int.toNat_natCast, and_low]), row_loop h r _ _ (by rw [List.length_append]; show row.length + 1 + r.length < _; omega)]
    rw [ediv_pow, List.length_cons, show W + r.length * W = (r.length + 1) * W from by rw [Nat.succ_mul]; omega, List.append_assoc]
    rfl
theorem row_ok {W : Nat} (h8 : 8 ≤ W) (h : W ≤ 30) : ∀ (f k : Nat) (n : Int), k ≤ 32 * 2 ^ f → k ≤ 4194304 → M_row_of (f + 1) (W : Int) n (k : Int) = some (rw_ W n k) := by
  intro f
  induction f with
  | zero =>
    intro k n hk hk2
    rw [M_row_of_succ, if_neg (by rw [decide_eq_true_iff]; omega)]
    refine bnd_of (top_ok h) ?_
    refine bnd_of rfl ?_
    refine bnd_of (chkP_eq (by omega)) ?_
    rw [Int.toNat_natCast]
    refine bnd_of (row_loop h (rng 0 k) n [] (by rw [rng_len]; show 0 + k < _; omega)) ?_
    rw [rng_len]
    rfl
  | succ f ih =>
    intro k n hk hk2
    rw [M_row_of_succ]
    by_cases q : 32 < k
    · rw [if_pos (decide_eq_true (by omega))]
      refine bnd_of (chkP_eq (cdiv_s (by decide) (by decide))) ?_
      refine bnd_of rfl ?_
      rw [show (k : Int) / 2 = ((k / 2 : Nat) : Int) from rfl]
      have hp : 32 * 2 ^ (f + 1) = 2 * (32 * 2 ^ f) := by rw [Nat.pow_succ]; omega
      have hm := kW_le (k := k / 2) h (by omega)
      refine bnd_of (low_ok h n (by omega)) ?_
      refine bnd_of (ih (k / 2) _ (by omega) (by omega)) ?_
      refine bnd_of (chkP_eq (mul_small' (by omega))) ?_
      rw [← Int.natCast_mul, Int.toNat_natCast, show (k : Int) - ((k / 2 : Nat) : Int) = ((k - k / 2 : Nat) : Int) from by omega]
      refine bnd_of (chkP_eq (by omega)) ?_
      refine bnd_of (ih (k - k / 2) _ (by omega) (by omega)) ?_
      refine bnd_of (chkP_eq (size_le (m := 4194304) (by rw [rw_len, rw_len]; omega) (by decide))) ?_
      rw [rw_mod, ← rw_app, show k / 2 + (k - k / 2) = k from by omega]
    · rw [if_neg (by rw [decide_eq_true_iff]; omega)]
      refine bnd_of (top_ok h) ?_
      refine bnd_of rfl ?_
      refine bnd_of (chkP_eq (by omega)) ?_
      rw [Int.toNat_natCast]
      refine bnd_of (row_loop h (rng 0 k) n [] (by rw [rng_len]; show 0 + k < _; omega)) ?_
      rw [rng_len]
      rfl
/-- the number as the program keeps it -/
abbrev bg (W : Nat) (n : Int) : Bg := ⟨(W : Int), dg W n.natAbs, n⟩
theorem bigof_ok {W : Nat} {S : MS} (hS : S.w = (W : Int)) (h8 : 8 ≤ W) (h : W ≤ 30) {n : Int} (hn : sz W n.natAbs ≤ 4194304) : M_big_of S n = some (bg W n) := by
  unfold M_big_of
  rw [hS]
  refine bnd_of (size_ok h8 h n) ?_
  refine bnd_of (row_ok h8 h 19 _ _ (Nat.le_trans hn (by decide)) hn) ?_
  rw [rw_dg (by omega)]
theorem big_ok {W : Nat} {S : MS} (hS : S.w = (W : Int)) (h8 : 8 ≤ W) (h : W ≤ 30) {n : Int} (hn : sz W n.natAbs ≤ 4194304) : M_big S n = some (bg W n) := by
  unfold M_big
  refine bnd_of (show M_check_machine S = some () from bnd_of (chkP_eq rfl) rfl) ?_
  refine bnd_of (show M_is_integer n = some true from rfl) ?_
  refine bnd_of (chkP_eq rfl) ?_
  exact bnd_of (bigof_ok hS h8 h hn) rfl
theorem plain_ok (W : Nat) (n : Int) : M_plain (bg W n) = some n := by
  unfold M_plain M_check_big
  exact bnd_of (a := ()) (bnd_of (a := ()) (chkP_eq rfl) rfl) rfl
theorem cut_take {α : Type} (l : List α) {k : Nat} (hk : k ≤ l.length) : cut l none (some (k : Int)) = l.take k := by
  have h1 : HT.sIx l.length 0 none = 0 := rfl
  have h2 : HT.sIx l.length l.length (some (k : Int)) = k := by rw [HT.sIx_nat, Nat.min_eq_left hk]
  unfold cut
  rw [h1, h2, List.drop_zero, Nat.sub_zero]
theorem cut_drop {α : Type} (l : List α) {k : Nat} (hk : k ≤ l.length) : cut l (some (k : Int)) none = l.drop k := by
  have h1 : HT.sIx l.length 0 (some (k : Int)) = k := by rw [HT.sIx_nat, Nat.min_eq_left hk]
  have h2 : HT.sIx l.length l.length none = l.length := rfl
  unfold cut
  rw [h1, h2]
  exact List.take_of_length_le (by rw [List.length_drop]; omega)
theorem lv_foldr (B : Int) : ∀ l : List Int, l.foldr (fun d s => s * B + d) 0 = lv B l
  | [] => rfl
  | d :: r => by
    rw [List.foldr_cons, lv_foldr B r, Int.mul_comm]
    show B * lv B r + d = d + B * lv B r
    omega
theorem num_loop {W : Nat} : ∀ (xs : List Int) (m : Nat) (s : Int), (∀ x ∈ xs, 0 ≤ x ∧ x < (2 : Int) ^ W) → 0 ≤ s → s < 2 ^ (W * m) → W * (m + xs.length) + W ≤ 134217728 →
    forM' (ρ := Unit) (fun (a9 : Int) (s8 : Int) => (chkP (CShl s8 (W : Int))).bind fun z10 => (some ((s8 * 2 ^ ((W : Int)).toNat) + a9)).bind fun y11 => some (Stp.nx y11)) xs s = some (.nx (xs.foldl (fun s d => s * 2 ^ W + d) s))
  | [], m, s, _, _, _, _ => rfl
  | x :: r, m, s, hd, s0, s1, hl => by
    have hx := hd x List.mem_cons_self
    rw [List.length_cons] at hl
    have e1 : (s + 1) * 2 ^ W ≤ 2 ^ (W * m) * 2 ^ W := Int.mul_le_mul_of_nonneg_right (by omega) (Int.le_of_lt (ppos W))
    rw [Int.add_mul, Int.one_mul, ← Int.pow_add] at e1
    have e0 : 0 ≤ s * 2 ^ W := Int.mul_nonneg s0 (Int.le_of_lt (ppos W))
    have el : W * (m + (r.length + 1)) = W * m + W * r.length + W := by rw [Nat.mul_add, Nat.mul_add, Nat.mul_one]; omega
    rw [forM_cons (s' := s * 2 ^ W + x) (by
      refine bnd_of (chkP_eq (shl_ok (nat_of s0 s1) (by omega) (by omega))) ?_
      refine bnd_of rfl ?_
      rw [Int.toNat_natCast]), num_loop r (m + 1) _ (fun y hy => hd y (List.mem_cons_of_mem _ hy)) (by omega) (by rw [Nat.mul_succ]; omega) (by rw [show m + 1 + r.length = m + (r.length + 1) from by omega]; exact hl)]
    rfl
theorem num_base {W : Nat} {row : List Int} (h : W ≤ 30) (hd : ∀ x ∈ row, 0 ≤ x ∧ x < (2 : Int) ^ W) (hl : row.length ≤ 32) :
    ((forM' (ρ := Unit) (fun (a9 : Int) (s8 : Int) => (chkP (CShl s8 (W : Int))).bind fun z10 => (some ((s8 * 2 ^ ((W : Int)).toNat) + a9)).bind fun y11 => some (Stp.nx y11)) ((row).reverse) (0 : Int)).bind fun z12 => (nxt z12).bind fun s13 => some s13) = some (lv (2 ^ W) row) := by
  have := Nat.mul_le_mul h hl
  refine bnd_of (num_loop row.reverse 0 0 (fun x hx => hd x (List.mem_reverse.mp hx)) (Int.le_refl _) (by rw [Nat.mul_zero, Int.pow_zero]; exact Int.zero_lt_one) (by rw [List.length_reverse, Nat.zero_add]; omega)) ?_
  rw [List.foldl_reverse, lv_foldr]
  rfl
theorem num_ok {W : Nat} (h8 : 8 ≤ W) (h : W ≤ 30) : ∀ (f : Nat) (row : List Int), (∀ x ∈ row, 0 ≤ x ∧ x < (2 : Int) ^ W) → row.length ≤ 32 * 2 ^ f → row.length ≤ 2097152 → M_number_of (f + 1) (W : Int) row = some (lv (2 ^ W) row) := by
  intro f
  induction f with
  | zero =>
    intro row hd hl _
    rw [M_number_of_succ, Option.bind_some, if_neg (by rw [decide_eq_true_iff]; omega)]
    exact num_base h hd (by omega)
  | succ f ih =>
    intro row hd hl hl2
    rw [M_number_of_succ, Option.bind_some]
    by_cases q : 32 < row.length
    · rw [if_pos (decide_eq_true (by omega))]
      refine bnd_of (chkP_eq (cdiv_s (by decide) (by decide))) ?_
      refine bnd_of rfl ?_
      rw [show ((row.length : Nat) : Int) / 2 = ((row.length / 2 : Nat) : Int) from rfl, cut_take row (by omega), cut_drop row (by omega)]
      have hp : 32 * 2 ^ (f + 1) = 2 * (32 * 2 ^ f) := by rw [Nat.pow_succ]; omega
      have d1 : ∀ x ∈ row.take (row.length / 2), 0 ≤ x ∧ x < (2 : Int) ^ W := fun x hx => hd x (List.mem_of_mem_take hx)
      have d2 : ∀ x ∈ row.drop (row.length / 2), 0 ≤ x ∧ x < (2 : Int) ^ W := fun x hx => hd x (List.mem_of_mem_drop hx)
      refine bnd_of (ih _ d1 (by rw [List.length_take]; omega) (by rw [List.length_take]; omega)) ?_
      refine bnd_of (ih _ d2 (by rw [List.length_drop]; omega) (by rw [List.length_drop]; omega)) ?_
      have kb : row.length / 2 * W ≤ 31457280 := Nat.le_trans (Nat.mul_le_mul (show row.length / 2 ≤ 1048576 by omega) h) (by decide)
      have kb2 : W * (row.drop (row.length / 2)).length ≤ 31457310 := Nat.le_trans (Nat.mul_le_mul h (show (row.drop (row.length / 2)).length ≤ 1048577 by rw [List.length_drop]; omega)) (by decide)
      have bd := lv_bound (ppos W) d2
      rw [← Int.pow_mul] at bd
      refine bnd_of (chkP_eq (mul_small' (by omega))) ?_
      rw [← Int.natCast_mul]
      refine bnd_of (chkP_eq (shl_ok (nat_of bd.1 bd.2) (by omega) (by omega))) ?_
      rw [Int.toNat_natCast, lv_split (row.length / 2) row (by omega), ← Int.pow_mul, Nat.mul_comm W, Int.mul_comm (2 ^ (row.length / 2 * W))]
    · rw [if_neg (by rw [decide_eq_true_iff]; omega)]
      exact num_base h hd (by omega)
theorem fit_ok {W : Nat} {S : MS} (hS : S.w = (W : Int)) (a : Int) (x : Str) : M_check_fit S (bg W a) x = some () := by
  unfold M_check_fit M_check_big
  exact bnd_of (a := ()) (bnd_of (a := ()) (chkP_eq rfl) rfl) (bnd_of (a := ()) (chkP_eq hS.symm) rfl)
theorem one_big {W : Nat} {S : MS} (hS : S.w = (W : Int)) (a : Int) : M_check_one S (bg W a) = some () := by
  unfold M_check_one M_check_machine
  exact bnd_of (a := ()) (bnd_of (a := ()) (chkP_eq rfl) rfl) (bnd_of (fit_ok hS a _) rfl)
theorem two_ok {W : Nat} {S : MS} (hS : S.w = (W : Int)) (a b : Int) : M_check_two S (bg W a) (bg W b) = some () := by
  unfold M_check_two
  exact bnd_of (one_big hS a) (bnd_of (fit_ok hS b _) rfl)
theorem pw_mul (W k : Nat) : (2 ^ W) ^ k = 2 ^ (k * W) := by rw [← Nat.pow_mul, Nat.mul_comm]
theorem fdiv_nat (a b : Nat) : ((a : Nat) : Int).fdiv (b : Int) = ((a / b : Nat) : Int) := by rw [Int.fdiv_eq_ediv_of_nonneg _ (by omega)]; rfl
theorem fmod_nat (a b : Nat) : ((a : Nat) : Int).fmod (b : Int) = ((a % b : Nat) : Int) := by rw [Int.fmod_eq_emod_of_nonneg _ (by omega)]; rfl
theorem corr_gt {B U t h Q v1 v2 l m : Nat} (hsp : U * B + t = h) (hl : l + m * v1 = U) (hm : Q + 1 ≤ m) (hQ2 : h < (Q + 1) * (v1 * B + v2)) : l * B + t < v2 * m := by
  have e2 := Nat.mul_le_mul_right (v1 * B + v2) hm
  have e3 : m * (v1 * B + v2) = m * v1 * B + v2 * m := by rw [Nat.mul_add, Nat.mul_assoc, Nat.mul_comm v2]
  have e4 : U * B = l * B + m * v1 * B := by rw [← hl, Nat.add_mul]
  omega
theorem corr_le {B U t h Q v1 v2 l : Nat} (hsp : U * B + t = h) (hl : l + Q * v1 = U) (hQ1 : Q * (v1 * B + v2) ≤ h) : v2 * Q ≤ l * B + t := by
  have e3 : Q * (v1 * B + v2) = Q * v1 * B + v2 * Q := by rw [Nat.mul_add, Nat.mul_assoc, Nat.mul_comm v2]
  have e4 : U * B = l * B + Q * v1 * B := by rw [← hl, Nat.add_mul]
  omega
theorem corr_lt {B t v2 l m : Nat} (hB : 0 < B) (h2 : v2 < B) (hm : m ≤ B + 1) (h : l * B + t < v2 * m) : l < B := by
  have e6 : v2 * m ≤ (B - 1) * (B + 1) := Nat.mul_le_mul (by omega) hm
  have e7 : (B - 1) * (B + 1) + 1 = B * B := by
    obtain ⟨d, rfl⟩ : ∃ d, B = d + 1 := ⟨B - 1, by omega⟩
    rw [Nat.add_sub_cancel]
    grind
  exact Nat.lt_of_mul_lt_mul_right (a := B) (by omega)
theorem corr_ok {W : Nat} (h8 : 8 ≤ W) (h30 : W ≤ 30) {v1 v2 h : Nat} (hv : 0 < v1) (h2 : v2 < 2 ^ W) (hU : h / 2 ^ W < 2 ^ 100) (hg : h / 2 ^ W / v1 ≤ 2 ^ W + 1) (hq : h / 2 ^ W / v1 ≤ h / (v1 * 2 ^ W + v2) + 2) :
    M_corrections (W : Int) ((h / 2 ^ W / v1 : Nat) : Int) ((h / 2 ^ W % v1 : Nat) : Int) (v1 : Int) (v2 : Int) ((h % 2 ^ W : Nat) : Int) = some (((h / 2 ^ W / v1 : Nat) : Int) - ((h / (v1 * 2 ^ W + v2) : Nat) : Int)) := by
  have hge := kn_guess_ge (h := h) (v2 := v2) (Nat.two_pow_pos W) hv
  have hB1 : 2 ^ W ≤ 2 ^ 30 := Nat.pow_le_pow_right (by decide) h30
  have hB8 : 2 ^ 8 ≤ 2 ^ W := Nat.pow_le_pow_right (by decide) h8
  have hV : 0 < v1 * 2 ^ W + v2 := by have := Nat.mul_pos hv (Nat.two_pow_pos W); omega
  have hQ1 : h / (v1 * 2 ^ W + v2) * (v1 * 2 ^ W + v2) ≤ h := Nat.div_mul_le_self _ _
  have hQ2 : h < (h / (v1 * 2 ^ W + v2) + 1) * (v1 * 2 ^ W + v2) := by
    have := Nat.lt_div_mul_add (a := h) hV
    rw [Nat.add_mul, Nat.one_mul]; exact this
  have hsp : h / 2 ^ W * 2 ^ W + h % 2 ^ W = h := by rw [Nat.mul_comm]; exact Nat.div_add_mod h (2 ^ W)
  have hleft : h / 2 ^ W % v1 + h / 2 ^ W / v1 * v1 = h / 2 ^ W := by rw [Nat.mul_comm]; exact Nat.mod_add_div _ _
  have ht : h % 2 ^ W < 2 ^ W := Nat.mod_lt _ (Nat.two_pow_pos W)
  have hBi := p2 W
  generalize 2 ^ W = B at *
  generalize h / (v1 * B + v2) = Q at *
  generalize h / B = U at *
  generalize h % B = t at *
  generalize hgg : U / v1 = g at *
  generalize U % v1 = l0 at *
  unfold M_corrections
  have loop : ∀ (n fuel c l : Nat), n < fuel → c + (Q + n) = g → l + (Q + n) * v1 = U →
      whileM (ρ := Unit) (fun (s1 : Int × Int) => (chkP (0 ≤ (W : Int))).bind fun z2 => (if (decide ((s1.2 / 2 ^ ((W : Int)).toNat) = (0 : Int))) = true then (chkP (IntMulOk (v2 : Int) ((g : Int) - s1.1))).bind fun z3 => (chkP (CShl s1.2 (W : Int))).bind fun z4 => some (decide (((s1.2 * 2 ^ ((W : Int)).toNat) + (t : Int)) < ((v2 : Int) * ((g : Int) - s1.1)))) else some false).bind fun z5 => some z5) (fun (s1 : Int × Int) => (some (s1.1 + (1 : Int))).bind fun y7 => (some (s1.2 + (v1 : Int))).bind fun y8 => some (Stp.nx (y7, y8))) fuel ((c : Int), (l : Int)) = some (.nx ((((c + n : Nat) : Nat) : Int), ((l + n * v1 : Nat) : Int))) := by
    intro n
    induction n with
    | zero =>
      intro fuel c l hf hc hl
      obtain ⟨f, rfl⟩ : ∃ f, fuel = f + 1 := ⟨fuel - 1, by omega⟩
      rw [Nat.add_zero] at hl hc
      have hlU : l ≤ U := by rw [← hl]; exact Nat.le_add_right _ _
      have key := corr_le hsp hl hQ1
      rw [Nat.zero_mul]
      refine whileM_f ?_
      dsimp only
      rw [chkP_eq (by omega), Option.bind_some, Int.toNat_natCast, hBi]
      split
      · rw [chkP_eq (mul_small (by omega)), Option.bind_some, chkP_eq (shl_ok (k := 100) (by rw [Int.natAbs_natCast]; omega) (by omega) (by omega)), Option.bind_some, Option.bind_some]
        congr 1
        refine decide_eq_false fun z => ?_
        have e1 : (g : Int) - (c : Int) = (Q : Int) := by omega
        rw [e1, ← Int.natCast_mul, ← Int.natCast_mul] at z
        omega
      · rfl
    | succ n ih =>
      intro fuel c l hf hc hl
      obtain ⟨f, rfl⟩ : ∃ f, fuel = f + 1 := ⟨fuel - 1, by omega⟩
      obtain ⟨m, hm⟩ : ∃ m, m = Q + (n + 1) := ⟨_, rfl⟩
      rw [← hm] at hc hl
      have hlU : l ≤ U := by rw [← hl]; exact Nat.le_add_right _ _
      have key := corr_gt hsp hl (by omega) hQ2
      have e8 := corr_lt (Nat.lt_of_lt_of_le (by decide) hB8) h2 (show m ≤ B + 1 by omega) key
      have hl2 : l + v1 + (Q + n) * v1 = U := by
        rw [← hl, hm, Nat.add_assoc, show Q + (n + 1) = (Q + n) + 1 from by omega, Nat.add_mul (Q + n) 1, Nat.one_mul, Nat.add_comm v1]
      rw [whileM_t (s' := (((c + 1 : Nat) : Int), ((l + v1 : Nat) : Int))) ?_ rfl, ih f (c + 1) (l + v1) (by omega) (by omega) hl2]
      · rw [show c + 1 + n = c + (n + 1) from by omega, show l + v1 + n * v1 = l + (n + 1) * v1 from by rw [Nat.add_mul, Nat.one_mul]; omega]
      · dsimp only
        rw [chkP_eq (by omega), Option.bind_some, Int.toNat_natCast, hBi, if_pos (decide_eq_true (Int.ediv_eq_zero_of_lt (by omega) (by omega))), chkP_eq (mul_small (by omega)), Option.bind_some, chkP_eq (shl_ok (k := 100) (by rw [Int.natAbs_natCast]; omega) (by omega) (by omega)), Option.bind_some, Option.bind_some]
        congr 1
        refine decide_eq_true ?_
        have e1 : (g : Int) - (c : Int) = (m : Int) := by omega
        rw [e1, ← Int.natCast_mul, ← Int.natCast_mul]
        omega
  have := loop (g - Q) 4 0 l0 (by omega) (by omega) (by rw [show Q + (g - Q) = g from by omega]; exact hleft)
  rw [show ((0 : Nat) : Int) = 0 from rfl] at this
  rw [this, Option.bind_some, nxt_nx, Option.bind_some, Nat.zero_add]
  congr 1
  show ((g - Q : Nat) : Int) = _
  omega
/-- what the steps of a long division count -/
def cntS (S : MS) (l : List (T4 Int Int Bool Int)) (n : Int) : MS :=
  ((((S.step "quotient" (l.length : Int)).step "corrected" (l.map fun s => s.b).sum).step "product" ((l.length : Int) * n)).step "restored" ((l.filter fun s => s.c).length : Int)).step "sum" (((l.filter fun s => s.c).length : Int) * n)
theorem cnts_ok (S : MS) (l : List (T4 Int Int Bool Int)) (n : Int) (hl : l.length ≤ 100000) : M_count_steps S l n = some ((), cntS S l n) := by
  have hf : (l.filter fun s => s.c).length ≤ l.length := List.length_filter_le _ _
  unfold M_count_steps
  refine bnd_of (chkP_eq (size_le (m := 100000) hl (by decide))) ?_
  refine bnd_of (lcM_filter (p := fun s => s.c) fun x _ => ?_) ?_
  · cases x.c <;> rfl
  refine bnd_of rfl ?_
  refine bnd_of (chkP_eq (by decide +kernel)) ?_
  refine bnd_of (chkP_eq (size_le (m := 100000) hl (by decide))) ?_
  refine bnd_of (lcM_mapU (f := fun s => s.b) fun x _ => rfl) ?_
  refine bnd_of (chkP_eq (by decide +kernel)) ?_
  refine bnd_of (chkP_eq (mul_small (by omega))) ?_
  refine bnd_of (chkP_eq (by decide +kernel)) ?_
  refine bnd_of (chkP_eq (by decide +kernel)) ?_
  refine bnd_of (chkP_eq (mul_small (by show (((l.filter fun s => s.c).length : Nat) : Int).natAbs < 2 ^ 64; omega))) ?_
  exact bnd_of (chkP_eq (by decide +kernel)) rfl
theorem top_mod (W x : Nat) : Builtin.bitAnd (x : Int) ((2 ^ W - 1 : Nat) : Int) = ((x % 2 ^ W : Nat) : Int) := by
  rw [and_low, p2]; rfl
theorem div_nat (a b : Nat) : (a : Int) / (b : Int) = ((a / b : Nat) : Int) := rfl
theorem q_loop {W A b E k : Nat} {body : Int → (Int × List (T4 Int Int Bool Int)) → Option (Stp (Int × List (T4 Int Int Bool Int)) Unit)}
    (hb : ∀ i acc, i < k → acc.length ≤ 60000 → body ((A / (2 ^ W) ^ i % 2 ^ W : Nat) : Int) (((A / (2 ^ W) ^ (i + 1) % b : Nat) : Int), acc) = some (.nx (((A / (2 ^ W) ^ i % b : Nat) : Int), acc ++ [dvS (2 ^ W) E A b i]))) :
    ∀ j acc, j ≤ k → acc.length + j ≤ 60000 → forM' body ((rw_ W (A : Int) j).reverse) (((A / (2 ^ W) ^ j % b : Nat) : Int), acc) = some (.nx (((A % b : Nat) : Int), acc ++ dvSteps (2 ^ W) E A b j)) := by
  intro j
  induction j with
  | zero =>
    intro acc _ _
    rw [Nat.pow_zero, Nat.div_one]
    show some _ = some _
    rw [show dvSteps (2 ^ W) E A b 0 = [] from rfl, List.append_nil]
  | succ j ih =>
    intro acc hj hl
    have ed : (rw_ W (A : Int) (j + 1)).reverse = ((A / (2 ^ W) ^ j % 2 ^ W : Nat) : Int) :: (rw_ W (A : Int) j).reverse := by
      rw [rw_app, List.reverse_append]
      show ((A : Int) / 2 ^ (j * W) % 2 ^ W) :: _ = _
      rw [p2 (j * W), p2 W, pw_mul]
      rfl
    rw [ed, forM_cons (hb j acc (by omega) (by omega)), ih _ (by omega) (by rw [List.length_append]; show acc.length + 1 + j ≤ 60000; omega), List.append_assoc]
    rfl
theorem qsteps_ok {W : Nat} {S : MS} (hS : S.w = (W : Int)) (h8 : 8 ≤ W) (h30 : W ≤ 30) {A b n k K : Nat} (hn : 2 ≤ n) (hnK : n + k ≤ 60000) (hv : 2 ^ W ≤ 2 * (b / 2 ^ ((n - 2) * W) / 2 ^ W)) (hv2 : b / 2 ^ ((n - 2) * W) / 2 ^ W < 2 ^ W) (hA : A / 2 ^ (k * W) < b) (hbK : b < 2 ^ K) (hK : K ≤ 2000000) :
    M_quotient_steps S (A : Int) ((n + k : Nat) : Int) (b : Int) (n : Int) = some ((LF.mk (dvSteps (2 ^ W) (2 ^ ((n - 2) * W)) A b k), ((A % b : Nat) : Int)), cntS S (dvSteps (2 ^ W) (2 ^ ((n - 2) * W)) A b k) n) := by
  have hB1 : 2 ^ W ≤ 2 ^ 30 := Nat.pow_le_pow_right (by decide) h30
  have hB8 : 2 ^ 8 ≤ 2 ^ W := Nat.pow_le_pow_right (by decide) h8
  have hB0 : 0 < 2 ^ W := Nat.two_pow_pos W
  have hkW : (n + k) * W ≤ 1800000 := Nat.le_trans (Nat.mul_le_mul hnK h30) (by decide)
  have hnW : (n - 2) * W ≤ 1800000 := Nat.le_trans (Nat.mul_le_mul (show n - 2 ≤ 60000 by omega) h30) (by decide)
  have hv0 : 0 < b / 2 ^ ((n - 2) * W) / 2 ^ W := by omega
  have hV : 2 ^ W ≤ b / 2 ^ ((n - 2) * W) := by
    have := Nat.div_mul_le_self (b / 2 ^ ((n - 2) * W)) (2 ^ W)
    have h2 := Nat.mul_le_mul_right (2 ^ W) hv0
    omega
  have hE0 : 0 < 2 ^ ((n - 2) * W) := Nat.two_pow_pos _
  have hb0 : 0 < b := by
    rcases Nat.eq_zero_or_pos b with e | e
    · rw [e, Nat.zero_div] at hV; omega
    · exact e
  have e1 : ((n + k : Nat) : Int) - (n : Int) = (k : Int) := by omega
  have e2 : ((n : Int) - 2) * (W : Int) = (((n - 2) * W : Nat) : Int) := by rw [Int.natCast_mul, show ((n - 2 : Nat) : Int) = (n : Int) - 2 from by omega]
  have e3 : (k : Int) * (W : Int) = ((k * W : Nat) : Int) := (Int.natCast_mul _ _).symm
  unfold M_quotient_steps
  rw [hS, e1, e2, e3]
  refine bnd_of (top_ok h30) ?_
  refine bnd_of (chkP_eq (mul_small' (by omega))) ?_
  refine bnd_of rfl ?_
  refine bnd_of (chkP_eq (by omega)) ?_
  have f1 : (b : Int) / 2 ^ ((((n - 2) * W : Nat) : Int) + (W : Int)).toNat = ((b / 2 ^ ((n - 2) * W) / 2 ^ W : Nat) : Int) := by
    rw [← Int.natCast_add, Int.toNat_natCast, p2, div_nat, Nat.pow_add, Nat.div_div_eq_div_mul]
  have f2 : (b : Int) / 2 ^ ((((n - 2) * W : Nat) : Int)).toNat = ((b / 2 ^ ((n - 2) * W) : Nat) : Int) := by rw [Int.toNat_natCast, p2, div_nat]
  have f3 : (A : Int) / 2 ^ (((k * W : Nat) : Int)).toNat = ((A / 2 ^ (k * W) : Nat) : Int) := by rw [Int.toNat_natCast, p2, div_nat]
  rw [f1, f2, f3, top_mod]
  refine bnd_of rfl ?_
  refine bnd_of (chkP_eq (by omega)) ?_
  refine bnd_of rfl ?_
  refine bnd_of (chkP_eq (mul_small' (by omega))) ?_
  refine bnd_of (chkP_eq (by omega)) ?_
  refine bnd_of rfl ?_
  refine bnd_of rfl ?_
  refine bnd_of (row_ok h8 h30 19 k (A : Int) (by omega) (by omega)) ?_
  obtain ⟨E, hE⟩ : ∃ E, E = 2 ^ ((n - 2) * W) := ⟨_, rfl⟩
  rw [← hE] at hv hv2 hv0 hV hE0 ⊢
  have step : ∀ (i : Nat) (acc : List (T4 Int Int Bool Int)), i ≤ k → acc.length ≤ 60000 →
      ((chkP (CShl ((A / (2 ^ W) ^ (i + 1) % b : Nat) : Int) (W : Int))).bind fun z17 => (some ((((A / (2 ^ W) ^ (i + 1) % b : Nat) : Int) * 2 ^ W) + ((A / (2 ^ W) ^ i % 2 ^ W : Nat) : Int))).bind fun y18 => (chkP (0 ≤ (((n - 2) * W : Nat) : Int))).bind fun z19 => (some (y18 / (E : Int))).bind fun y20 => (chkP (0 ≤ (W : Int))).bind fun z21 => (chkP (CDivF (y20 / 2 ^ W) ((b / E / 2 ^ W : Nat) : Int))).bind fun z22 => (some (((y20 / 2 ^ W).fdiv ((b / E / 2 ^ W : Nat) : Int), (y20 / 2 ^ W).fmod ((b / E / 2 ^ W : Nat) : Int)) : Int × Int)).bind fun y23 => (M_corrections (W : Int) y23.1 y23.2 ((b / E / 2 ^ W : Nat) : Int) ((b / E % 2 ^ W : Nat) : Int) (Builtin.bitAnd y20 ((2 ^ W - 1 : Nat) : Int))).bind fun z24 => (some (y23.1 - z24)).bind fun y25 => (chkP (IntMulOk y25 (b : Int))).bind fun z26 => (some (y18 - (y25 * (b : Int)))).bind fun y27 => (some (decide (y27 < (0 : Int)))).bind fun y28 => (if y28 = true then (some (y25 - (1 : Int))).bind fun y29 => (some (y27 + (b : Int))).bind fun y30 => some (y29, y30) else some (y25, y27)).bind fun z33 => (chkP (acc.length < sizeLine)).bind fun z34 => some (Stp.nx (ρ := Unit) (z33.2, (acc ++ [(T4.mk y23.1 z24 y28 z33.1)]))))
        = some (Stp.nx (((A / (2 ^ W) ^ i % b : Nat) : Int), acc ++ [dvS (2 ^ W) E A b i])) := by
    intro i acc hi ha
    have hlt := dvR_lt (A := A) (i := i) hB0 hb0
    have hmod := dvR_mod (A := A) (i := i) hB0 hb0
    have hql := kn_q_lt hlt
    have hlow := kn_low (r := dvR (2 ^ W) A b i) hE0 (by omega) hb0
    have hhigh := kn_high (r := dvR (2 ^ W) A b i) hB0 hE0 hV hb0 hlt
    have eR : (((A / (2 ^ W) ^ (i + 1) % b : Nat) : Int) * 2 ^ W) + ((A / (2 ^ W) ^ i % 2 ^ W : Nat) : Int) = ((dvR (2 ^ W) A b i : Nat) : Int) := by
      rw [p2 W]; unfold dvR; rw [Int.natCast_add, Int.natCast_mul]
    have hr : A / (2 ^ W) ^ (i + 1) % b < b := Nat.mod_lt _ hb0
    have hVs : b / E = b / E / 2 ^ W * 2 ^ W + b / E % 2 ^ W := by rw [Nat.mul_comm]; exact (Nat.div_add_mod _ _).symm
    -- how far the head goes
    have hb1 : b + 1 ≤ (b / E / 2 ^ W + 1) * 2 ^ W * E := by
      have h1 := Nat.lt_div_mul_add (a := b) hE0
      have h2 := Nat.lt_div_mul_add (a := b / E) hB0
      have h3 : (b / E + 1) * E ≤ (b / E / 2 ^ W + 1) * 2 ^ W * E := Nat.mul_le_mul_right E (by rw [Nat.add_mul, Nat.one_mul]; omega)
      rw [Nat.add_mul, Nat.one_mul] at h3
      omega
    have hhd : dvR (2 ^ W) A b i / E < (b / E / 2 ^ W + 1) * 2 ^ W * 2 ^ W := by
      refine Nat.div_lt_of_lt_mul ?_
      have h4 : b * 2 ^ W ≤ (b / E / 2 ^ W + 1) * 2 ^ W * E * 2 ^ W := Nat.mul_le_mul_right _ (by omega)
      have h5 : E * ((b / E / 2 ^ W + 1) * 2 ^ W * 2 ^ W) = (b / E / 2 ^ W + 1) * 2 ^ W * E * 2 ^ W := by
        generalize (b / E / 2 ^ W + 1) * 2 ^ W = z
        rw [← Nat.mul_assoc, Nat.mul_comm E]
      omega
    have hg1 := kn_guess_le hB0 hv0 hv hhd
    have hg2 := kn_guess_two (v2 := b / E % 2 ^ W) hB0 hv0 (Nat.mod_lt _ hB0) hv hg1
    have hU : dvR (2 ^ W) A b i / E / 2 ^ W < 2 ^ 100 := by
      have h1 : dvR (2 ^ W) A b i / E / 2 ^ W < (b / E / 2 ^ W + 1) * 2 ^ W := Nat.div_lt_of_lt_mul (by rw [Nat.mul_comm]; exact hhd)
      have h2 : (b / E / 2 ^ W + 1) * 2 ^ W ≤ 2 ^ 30 * 2 ^ 30 := Nat.mul_le_mul (by omega) hB1
      omega
    have hcor := corr_ok h8 h30 (v2 := b / E % 2 ^ W) hv0 (Nat.mod_lt _ hB0) hU hg1 hg2
    rw [← hVs] at hcor
    unfold dvS
    generalize dvR (2 ^ W) A b i = r at *
    refine bnd_of (chkP_eq (shl_ok (k := K) (by rw [Int.natAbs_natCast]; omega) (by omega) (by omega))) ?_
    rw [eR]
    refine bnd_of rfl ?_
    refine bnd_of (chkP_eq (by omega)) ?_
    rw [div_nat]
    refine bnd_of rfl ?_
    refine bnd_of (chkP_eq (by omega)) ?_
    have e4 : ((r / E : Nat) : Int) / 2 ^ W = ((r / E / 2 ^ W : Nat) : Int) := by rw [p2, div_nat]
    rw [e4]
    refine bnd_of (chkP_eq ⟨by omega, by
      rw [Int.natAbs_natCast]
      have : Nat.log2 (b / E / 2 ^ W) < 30 := (Nat.log2_lt (by omega)).mpr (by omega)
      omega⟩) ?_
    rw [fdiv_nat, fmod_nat, top_mod]
    refine bnd_of rfl ?_
    refine bnd_of hcor ?_
    generalize r / E / 2 ^ W / (b / E / 2 ^ W) = g at *
    generalize hQQ : r / E / (b / E) = Q at *
    have e5 : (g : Int) - ((g : Int) - (Q : Int)) = (Q : Int) := by omega
    rw [e5]
    refine bnd_of rfl ?_
    refine bnd_of (chkP_eq (mul_small (by omega))) ?_
    refine bnd_of rfl ?_
    have hdm : r / b * b + r % b = r := by rw [Nat.mul_comm]; exact Nat.div_add_mod r b
    have hml := Nat.mod_lt r hb0
    refine bnd_of rfl ?_
    rw [← hmod]
    rcases (show Q = r / b ∨ Q = r / b + 1 by omega) with e | e
    · have h1 : ¬ ((r : Int) - (Q : Int) * (b : Int) < 0) := by
        rw [e, ← Int.natCast_mul]; omega
      rw [if_neg (by rw [decide_eq_true_iff]; exact h1), Option.bind_some, chkP_eq (size_lt (m := 60000) ha (by decide)), Option.bind_some]
      have h2 : (r : Int) - (Q : Int) * (b : Int) = ((r % b : Nat) : Int) := by rw [e, ← Int.natCast_mul]; omega
      have h3 : decide ((r : Int) - (Q : Int) * (b : Int) < 0) = decide (r / b < Q) := decide_eq_decide.mpr (by omega)
      rw [h3, h2, e]
    · have h0 : Q * b = r / b * b + b := by rw [e, Nat.add_mul, Nat.one_mul]
      have h1 : ((r : Int) - (Q : Int) * (b : Int) < 0) := by
        rw [← Int.natCast_mul]; omega
      rw [if_pos (decide_eq_true h1), Option.bind_some, Option.bind_some, Option.bind_some, chkP_eq (size_lt (m := 60000) ha (by decide)), Option.bind_some]
      have h2 : (r : Int) - (Q : Int) * (b : Int) + (b : Int) = ((r % b : Nat) : Int) := by rw [← Int.natCast_mul]; omega
      have h3 : decide ((r : Int) - (Q : Int) * (b : Int) < 0) = decide (r / b < Q) := decide_eq_decide.mpr (by omega)
      have h4 : (Q : Int) - 1 = ((r / b : Nat) : Int) := by omega
      rw [h3, h2, h4]
  rw [show ((A / 2 ^ (k * W) : Nat) : Int) = ((A / (2 ^ W) ^ k % b : Nat) : Int) from by rw [pw_mul, Nat.mod_eq_of_lt hA]]
  refine bnd_of (q_loop (E := E) (k := k) (fun i acc hi ha => ?_) k [] (Nat.le_refl k) (by show 0 + k ≤ 60000; omega)) ?_
  · have := step i acc (by omega) ha
    dsimp only
    rw [Int.toNat_natCast, Int.toNat_natCast, p2 ((n - 2) * W), ← hE]
    exact this
  · rw [nxt_nx, Option.bind_some, List.nil_append]
    dsimp only
    refine bnd_of (cnts_ok S _ _ (by rw [dvSteps_len]; omega)) ?_
    rw [hE]
/-- what is short of all bits of the last digit -/
def shr_ (W b : Nat) : Nat := sz W b * W - bl b
def kEff (W a b : Nat) : Nat := if b * 2 ^ shr_ W b / 2 ^ ((sz W b - 1) * W) ≤ a * 2 ^ shr_ W b / 2 ^ ((sz W a - 1) * W) then sz W a + 1 - sz W b else sz W a - sz W b
def longL (W a b : Nat) : List (T4 Int Int Bool Int) := dvSteps (2 ^ W) (2 ^ ((sz W b - 2) * W)) (a * 2 ^ shr_ W b) (b * 2 ^ shr_ W b) (kEff W a b)
def liftS (S : MS) (n c : Int) : MS := (S.enter "lift" n c).step "shifted" n
def lowerS (S : MS) (n c : Int) : MS := (S.enter "lower" n c).step "shifted" n
def longS (W : Nat) (S : MS) (a b : Nat) : MS :=
  lowerS (cntS (liftS (liftS (S.enter "divide long" (sz W a : Nat) (sz W b : Nat)) (sz W b : Nat) (shr_ W b : Nat)) (sz W a : Nat) (shr_ W b : Nat)) (longL W a b) (sz W b : Nat)) (sz W b : Nat) (shr_ W b : Nat)
theorem lifted_ok {S : MS} {a n c : Nat} {K : Nat} (ha : a < 2 ^ K) (h : K + c ≤ 2 ^ 27) : M_lifted S (a : Int) (n : Int) (c : Int) = some (((a * 2 ^ c : Nat) : Int), liftS S n c) := by
  unfold M_lifted
  refine bnd_of (chkP_eq (by decide +kernel)) ?_
  refine bnd_of (chkP_eq (shl_ok (k := K) (by rw [Int.natAbs_natCast]; exact ha) (by omega) (by omega))) ?_
  rw [Int.toNat_natCast, p2, ← Int.natCast_mul]
  rfl
theorem lowered_ok {S : MS} {a n c : Nat} : M_lowered S (a : Int) (n : Int) (c : Int) = some (((a / 2 ^ c : Nat) : Int), lowerS S n c) := by
  unfold M_lowered
  refine bnd_of (chkP_eq (by decide +kernel)) ?_
  refine bnd_of (chkP_eq (by omega)) ?_
  rw [Int.toNat_natCast, p2, div_nat]
  rfl
theorem bl_ge {a k : Nat} (h : k < bl a) : 2 ^ k ≤ a := Nat.le_of_not_lt fun z => by have := (bl_le (a := a) (k := k)).mpr z; omega
theorem sz_bl {W a : Nat} (hw : W ≠ 0) (ha : a ≠ 0) : (sz W a - 1) * W < bl a ∧ bl a ≤ sz W a * W ∧ 1 ≤ sz W a := by
  have h1 : a < 2 ^ (W * sz W a) := (sz_le hw).mp (Nat.le_refl _)
  have h2 := (bl_le (a := a)).mpr h1
  have h3 : sz W a ≠ 0 := fun z => ha ((sz_zero hw).mp z)
  refine ⟨Nat.lt_of_not_le fun z => ?_, by rw [Nat.mul_comm]; exact h2, by omega⟩
  have := (sz_le hw (a := a) (k := sz W a - 1)).mpr (by rw [Nat.mul_comm]; exact (bl_le (a := a)).mp z)
  omega
/-- b with all bits of its last digit -/
theorem norm_b {W b : Nat} (h8 : 8 ≤ W) (hb : 1 < sz W b) : let b' := b * 2 ^ shr_ W b
    shr_ W b < W ∧ b' < 2 ^ (sz W b * W) ∧ 2 ^ (sz W b * W - 1) ≤ b' := by
  have hw : W ≠ 0 := by omega
  have hb0 : b ≠ 0 := fun z => by rw [z, (sz_zero hw).mpr rfl] at hb; omega
  obtain ⟨h1, h2, h3⟩ := sz_bl hw hb0
  have e1 : (sz W b - 1) * W + W = sz W b * W := by
    obtain ⟨k, hk⟩ : ∃ k, sz W b = k + 1 := ⟨sz W b - 1, by omega⟩
    rw [hk, Nat.add_sub_cancel, Nat.add_mul, Nat.one_mul]
  have hbl : 0 < bl b := by omega
  have g1 : b < 2 ^ bl b := bl_lt b
  have g2 : 2 ^ (bl b - 1) ≤ b := bl_ge (by omega)
  have es : bl b + shr_ W b = sz W b * W := by unfold shr_; omega
  refine ⟨by unfold shr_; omega, ?_, ?_⟩
  · rw [← es, Nat.pow_add]
    exact Nat.mul_lt_mul_of_pos_right g1 (Nat.two_pow_pos _)
  · rw [show sz W b * W - 1 = (bl b - 1) + shr_ W b from by omega, Nat.pow_add]
    exact Nat.mul_le_mul_right _ g2
theorem kEff_ok {W a b : Nat} (h8 : 8 ≤ W) (hb : 1 < sz W b) (hab : sz W b ≤ sz W a) : a * 2 ^ shr_ W b / 2 ^ (kEff W a b * W) < b * 2 ^ shr_ W b := by
  have hw : W ≠ 0 := by omega
  obtain ⟨n1, n2, n3⟩ := norm_b h8 hb
  have ha0 : a ≠ 0 := fun z => by rw [z, (sz_zero hw).mpr rfl] at hab; omega
  obtain ⟨m1, m2, m3⟩ := sz_bl hw ha0
  have ha : a < 2 ^ (sz W a * W) := Nat.lt_of_lt_of_le (bl_lt a) (Nat.pow_le_pow_right (by decide) m2)
  unfold kEff
  generalize hs : shr_ W b = s at *
  generalize sz W b = n at *
  generalize sz W a = m at *
  have hA : a * 2 ^ s < 2 ^ (m * W + s) := by rw [Nat.pow_add]; exact Nat.mul_lt_mul_of_pos_right ha (Nat.two_pow_pos _)
  split
  · refine Nat.lt_of_lt_of_le (show a * 2 ^ s / 2 ^ ((m + 1 - n) * W) < 2 ^ ((n - 1) * W + s) from Nat.div_lt_of_lt_mul ?_) (Nat.le_trans (Nat.pow_le_pow_right (by decide) ?_) n3)
    · rw [← Nat.pow_add]
      have : (m + 1 - n) * W + ((n - 1) * W + s) = m * W + s := by
        rw [← Nat.add_assoc, ← Nat.add_mul, show m + 1 - n + (n - 1) = m from by omega]
      rw [this]; exact hA
    · have : (n - 1) * W + W = n * W := by
        obtain ⟨k, rfl⟩ : ∃ k, n = k + 1 := ⟨n - 1, by omega⟩
        rw [Nat.add_sub_cancel, Nat.add_mul, Nat.one_mul]
      omega
  · rename_i q
    refine Nat.lt_of_not_le fun z => q ?_
    have h1 := Nat.div_le_div_right (c := 2 ^ ((n - 1) * W)) z
    rw [Nat.div_div_eq_div_mul, ← Nat.pow_add, ← Nat.add_mul, show m - n + (n - 1) = m - 1 from by omega] at h1
    exact h1
theorem long_ok {W : Nat} {S : MS} (hS : S.w = (W : Int)) (h8 : 8 ≤ W) (h30 : W ≤ 30) {a b : Nat} (hb : 1 < sz W b) (hab : sz W b ≤ sz W a) (hm : sz W a ≤ 50000) :
    M_long_division S (a : Int) ((sz W a : Nat) : Int) (b : Int) ((sz W b : Nat) : Int) = some ((LF.mk (longL W a b), ((a % b : Nat) : Int)), longS W S a b) := by
  have hw : W ≠ 0 := by omega
  obtain ⟨n1, n2, n3⟩ := norm_b h8 hb
  have hk := kEff_ok h8 hb hab
  have ha0 : a ≠ 0 := fun z => by rw [z, (sz_zero hw).mpr rfl] at hab; omega
  have hb0 : b ≠ 0 := fun z => by rw [z, (sz_zero hw).mpr rfl] at hb; omega
  obtain ⟨m1, m2, m3⟩ := sz_bl hw ha0
  obtain ⟨b1, b2, b3⟩ := sz_bl hw hb0
  have ha : a < 2 ^ (sz W a * W) := Nat.lt_of_lt_of_le (bl_lt a) (Nat.pow_le_pow_right (by decide) m2)
  have hbb : b < 2 ^ (sz W b * W) := Nat.lt_of_lt_of_le (bl_lt b) (Nat.pow_le_pow_right (by decide) b2)
  have hmW : sz W a * W ≤ 1500000 := Nat.le_trans (Nat.mul_le_mul hm h30) (by decide)
  have hnW : sz W b * W ≤ 1500000 := Nat.le_trans (Nat.mul_le_mul (Nat.le_trans hab hm) h30) (by decide)
  have hm1 : (sz W a - 1) * W ≤ 1500000 := Nat.le_trans (Nat.mul_le_mul_right W (by omega)) hmW
  have hn1 : (sz W b - 1) * W ≤ 1500000 := Nat.le_trans (Nat.mul_le_mul_right W (by omega)) hnW
  have eW : ((S.enter ("divide long" : Str) ((sz W a : Nat) : Int) ((sz W b : Nat) : Int)).w) = (W : Int) := hS
  have e1 : ((sz W b : Nat) : Int) * (W : Int) - ((Builtin.Int.intBits (b : Int) : Nat) : Int) = ((shr_ W b : Nat) : Int) := by
    rw [intBits_nat, ← Int.natCast_mul]; unfold shr_; omega
  have e2 : (((sz W a : Nat) : Int) - 1) * (W : Int) = (((sz W a - 1) * W : Nat) : Int) := by rw [Int.natCast_mul, show ((sz W a - 1 : Nat) : Int) = ((sz W a : Nat) : Int) - 1 from by omega]
  have e3 : (((sz W b : Nat) : Int) - 1) * (W : Int) = (((sz W b - 1) * W : Nat) : Int) := by rw [Int.natCast_mul, show ((sz W b - 1 : Nat) : Int) = ((sz W b : Nat) : Int) - 1 from by omega]
  unfold M_long_division
  rw [eW, Option.bind_some]
  refine bnd_of (chkP_eq (mul_small' (by omega))) ?_
  rw [e1, e2, e3]
  refine bnd_of rfl ?_
  refine bnd_of (lifted_ok (K := sz W b * W) hbb (by omega)) ?_
  refine bnd_of (lifted_ok (K := sz W a * W) ha (by omega)) ?_
  refine bnd_of (chkP_eq (mul_small' (by omega))) ?_
  refine bnd_of (chkP_eq (by omega)) ?_
  refine bnd_of (chkP_eq (mul_small' (by omega))) ?_
  refine bnd_of (chkP_eq (by omega)) ?_
  rw [Int.toNat_natCast, Int.toNat_natCast, p2, p2, div_nat, div_nat]
  refine bnd_of (a := ((sz W b + kEff W a b : Nat) : Int)) ?_ ?_
  · unfold kEff
    by_cases q : b * 2 ^ shr_ W b / 2 ^ ((sz W b - 1) * W) ≤ a * 2 ^ shr_ W b / 2 ^ ((sz W a - 1) * W)
    · rw [if_pos (decide_eq_true (by omega)), if_pos q]
      show some _ = some _
      congr 1
      omega
    · rw [if_neg (by rw [decide_eq_true_iff]; omega), if_neg q]
      congr 1
      omega
  have eE : (sz W b - 2) * W + W = (sz W b - 1) * W := by
    obtain ⟨k, hk⟩ : ∃ k, sz W b = k + 2 := ⟨sz W b - 2, by omega⟩
    rw [hk, Nat.add_sub_cancel, show k + 2 - 1 = k + 1 from by omega, Nat.add_mul, Nat.one_mul]
  have eN : (sz W b - 1) * W + W = sz W b * W := by
    obtain ⟨k, hk⟩ : ∃ k, sz W b = k + 1 := ⟨sz W b - 1, by omega⟩
    rw [hk, Nat.add_sub_cancel, Nat.add_mul, Nat.one_mul]
  have hv1 : b * 2 ^ shr_ W b / 2 ^ ((sz W b - 2) * W) / 2 ^ W = b * 2 ^ shr_ W b / 2 ^ ((sz W b - 1) * W) := by
    rw [Nat.div_div_eq_div_mul, ← Nat.pow_add, eE]
  refine bnd_of (qsteps_ok (S := liftS (liftS (S.enter ("divide long" : Str) ((sz W a : Nat) : Int) ((sz W b : Nat) : Int)) _ _) _ _) hS h8 h30 (K := sz W b * W) hb (by have : sz W b + kEff W a b ≤ sz W a + 1 := (by unfold kEff; split <;> omega); omega) ?_ ?_ hk n2 (by omega)) ?_
  · rw [hv1]
    have h1 : 2 ^ (W - 1) ≤ b * 2 ^ shr_ W b / 2 ^ ((sz W b - 1) * W) := by
      rw [Nat.le_div_iff_mul_le (Nat.two_pow_pos _), ← Nat.pow_add]
      exact Nat.le_trans (Nat.pow_le_pow_right (by decide) (by omega)) n3
    have h2 : 2 ^ W = 2 * 2 ^ (W - 1) := by
      obtain ⟨w, rfl⟩ : ∃ w, W = w + 1 := ⟨W - 1, by omega⟩
      rw [Nat.add_sub_cancel, Nat.pow_succ, Nat.mul_comm]
    omega
  · rw [hv1]
    refine Nat.div_lt_of_lt_mul ?_
    rw [← Nat.pow_add, eN]
    exact n2
  · refine bnd_of lowered_ok ?_
    rw [Nat.mul_mod_mul_right, Nat.mul_div_cancel _ (Nat.two_pow_pos _)]
    rfl
theorem long_val {W a b : Nat} (h8 : 8 ≤ W) (hb : 1 < sz W b) (hab : sz W b ≤ sz W a) : lv (2 ^ W) ((longL W a b).reverse.map fun s => s.d) = ((a / b : Nat) : Int) := by
  have hw : W ≠ 0 := by omega
  have hb0 : b ≠ 0 := fun z => by rw [z, (sz_zero hw).mpr rfl] at hb; omega
  have hk := kEff_ok h8 hb hab
  rw [← pw_mul] at hk
  unfold longL
  rw [p2 W, dvSteps_val (Nat.two_pow_pos _) (Nat.mul_pos (Nat.pos_of_ne_zero hb0) (Nat.two_pow_pos _)) _ hk, Nat.mul_div_mul_right _ _ (Nat.two_pow_pos _)]
def shortS (S : MS) (word : Str) (m : Int) : MS := (S.enter word m 1).step "quotient" m
theorem st_w (S : MS) (w : Str) (n : Int) : (S.step w n).w = S.w := rfl
theorem en_w (S : MS) (w : Str) (m n : Int) : (S.enter w m n).w = S.w := rfl
theorem longS_w {W : Nat} {S : MS} {a b : Nat} : (longS W S a b).w = S.w := by
  unfold longS lowerS cntS liftS
  simp only [st_w, en_w]
theorem ddig_ok {W : Nat} {S : MS} (hS : S.w = (W : Int)) (h8 : 8 ≤ W) (h30 : W ≤ 30) {a b : Nat} (hb0 : b ≠ 0) (hab : sz W b ≤ sz W a) (hxs : sz W a ≤ 50000) (word : Str) :
    M_divided_digits S (a : Int) (b : Int) word = some ((((a / b : Nat) : Int), ((a % b : Nat) : Int)), if sz W b = 1 then shortS S word (sz W a : Nat) else longS W S a b) := by
  have hw : W ≠ 0 := by omega
  have hB1 : 2 ^ W ≤ 2 ^ 30 := Nat.pow_le_pow_right (by decide) h30
  unfold M_divided_digits
  rw [hS]
  refine bnd_of (size_ok h8 h30 _) ?_
  refine bnd_of (size_ok h8 h30 _) ?_
  rw [Int.natAbs_natCast, Int.natAbs_natCast]
  by_cases e : sz W b = 1
  · rw [if_pos (decide_eq_true (by omega)), if_pos e]
    have hyB : b < 2 ^ W := by
      have := (sz_le hw (a := b) (k := 1)).mp (by omega)
      rwa [Nat.mul_one] at this
    unfold M_short_division
    refine bnd_of (bnd_of (chkP_eq (by decide +kernel)) (bnd_of (chkP_eq ⟨by omega, ?_⟩) rfl)) ?_
    · rw [Int.natAbs_natCast]
      have : Nat.log2 b < 30 := (Nat.log2_lt (by omega)).mpr (by omega)
      omega
    · rw [fdiv_nat, fmod_nat]
      rfl
  · have hb1 : 1 < sz W b := by
      have := (sz_bl hw hb0).2.2
      omega
    rw [if_neg (by rw [decide_eq_true_iff]; omega), if_neg e]
    refine bnd_of (long_ok hS h8 h30 hb1 hab hxs) ?_
    have hlen : (longL W a b).length ≤ 60000 := by
      unfold longL
      rw [dvSteps_len]
      unfold kEff; split <;> omega
    have hnum := num_ok h8 h30 19 ((longL W a b).reverse.map fun s => s.d) (fun d hd => by
      obtain ⟨s, hs, rfl⟩ := List.mem_map.mp hd
      have hs := List.mem_reverse.mp hs
      unfold longL at hs
      have := dvSteps_mem (Nat.two_pow_pos W) (Nat.mul_pos (Nat.pos_of_ne_zero hb0) (Nat.two_pow_pos _)) _ s hs
      rw [p2]; exact this) (by rw [List.length_map, List.length_reverse]; omega) (by rw [List.length_map, List.length_reverse]; omega)
    rw [long_val h8 hb1 hab] at hnum
    generalize longL W a b = ll at *
    have hw2 : (longS W S a b).w = (W : Int) := longS_w.trans hS
    generalize longS W S a b = S2 at *
    refine bnd_of (chkP_eq (size_le (m := 60000) (by rw [List.length_reverse]; exact hlen) (by decide))) ?_
    refine bnd_of (lcM_mapU (f := fun s => s.d) fun s _ => rfl) ?_
    refine bnd_of (by rw [hw2]; exact hnum) ?_
    rfl
section
variable {W : Nat} {S : MS} (hS : S.w = (W : Int)) (h8 : 8 ≤ W) (h30 : W ≤ 30) {x y : Int} (hy : y ≠ 0) (hxs : sz W x.natAbs ≤ 50000) (hys : sz W y.natAbs ≤ 50000)
include hS h8 h30 hy hxs hys
end
theorem cdiv_two {W : Nat} {S : MS} (hS : S.w = (W : Int)) (x : Int) {y : Int} (hy : y ≠ 0) : M_check_division S (bg W x) (bg W y) = some () := by
  unfold M_check_division
  refine bnd_of (two_ok hS x y) ?_
  exact bnd_of (chkP_eq hy) rfl
section
variable {W : Nat} {S : MS} (hS : S.w = (W : Int)) (h8 : 8 ≤ W) (h30 : W ≤ 30) {x y : Int} (hy : y ≠ 0) {k : Nat} (hk : k ≤ 300000) (hx : x.natAbs < 2 ^ k) (hyk : y.natAbs < 2 ^ k)
include hS h8 h30 hy hk hx hyk
end
/-! ### rounding a quotient to the nearest, halves to even -/
def rne (A B : Nat) : Nat := A / B + (if 2 * (A % B) > B ∨ (2 * (A % B) = B ∧ (A / B) % 2 = 1) then 1 else 0)
theorem rne_scale {A B k : Nat} (hk : 0 < k) : rne (A * k) (B * k) = rne A B := by
  have e1 : A * k / (B * k) = A / B := Nat.mul_div_mul_right A B hk
  have e2 : A * k % (B * k) = A % B * k := Nat.mul_mod_mul_right k A B
  unfold rne
  rw [e1, e2]
  have h1 : (2 * (A % B * k) > B * k) ↔ (2 * (A % B) > B) := by
    rw [← Nat.mul_assoc]; exact Nat.mul_lt_mul_right hk
  have h2 : (2 * (A % B * k) = B * k) ↔ (2 * (A % B) = B) := by
    rw [← Nat.mul_assoc]
    exact ⟨fun h => Nat.eq_of_mul_eq_mul_right hk h, fun h => by rw [h]⟩
  simp only [h1, h2]
/-- the number cut off by so many bits, rounded by what is behind them and by whether there is more -/
theorem rne_cut {A B c : Nat} (hB : 0 < B) (hc : 1 ≤ c) : rne A (B * 2 ^ c) = A / B / 2 ^ c + (if A / B % 2 ^ c > 2 ^ (c - 1) ∨ (A / B % 2 ^ c = 2 ^ (c - 1) ∧ (A % B ≠ 0 ∨ A / B / 2 ^ c % 2 = 1)) then 1 else 0) := by
  have e1 : A / (B * 2 ^ c) = A / B / 2 ^ c := (Nat.div_div_eq_div_mul A B (2 ^ c)).symm
  have e2 : A % (B * 2 ^ c) = A % B + B * (A / B % 2 ^ c) := Nat.mod_mul
  have e3 : 2 ^ c = 2 * 2 ^ (c - 1) := by rw [← Nat.pow_succ']; congr 1; omega
  have hr : A % B < B := Nat.mod_lt _ hB
  unfold rne
  rw [e1, e2]
  generalize A / B % 2 ^ c = u
  generalize A / B / 2 ^ c = v
  generalize A % B = r at *
  rw [e3]
  generalize 2 ^ (c - 1) = h
  have hE : B * (2 * h) = 2 * (B * h) := by rw [Nat.mul_left_comm]
  rw [hE]
  congr 1
  rcases Nat.lt_trichotomy u h with l | l | l
  · have k : B * u + B ≤ B * h := by rw [← Nat.mul_succ]; exact Nat.mul_le_mul_left B l
    rw [if_neg (by omega), if_neg (by omega)]
  · subst l
    by_cases h0 : r = 0
    · subst h0
      simp only [Nat.zero_add]
      by_cases ho : v % 2 = 1 <;> simp [ho]
    · rw [if_pos (by omega), if_pos (by omega)]
  · have k : B * h + B ≤ B * u := by rw [← Nat.mul_succ]; exact Nat.mul_le_mul_left B l
    rw [if_pos (by omega), if_pos (by omega)]
theorem rne_le {A B q : Nat} (hB : 0 < B) (h : A < B * q) : rne A B ≤ q := by
  have : A / B < q := Nat.div_lt_of_lt_mul h
  unfold rne
  split <;> omega
theorem rne_zero {A B : Nat} (h : 2 * A < B) : rne A B = 0 := by
  have h1 : A / B = 0 := Nat.div_eq_of_lt (by omega)
  have h2 : A % B = A := Nat.mod_eq_of_lt (by omega)
  unfold rne
  rw [h1, h2, if_neg (by omega)]
/-- a / b is less than 2 ^ k -/
def Blw (a b : Nat) (k : Int) : Prop := a * 2 ^ (-k).toNat < b * 2 ^ k.toNat
theorem Blw.succ {a b : Nat} {k : Int} (h : Blw a b k) : Blw a b (k + 1) := by
  unfold Blw at *
  by_cases hk : 0 ≤ k
  · have e1 : (-k).toNat = 0 := by omega
    have e2 : (-(k + 1)).toNat = 0 := by omega
    have e3 : (k + 1).toNat = k.toNat + 1 := by omega
    rw [e1] at h; rw [e2, e3, Nat.pow_succ, ← Nat.mul_assoc]
    omega
  · have e1 : (-k).toNat = (-(k + 1)).toNat + 1 := by omega
    have e2 : k.toNat = 0 := by omega
    have e3 : (k + 1).toNat = 0 := by omega
    rw [e1, e2, Nat.pow_succ, ← Nat.mul_assoc] at h
    rw [e3]
    omega
theorem Blw.mono {a b : Nat} {k m : Int} (h : Blw a b k) (l : k ≤ m) : Blw a b m := by
  obtain ⟨n, rfl⟩ : ∃ n : Nat, m = k + n := ⟨(m - k).toNat, by omega⟩
  clear l
  induction n with
  | zero => simpa using h
  | succ n ih =>
    have := ih.succ
    rwa [show k + (n + 1 : Nat) = k + (n : Int) + 1 by omega]
theorem blw_hi {a b : Nat} {i j : Nat} (ha : a < 2 ^ i) (hb : 2 ^ j ≤ b) {k : Int} (hk : (i : Int) - j ≤ k) : Blw a b k := by
  refine Blw.mono (k := (i : Int) - j) ?_ hk
  unfold Blw
  by_cases l : j ≤ i
  · have e1 : (-((i : Int) - j)).toNat = 0 := by omega
    have e2 : ((i : Int) - j).toNat = i - j := by omega
    rw [e1, e2, Nat.pow_zero, Nat.mul_one]
    calc a < 2 ^ i := ha
      _ = 2 ^ j * 2 ^ (i - j) := by rw [← Nat.pow_add]; congr 1; omega
      _ ≤ b * 2 ^ (i - j) := Nat.mul_le_mul_right _ hb
  · have e1 : (-((i : Int) - j)).toNat = j - i := by omega
    have e2 : ((i : Int) - j).toNat = 0 := by omega
    rw [e1, e2, Nat.pow_zero, Nat.mul_one]
    calc a * 2 ^ (j - i) < 2 ^ i * 2 ^ (j - i) := Nat.mul_lt_mul_of_pos_right ha (Nat.two_pow_pos _)
      _ = 2 ^ j := by rw [← Nat.pow_add]; congr 1; omega
      _ ≤ b := hb
theorem blw_lo {a b : Nat} {i j : Nat} (ha : 2 ^ i ≤ a) (hb : b < 2 ^ j) {k : Int} (hk : k ≤ (i : Int) - j) : ¬ Blw a b k := fun h => by
  have h := h.mono hk
  unfold Blw at h
  by_cases l : j ≤ i
  · have e1 : (-((i : Int) - j)).toNat = 0 := by omega
    have e2 : ((i : Int) - j).toNat = i - j := by omega
    rw [e1, e2, Nat.pow_zero, Nat.mul_one] at h
    have : b * 2 ^ (i - j) < 2 ^ j * 2 ^ (i - j) := Nat.mul_lt_mul_of_pos_right hb (Nat.two_pow_pos _)
    rw [← Nat.pow_add, show j + (i - j) = i by omega] at this
    omega
  · have e1 : (-((i : Int) - j)).toNat = j - i := by omega
    have e2 : ((i : Int) - j).toNat = 0 := by omega
    rw [e1, e2, Nat.pow_zero, Nat.mul_one] at h
    have : 2 ^ i * 2 ^ (j - i) ≤ a * 2 ^ (j - i) := Nat.mul_le_mul_right _ ha
    rw [← Nat.pow_add, show i + (j - i) = j by omega] at this
    omega
/-- the exponent by which a / b is rounded to 53 bits -/
structure Gexp (a b : Nat) (e : Int) : Prop where
  lo : -1074 ≤ e
  up : Blw a b (e + 53)
  at_ : e = -1074 ∨ ¬ Blw a b (e + 52)
theorem Gexp.uniq {a b : Nat} {e f : Int} (h : Gexp a b e) (g : Gexp a b f) : e = f := by
  rcases Int.lt_trichotomy e f with l | l | l
  · have h1 := h.lo
    rcases g.at_ with z | z
    · omega
    · exact absurd (h.up.mono (by omega)) z
  · exact l
  · have h1 := g.lo
    rcases h.at_ with z | z
    · omega
    · exact absurd (g.up.mono (by omega)) z
/-- the nearest mantissa at an exponent -/
def man (a b : Nat) (e : Int) : Nat := rne (a * 2 ^ (-e).toNat) (b * 2 ^ e.toNat)
theorem man_le {a b : Nat} {e : Int} (hb : 0 < b) (h : Blw a b (e + 53)) : man a b e ≤ 2 ^ 53 := by
  refine rne_le (Nat.mul_pos hb (Nat.two_pow_pos _)) ?_
  unfold Blw at h
  by_cases l : 0 ≤ e
  · rw [show (-(e + 53)).toNat = 0 by omega, show (e + 53).toNat = e.toNat + 53 by omega, Nat.pow_add, ← Nat.mul_assoc] at h
    rw [show (-e).toNat = 0 by omega]
    exact h
  · by_cases l2 : 0 ≤ e + 53
    · rw [show (-(e + 53)).toNat = 0 by omega] at h
      rw [show e.toNat = 0 by omega]
      have : (53 : Nat) = (e + 53).toNat + (-e).toNat := by omega
      rw [this, Nat.pow_add, Nat.pow_zero, Nat.mul_one, ← Nat.mul_assoc]
      rw [Nat.pow_zero, Nat.mul_one] at h
      exact Nat.mul_lt_mul_of_pos_right h (Nat.two_pow_pos _)
    · rw [show (e + 53).toNat = 0 by omega] at h
      rw [show e.toNat = 0 by omega, show (-e).toNat = (-(e + 53)).toNat + 53 by omega, Nat.pow_add, ← Nat.mul_assoc]
      exact Nat.mul_lt_mul_of_pos_right h (Nat.two_pow_pos _)
theorem mul_lt_r {a b k : Nat} (hk : 0 < k) : a * k < b * k ↔ a < b := Nat.mul_lt_mul_right hk
/-- the quotient at a shift s tells whether a / b is less than 2 ^ (s + j) -/
theorem blw_q {a b : Nat} {s : Int} {j : Nat} (hb : 0 < b) : Blw a b (s + j) ↔ a * 2 ^ (-s).toNat / (b * 2 ^ s.toNat) < 2 ^ j := by
  have hB : 0 < b * 2 ^ s.toNat := Nat.mul_pos hb (Nat.two_pow_pos _)
  rw [Nat.div_lt_iff_lt_mul hB]
  unfold Blw
  by_cases l : 0 ≤ s
  · rw [show (-(s + j)).toNat = 0 by omega, show (s + (j : Int)).toNat = s.toNat + j by omega, show (-s).toNat = 0 by omega, Nat.pow_zero, Nat.mul_one, Nat.pow_add, Nat.mul_comm (2 ^ j), Nat.mul_assoc]
  · obtain ⟨t, ht⟩ : ∃ t : Nat, (-s).toNat = t := ⟨_, rfl⟩
    rw [ht, show s.toNat = 0 by omega, Nat.pow_zero, Nat.mul_one, Nat.mul_comm (2 ^ j)]
    by_cases l2 : t ≤ j
    · rw [show (-(s + j)).toNat = 0 by omega, show (s + (j : Int)).toNat = j - t by omega, Nat.pow_zero, Nat.mul_one, ← mul_lt_r (a := a) (k := 2 ^ t) (Nat.two_pow_pos _), Nat.mul_assoc, ← Nat.pow_add, show j - t + t = j by omega]
    · rw [show (-(s + j)).toNat = t - j by omega, show (s + (j : Int)).toNat = 0 by omega, Nat.pow_zero, Nat.mul_one, ← mul_lt_r (b := b) (k := 2 ^ j) (Nat.two_pow_pos _), Nat.mul_assoc, ← Nat.pow_add, show t - j + j = t by omega]
theorem man_q {a b : Nat} {s : Int} {c : Nat} : rne (a * 2 ^ (-s).toNat) (b * 2 ^ s.toNat * 2 ^ c) = man a b (s + c) := by
  unfold man
  by_cases l : 0 ≤ s
  · rw [show (-(s + c)).toNat = 0 by omega, show (s + (c : Int)).toNat = s.toNat + c by omega, show (-s).toNat = 0 by omega, Nat.pow_add, Nat.mul_assoc]
  · obtain ⟨t, ht⟩ : ∃ t : Nat, (-s).toNat = t := ⟨_, rfl⟩
    rw [ht, show s.toNat = 0 by omega, Nat.pow_zero, Nat.mul_one]
    by_cases l2 : t ≤ c
    · rw [show (-(s + c)).toNat = 0 by omega, show (s + (c : Int)).toNat = c - t by omega, Nat.pow_zero, Nat.mul_one, ← rne_scale (A := a) (k := 2 ^ t) (Nat.two_pow_pos _), Nat.mul_assoc, ← Nat.pow_add, show c - t + t = c by omega]
    · rw [show (-(s + c)).toNat = t - c by omega, show (s + (c : Int)).toNat = 0 by omega, Nat.pow_zero, Nat.mul_one, ← rne_scale (B := b) (k := 2 ^ c) (Nat.two_pow_pos _), Nat.mul_assoc, ← Nat.pow_add, show t - c + c = t by omega]
/-- the program's way: a quotient of 55 bits or so, cut off -/
theorem prog_exp {a b k : Nat} {s c : Int} (hb : 0 < b) (hs : ¬ Blw a b (s + 54) ∨ s ≤ -1076)
    (q0 : a * 2 ^ (-s).toNat / (b * 2 ^ s.toNat) ≠ 0) (k1 : 2 ^ (k - 1) ≤ a * 2 ^ (-s).toNat / (b * 2 ^ s.toNat)) (k2 : a * 2 ^ (-s).toNat / (b * 2 ^ s.toNat) < 2 ^ k) (hk : 0 < k) (hc : c = max ((k : Int) - 53) (-1074 - s)) :
    2 ≤ c ∧ Gexp a b (s + c) ∧ rne (a * 2 ^ (-s).toNat) (b * 2 ^ s.toNat * 2 ^ c.toNat) = man a b (s + c) := by
  have c2 : 2 ≤ c := by
    rcases hs with h54 | l
    · rw [show s + 54 = s + ((54 : Nat) : Int) from rfl, blw_q hb] at h54
      have : ¬ k ≤ 54 := fun z => h54 (Nat.lt_of_lt_of_le k2 (Nat.pow_le_pow_right (by decide) z))
      omega
    · omega
  have up : Blw a b (s + (k : Int)) := (blw_q hb).mpr k2
  have lo : ¬ Blw a b (s + ((k - 1 : Nat) : Int)) := fun z => by
    have := (blw_q hb).mp z
    omega
  refine ⟨c2, ⟨by omega, up.mono (by omega), ?_⟩, ?_⟩
  · by_cases z : s + c = -1074
    · exact .inl z
    · exact .inr fun y => lo (y.mono (by omega))
  · have e := man_q (a := a) (b := b) (s := s) (c := c.toNat)
    rwa [Int.toNat_of_nonneg (by omega)] at e
theorem low_exp {a b : Nat} {k : Int} (h : Blw a b k) (hk : k ≤ -1075) : Gexp a b (-1074) ∧ man a b (-1074) = 0 := by
  refine ⟨⟨Int.le_refl _, h.mono (by omega), .inl rfl⟩, ?_⟩
  have h := h.mono hk
  unfold Blw at h
  unfold man
  refine rne_zero ?_
  rw [show (-(-1075 : Int)).toNat = 1075 from rfl, show (-1075 : Int).toNat = 0 from rfl, Nat.pow_succ (m := 1074)] at h
  rw [show (-(-1074 : Int)).toNat = 1074 from rfl, show (-1074 : Int).toNat = 0 from rfl]
  omega
theorem prog_zero {a b : Nat} {s : Int} (hb : 0 < b) (hs : ¬ Blw a b (s + 54) ∨ s ≤ -1076) (q0 : a * 2 ^ (-s).toNat / (b * 2 ^ s.toNat) = 0) : Gexp a b (-1074) ∧ man a b (-1074) = 0 := by
  have h := (blw_q (a := a) (s := s) (j := 0) hb).mpr (by rw [q0]; decide)
  have h : Blw a b s := by simpa using h
  rcases hs with l | l
  · exact absurd (h.mono (by omega)) l
  · exact low_exp (k := s) h (by omega)
/-! ### rounding to 53 bits: the program's functions -/
theorem has_ok {n : Nat} {c : Int} (hc : c ≤ 100000) : M_has_bits_ahead (n : Int) c = some (decide (n % 2 ^ c.toNat ≠ 0)) := by
  unfold M_has_bits_ahead
  by_cases h : 0 < c
  · obtain ⟨k, rfl⟩ := Int.eq_ofNat_of_zero_le (Int.le_of_lt h)
    rw [if_pos (decide_eq_true h)]
    refine bnd_of (bnd_of (chkP_eq (shl_ok (k := 1) (by decide) (by omega) (by omega))) rfl) ?_
    rw [Int.toNat_natCast, Int.one_mul, p2, ← Int.natCast_one, ← Int.ofNat_sub (Nat.two_pow_pos _), and_low, p2, ← Int.natCast_emod]
    congr 1
    rw [← decide_not]
    exact decide_eq_decide.mpr (by omega)
  · rw [if_neg (by simpa using h), show c.toNat = 0 by omega, Nat.pow_zero, Nat.mod_one]
    rfl
theorem lowered_okI {S : MS} {a c : Nat} {n : Int} : M_lowered S (a : Int) n (c : Int) = some (((a / 2 ^ c : Nat) : Int), lowerS S n c) := by
  unfold M_lowered
  refine bnd_of (chkP_eq (by decide +kernel)) (bnd_of (chkP_eq (by omega)) ?_)
  rw [Int.toNat_natCast, p2, div_nat]
  rfl
/-- a number moved by s bits down -/
def mv (n : Nat) (s : Int) : Nat := n * 2 ^ (-s).toNat / 2 ^ s.toNat
def movS (W : Nat) (S : MS) (n : Nat) (s : Int) : MS :=
  if s ≤ 0 then liftS S (sz W n : Nat) (((-s).toNat % W : Nat) : Int)
  else if n / 2 ^ (s.toNat / W * W) % 2 ^ (s.toNat % W) = 0 then (lowerS S ((sz W n : Nat) - ((s.toNat / W : Nat) : Int)) ((s.toNat % W : Nat) : Int)).step "looked" (min (((s.toNat / W : Nat) : Int) - (sz W (n % 2 ^ (s.toNat / W * W)) : Nat) + 1) ((s.toNat / W : Nat) : Int))
  else lowerS S ((sz W n : Nat) - ((s.toNat / W : Nat) : Int)) ((s.toNat % W : Nat) : Int)
theorem movS_w {W : Nat} {S : MS} {n : Nat} {s : Int} : (movS W S n s).w = S.w := by
  unfold movS
  split
  · rfl
  · split <;> rfl
theorem moved_ok {W : Nat} {S : MS} (hS : S.w = (W : Int)) (h8 : 8 ≤ W) (h30 : W ≤ 30) {n : Nat} {s : Int} (hn : bl n ≤ 1000000) (h1 : -100000 ≤ s) (h2 : s ≤ 100000) : M_moved S (n : Int) s = some (((mv n s : Nat) : Int), movS W S n s) := by
  have hbn : n < 2 ^ bl n := bl_lt n
  unfold M_moved mv movS
  rw [hS]
  refine bnd_of (size_ok h8 h30 _) ?_
  rw [Int.natAbs_natCast]
  by_cases l : s ≤ 0
  · obtain ⟨t, ht⟩ := Int.eq_ofNat_of_zero_le (a := -s) (by omega)
    have es : s = -(t : Int) := by omega
    subst es
    rw [if_pos (decide_eq_true l), if_pos l, Int.neg_neg, Int.toNat_natCast, show (-(t : Int)).toNat = 0 by omega, Nat.pow_zero, Nat.div_one]
    refine bnd_of (chkP_eq (by omega)) ?_
    rw [← Int.natCast_emod]
    refine bnd_of (lifted_ok hbn (by have := Nat.mod_lt t (show 0 < W by omega); omega)) ?_
    refine bnd_of (chkP_eq (shl_ok (k := bl n) (by rw [Int.natAbs_natCast]; exact hbn) (by omega) (by omega))) ?_
    rw [p2, ← Int.natCast_mul]
  · obtain ⟨t, rfl⟩ := Int.eq_ofNat_of_zero_le (a := s) (by omega)
    rw [if_neg (by simpa using l), if_neg l, Int.toNat_natCast, show (-(t : Int)).toNat = 0 by omega, Nat.pow_zero, Nat.mul_one]
    have hW : (W : Int) ≠ 0 := by omega
    refine bnd_of (chkP_eq ⟨hW, ?_⟩) ?_
    · have : W.log2 < 9000 := (Nat.log2_lt (by omega)).mpr (Nat.lt_of_le_of_lt h30 (Nat.lt_of_lt_of_le (by decide : 30 < 2 ^ 5) (Nat.pow_le_pow_right (by decide) (by decide))))
      exact this
    rw [fdiv_nat, fmod_nat]
    refine bnd_of rfl ?_
    have hq : t / W ≤ 100000 := Nat.le_trans (Nat.div_le_self _ _) (by omega)
    have hr := Nat.mod_lt t (show 0 < W by omega)
    refine bnd_of (chkP_eq (mul_small' (by omega))) ?_
    refine bnd_of (chkP_eq (by rw [← Int.natCast_mul]; omega)) ?_
    rw [← Int.natCast_mul, Int.toNat_natCast, p2, div_nat]
    refine bnd_of rfl ?_
    dsimp only
    refine bnd_of lowered_okI ?_
    refine bnd_of (has_ok (by omega)) ?_
    rw [Int.toNat_natCast]
    generalize hk : n / 2 ^ (t / W * W) = kk
    refine bnd_of (a := if kk % 2 ^ (t % W) = 0 then (lowerS S ((sz W n : Nat) - ((t / W : Nat) : Int)) ((t % W : Nat) : Int)).step "looked" (min (((t / W : Nat) : Int) - (sz W (n % 2 ^ (t / W * W)) : Nat) + 1) ((t / W : Nat) : Int)) else lowerS S ((sz W n : Nat) - ((t / W : Nat) : Int)) ((t % W : Nat) : Int)) ?_ ?_
    · by_cases z : kk % 2 ^ (t % W) = 0
      · rw [if_pos (by rw [decide_eq_false (fun q => q z)]; rfl), if_pos z]
        refine bnd_of (low_ok h30 _ (by omega)) ?_
        rw [p2, ← Int.natCast_emod]
        refine bnd_of (size_ok h8 h30 _) ?_
        rw [Int.natAbs_natCast]
        exact bnd_of (chkP_eq (by decide +kernel)) rfl
      · rw [if_neg (by rw [decide_eq_true z]; decide), if_neg z]
    · refine bnd_of (chkP_eq (by omega)) ?_
      rw [p2, div_nat]
/-- a mantissa and its exponent, told -/
def finM (m : Nat) (e : Int) : Int × Int := if m = 2 ^ 53 then ((2 ^ 52 : Nat), e + 1) else if m = 0 then (0, 0) else ((m : Int), e)
def cutM (q : Nat) (s : Int) : Int := max ((bl q : Int) - 53) (-1074 - s)
def rndM (q : Nat) (c : Nat) (st : Prop) [Decidable st] : Nat := q / 2 ^ c + (if q % 2 ^ c > 2 ^ (c - 1) ∨ (q % 2 ^ c = 2 ^ (c - 1) ∧ (st ∨ q / 2 ^ c % 2 = 1)) then 1 else 0)
theorem rounded_ok {q : Nat} {s : Int} {st : Bool} (hq : bl q ≤ 1000000) (h1 : -100000 ≤ s) (hc : q ≠ 0 → 1 ≤ cutM q s) (hm : q ≠ 0 → rndM q (cutM q s).toNat (st = true) ≤ 2 ^ 53) :
    M_rounded (q : Int) s st = some (if q = 0 then (0, 0) else finM (rndM q (cutM q s).toNat (st = true)) (s + cutM q s)) := by
  unfold M_rounded
  by_cases z : q = 0
  · subst z; rw [if_pos (decide_eq_true (show ((0 : Nat) : Int) = 0 from rfl)), if_pos rfl]
  rw [if_neg (by rw [decide_eq_true_iff]; omega), if_neg z]
  have hbq : q < 2 ^ bl q := bl_lt q
  have hc := hc z
  have hm := hm z
  have e0 : max (((Builtin.Int.intBits (q : Int) : Nat) : Int) - 53) (-1074 - s) = cutM q s := by rw [intBits_nat]; rfl
  have hcu : cutM q s ≤ 1200000 := by unfold cutM; omega
  rw [e0]
  revert hm
  generalize cutM q s = cc at *
  obtain ⟨c, rfl⟩ := Int.eq_ofNat_of_zero_le (show (0 : Int) ≤ cc by omega)
  intro hm
  rw [Int.toNat_natCast] at hm ⊢
  refine bnd_of rfl ?_
  refine bnd_of (chkP_eq (by omega)) ?_
  rw [Int.toNat_natCast, p2, div_nat]
  refine bnd_of rfl ?_
  refine bnd_of rfl ?_
  have hd : q / 2 ^ c < 2 ^ bl q := Nat.lt_of_le_of_lt (Nat.div_le_self _ _) hbq
  refine bnd_of (chkP_eq (shl_ok (k := bl q) (by rw [Int.natAbs_natCast]; exact hd) (by omega) (by omega))) ?_
  have eb : (q : Int) - ((q / 2 ^ c : Nat) : Int) * ((2 ^ c : Nat) : Int) = ((q % 2 ^ c : Nat) : Int) := by
    have := Nat.div_add_mod q (2 ^ c)
    rw [Nat.mul_comm] at this
    rw [← Int.natCast_mul]
    omega
  rw [eb]
  refine bnd_of rfl ?_
  refine bnd_of (chkP_eq (shl_ok (k := 1) (by decide) (by omega) (by omega))) ?_
  rw [Int.one_mul, show ((c : Int) - 1).toNat = c - 1 by omega, p2]
  refine bnd_of rfl ?_
  have ho : Builtin.bitAnd ((q / 2 ^ c : Nat) : Int) 1 = ((q / 2 ^ c % 2 : Nat) : Int) := by
    have h := and_low ((q / 2 ^ c : Nat) : Int) 1
    rw [show (((2 ^ 1 - 1 : Nat) : Nat) : Int) = 1 from rfl] at h
    rw [h]
    rfl
  rw [ho]
  refine bnd_of (a := ((rndM q c (st = true) : Nat) : Int)) ?_ ?_
  · unfold rndM
    generalize q / 2 ^ c = v
    generalize q % 2 ^ c = u
    generalize 2 ^ (c - 1) = h
    have e1 : (decide ((h : Int) < (u : Int)) || (decide ((u : Int) = (h : Int)) && (st || decide (((v % 2 : Nat) : Int) = 1)))) = decide (u > h ∨ (u = h ∧ (st = true ∨ v % 2 = 1))) := by
      rw [Bool.eq_iff_iff]
      simp only [Bool.or_eq_true, Bool.and_eq_true, decide_eq_true_iff]
      exact or_congr (by omega) (and_congr (by omega) (or_congr Iff.rfl (by omega)))
    rw [e1]
    by_cases t : u > h ∨ (u = h ∧ (st = true ∨ v % 2 = 1))
    · rw [if_pos (decide_eq_true t), if_pos t]; rfl
    · rw [if_neg (by rw [decide_eq_false t]; decide), if_neg t]; rfl
  · generalize rndM q c (st = true) = m at *
    refine bnd_of (chkP_eq (by decide)) ?_
    rw [show ((53 : Int)).toNat = 53 from rfl, p2, div_nat]
    unfold finM
    by_cases e : m = 2 ^ 53
    · subst e
      rw [if_pos rfl, if_pos (decide_eq_true (by rfl))]
      refine bnd_of (bnd_of (chkP_eq (by decide)) (bnd_of rfl (bnd_of rfl rfl))) ?_
      rfl
    · have : m / 2 ^ 53 = 0 := Nat.div_eq_of_lt (by omega)
      rw [if_neg e, if_neg (by rw [decide_eq_true_iff, this]; decide)]
      refine bnd_of rfl ?_
      by_cases z : m = 0
      · subst z; rw [if_pos rfl]; rfl
      · rw [if_neg z, if_pos (decide_eq_true (by show (0 : Int) < (m : Int); omega))]
/-- what the program makes of a quotient at its shift -/
theorem near_val {a b : Nat} {s : Int} {st : Bool} (ha : 0 < a) (hb : 0 < b) (hba : bl a ≤ 50000) (hbb : bl b ≤ 50000) (hs : ¬ Blw a b (s + 54) ∨ s ≤ -1076) (hs1 : -60000 ≤ s) (hst : st = true ↔ a * 2 ^ (-s).toNat % (b * 2 ^ s.toNat) ≠ 0) :
    ∃ e, Gexp a b e ∧ M_rounded ((a * 2 ^ (-s).toNat / (b * 2 ^ s.toNat) : Nat) : Int) s st = some (finM (man a b e) e) := by
  have hB : 0 < b * 2 ^ s.toNat := Nat.mul_pos hb (Nat.two_pow_pos _)
  have hle : bl (a * 2 ^ (-s).toNat / (b * 2 ^ s.toNat)) ≤ 1000000 := by
    refine Nat.le_trans (bl_le (k := bl a + (-s).toNat).mpr (Nat.lt_of_le_of_lt (Nat.div_le_self _ _) ?_)) (by omega)
    rw [Nat.pow_add]
    exact Nat.mul_lt_mul_of_pos_right (bl_lt a) (Nat.two_pow_pos _)
  by_cases q0 : a * 2 ^ (-s).toNat / (b * 2 ^ s.toNat) = 0
  · obtain ⟨g, m⟩ := prog_zero hb hs q0
    refine ⟨-1074, g, ?_⟩
    rw [q0, m]
    rw [rounded_ok (by decide) (by omega) (fun z => absurd rfl z) (fun z => absurd rfl z)]
    rfl
  · have hk : 0 < bl (a * 2 ^ (-s).toNat / (b * 2 ^ s.toNat)) := Nat.lt_of_not_le fun z => q0 (by have := bl_le.mp z; rw [Nat.pow_zero] at this; exact Nat.lt_one_iff.mp this)
    obtain ⟨c2, g, m⟩ := prog_exp (c := cutM (a * 2 ^ (-s).toNat / (b * 2 ^ s.toNat)) s) hb hs q0 (bl_ge (by omega)) (bl_lt _) hk rfl
    have hc := rne_cut (A := a * 2 ^ (-s).toNat) (c := (cutM (a * 2 ^ (-s).toNat / (b * 2 ^ s.toNat)) s).toNat) hB (by omega)
    have hr : rndM (a * 2 ^ (-s).toNat / (b * 2 ^ s.toNat)) (cutM (a * 2 ^ (-s).toNat / (b * 2 ^ s.toNat)) s).toNat (st = true) = man a b (s + cutM (a * 2 ^ (-s).toNat / (b * 2 ^ s.toNat)) s) := by
      rw [← m, hc]
      unfold rndM
      simp only [hst]
    have hle53 := man_le hb g.up
    refine ⟨_, g, ?_⟩
    rw [rounded_ok hle (by omega) (fun _ => by omega) (fun _ => by rw [hr]; exact hle53), if_neg q0, hr]
theorem mv_div {a b : Nat} {s : Int} : mv a s / b = a * 2 ^ (-s).toNat / (b * 2 ^ s.toNat) := by
  unfold mv
  rw [Nat.div_div_eq_div_mul, Nat.mul_comm b]
theorem mv_more {a b : Nat} {s : Int} : (mv a s % b ≠ 0 ∨ a % 2 ^ s.toNat ≠ 0) ↔ a * 2 ^ (-s).toNat % (b * 2 ^ s.toNat) ≠ 0 := by
  have e : a % 2 ^ s.toNat = a * 2 ^ (-s).toNat % 2 ^ s.toNat := by
    by_cases l : s ≤ 0
    · rw [show s.toNat = 0 by omega, Nat.pow_zero, Nat.mod_one, Nat.mod_one]
    · rw [show (-s).toNat = 0 by omega, Nat.pow_zero, Nat.mul_one]
  rw [e, Nat.mul_comm b, Nat.mod_mul]
  unfold mv
  generalize a * 2 ^ (-s).toNat = A
  have hp : 0 < 2 ^ s.toNat := Nat.two_pow_pos _
  generalize 2 ^ s.toNat = t at *
  generalize A / t % b = u
  generalize A % t = v
  by_cases h : u = 0
  · subst h; simp
  · have : 0 < t * u := Nat.mul_pos hp (Nat.pos_of_ne_zero h)
    exact iff_of_true (.inl h) (by omega)
theorem mv_lt {a : Nat} {s : Int} : mv a s < 2 ^ (bl a + (-s).toNat) := by
  unfold mv
  refine Nat.lt_of_le_of_lt (Nat.div_le_self _ _) ?_
  rw [Nat.pow_add]
  exact Nat.mul_lt_mul_of_pos_right (bl_lt a) (Nat.two_pow_pos _)
/-- the shift ahead of a true quotient -/
def shN (a b : Nat) : Int := max ((bl a : Int) - bl b) (-1021) - 55
def ratS (W : Nat) (S : MS) (a b : Nat) : MS :=
  if max (bl a) (bl b) ≤ 53 then S.step "short" 1
  else if (bl a : Int) - bl b < -1075 then S
  else if sz W b = 1 then shortS (movS W (S.enter "ratio" (sz W a : Nat) (sz W b : Nat)) a (shN a b)) "divide short" (sz W (mv a (shN a b)) : Nat)
  else longS W (movS W (S.enter "ratio" (sz W a : Nat) (sz W b : Nat)) a (shN a b)) (mv a (shN a b)) b
theorem mv_ge {a b : Nat} (ha : 0 < a) (hb : 0 < b) (h : ¬ (bl a : Int) - bl b < -1075) : b ≤ mv a (shN a b) := by
  have hi : 0 < bl a := Nat.lt_of_not_le fun z => by have := bl_le.mp z; omega
  have hj : 0 < bl b := Nat.lt_of_not_le fun z => by have := bl_le.mp z; omega
  have m1 : 2 ^ (bl a - 1) ≤ a := bl_ge (by omega)
  have := blw_lo (k := shN a b) m1 (bl_lt b) (by unfold shN; omega)
  have q : ¬ a * 2 ^ (-shN a b).toNat / (b * 2 ^ (shN a b).toNat) < 2 ^ 0 := fun z => this (by simpa using (blw_q (a := a) (s := shN a b) (j := 0) hb).mpr z)
  rw [Nat.pow_zero, ← mv_div] at q
  refine Nat.le_of_not_lt fun z => q ?_
  rw [Nat.div_eq_of_lt z]; decide
theorem ratio_ok {W : Nat} {S : MS} (hS : S.w = (W : Int)) (h8 : 8 ≤ W) (h30 : W ≤ 30) {a b : Nat} (ha : 0 < a) (hb : 0 < b) (hba : bl a ≤ 20000) (hbb : bl b ≤ 20000) :
    ∃ e, Gexp a b e ∧ M_ratio S (a : Int) (b : Int) = some (finM (man a b e) e, ratS W S a b) := by
  have hw : W ≠ 0 := by omega
  have hi : 0 < bl a := Nat.lt_of_not_le fun z => by have := bl_le.mp z; omega
  have hj : 0 < bl b := Nat.lt_of_not_le fun z => by have := bl_le.mp z; omega
  obtain ⟨e, g, hr⟩ := near_val (a := a) (b := b) (s := shN a b) (st := decide (mv a (shN a b) % b ≠ 0 ∨ a % 2 ^ (shN a b).toNat ≠ 0)) ha hb (by omega) (by omega) (by
    by_cases l : (bl a : Int) - bl b < -1021
    · exact .inr (by unfold shN; omega)
    · exact .inl (blw_lo (bl_ge (a := a) (k := bl a - 1) (by omega)) (bl_lt b) (by unfold shN; omega))) (by unfold shN; omega) (decide_eq_true_iff.trans mv_more)
  refine ⟨e, g, ?_⟩
  rw [← mv_div] at hr
  have s1 : -1076 ≤ shN a b := by unfold shN; omega
  have s2 : shN a b ≤ 20000 := by unfold shN; omega
  have tail : ∀ (r : Nat) (S' : MS), (r ≠ 0 ↔ mv a (shN a b) % b ≠ 0) → ((if (!decide ((r : Int) = (0 : Int))) = true then some true else (M_has_bits_ahead (a : Int) (shN a b)).bind fun z => some z).bind fun z => (M_rounded ((mv a (shN a b) / b : Nat) : Int) (shN a b) z).bind fun z10 => some (z10, S')) = some (finM (man a b e) e, S') := by
    intro r S' hrr
    refine bnd_of (a := decide (mv a (shN a b) % b ≠ 0 ∨ a % 2 ^ (shN a b).toNat ≠ 0)) ?_ (bnd_of hr rfl)
    by_cases z : r = 0
    · have z' : ¬ mv a (shN a b) % b ≠ 0 := fun y => hrr.mpr y z
      subst z
      rw [if_neg (by decide)]
      refine bnd_of (has_ok (by omega)) ?_
      congr 1
      exact decide_eq_decide.mpr ⟨fun y => .inr y, fun y => y.elim (fun w => absurd w z') id⟩
    · rw [if_pos (by rw [decide_eq_false (by omega)]; rfl), decide_eq_true (.inl (hrr.mp z))]
  unfold M_ratio
  rw [if_neg (by rw [decide_eq_true_iff]; omega)]
  refine bnd_of rfl ?_
  refine bnd_of (a := shN a b) (by rw [intBits_nat, intBits_nat]; rfl) ?_
  rw [intBits_nat, intBits_nat]
  unfold ratS
  by_cases c1 : max (bl a) (bl b) ≤ 53
  · rw [if_pos (decide_eq_true (by omega)), if_pos c1]
    refine bnd_of (chkP_eq (by decide +kernel)) ?_
    have hn : shN a b < 0 := by unfold shN; omega
    refine bnd_of (chkP_eq (shl_ok (k := bl a) (by rw [Int.natAbs_natCast]; exact bl_lt a) (by omega) (by omega))) ?_
    have em : (a : Int) * 2 ^ (-shN a b).toNat = ((mv a (shN a b) : Nat) : Int) := by
      unfold mv
      rw [show (shN a b).toNat = 0 by omega, Nat.pow_zero, Nat.div_one, Int.natCast_mul, p2]
    rw [em]
    have hlb : b.log2 < 9000 := by
      have := (Nat.log2_lt (n := b) (k := bl b) (by omega)).mpr (bl_lt b)
      omega
    refine bnd_of (chkP_eq ⟨by omega, hlb⟩) ?_
    rw [fdiv_nat, fmod_nat]
    refine bnd_of rfl ?_
    exact tail _ _ Iff.rfl
  · rw [if_neg (by rw [decide_eq_true_iff]; omega), if_neg c1]
    by_cases c2 : (bl a : Int) - bl b < -1075
    · rw [if_pos (decide_eq_true (by omega)), if_pos c2]
      obtain ⟨g2, m2⟩ := low_exp (blw_hi (a := a) (b := b) (k := -1075) (bl_lt a) (bl_ge (a := b) (k := bl b - 1) (by omega)) (by omega)) (Int.le_refl _)
      rw [g.uniq g2, m2]
      rfl
    · rw [if_neg (by rw [decide_eq_true_iff]; omega), if_neg c2, hS]
      refine bnd_of (size_ok h8 h30 _) ?_
      refine bnd_of (size_ok h8 h30 _) ?_
      rw [Int.natAbs_natCast, Int.natAbs_natCast]
      refine bnd_of (moved_ok (by show S.w = _; exact hS) h8 h30 (by omega) (by omega) (by omega)) ?_
      have hge := mv_ge ha hb c2
      have hl : mv a (shN a b) < 2 ^ (W * 50000) := Nat.lt_of_lt_of_le mv_lt (Nat.pow_le_pow_right (by decide) (by have := Nat.mul_le_mul_right 50000 h8; omega))
      have hsz : sz W (mv a (shN a b)) ≤ 50000 := (sz_le hw).mpr hl
      have hsb : sz W b ≤ sz W (mv a (shN a b)) := (sz_le hw).mpr (Nat.lt_of_le_of_lt hge ((sz_le hw).mp (Nat.le_refl _)))
      refine bnd_of (ddig_ok (by rw [movS_w]; exact hS) h8 h30 (by omega) hsb hsz _) ?_
      refine (tail _ _ Iff.rfl).trans ?_
      congr 2
/-- the bound of what can be told -/
def GB : Nat := (2 ^ 53 - 1) * 2 ^ 971 + 2 ^ 970
theorem GB_is : (179769313486231580793728971405303415079934132710037826936173778980444968292764750946649017977587207096330286416692887910946555547851940402630657488671505820681908902000708383676273854845817711531764475730270069855571366959622842914819860834936475292719074168444365510704342711559699508093042880177904174497792 : Int) = ((GB : Nat) : Int) := by decide +kernel
theorem GB_lt : GB < 2 ^ 1024 := by decide +kernel
theorem GB_pos : 0 < GB := by decide +kernel
def sideQ (x y : Int) : Int := if (decide ((decide (x < (0 : Int))) = (decide (y < (0 : Int))))) = true then (1 : Int) else (-(1 : Int))
theorem GB_mul {y : Int} (h : bl y.natAbs ≤ 20000) : IntMulOk ((GB : Nat) : Int) y := by
  refine CMulW.ok ?_
  unfold CMulW
  have h1 : GB.log2 < 1024 := (Nat.log2_lt (Nat.pos_iff_ne_zero.mp GB_pos)).mpr GB_lt
  rw [Int.natAbs_natCast]
  by_cases z : y.natAbs = 0
  · rw [z]
    have : Nat.log2 0 = 0 := by decide
    omega
  · have := (Nat.log2_lt z).mpr (bl_lt y.natAbs)
    omega
theorem truex_ok {W : Nat} {S : MS} (hS : S.w = (W : Int)) {x y : Int} (hy : y ≠ 0) (hb : bl y.natAbs ≤ 20000) : X_true_quotient S (bg W x) (bg W y) = if GB * y.natAbs ≤ x.natAbs then some 0 else none := by
  unfold X_true_quotient
  refine bnd_of (cdiv_two hS x hy) ?_
  refine bnd_of rfl (bnd_of rfl ?_)
  rw [GB_is]
  refine bnd_of (chkP_eq (GB_mul (by rw [Int.natAbs_natCast]; exact hb))) ?_
  rw [← Int.natCast_mul]
  dsimp only [bg]
  by_cases h : GB * y.natAbs ≤ x.natAbs
  · rw [if_pos (decide_eq_true (by omega)), if_pos h]
  · rw [if_neg (by rw [decide_eq_true_iff]; omega), if_neg h]
theorem true_ok {W : Nat} {S : MS} (hS : S.w = (W : Int)) {x y : Int} (hy : y ≠ 0) (hb : bl y.natAbs ≤ 20000) (hg : ¬ GB * y.natAbs ≤ x.natAbs) {r : Int × Int} {S' : MS} (hr : M_ratio S ((x.natAbs : Nat) : Int) ((y.natAbs : Nat) : Int) = some (r, S')) :
    M_true_quotient S (bg W x) (bg W y) = some (T3.mk (sideQ x y) r.1 r.2, S') := by
  unfold M_true_quotient
  refine bnd_of (cdiv_two hS x hy) ?_
  refine bnd_of rfl (bnd_of rfl ?_)
  rw [GB_is]
  refine bnd_of (chkP_eq (GB_mul (by rw [Int.natAbs_natCast]; exact hb))) ?_
  rw [← Int.natCast_mul]
  dsimp only [bg]
  refine bnd_of (chkP_eq (decide_eq_false (by omega))) ?_
  exact bnd_of hr rfl
theorem ratio_nil {S : MS} {b : Int} : M_ratio S 0 b = some ((0, 0), S) := by
  unfold M_ratio
  rw [if_pos (decide_eq_true rfl)]
/-! nearest -/
/-! ### the law's own rounding -/
def nz (l : List (Str × Int)) : List (Str × Int) := l.filter fun p => !decide (p.2 = 0)
theorem nz_loop (l : List (Str × Int)) : lcM (fun (a3 : (Str × Int)) (s2 : Unit) => if (!decide (a3.2 = (0 : Int))) = true then some (some (a3.1, a3.2), ()) else some (none, ())) l () = some (nz l, ()) := by
  unfold nz
  refine lcM_filter (p := fun (p : Str × Int) => !decide (p.2 = 0)) fun x _ => ?_
  by_cases q : (!decide (x.2 = 0)) = true
  · rw [if_pos q, if_pos q]
  · rw [if_neg q, if_neg q]
theorem nz_nd {l : List (Str × Int)} (h : (l.map (·.1)).Nodup) : ((nz l).map (·.1)).Nodup := (List.filter_sublist.map _).nodup h
theorem tally_len (S : MS) : S.tally.length = 10 := by unfold MS.tally; rw [List.length_map]; rfl
theorem nzk_loop {l : List (Str × Int)} (hd : (l.map (·.1)).Nodup) : ∀ {r : List (Str × Int)}, (∀ x ∈ r, x ∈ l) →
    lcM (fun (a3 : Str) (s2 : Unit) => (l.lookup a3).bind fun z4 => if (!decide (z4 = (0 : Int))) = true then (l.lookup a3).bind fun z5 => some (some (a3, z5), ()) else some (none, ())) (r.map (·.1)) () = some (nz r, ())
  | [], _ => rfl
  | x :: r, h => by
    have e := lookup_of hd (h x List.mem_cons_self)
    have ih := nzk_loop hd (r := r) fun y hy => h y (List.mem_cons_of_mem _ hy)
    rw [List.map_cons]
    show (Option.bind _ _).bind _ = _
    rw [e, Option.bind_some]
    by_cases q : (!decide (x.2 = 0)) = true
    · rw [if_pos q, Option.bind_some, Option.bind_some]
      show (lcM _ _ _).bind _ = _
      rw [ih]
      show some (_ :: nz r, ()) = some (nz (x :: r), ())
      unfold nz
      rw [List.filter_cons, if_pos q]
    · rw [if_neg q, Option.bind_some]
      show (lcM _ _ _).bind _ = _
      rw [ih]
      show some (nz r, ()) = some (nz (x :: r), ())
      unfold nz
      rw [List.filter_cons, if_neg q]
theorem due_ok {l : List (Str × Int)} (hd : (l.map (·.1)).Nodup) (hl : l.length ≤ 100) : M__law_due_of (DF.mk l) = some (DF.mk (nz l)) := by
  unfold M__law_due_of
  refine bnd_of (chkP_eq (size_le (m := 100) (by rw [List.length_map]; exact hl) (by decide))) ?_
  refine bnd_of (nzk_loop hd fun x hx => hx) ?_
  exact bnd_of (chkP_eq (nz_nd hd)) rfl
/-- what stands under a word, 0 if none does -/
def dgv (l : List (Str × Int)) (w : Str) : Int := (l.lookup w).getD 0
theorem nz_same {S : MS} {l : List (Str × Int)} (hd : (l.map (·.1)).Nodup) (hk : ∀ x ∈ l, x.1 ∈ mwords) (h : ∀ w ∈ mwords, S.cnt w = dgv l w) : sameD (nz S.tally) (nz l) := same_of (nz_nd (tally_keys S)) (nz_nd hd) fun x => by
  unfold nz
  rw [List.mem_filter, List.mem_filter, mem_tally]
  constructor
  · rintro ⟨⟨h1, h2⟩, h3⟩
    refine ⟨?_, h3⟩
    have e := h x.1 h1
    unfold dgv at e
    cases q : l.lookup x.1 with
    | none =>
      rw [q] at e
      rw [e] at h2
      rw [show x.2 = 0 from h2] at h3
      cases h3
    | some v =>
      rw [q] at e
      have m := mem_lookup q
      rw [show v = x.2 from by rw [h2, e]; rfl] at m
      exact m
  · rintro ⟨h1, h3⟩
    have hw := hk x h1
    refine ⟨⟨hw, ?_⟩, h3⟩
    rw [h _ hw]
    unfold dgv
    rw [lookup_of hd h1]; rfl
theorem same_self {l : List (Str × Int)} (h : (l.map (·.1)).Nodup) : sameD l l := same_of h h fun _ => Iff.rfl
theorem dgv_nil (v : Str) : dgv [] v = 0 := rfl
theorem dgv_cons (k v : Str) (n : Int) (l : List (Str × Int)) : dgv ((k, n) :: l) v = if v = k then n else dgv l v := by
  unfold dgv
  rw [List.lookup_cons]
  by_cases e : v = k
  · rw [if_pos e, e, beq_self_eq_true]; rfl
  · rw [if_neg e, show (v == k) = false from by simpa using e]
theorem corr_while {x0 x1 x2 x3 x4 x5 d : Int} (h : M_corrections x0 x1 x2 x3 x4 x5 = some d) : ∃ l : Int, whileM (ρ := Unit) (fun (s1 : Int × Int) => (chkP (0 ≤ x0)).bind fun z2 => (if (decide ((s1.2 / 2 ^ (x0).toNat) = (0 : Int))) = true then (chkP (IntMulOk x4 (x1 - s1.1))).bind fun z3 => (chkP (CShl s1.2 x0)).bind fun z4 => some (decide (((s1.2 * 2 ^ (x0).toNat) + x5) < (x4 * (x1 - s1.1)))) else some false).bind fun z5 => some z5) (fun (s1 : Int × Int) => (some (s1.1 + (1 : Int))).bind fun y7 => (some (s1.2 + x3)).bind fun y8 => some (Stp.nx (y7, y8))) (4) ((0 : Int), x2) = some (.nx (d, l)) := by
  unfold M_corrections at h
  obtain ⟨z, hz, hm⟩ := bnd_some h
  obtain ⟨s, hs, e⟩ := bnd_some hm
  cases z with
  | nx s' =>
    cases hs
    cases e
    exact ⟨s.2, hz⟩
  | bk => cases hs
  | rt r => cases hs
theorem rngD_succ (j : Nat) : rngD ((j : Int)) (j + 1) = (j : Int) :: rngD ((j : Int) - 1) j := by
  unfold rngD
  rw [List.range_succ_eq_map, List.map_cons, List.map_map]
  refine List.cons_eq_cons.mpr ⟨by simp, List.map_congr_left fun k _ => ?_⟩
  show (j : Int) + ((k + 1 : Nat) : Int) * (-1) = (j : Int) - 1 + (k : Int) * (-1)
  omega
theorem rest_at {A b B i : Nat} : A % (b * B ^ (i + 1)) / B ^ i = dvR B A b i := by
  unfold dvR
  rw [show b * B ^ (i + 1) = B ^ i * (B * b) from by rw [Nat.pow_succ]; ac_rfl, Nat.mod_mul_right_div_self, Nat.mod_mul, Nat.div_div_eq_div_mul, ← Nat.pow_succ, Nat.add_comm, Nat.mul_comm]
theorem rest_next {A b B i : Nat} : A % (b * B ^ (i + 1)) - dvR B A b i / b * (b * B ^ i) = A % (b * B ^ i) := by
  have h1 : A % (b * B ^ (i + 1)) / (b * B ^ i) = dvR B A b i / b := by
    rw [Nat.mul_comm b (B ^ i), ← Nat.div_div_eq_div_mul, rest_at]
  have h2 : b * B ^ (i + 1) = b * B ^ i * B := by rw [Nat.pow_succ]; ac_rfl
  have h3 : A % (b * B ^ (i + 1)) % (b * B ^ i) = A % (b * B ^ i) := by rw [h2]; exact Nat.mod_mul_right_mod _ _ _
  rw [← h1, ← h3]
  have := Nat.div_add_mod (A % (b * B ^ (i + 1))) (b * B ^ i)
  rw [Nat.mul_comm] at this
  omega
theorem rest_le {A b B i : Nat} : dvR B A b i / b * (b * B ^ i) ≤ A % (b * B ^ (i + 1)) := by
  have h1 : A % (b * B ^ (i + 1)) / (b * B ^ i) = dvR B A b i / b := by
    rw [Nat.mul_comm b (B ^ i), ← Nat.div_div_eq_div_mul, rest_at]
  rw [← h1]
  exact Nat.div_mul_le_self _ _
theorem d_loop {B A b E k : Nat} {body : Int → (Int × List (T4 Int Int Bool Int)) → Option (Stp (Int × List (T4 Int Int Bool Int)) Unit)}
    (hb : ∀ i acc, i < k → acc.length ≤ 60000 → body (i : Int) (((A % (b * B ^ (i + 1)) : Nat) : Int), acc) = some (.nx (((A % (b * B ^ i) : Nat) : Int), acc ++ [dvS B E A b i]))) :
    ∀ j acc, j ≤ k → acc.length + j ≤ 60000 → forM' body (rngD ((j : Int) - 1) j) (((A % (b * B ^ j) : Nat) : Int), acc) = some (.nx (((A % b : Nat) : Int), acc ++ dvSteps B E A b j)) := by
  intro j
  induction j with
  | zero =>
    intro acc _ _
    rw [Nat.pow_zero, Nat.mul_one]
    show some _ = some _
    rw [show dvSteps B E A b 0 = [] from rfl, List.append_nil]
  | succ j ih =>
    intro acc hj hl
    have e : ((j + 1 : Nat) : Int) - 1 = (j : Int) := by omega
    rw [e, rngD_succ, forM_cons (hb j acc (by omega) (by omega)), ih _ (by omega) (by rw [List.length_append]; show acc.length + 1 + j ≤ 60000; omega), List.append_assoc]
    rfl
theorem d_loop' {B A b E k s0 : Nat} {body : Int → (Int × List (T4 Int Int Bool Int)) → Option (Stp (Int × List (T4 Int Int Bool Int)) Unit)} (h0 : A % (b * B ^ k) = s0)
    (hb : ∀ i acc, i < k → acc.length ≤ 60000 → body (i : Int) (((A % (b * B ^ (i + 1)) : Nat) : Int), acc) = some (.nx (((A % (b * B ^ i) : Nat) : Int), acc ++ [dvS B E A b i]))) (hk : k ≤ 60000) :
    forM' body (rngD ((k : Int) - 1) k) (((s0 : Nat) : Int), []) = some (.nx (((A % b : Nat) : Int), dvSteps B E A b k)) := by
  subst h0
  have := d_loop (E := E) hb k [] (Nat.le_refl k) (by show 0 + k ≤ 60000; omega)
  rw [List.nil_append] at this
  exact this
theorem law_long_ok {W : Nat} (h8 : 8 ≤ W) (h30 : W ≤ 30) {a b : Nat} (hb : 1 < sz W b) (hab : sz W b ≤ sz W a) (ha8 : a < 2 ^ 25000) : M__law_long (a : Int) (b : Int) (W : Int) = some (longL W a b) := by
  have hw : W ≠ 0 := by omega
  obtain ⟨n1, n2, n3⟩ := norm_b h8 hb
  have hk := kEff_ok h8 hb hab
  have ha0 : a ≠ 0 := fun z => by rw [z, (sz_zero hw).mpr rfl] at hab; omega
  have hb0 : b ≠ 0 := fun z => by rw [z, (sz_zero hw).mpr rfl] at hb; omega
  obtain ⟨m1, m2, m3⟩ := sz_bl hw ha0
  obtain ⟨b1, b2, b3⟩ := sz_bl hw hb0
  have hbla : bl a ≤ 25000 := bl_le.mpr ha8
  have hm1 : (sz W a - 1) * W ≤ 25000 := by omega
  have eM : (sz W a - 1) * W + W = sz W a * W := by
    obtain ⟨k, hk⟩ : ∃ k, sz W a = k + 1 := ⟨sz W a - 1, by omega⟩
    rw [hk, Nat.add_sub_cancel, Nat.add_mul, Nat.one_mul]
  have hmW : sz W a * W ≤ 25030 := by omega
  have hnW : sz W b * W ≤ 25030 := Nat.le_trans (Nat.mul_le_mul_right W hab) hmW
  have hm : sz W a ≤ 25030 := Nat.le_trans (Nat.le_mul_of_pos_right _ (by omega)) hmW
  have ha : a < 2 ^ (sz W a * W) := Nat.lt_of_lt_of_le (bl_lt a) (Nat.pow_le_pow_right (by decide) m2)
  have hbb : b < 2 ^ (sz W b * W) := Nat.lt_of_lt_of_le (bl_lt b) (Nat.pow_le_pow_right (by decide) b2)
  have hb30 : b < 2 ^ 30000 := Nat.lt_of_lt_of_le hbb (Nat.pow_le_pow_right (by decide) (by omega))
  have ha30 : a < 2 ^ 30000 := Nat.lt_of_lt_of_le ha8 (Nat.pow_le_pow_right (by decide) (by decide))
  have hn1 : (sz W b - 1) * W ≤ 25030 := Nat.le_trans (Nat.mul_le_mul_right W (by omega)) hnW
  have hn2 : (sz W b - 2) * W ≤ 25030 := Nat.le_trans (Nat.mul_le_mul_right W (by omega)) hnW
  have e1 : (W : Int) * ((sz W b : Nat) : Int) - ((Builtin.Int.intBits (b : Int) : Nat) : Int) = ((shr_ W b : Nat) : Int) := by
    rw [intBits_nat, ← Int.natCast_mul, Nat.mul_comm]; unfold shr_; omega
  have e2 : (W : Int) * (((sz W a : Nat) : Int) - 1) = (((sz W a - 1) * W : Nat) : Int) := by rw [Nat.mul_comm, Int.natCast_mul, show ((sz W a - 1 : Nat) : Int) = ((sz W a : Nat) : Int) - 1 from by omega]
  have e3 : (W : Int) * (((sz W b : Nat) : Int) - 1) = (((sz W b - 1) * W : Nat) : Int) := by rw [Nat.mul_comm, Int.natCast_mul, show ((sz W b - 1 : Nat) : Int) = ((sz W b : Nat) : Int) - 1 from by omega]
  have e4 : (W : Int) * (((sz W b : Nat) : Int) - 2) = (((sz W b - 2) * W : Nat) : Int) := by rw [Nat.mul_comm, Int.natCast_mul, show ((sz W b - 2 : Nat) : Int) = ((sz W b : Nat) : Int) - 2 from by omega]
  have eE : (sz W b - 2) * W + W = (sz W b - 1) * W := by
    obtain ⟨k, hk⟩ : ∃ k, sz W b = k + 2 := ⟨sz W b - 2, by omega⟩
    rw [hk, Nat.add_sub_cancel, show k + 2 - 1 = k + 1 from by omega, Nat.add_mul, Nat.one_mul]
  have eN : (sz W b - 1) * W + W = sz W b * W := by
    obtain ⟨k, hk⟩ : ∃ k, sz W b = k + 1 := ⟨sz W b - 1, by omega⟩
    rw [hk, Nat.add_sub_cancel, Nat.add_mul, Nat.one_mul]
  have hv1 : b * 2 ^ shr_ W b / 2 ^ ((sz W b - 1) * W) = b * 2 ^ shr_ W b / 2 ^ ((sz W b - 2) * W) / 2 ^ W := by
    rw [Nat.div_div_eq_div_mul, ← Nat.pow_add, eE]
  have hB1 : 2 ^ W ≤ 2 ^ 30 := Nat.pow_le_pow_right (by decide) h30
  have hB8 : 2 ^ 8 ≤ 2 ^ W := Nat.pow_le_pow_right (by decide) h8
  have hB0 : 0 < 2 ^ W := Nat.two_pow_pos W
  have hE0 : 0 < 2 ^ ((sz W b - 2) * W) := Nat.two_pow_pos _
  have hv : 2 ^ W ≤ 2 * (b * 2 ^ shr_ W b / 2 ^ ((sz W b - 2) * W) / 2 ^ W) := by
    rw [← hv1]
    have h1 : 2 ^ (W - 1) ≤ b * 2 ^ shr_ W b / 2 ^ ((sz W b - 1) * W) := by
      rw [Nat.le_div_iff_mul_le (Nat.two_pow_pos _), ← Nat.pow_add]
      exact Nat.le_trans (Nat.pow_le_pow_right (by decide) (by omega)) n3
    have h2 : 2 ^ W = 2 * 2 ^ (W - 1) := by
      obtain ⟨w, rfl⟩ : ∃ w, W = w + 1 := ⟨W - 1, by omega⟩
      rw [Nat.add_sub_cancel, Nat.pow_succ, Nat.mul_comm]
    omega
  have hv2 : b * 2 ^ shr_ W b / 2 ^ ((sz W b - 2) * W) / 2 ^ W < 2 ^ W := by
    rw [← hv1]
    refine Nat.div_lt_of_lt_mul ?_
    rw [← Nat.pow_add, eN]
    exact n2
  have hkk : kEff W a b ≤ sz W a + 1 - sz W b := by unfold kEff; split <;> omega
  have hplace : ∀ i, i < kEff W a b → b * 2 ^ shr_ W b * 2 ^ (i * W) < 2 ^ 25060 := fun i hi => by
    have h1 : b * 2 ^ shr_ W b * 2 ^ (i * W) < 2 ^ (sz W b * W) * 2 ^ (i * W) := Nat.mul_lt_mul_of_pos_right n2 (Nat.two_pow_pos _)
    rw [← Nat.pow_add, ← Nat.add_mul] at h1
    have h2 : (sz W b + i) * W ≤ 25060 := Nat.le_trans (Nat.mul_le_mul_right W (show sz W b + i ≤ sz W a by omega)) (by omega)
    exact Nat.lt_of_lt_of_le h1 (Nat.pow_le_pow_right (by decide) h2)
  have e6 : ((sz W a : Nat) : Int) + (if (decide (((b * 2 ^ shr_ W b / 2 ^ ((sz W b - 1) * W) : Nat) : Int) ≤ ((a * 2 ^ shr_ W b / 2 ^ ((sz W a - 1) * W) : Nat) : Int))) = true then (1 : Int) else 0) - ((sz W b : Nat) : Int) = ((kEff W a b : Nat) : Int) := by
    unfold kEff
    by_cases q : b * 2 ^ shr_ W b / 2 ^ ((sz W b - 1) * W) ≤ a * 2 ^ shr_ W b / 2 ^ ((sz W a - 1) * W)
    · rw [if_pos (decide_eq_true (by omega)), if_pos q]; omega
    · rw [if_neg (by rw [decide_eq_true_iff]; omega), if_neg q]; omega
  unfold M__law_long
  refine bnd_of (row_law h8 h30 ha30) ?_
  refine bnd_of (row_law h8 h30 hb30) ?_
  refine bnd_of (chkP_eq (shl_ok (k := 1) (by decide) (by omega) (by omega))) ?_
  rw [dg_size hw, dg_size hw]
  refine bnd_of rfl ?_
  refine bnd_of (a := ((2 ^ W - 1 : Nat) : Int)) (by rw [Int.toNat_natCast, Int.one_mul, p2]; congr 1; omega) ?_
  refine bnd_of (chkP_eq (mul_small (by omega))) ?_
  rw [e1, e2, e3, e4]
  refine bnd_of rfl ?_
  refine bnd_of (chkP_eq (shl_ok (k := 25000) (by rw [Int.natAbs_natCast]; exact ha8) (by omega) (by omega))) ?_
  refine bnd_of (chkP_eq (shl_ok (k := sz W b * W) (by rw [Int.natAbs_natCast]; exact hbb) (by omega) (by omega))) ?_
  have f1 : ∀ x s : Nat, (x : Int) * 2 ^ ((s : Int)).toNat = ((x * 2 ^ s : Nat) : Int) := fun x s => by rw [Int.toNat_natCast, p2, ← Int.natCast_mul]
  have f2 : ∀ x s : Nat, (x : Int) / 2 ^ ((s : Int)).toNat = ((x / 2 ^ s : Nat) : Int) := fun x s => by rw [Int.toNat_natCast, p2, div_nat]
  rw [f1, f1]
  refine bnd_of rfl ?_
  refine bnd_of rfl ?_
  refine bnd_of (chkP_eq (mul_small (by omega))) ?_
  refine bnd_of (chkP_eq (by omega)) ?_
  refine bnd_of (chkP_eq (mul_small (by omega))) ?_
  refine bnd_of (chkP_eq (by omega)) ?_
  rw [f2, f2, f2]
  refine bnd_of rfl ?_
  refine bnd_of (chkP_eq (mul_small (by omega))) ?_
  refine bnd_of (chkP_eq (by omega)) ?_
  refine bnd_of (chkP_eq (mul_small (by omega))) ?_
  refine bnd_of (chkP_eq (by omega)) ?_
  refine bnd_of rfl ?_
  refine bnd_of rfl ?_
  refine bnd_of (by rw [top_mod]) ?_
  refine bnd_of rfl ?_
  rw [e6]
  refine bnd_of (chkP_eq (by omega)) ?_
  rw [show (((kEff W a b : Nat) : Int) - (1 : Int) - (-(1 : Int))).toNat = kEff W a b from by omega]
  rw [show longL W a b = dvSteps (2 ^ W) (2 ^ ((sz W b - 2) * W)) (a * 2 ^ shr_ W b) (b * 2 ^ shr_ W b) (kEff W a b) from rfl]
  have hb'0 : 0 < b * 2 ^ shr_ W b := Nat.mul_pos (Nat.pos_of_ne_zero hb0) (Nat.two_pow_pos _)
  rw [hv1]
  have eI : ∀ (i : Nat) (j : Nat), j ≤ sz W b → (W : Int) * ((i : Int) + ((sz W b : Nat) : Int) - (j : Int)) = (((i + (sz W b - j)) * W : Nat) : Int) := fun i j hj => by
    rw [Nat.mul_comm, Int.natCast_mul]
    congr 1
    omega
  have hnn : sz W b ≤ 25030 := Nat.le_trans hab hm
  have A0 : a * 2 ^ shr_ W b % (b * 2 ^ shr_ W b * (2 ^ W) ^ kEff W a b) = a * 2 ^ shr_ W b := by
    refine Nat.mod_eq_of_lt ?_
    rw [pw_mul, Nat.mul_comm]
    exact (Nat.div_lt_iff_lt_mul (Nat.two_pow_pos _)).mp hk |> fun h => by rw [Nat.mul_comm] at h; exact h
  generalize hAA : a * 2 ^ shr_ W b = A at *
  generalize hbq : b * 2 ^ shr_ W b = b' at *
  generalize hEE : 2 ^ ((sz W b - 2) * W) = E at *
  generalize hkq : kEff W a b = k at *
  refine bnd_of (a := Stp.nx (((A % b' : Nat) : Int), dvSteps (2 ^ W) E A b' k)) ?_ rfl
  refine d_loop' (B := 2 ^ W) (A := A) (b := b') (E := E) (k := k) A0 (fun i acc hi ha => ?_) (by omega)
  dsimp only
  have hi2 : i + sz W b ≤ 25100 := by omega
  have en1 : (W : Int) * ((i : Int) + ((sz W b : Nat) : Int) - 1) = (((i + (sz W b - 1)) * W : Nat) : Int) := eI i 1 (by omega)
  have en2 : (W : Int) * ((i : Int) + ((sz W b : Nat) : Int) - 2) = (((i + (sz W b - 2)) * W : Nat) : Int) := eI i 2 (by omega)
  have en0 : (W : Int) * (i : Int) = ((i * W : Nat) : Int) := by rw [Nat.mul_comm, Int.natCast_mul]
  have hpl := hplace i (by omega)
  have hiW : i * W ≤ 753000 := Nat.le_trans (Nat.mul_le_mul (show i ≤ 25100 by omega) h30) (by decide)
  have hlt := dvR_lt (A := A) (i := i) hB0 hb'0
  have hql := kn_q_lt hlt
  have hnx := rest_next (A := A) (b := b') (B := 2 ^ W) (i := i)
  have hle := rest_le (A := A) (b := b') (B := 2 ^ W) (i := i)
  have hra := rest_at (A := A) (b := b') (B := 2 ^ W) (i := i)
  have hq1 : A % (b' * (2 ^ W) ^ (i + 1)) / 2 ^ ((i + (sz W b - 1)) * W) = dvR (2 ^ W) A b' i / E / 2 ^ W := by
    rw [Nat.add_mul, ← eE, show (2 : Nat) ^ (i * W + ((sz W b - 2) * W + W)) = (2 ^ W) ^ i * (E * 2 ^ W) from by rw [Nat.pow_add 2 (i * W), Nat.pow_add 2 ((sz W b - 2) * W), hEE, pw_mul], ← Nat.div_div_eq_div_mul, hra, ← Nat.div_div_eq_div_mul]
  have hq2 : A % (b' * (2 ^ W) ^ (i + 1)) / 2 ^ ((i + (sz W b - 2)) * W) = dvR (2 ^ W) A b' i / E := by
    rw [Nat.add_mul, Nat.pow_add 2 (i * W), hEE, ← pw_mul W i, ← Nat.div_div_eq_div_mul, hra]
  have hq3 : A % (b' * (2 ^ W) ^ (i + 1)) / (b' * 2 ^ (i * W)) = dvR (2 ^ W) A b' i / b' := by
    rw [show b' * 2 ^ (i * W) = (2 ^ W) ^ i * b' from by rw [pw_mul, Nat.mul_comm], ← Nat.div_div_eq_div_mul, hra]
  have hV : 2 ^ W ≤ b' / E := by
    have h1 := Nat.div_mul_le_self (b' / E) (2 ^ W)
    have h2 := Nat.mul_le_mul_right (2 ^ W) (show 1 ≤ b' / E / 2 ^ W by omega)
    omega
  have hVs : b' / E = b' / E / 2 ^ W * 2 ^ W + b' / E % 2 ^ W := by rw [Nat.mul_comm]; exact (Nat.div_add_mod _ _).symm
  have hb1 : b' + 1 ≤ (b' / E / 2 ^ W + 1) * 2 ^ W * E := by
    have h1 := Nat.lt_div_mul_add (a := b') hE0
    have h2 := Nat.lt_div_mul_add (a := b' / E) hB0
    have h3 : (b' / E + 1) * E ≤ (b' / E / 2 ^ W + 1) * 2 ^ W * E := Nat.mul_le_mul_right E (by rw [Nat.add_mul, Nat.one_mul]; omega)
    rw [Nat.add_mul, Nat.one_mul] at h3
    omega
  have hhd : dvR (2 ^ W) A b' i / E < (b' / E / 2 ^ W + 1) * 2 ^ W * 2 ^ W := by
    refine Nat.div_lt_of_lt_mul ?_
    have h4 : b' * 2 ^ W ≤ (b' / E / 2 ^ W + 1) * 2 ^ W * E * 2 ^ W := Nat.mul_le_mul_right _ (by omega)
    have h5 : E * ((b' / E / 2 ^ W + 1) * 2 ^ W * 2 ^ W) = (b' / E / 2 ^ W + 1) * 2 ^ W * E * 2 ^ W := by
      generalize (b' / E / 2 ^ W + 1) * 2 ^ W = z
      rw [← Nat.mul_assoc, Nat.mul_comm E]
    omega
  have hv0 : 0 < b' / E / 2 ^ W := by omega
  have hg1 := kn_guess_le hB0 hv0 hv hhd
  have hg2 := kn_guess_two (v2 := b' / E % 2 ^ W) hB0 hv0 (Nat.mod_lt _ hB0) hv hg1
  have hU : dvR (2 ^ W) A b' i / E / 2 ^ W < 2 ^ 100 := by
    have h1 : dvR (2 ^ W) A b' i / E / 2 ^ W < (b' / E / 2 ^ W + 1) * 2 ^ W := Nat.div_lt_of_lt_mul (by rw [Nat.mul_comm]; exact hhd)
    have h2 : (b' / E / 2 ^ W + 1) * 2 ^ W ≤ 2 ^ 30 * 2 ^ 30 := Nat.mul_le_mul (by omega) hB1
    omega
  have hcor := corr_ok h8 h30 (v2 := b' / E % 2 ^ W) hv0 (Nat.mod_lt _ hB0) hU hg1 hg2
  rw [← hVs] at hcor
  obtain ⟨l, hl⟩ := corr_while hcor
  rw [en1, en2, en0, f2, f2, f1, hq1, hq2]
  refine bnd_of (chkP_eq (mul_small (by omega))) ?_
  refine bnd_of (chkP_eq (by omega)) ?_
  refine bnd_of rfl ?_
  refine bnd_of (chkP_eq (cdivP_near hv0 (b := 100) (by decide) (Nat.lt_of_lt_of_le hU (Nat.le_mul_of_pos_left _ hv0)))) ?_
  refine bnd_of (chkP_eq (by omega)) ?_
  rw [div_nat, ← Int.natCast_emod]
  refine bnd_of rfl ?_
  refine bnd_of rfl ?_
  refine bnd_of (chkP_eq (mul_small (by omega))) ?_
  refine bnd_of (chkP_eq (by omega)) ?_
  refine bnd_of (by rw [top_mod]) ?_
  refine bnd_of hl ?_
  rw [nxt_nx, Option.bind_some]
  refine bnd_of (chkP_eq (mul_small (by omega))) ?_
  have hp0 : 0 < b' * 2 ^ (i * W) := Nat.mul_pos hb'0 (Nat.two_pow_pos _)
  have cs : CShl (b' : Int) ((i * W : Nat) : Int) := shl_ok (k := sz W b * W) (by rw [Int.natAbs_natCast]; exact n2) (by omega) (by omega)
  refine bnd_of (chkP_eq cs) ?_
  refine bnd_of (chkP_eq (cdivP_near hp0 (b := W) (by omega) (by
    have hml := Nat.mod_lt A (show 0 < b' * (2 ^ W) ^ (i + 1) from Nat.mul_pos hb'0 (Nat.pow_pos hB0))
    rwa [show b' * (2 ^ W) ^ (i + 1) = b' * 2 ^ (i * W) * 2 ^ W from by rw [Nat.pow_succ, pw_mul, ← Nat.mul_assoc]] at hml ⊢))) ?_
  rw [div_nat, hq3]
  refine bnd_of rfl ?_
  refine bnd_of (chkP_eq (size_lt (m := 60000) ha (by decide))) ?_
  refine bnd_of (chkP_eq (mul_small (by omega))) ?_
  refine bnd_of (chkP_eq cs) ?_
  refine bnd_of (chkP_eq (mul_small (by rw [Int.natAbs_natCast]; exact Nat.lt_of_lt_of_le hql (Nat.le_trans hB1 (by decide))))) ?_
  rw [pw_mul W i] at hnx hle
  rw [show ((A % (b' * (2 ^ W) ^ (i + 1)) : Nat) : Int) - ((dvR (2 ^ W) A b' i / b' : Nat) : Int) * ((b' * 2 ^ (i * W) : Nat) : Int) = ((A % (b' * (2 ^ W) ^ i) : Nat) : Int) from by
    rw [pw_mul W i, ← Int.natCast_mul]
    generalize dvR (2 ^ W) A b' i / b' * (b' * 2 ^ (i * W)) = u at *
    omega]
  refine bnd_of rfl ?_
  have hd : ∀ q g Q : Nat, decide ((q : Int) < (g : Int) - ((g : Int) - (Q : Int))) = decide (q < Q) := fun q g Q => decide_eq_decide.mpr (by omega)
  unfold dvS
  rw [hd]
theorem lcM_fm {γ δ : Type} {b : γ → Unit → Option (Option δ × Unit)} {p : γ → Bool} {f : γ → δ} : ∀ {l : List γ}, (∀ x ∈ l, b x () = some (if p x = true then some (f x) else none, ())) → lcM b l () = some ((l.filter p).map f, ())
  | [], _ => rfl
  | x :: r, h => by
    show (b x ()).bind _ = _
    rw [h x List.mem_cons_self, List.filter_cons]
    show (lcM b r ()).bind _ = _
    rw [lcM_fm fun y hy => h y (List.mem_cons_of_mem _ hy)]
    cases p x <;> rfl
def longDue (W a b : Nat) : List (Str × Int) := [("shifted", ((sz W a : Nat) : Int) + 2 * ((sz W b : Nat) : Int)), ("quotient", ((longL W a b).length : Int)), ("product", ((longL W a b).length : Int) * ((sz W b : Nat) : Int)), ("restored", (((longL W a b).filter fun s => s.c).length : Int)), ("corrected", ((longL W a b).map fun s => s.b).sum), ("sum", (((longL W a b).filter fun s => s.c).length : Int) * ((sz W b : Nat) : Int))]
def longWay (W a b : Nat) : List (T3 Str Int Int) := [T3.mk "divide long" ((sz W a : Nat) : Int) ((sz W b : Nat) : Int), T3.mk "lift" ((sz W b : Nat) : Int) ((shr_ W b : Nat) : Int), T3.mk "lift" ((sz W a : Nat) : Int) ((shr_ W b : Nat) : Int), T3.mk "lower" ((sz W b : Nat) : Int) ((shr_ W b : Nat) : Int)]
theorem longL_len {W a b : Nat} : (longL W a b).length ≤ sz W a + 1 := by
  unfold longL
  rw [dvSteps_len]
  unfold kEff; split <;> omega
theorem law_counts_ok {W : Nat} (h8 : 8 ≤ W) (h30 : W ≤ 30) {a b : Nat} (hb : 1 < sz W b) (hab : sz W b ≤ sz W a) (ha8 : a < 2 ^ 25000) : M__law_long_counts (a : Int) (b : Int) (W : Int) = some (DF.mk (longDue W a b), LF.mk (longWay W a b)) := by
  have hw : W ≠ 0 := by omega
  have hb0 : b ≠ 0 := fun z => by rw [z, (sz_zero hw).mpr rfl] at hb; omega
  obtain ⟨b1, b2, b3⟩ := sz_bl hw hb0
  have hsa : sz W a ≤ 25000 := (sz_le hw).mpr (Nat.lt_of_lt_of_le ha8 (Nat.pow_le_pow_right (by decide) (by omega)))
  have hbb : b < 2 ^ 30000 := by
    refine Nat.lt_of_lt_of_le ((sz_le hw (a := b) (k := sz W b)).mp (Nat.le_refl _)) (Nat.pow_le_pow_right (by decide) ?_)
    have h1 : W * sz W b ≤ 30 * 1000 ∨ 1000 < sz W b := by
      by_cases q : sz W b ≤ 1000
      · exact .inl (Nat.mul_le_mul h30 q)
      · exact .inr (by omega)
    rcases h1 with h1 | h1
    · omega
    · have hla := longL_len (W := W) (a := a) (b := b)
      have ha0 : a ≠ 0 := fun z => by rw [z, (sz_zero hw).mpr rfl] at hab; omega
      obtain ⟨m1, m2, m3⟩ := sz_bl hw ha0
      have hbla : bl a ≤ 25000 := bl_le.mpr ha8
      have eM : (sz W a - 1) * W + W = sz W a * W := by
        obtain ⟨k, hk⟩ : ∃ k, sz W a = k + 1 := ⟨sz W a - 1, by omega⟩
        rw [hk, Nat.add_sub_cancel, Nat.add_mul, Nat.one_mul]
      have := Nat.mul_le_mul_left W hab
      rw [Nat.mul_comm W (sz W a)] at this
      omega
  have hl := longL_len (W := W) (a := a) (b := b)
  have hf : ((longL W a b).filter fun s => s.c).length ≤ (longL W a b).length := List.length_filter_le _ _
  have e1 : (W : Int) * ((sz W b : Nat) : Int) - ((Builtin.Int.intBits (b : Int) : Nat) : Int) = ((shr_ W b : Nat) : Int) := by
    rw [intBits_nat, ← Int.natCast_mul, Nat.mul_comm]; unfold shr_; omega
  unfold M__law_long_counts
  refine bnd_of (law_long_ok h8 h30 hb hab ha8) ?_
  refine bnd_of (row_law h8 h30 (Nat.lt_of_lt_of_le ha8 (Nat.pow_le_pow_right (by decide) (by decide)))) ?_
  refine bnd_of (row_law h8 h30 hbb) ?_
  rw [dg_size hw, dg_size hw]
  refine bnd_of rfl ?_
  refine bnd_of rfl ?_
  refine bnd_of (chkP_eq (size_le (m := 26000) (by omega) (by decide))) ?_
  refine bnd_of (lcM_fm (p := fun s => s.c) (f := fun _ => (1 : Int)) fun x _ => by cases x.c <;> rfl) ?_
  dsimp only
  rw [List.length_map]
  refine bnd_of rfl ?_
  refine bnd_of (chkP_eq (mul_small (by decide))) ?_
  refine bnd_of (chkP_eq (mul_small (by omega))) ?_
  refine bnd_of (chkP_eq (show (["shifted", "quotient", "product", "restored"] : List Str).Nodup by decide +kernel)) ?_
  refine bnd_of rfl ?_
  refine bnd_of (chkP_eq (size_le (m := 26000) (by omega) (by decide))) ?_
  refine bnd_of (lcM_mapU (f := fun s => s.b) fun x _ => rfl) ?_
  refine bnd_of (chkP_eq (mul_small (by omega))) ?_
  refine bnd_of (chkP_eq (size_lt (m := 10) (by show 4 ≤ 10; decide) (by decide))) ?_
  refine bnd_of (chkP_eq (size_lt (m := 10) (by show 5 ≤ 10; decide) (by decide))) ?_
  refine bnd_of (chkP_eq (mul_small (by omega))) ?_
  rw [e1]
  exact bnd_of rfl rfl
/-- what a division adds -/
theorem longS_add {W a b : Nat} {S : MS} (h : S.wk.length < 900) : (longS W S a b).wk = S.wk ++ longWay W a b ∧ ∀ v, (longS W S a b).cnt v = S.cnt v + dgv (longDue W a b) v := by
  have en : ∀ {S : MS} {w : Str} {m n : Int}, S.wk.length < 1000 → (S.enter w m n).wk = S.wk ++ [T3.mk w m n] := fun {S w m n} h => if_pos h
  constructor
  · have k1 : (longS W S a b).wk = (((S.enter "divide long" ((sz W a : Nat) : Int) ((sz W b : Nat) : Int)).enter "lift" ((sz W b : Nat) : Int) ((shr_ W b : Nat) : Int)).enter "lift" ((sz W a : Nat) : Int) ((shr_ W b : Nat) : Int) |>.enter "lower" ((sz W b : Nat) : Int) ((shr_ W b : Nat) : Int)).wk := rfl
    rw [k1, en, en, en, en]
    · unfold longWay
      simp only [List.append_assoc]
      rfl
    · omega
    · rw [en (by omega), List.length_append]; show _ + 1 < 1000; omega
    · rw [en, en (by omega), List.length_append, List.length_append]
      · show _ + 1 + 1 < 1000; omega
      · rw [en (by omega), List.length_append]; show _ + 1 < 1000; omega
    · rw [en, en, en (by omega), List.length_append, List.length_append, List.length_append]
      · show _ + 1 + 1 + 1 < 1000; omega
      · rw [en (by omega), List.length_append]; show _ + 1 < 1000; omega
      · rw [en, en (by omega), List.length_append, List.length_append]
        · show _ + 1 + 1 < 1000; omega
        · rw [en (by omega), List.length_append]; show _ + 1 < 1000; omega
  · intro v
    unfold longDue
    rw [dgv_cons, dgv_cons, dgv_cons, dgv_cons, dgv_cons, dgv_cons, dgv_nil]
    unfold longS lowerS cntS liftS
    simp only [MS.step, MS.enter]
    by_cases h1 : v = "shifted"
    · subst h1; simp (decide := true) only [if_true, if_false]; omega
    · by_cases h2 : v = "quotient"
      · subst h2; simp (decide := true) only [if_true, if_false]
      · by_cases h3 : v = "product"
        · subst h3; simp (decide := true) only [if_true, if_false]
        · by_cases h4 : v = "restored"
          · subst h4; simp (decide := true) only [if_true, if_false]
          · by_cases h5 : v = "corrected"
            · subst h5; simp (decide := true) only [if_true, if_false]
            · by_cases h6 : v = "sum"
              · subst h6; simp (decide := true) only [if_true, if_false]
              · simp only [h1, h2, h3, h4, h5, h6, if_false, Int.add_zero]
theorem dbl_loop {l : List (Str × Int)} (hd : (l.map (·.1)).Nodup) : ∀ {r : List (Str × Int)}, (∀ x ∈ r, x ∈ l) →
    lcM (fun (a10 : Str) (s9 : Unit) => (l.lookup a10).bind fun z11 => (chkP (IntMulOk (2 : Int) z11)).bind fun z12 => some (some (a10, ((2 : Int) * z11)), ())) (r.map (·.1)) () = some (r.map (fun p => (p.1, 2 * p.2)), ())
  | [], _ => rfl
  | x :: r, h => by
    have e := lookup_of hd (h x List.mem_cons_self)
    have ih := dbl_loop hd (r := r) fun y hy => h y (List.mem_cons_of_mem _ hy)
    rw [List.map_cons]
    show (Option.bind _ _).bind _ = _
    rw [e, Option.bind_some, chkP_eq (mul_small (by decide)), Option.bind_some, Option.bind_some]
    show (lcM _ _ _).bind _ = _
    rw [ih]
    rfl
theorem nz_dbl {f g : Str → Int} (h : ∀ v, g v = 2 * f v) : ∀ ws : List Str, nz (ws.map fun w => (w, g w)) = (nz (ws.map fun w => (w, f w))).map fun p => (p.1, 2 * p.2)
  | [] => rfl
  | w :: r => by
    have ih := nz_dbl h r
    unfold nz at *
    rw [List.map_cons, List.map_cons, List.filter_cons, List.filter_cons, ih, h w]
    by_cases q : f w = 0
    · rw [if_neg (by rw [q]; simp), if_neg (by rw [q]; simp)]
    · rw [if_pos (by rw [decide_eq_false (show ¬ 2 * f w = 0 by omega)]; rfl), if_pos (by rw [decide_eq_false q]; rfl)]
      rfl
theorem doubled_ok {S1 S2 : MS} (hc : ∀ v, S2.cnt v = 2 * S1.cnt v) (hw : S2.wk = S1.wk ++ S1.wk) (hl : S1.wk.length ≤ 10) (hk : WkOk S1.wk) : M__law_doubled S2 (DF.mk (nz S1.tally)) S1.wk = some true := by
  have nd := nz_nd (tally_keys S1)
  have nd2 : (((nz S1.tally).map fun p => (p.1, 2 * p.2)).map (·.1)).Nodup := by
    rw [List.map_map]
    exact nd
  have hk2 : WkOk (S1.wk ++ S1.wk) := fun x hx => by
    rcases List.mem_append.mp hx with e | e <;> exact hk x e
  have er : (List.replicate ((2 : Int)).toNat S1.wk).flatten = S1.wk ++ S1.wk := by
    show [S1.wk, S1.wk].flatten = _
    simp
  unfold M__law_doubled
  refine bnd_of (chkP_eq (size_le (m := 10) (by rw [tally_len]; omega) (by decide))) ?_
  refine bnd_of (nz_loop _) ?_
  refine bnd_of (chkP_eq (nz_nd (tally_keys S2))) ?_
  refine bnd_of rfl ?_
  refine bnd_of (chkP_eq (size_le (m := 10) (by
    rw [List.length_map]
    exact Nat.le_trans (List.length_filter_le _ _) (by rw [tally_len]; omega)) (by decide))) ?_
  refine bnd_of (dbl_loop nd fun x hx => hx) ?_
  refine bnd_of (chkP_eq nd2) ?_
  refine bnd_of (chkP_eq (show sameD (nz S2.tally) ((nz S1.tally).map fun p => (p.1, 2 * p.2)) from by
    rw [show nz S2.tally = (nz S1.tally).map fun p => (p.1, 2 * p.2) from nz_dbl hc mwords]
    exact same_self nd2)) ?_
  refine bnd_of (chkP_eq rfl) ?_
  refine bnd_of (chkP_eq ⟨by decide, Nat.le_trans (Nat.mul_le_mul_right _ hl) (by decide)⟩) ?_
  rw [er, hw]
  refine bnd_of (chkP_eq ⟨wkok_dat hk2, wkok_dat hk2⟩) ?_
  exact bnd_of (chkP_eq (eqD_iff.mpr rfl)) rfl
/-! what a shift counts -/
def wsS (W : Nat) (s : Int) : Nat := s.toNat / W
def lwS (W : Nat) (s : Int) : Nat := s.toNat % W
/-- whether digits are looked at one by one -/
def lkS (W a : Nat) (s : Int) : Prop := 0 < s ∧ a / 2 ^ (W * wsS W s) % 2 ^ lwS W s = 0 ∧ 0 < wsS W s
instance (W a : Nat) (s : Int) : Decidable (lkS W a s) := inferInstanceAs (Decidable (_ ∧ _ ∧ _))
def shA (W a : Nat) (s : Int) : Int := if s ≤ 0 then ((sz W a : Nat) : Int) else ((sz W a : Nat) : Int) - ((wsS W s : Nat) : Int)
def lkA (W a : Nat) (s : Int) : Int := ((wsS W s : Nat) : Int) - ((sz W (a % 2 ^ (W * wsS W s)) - 1 : Nat) : Int)
def sDue (W a : Nat) (s : Int) : List (Str × Int) := if lkS W a s then [("shifted", shA W a s), ("looked", lkA W a s)] else [("shifted", shA W a s)]
def sWay (W a : Nat) (s : Int) : List (T3 Str Int Int) := if s ≤ 0 then [T3.mk "lift" ((sz W a : Nat) : Int) (((-s).toNat % W : Nat) : Int)] else [T3.mk "lower" (((sz W a : Nat) : Int) - ((wsS W s : Nat) : Int)) ((lwS W s : Nat) : Int)]
theorem dig_low {W n ws k : Nat} (h : k + 1 < ws) (hl : sz W (n % 2 ^ (W * ws)) ≤ k + 2) (hw : W ≠ 0) : n / 2 ^ (W * (k + 1)) % 2 ^ W = n % 2 ^ (W * ws) / 2 ^ (W * (k + 1)) := by
  have e : W * ws = W * (k + 1) + W * (ws - (k + 1)) := by rw [← Nat.mul_add]; congr 1; omega
  have h1 : n % 2 ^ (W * ws) / 2 ^ (W * (k + 1)) = n / 2 ^ (W * (k + 1)) % 2 ^ (W * (ws - (k + 1))) := by
    rw [e, Nat.pow_add]; exact Nat.mod_mul_right_div_self _ _ _
  have h2 : n % 2 ^ (W * ws) / 2 ^ (W * (k + 1)) < 2 ^ W := by
    refine Nat.div_lt_of_lt_mul ?_
    rw [← Nat.pow_add]
    have := (sz_le hw).mp hl
    rwa [show W * (k + 2) = W * (k + 1) + W by rw [show k + 2 = k + 1 + 1 from rfl, Nat.mul_succ W (k + 1)]] at this
  rw [← Nat.mod_eq_of_lt h2, h1]
  refine (Nat.mod_mod_of_dvd _ (Nat.pow_dvd_pow 2 ?_)).symm
  exact Nat.le_mul_of_pos_right W (by omega)
theorem look_loop {W n ws : Nat} (h8 : 8 ≤ W) (h30 : W ≤ 30) (hws : ws ≤ 100000) : ∀ (k : Nat), k < ws → sz W (n % 2 ^ (W * ws)) ≤ k + 1 →
    whileM (ρ := Unit) (fun (s17 : Int) => (if (decide ((0 : Int) < s17)) = true then (chkP (IntMulOk (W : Int) s17)).bind fun z18 => (chkP (0 ≤ ((W : Int) * s17))).bind fun z19 => (chkP (CShl (1 : Int) (W : Int))).bind fun z20 => some (decide ((Builtin.bitAnd ((n : Int) / 2 ^ (((W : Int) * s17)).toNat) (((1 : Int) * 2 ^ ((W : Int)).toNat) - (1 : Int))) = (0 : Int))) else some false).bind fun z21 => some z21) (fun (s17 : Int) => (some (s17 - (1 : Int))).bind fun y23 => some (Stp.nx y23)) (k + 1) (k : Int) = some (.nx ((sz W (n % 2 ^ (W * ws)) - 1 : Nat) : Int))
  | 0, _, h2 => by
    rw [whileM_f (by rfl), show sz W (n % 2 ^ (W * ws)) - 1 = 0 by omega]
    try rfl
  | k + 1, h1, h2 => by
    have hw : W ≠ 0 := by omega
    have hc : ((if (decide ((0 : Int) < ((k + 1 : Nat) : Int))) = true then (chkP (IntMulOk (W : Int) ((k + 1 : Nat) : Int))).bind fun z18 => (chkP (0 ≤ ((W : Int) * ((k + 1 : Nat) : Int)))).bind fun z19 => (chkP (CShl (1 : Int) (W : Int))).bind fun z20 => some (decide ((Builtin.bitAnd ((n : Int) / 2 ^ (((W : Int) * ((k + 1 : Nat) : Int))).toNat) (((1 : Int) * 2 ^ ((W : Int)).toNat) - (1 : Int))) = (0 : Int))) else some false).bind fun z21 => some z21) = some (decide (n % 2 ^ (W * ws) / 2 ^ (W * (k + 1)) = 0)) := by
      rw [if_pos (decide_eq_true (by omega))]
      refine bnd_of (a := decide (n % 2 ^ (W * ws) / 2 ^ (W * (k + 1)) = 0)) ?_ rfl
      refine bnd_of (chkP_eq (mul_l (by omega) (by omega))) ?_
      rw [← Int.natCast_mul]
      refine bnd_of (chkP_eq (by omega)) ?_
      refine bnd_of (chkP_eq (shl_ok (k := 1) (by decide) (by omega) (by omega))) ?_
      rw [Int.toNat_natCast, Int.toNat_natCast, p2, div_nat, Int.one_mul, p2, ← Int.natCast_one, ← Int.ofNat_sub (Nat.two_pow_pos _), and_low, p2, ← Int.natCast_emod, dig_low (by omega) h2 hw]
      congr 1
      exact decide_eq_decide.mpr (by omega)
    by_cases z : n % 2 ^ (W * ws) / 2 ^ (W * (k + 1)) = 0
    · have hlt : n % 2 ^ (W * ws) < 2 ^ (W * (k + 1)) := by
        rcases (Nat.div_eq_zero_iff).mp z with q | q
        · have := Nat.two_pow_pos (W * (k + 1)); omega
        · exact q
      rw [whileM_t (s' := (k : Int)) (hc.trans (congrArg some (decide_eq_true z))) (by show some (Stp.nx (((k + 1 : Nat) : Int) - 1)) = _; rw [show ((k + 1 : Nat) : Int) - 1 = (k : Int) by omega])]
      exact look_loop h8 h30 hws k (by omega) ((sz_le hw).mpr hlt)
    · have hge : ¬ sz W (n % 2 ^ (W * ws)) ≤ k + 1 := fun q => z (Nat.div_eq_of_lt ((sz_le hw).mp q))
      refine Eq.trans (whileM_f ?_) ?_
      · exact hc.trans (congrArg some (decide_eq_false z))
      · rw [show sz W (n % 2 ^ (W * ws)) - 1 = k + 1 by omega]
theorem shifted_law {W a : Nat} {s : Int} (h8 : 8 ≤ W) (h30 : W ≤ 30) (hb : bl a ≤ 20000) (s1 : -100000 ≤ s) (s2 : s ≤ 100000) : M__law_shifted (a : Int) s (W : Int) = some (T3.mk ((mv a s : Nat) : Int) (DF.mk (sDue W a s)) (LF.mk (sWay W a s))) := by
  have hw : W ≠ 0 := by omega
  unfold M__law_shifted
  refine bnd_of (row_law h8 h30 (Nat.lt_of_lt_of_le (bl_lt a) (Nat.pow_le_pow_right (by decide) (by omega)))) ?_
  refine bnd_of (a := ((sz W a : Nat) : Int)) (by rw [dg_size hw]) ?_
  refine bnd_of (chkP_eq ⟨by omega, by
    have : W.log2 < 9000 := (Nat.log2_lt (by omega)).mpr (Nat.lt_of_le_of_lt h30 (Nat.lt_of_lt_of_le (by decide : 30 < 2 ^ 5) (Nat.pow_le_pow_right (by decide) (by decide))))
    exact this⟩) ?_
  refine bnd_of (chkP_eq (by omega)) ?_
  refine bnd_of rfl (bnd_of rfl ?_)
  rw [← Int.natCast_ediv, ← Int.natCast_emod]
  unfold sDue sWay shA mv
  by_cases c1 : s ≤ 0
  · have hl : ¬ lkS W a s := fun z => by have := z.1; omega
    rw [if_pos (decide_eq_true c1), if_neg hl, if_pos c1, if_pos c1]
    refine bnd_of (chkP_eq (shl_ok (k := bl a) (by rw [Int.natAbs_natCast]; exact bl_lt a) (by omega) (by omega))) ?_
    refine bnd_of (chkP_eq (by simp)) ?_
    rw [Int.toNat_natCast, p2, ← Int.natCast_mul, show s.natAbs = (-s).toNat by omega, show s.toNat = 0 by omega, Nat.pow_zero, Nat.div_one]
  rw [if_neg (by rw [decide_eq_true_iff]; exact c1), if_neg c1, if_neg c1]
  obtain ⟨t, rfl⟩ := Int.eq_ofNat_of_zero_le (a := s) (by omega)
  have hws : wsS W (t : Int) = t / W := rfl
  have hlw : lwS W (t : Int) = t % W := rfl
  have na : ((t : Int)).natAbs = t := Int.natAbs_natCast t
  rw [na, ← hws, ← hlw]
  have hw1 : wsS W (t : Int) ≤ 100000 := by rw [hws]; exact Nat.le_trans (Nat.div_le_self _ _) (by omega)
  have hl1 : lwS W (t : Int) < W := by rw [hlw]; exact Nat.mod_lt _ (by omega)
  refine bnd_of (chkP_eq (by simp)) ?_
  refine bnd_of rfl ?_
  refine bnd_of (chkP_eq (mul_l (by omega) (by omega))) ?_
  rw [← Int.natCast_mul]
  refine bnd_of (chkP_eq (by omega)) ?_
  refine bnd_of (chkP_eq (shl_ok (k := 1) (by decide) (by omega) (by omega))) ?_
  have e2 : Builtin.bitAnd ((a : Int) / 2 ^ (((W * wsS W (t : Int) : Nat) : Int)).toNat) ((1 : Int) * 2 ^ (((lwS W (t : Int) : Nat) : Int)).toNat - 1) = ((a / 2 ^ (W * wsS W (t : Int)) % 2 ^ lwS W (t : Int) : Nat) : Int) := by
    rw [Int.toNat_natCast, Int.toNat_natCast, p2, div_nat, Int.one_mul, p2, ← Int.natCast_one, ← Int.ofNat_sub (Nat.two_pow_pos _), and_low, p2, ← Int.natCast_emod]
  rw [e2]
  refine bnd_of (a := sDue W a (t : Int)) ?_ ?_
  · unfold sDue shA
    rw [if_neg c1]
    by_cases c3 : lkS W a (t : Int)
    · rw [if_pos (by rw [Bool.and_eq_true, decide_eq_true_iff, decide_eq_true_iff]; have := c3.2; omega), if_pos c3]
      have c4 : 0 < wsS W (t : Int) := c3.2.2
      refine bnd_of rfl ?_
      rw [show ((wsS W (t : Int) : Nat) : Int) - 1 = ((wsS W (t : Int) - 1 : Nat) : Int) by omega, Int.toNat_natCast]
      refine bnd_of (look_loop (ws := wsS W (t : Int)) h8 h30 (by omega) (wsS W (t : Int) - 1) (by omega) ((sz_le hw).mpr ?_)) ?_
      · rw [show wsS W (t : Int) - 1 + 1 = wsS W (t : Int) by omega]
        exact Nat.mod_lt _ (Nat.two_pow_pos _)
      · refine bnd_of rfl ?_
        refine bnd_of (chkP_eq (size_lt (m := 1) (Nat.le_refl _) (by decide))) ?_
        rfl
    · rw [if_neg (by rw [Bool.and_eq_true, decide_eq_true_iff, decide_eq_true_iff]; exact fun z => c3 ⟨by omega, by omega, by omega⟩), if_neg c3]
  · refine bnd_of (chkP_eq (by omega)) ?_
    rw [Int.toNat_natCast, p2, div_nat, show (-(t : Int)).toNat = 0 by omega, Nat.pow_zero, Nat.mul_one]
    unfold sDue shA
    rw [if_neg c1]
theorem mov_eff {W : Nat} (h8 : 8 ≤ W) {S : MS} {a : Nat} {s : Int} (hl : S.wk.length ≤ 900) : (∀ v, (movS W S a s).cnt v = S.cnt v + dgv (sDue W a s) v) ∧ (movS W S a s).wk = S.wk ++ sWay W a s := by
  have hw : W ≠ 0 := by omega
  unfold movS sDue sWay shA
  by_cases c1 : s ≤ 0
  · have hk : ¬ lkS W a s := fun z => by have := z.1; omega
    rw [if_pos c1, if_neg hk, if_pos c1, if_pos c1]
    refine ⟨fun v => ?_, wk_enter (by omega)⟩
    rw [dgv_cons, dgv_nil]
    show (if v = "shifted" then S.cnt v + ((sz W a : Nat) : Int) else S.cnt v) = _
    split <;> omega
  · rw [if_neg c1, if_neg c1, if_neg c1]
    rw [Nat.mul_comm (s.toNat / W) W]
    rw [show s.toNat / W = wsS W s from rfl, show s.toNat % W = lwS W s from rfl]
    have wkE : (S.enter "lower" (((sz W a : Nat) : Int) - ((wsS W s : Nat) : Int)) ((lwS W s : Nat) : Int)).wk = S.wk ++ [T3.mk ("lower" : Str) (((sz W a : Nat) : Int) - ((wsS W s : Nat) : Int)) ((lwS W s : Nat) : Int)] := wk_enter (by omega)
    by_cases c3 : a / 2 ^ (W * wsS W s) % 2 ^ lwS W s = 0
    · rw [if_pos c3]
      refine ⟨fun v => ?_, wkE⟩
      show (if v = "looked" then (if v = "shifted" then S.cnt v + (((sz W a : Nat) : Int) - ((wsS W s : Nat) : Int)) else S.cnt v) + min (((wsS W s : Nat) : Int) - ((sz W (a % 2 ^ (W * wsS W s)) : Nat) : Int) + 1) ((wsS W s : Nat) : Int) else (if v = "shifted" then S.cnt v + (((sz W a : Nat) : Int) - ((wsS W s : Nat) : Int)) else S.cnt v)) = _
      have hz : sz W (a % 2 ^ (W * wsS W s)) ≤ wsS W s := (sz_le hw).mpr (Nat.mod_lt _ (Nat.two_pow_pos _))
      by_cases c4 : 0 < wsS W s
      · have hc : lkS W a s := ⟨by omega, c3, c4⟩
        rw [if_pos hc, dgv_cons, dgv_cons, dgv_nil]
        unfold lkA
        by_cases q : v = "looked"
        · subst q
          rw [if_pos rfl, if_neg (by decide), if_neg (by decide), if_pos rfl]
          omega
        · rw [if_neg q, if_neg q]
          split <;> omega
      · have hc : ¬ lkS W a s := fun z => c4 z.2.2
        rw [if_neg hc, dgv_cons, dgv_nil]
        have : wsS W s = 0 := by omega
        rw [this] at hz ⊢
        by_cases q : v = "looked"
        · subst q
          rw [if_pos rfl, if_neg (by decide), if_neg (by decide)]
          omega
        · rw [if_neg q]
          split <;> omega
    · rw [if_neg c3, if_neg (fun z => c3 z.2.1)]
      refine ⟨fun v => ?_, wkE⟩
      rw [dgv_cons, dgv_nil]
      show (if v = "shifted" then S.cnt v + (((sz W a : Nat) : Int) - ((wsS W s : Nat) : Int)) else S.cnt v) = _
      split <;> omega
/-! what a true quotient counts -/
def lookd (W a : Nat) (s : Int) : Int := if lkS W a s then lkA W a s else 0
def tMore (W a b : Nat) : List (Str × Int) := [("quotient", ((longL W a b).length : Int)), ("product", ((longL W a b).length : Int) * ((sz W b : Nat) : Int)), ("restored", (((longL W a b).filter fun s => s.c).length : Int)), ("corrected", ((longL W a b).map fun s => s.b).sum), ("sum", (((longL W a b).filter fun s => s.c).length : Int) * ((sz W b : Nat) : Int))]
def tDue (W a b : Nat) : List (Str × Int) :=
  if a = 0 then [] else if max (bl a) (bl b) ≤ 53 then [("short", 1)]
  else if (bl a : Int) - bl b < -1075 then []
  else if sz W b = 1 then sDue W a (shN a b) ++ ([("quotient", ((sz W (mv a (shN a b)) : Nat) : Int))] : List (Str × Int))
  else ("shifted", ((sz W (mv a (shN a b)) : Nat) : Int) + 2 * ((sz W b : Nat) : Int) + shA W a (shN a b)) :: (tMore W (mv a (shN a b)) b ++ ([("looked", lookd W a (shN a b))] : List (Str × Int)))
def tWay (W a b : Nat) : List (T3 Str Int Int) :=
  if a = 0 then [] else if max (bl a) (bl b) ≤ 53 then []
  else if (bl a : Int) - bl b < -1075 then []
  else if sz W b = 1 then T3.mk "ratio" ((sz W a : Nat) : Int) ((sz W b : Nat) : Int) :: (sWay W a (shN a b) ++ ([T3.mk "divide short" ((sz W (mv a (shN a b)) : Nat) : Int) 1] : List (T3 Str Int Int)))
  else T3.mk "ratio" ((sz W a : Nat) : Int) ((sz W b : Nat) : Int) :: (sWay W a (shN a b) ++ longWay W (mv a (shN a b)) b)
theorem sWay_len (W a : Nat) (s : Int) : (sWay W a s).length = 1 := by unfold sWay; split <;> rfl
theorem sDue_len (W a : Nat) (s : Int) : (sDue W a s).length ≤ 2 := by unfold sDue; split; exact Nat.le_refl 2; exact Nat.le_succ 1
theorem sDue_shifted (W a : Nat) (s : Int) : (sDue W a s).lookup ("shifted" : Str) = some (shA W a s) := by unfold sDue; split <;> rfl
theorem sDue_looked (W a : Nat) (s : Int) : ((sDue W a s).lookup ("looked" : Str)).getD 0 = lookd W a s := by unfold sDue lookd; split <;> rfl
theorem sDue_put (W a : Nat) (s n : Int) : dput (sDue W a s) "quotient" n = sDue W a s ++ ([("quotient", n)] : List (Str × Int)) := by unfold sDue; split <;> rfl
theorem due_law {W a b : Nat} (h8 : 8 ≤ W) (h30 : W ≤ 30) (hb0 : 0 < b) (ha : bl a ≤ 20000) (hb : bl b ≤ 20000) : M__law_due (a : Int) (b : Int) (W : Int) = some (DF.mk (tDue W a b), LF.mk (tWay W a b)) := by
  have hw : W ≠ 0 := by omega
  unfold M__law_due tDue tWay
  by_cases z : a = 0
  · subst z
    rw [if_pos (decide_eq_true (show ((0 : Nat) : Int) = 0 from rfl)), if_pos rfl, if_pos rfl]
  rw [if_neg (by rw [decide_eq_true_iff]; omega), if_neg z, if_neg z, intBits_nat, intBits_nat]
  by_cases c1 : max (bl a) (bl b) ≤ 53
  · rw [if_pos (decide_eq_true (by omega)), if_pos c1, if_pos c1]
    exact bnd_of (chkP_eq (by decide +kernel)) rfl
  rw [if_neg (by rw [decide_eq_true_iff]; omega), if_neg c1, if_neg c1]
  refine bnd_of rfl ?_
  by_cases c2 : (bl a : Int) - bl b < -1075
  · rw [if_pos (decide_eq_true (by omega)), if_pos c2, if_pos c2]
  rw [if_neg (by rw [decide_eq_true_iff]; omega), if_neg c2, if_neg c2]
  have s1 : -1076 ≤ shN a b := by unfold shN; omega
  have s2 : shN a b ≤ 20000 := by unfold shN; omega
  have hge := mv_ge (Nat.pos_of_ne_zero z) hb0 c2
  have hmv : mv a (shN a b) < 2 ^ 25000 := Nat.lt_of_lt_of_le mv_lt (Nat.pow_le_pow_right (by decide) (by omega))
  have e0 : max ((bl a : Int) - bl b) ((0 : Int) - (1021 : Int)) - (55 : Int) = shN a b := rfl
  rw [e0]
  refine bnd_of (shifted_law h8 h30 ha (by omega) (by omega)) ?_
  refine bnd_of (row_law h8 h30 (Nat.lt_of_lt_of_le (bl_lt a) (Nat.pow_le_pow_right (by decide) (by omega)))) ?_
  have rb := row_law h8 h30 (n := b) (Nat.lt_of_lt_of_le (bl_lt b) (Nat.pow_le_pow_right (by decide) (by omega)))
  refine bnd_of rb ?_
  rw [dg_size hw, dg_size hw]
  refine bnd_of (chkP_eq (size_le (m := 10) (by show 1 + (sWay W a (shN a b)).length ≤ 10; rw [sWay_len]; decide) (by decide))) ?_
  refine bnd_of rfl ?_
  refine bnd_of (row_law h8 h30 (Nat.lt_of_lt_of_le hmv (Nat.pow_le_pow_right (by decide) (by decide)))) ?_
  refine bnd_of (a := ((sz W (mv a (shN a b)) : Nat) : Int)) (by rw [dg_size hw]) ?_
  refine bnd_of rb ?_
  rw [dg_size hw]
  by_cases c3 : sz W b = 1
  · rw [if_pos (decide_eq_true (by omega)), if_pos c3, if_pos c3]
    refine bnd_of (chkP_eq (size_lt (m := 2) (sDue_len _ _ _) (by decide))) ?_
    refine bnd_of (chkP_eq (size_le (m := 10) (by rw [List.length_append]; show 1 + (sWay W a (shN a b)).length + 1 ≤ 10; rw [sWay_len]; decide) (by decide))) ?_
    show some (DF.mk (dput (sDue W a (shN a b)) "quotient" _), _) = _
    rw [sDue_put]
    rfl
  · rw [if_neg (by rw [decide_eq_true_iff]; omega), if_neg c3, if_neg c3]
    have hb1 : 1 < sz W b := by
      have : sz W b ≠ 0 := fun q => by have := (sz_zero hw).mp q; omega
      omega
    have hab : sz W b ≤ sz W (mv a (shN a b)) := (sz_le hw).mpr (Nat.lt_of_le_of_lt hge ((sz_le hw).mp (Nat.le_refl _)))
    refine bnd_of (law_counts_ok h8 h30 hb1 hab hmv) ?_
    refine bnd_of (a := ((sz W (mv a (shN a b)) : Nat) : Int) + 2 * ((sz W b : Nat) : Int)) rfl ?_
    refine bnd_of (sDue_shifted _ _ _) ?_
    refine bnd_of (chkP_eq (size_lt (m := 6) (by show 6 ≤ 6; decide) (by decide))) ?_
    refine bnd_of (chkP_eq (size_lt (m := 6) (by show 6 ≤ 6; decide) (by decide))) ?_
    refine bnd_of (chkP_eq (size_le (m := 10) (by rw [List.length_append]; show 1 + (sWay W a (shN a b)).length + 4 ≤ 10; rw [sWay_len]; decide) (by decide))) ?_
    show some (DF.mk (dput _ "looked" (((sDue W a (shN a b)).lookup ("looked" : Str)).getD 0)), _) = _
    rw [sDue_looked]
    rfl
theorem tkeys {l : List (Str × Int)} {ks : List Str} (hk : l.map (·.1) = ks) (hn : ks.Nodup) (hm : ∀ k ∈ ks, k ∈ mwords) (hl : ks.length ≤ 100) : (l.map (·.1)).Nodup ∧ (∀ x ∈ l, x.1 ∈ mwords) ∧ l.length ≤ 100 := by
  subst hk
  refine ⟨hn, fun x hx => hm _ (List.mem_map_of_mem hx), ?_⟩
  rwa [List.length_map] at hl
theorem tDue_ok (W a b : Nat) : ((tDue W a b).map (·.1)).Nodup ∧ (∀ x ∈ tDue W a b, x.1 ∈ mwords) ∧ (tDue W a b).length ≤ 100 := by
  have h0 : ((([] : List (Str × Int))).map (·.1)).Nodup ∧ (∀ x ∈ ([] : List (Str × Int)), x.1 ∈ mwords) ∧ ([] : List (Str × Int)).length ≤ 100 := by
    refine ⟨List.nodup_nil, ?_, Nat.zero_le _⟩
    intro x hx
    exact absurd hx List.not_mem_nil
  unfold tDue
  split
  · exact h0
  split
  · exact tkeys (ks := ["short"]) rfl (by decide +kernel) (by decide +kernel) (by decide)
  split
  · exact h0
  split
  · unfold sDue
    split
    · exact tkeys (ks := ["shifted", "looked", "quotient"]) rfl (by decide +kernel) (by decide +kernel) (by decide)
    · exact tkeys (ks := ["shifted", "quotient"]) rfl (by decide +kernel) (by decide +kernel) (by decide)
  · exact tkeys (ks := ["shifted", "quotient", "product", "restored", "corrected", "sum", "looked"]) rfl (by decide +kernel) (by decide +kernel) (by decide)
theorem tWay_ok (W a b : Nat) : WkOk (tWay W a b) ∧ (tWay W a b).length ≤ 6 := by
  have h0 : WkOk ([] : List (T3 Str Int Int)) ∧ ([] : List (T3 Str Int Int)).length ≤ 6 := ⟨wkok_nil, by decide⟩
  have hs : WkOk (sWay W a (shN a b)) := by
    unfold sWay
    split
    · exact wkok_one (by decide +kernel)
    · exact wkok_one (by decide +kernel)
  have cat : ∀ {x : T3 Str Int Int} {l r : List (T3 Str Int Int)}, (PyData.str x.a).canLay0 = true → WkOk l → WkOk r → WkOk (x :: (l ++ r)) := fun hx hl hr y hy => by
    rcases List.mem_cons.mp hy with e | e
    · rw [e]; exact hx
    · rcases List.mem_append.mp e with q | q
      · exact hl y q
      · exact hr y q
  unfold tWay
  split
  · exact h0
  split
  · exact h0
  split
  · exact h0
  split
  · refine ⟨cat (show (PyData.str "ratio").canLay0 = true by decide +kernel) hs (wkok_one (show (PyData.str "divide short").canLay0 = true by decide +kernel)), ?_⟩
    show (sWay W a (shN a b) ++ [_]).length + 1 ≤ 6
    rw [List.length_append, sWay_len]
    show 1 + 1 + 1 ≤ 6
    decide
  · refine ⟨cat (show (PyData.str "ratio").canLay0 = true by decide +kernel) hs ?_, ?_⟩
    · intro y hy
      unfold longWay at hy
      simp only [List.mem_cons, List.not_mem_nil, or_false] at hy
      rcases hy with e | e | e | e
      · rw [e]; show (PyData.str "divide long").canLay0 = true; decide +kernel
      · rw [e]; show (PyData.str "lift").canLay0 = true; decide +kernel
      · rw [e]; show (PyData.str "lift").canLay0 = true; decide +kernel
      · rw [e]; show (PyData.str "lower").canLay0 = true; decide +kernel
    · show (sWay W a (shN a b) ++ longWay W (mv a (shN a b)) b).length + 1 ≤ 6
      rw [List.length_append, sWay_len]
      show 1 + 4 + 1 ≤ 6
      decide
theorem rat_eff {W : Nat} (h8 : 8 ≤ W) {S : MS} {a b : Nat} (ha : a ≠ 0) (hl : S.wk.length ≤ 100) : (∀ v, (ratS W S a b).cnt v = S.cnt v + dgv (tDue W a b) v) ∧ (ratS W S a b).wk = S.wk ++ tWay W a b := by
  have hw : W ≠ 0 := by omega
  unfold ratS tDue tWay
  rw [if_neg ha, if_neg ha]
  by_cases c1 : max (bl a) (bl b) ≤ 53
  · rw [if_pos c1, if_pos c1, if_pos c1]
    refine ⟨fun v => ?_, (List.append_nil _).symm⟩
    rw [dgv_cons, dgv_nil]
    show (if v = "short" then S.cnt v + 1 else S.cnt v) = _
    split <;> omega
  rw [if_neg c1, if_neg c1, if_neg c1]
  by_cases c2 : (bl a : Int) - bl b < -1075
  · rw [if_pos c2, if_pos c2, if_pos c2]
    exact ⟨fun v => by rw [dgv_nil]; omega, (List.append_nil _).symm⟩
  rw [if_neg c2, if_neg c2, if_neg c2]
  have hS1 : (S.enter "ratio" ((sz W a : Nat) : Int) ((sz W b : Nat) : Int)).wk = S.wk ++ [T3.mk ("ratio" : Str) ((sz W a : Nat) : Int) ((sz W b : Nat) : Int)] := wk_enter (by omega)
  obtain ⟨m1, m2⟩ := mov_eff h8 (S := S.enter "ratio" ((sz W a : Nat) : Int) ((sz W b : Nat) : Int)) (a := a) (s := shN a b) (by rw [hS1, List.length_append]; show _ + 1 ≤ 900; omega)
  rw [hS1] at m2
  have hlen : (movS W (S.enter "ratio" ((sz W a : Nat) : Int) ((sz W b : Nat) : Int)) a (shN a b)).wk.length ≤ 102 := by
    rw [m2, List.length_append, List.length_append, sWay_len]
    show _ + 1 + 1 ≤ 102
    omega
  have m1 : ∀ v, (movS W (S.enter "ratio" ((sz W a : Nat) : Int) ((sz W b : Nat) : Int)) a (shN a b)).cnt v = S.cnt v + dgv (sDue W a (shN a b)) v := m1
  generalize movS W (S.enter "ratio" ((sz W a : Nat) : Int) ((sz W b : Nat) : Int)) a (shN a b) = M at *
  generalize mv a (shN a b) = q at *
  by_cases c3 : sz W b = 1
  · rw [if_pos c3, if_pos c3, if_pos c3]
    refine ⟨fun v => ?_, ?_⟩
    · show (if v = "quotient" then M.cnt v + ((sz W q : Nat) : Int) else M.cnt v) = _
      rw [m1 v]
      unfold sDue
      by_cases hk : lkS W a (shN a b)
      · rw [if_pos hk, List.cons_append, List.cons_append, List.nil_append, dgv_cons, dgv_cons, dgv_cons, dgv_cons, dgv_cons, dgv_nil]
        by_cases e1 : v = "shifted"
        · subst e1; simp (decide := true) only [if_true, if_false]
        · by_cases e2 : v = "looked"
          · subst e2; simp (decide := true) only [if_true, if_false]
          · rw [if_neg e1, if_neg e2, if_neg e1, if_neg e2]
            split <;> omega
      · rw [if_neg hk, List.cons_append, List.nil_append, dgv_cons, dgv_cons, dgv_cons, dgv_nil]
        by_cases e1 : v = "shifted"
        · subst e1; simp (decide := true) only [if_true, if_false]
        · rw [if_neg e1, if_neg e1]
          split <;> omega
    · show ((M.enter "divide short" ((sz W q : Nat) : Int) 1)).wk = _
      rw [wk_enter (by omega), m2]
      simp only [List.append_assoc, List.cons_append, List.nil_append]
  · rw [if_neg c3, if_neg c3, if_neg c3]
    obtain ⟨l1, l2⟩ := longS_add (W := W) (a := q) (b := b) (S := M) (by omega)
    refine ⟨fun v => ?_, ?_⟩
    · rw [l2 v, m1 v]
      unfold tMore longDue lookd
      simp only [List.cons_append, List.nil_append, dgv_cons, dgv_nil]
      generalize ((longL W q b).length : Int) = x1
      generalize (((longL W q b).filter fun s => s.c).length : Int) = x2
      generalize ((longL W q b).map fun s => s.b).sum = x3
      unfold sDue
      by_cases hk : lkS W a (shN a b)
      · simp only [if_pos hk, dgv_cons, dgv_nil]
        by_cases e1 : v = "shifted"
        · subst e1; simp (decide := true) only [if_true, if_false]; omega
        · by_cases e2 : v = "looked"
          · subst e2; simp (decide := true) only [if_true, if_false]; omega
          · simp only [if_neg e1, if_neg e2]
            omega
      · simp only [if_neg hk, dgv_cons, dgv_nil]
        by_cases e1 : v = "shifted"
        · subst e1; simp (decide := true) only [if_true, if_false]; omega
        · simp only [if_neg e1]
          by_cases e2 : v = "looked"
          · subst e2; simp (decide := true) only [if_true, if_false]; omega
          · simp only [if_neg e2]
            omega
    · rw [l1, m2]
      simp only [List.append_assoc, List.cons_append, List.nil_append]
theorem ratS_w {W : Nat} {S : MS} {a b : Nat} : (ratS W S a b).w = S.w := by
  unfold ratS
  split
  · rfl
  · split
    · rfl
    · split
      · show (movS W _ _ _).w = _
        exact movS_w
      · exact longS_w.trans movS_w
theorem bl11 {x : Int} (h : x.natAbs < 2 ^ 11000) : bl x.natAbs ≤ 20000 := Nat.le_trans (bl_le.mpr h) (by decide)
theorem sz11 {W : Nat} (h8 : 8 ≤ W) {x : Int} (h : x.natAbs < 2 ^ 11000) : sz W x.natAbs ≤ 4194304 := by
  refine Nat.le_trans ((sz_le (by omega)).mpr (nb_le h (j := W * 1375) ?_)) (by decide)
  have := Nat.mul_le_mul_right 1375 h8
  omega
/-- the box after a quotient was asked for -/
def askS (W : Nat) (S : MS) (a b : Nat) : MS := if a = 0 then S else ratS W S a b
theorem askS_w {W : Nat} {S : MS} {a b : Nat} : (askS W S a b).w = S.w := by
  unfold askS
  split
  · rfl
  · exact ratS_w
theorem ask_eff {W : Nat} (h8 : 8 ≤ W) {S : MS} {a b : Nat} (hl : S.wk.length ≤ 100) : (∀ v, (askS W S a b).cnt v = S.cnt v + dgv (tDue W a b) v) ∧ (askS W S a b).wk = S.wk ++ tWay W a b := by
  unfold askS
  by_cases z : a = 0
  · rw [if_pos z]
    unfold tDue tWay
    rw [if_pos z, if_pos z]
    exact ⟨fun v => by rw [dgv_nil]; omega, (List.append_nil _).symm⟩
  · rw [if_neg z]
    exact rat_eff h8 z hl
theorem asked_ok {W : Nat} {S : MS} (hS : S.w = (W : Int)) (h8 : 8 ≤ W) (h30 : W ≤ 30) {x y : Int} (hx : x.natAbs < 2 ^ 11000) (hy : y.natAbs < 2 ^ 11000) (hy0 : y ≠ 0) :
    M__law_asked S (bg W x) (bg W y) = some (if GB * y.natAbs ≤ x.natAbs then (false, S) else (true, askS W S x.natAbs y.natAbs)) := by
  have hX := truex_ok hS (x := x) hy0 (bl11 hy)
  unfold M__law_asked
  by_cases q : GB * y.natAbs ≤ x.natAbs
  · rw [if_pos q] at hX ⊢
    rw [onX_s hX, if_pos rfl]
  · rw [if_neg q] at hX ⊢
    rw [onX_n hX]
    unfold askS
    by_cases z : x = 0
    · subst z
      rw [if_pos (show (0 : Int).natAbs = 0 from rfl)]
      exact bnd_of (true_ok hS hy0 (bl11 hy) q (r := (0, 0)) (S' := S) ratio_nil) rfl
    · rw [if_neg (show ¬ x.natAbs = 0 by omega)]
      obtain ⟨e, g, hr⟩ := ratio_ok hS h8 h30 (a := x.natAbs) (b := y.natAbs) (by omega) (by omega) (bl11 hx) (bl11 hy)
      exact bnd_of (true_ok hS hy0 (bl11 hy) q hr) rfl
theorem okxy {x y : Int} : Dat.ok (x, y) := ⟨trivial, trivial⟩
theorem right_s {W : Nat} {S : MS} (hS : S.w = (W : Int)) (h8 : 8 ≤ W) (h30 : W ≤ 30) {x y : Int} (hx : x.natAbs < 2 ^ 11000) (hy : y.natAbs < 2 ^ 11000) (hy0 : y ≠ 0) : Sat (M__law_right S x y) (fun r => r.1 = true ∧ r.2.w = (W : Int)) := by
  have hS0 : S.reset.w = (W : Int) := hS
  unfold M__law_right
  refine sat_eq (big_ok hS h8 h30 (sz11 h8 hx)) ?_
  refine sat_eq (big_ok hS h8 h30 (sz11 h8 hy)) ?_
  rw [show ((S.reset.w, S.reset.c) : Int × Int).1 = (W : Int) from hS0]
  refine sat_eq (due_law h8 h30 (by omega) (bl11 hx) (bl11 hy)) ?_
  refine sat_eq (asked_ok hS0 h8 h30 hx hy hy0) ?_
  -- what came, and what is due
  have main : ∀ (D : List (Str × Int)) (Y : List (T3 Str Int Int)) (S1 S2 : MS) (g : Bool), (D.map (·.1)).Nodup → (∀ p ∈ D, p.1 ∈ mwords) → D.length ≤ 100 → WkOk Y → Y.length ≤ 10 →
      (∀ v, S1.cnt v = dgv D v) → S1.wk = Y → (∀ v, S2.cnt v = 2 * S1.cnt v) → S2.wk = S1.wk ++ S1.wk → S2.w = (W : Int) → M__law_asked S1 (bg W x) (bg W y) = some (g, S2) →
      Sat ((chkP (S1.tally.length ≤ sizeLine)).bind fun _ => (lcM (fun (a12 : (Str × Int)) (s11 : Unit) => if (!decide (a12.2 = (0 : Int))) = true then some (some (a12.1, a12.2), ()) else some (none, ())) S1.tally ()).bind fun z13 => (chkP ((z13.1.map (·.1)).Nodup)).bind fun _ => (some (DF.mk z13.1)).bind fun y16 => (M__law_due_of (DF.mk D)).bind fun z17 => (chkP (sameD y16.l z17.l)).bind fun _ => (chkP ((LF.mk S1.wk) = (LF.mk Y) ∧ Dat.ok (LF.mk S1.wk))).bind fun _ => (M__law_asked S1 (bg W x) (bg W y)).bind fun z20 => (M__law_doubled z20.2 y16 Y).bind fun z21 => (chkP (z21 = true)).bind fun _ => (M_plain (bg W x)).bind fun z23 => (M_plain (bg W y)).bind fun z24 => (chkP (Dat.ok (z23, z24) ∧ Dat.ok (x, y))).bind fun _ => (chkP ((eqD (z23, z24) (x, y)) = true)).bind fun _ => some (true, z20.2)) (fun r => r.1 = true ∧ r.2.w = (W : Int)) := by
    intro D Y S1 S2 g d1 d2 d3 y1 y2 hc hY kd kw hw2 ha
    have dbl := doubled_ok (S1 := S1) kd kw (by rw [hY]; exact y2) (by rw [hY]; exact y1)
    rw [hY] at dbl
    refine sat_chk (size_le (m := 10) (by rw [tally_len]; omega) (by decide)) ?_
    refine sat_eq (nz_loop _) ?_
    refine sat_chk (nz_nd (tally_keys _)) ?_
    refine sat_let ?_
    refine sat_eq (due_ok d1 d3) ?_
    refine sat_chk (nz_same d1 d2 fun v _ => hc v) ?_
    refine sat_chk ⟨congrArg LF.mk hY, by show Dat.ok (LF.mk S1.wk); rw [hY]; exact wkok_dat y1⟩ ?_
    refine sat_eq ha ?_
    refine sat_eq dbl ?_
    refine sat_chk rfl ?_
    refine sat_eq (plain_ok W x) ?_
    refine sat_eq (plain_ok W y) ?_
    refine sat_chk ⟨okxy, okxy⟩ ?_
    refine sat_chk (eqD_iff.mpr rfl) ?_
    exact sat_some ⟨rfl, hw2⟩
  by_cases q : GB * y.natAbs ≤ x.natAbs
  · have ha := asked_ok (S := S.reset) hS0 h8 h30 hx hy hy0
    rw [if_pos q] at ha ⊢
    refine sat_eq rfl ?_
    exact main [] [] S.reset S.reset false List.nodup_nil (fun p hp => absurd hp List.not_mem_nil) (Nat.zero_le _) wkok_nil (Nat.zero_le _) (fun v => rfl) rfl (fun v => rfl) rfl hS0 ha
  · have w1 : (askS W S.reset x.natAbs y.natAbs).w = (W : Int) := askS_w.trans hS0
    have ha := asked_ok (S := askS W S.reset x.natAbs y.natAbs) w1 h8 h30 hx hy hy0
    rw [if_neg q] at ha ⊢
    obtain ⟨f1, f2⟩ := ask_eff h8 (S := S.reset) (a := x.natAbs) (b := y.natAbs) (by show (0 : Nat) ≤ 100; decide)
    have f2 : (askS W S.reset x.natAbs y.natAbs).wk = tWay W x.natAbs y.natAbs := f2
    have fz : ∀ v, (askS W S.reset x.natAbs y.natAbs).cnt v = dgv (tDue W x.natAbs y.natAbs) v := fun v => by
      rw [f1 v]
      show (0 : Int) + _ = _
      omega
    obtain ⟨d1, d2, d3⟩ := tDue_ok W x.natAbs y.natAbs
    obtain ⟨y1, y2⟩ := tWay_ok W x.natAbs y.natAbs
    obtain ⟨k1, k2⟩ := ask_eff h8 (S := askS W S.reset x.natAbs y.natAbs) (a := x.natAbs) (b := y.natAbs) (by rw [f2]; omega)
    refine sat_eq rfl ?_
    exact main _ _ (askS W S.reset x.natAbs y.natAbs) _ true d1 d2 d3 y1 (Nat.le_trans y2 (by decide)) fz f2 (fun v => by rw [k1 v, fz v]; omega) (by rw [k2, f2]) (askS_w.trans w1) ha
theorem law_right (ns : List Int) (h : ns.length ≤ 63) : M_law ns = some true := by
  have sg : ∀ (z u : Int), z.natAbs < 2 ^ 11000 → (u = z ∨ u = -z) → u.natAbs < 2 ^ 11000 := by
    intro z u hz h
    rcases h with e | e
    · rw [e]; exact hz
    · rw [e, Int.natAbs_neg]; exact hz
  refine sat_get ?_
  unfold M_law
  refine sat_chk (size_le (m := 64) (by show ns.length + 1 ≤ 64; omega) (by decide)) ?_
  refine sat_forA (fun _ => True) (fun x _ st _ => ?_) trivial fun s _ => sat_nx ?_
  · refine sat_bind (source_s x) fun s0 g0 => ?_
    refine sat_bind (box_s g0) fun r1 ⟨W, c, em, a1, b1, g1⟩ => ?_
    rw [em]
    refine sat_chk (by decide) ?_
    refine sat_forA (fun (st : List Int × MS) => Src st.1 ∧ st.2.w = (W : Int)) (fun i hi st ⟨q1, q2⟩ => ?_) ⟨g1, rfl⟩ fun st hst => sat_nx (sat_end trivial)
    refine sat_bind (two_s q1) fun t1 ⟨v1, x1, y0, y1⟩ => ?_
    refine sat_bind (P := fun r => Src r.2 ∧ r.1.natAbs < 2 ^ 11000) ?_ fun t2 ⟨v2, x2⟩ => ?_
    · refine sat_ite (fun _ => ?_) fun _ => ?_
      · refine sat_bind (wide_s v1) fun t3 ⟨v3, a3, b3⟩ => ?_
        refine sat_bind (draw_s v3 (by decide) (by decide)) fun t4 ⟨v4, a4, b4⟩ => ?_
        refine sat_chk (shl_ok (k := 1100) b3 (by omega) (by omega)) ?_
        refine sat_bind (draw_s v4 (by decide) (by decide)) fun t5 ⟨v5, a5, b5⟩ => ?_
        refine sat_let ?_
        refine sat_some ⟨v5, ?_⟩
        have hs := nb_shl (j := 460) (c := 60 + t4.1) b3 (by omega)
        exact nb_le (nb_add hs (nb_sm (by omega) (by omega) (by decide))) (by decide)
      · exact sat_some ⟨v1, x1⟩
    refine sat_bind (signed_s v2 _) fun t3 ⟨v3, w3⟩ => ?_
    refine sat_bind (signed_s v3 _) fun t4 ⟨v4, w4⟩ => ?_
    refine sat_bind (right_s q2 a1 b1 (x := t3.1) (y := t4.1) (sg _ _ x2 w3) (sg _ _ y1 w4) (by omega)) fun t5 ⟨v5, w5⟩ => ?_
    refine sat_chk v5 ?_
    exact sat_end ⟨v4, w5⟩
  · refine sat_chk (by decide) ?_
    refine sat_let ?_
    have hp : ∀ k : Nat, k ≤ 1100 → ((1 : Int) * 2 ^ k).natAbs < 2 ^ 1101 := fun k hk => by
      rw [Int.one_mul, p2, Int.natAbs_natCast]
      exact Nat.pow_lt_pow_right (by decide) (by omega)
    refine sat_bind (right_s (W := 8) (S := MS.fresh 8 70) rfl (by decide) (by decide) (x := 0) (y := -5) (Nat.two_pow_pos _) (nb_le (i := 3) (by decide) (by decide)) (by decide)) fun t1 ⟨v1, w1⟩ => ?_
    refine sat_chk v1 ?_
    refine sat_chk (by unfold CShl; decide) ?_
    refine sat_bind (right_s (W := 8) w1 (by decide) (by decide) (nb_sm (by decide) (by decide) (by decide)) (nb_le (hp 1076 (by decide)) (by decide)) (by rw [Int.one_mul]; have := ppos 1076; exact Int.ne_of_gt this)) fun t2 ⟨v2, w2⟩ => ?_
    refine sat_chk v2 ?_
    refine sat_chk (by unfold CShl; decide) ?_
    refine sat_bind (right_s (W := 8) w2 (by decide) (by decide) (nb_le (nb_add (hp 400 (by decide)) (nb_sm (by decide) (by decide) (by decide))) (by decide)) (nb_le (i := 3) (by decide) (by decide)) (by decide)) fun t3 ⟨v3, w3⟩ => ?_
    refine sat_chk v3 ?_
    exact sat_some rfl
end P

set_option Elab.async false
set_option linter.all false
set_option maxRecDepth 100000
set_option maxHeartbeats 0
namespace P
open PySem L2 VL

theorem Fun.ofD {K : PySem.W.Frag} {x qual : Str} {st : Stmt} {f : Addr} {fd : FuncData} (F : FunD K x qual (defArgs st) (defBody st) (defScope st) [] [] f fd) : Fun K x qual st f fd := by
  obtain ⟨oc, od, dV, kV, doc, pm, an, cdv, ct, osl, rfl, lk, hcd, hD, hK⟩ := F.ex
  rcases hD with ⟨_, rfl⟩ | ⟨e, _⟩
  · exact ⟨⟨oc, od, kV, doc, pm, an, cdv, ct, osl, rfl, lk, hcd⟩, F.kp⟩
  · exact absurd rfl e
theorem iclsB_ok {K : PySem.W.Frag} {C : Addr} (cl : Cls K C) (h : iclsB K C = true) : ICls K C := by
  obtain ⟨h1, h⟩ := He.ba h
  obtain ⟨h2, h⟩ := He.ba h
  obtain ⟨h3, h⟩ := He.ba h
  obtain ⟨h4, h5⟩ := He.ba h
  exact ⟨cl, He.eqO_ok h1, He.eqO_ok h2, of_decide_eq_true h3, of_decide_eq_true h4, of_decide_eq_true h5⟩
theorem hu_of {l : List (Addr × Str)} (nd : (l.map (·.1)).Nodup) {A : Addr} {q : Str} (hm : (A, q) ∈ l) : ∀ p ∈ l, p.1 = A → p.2 = q := by
  induction l with
  | nil => cases hm
  | cons a r ih =>
    obtain ⟨h1, h2⟩ := List.nodup_cons.mp (show (a.1 :: r.map (·.1)).Nodup from nd)
    intro p hp e
    rcases List.mem_cons.mp hm with m | m
    · rcases List.mem_cons.mp hp with z | z
      · rw [z, ← m]
      · exact absurd (List.mem_map.mpr ⟨p, z, by rw [e, ← m]⟩) h1
    · rcases List.mem_cons.mp hp with z | z
      · exact absurd (List.mem_map.mpr ⟨_, m, by rw [← e, z]⟩) h1
      · exact ih h2 m p z e
theorem gInt {K : PySem.W.Frag} {h : Heap} {mg : Str → Option Value} {x : Str} {i : Int} (X : K.In h) (G : h.Ns mainGlobals mg) (c : (He.Fa.int x i).ok K = true) : ∃ u, mg x = some u ∧ RelV (.int i) u := by
  obtain ⟨t, e⟩ := He.int_ok X G c
  exact ⟨_, e, t, rfl⟩
theorem gRef {K : PySem.W.Frag} {h : Heap} {mg : Str → Option Value} {x : Str} (X : K.In h) (G : h.Ns mainGlobals mg) (c : (He.Fa.glo x).ok K = true) : ∃ u, mg x = some u ∧ RelV (.ref (He.ga K x)) u := ⟨_, He.glo_ok X G c, rfl⟩
theorem facts {P : Program} {w : World} {K : PySem.W.Frag} {h : Heap} {mg : Str → Option Value} {f : Addr} (X : K.In h) (G : h.Ns mainGlobals mg) (hfa : mg ("law" : Str) = some (.ref f)) (c : He.SaysX fa fn [] [] exB w h K) :
    ∃ (T : TC) (fd : FuncData), T.K = K ∧ (∀ (s : Shared) (v : Value), BindsTo s fd ⟨[v], []⟩ [("_law_script", v)]) ∧ ∀ base : Heap, K.In base → base.Ns mainGlobals mg → FnOk P w K mg base CX0 29 f fd ["_law_script"] (mkSp (Pre_law T)) := by
  have cd : He.SaysD fa fn K := c.t.d
  obtain ⟨cmoreX, exX⟩ := He.ba c.more
  have exX_TooGreat := exX
  obtain ⟨ex1, exr⟩ := He.ba cmoreX
  obtain ⟨ex2, exs⟩ := He.ba exr
  obtain ⟨ex3, ex4⟩ := He.ba exs
  let T : TC := ⟨K, fun i => match i with | 0 => He.ga K "Machine" | 1 => He.ga K "Big" | 300 => He.ga K "TooGreat" | _ => He.ga K "Big"⟩
  refine ⟨T, ?_⟩
  obtain ⟨fd_law, G_law⟩ := cd.def_ 46 (d := d_law) rfl
  cases hfa.symm.trans (He.glo_ok X G (cd.fact 92 (f := .glo "law") rfl))
  refine ⟨fd_law, rfl, fun s v => (FunD.bindsA (ps := ["_law_script"]) G_law fun _ _ _ _ _ _ us hl => match us, hl with | [_], _ => rfl) s [v] rfl, fun base _ _ => ?_⟩
  have clM : Cls K (He.ga K "Machine") := He.cls_ok (cd.fact 0 (f := .cls "Machine") rfl)
  have mc : MCls T.K (T.C 0) := ⟨clM, (He.noat_ok (cd.fact 1 (f := .noat "Machine" "width") rfl)), (He.noat_ok (cd.fact 2 (f := .noat "Machine" "cutoff") rfl)), (He.noat_ok (cd.fact 3 (f := .noat "Machine" "counts") rfl)), (He.noat_ok (cd.fact 4 (f := .noat "Machine" "entered") rfl))⟩
  have icm : ICls T.K (T.C 0) := iclsB_ok clM ex2
  have clB : Cls K (He.ga K "Big") := He.cls_ok (cd.fact 5 (f := .cls "Big") rfl)
  have bc : BCls T.K (T.C 1) := ⟨clB, (He.noat_ok (cd.fact 6 (f := .noat "Big" "width") rfl)), (He.noat_ok (cd.fact 7 (f := .noat "Big" "side") rfl)), (He.noat_ok (cd.fact 8 (f := .noat "Big" "row") rfl)), (He.noat_ok (cd.fact 9 (f := .noat "Big" "value") rfl))⟩
  have icb : ICls T.K (T.C 1) := iclsB_ok clB ex3
  obtain ⟨e_TooGreat, m_TooGreat⟩ := excB_ok (x := "TooGreat") exX_TooGreat (He.glo_ok X G (cd.fact 10 (f := .glo "TooGreat") rfl))
  have hW : ∀ H, SqT T.K H (He.ga K "WORDS") (mwords.map V.str) := fun H => He.tupB_ok ex1 H
  obtain ⟨fd_is_integer, F_is_integer⟩ := cd.def_ 0 (d := d_is_integer) rfl
  have F_is_integer := Fun.ofD (st := s_is_integer) F_is_integer
  have c_is_integer : Cal P w K mg base 1 "is_integer" ["value"] (mkSp (Pre_is_integer T)) := ⟨⟨_, _, ok_is_integer (T := T) F_is_integer (He.free_ok X G (cd.fact 11 (f := .free "isinstance") rfl)) (He.free_ok X G (cd.fact 12 (f := .free "int") rfl)) (He.free_ok X G (cd.fact 13 (f := .free "bool") rfl)), He.glo_ok X G (cd.fact 14 (f := .glo "is_integer") rfl), F_is_integer.kp, (F_is_integer.binds (ps := ["value"]) fun _ _ _ _ _ _ us hl => match us, hl with | [_], _ => rfl)⟩⟩
  obtain ⟨fd_is_between, F_is_between⟩ := cd.def_ 1 (d := d_is_between) rfl
  have F_is_between := Fun.ofD (st := s_is_between) F_is_between
  have c_is_between : Cal P w K mg base 2 "is_between" ["value", "low", "high"] (mkSp (Pre_is_between T)) := ⟨⟨_, _, ok_is_between (T := T) F_is_between c_is_integer, He.glo_ok X G (cd.fact 15 (f := .glo "is_between") rfl), F_is_between.kp, (F_is_between.binds (ps := ["value", "low", "high"]) fun _ _ _ _ _ _ us hl => match us, hl with | [_, _, _], _ => rfl)⟩⟩
  obtain ⟨fd_Mach_step, F_Mach_step⟩ := cd.def_ 47 (d := d_Mach_step) rfl
  have F_Mach_step := Fun.ofD (st := s_Mach_step) F_Mach_step
  have c_Mach_step : CalM P w K mg base 1 (T.C 0) "step" ["self", "word", "many"] (mkSp (Pre_Mach_step T)) := ⟨⟨_, _, ok_Mach_step (T := T) F_Mach_step mc , He.meth_ok (cd.fact 16 (f := .meth "Machine" "step") rfl), (F_Mach_step.binds (ps := ["self", "word", "many"]) fun _ _ _ _ _ _ us hl => match us, hl with | [_, _, _], _ => rfl)⟩, clM⟩
  obtain ⟨fd_Mach_enter, F_Mach_enter⟩ := cd.def_ 48 (d := d_Mach_enter) rfl
  have F_Mach_enter := Fun.ofD (st := s_Mach_enter) F_Mach_enter
  have c_Mach_enter : CalM P w K mg base 1 (T.C 0) "enter" ["self", "word", "m", "n"] (mkSp (Pre_Mach_enter T)) := ⟨⟨_, _, ok_Mach_enter (T := T) F_Mach_enter mc (He.free_ok X G (cd.fact 17 (f := .free "len") rfl)) (gInt X G (cd.fact 18 (f := .int "LONGEST_WALK" 1000) rfl)), He.meth_ok (cd.fact 19 (f := .meth "Machine" "enter") rfl), (F_Mach_enter.binds (ps := ["self", "word", "m", "n"]) fun _ _ _ _ _ _ us hl => match us, hl with | [_, _, _, _], _ => rfl)⟩, clM⟩
  obtain ⟨fd_Mach_reset, F_Mach_reset⟩ := cd.def_ 49 (d := d_Mach_reset) rfl
  have F_Mach_reset := Fun.ofD (st := s_Mach_reset) F_Mach_reset
  have c_Mach_reset : CalM P w K mg base 1 (T.C 0) "reset" ["self"] (mkSp (Pre_Mach_reset T)) := ⟨⟨_, _, ok_Mach_reset (T := T) F_Mach_reset mc (gRef X G (cd.fact 20 (f := .glo "WORDS") rfl)) hW, He.meth_ok (cd.fact 21 (f := .meth "Machine" "reset") rfl), (F_Mach_reset.binds (ps := ["self"]) fun _ _ _ _ _ _ us hl => match us, hl with | [_], _ => rfl)⟩, clM⟩
  obtain ⟨fd_Mach_tally, F_Mach_tally⟩ := cd.def_ 50 (d := d_Mach_tally) rfl
  have F_Mach_tally := Fun.ofD (st := s_Mach_tally) F_Mach_tally
  have c_Mach_tally : CalM P w K mg base 1 (T.C 0) "tally" ["self"] (mkSp (Pre_Mach_tally T)) := ⟨⟨_, _, ok_Mach_tally (T := T) F_Mach_tally mc (gRef X G (cd.fact 20 (f := .glo "WORDS") rfl)) hW, He.meth_ok (cd.fact 22 (f := .meth "Machine" "tally") rfl), (F_Mach_tally.binds (ps := ["self"]) fun _ _ _ _ _ _ us hl => match us, hl with | [_], _ => rfl)⟩, clM⟩
  obtain ⟨fd_Mach_walk, F_Mach_walk⟩ := cd.def_ 51 (d := d_Mach_walk) rfl
  have F_Mach_walk := Fun.ofD (st := s_Mach_walk) F_Mach_walk
  have c_Mach_walk : CalM P w K mg base 1 (T.C 0) "walk" ["self"] (mkSp (Pre_Mach_walk T)) := ⟨⟨_, _, ok_Mach_walk (T := T) F_Mach_walk mc (He.free_ok X G (cd.fact 23 (f := .free "list") rfl)), He.meth_ok (cd.fact 24 (f := .meth "Machine" "walk") rfl), (F_Mach_walk.binds (ps := ["self"]) fun _ _ _ _ _ _ us hl => match us, hl with | [_], _ => rfl)⟩, clM⟩
  obtain ⟨fd_Mach_parts, F_Mach_parts⟩ := cd.def_ 52 (d := d_Mach_parts) rfl
  have F_Mach_parts := Fun.ofD (st := s_Mach_parts) F_Mach_parts
  have c_Mach_parts : CalM P w K mg base 1 (T.C 0) "parts" ["self"] (mkSp (Pre_Mach_parts T)) := ⟨⟨_, _, ok_Mach_parts (T := T) F_Mach_parts mc , He.meth_ok (cd.fact 25 (f := .meth "Machine" "parts") rfl), (F_Mach_parts.binds (ps := ["self"]) fun _ _ _ _ _ _ us hl => match us, hl with | [_], _ => rfl)⟩, clM⟩
  obtain ⟨fd_Mach_init, F_Mach_init⟩ := cd.def_ 53 (d := d_Mach_init) rfl
  have c_Machine2 : CalC P w K mg base 3 "Machine" (T.C 0) ["self", "bits", "cutoff"] [] (mkSp (Pre_Machine T)) := by
    obtain ⟨ds, hv, hb⟩ := FunD.binds1 (ps := ["self", "bits", "cutoff"]) F_Mach_init 3 2 (fun e => nomatch e) rfl fun _ _ _ _ _ _ _ us its hl hi => match us, its, hl, hi with | [_, _, _], [_, _], _, _ => ⟨_, rfl, rfl⟩
    exact ⟨⟨_, _, ds, ok_Mach_init (T := T) F_Mach_init mc (gRef X G (cd.fact 20 (f := .glo "WORDS") rfl)) hW c_is_between, He.glo_ok X G (cd.fact 26 (f := .glo "Machine") rfl), He.mkr_ok (cd.fact 27 (f := .mkr "Machine") rfl), hv, hb⟩⟩
  have c_Machine1 : CalC P w K mg base 3 "Machine" (T.C 0) ["self", "bits", "cutoff"] [.int 70] (mkSp (Pre_Machine T)) := by
    obtain ⟨ds, hv, hb⟩ := FunD.binds1 (ps := ["self", "bits", "cutoff"]) F_Mach_init 2 1 (fun e => nomatch e) rfl fun _ _ _ _ _ _ _ us its hl hi => match us, its, hl, hi with | [_, _], [_, _], _, _ => ⟨_, rfl, rfl⟩
    exact ⟨⟨_, _, ds, ok_Mach_init (T := T) F_Mach_init mc (gRef X G (cd.fact 20 (f := .glo "WORDS") rfl)) hW c_is_between, He.glo_ok X G (cd.fact 26 (f := .glo "Machine") rfl), He.mkr_ok (cd.fact 27 (f := .mkr "Machine") rfl), hv, hb⟩⟩
  obtain ⟨fd_Big_eq, F_Big_eq⟩ := cd.def_ 55 (d := d_Big_eq) rfl
  have F_Big_eq := Fun.ofD (st := s_Big_eq) F_Big_eq
  have ceq : CalEq P w K mg base 1 (T.C 1) (mkSp (Pre_Big_eq T)) := ⟨⟨_, _, ok_Big_eq (T := T) F_Big_eq (He.free_ok X G (cd.fact 11 (f := .free "isinstance") rfl)) icb (gRef X G (cd.fact 28 (f := .glo "Big") rfl)) bc, ex4, He.meth_ok (cd.fact 29 (f := .meth "Big" "__eq__") rfl), (F_Big_eq.binds (ps := ["self", "other"]) fun _ _ _ _ _ _ us hl => match us, hl with | [_, _], _ => rfl)⟩⟩
  obtain ⟨fd_Big_digits, F_Big_digits⟩ := cd.def_ 56 (d := d_Big_digits) rfl
  have F_Big_digits := Fun.ofD (st := s_Big_digits) F_Big_digits
  have c_Big_digits : CalM P w K mg base 1 (T.C 1) "digits" ["self"] (mkSp (Pre_Big_digits T)) := ⟨⟨_, _, ok_Big_digits (T := T) F_Big_digits bc (He.free_ok X G (cd.fact 23 (f := .free "list") rfl)), He.meth_ok (cd.fact 30 (f := .meth "Big" "digits") rfl), (F_Big_digits.binds (ps := ["self"]) fun _ _ _ _ _ _ us hl => match us, hl with | [_], _ => rfl)⟩, clB⟩
  obtain ⟨fd_Big_sign, F_Big_sign⟩ := cd.def_ 57 (d := d_Big_sign) rfl
  have F_Big_sign := Fun.ofD (st := s_Big_sign) F_Big_sign
  have c_Big_sign : CalM P w K mg base 1 (T.C 1) "sign" ["self"] (mkSp (Pre_Big_sign T)) := ⟨⟨_, _, ok_Big_sign (T := T) F_Big_sign bc, He.meth_ok (cd.fact 31 (f := .meth "Big" "sign") rfl), (F_Big_sign.binds (ps := ["self"]) fun _ _ _ _ _ _ us hl => match us, hl with | [_], _ => rfl)⟩, clB⟩
  obtain ⟨fd_Big_bits, F_Big_bits⟩ := cd.def_ 58 (d := d_Big_bits) rfl
  have F_Big_bits := Fun.ofD (st := s_Big_bits) F_Big_bits
  have c_Big_bits : CalM P w K mg base 1 (T.C 1) "bits" ["self"] (mkSp (Pre_Big_bits T)) := ⟨⟨_, _, ok_Big_bits (T := T) F_Big_bits bc, He.meth_ok (cd.fact 32 (f := .meth "Big" "bits") rfl), (F_Big_bits.binds (ps := ["self"]) fun _ _ _ _ _ _ us hl => match us, hl with | [_], _ => rfl)⟩, clB⟩
  obtain ⟨fd_order_of, F_order_of⟩ := cd.def_ 2 (d := d_order_of) rfl
  have F_order_of := Fun.ofD (st := s_order_of) F_order_of
  have c_order_of : Cal P w K mg base 1 "order_of" ["a", "b"] (mkSp (Pre_order_of T)) := ⟨⟨_, _, ok_order_of (T := T) F_order_of , He.glo_ok X G (cd.fact 33 (f := .glo "order_of") rfl), F_order_of.kp, (F_order_of.binds (ps := ["a", "b"]) fun _ _ _ _ _ _ us hl => match us, hl with | [_, _], _ => rfl)⟩⟩
  obtain ⟨fd_Big_init, F_Big_init⟩ := cd.def_ 54 (d := d_Big_init) rfl
  have F_Big_init := Fun.ofD (st := s_Big_init) F_Big_init
  have c_Big : CalC P w K mg base 2 "Big" (T.C 1) ["self", "width", "value", "row"] [] (mkSp (Pre_Big T)) := ⟨⟨_, _, [], ok_Big_init (T := T) F_Big_init bc (He.free_ok X G (cd.fact 34 (f := .free "tuple") rfl)) c_order_of, He.glo_ok X G (cd.fact 28 (f := .glo "Big") rfl), He.mkr_ok (cd.fact 35 (f := .mkr "Big") rfl), .nil, (F_Big_init.binds (ps := ["self", "width", "value", "row"]) fun _ _ _ _ _ _ us hl => match us, hl with | [_, _, _, _], _ => rfl)⟩⟩
  obtain ⟨fd_check_machine, F_check_machine⟩ := cd.def_ 3 (d := d_check_machine) rfl
  have F_check_machine := Fun.ofD (st := s_check_machine) F_check_machine
  have c_check_machine : Cal P w K mg base 1 "check_machine" ["machine"] (mkSp (Pre_check_machine T)) := ⟨⟨_, _, ok_check_machine (T := T) F_check_machine (He.free_ok X G (cd.fact 11 (f := .free "isinstance") rfl)) icm (gRef X G (cd.fact 26 (f := .glo "Machine") rfl)), He.glo_ok X G (cd.fact 36 (f := .glo "check_machine") rfl), F_check_machine.kp, (F_check_machine.binds (ps := ["machine"]) fun _ _ _ _ _ _ us hl => match us, hl with | [_], _ => rfl)⟩⟩
  obtain ⟨fd_top_digit, F_top_digit⟩ := cd.def_ 4 (d := d_top_digit) rfl
  have F_top_digit := Fun.ofD (st := s_top_digit) F_top_digit
  have c_top_digit : Cal P w K mg base 1 "top_digit" ["width"] (mkSp (Pre_top_digit T)) := ⟨⟨_, _, ok_top_digit (T := T) F_top_digit , He.glo_ok X G (cd.fact 37 (f := .glo "top_digit") rfl), F_top_digit.kp, (F_top_digit.binds (ps := ["width"]) fun _ _ _ _ _ _ us hl => match us, hl with | [_], _ => rfl)⟩⟩
  obtain ⟨fd_size_of, F_size_of⟩ := cd.def_ 5 (d := d_size_of) rfl
  have F_size_of := Fun.ofD (st := s_size_of) F_size_of
  have c_size_of : Cal P w K mg base 2 "size_of" ["width", "n"] (mkSp (Pre_size_of T)) := ⟨⟨_, _, ok_size_of (T := T) F_size_of , He.glo_ok X G (cd.fact 38 (f := .glo "size_of") rfl), F_size_of.kp, (F_size_of.binds (ps := ["width", "n"]) fun _ _ _ _ _ _ us hl => match us, hl with | [_, _], _ => rfl)⟩⟩
  obtain ⟨fd_number_of, F_number_of⟩ := cd.def_ 6 (d := d_number_of) rfl
  have F_number_of := Fun.ofD (st := s_number_of) F_number_of
  have r_number_of : ∀ n : Nat, FnOk P w K mg base CX0 (1 + n) (He.ga K "number_of") fd_number_of ["width", "row"] (mkSp (Pre_number_of n T)) := by
    intro n
    induction n with
    | zero => exact ok0_number_of (T := T) F_number_of
    | succ n ih =>
      have i_number_of := ih
      have c_number_of : Cal P w K mg base (1 + n) "number_of" ["width", "row"] (mkSp (Pre_number_of n T)) := ⟨⟨_, _, i_number_of, He.glo_ok X G (cd.fact 39 (f := .glo "number_of") rfl), F_number_of.kp, (F_number_of.binds (ps := ["width", "row"]) fun _ _ _ _ _ _ us hl => match us, hl with | [_, _], _ => rfl)⟩⟩
      exact ok_number_of (T := T) n F_number_of (He.free_ok X G (cd.fact 17 (f := .free "len") rfl)) (gInt X G (cd.fact 40 (f := .int "LONGEST_LOOP" 32) rfl)) c_number_of (He.free_ok X G (cd.fact 41 (f := .free "reversed") rfl))
  have c_number_of : Cal P w K mg base 21 "number_of" ["width", "row"] (mkSp (Pre_number_of 20 T)) := ⟨⟨_, _, (r_number_of 20), He.glo_ok X G (cd.fact 39 (f := .glo "number_of") rfl), F_number_of.kp, (F_number_of.binds (ps := ["width", "row"]) fun _ _ _ _ _ _ us hl => match us, hl with | [_, _], _ => rfl)⟩⟩
  obtain ⟨fd_low_part, F_low_part⟩ := cd.def_ 7 (d := d_low_part) rfl
  have F_low_part := Fun.ofD (st := s_low_part) F_low_part
  have c_low_part : Cal P w K mg base 1 "low_part" ["width", "n", "size"] (mkSp (Pre_low_part T)) := ⟨⟨_, _, ok_low_part (T := T) F_low_part , He.glo_ok X G (cd.fact 42 (f := .glo "low_part") rfl), F_low_part.kp, (F_low_part.binds (ps := ["width", "n", "size"]) fun _ _ _ _ _ _ us hl => match us, hl with | [_, _, _], _ => rfl)⟩⟩
  obtain ⟨fd_row_of, F_row_of⟩ := cd.def_ 8 (d := d_row_of) rfl
  have F_row_of := Fun.ofD (st := s_row_of) F_row_of
  have r_row_of : ∀ n : Nat, FnOk P w K mg base CX0 (1 + n) (He.ga K "row_of") fd_row_of ["width", "n", "size"] (mkSp (Pre_row_of n T)) := by
    intro n
    induction n with
    | zero => exact ok0_row_of (T := T) F_row_of
    | succ n ih =>
      have i_row_of := ih
      have c_row_of : Cal P w K mg base (1 + n) "row_of" ["width", "n", "size"] (mkSp (Pre_row_of n T)) := ⟨⟨_, _, i_row_of, He.glo_ok X G (cd.fact 43 (f := .glo "row_of") rfl), F_row_of.kp, (F_row_of.binds (ps := ["width", "n", "size"]) fun _ _ _ _ _ _ us hl => match us, hl with | [_, _, _], _ => rfl)⟩⟩
      exact ok_row_of (T := T) n F_row_of (gInt X G (cd.fact 40 (f := .int "LONGEST_LOOP" 32) rfl)) c_low_part c_row_of c_top_digit (He.free_ok X G (cd.fact 44 (f := .free "range") rfl))
  have c_row_of : Cal P w K mg base 21 "row_of" ["width", "n", "size"] (mkSp (Pre_row_of 20 T)) := ⟨⟨_, _, (r_row_of 20), He.glo_ok X G (cd.fact 43 (f := .glo "row_of") rfl), F_row_of.kp, (F_row_of.binds (ps := ["width", "n", "size"]) fun _ _ _ _ _ _ us hl => match us, hl with | [_, _, _], _ => rfl)⟩⟩
  obtain ⟨fd_check_big, F_check_big⟩ := cd.def_ 9 (d := d_check_big) rfl
  have F_check_big := Fun.ofD (st := s_check_big) F_check_big
  have c_check_big : Cal P w K mg base 1 "check_big" ["value", "name"] (mkSp (Pre_check_big T)) := ⟨⟨_, _, ok_check_big (T := T) F_check_big (He.free_ok X G (cd.fact 11 (f := .free "isinstance") rfl)) icb (gRef X G (cd.fact 28 (f := .glo "Big") rfl)), He.glo_ok X G (cd.fact 45 (f := .glo "check_big") rfl), F_check_big.kp, (F_check_big.binds (ps := ["value", "name"]) fun _ _ _ _ _ _ us hl => match us, hl with | [_, _], _ => rfl)⟩⟩
  obtain ⟨fd_check_fit, F_check_fit⟩ := cd.def_ 10 (d := d_check_fit) rfl
  have F_check_fit := Fun.ofD (st := s_check_fit) F_check_fit
  have c_check_fit : Cal P w K mg base 2 "check_fit" ["machine", "value", "name"] (mkSp (Pre_check_fit T)) := ⟨⟨_, _, ok_check_fit (T := T) F_check_fit c_check_big bc mc, He.glo_ok X G (cd.fact 46 (f := .glo "check_fit") rfl), F_check_fit.kp, (F_check_fit.binds (ps := ["machine", "value", "name"]) fun _ _ _ _ _ _ us hl => match us, hl with | [_, _, _], _ => rfl)⟩⟩
  obtain ⟨fd_check_one, F_check_one⟩ := cd.def_ 11 (d := d_check_one) rfl
  have F_check_one := Fun.ofD (st := s_check_one) F_check_one
  have c_check_one : Cal P w K mg base 3 "check_one" ["machine", "x"] (mkSp (Pre_check_one T)) := ⟨⟨_, _, ok_check_one (T := T) F_check_one c_check_machine c_check_fit, He.glo_ok X G (cd.fact 47 (f := .glo "check_one") rfl), F_check_one.kp, (F_check_one.binds (ps := ["machine", "x"]) fun _ _ _ _ _ _ us hl => match us, hl with | [_, _], _ => rfl)⟩⟩
  obtain ⟨fd_check_two, F_check_two⟩ := cd.def_ 12 (d := d_check_two) rfl
  have F_check_two := Fun.ofD (st := s_check_two) F_check_two
  have c_check_two : Cal P w K mg base 4 "check_two" ["machine", "x", "y"] (mkSp (Pre_check_two T)) := ⟨⟨_, _, ok_check_two (T := T) F_check_two c_check_one c_check_fit, He.glo_ok X G (cd.fact 48 (f := .glo "check_two") rfl), F_check_two.kp, (F_check_two.binds (ps := ["machine", "x", "y"]) fun _ _ _ _ _ _ us hl => match us, hl with | [_, _, _], _ => rfl)⟩⟩
  obtain ⟨fd_big_of, F_big_of⟩ := cd.def_ 13 (d := d_big_of) rfl
  have F_big_of := Fun.ofD (st := s_big_of) F_big_of
  have c_big_of : Cal P w K mg base 22 "big_of" ["machine", "value"] (mkSp (Pre_big_of T)) := ⟨⟨_, _, ok_big_of (T := T) F_big_of mc (He.free_ok X G (cd.fact 49 (f := .free "abs") rfl)) c_size_of c_row_of c_Big, He.glo_ok X G (cd.fact 50 (f := .glo "big_of") rfl), F_big_of.kp, (F_big_of.binds (ps := ["machine", "value"]) fun _ _ _ _ _ _ us hl => match us, hl with | [_, _], _ => rfl)⟩⟩
  obtain ⟨fd_big, F_big⟩ := cd.def_ 14 (d := d_big) rfl
  have F_big := Fun.ofD (st := s_big) F_big
  have c_big : Cal P w K mg base 23 "big" ["machine", "n"] (mkSp (Pre_big T)) := ⟨⟨_, _, ok_big (T := T) F_big c_check_machine c_is_integer c_big_of, He.glo_ok X G (cd.fact 51 (f := .glo "big") rfl), F_big.kp, (F_big.binds (ps := ["machine", "n"]) fun _ _ _ _ _ _ us hl => match us, hl with | [_, _], _ => rfl)⟩⟩
  obtain ⟨fd_plain, F_plain⟩ := cd.def_ 15 (d := d_plain) rfl
  have F_plain := Fun.ofD (st := s_plain) F_plain
  have c_plain : Cal P w K mg base 2 "plain" ["x"] (mkSp (Pre_plain T)) := ⟨⟨_, _, ok_plain (T := T) F_plain c_check_big bc, He.glo_ok X G (cd.fact 52 (f := .glo "plain") rfl), F_plain.kp, (F_plain.binds (ps := ["x"]) fun _ _ _ _ _ _ us hl => match us, hl with | [_], _ => rfl)⟩⟩
  obtain ⟨fd_lifted, F_lifted⟩ := cd.def_ 16 (d := d_lifted) rfl
  have F_lifted := Fun.ofD (st := s_lifted) F_lifted
  have c_lifted : Cal P w K mg base 2 "lifted" ["machine", "number", "size", "count"] (mkSp (Pre_lifted T)) := ⟨⟨_, _, ok_lifted (T := T) F_lifted mc c_Mach_enter c_Mach_step, He.glo_ok X G (cd.fact 53 (f := .glo "lifted") rfl), F_lifted.kp, (F_lifted.binds (ps := ["machine", "number", "size", "count"]) fun _ _ _ _ _ _ us hl => match us, hl with | [_, _, _, _], _ => rfl)⟩⟩
  obtain ⟨fd_lowered, F_lowered⟩ := cd.def_ 17 (d := d_lowered) rfl
  have F_lowered := Fun.ofD (st := s_lowered) F_lowered
  have c_lowered : Cal P w K mg base 2 "lowered" ["machine", "number", "size", "count"] (mkSp (Pre_lowered T)) := ⟨⟨_, _, ok_lowered (T := T) F_lowered mc c_Mach_enter c_Mach_step, He.glo_ok X G (cd.fact 54 (f := .glo "lowered") rfl), F_lowered.kp, (F_lowered.binds (ps := ["machine", "number", "size", "count"]) fun _ _ _ _ _ _ us hl => match us, hl with | [_, _, _, _], _ => rfl)⟩⟩
  obtain ⟨fd_check_division, F_check_division⟩ := cd.def_ 18 (d := d_check_division) rfl
  have F_check_division := Fun.ofD (st := s_check_division) F_check_division
  have c_check_division : Cal P w K mg base 5 "check_division" ["machine", "x", "y"] (mkSp (Pre_check_division T)) := ⟨⟨_, _, ok_check_division (T := T) F_check_division c_check_two bc, He.glo_ok X G (cd.fact 55 (f := .glo "check_division") rfl), F_check_division.kp, (F_check_division.binds (ps := ["machine", "x", "y"]) fun _ _ _ _ _ _ us hl => match us, hl with | [_, _, _], _ => rfl)⟩⟩
  obtain ⟨fd_short_division, F_short_division⟩ := cd.def_ 19 (d := d_short_division) rfl
  have F_short_division := Fun.ofD (st := s_short_division) F_short_division
  have c_short_division : Cal P w K mg base 2 "short_division" ["machine", "word", "a", "m", "b"] (mkSp (Pre_short_division T)) := ⟨⟨_, _, ok_short_division (T := T) F_short_division mc c_Mach_enter c_Mach_step (He.free_ok X G (cd.fact 56 (f := .free "divmod") rfl)), He.glo_ok X G (cd.fact 57 (f := .glo "short_division") rfl), F_short_division.kp, (F_short_division.binds (ps := ["machine", "word", "a", "m", "b"]) fun _ _ _ _ _ _ us hl => match us, hl with | [_, _, _, _, _], _ => rfl)⟩⟩
  obtain ⟨fd_corrections, F_corrections⟩ := cd.def_ 20 (d := d_corrections) rfl
  have F_corrections := Fun.ofD (st := s_corrections) F_corrections
  have c_corrections : Cal P w K mg base 1 "corrections" ["width", "guess", "left", "b_last", "b_second", "third"] (mkSp (Pre_corrections T)) := ⟨⟨_, _, ok_corrections (T := T) F_corrections , He.glo_ok X G (cd.fact 58 (f := .glo "corrections") rfl), F_corrections.kp, (F_corrections.binds (ps := ["width", "guess", "left", "b_last", "b_second", "third"]) fun _ _ _ _ _ _ us hl => match us, hl with | [_, _, _, _, _, _], _ => rfl)⟩⟩
  obtain ⟨fd_count_steps, F_count_steps⟩ := cd.def_ 21 (d := d_count_steps) rfl
  have F_count_steps := Fun.ofD (st := s_count_steps) F_count_steps
  have c_count_steps : Cal P w K mg base 2 "count_steps" ["machine", "steps", "n"] (mkSp (Pre_count_steps T)) := ⟨⟨_, _, ok_count_steps (T := T) F_count_steps (He.free_ok X G (cd.fact 17 (f := .free "len") rfl)) mc c_Mach_step (He.free_ok X G (cd.fact 59 (f := .free "sum") rfl)), He.glo_ok X G (cd.fact 60 (f := .glo "count_steps") rfl), F_count_steps.kp, (F_count_steps.binds (ps := ["machine", "steps", "n"]) fun _ _ _ _ _ _ us hl => match us, hl with | [_, _, _], _ => rfl)⟩⟩
  obtain ⟨fd_quotient_steps, F_quotient_steps⟩ := cd.def_ 22 (d := d_quotient_steps) rfl
  have F_quotient_steps := Fun.ofD (st := s_quotient_steps) F_quotient_steps
  have c_quotient_steps : Cal P w K mg base 22 "quotient_steps" ["machine", "a", "m", "b", "n"] (mkSp (Pre_quotient_steps T)) := ⟨⟨_, _, ok_quotient_steps (T := T) F_quotient_steps mc c_top_digit c_row_of (He.free_ok X G (cd.fact 41 (f := .free "reversed") rfl)) (He.free_ok X G (cd.fact 56 (f := .free "divmod") rfl)) c_corrections c_count_steps, He.glo_ok X G (cd.fact 61 (f := .glo "quotient_steps") rfl), F_quotient_steps.kp, (F_quotient_steps.binds (ps := ["machine", "a", "m", "b", "n"]) fun _ _ _ _ _ _ us hl => match us, hl with | [_, _, _, _, _], _ => rfl)⟩⟩
  obtain ⟨fd_long_division, F_long_division⟩ := cd.def_ 23 (d := d_long_division) rfl
  have F_long_division := Fun.ofD (st := s_long_division) F_long_division
  have c_long_division : Cal P w K mg base 23 "long_division" ["machine", "a", "m", "b", "n"] (mkSp (Pre_long_division T)) := ⟨⟨_, _, ok_long_division (T := T) F_long_division mc c_Mach_enter c_lifted c_quotient_steps c_lowered, He.glo_ok X G (cd.fact 62 (f := .glo "long_division") rfl), F_long_division.kp, (F_long_division.binds (ps := ["machine", "a", "m", "b", "n"]) fun _ _ _ _ _ _ us hl => match us, hl with | [_, _, _, _, _], _ => rfl)⟩⟩
  obtain ⟨fd_divided_digits, F_divided_digits⟩ := cd.def_ 24 (d := d_divided_digits) rfl
  have F_divided_digits := Fun.ofD (st := s_divided_digits) F_divided_digits
  have c_divided_digits : Cal P w K mg base 24 "divided_digits" ["machine", "a", "b", "short_word"] (mkSp (Pre_divided_digits T)) := ⟨⟨_, _, ok_divided_digits (T := T) F_divided_digits mc c_size_of c_short_division c_long_division (He.free_ok X G (cd.fact 41 (f := .free "reversed") rfl)) c_number_of, He.glo_ok X G (cd.fact 63 (f := .glo "divided_digits") rfl), F_divided_digits.kp, (F_divided_digits.binds (ps := ["machine", "a", "b", "short_word"]) fun _ _ _ _ _ _ us hl => match us, hl with | [_, _, _, _], _ => rfl)⟩⟩
  obtain ⟨fd_has_bits_ahead, F_has_bits_ahead⟩ := cd.def_ 25 (d := d_has_bits_ahead) rfl
  have F_has_bits_ahead := Fun.ofD (st := s_has_bits_ahead) F_has_bits_ahead
  have c_has_bits_ahead : Cal P w K mg base 1 "has_bits_ahead" ["number", "count"] (mkSp (Pre_has_bits_ahead T)) := ⟨⟨_, _, ok_has_bits_ahead (T := T) F_has_bits_ahead , He.glo_ok X G (cd.fact 64 (f := .glo "has_bits_ahead") rfl), F_has_bits_ahead.kp, (F_has_bits_ahead.binds (ps := ["number", "count"]) fun _ _ _ _ _ _ us hl => match us, hl with | [_, _], _ => rfl)⟩⟩
  obtain ⟨fd_moved, F_moved⟩ := cd.def_ 26 (d := d_moved) rfl
  have F_moved := Fun.ofD (st := s_moved) F_moved
  have c_moved : Cal P w K mg base 3 "moved" ["machine", "number", "shift"] (mkSp (Pre_moved T)) := ⟨⟨_, _, ok_moved (T := T) F_moved mc c_size_of c_lifted (He.free_ok X G (cd.fact 56 (f := .free "divmod") rfl)) c_lowered c_has_bits_ahead c_low_part (He.free_ok X G (cd.fact 65 (f := .free "min") rfl)) c_Mach_step, He.glo_ok X G (cd.fact 66 (f := .glo "moved") rfl), F_moved.kp, (F_moved.binds (ps := ["machine", "number", "shift"]) fun _ _ _ _ _ _ us hl => match us, hl with | [_, _, _], _ => rfl)⟩⟩
  obtain ⟨fd_rounded, F_rounded⟩ := cd.def_ 27 (d := d_rounded) rfl
  have F_rounded := Fun.ofD (st := s_rounded) F_rounded
  have c_rounded : Cal P w K mg base 2 "rounded" ["number", "exponent", "has_more"] (mkSp (Pre_rounded T)) := ⟨⟨_, _, ok_rounded (T := T) F_rounded (gInt X G (cd.fact 67 (f := .int "MANTISSA" 53) rfl)) (gInt X G (cd.fact 68 (f := .int "LEAST_EXPONENT" (-1074)) rfl)) (He.free_ok X G (cd.fact 69 (f := .free "max") rfl)), He.glo_ok X G (cd.fact 70 (f := .glo "rounded") rfl), F_rounded.kp, (F_rounded.binds (ps := ["number", "exponent", "has_more"]) fun _ _ _ _ _ _ us hl => match us, hl with | [_, _, _], _ => rfl)⟩⟩
  obtain ⟨fd_ratio, F_ratio⟩ := cd.def_ 28 (d := d_ratio) rfl
  have F_ratio := Fun.ofD (st := s_ratio) F_ratio
  have c_ratio : Cal P w K mg base 25 "ratio" ["machine", "a", "b"] (mkSp (Pre_ratio T)) := ⟨⟨_, _, ok_ratio (T := T) F_ratio (gInt X G (cd.fact 68 (f := .int "LEAST_EXPONENT" (-1074)) rfl)) (gInt X G (cd.fact 67 (f := .int "MANTISSA" 53) rfl)) (He.free_ok X G (cd.fact 69 (f := .free "max") rfl)) (gInt X G (cd.fact 71 (f := .int "ROUNDED_BITS" 55) rfl)) mc c_Mach_step (He.free_ok X G (cd.fact 56 (f := .free "divmod") rfl)) c_has_bits_ahead c_rounded c_size_of c_Mach_enter c_moved c_divided_digits, He.glo_ok X G (cd.fact 72 (f := .glo "ratio") rfl), F_ratio.kp, (F_ratio.binds (ps := ["machine", "a", "b"]) fun _ _ _ _ _ _ us hl => match us, hl with | [_, _, _], _ => rfl)⟩⟩
  obtain ⟨fd_true_quotient, F_true_quotient⟩ := cd.def_ 29 (d := d_true_quotient) rfl
  have F_true_quotient := Fun.ofD (st := s_true_quotient) F_true_quotient
  have c_true_quotient : Cal P w K mg base 26 "true_quotient" ["machine", "x", "y"] (mkSp (Pre_true_quotient T)) := ⟨⟨_, _, ok_true_quotient (T := T) F_true_quotient c_check_division bc (He.free_ok X G (cd.fact 49 (f := .free "abs") rfl)) (gInt X G (cd.fact 73 (f := .int "BOUND" 179769313486231580793728971405303415079934132710037826936173778980444968292764750946649017977587207096330286416692887910946555547851940402630657488671505820681908902000708383676273854845817711531764475730270069855571366959622842914819860834936475292719074168444365510704342711559699508093042880177904174497792) rfl)) c_ratio, He.glo_ok X G (cd.fact 74 (f := .glo "true_quotient") rfl), F_true_quotient.kp, (F_true_quotient.binds (ps := ["machine", "x", "y"]) fun _ _ _ _ _ _ us hl => match us, hl with | [_, _, _], _ => rfl)⟩⟩
  have cx_true_quotient : CalX P w K mg base 26 "true_quotient" ["machine", "x", "y"] (sp2 (Pre_true_quotient T) (PreX_true_quotient T)) := ⟨⟨_, _, FnOk.or (ok_true_quotient (T := T) F_true_quotient c_check_division bc (He.free_ok X G (cd.fact 49 (f := .free "abs") rfl)) (gInt X G (cd.fact 73 (f := .int "BOUND" 179769313486231580793728971405303415079934132710037826936173778980444968292764750946649017977587207096330286416692887910946555547851940402630657488671505820681908902000708383676273854845817711531764475730270069855571366959622842914819860834936475292719074168444365510704342711559699508093042880177904174497792) rfl)) c_ratio) (okx_true_quotient (T := T) F_true_quotient c_check_division bc (He.free_ok X G (cd.fact 49 (f := .free "abs") rfl)) (gInt X G (cd.fact 73 (f := .int "BOUND" 179769313486231580793728971405303415079934132710037826936173778980444968292764750946649017977587207096330286416692887910946555547851940402630657488671505820681908902000708383676273854845817711531764475730270069855571366959622842914819860834936475292719074168444365510704342711559699508093042880177904174497792) rfl)) e_TooGreat), He.glo_ok X G (cd.fact 74 (f := .glo "true_quotient") rfl), F_true_quotient.kp, (F_true_quotient.binds (ps := ["machine", "x", "y"]) fun _ _ _ _ _ _ us hl => match us, hl with | [_, _, _], _ => rfl)⟩⟩
  obtain ⟨fd__law_source, F__law_source⟩ := cd.def_ 30 (d := d__law_source) rfl
  have F__law_source := Fun.ofD (st := s__law_source) F__law_source
  have c__law_source : Cal P w K mg base 1 "_law_source" ["_law_cell"] (mkSp (Pre__law_source T)) := ⟨⟨_, _, ok__law_source (T := T) F__law_source (He.free_ok X G (cd.fact 49 (f := .free "abs") rfl)) (He.free_ok X G (cd.fact 12 (f := .free "int") rfl)), He.glo_ok X G (cd.fact 75 (f := .glo "_law_source") rfl), F__law_source.kp, (F__law_source.binds (ps := ["_law_cell"]) fun _ _ _ _ _ _ us hl => match us, hl with | [_], _ => rfl)⟩⟩
  obtain ⟨fd__law_draw, F__law_draw⟩ := cd.def_ 31 (d := d__law_draw) rfl
  have F__law_draw := Fun.ofD (st := s__law_draw) F__law_draw
  have c__law_draw : Cal P w K mg base 1 "_law_draw" ["_law_source_here", "_law_size"] (mkSp (Pre__law_draw T)) := ⟨⟨_, _, ok__law_draw (T := T) F__law_draw (He.free_ok X G (cd.fact 12 (f := .free "int") rfl)), He.glo_ok X G (cd.fact 76 (f := .glo "_law_draw") rfl), F__law_draw.kp, (F__law_draw.binds (ps := ["_law_source_here", "_law_size"]) fun _ _ _ _ _ _ us hl => match us, hl with | [_, _], _ => rfl)⟩⟩
  obtain ⟨fd__law_pick, F__law_pick⟩ := cd.def_ 32 (d := d__law_pick) rfl
  have F__law_pick := Fun.ofD (st := s__law_pick) F__law_pick
  have c__law_pick : Cal P w K mg base 2 "_law_pick" ["_law_source_here", "_law_items"] (mkSp (Pre__law_pick T)) := ⟨⟨_, _, ok__law_pick (T := T) F__law_pick (He.free_ok X G (cd.fact 17 (f := .free "len") rfl)) c__law_draw, He.glo_ok X G (cd.fact 77 (f := .glo "_law_pick") rfl), F__law_pick.kp, (F__law_pick.binds (ps := ["_law_source_here", "_law_items"]) fun _ _ _ _ _ _ us hl => match us, hl with | [_, _], _ => rfl)⟩⟩
  obtain ⟨fd__law_row, F__law_row⟩ := cd.def_ 33 (d := d__law_row) rfl
  have F__law_row := Fun.ofD (st := s__law_row) F__law_row
  have c__law_row : Cal P w K mg base 2 "_law_row" ["_law_number", "_law_wide"] (mkSp (Pre__law_row T)) := ⟨⟨_, _, ok__law_row (T := T) F__law_row , He.glo_ok X G (cd.fact 78 (f := .glo "_law_row") rfl), F__law_row.kp, (F__law_row.binds (ps := ["_law_number", "_law_wide"]) fun _ _ _ _ _ _ us hl => match us, hl with | [_, _], _ => rfl)⟩⟩
  obtain ⟨fd__law_box, F__law_box⟩ := cd.def_ 34 (d := d__law_box) rfl
  have F__law_box := Fun.ofD (st := s__law_box) F__law_box
  have c__law_box : Cal P w K mg base 5 "_law_box" ["_law_source_here"] (mkSp (Pre__law_box T)) := ⟨⟨_, _, ok__law_box (T := T) F__law_box c__law_draw c__law_pick c_Machine2, He.glo_ok X G (cd.fact 79 (f := .glo "_law_box") rfl), F__law_box.kp, (F__law_box.binds (ps := ["_law_source_here"]) fun _ _ _ _ _ _ us hl => match us, hl with | [_], _ => rfl)⟩⟩
  obtain ⟨fd__law_signed, F__law_signed⟩ := cd.def_ 35 (d := d__law_signed) rfl
  have F__law_signed := Fun.ofD (st := s__law_signed) F__law_signed
  have c__law_signed : Cal P w K mg base 2 "_law_signed" ["_law_source_here", "_law_number"] (mkSp (Pre__law_signed T)) := ⟨⟨_, _, ok__law_signed (T := T) F__law_signed c__law_draw, He.glo_ok X G (cd.fact 80 (f := .glo "_law_signed") rfl), F__law_signed.kp, (F__law_signed.binds (ps := ["_law_source_here", "_law_number"]) fun _ _ _ _ _ _ us hl => match us, hl with | [_, _], _ => rfl)⟩⟩
  obtain ⟨fd__law_due_of, F__law_due_of⟩ := cd.def_ 36 (d := d__law_due_of) rfl
  have F__law_due_of := Fun.ofD (st := s__law_due_of) F__law_due_of
  have c__law_due_of : Cal P w K mg base 1 "_law_due_of" ["_law_counts"] (mkSp (Pre__law_due_of T)) := ⟨⟨_, _, ok__law_due_of (T := T) F__law_due_of (He.free_ok X G (cd.fact 81 (f := .free "dict") rfl)), He.glo_ok X G (cd.fact 82 (f := .glo "_law_due_of") rfl), F__law_due_of.kp, (F__law_due_of.binds (ps := ["_law_counts"]) fun _ _ _ _ _ _ us hl => match us, hl with | [_], _ => rfl)⟩⟩
  obtain ⟨fd__law_long, F__law_long⟩ := cd.def_ 37 (d := d__law_long) rfl
  have F__law_long := Fun.ofD (st := s__law_long) F__law_long
  have c__law_long : Cal P w K mg base 3 "_law_long" ["_law_size", "_law_other", "_law_wide"] (mkSp (Pre__law_long T)) := ⟨⟨_, _, ok__law_long (T := T) F__law_long c__law_row (He.free_ok X G (cd.fact 17 (f := .free "len") rfl)) (He.free_ok X G (cd.fact 12 (f := .free "int") rfl)) (He.free_ok X G (cd.fact 44 (f := .free "range") rfl)), He.glo_ok X G (cd.fact 83 (f := .glo "_law_long") rfl), F__law_long.kp, (F__law_long.binds (ps := ["_law_size", "_law_other", "_law_wide"]) fun _ _ _ _ _ _ us hl => match us, hl with | [_, _, _], _ => rfl)⟩⟩
  obtain ⟨fd__law_long_counts, F__law_long_counts⟩ := cd.def_ 38 (d := d__law_long_counts) rfl
  have F__law_long_counts := Fun.ofD (st := s__law_long_counts) F__law_long_counts
  have c__law_long_counts : Cal P w K mg base 4 "_law_long_counts" ["_law_size", "_law_other", "_law_wide"] (mkSp (Pre__law_long_counts T)) := ⟨⟨_, _, ok__law_long_counts (T := T) F__law_long_counts c__law_long c__law_row (He.free_ok X G (cd.fact 17 (f := .free "len") rfl)) (He.free_ok X G (cd.fact 59 (f := .free "sum") rfl)), He.glo_ok X G (cd.fact 84 (f := .glo "_law_long_counts") rfl), F__law_long_counts.kp, (F__law_long_counts.binds (ps := ["_law_size", "_law_other", "_law_wide"]) fun _ _ _ _ _ _ us hl => match us, hl with | [_, _, _], _ => rfl)⟩⟩
  obtain ⟨fd__law_wide_number, F__law_wide_number⟩ := cd.def_ 39 (d := d__law_wide_number) rfl
  have F__law_wide_number := Fun.ofD (st := s__law_wide_number) F__law_wide_number
  have c__law_wide_number : Cal P w K mg base 3 "_law_wide_number" ["_law_source_here"] (mkSp (Pre__law_wide_number T)) := ⟨⟨_, _, ok__law_wide_number (T := T) F__law_wide_number c__law_pick c__law_draw, He.glo_ok X G (cd.fact 85 (f := .glo "_law_wide_number") rfl), F__law_wide_number.kp, (F__law_wide_number.binds (ps := ["_law_source_here"]) fun _ _ _ _ _ _ us hl => match us, hl with | [_], _ => rfl)⟩⟩
  obtain ⟨fd__law_two, F__law_two⟩ := cd.def_ 40 (d := d__law_two) rfl
  have F__law_two := Fun.ofD (st := s__law_two) F__law_two
  have c__law_two : Cal P w K mg base 4 "_law_two" ["_law_source_here"] (mkSp (Pre__law_two T)) := ⟨⟨_, _, ok__law_two (T := T) F__law_two c__law_wide_number c__law_draw c__law_pick (He.free_ok X G (cd.fact 69 (f := .free "max") rfl)), He.glo_ok X G (cd.fact 86 (f := .glo "_law_two") rfl), F__law_two.kp, (F__law_two.binds (ps := ["_law_source_here"]) fun _ _ _ _ _ _ us hl => match us, hl with | [_], _ => rfl)⟩⟩
  obtain ⟨fd__law_shifted, F__law_shifted⟩ := cd.def_ 41 (d := d__law_shifted) rfl
  have F__law_shifted := Fun.ofD (st := s__law_shifted) F__law_shifted
  have c__law_shifted : Cal P w K mg base 3 "_law_shifted" ["_law_one", "_law_by", "_law_wide"] (mkSp (Pre__law_shifted T)) := ⟨⟨_, _, ok__law_shifted (T := T) F__law_shifted c__law_row (He.free_ok X G (cd.fact 17 (f := .free "len") rfl)) (He.free_ok X G (cd.fact 49 (f := .free "abs") rfl)) (He.free_ok X G (cd.fact 12 (f := .free "int") rfl)), He.glo_ok X G (cd.fact 87 (f := .glo "_law_shifted") rfl), F__law_shifted.kp, (F__law_shifted.binds (ps := ["_law_one", "_law_by", "_law_wide"]) fun _ _ _ _ _ _ us hl => match us, hl with | [_, _, _], _ => rfl)⟩⟩
  obtain ⟨fd__law_due, F__law_due⟩ := cd.def_ 42 (d := d__law_due) rfl
  have F__law_due := Fun.ofD (st := s__law_due) F__law_due
  have c__law_due : Cal P w K mg base 5 "_law_due" ["_law_one", "_law_other", "_law_wide"] (mkSp (Pre__law_due T)) := ⟨⟨_, _, ok__law_due (T := T) F__law_due (He.free_ok X G (cd.fact 69 (f := .free "max") rfl)) c__law_shifted c__law_row (He.free_ok X G (cd.fact 17 (f := .free "len") rfl)) c__law_long_counts, He.glo_ok X G (cd.fact 88 (f := .glo "_law_due") rfl), F__law_due.kp, (F__law_due.binds (ps := ["_law_one", "_law_other", "_law_wide"]) fun _ _ _ _ _ _ us hl => match us, hl with | [_, _, _], _ => rfl)⟩⟩
  obtain ⟨fd__law_doubled, F__law_doubled⟩ := cd.def_ 43 (d := d__law_doubled) rfl
  have F__law_doubled := Fun.ofD (st := s__law_doubled) F__law_doubled
  have c__law_doubled : Cal P w K mg base 2 "_law_doubled" ["_law_box_here", "_law_counts", "_law_walk"] (mkSp (Pre__law_doubled T)) := ⟨⟨_, _, ok__law_doubled (T := T) F__law_doubled mc c_Mach_tally (He.free_ok X G (cd.fact 81 (f := .free "dict") rfl)) c_Mach_walk, He.glo_ok X G (cd.fact 89 (f := .glo "_law_doubled") rfl), F__law_doubled.kp, (F__law_doubled.binds (ps := ["_law_box_here", "_law_counts", "_law_walk"]) fun _ _ _ _ _ _ us hl => match us, hl with | [_, _, _], _ => rfl)⟩⟩
  obtain ⟨fd__law_asked, F__law_asked⟩ := cd.def_ 44 (d := d__law_asked) rfl
  have F__law_asked := Fun.ofD (st := s__law_asked) F__law_asked
  have c__law_asked : Cal P w K mg base 27 "_law_asked" ["_law_box_here", "_law_first", "_law_second"] (mkSp (Pre__law_asked T)) := ⟨⟨_, _, ok__law_asked (T := T) F__law_asked cx_true_quotient e_TooGreat m_TooGreat, He.glo_ok X G (cd.fact 90 (f := .glo "_law_asked") rfl), F__law_asked.kp, (F__law_asked.binds (ps := ["_law_box_here", "_law_first", "_law_second"]) fun _ _ _ _ _ _ us hl => match us, hl with | [_, _, _], _ => rfl)⟩⟩
  obtain ⟨fd__law_right, F__law_right⟩ := cd.def_ 45 (d := d__law_right) rfl
  have F__law_right := Fun.ofD (st := s__law_right) F__law_right
  have c__law_right : Cal P w K mg base 28 "_law_right" ["_law_box_here", "_law_one", "_law_other"] (mkSp (Pre__law_right T)) := ⟨⟨_, _, ok__law_right (T := T) F__law_right c_big mc c_Mach_reset (He.free_ok X G (cd.fact 49 (f := .free "abs") rfl)) c_Mach_parts c__law_due c__law_asked c_Mach_tally (He.free_ok X G (cd.fact 81 (f := .free "dict") rfl)) c__law_due_of c_Mach_walk c__law_doubled c_plain, He.glo_ok X G (cd.fact 91 (f := .glo "_law_right") rfl), F__law_right.kp, (F__law_right.binds (ps := ["_law_box_here", "_law_one", "_law_other"]) fun _ _ _ _ _ _ us hl => match us, hl with | [_, _, _], _ => rfl)⟩⟩
  have F_law := Fun.ofD (st := s_law) G_law
  exact ok_law (T := T) F_law c__law_source c__law_box (He.free_ok X G (cd.fact 44 (f := .free "range") rfl)) c__law_two c__law_wide_number c__law_draw c__law_signed c__law_right c_Machine1
end P

open PySem PySem.W PySem.Calls PyProof.Rows in
theorem PySem.Challenge.cw_thirtybits_k77_steps_of_true_quotients_holds : PySem.Challenge.rw_thirtybits_k77_steps_of_true_quotients.Holds := by
  w_on; o_law
  refine HandSHeadRun.head_any (r := OpenLaw.row PySem.Challenge.rw_thirtybits_k77_steps_of_true_quotients) (q := view (OpenLaw.row PySem.Challenge.rw_thirtybits_k77_steps_of_true_quotients).prog [70]) (H := P.hk) (ob := P.ob) (M := 12000) (loose := P.loose) (d := HandSHeadRun.topDef (OpenLaw.row PySem.Challenge.rw_thirtybits_k77_steps_of_true_quotients).prog 70) (kwd := []) P.ob_eq
    (by kernel_rfl) (fun s => by kernel_rfl) P.run (by kernel_rfl) (by kernel_rfl) (by kernel_rfl) (by rfl) (by first | assumption | decide +kernel) (by decide +kernel) ⟨rfl, rfl, rfl, rfl, rfl, by decide +kernel⟩ ?hw ?hc
  case hw => w_witness2
  case hc =>
    refine L2.walk_ofE (l := PySem.Challenge.rw_thirtybits_k77_steps_of_true_quotients) (n := 63) (k := 29) (x := "_law_script") (CX := L2.CX0) rfl (by decide) (by kernel_rfl) ⟨rfl, by decide, by decide⟩ ?F (fun _ _ _ _ z => z)
    intro w mg fa h Y G hmg0
    obtain ⟨K, KX, c⟩ := Y
    have hmg : mg ("law" : PySem.Str) = some (.ref fa) := by
      have e : (HandSHeadRun.topDef (OpenLaw.row PySem.Challenge.rw_thirtybits_k77_steps_of_true_quotients).prog 70).name = ("law" : PySem.Str) := by kernel_rfl
      rw [← e]
      exact hmg0
    obtain ⟨T, fd, eT, hb, hF⟩ := P.facts (P := (PySem.Challenge.rw_thirtybits_k77_steps_of_true_quotients).prog) (w := w) KX G hmg c
    refine ⟨K, fd, VL.mkSp (P.Pre_law T), KX, hb, fun H a ns hl _ hS => ?_, fun base b1 b2 => hF base b1 b2⟩
    refine ⟨H, [], _, _, ⟨ns, true, rfl, P.law_right ns hl, rfl⟩, .cons ⟨a, ns.map L2.V.int, rfl, by rw [eT]; exact hS, VL.al_of_int⟩ .nil, VL.Holds.nil (L2.Same.refl H), fun F' v H' Ω' _ _ r => r.1⟩
