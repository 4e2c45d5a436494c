import PyProof.Rows.All
import Wide.All
import OpenK.AllK
import Wide.FinOn
import KE.KStateDown
import HandS.Head0
import HandS.Head1
import HandS.Head2
import HandS.HeadEnd
import HandS.HeadHook1
import HandS.HeadHook2
import HandS.HeadHook3
import HandS.HeadHook4
import HandS.ForMost
import HandS.Wide
import HandS.Evl
import HandS.Rev
import HandS.Style
import HandS.IsInst
import HandS.Defaults
import HandS.DictComp
import HandS.WideBits
import KE.GoesEnum
import HandS.TupAny
import HandS.OwnEq
import PyProof.InstNe
import HandS.TryOnly
import HandS.DeepEq
import PyProof.NeKinds
import HandS.TupLe
import HandS.CallLocal
import HandS.Lambda
import HandS.Small
import HandS.Iter
import HandS.More
import KE.KDflt
import HandS.MakeKw
import HandS.MakeKwOnly
import PyProof.Rows.ChunkEnd
import HandS.RevRange
import PyProof.Rows.CountFlat
import KE.OsArith
import HandS.Text
import KE.KBits
import KE.BitLaws
import PySem.Challenge.RW_thirtybits_k73_bytes_read
set_option Elab.async false
set_option linter.all false
set_option maxRecDepth 100000
set_option maxHeartbeats 0
set_option Elab.async false
set_option linter.all false
set_option maxRecDepth 100000
set_option maxHeartbeats 0
namespace VL
open PySem
/-! what is looked at behind the start: the things at places that are told, not those found by walking -/
def obsL (as0 : List Addr) (fa : List He.Fa) (fn : List He.DefD) (tf : List He.Defn) (ex : PySem.W.Frag → Bool) (g : Addr → Option Obj) : He.AlX := ((He.obsD fa fn (He.frT g as0), []), ex (He.frT g as0) && He.tabsB g tf (He.frT g as0))
theorem tabL {g : Addr → Option Obj} {K : PySem.W.Frag} {p : He.Defn} (h : (PySem.W.codeHdIn K (He.cT K p).1 (He.cT K p).2 && (match g (He.cT K p).2 with
    | some o => He.emptyTab o
    | none => false)) = true) : PySem.W.codeHdIn K (He.cT K p).1 (He.cT K p).2 = true ∧ ∃ o, g (He.cT K p).2 = some o ∧ He.emptyTab o = true := by
  rw [Bool.and_eq_true] at h
  refine ⟨h.1, ?_⟩
  revert h
  generalize g (He.cT K p).2 = u
  cases u with
  | none => exact fun h => nomatch h.2
  | some o => exact fun h => ⟨o, rfl, h.2⟩
theorem saysL {as0 : List Addr} {fa : List He.Fa} {fn : List He.DefD} {tf : List He.Defn} {ex : PySem.W.Frag → Bool} {w : World} {h : Heap} (e : obsL as0 fa fn tf ex h.get? = He.valX fn [] w) : He.SaysX fa fn [] tf ex w h (He.frT h.get? as0) := by
  obtain ⟨e1, e2⟩ := Prod.mk.inj e
  rw [Bool.and_eq_true] at e2
  have ts := List.all_eq_true.mp e2.2
  refine { t := e1, more := e2.1, hd := fun p m => (tabL (ts p m)).1, out := fun p m => ?_, empty := fun p m => ?_ }
  · obtain ⟨_, o, q, z⟩ := tabL (ts p m)
    exact He.frT_none q z
  · obtain ⟨_, o, q, z⟩ := tabL (ts p m)
    rw [q, He.emptyTab_eq z]
def hookL (as0 : List Addr) (fa : List He.Fa) (fn : List He.DefD) (tf : List He.Defn) (ex : PySem.W.Frag → Bool) : PySem.W.Hook :=
  ⟨He.AlX, fun s => obsL as0 fa fn tf ex s.heap.get?, fun w => He.valX fn [] w, fun w h => ∃ K : PySem.W.Frag, K.In h ∧ He.SaysX fa fn [] tf ex w h K,
   fun _ _ e => ⟨_, He.frT_in, saysL e⟩, fun _ _ _ ⟨K, i, c⟩ k => ⟨K, i.keeps k, c.t, c.more, c.hd, c.out, fun p m => k _ _ (c.empty p m)⟩⟩
theorem obsL_eq {as0 : List Addr} {fa : List He.Fa} {fn : List He.DefD} {tf : List He.Defn} {ex : PySem.W.Frag → Bool} {g : Addr → Option Obj} {s : PySem.Shared} (h : ∀ a, g a = s.heap.get? a) : obsL as0 fa fn tf ex g = (hookL as0 fa fn tf ex).obs s := by
  show _ = obsL as0 fa fn tf ex s.heap.get?
  rw [show g = s.heap.get? from funext h]
/-- from, how many -/
def addrs (a : Nat) : Nat → List Addr
  | 0 => []
  | n + 1 => a :: addrs (a + 1) n
end VL

namespace VL
open PySem L2 PyProof.Rows
def mwords : List Str := ["short", "sum", "product", "quotient", "corrected", "restored", "shifted", "combined", "complemented", "looked"]
def ownB (K : PySem.W.Frag) (C f : Addr) : Bool := match K.lookup C with
  | some ⟨.type t, _, .cls cd, sl⟩ => (match cd.mro, sl.toList with
    | [.ref C', .type b], [_, _, _, _, some (.builtin n), _] => decide (t = "type") && (decide (C' = C) && (decide (b = "object") && (!cd.hasDel && (PySem.W.nsOkIn K cd.ns && (He.eqO (PySem.W.nsIn K cd.ns "__ne__") (some none) && (He.eqO (PySem.W.nsIn K cd.ns "__eq__") (some (some (.ref f))) &&
        (match K.lookup f with
          | some ⟨.type u, _, _, _⟩ => decide (u = "function")
          | _ => false)))))))
    | _, _ => false)
  | _ => false
end VL
namespace P
open PySem L2 VL
def topS (i : Nat) : Stmt := PySem.Challenge.pw_thirtybits_k73_bytes_read.main.body.getD i (.Pass ⟨0, 0, 0, 0⟩)
abbrev s_is_integer : Stmt := topS 7
abbrev s_is_between : Stmt := topS 8
abbrev s_Mach_step : Stmt := inClass (topS 12) 6
abbrev s_Mach_enter : Stmt := inClass (topS 12) 7
abbrev s_Mach_reset : Stmt := inClass (topS 12) 5
abbrev s_Mach_tally : Stmt := inClass (topS 12) 3
abbrev s_Mach_walk : Stmt := inClass (topS 12) 4
abbrev s_Mach_init : Stmt := inClass (topS 12) 0
abbrev s_Big_eq : Stmt := inClass (topS 22) 1
abbrev s_Big_digits : Stmt := inClass (topS 22) 3
abbrev s_Big_sign : Stmt := inClass (topS 22) 2
abbrev s_Big_bits : Stmt := inClass (topS 22) 4
abbrev s_order_of : Stmt := topS 24
abbrev s_Big_init : Stmt := inClass (topS 22) 0
abbrev s_check_machine : Stmt := topS 13
abbrev s_top_digit : Stmt := topS 16
abbrev s_size_of : Stmt := topS 17
abbrev s_number_of : Stmt := topS 18
abbrev s_low_part : Stmt := topS 20
abbrev s_row_of : Stmt := topS 19
abbrev s_big_of : Stmt := topS 23
abbrev s_big : Stmt := topS 25
abbrev s_check_order : Stmt := topS 32
abbrev s_check_signed : Stmt := topS 33
abbrev s_magnitude_of : Stmt := topS 34
abbrev s_count_reading : Stmt := topS 35
abbrev s_from_bytes : Stmt := topS 31
abbrev s__law_source_of : Stmt := topS 37
abbrev s__law_next : Stmt := topS 38
abbrev s__law_one : Stmt := topS 39
abbrev s__law_cell_at : Stmt := topS 40
abbrev s__law_power : Stmt := topS 41
abbrev s__law_machine : Stmt := topS 42
abbrev s__law_counted : Stmt := topS 43
abbrev s__law_whole : Stmt := topS 44
abbrev s__law_steps : Stmt := topS 45
abbrev s__law_right : Stmt := topS 46
abbrev s__law_bytes : Stmt := topS 47
abbrev s__law_many : Stmt := topS 48
abbrev s_law : Stmt := topS 49
def iclsB (K : PySem.W.Frag) (C : Addr) : Bool := He.eqO (PySem.W.findIn K (.ref C) "__class__") (some (some (.builtin "object.__class__"))) && (He.eqO (PySem.W.specialIn K (.builtin "object.__class__") "__get__") (some (some (.builtin "getset_descriptor.__get__"))) &&
  (decide (PySem.W.takesIn K (.builtin "object.__class__") = some true) && (decide (PySem.W.mroIn K C (.type "object") = some true) && decide (PySem.W.kitOne K (.ref C) (.ref C) = some true))))
def d_is_integer : He.DefD := ⟨("is_integer", none), "is_integer", "is_integer", defArgs s_is_integer, defBody s_is_integer, defScope s_is_integer, [], []⟩
def d_is_between : He.DefD := ⟨("is_between", none), "is_between", "is_between", defArgs s_is_between, defBody s_is_between, defScope s_is_between, [], []⟩
def d_order_of : He.DefD := ⟨("order_of", none), "order_of", "order_of", defArgs s_order_of, defBody s_order_of, defScope s_order_of, [], []⟩
def d_check_machine : He.DefD := ⟨("check_machine", none), "check_machine", "check_machine", defArgs s_check_machine, defBody s_check_machine, defScope s_check_machine, [], []⟩
def d_top_digit : He.DefD := ⟨("top_digit", none), "top_digit", "top_digit", defArgs s_top_digit, defBody s_top_digit, defScope s_top_digit, [], []⟩
def d_size_of : He.DefD := ⟨("size_of", none), "size_of", "size_of", defArgs s_size_of, defBody s_size_of, defScope s_size_of, [], []⟩
def d_number_of : He.DefD := ⟨("number_of", none), "number_of", "number_of", defArgs s_number_of, defBody s_number_of, defScope s_number_of, [], []⟩
def d_low_part : He.DefD := ⟨("low_part", none), "low_part", "low_part", defArgs s_low_part, defBody s_low_part, defScope s_low_part, [], []⟩
def d_row_of : He.DefD := ⟨("row_of", none), "row_of", "row_of", defArgs s_row_of, defBody s_row_of, defScope s_row_of, [], []⟩
def d_big_of : He.DefD := ⟨("big_of", none), "big_of", "big_of", defArgs s_big_of, defBody s_big_of, defScope s_big_of, [], []⟩
def d_big : He.DefD := ⟨("big", none), "big", "big", defArgs s_big, defBody s_big, defScope s_big, [], []⟩
def d_check_order : He.DefD := ⟨("check_order", none), "check_order", "check_order", defArgs s_check_order, defBody s_check_order, defScope s_check_order, [], []⟩
def d_check_signed : He.DefD := ⟨("check_signed", none), "check_signed", "check_signed", defArgs s_check_signed, defBody s_check_signed, defScope s_check_signed, [], []⟩
def d_magnitude_of : He.DefD := ⟨("magnitude_of", none), "magnitude_of", "magnitude_of", defArgs s_magnitude_of, defBody s_magnitude_of, defScope s_magnitude_of, [], []⟩
def d_count_reading : He.DefD := ⟨("count_reading", none), "count_reading", "count_reading", defArgs s_count_reading, defBody s_count_reading, defScope s_count_reading, [], []⟩
def d_from_bytes : He.DefD := ⟨("from_bytes", none), "from_bytes", "from_bytes", defArgs s_from_bytes, defBody s_from_bytes, defScope s_from_bytes, [.str "big"], [("signed", .bl false)]⟩
def d__law_source_of : He.DefD := ⟨("_law_source_of", none), "_law_source_of", "_law_source_of", defArgs s__law_source_of, defBody s__law_source_of, defScope s__law_source_of, [], []⟩
def d__law_next : He.DefD := ⟨("_law_next", none), "_law_next", "_law_next", defArgs s__law_next, defBody s__law_next, defScope s__law_next, [], []⟩
def d__law_one : He.DefD := ⟨("_law_one", none), "_law_one", "_law_one", defArgs s__law_one, defBody s__law_one, defScope s__law_one, [], []⟩
def d__law_cell_at : He.DefD := ⟨("_law_cell_at", none), "_law_cell_at", "_law_cell_at", defArgs s__law_cell_at, defBody s__law_cell_at, defScope s__law_cell_at, [], []⟩
def d__law_power : He.DefD := ⟨("_law_power", none), "_law_power", "_law_power", defArgs s__law_power, defBody s__law_power, defScope s__law_power, [], []⟩
def d__law_machine : He.DefD := ⟨("_law_machine", none), "_law_machine", "_law_machine", defArgs s__law_machine, defBody s__law_machine, defScope s__law_machine, [], []⟩
def d__law_counted : He.DefD := ⟨("_law_counted", none), "_law_counted", "_law_counted", defArgs s__law_counted, defBody s__law_counted, defScope s__law_counted, [], []⟩
def d__law_whole : He.DefD := ⟨("_law_whole", none), "_law_whole", "_law_whole", defArgs s__law_whole, defBody s__law_whole, defScope s__law_whole, [], []⟩
def d__law_steps : He.DefD := ⟨("_law_steps", none), "_law_steps", "_law_steps", defArgs s__law_steps, defBody s__law_steps, defScope s__law_steps, [], []⟩
def d__law_right : He.DefD := ⟨("_law_right", none), "_law_right", "_law_right", defArgs s__law_right, defBody s__law_right, defScope s__law_right, [], []⟩
def d__law_bytes : He.DefD := ⟨("_law_bytes", none), "_law_bytes", "_law_bytes", defArgs s__law_bytes, defBody s__law_bytes, defScope s__law_bytes, [], []⟩
def d__law_many : He.DefD := ⟨("_law_many", none), "_law_many", "_law_many", defArgs s__law_many, defBody s__law_many, defScope s__law_many, [], []⟩
def d_law : He.DefD := ⟨("law", none), "law", "law", defArgs s_law, defBody s_law, defScope s_law, [], []⟩
def d_Mach_step : He.DefD := ⟨("Machine", some "step"), "step", "Machine.step", defArgs s_Mach_step, defBody s_Mach_step, defScope s_Mach_step, [], []⟩
def d_Mach_enter : He.DefD := ⟨("Machine", some "enter"), "enter", "Machine.enter", defArgs s_Mach_enter, defBody s_Mach_enter, defScope s_Mach_enter, [], []⟩
def d_Mach_reset : He.DefD := ⟨("Machine", some "reset"), "reset", "Machine.reset", defArgs s_Mach_reset, defBody s_Mach_reset, defScope s_Mach_reset, [], []⟩
def d_Mach_tally : He.DefD := ⟨("Machine", some "tally"), "tally", "Machine.tally", defArgs s_Mach_tally, defBody s_Mach_tally, defScope s_Mach_tally, [], []⟩
def d_Mach_walk : He.DefD := ⟨("Machine", some "walk"), "walk", "Machine.walk", defArgs s_Mach_walk, defBody s_Mach_walk, defScope s_Mach_walk, [], []⟩
def d_Mach_init : He.DefD := ⟨("Machine", some "__init__"), "__init__", "Machine.__init__", defArgs s_Mach_init, defBody s_Mach_init, defScope s_Mach_init, [.int 30, .int 70], []⟩
def d_Big_init : He.DefD := ⟨("Big", some "__init__"), "__init__", "Big.__init__", defArgs s_Big_init, defBody s_Big_init, defScope s_Big_init, [], []⟩
def d_Big_eq : He.DefD := ⟨("Big", some "__eq__"), "__eq__", "Big.__eq__", defArgs s_Big_eq, defBody s_Big_eq, defScope s_Big_eq, [], []⟩
def d_Big_digits : He.DefD := ⟨("Big", some "digits"), "digits", "Big.digits", defArgs s_Big_digits, defBody s_Big_digits, defScope s_Big_digits, [], []⟩
def d_Big_sign : He.DefD := ⟨("Big", some "sign"), "sign", "Big.sign", defArgs s_Big_sign, defBody s_Big_sign, defScope s_Big_sign, [], []⟩
def d_Big_bits : He.DefD := ⟨("Big", some "bits"), "bits", "Big.bits", defArgs s_Big_bits, defBody s_Big_bits, defScope s_Big_bits, [], []⟩
def fa0 : List He.Fa := [.cls "Machine", .noat "Machine" "width", .noat "Machine" "cutoff", .noat "Machine" "counts", .noat "Machine" "entered", .cls "Big", .noat "Big" "width", .noat "Big" "side", .noat "Big" "row", .noat "Big" "value", .free "isinstance", .free "int", .free "bool", .glo "is_integer", .glo "is_between", .meth "Machine" "step", .free "len", .int "LONGEST_WALK" 1000, .meth "Machine" "enter", .glo "WORDS", .meth "Machine" "reset", .meth "Machine" "tally", .free "list", .meth "Machine" "walk", .glo "Machine", .mkr "Machine", .glo "Big", .meth "Big" "__eq__", .meth "Big" "digits", .meth "Big" "sign"]
def fa1 : List He.Fa := [.meth "Big" "bits", .glo "order_of", .free "tuple", .mkr "Big", .glo "check_machine", .glo "top_digit", .glo "size_of", .glo "number_of", .int "LONGEST_LOOP" 32, .free "reversed", .glo "low_part", .glo "row_of", .free "range", .free "abs", .glo "big_of", .glo "big", .free "str", .glo "check_order", .glo "check_signed", .glo "magnitude_of", .int "BYTE" 8, .free "min", .glo "count_reading", .int "LONGEST_ROW" 10000, .int "GREATEST_BYTE" 255, .free "all", .int "SIGN_BYTE" 128, .glo "from_bytes", .glo "_law_source_of", .glo "_law_next"]
def fa2 : List He.Fa := [.glo "_law_one", .glo "_law_cell_at", .glo "_law_power", .glo "_law_machine", .free "dict", .glo "_law_counted", .glo "_law_whole", .free "enumerate", .glo "_law_steps", .glo "_law_right", .glo "_law_bytes", .glo "_law_many", .glo "law"]
def fa : List He.Fa := fa0 ++ fa1 ++ fa2
def fn : List He.DefD := [d_is_integer, d_is_between, d_order_of, d_check_machine, d_top_digit, d_size_of, d_number_of, d_low_part, d_row_of, d_big_of, d_big, d_check_order, d_check_signed, d_magnitude_of, d_count_reading, d_from_bytes, d__law_source_of, d__law_next, d__law_one, d__law_cell_at, d__law_power, d__law_machine, d__law_counted, d__law_whole, d__law_steps, d__law_right, d__law_bytes, d__law_many, d_law, d_Mach_step, d_Mach_enter, d_Mach_reset, d_Mach_tally, d_Mach_walk, d_Mach_init, d_Big_init, d_Big_eq, d_Big_digits, d_Big_sign, d_Big_bits]
def exB (K : PySem.W.Frag) : Bool := He.tupB K "WORDS" (mwords.map He.Dv.str) && (iclsB K (He.ga K "Machine") && (iclsB K (He.ga K "Big") && ownB K (He.ga K "Big") (He.ma K (He.ga K "Big") "__eq__")))
def loose0 : List Str := ["_wall", "BitsError", "InvalidMachine", "InvalidBound", "shown", "is_integer", "is_between", "WORDS", "LONGEST_WALK", "Machine", "check_machine", "LONGEST_LOOP", "top_digit", "size_of", "number_of", "row_of", "low_part", "Big", "big_of", "order_of", "big", "LONGEST_ROW", "BYTE", "GREATEST_BYTE", "SIGN_BYTE", "from_bytes", "check_order", "check_signed", "magnitude_of", "count_reading"]
def loose1 : List Str := ["_law_source_of", "_law_next", "_law_one", "_law_cell_at", "_law_power", "_law_machine", "_law_counted", "_law_whole", "_law_steps", "_law_right", "_law_bytes", "_law_many"]
def loose : List Str := loose0 ++ loose1
abbrev R : PySem.W.OpenRow := PySem.W.OpenLaw.row PySem.Challenge.rw_thirtybits_k73_bytes_read
abbrev hk : PySem.W.Hook := hookL (addrs 0 1200) fa fn [] exB
def ob (s : PySem.W.SharedT) : He.AlX := obsL (addrs 0 1200) fa fn [] exB (HandSHeadRun.getT s)
theorem ob_eq (s : PySem.W.SharedT) : ob s = hk.obs s.abs := obsL_eq (HandSHeadRun.getT_eq s)
theorem run (w : World) : HandSHeadRun.RunEq R (PySem.W.view R.prog [49]) hk ob 12000 loose w := by
  intro os
  kernel_rfl
end P
set_option maxHeartbeats 200000
set_option Elab.async false
set_option linter.all false
set_option maxRecDepth 100000
/-! What a body does, by values: Holds (the frozen part, the changing things, by place), Env (the slots), XG, XE, XT, XA, XS. -/
namespace VL
open PySem L2

/-! ### the frozen part and the changing things -/
structure VA where
  P : Hp → V → Prop
  mono : ∀ {F F' : Hp} {v : V}, Same F F' → P F v → P F' v
structure OA where
  P : Hp → Hp → Prop
  mono : ∀ {F F' t : Hp}, Same F F' → P F t → P F' t

def Holds (F : Hp) (Ω : List OA) (H : Hp) : Prop :=
  ∃ ts : Nat → Hp, (∀ (i : Nat) (o : OA), Ω[i]? = some o → o.P F (ts i)) ∧ Same F H ∧ (∀ i : Nat, i < Ω.length → Same (ts i) H) ∧
    (∀ (i : Nat) (b : Addr) (o : HO), i < Ω.length → ts i b = some o → F b = none) ∧
    ∀ (i j : Nat) (b : Addr) (o : HO), i < Ω.length → j < Ω.length → i ≠ j → ts i b = some o → ts j b = none

theorem getlt {α : Type} {l : List α} {i : Nat} {a : α} (h : l[i]? = some a) : i < l.length := (List.getElem?_eq_some_iff.mp h).1
theorem nn {F : Hp} {b : Addr} {o : HO} (h : F b = some o) (h' : F b = none) : False := by rw [h] at h'; cases h'
theorem same_upd {H : Hp} {p : Addr} {o : HO} (h : H p = none) : Same H (upd H p o) := fun b x e => by
  rw [upd_ne (ne_of_none e h)]; exact e

section
variable {F F' H H' : Hp} {Ω : List OA} {o o' : OA} {i j : Nat} {a p : Addr} {u u' : HO}
theorem Holds.same (h : Holds F Ω H) : Same F H := let ⟨_, _, q, _⟩ := h; q
theorem Holds.nil (h : Same F H) : Holds F [] H := ⟨fun _ _ => none, fun i o q => by simp at q, h, fun i q => absurd q (Nat.not_lt_zero _), fun i _ _ q => absurd q (Nat.not_lt_zero _), fun i _ _ _ q => absurd q (Nat.not_lt_zero _)⟩
/-- a new frozen object -/
theorem Holds.newF (h : Holds F Ω H) (n : H p = none) : Holds (upd F p u) Ω (upd H p u) ∧ Same F (upd F p u) := by
  obtain ⟨ts, h1, h2, h3, h4, h5⟩ := h
  have nF : F p = none := h2.free n
  have sF : Same F (upd F p u) := same_upd nF
  have nt : ∀ i, i < Ω.length → ts i p = none := fun i q => (h3 i q).free n
  refine ⟨⟨ts, fun i o q => o.mono sF (h1 i o q), fun b x e => ?_, fun i q => (h3 i q).trans (same_upd n), fun i b x q e => ?_, h5⟩, sF⟩
  · by_cases hb : b = p
    · subst hb; rw [upd_same] at e ⊢; exact e
    · rw [upd_ne hb] at e ⊢; exact h2 b x e
  · have hb : b ≠ p := fun z => by subst z; exact nn e (nt i q)
    rw [upd_ne hb]; exact h4 i b x q e
theorem app_at {α : Type} {l : List α} {a : α} : (l ++ [a])[l.length]? = some a := by simp
theorem app_lt {α : Type} {l : List α} {a b : α} {i : Nat} (h : l[i]? = some b) : (l ++ [a])[i]? = some b := by
  rw [List.getElem?_append_left (getlt h)]; exact h
/-- a new changing thing, behind the others -/
theorem Holds.newO {t : Hp} (h : Holds F Ω H) (n : ∀ b x, t b = some x → H b = none) (e : Same H H') (et : Same t H') (ok : o.P F t) : Holds F (Ω ++ [o]) H' := by
  obtain ⟨ts, h1, h2, h3, h4, h5⟩ := h
  have len : (Ω ++ [o]).length = Ω.length + 1 := by simp
  refine ⟨fun k => if k = Ω.length then t else ts k, fun i x q => ?_, h2.trans e, fun i q => ?_, fun i b x q r => ?_, fun i j b x qi qj ne r => ?_⟩
  · show x.P F (if i = Ω.length then t else ts i)
    by_cases hi : i = Ω.length
    · subst hi; rw [app_at] at q; cases q; rw [if_pos rfl]; exact ok
    · rw [if_neg hi]
      have lt : i < Ω.length := by have := getlt q; omega
      rw [List.getElem?_append_left lt] at q
      exact h1 i x q
  · show Same (if i = Ω.length then t else ts i) H'
    by_cases hi : i = Ω.length
    · rw [if_pos hi]; exact et
    · rw [if_neg hi]; exact (h3 i (by omega)).trans e
  · have r : (if i = Ω.length then t else ts i) b = some x := r
    by_cases hi : i = Ω.length
    · rw [if_pos hi] at r; exact h2.free (n b x r)
    · rw [if_neg hi] at r; exact h4 i b x (by omega) r
  · have r : (if i = Ω.length then t else ts i) b = some x := r
    show (if j = Ω.length then t else ts j) b = none
    by_cases hi : i = Ω.length
    · rw [if_pos hi] at r
      rw [if_neg (fun z => ne (hi.trans z.symm))]
      exact (h3 j (by omega)).free (n b x r)
    · rw [if_neg hi] at r
      by_cases hj : j = Ω.length
      · rw [if_pos hj]
        cases q : t b with
        | none => rfl
        | some y => exact (nn (h3 i (by omega) b x r) (n b y q)).elim
      · rw [if_neg hj]; exact h5 i j b x (by omega) (by omega) ne r
theorem sng_some {b : Addr} {x : HO} (e : upd (fun _ => none) p u b = some x) : b = p := by
  by_cases h : b = p
  · exact h
  · rw [upd_ne h] at e; cases e
theorem Holds.newL (h : Holds F Ω H) (n : H p = none) (ok : o.P F (upd (fun _ => none) p u)) : Holds F (Ω ++ [o]) (upd H p u) :=
  h.newO (t := upd (fun _ => none) p u) (fun b x e => by rw [sng_some e]; exact n) (same_upd n) (fun b x e => by
    have hb := sng_some e
    subst hb; rw [upd_same] at e ⊢; exact e) ok
/-- the thing at i: its part of the heap; it may be changed there -/
theorem Holds.get (h : Holds F Ω H) (q : Ω[i]? = some o) : ∃ t, o.P F t ∧ Same t H ∧ (∀ b x, t b = some x → F b = none) ∧
    ∀ (o' : OA) (a : Addr) (u u' : HO), t a = some u → o'.P F (upd t a u') → Holds F (Ω.set i o') (upd H a u') := by
  obtain ⟨ts, h1, h2, h3, h4, h5⟩ := h
  have lt := getlt q
  refine ⟨ts i, h1 i o q, h3 i lt, fun b x e => h4 i b x lt e, fun o' a u u' ha ok => ?_⟩
  have nF : F a = none := h4 i a u lt ha
  have tj : ∀ j, j < Ω.length → j ≠ i → ts j a = none := fun j lj ne => h5 i j a u lt lj (fun z => ne z.symm) ha
  refine ⟨fun k => if k = i then upd (ts i) a u' else ts k, fun k x r => ?_, fun b x e => ?_, fun k lk b x e => ?_, fun k b x lk e => ?_, fun k m b x lk lm ne e => ?_⟩
  · show x.P F (if k = i then _ else ts k)
    by_cases hk : k = i
    · subst hk
      rw [List.getElem?_set_self lt] at r; cases r; rw [if_pos rfl]; exact ok
    · rw [if_neg hk]
      rw [List.getElem?_set_ne (fun z => hk z.symm)] at r
      exact h1 k x r
  · rw [upd_ne (ne_of_none e nF)]; exact h2 b x e
  · rw [List.length_set] at lk
    have e : (if k = i then upd (ts i) a u' else ts k) b = some x := e
    by_cases hk : k = i
    · rw [if_pos hk] at e
      by_cases hb : b = a
      · subst hb; rw [upd_same] at e ⊢; exact e
      · rw [upd_ne hb] at e ⊢; exact h3 i lt b x e
    · rw [if_neg hk] at e
      rw [upd_ne (ne_of_none e (tj k lk hk))]; exact h3 k lk b x e
  · rw [List.length_set] at lk
    have e : (if k = i then upd (ts i) a u' else ts k) b = some x := e
    by_cases hk : k = i
    · rw [if_pos hk] at e
      by_cases hb : b = a
      · subst hb; exact nF
      · rw [upd_ne hb] at e; exact h4 i b x lt e
    · rw [if_neg hk] at e; exact h4 k b x lk e
  · rw [List.length_set] at lk lm
    have e : (if k = i then upd (ts i) a u' else ts k) b = some x := e
    show (if m = i then upd (ts i) a u' else ts m) b = none
    by_cases hk : k = i
    · rw [if_pos hk] at e
      have hm : m ≠ i := fun z => ne (hk.trans z.symm)
      rw [if_neg hm]
      by_cases hb : b = a
      · subst hb; exact tj m lm hm
      · rw [upd_ne hb] at e; exact h5 i m b x lt lm (fun z => hm z.symm) e
    · rw [if_neg hk] at e
      by_cases hm : m = i
      · rw [if_pos hm]
        have hb : b ≠ a := ne_of_none e (tj k lk hk)
        rw [upd_ne hb]; exact h5 k i b x lk lt hk e
      · rw [if_neg hm]; exact h5 k m b x lk lm ne e
/-- the last thing is left -/
theorem Holds.drop (h : Holds F (Ω ++ [o]) H) : Holds F Ω H := by
  obtain ⟨ts, h1, h2, h3, h4, h5⟩ := h
  have len : (Ω ++ [o]).length = Ω.length + 1 := by simp
  exact ⟨ts, fun i x q => h1 i x (app_lt q), h2, fun i q => h3 i (by omega), fun i b x q => h4 i b x (by omega), fun i j b x qi qj => h5 i j b x (by omega) (by omega)⟩
/-- two maps with nothing in common -/
def cup (F t : Hp) : Hp := fun b => match F b with | some o => some o | none => t b
theorem cup_l {F t : Hp} : Same F (cup F t) := fun b x e => by show (match F b with | some o => some o | none => t b) = _; rw [e]
theorem cup_r {F t : Hp} (d : ∀ b x, t b = some x → F b = none) : Same t (cup F t) := fun b x e => by show (match F b with | some o => some o | none => t b) = _; rw [d b x e]; exact e
theorem cup_or {F t : Hp} {b : Addr} {x : HO} (e : cup F t b = some x) : F b = some x ∨ t b = some x := by
  have e : (match F b with | some o => some o | none => t b) = some x := e
  cases h : F b with
  | none => rw [h] at e; exact .inr e
  | some y => rw [h] at e; exact .inl e
/-- the last thing becomes frozen -/
theorem Holds.freeze (h : Holds F (Ω ++ [o]) H) : ∃ F' t, Same F F' ∧ Same t F' ∧ o.P F t ∧ Holds F' Ω H := by
  obtain ⟨ts, h1, h2, h3, h4, h5⟩ := h
  have len : (Ω ++ [o]).length = Ω.length + 1 := by simp
  have d : ∀ b x, ts Ω.length b = some x → F b = none := fun b x e => h4 Ω.length b x (by omega) e
  refine ⟨cup F (ts Ω.length), ts Ω.length, cup_l, cup_r d, h1 _ _ app_at, ts, fun i x q => x.mono cup_l (h1 i x (app_lt q)), fun b x e => ?_, fun i q => h3 i (by omega), fun i b x q e => ?_, fun i j b x qi qj => h5 i j b x (by omega) (by omega)⟩
  · rcases cup_or e with e | e
    · exact h2 b x e
    · exact h3 Ω.length (by omega) b x e
  · cases z : cup F (ts Ω.length) b with
    | none => rfl
    | some y =>
      rcases cup_or z with z | z
      · exact (nn z (h4 i b x (by omega) e)).elim
      · exact (nn z (h5 i Ω.length b x (by omega) (by omega) (by omega) e)).elim
/-- the last thing is taken into the thing at i -/
theorem Holds.merge {o2 : OA} (h : Holds F (Ω ++ [o2]) H) (q : Ω[i]? = some o) : ∃ t t2, o.P F t ∧ o2.P F t2 ∧ Same t H ∧ Same t2 H ∧ (∀ b x, t b = some x → t2 b = none) ∧
    (∀ o' : OA, o'.P F (cup t t2) → Holds F (Ω.set i o') H) := by
  obtain ⟨ts, h1, h2, h3, h4, h5⟩ := h
  have len : (Ω ++ [o2]).length = Ω.length + 1 := by simp
  have lt := getlt q
  refine ⟨ts i, ts Ω.length, h1 i o (app_lt q), h1 _ _ app_at, h3 i (by omega), h3 _ (by omega), fun b x e => h5 i Ω.length b x (by omega) (by omega) (by omega) e, fun o' ok => ?_⟩
  refine ⟨fun k => if k = i then cup (ts i) (ts Ω.length) else ts k, fun k x r => ?_, h2, fun k lk b x e => ?_, fun k b x lk e => ?_, fun k m b x lk lm ne e => ?_⟩
  · show x.P F (if k = i then _ else ts k)
    by_cases hk : k = i
    · subst hk
      rw [List.getElem?_set_self lt] at r; cases r; rw [if_pos rfl]; exact ok
    · rw [if_neg hk]
      rw [List.getElem?_set_ne (fun z => hk z.symm)] at r
      exact h1 k x (app_lt r)
  · rw [List.length_set] at lk
    have e : (if k = i then cup (ts i) (ts Ω.length) else ts k) b = some x := e
    by_cases hk : k = i
    · rw [if_pos hk] at e
      rcases cup_or e with e | e
      · exact h3 i (by omega) b x e
      · exact h3 Ω.length (by omega) b x e
    · rw [if_neg hk] at e; exact h3 k (by omega) b x e
  · rw [List.length_set] at lk
    have e : (if k = i then cup (ts i) (ts Ω.length) else ts k) b = some x := e
    by_cases hk : k = i
    · rw [if_pos hk] at e
      rcases cup_or e with e | e
      · exact h4 i b x (by omega) e
      · exact h4 Ω.length b x (by omega) e
    · rw [if_neg hk] at e; exact h4 k b x (by omega) e
  · rw [List.length_set] at lk lm
    have e : (if k = i then cup (ts i) (ts Ω.length) else ts k) b = some x := e
    show (if m = i then cup (ts i) (ts Ω.length) else ts m) b = none
    by_cases hk : k = i
    · rw [if_pos hk] at e
      have hm : m ≠ i := fun z => ne (hk.trans z.symm)
      rw [if_neg hm]
      rcases cup_or e with e | e
      · exact h5 i m b x (by omega) (by omega) (by omega) e
      · exact h5 Ω.length m b x (by omega) (by omega) (by omega) e
    · rw [if_neg hk] at e
      by_cases hm : m = i
      · rw [if_pos hm]
        cases z : cup (ts i) (ts Ω.length) b with
        | none => rfl
        | some y =>
          rcases cup_or z with z | z
          · exact (nn z (h5 k i b x (by omega) (by omega) hk e)).elim
          · exact (nn z (h5 k Ω.length b x (by omega) (by omega) (by omega) e)).elim
      · rw [if_neg hm]; exact h5 k m b x (by omega) (by omega) ne e
end

/-! ### values by what they stand for -/
structure TC where
  K : PySem.W.Frag
  C : Nat → Addr
class Rp (α : Type) where
  rep : TC → Hp → V → α → Prop
  mono : ∀ {T : TC} {F F' : Hp} {v : V} {a : α}, Same F F' → rep T F v a → rep T F' v a
def va (T : TC) {α : Type} [Rp α] (a : α) : VA := ⟨fun F v => Rp.rep T F v a, Rp.mono⟩
def vr (p : Addr) : VA := ⟨fun _ v => v = .ref p, fun _ h => h⟩
def vx (v0 : V) : VA := ⟨fun _ v => v = v0, fun _ h => h⟩
instance : Rp Int := ⟨fun _ _ v n => v = .int n, fun _ h => h⟩
instance : Rp Bool := ⟨fun _ _ v n => v = .bl n, fun _ h => h⟩
instance : Rp Str := ⟨fun _ _ v n => v = .str n, fun _ h => h⟩
instance : Rp Unit := ⟨fun _ _ v _ => v = .non, fun _ h => h⟩
/-- a list that stays, a tuple of one kind, a pair, a triple -/
structure LF (α : Type) where
  l : List α
structure TF (α : Type) where
  l : List α
/-- the script -/
structure SF (α : Type) where
  l : List α
structure T3 (α β γ : Type) where
  a : α
  b : β
  c : γ
def Al {α : Type} [Rp α] (T : TC) (F : Hp) (vs : List V) (l : List α) : Prop := Paired (fun v a => Rp.rep T F v a) vs l
theorem Al.mono {α : Type} [Rp α] {T : TC} {F F' : Hp} (e : Same F F') : ∀ {vs : List V} {l : List α}, Al T F vs l → Al T F' vs l
  | _, _, .nil => .nil
  | _, _, .cons h t => .cons (Rp.mono e h) (Al.mono e t)
theorem Same.tup {K : PySem.W.Frag} {H H' : Hp} {a : Addr} {xs : List V} (e : Same H H') (h : SqT K H a xs) : SqT K H' a xs := by
  rcases h with (h | ⟨o, h⟩) | h
  · exact .inl (.inl (e _ _ h))
  · exact .inl (.inr ⟨o, e _ _ h⟩)
  · exact .inr h
instance {α : Type} [Rp α] : Rp (LF α) := ⟨fun T F v l => ∃ p vs, v = .ref p ∧ F p = some (.lst vs) ∧ Al T F vs l.l, fun e ⟨p, vs, h1, h2, h3⟩ => ⟨p, vs, h1, e _ _ h2, h3.mono e⟩⟩
instance {α : Type} [Rp α] : Rp (SF α) := ⟨fun T F v l => ∃ p vs, v = .ref p ∧ SqL T.K F p vs ∧ Al T F vs l.l, fun e ⟨p, vs, h1, h2, h3⟩ => ⟨p, vs, h1, e.seq h2, h3.mono e⟩⟩
instance {α : Type} [Rp α] : Rp (TF α) := ⟨fun T F v l => ∃ p vs, v = .ref p ∧ SqT T.K F p vs ∧ Al T F vs l.l, fun e ⟨p, vs, h1, h2, h3⟩ => ⟨p, vs, h1, Same.tup e h2, h3.mono e⟩⟩
instance {α β : Type} [Rp α] [Rp β] : Rp (α × β) := ⟨fun T F v l => ∃ p x y, v = .ref p ∧ SqT T.K F p [x, y] ∧ Rp.rep T F x l.1 ∧ Rp.rep T F y l.2, fun e ⟨p, x, y, h1, h2, h3, h4⟩ => ⟨p, x, y, h1, Same.tup e h2, Rp.mono e h3, Rp.mono e h4⟩⟩
instance {α β γ : Type} [Rp α] [Rp β] [Rp γ] : Rp (T3 α β γ) := ⟨fun T F v l => ∃ p x y z, v = .ref p ∧ SqT T.K F p [x, y, z] ∧ Rp.rep T F x l.a ∧ Rp.rep T F y l.b ∧ Rp.rep T F z l.c, fun e ⟨p, x, y, z, h1, h2, h3, h4, h5⟩ => ⟨p, x, y, z, h1, Same.tup e h2, Rp.mono e h3, Rp.mono e h4, Rp.mono e h5⟩⟩
theorem al_of_int {T : TC} {F : Hp} : ∀ {l : List Int}, Al T F (l.map V.int) l
  | [] => .nil
  | x :: r => .cons (show V.int x = V.int x from rfl) al_of_int
theorem al_len {α : Type} [Rp α] {T : TC} {F : Hp} : ∀ {vs : List V} {l : List α}, Al T F vs l → vs.length = l.length
  | _, _, .nil => rfl
  | _, _, .cons _ t => congrArg (· + 1) (al_len t)
theorem al_get {α : Type} [Rp α] {T : TC} {F : Hp} : ∀ {vs : List V} {l : List α} {i : Nat} {a : α}, Al T F vs l → l[i]? = some a → ∃ v, vs[i]? = some v ∧ Rp.rep T F v a
  | _, _, _, _, .nil, e => by simp at e
  | _, _, 0, _, .cons h _, e => by cases e; exact ⟨_, rfl, h⟩
  | _, _, i + 1, _, .cons _ t, e => al_get (i := i) t e
theorem al_set {α : Type} [Rp α] {T : TC} {F : Hp} {v : V} {a : α} (h : Rp.rep T F v a) : ∀ {vs : List V} {l : List α} (i : Nat), Al T F vs l → Al T F (vs.set i v) (l.set i a)
  | _, _, _, .nil => .nil
  | _, _, 0, .cons _ t => .cons h t
  | _, _, i + 1, .cons q t => .cons q (al_set h i t)
theorem al_app {α : Type} [Rp α] {T : TC} {F : Hp} : ∀ {vs ws : List V} {l m : List α}, Al T F vs l → Al T F ws m → Al T F (vs ++ ws) (l ++ m)
  | _, _, _, _, .nil, h => h
  | _, _, _, _, .cons q t, h => .cons q (al_app t h)
theorem al_take {α : Type} [Rp α] {T : TC} {F : Hp} : ∀ {vs : List V} {l : List α} (n : Nat), Al T F vs l → Al T F (vs.take n) (l.take n)
  | _, _, 0, _ => .nil
  | _, _, _ + 1, .nil => .nil
  | _, _, n + 1, .cons q t => .cons q (al_take n t)
theorem al_drop {α : Type} [Rp α] {T : TC} {F : Hp} : ∀ {vs : List V} {l : List α} (n : Nat), Al T F vs l → Al T F (vs.drop n) (l.drop n)
  | _, _, 0, h => h
  | _, _, _ + 1, .nil => .nil
  | _, _, n + 1, .cons _ t => al_drop n t
theorem al_rev {α : Type} [Rp α] {T : TC} {F : Hp} : ∀ {vs : List V} {l : List α}, Al T F vs l → Al T F vs.reverse l.reverse
  | _, _, .nil => .nil
  | _, _, .cons h t => by rw [List.reverse_cons, List.reverse_cons]; exact al_app (al_rev t) (.cons h .nil)

/-- a list that changes -/
def lstA (T : TC) {α : Type} [Rp α] (p : Addr) (l : List α) : OA := ⟨fun F t => ∃ vs, t p = some (.lst vs) ∧ Al T F vs l, fun e ⟨vs, h1, h2⟩ => ⟨vs, h1, h2.mono e⟩⟩

/-! ### slots -/
def Env (F : Hp) (σ : St) (Γ : List (Option VA)) : Prop := σ.length = Γ.length ∧ ∀ (i : Nat) (A : VA), Γ[i]? = some (some A) → ∃ v, σ[i]? = some (some v) ∧ A.P F v
theorem Env.mono {F F' : Hp} {σ : St} {Γ : List (Option VA)} (h : Env F σ Γ) (e : Same F F') : Env F' σ Γ := ⟨h.1, fun i A q => let ⟨v, h1, h2⟩ := h.2 i A q; ⟨v, h1, A.mono e h2⟩⟩
theorem Env.set {F : Hp} {σ : St} {Γ : List (Option VA)} {i : Nat} {v : V} {A : VA} (h : Env F σ Γ) (a : A.P F v) : Env F (σ.set i (some v)) (Γ.set i (some A)) := by
  refine ⟨by rw [List.length_set, List.length_set]; exact h.1, fun k B q => ?_⟩
  by_cases hk : i = k
  · subst hk
    have lt : i < Γ.length := by have := getlt q; rwa [List.length_set] at this
    rw [List.getElem?_set_self lt] at q
    cases q
    exact ⟨v, by rw [List.getElem?_set_self (by rw [h.1]; exact lt)], a⟩
  · rw [List.getElem?_set_ne hk] at q
    obtain ⟨w, h1, h2⟩ := h.2 k B q
    exact ⟨w, by rw [List.getElem?_set_ne hk]; exact h1, h2⟩
/-- what is known of slots is left -/
theorem Env.weak {F : Hp} {σ : St} {Γ Γ' : List (Option VA)} (h : Env F σ Γ) (hl : Γ'.length = Γ.length) (k : ∀ (i : Nat) A, Γ'[i]? = some (some A) → Γ[i]? = some (some A)) : Env F σ Γ' := ⟨h.1.trans hl.symm, fun i A q => h.2 i A (k i A q)⟩

/-! ### expressions -/
def XG (te : TE) (Γ : List (Option VA)) (Ω : List OA) (R : Hp → V → List OA → Prop) : Prop :=
  ∀ F σ H, Env F σ Γ → Holds F Ω H → ∀ Q : VK, (∀ F' v H' Ω', Same F F' → Holds F' Ω' H' → R F' v Ω' → Q v H') → te σ H Q
abbrev XE (te : TE) (Γ : List (Option VA)) (Ω : List OA) (A : VA) (Ω2 : List OA) : Prop := XG te Γ Ω fun F v Ω' => A.P F v ∧ Ω' = Ω2
def XT (t : TT) (Γ : List (Option VA)) (Ω : List OA) (b : Bool) (Ω2 : List OA) : Prop :=
  ∀ F σ H, Env F σ Γ → Holds F Ω H → ∀ Q : Bool → Hp → Prop, (∀ F' H', Same F F' → Holds F' Ω2 H' → Q b H') → t σ H Q
def AlA (F : Hp) (vs : List V) (As : List VA) : Prop := Paired (fun v (A : VA) => A.P F v) vs As
theorem AlA.mono {F F' : Hp} (e : Same F F') : ∀ {vs : List V} {As : List VA}, AlA F vs As → AlA F' vs As
  | _, _, .nil => .nil
  | _, _, .cons (b := A) h t => .cons (A.mono e h) (AlA.mono e t)
theorem AlA.len {F : Hp} : ∀ {vs : List V} {As : List VA}, AlA F vs As → vs.length = As.length
  | _, _, .nil => rfl
  | _, _, .cons _ t => congrArg (· + 1) (AlA.len t)
theorem AlA.app {F : Hp} : ∀ {vs ws : List V} {As Bs : List VA}, AlA F vs As → AlA F ws Bs → AlA F (vs ++ ws) (As ++ Bs)
  | _, _, _, _, .nil, h => h
  | _, _, _, _, .cons q t, h => .cons q (AlA.app t h)
def XA (t : TA) (Γ : List (Option VA)) (Ω : List OA) (As : List VA) (Ω2 : List OA) : Prop :=
  ∀ F σ H, Env F σ Γ → Holds F Ω H → ∀ Q : List V → Hp → Prop, (∀ F' vs H', Same F F' → Holds F' Ω2 H' → AlA F' vs As → Q vs H') → t σ H Q
/-- a one-place, two-place operation on values, a call on values -/
def RO (r : R2) (Ω : List OA) (A B C : VA) : Prop := ∀ F H x y, Holds F Ω H → A.P F x → B.P F y → ∀ Q : VK, (∀ F' v H', Same F F' → Holds F' Ω H' → C.P F' v → Q v H') → r x y H Q
def RU (r : V → Hp → VK → Prop) (Ω : List OA) (A C : VA) : Prop := ∀ F H x, Holds F Ω H → A.P F x → ∀ Q : VK, (∀ F' v H', Same F F' → Holds F' Ω H' → C.P F' v → Q v H') → r x H Q
def RC (r : List V → Hp → VK → Prop) (Ω : List OA) (As : List VA) (C : VA) : Prop := ∀ F H vs, Holds F Ω H → AlA F vs As → ∀ Q : VK, (∀ F' v H', Same F F' → Holds F' Ω H' → C.P F' v → Q v H') → r vs H Q

section
variable {T : TC} {Γ : List (Option VA)} {Ω Ω1 Ω2 : List OA} {A B C : VA} {ta tb te : TE} {t u : TT} {i j n m : Int} {b c : Bool}
theorem xe_var {i : Nat} (h : Γ[i]? = some (some A)) : XE (tVar i) Γ Ω A Ω := fun F σ H e hh Q q => by
  obtain ⟨v, h1, h2⟩ := e.2 i A h
  exact ⟨v, h1, q F v H Ω (Same.refl F) hh ⟨h2, rfl⟩⟩
theorem xe_c {v : V} (h : ∀ F, A.P F v) : XE (tC v) Γ Ω A Ω := fun F σ H e hh Q q => q F v H Ω (Same.refl F) hh ⟨h F, rfl⟩
theorem xe_int : XE (tC (.int n)) Γ Ω (va T n) Ω := xe_c fun _ => rfl
theorem xe_bl : XE (tC (.bl b)) Γ Ω (va T b) Ω := xe_c fun _ => rfl
theorem xe_str {s : Str} : XE (tC (.str s)) Γ Ω (va T s) Ω := xe_c fun _ => rfl
theorem xe_op {r : R2} (ha : XE ta Γ Ω A Ω1) (hb : XE tb Γ Ω1 B Ω2) (hr : RO r Ω2 A B C) : XE (tOp r ta tb) Γ Ω C Ω2 := fun F σ H e hh Q q => by
  refine ha F σ H e hh _ fun F1 x H1 Ω' e1 hh1 ⟨a1, o1⟩ => ?_
  subst o1
  refine hb F1 σ H1 (e.mono e1) hh1 _ fun F2 y H2 Ω'' e2 hh2 ⟨a2, o2⟩ => ?_
  subst o2
  exact hr F2 H2 x y hh2 (A.mono e2 a1) a2 Q fun F3 v H3 e3 hh3 a3 => q F3 v H3 _ ((e1.trans e2).trans e3) hh3 ⟨a3, rfl⟩
theorem xe_un {r : V → Hp → VK → Prop} (ha : XE ta Γ Ω A Ω1) (hr : RU r Ω1 A C) : XE (tUn r ta) Γ Ω C Ω1 := fun F σ H e hh Q q => by
  refine ha F σ H e hh _ fun F1 x H1 Ω' e1 hh1 ⟨a1, o1⟩ => ?_
  subst o1
  exact hr F1 H1 x hh1 a1 Q fun F3 v H3 e3 hh3 a3 => q F3 v H3 _ (e1.trans e3) hh3 ⟨a3, rfl⟩
theorem xa_nil : XA tNil Γ Ω [] Ω := fun F σ H e hh Q q => q F [] H (Same.refl F) hh .nil
theorem xa_cons {tr : TA} {As : List VA} (ha : XE ta Γ Ω A Ω1) (hr : XA tr Γ Ω1 As Ω2) : XA (tCons ta tr) Γ Ω (A :: As) Ω2 := fun F σ H e hh Q q => by
  refine ha F σ H e hh _ fun F1 x H1 Ω' e1 hh1 ⟨a1, o1⟩ => ?_
  subst o1
  refine hr F1 σ H1 (e.mono e1) hh1 _ fun F2 xs H2 e2 hh2 a2 => ?_
  exact q F2 (x :: xs) H2 (e1.trans e2) hh2 (.cons (A.mono e2 a1) a2)
theorem xe_cb {r : List V → Hp → VK → Prop} {t : TA} {As : List VA} (ha : XA t Γ Ω As Ω1) (hr : RC r Ω1 As C) : XE (tCB r t) Γ Ω C Ω1 := fun F σ H e hh Q q => by
  refine ha F σ H e hh _ fun F1 xs H1 e1 hh1 a1 => ?_
  exact hr F1 H1 xs hh1 a1 Q fun F3 v H3 e3 hh3 a3 => q F3 v H3 _ (e1.trans e3) hh3 ⟨a3, rfl⟩
/-- the same with another word for it -/
theorem XG.imp {R R' : Hp → V → List OA → Prop} (h : XG te Γ Ω R) (k : ∀ F v Ω', R F v Ω' → R' F v Ω') : XG te Γ Ω R' := fun F σ H e hh Q q => h F σ H e hh Q fun F' v H' Ω' e' hh' r => q F' v H' Ω' e' hh' (k _ _ _ r)
theorem XE.to (h : XE te Γ Ω A Ω1) (k : ∀ F v, A.P F v → B.P F v) : XE te Γ Ω B Ω1 := h.imp fun F v Ω' ⟨a, o⟩ => ⟨k F v a, o⟩
theorem xe_eq {α : Type} [Rp α] {a a' : α} (h : XE te Γ Ω (va T a) Ω1) (e : a = a') : XE te Γ Ω (va T a') Ω1 := e ▸ h

/-! ints -/
theorem ro_I0 {g : Int → Int → V} (h : ∀ F, C.P F (g i j)) : RO (rI0 g) Ω (va T i) (va T j) C := fun F H x y hh a1 a2 Q q => ⟨i, j, a1, a2, q F _ H (Same.refl F) hh (h F)⟩
theorem ro_I {D : Int → Int → Prop} {g : Int → Int → V} (hd : D i j) (h : ∀ F, C.P F (g i j)) : RO (rI D g) Ω (va T i) (va T j) C := fun F H x y hh a1 a2 Q q => ⟨i, j, a1, a2, hd, q F _ H (Same.refl F) hh (h F)⟩
theorem ro_int {g : Int → Int → Int} : RO (rI0 fun i j => .int (g i j)) Ω (va T i) (va T j) (va T (g i j)) := ro_I0 fun _ => rfl
theorem ro_intD {D : Int → Int → Prop} {g : Int → Int → Int} (hd : D i j) : RO (rI D fun i j => .int (g i j)) Ω (va T i) (va T j) (va T (g i j)) := ro_I hd fun _ => rfl
theorem ro_bl {g : Int → Int → Bool} : RO (rI0 fun i j => .bl (g i j)) Ω (va T i) (va T j) (va T (g i j)) := ro_I0 fun _ => rfl
theorem ru_int {g : Int → Int} : RU (rU fun i => .int (g i)) Ω (va T i) (va T (g i)) := fun F H x hh a1 Q q => ⟨i, a1, q F _ H (Same.refl F) hh rfl⟩
theorem ro_eqI : RO rEq Ω (va T i) (va T j) (va T (decide (i = j))) := fun F H x y hh a1 a2 Q q => by
  have a1 : x = .int i := a1
  have a2 : y = .int j := a2
  subst a1 a2
  refine ⟨rfl, q F _ H (Same.refl F) hh ?_⟩
  show V.bl _ = V.bl _
  congr 1
  exact decide_eq_decide.mpr ⟨V.int.inj, fun h => by rw [h]⟩
theorem ro_neI : RO rNe Ω (va T i) (va T j) (va T (!decide (i = j))) := fun F H x y hh a1 a2 Q q => by
  have a1 : x = .int i := a1
  have a2 : y = .int j := a2
  subst a1 a2
  refine ⟨rfl, q F _ H (Same.refl F) hh ?_⟩
  show V.bl _ = V.bl _
  congr 2
  exact decide_eq_decide.mpr ⟨V.int.inj, fun h => by rw [h]⟩
/-! tests -/
theorem xt_test (h : XE te Γ Ω (va T b) Ω1) : XT (tTest te) Γ Ω b Ω1 := fun F σ H e hh Q q => by
  refine h F σ H e hh _ fun F1 x H1 Ω' e1 hh1 ⟨a1, o1⟩ => ?_
  subst o1
  exact ⟨b, a1, q F1 H1 e1 hh1⟩
theorem xt_tB (h : XE te Γ Ω (va T b) Ω1) : XT (tB te) Γ Ω b Ω1 := xt_test (T := T) h
theorem xt_or (h1 : XT t Γ Ω b Ω1) (h2 : b = false → XT u Γ Ω1 c Ω2) (h3 : b = true → Ω1 = Ω2) : XT (tOr t u) Γ Ω (b || c) Ω2 := fun F σ H e hh Q q => by
  refine h1 F σ H e hh _ fun F1 H1 e1 hh1 => ?_
  cases b with
  | false => rw [if_neg Bool.false_ne_true]; exact h2 rfl F1 σ H1 (e.mono e1) hh1 Q fun F2 H2 e2 hh2 => q F2 H2 (e1.trans e2) hh2
  | true => rw [if_pos rfl]; exact q F1 H1 e1 (h3 rfl ▸ hh1)
theorem xt_not (h1 : XT t Γ Ω b Ω1) : XT (tNot t) Γ Ω (!b) Ω1 := fun F σ H e hh Q q => h1 F σ H e hh _ q
theorem xt_eq (h : XT t Γ Ω b Ω1) (e : b = c) : XT t Γ Ω c Ω1 := e ▸ h
theorem xe_if (h : XT t Γ Ω b Ω1) (h1 : b = true → XE ta Γ Ω1 A Ω2) (h2 : b = false → XE tb Γ Ω1 A Ω2) : XE (tIf t ta tb) Γ Ω A Ω2 := fun F σ H e hh Q q => by
  refine h F σ H e hh _ fun F1 H1 e1 hh1 => ?_
  cases b with
  | true => rw [if_pos rfl]; exact h1 rfl F1 σ H1 (e.mono e1) hh1 Q fun F2 v H2 Ω' e2 hh2 r => q F2 v H2 Ω' (e1.trans e2) hh2 r
  | false => rw [if_neg Bool.false_ne_true]; exact h2 rfl F1 σ H1 (e.mono e1) hh1 Q fun F2 v H2 Ω' e2 hh2 r => q F2 v H2 Ω' (e1.trans e2) hh2 r
theorem xe_andV (h1 : XE ta Γ Ω (va T b) Ω) (h2 : b = true → XE tb Γ Ω (va T c) Ω) : XE (tAndV ta tb) Γ Ω (va T (b && c)) Ω := fun F σ H e hh Q q => by
  refine h1 F σ H e hh _ fun F1 x H1 Ω' e1 hh1 ⟨a1, o1⟩ => ?_
  subst o1
  refine ⟨b, a1, ?_⟩
  cases b with
  | true => rw [if_pos rfl]; exact h2 rfl F1 σ H1 (e.mono e1) hh1 Q fun F2 v H2 Ω'' e2 hh2 r => q F2 v H2 Ω'' (e1.trans e2) hh2 r
  | false => rw [if_neg Bool.false_ne_true]; exact q F1 _ H1 _ e1 hh1 ⟨rfl, rfl⟩
theorem xe_notV (h1 : XE ta Γ Ω (va T b) Ω1) : XE (tNotV ta) Γ Ω (va T (!b)) Ω1 := fun F σ H e hh Q q => by
  refine h1 F σ H e hh _ fun F1 x H1 Ω' e1 hh1 ⟨a1, o1⟩ => ?_
  exact ⟨b, a1, q F1 _ H1 _ e1 hh1 ⟨rfl, o1⟩⟩
theorem xe_chain {r r' : R2} {D : VA} {tc : TE} (ha : XE ta Γ Ω A Ω) (hb : XE tb Γ Ω B Ω) (hr : RO r Ω A B (va T b)) (hc : b = true → XE tc Γ Ω D Ω) (hr' : b = true → RO r' Ω B D (va T c)) : XE (tChain r r' ta tb tc) Γ Ω (va T (b && c)) Ω := fun F σ H e hh Q q => by
  refine ha F σ H e hh _ fun F1 x H1 Ω' e1 hh1 ⟨a1, o1⟩ => ?_
  subst o1
  refine hb F1 σ H1 (e.mono e1) hh1 _ fun F2 y H2 Ω'' e2 hh2 ⟨a2, o2⟩ => ?_
  subst o2
  refine hr F2 H2 x y hh2 (A.mono e2 a1) a2 _ fun F3 v H3 e3 hh3 a3 => ⟨b, a3, ?_⟩
  cases b with
  | true =>
    rw [if_pos rfl]
    refine hc rfl F3 σ H3 (e.mono ((e1.trans e2).trans e3)) hh3 _ fun F4 z H4 Ω3 e4 hh4 ⟨a4, o4⟩ => ?_
    subst o4
    exact hr' rfl F4 H4 y z hh4 (B.mono (e3.trans e4) a2) a4 Q fun F5 w H5 e5 hh5 a5 => q F5 w H5 _ ((((e1.trans e2).trans e3).trans e4).trans e5) hh5 ⟨a5, rfl⟩
  | false => rw [if_neg Bool.false_ne_true]; exact q F3 _ H3 _ ((e1.trans e2).trans e3) hh3 ⟨rfl, rfl⟩
end
end VL

set_option Elab.async false
set_option linter.all false
set_option maxRecDepth 100000
/-! lists, fields, calls, statements -/
namespace VL
open PySem L2

/-! ### defs' promises -/
/-- a promise: of the arguments As in the state Ω, what comes of it -/
abbrev PreT := List VA → List OA → (Hp → V → List OA → Prop) → Prop
def mkSp (Pre : PreT) : Sp := fun vs H Q _ => ∃ F Ω As R, Pre As Ω R ∧ AlA F vs As ∧ Holds F Ω H ∧ ∀ F' v H' Ω', Same F F' → Holds F' Ω' H' → R F' v Ω' → Q v H'
/-- hands back a, leaves Ω2 -/
abbrev RV (A : VA) (Ω2 : List OA) : Hp → V → List OA → Prop := fun F v Ω' => A.P F v ∧ Ω' = Ω2
/-- hands back a new changing thing -/
abbrev RN (Ω2 : List OA) (o : Addr → OA) : Hp → V → List OA → Prop := fun F v Ω' => ∃ p, v = .ref p ∧ Ω' = Ω2 ++ [o p]

/-! ### the changing things by place: those of the caller at the places ks, then a def's own -/
def apk (Ω : List OA) : List (Nat × OA) → List OA
  | [] => Ω
  | p :: r => (apk Ω r).set p.1 p.2
def stt (Ω : List OA) (ks : List (Nat × OA)) (L : List OA) : List OA := apk Ω ks ++ L
theorem apk_len {Ω : List OA} : ∀ ks : List (Nat × OA), (apk Ω ks).length = Ω.length
  | [] => rfl
  | p :: r => by unfold apk; rw [List.length_set, apk_len r]
/-- the places differ and are there -/
structure Okk (Ω : List OA) (keys : List Nat) : Prop where
  nd : keys.Nodup
  lt : ∀ k ∈ keys, k < Ω.length
theorem apk_get {Ω : List OA} : ∀ {ks : List (Nat × OA)} {i : Nat} {k : Nat} {o : OA}, (ks.map (·.1)).Nodup → k < Ω.length → ks[i]? = some (k, o) → (apk Ω ks)[k]? = some o
  | [], _, _, _, _, _, h => by simp at h
  | p :: r, 0, k, o, _, lt, h => by
    cases h
    unfold apk
    rw [List.getElem?_set_self (by rw [apk_len]; exact lt)]
  | p :: r, i + 1, k, o, nd, lt, h => by
    have h : r[i]? = some (k, o) := h
    unfold apk
    obtain ⟨h1, h2⟩ := List.nodup_cons.mp (show (p.1 :: r.map (·.1)).Nodup from nd)
    have ne : p.1 ≠ k := fun e => h1 (List.mem_map.mpr ⟨(k, o), List.mem_of_getElem? h, e.symm⟩)
    rw [List.getElem?_set_ne ne]
    exact apk_get h2 lt h
theorem apk_set {Ω : List OA} : ∀ {ks : List (Nat × OA)} {i : Nat} {k : Nat} {o o' : OA}, (ks.map (·.1)).Nodup → ks[i]? = some (k, o) → (apk Ω ks).set k o' = apk Ω (ks.set i (k, o'))
  | [], _, _, _, _, _, h => by simp at h
  | p :: r, 0, k, o, o', _, h => by
    cases h
    show ((apk Ω r).set k o).set k o' = (apk Ω r).set k o'
    rw [List.set_set]
  | p :: r, i + 1, k, o, o', nd, h => by
    have h : r[i]? = some (k, o) := h
    obtain ⟨h1, h2⟩ := List.nodup_cons.mp (show (p.1 :: r.map (·.1)).Nodup from nd)
    have ne : p.1 ≠ k := fun e => h1 (List.mem_map.mpr ⟨(k, o), List.mem_of_getElem? h, e.symm⟩)
    show ((apk Ω r).set p.1 p.2).set k o' = (apk Ω (r.set i (k, o'))).set p.1 p.2
    rw [List.set_comm _ _ ne, apk_set h2 h]
theorem apk_self {Ω : List OA} : ∀ {ks : List (Nat × OA)}, (∀ p ∈ ks, Ω[p.1]? = some p.2) → apk Ω ks = Ω
  | [], _ => rfl
  | p :: r, h => by
    unfold apk
    rw [apk_self fun q hq => h q (List.mem_cons_of_mem _ hq)]
    apply List.ext_getElem?
    intro k
    have hp := h p List.mem_cons_self
    by_cases e : p.1 = k
    · subst e; rw [List.getElem?_set_self (getlt hp), hp]
    · rw [List.getElem?_set_ne e]
section
variable {Ω : List OA} {keys : List Nat} {ks : List (Nat × OA)} {L : List OA} {i j k : Nat} {o o' : OA}
theorem stt_get (ok : Okk Ω keys) (h : ks[i]? = some (k, o)) (hk : ks.map (·.1) = keys := by rfl) : (stt Ω ks L)[k]? = some o := by
  subst hk
  have hm : k ∈ ks.map (·.1) := List.mem_map.mpr ⟨(k, o), List.mem_of_getElem? h, rfl⟩
  have lt := ok.lt k hm
  unfold stt
  rw [List.getElem?_append_left (by rw [apk_len]; exact lt)]
  exact apk_get ok.nd lt h
theorem stt_set (ok : Okk Ω keys) (h : ks[i]? = some (k, o)) (hk : ks.map (·.1) = keys := by rfl) : (stt Ω ks L).set k o' = stt Ω (ks.set i (k, o')) L := by
  subst hk
  have hm : k ∈ ks.map (·.1) := List.mem_map.mpr ⟨(k, o), List.mem_of_getElem? h, rfl⟩
  have lt := ok.lt k hm
  unfold stt
  rw [List.set_append_left _ _ (by rw [apk_len]; exact lt), apk_set ok.nd h]
theorem stt_getL (h : L[j]? = some o) : (stt Ω ks L)[Ω.length + j]? = some o := by
  unfold stt
  rw [List.getElem?_append_right (by rw [apk_len]; omega), apk_len, Nat.add_sub_cancel_left]
  exact h
theorem stt_setL : (stt Ω ks L).set (Ω.length + j) o' = stt Ω ks (L.set j o') := by
  unfold stt
  rw [List.set_append_right _ _ (by rw [apk_len]; omega), apk_len, Nat.add_sub_cancel_left]
theorem stt_app : stt Ω ks L ++ [o] = stt Ω ks (L ++ [o]) := List.append_assoc _ _ _
theorem stt_self (h : ∀ p ∈ ks, Ω[p.1]? = some p.2) : stt Ω ks [] = Ω := by
  unfold stt
  rw [apk_self h, List.append_nil]
theorem stt_nil : stt Ω ks [] = apk Ω ks := List.append_nil _
theorem apk_out {Ω : List OA} : ∀ {ks : List (Nat × OA)}, k ∉ ks.map (·.1) → (apk Ω ks)[k]? = Ω[k]?
  | [], _ => rfl
  | p :: r, h => by
    unfold apk
    have h : k ∉ p.1 :: r.map (·.1) := h
    rw [List.getElem?_set_ne (fun e => h (by rw [e]; exact List.mem_cons_self))]
    exact apk_out fun m => h (List.mem_cons_of_mem _ m)
theorem stt_getU (h : Ω[k]? = some o) (hn : k ∉ ks.map (·.1) := by simp) : (stt Ω ks L)[k]? = some o := by
  unfold stt
  rw [List.getElem?_append_left (by rw [apk_len]; exact getlt h), apk_out hn]
  exact h
theorem cal0 : stt (stt Ω ks L) [] [] = stt Ω ks L := List.append_nil _
theorem stt_one {Ω : List OA} : stt Ω [(k, o)] [] = Ω.set k o := List.append_nil _
theorem cal1 (ok : Okk Ω keys) (h : ks[i]? = some (k, o)) (hk : ks.map (·.1) = keys := by rfl) : stt (stt Ω ks L) [(k, o')] [] = stt Ω (ks.set i (k, o')) L := stt_one.trans (stt_set ok h hk)
theorem cal1L : stt (stt Ω ks L) [(Ω.length + j, o')] [] = stt Ω ks (L.set j o') := stt_one.trans stt_setL
theorem okk0 : Okk Ω [] := ⟨by simp, fun k h => by cases h⟩
theorem okk1 (h : Ω[k]? = some o) : Okk Ω [k] := ⟨by simp, fun m hm => by rw [List.mem_singleton.mp hm]; exact getlt h⟩
end
section
variable {T : TC} {Γ : List (Option VA)} {Ω Ω1 Ω2 : List OA} {A B C : VA} {As : List VA} {ta tb te : TE} {t u : TT} {i j n m : Int} {b c : Bool}
theorem xg_call {Pre : PreT} {E : XK} {t : TA} {R : Hp → V → List OA → Prop} (ha : XA t Γ Ω As Ω1) (hp : Pre As Ω1 R) : XG (tCall (mkSp Pre) [] E t) Γ Ω R := fun F σ H e hh Q q => by
  refine ha F σ H e hh _ fun F1 xs H1 e1 hh1 a1 => ?_
  refine ⟨F1, Ω1, As, R, hp, by rw [List.append_nil]; exact a1, hh1, fun F' v H' Ω' e' hh' r => q F' v H' Ω' (e1.trans e') hh' r⟩
theorem xg_callD {Pre : PreT} {E : XK} {t : TA} {dvs : List V} {Ds : List VA} {R : Hp → V → List OA → Prop} (ha : XA t Γ Ω As Ω1) (hd : ∀ F, AlA F dvs Ds) (hp : Pre (As ++ Ds) Ω1 R) : XG (tCall (mkSp Pre) dvs E t) Γ Ω R := fun F σ H e hh Q q => by
  refine ha F σ H e hh _ fun F1 xs H1 e1 hh1 a1 => ?_
  exact ⟨F1, Ω1, As ++ Ds, R, hp, a1.app (hd F1), hh1, fun F' v H' Ω' e' hh' r => q F' v H' Ω' (e1.trans e') hh' r⟩
/-! ### the state ahead of a statement -/
def NX (F0 : Hp) (Γ : List (Option VA)) (Ω : List OA) : St → Hp → Prop := fun σ H => ∃ F, Same F0 F ∧ Env F σ Γ ∧ Holds F Ω H
def RT (F0 : Hp) (R : Hp → V → List OA → Prop) : VK → Prop := fun Q => ∀ F v H Ω, Same F0 F → Holds F Ω H → R F v Ω → Q v H
def XS (t : TS) (D : Ends) (F0 : Hp) (Γ : List (Option VA)) (Ω : List OA) : Prop := ∀ σ H, NX F0 Γ Ω σ H → t D σ H
theorem RT.mono {F0 F1 : Hp} {R : Hp → V → List OA → Prop} {Q : VK} (k : RT F0 R Q) (e : Same F0 F1) : RT F1 R Q := fun F v H Ω f hh r => k F v H Ω (e.trans f) hh r
variable {D : Ends} {F0 : Hp} {t1 t2 ts : TS} {R : Hp → V → List OA → Prop}
theorem xs_set {k : Nat} (h : XE te Γ Ω A Ω1) (q : XS ts D F0 (Γ.set k (some A)) Ω1) : XS (tSeq (tAsg te (gName k)) ts) D F0 Γ Ω := fun σ H ⟨F, f0, e, hh⟩ =>
  h F σ H e hh _ fun F1 v H1 Ω' e1 hh1 ⟨a1, o1⟩ => q _ H1 ⟨F1, f0.trans e1, (e.mono e1).set a1, o1 ▸ hh1⟩
theorem xs_setN {k : Nat} {o : Addr → OA} (h : XG te Γ Ω (RN Ω1 o)) (q : ∀ p, XS ts D F0 (Γ.set k (some (vr p))) (Ω1 ++ [o p])) : XS (tSeq (tAsg te (gName k)) ts) D F0 Γ Ω := fun σ H ⟨F, f0, e, hh⟩ =>
  h F σ H e hh _ fun F1 v H1 Ω' e1 hh1 ⟨p, a1, o1⟩ => q p _ H1 ⟨F1, f0.trans e1, (e.mono e1).set (A := vr p) a1, o1 ▸ hh1⟩
theorem xs_drop (h : XE te Γ Ω A Ω1) (q : XS ts D F0 Γ Ω1) : XS (tSeq (tDrop te) ts) D F0 Γ Ω := fun σ H ⟨F, f0, e, hh⟩ =>
  h F σ H e hh _ fun F1 v H1 Ω' e1 hh1 ⟨_, o1⟩ => q σ H1 ⟨F1, f0.trans e1, e.mono e1, o1 ▸ hh1⟩
/-- the same as the block's last statement -/
theorem xs_set1 {k : Nat} (h : XE te Γ Ω A Ω1) (q : ∀ σ H, NX F0 (Γ.set k (some A)) Ω1 σ H → D.nx σ H) : XS (tAsg te (gName k)) D F0 Γ Ω := fun σ H ⟨F, f0, e, hh⟩ =>
  h F σ H e hh _ fun F1 v H1 Ω' e1 hh1 ⟨a1, o1⟩ => q _ H1 ⟨F1, f0.trans e1, (e.mono e1).set a1, o1 ▸ hh1⟩
theorem xs_drop1 (h : XE te Γ Ω A Ω1) (q : ∀ σ H, NX F0 Γ Ω1 σ H → D.nx σ H) : XS (tDrop te) D F0 Γ Ω := fun σ H ⟨F, f0, e, hh⟩ =>
  h F σ H e hh _ fun F1 v H1 Ω' e1 hh1 ⟨_, o1⟩ => q σ H1 ⟨F1, f0.trans e1, e.mono e1, o1 ▸ hh1⟩
theorem xs_ret (h : XG te Γ Ω R) (q : RT F0 R D.rt) : XS (tRet te) D F0 Γ Ω := fun σ H ⟨F, f0, e, hh⟩ =>
  h F σ H e hh _ fun F1 v H1 Ω' e1 hh1 r => q F1 v H1 Ω' (f0.trans e1) hh1 r
/-- what is made in a def and not told is left -/
theorem RT.drop {Q : VK} {A : VA} {o : OA} (k : RT F0 (RV A Ω) Q) : RT F0 (RV A (Ω ++ [o])) Q := fun F v H Ω' f hh ⟨a, e⟩ => by
  subst e
  exact k F v H Ω f hh.drop ⟨a, rfl⟩
theorem xs_ifT (h : XT t Γ Ω true Ω1) (q : XS t1 { D with nx := ts D } F0 Γ Ω1) : XS (tSeq (tIfS t t1 t2) ts) D F0 Γ Ω := fun σ H ⟨F, f0, e, hh⟩ =>
  h F σ H e hh _ fun F1 H1 e1 hh1 => by rw [if_pos rfl]; exact q σ H1 ⟨F1, f0.trans e1, e.mono e1, hh1⟩
theorem xs_ifF (h : XT t Γ Ω false Ω1) (q : XS t2 { D with nx := ts D } F0 Γ Ω1) : XS (tSeq (tIfS t t1 t2) ts) D F0 Γ Ω := fun σ H ⟨F, f0, e, hh⟩ =>
  h F σ H e hh _ fun F1 H1 e1 hh1 => by rw [if_neg Bool.false_ne_true]; exact q σ H1 ⟨F1, f0.trans e1, e.mono e1, hh1⟩
theorem xs_ifT1 (h : XT t Γ Ω true Ω1) (q : XS t1 D F0 Γ Ω1) : XS (tIfS t t1 t2) D F0 Γ Ω := fun σ H ⟨F, f0, e, hh⟩ =>
  h F σ H e hh _ fun F1 H1 e1 hh1 => by rw [if_pos rfl]; exact q σ H1 ⟨F1, f0.trans e1, e.mono e1, hh1⟩
theorem xs_ifF1 (h : XT t Γ Ω false Ω1) (q : XS t2 D F0 Γ Ω1) : XS (tIfS t t1 t2) D F0 Γ Ω := fun σ H ⟨F, f0, e, hh⟩ =>
  h F σ H e hh _ fun F1 H1 e1 hh1 => by rw [if_neg Bool.false_ne_true]; exact q σ H1 ⟨F1, f0.trans e1, e.mono e1, hh1⟩
/-- a statement, a word between, the rest -/
theorem xs_cut {Γ' : List (Option VA)} {Ω' : List OA} (h : XS t1 { D with nx := NX F0 Γ' Ω' } F0 Γ Ω) (k : XS ts D F0 Γ' Ω') : XS (Evl.tCut t1 ts) D F0 Γ Ω := fun σ H n => ⟨NX F0 Γ' Ω', h σ H n, fun σ' H' m => k σ' H' m⟩
/-- what is known is left -/
theorem NX.weak {Γ' : List (Option VA)} {σ : St} {H : Hp} (h : NX F0 Γ Ω σ H) (hl : Γ'.length = Γ.length) (k : ∀ (i : Nat) A, Γ'[i]? = some (some A) → Γ[i]? = some (some A)) : NX F0 Γ' Ω σ H :=
  let ⟨F, f0, e, hh⟩ := h
  ⟨F, f0, e.weak hl k, hh⟩
theorem NX.drop {o : OA} {σ : St} {H : Hp} (h : NX F0 Γ (Ω ++ [o]) σ H) : NX F0 Γ Ω σ H := let ⟨F, f0, e, hh⟩ := h; ⟨F, f0, e, hh.drop⟩
/-- what an expression makes anew becomes frozen -/
theorem xe_fz {α : Type} [Rp α] {l : List α} (h : XG te Γ Ω (RN Ω1 fun p => lstA T p l)) : XE te Γ Ω (va T (LF.mk l)) Ω1 := fun F σ H e hh Q q =>
  h F σ H e hh Q fun F1 v H1 Ω' e1 hh1 ⟨p, hv, o1⟩ => by
    subst o1
    obtain ⟨F', t, s1, s2, ⟨vs, ht, al⟩, hh'⟩ := hh1.freeze
    exact q F' v H1 _ (e1.trans s1) hh' ⟨⟨p, vs, hv, s2 _ _ ht, al.mono s1⟩, rfl⟩
theorem xs_seq (h : XS t1 { D with nx := ts D } F0 Γ Ω) : XS (tSeq t1 ts) D F0 Γ Ω := h
/-! ### tests whose second part may be undefined -/
theorem xt_andO {mb : Option Bool} {v : Bool} (h1 : XT t Γ Ω b Ω) (hm : (if b = true then mb else some false) = some v) (h2 : ∀ v, mb = some v → XT u Γ Ω v Ω) : XT (tAnd t u) Γ Ω v Ω := fun F σ H e hh Q q => by
  refine h1 F σ H e hh _ fun F1 H1 e1 hh1 => ?_
  cases b with
  | true =>
    rw [if_pos rfl] at hm ⊢
    exact h2 v hm F1 σ H1 (e.mono e1) hh1 Q fun F2 H2 e2 hh2 => q F2 H2 (e1.trans e2) hh2
  | false =>
    rw [if_neg Bool.false_ne_true] at hm ⊢
    cases hm
    exact q F1 H1 e1 hh1
/-- a known way through a test -/
theorem xt_orF (h1 : XT t Γ Ω false Ω1) (h2 : XT u Γ Ω1 false Ω2) : XT (tOr t u) Γ Ω false Ω2 := xt_or (b := false) (c := false) h1 (fun _ => h2) (fun h => nomatch h)
theorem xe_andT (h1 : XE ta Γ Ω (va T true) Ω1) (h2 : XE tb Γ Ω1 (va T b) Ω2) : XE (tAndV ta tb) Γ Ω (va T b) Ω2 := fun F σ H e hh Q q => by
  refine h1 F σ H e hh _ fun F1 x H1 Ω' e1 hh1 ⟨a1, o1⟩ => ?_
  subst o1
  refine ⟨true, a1, ?_⟩
  rw [if_pos rfl]
  exact h2 F1 σ H1 (e.mono e1) hh1 Q fun F2 v H2 Ω'' e2 hh2 r => q F2 v H2 Ω'' (e1.trans e2) hh2 r
theorem xt_notF (h1 : XT t Γ Ω true Ω1) : XT (tNot t) Γ Ω false Ω1 := xt_not h1
/-- what an expression's value must be to go on -/
def chk (b : Bool) : Option Unit := if b = true then some () else none
theorem xs_setO {k : Nat} {ks : List (Nat × OA)} {L : List OA} {o : Addr → OA} {Ω0 : List OA} (h : XG te Γ Ω0 (RN (stt Ω ks L) o)) (q : ∀ p, XS ts D F0 (Γ.set k (some (vr p))) (stt Ω ks (L ++ [o p]))) : XS (tSeq (tAsg te (gName k)) ts) D F0 Γ Ω0 :=
  xs_setN h fun p => by rw [stt_app]; exact q p
theorem xe_call {Pre : PreT} {E : XK} {t : TA} {Ω' : List OA} (ha : XA t Γ Ω As Ω1) (hp : Pre As Ω1 (RV A Ω')) (he : Ω' = Ω2) : XE (tCall (mkSp Pre) [] E t) Γ Ω A Ω2 := he ▸ xg_call ha hp
theorem xn_call {Pre : PreT} {E : XK} {t : TA} {Ω' : List OA} {o : Addr → OA} (ha : XA t Γ Ω As Ω1) (hp : Pre As Ω1 (RN Ω' o)) (he : Ω' = Ω2) : XG (tCall (mkSp Pre) [] E t) Γ Ω (RN Ω2 o) := he ▸ xg_call ha hp
theorem NX.forget {σ : L2.St} {H : Hp} (h : NX F0 Γ Ω σ H) (k : Nat) : NX F0 (Γ.set k none) Ω σ H := h.weak (by rw [List.length_set]) fun i A q => by
  by_cases e : k = i
  · subst e
    have lt : k < Γ.length := by have := getlt q; rwa [List.length_set] at this
    rw [List.getElem?_set_self lt] at q
    cases q
  · rwa [List.getElem?_set_ne e] at q
/-- nothing -/
def nilA : OA := ⟨fun _ _ => True, fun _ _ => trivial⟩
theorem Holds.freezeAt {F H : Hp} {Ω : List OA} {o : OA} {i : Nat} (h : Holds F Ω H) (q : Ω[i]? = some o) : ∃ F' t, Same F F' ∧ Same t F' ∧ o.P F t ∧ Holds F' (Ω.set i nilA) H := by
  obtain ⟨ts, h1, h2, h3, h4, h5⟩ := h
  have lt := getlt q
  have d : ∀ b x, ts i b = some x → F b = none := fun b x e => h4 i b x lt e
  refine ⟨cup F (ts i), ts i, cup_l, cup_r d, h1 _ _ q, fun k => if k = i then (fun _ => none) else ts k, fun k x r => ?_, fun b x e => ?_, fun k r b x e => ?_, fun k b x r e => ?_, fun k m b x r r2 ne e => ?_⟩
  · show x.P _ (if k = i then (fun _ => none) else ts k)
    by_cases hk : k = i
    · subst hk
      rw [List.getElem?_set_self lt] at r
      cases r
      exact trivial
    · rw [if_neg hk]
      rw [List.getElem?_set_ne (fun z => hk z.symm)] at r
      exact x.mono cup_l (h1 k x r)
  · rcases cup_or e with e | e
    · exact h2 b x e
    · exact h3 i lt b x e
  · rw [List.length_set] at r
    have e : (if k = i then (fun _ => none) else ts k) b = some x := e
    by_cases hk : k = i
    · rw [if_pos hk] at e; cases e
    · rw [if_neg hk] at e; exact h3 k r b x e
  · rw [List.length_set] at r
    have e : (if k = i then (fun _ => none) else ts k) b = some x := e
    by_cases hk : k = i
    · rw [if_pos hk] at e; cases e
    · rw [if_neg hk] at e
      cases z : cup F (ts i) b with
      | none => rfl
      | some y =>
        rcases cup_or z with z | z
        · exact (nn z (h4 k b x r e)).elim
        · exact (nn z (h5 k i b x r lt hk e)).elim
  · rw [List.length_set] at r r2
    have e : (if k = i then (fun _ => none) else ts k) b = some x := e
    show (if m = i then (fun _ => none) else ts m) b = none
    by_cases hm : m = i
    · rw [if_pos hm]
    · rw [if_neg hm]
      by_cases hk : k = i
      · rw [if_pos hk] at e; cases e
      · rw [if_neg hk] at e; exact h5 k m b x r r2 ne e
theorem NX.fzJ {α : Type} [Rp α] {l : List α} {p : Addr} {k j : Nat} {ks : List (Nat × OA)} {L : List OA} {σ : L2.St} {H : Hp} (h : NX F0 Γ (stt Ω ks L) σ H) (hk : Γ[k]? = some (some (vr p))) (hj : L[j]? = some (lstA T p l)) : NX F0 (Γ.set k (some (va T (LF.mk l)))) (stt Ω ks (L.set j nilA)) σ H := by
  obtain ⟨F, f0, e, hh⟩ := h
  obtain ⟨F', t, s1, s2, ⟨vs, ht, al⟩, hh'⟩ := hh.freezeAt (stt_getL hj)
  rw [stt_setL] at hh'
  obtain ⟨v, h1, h2⟩ := e.2 k _ hk
  have e2 := (e.mono s1).set (i := k) (v := v) (A := va T (LF.mk l)) ⟨p, vs, h2, s2 _ _ ht, al.mono s1⟩
  have es : σ.set k (some v) = σ := by
    apply List.ext_getElem?
    intro m
    by_cases hm : k = m
    · subst hm; rw [List.getElem?_set_self (getlt h1)]; exact h1.symm
    · rw [List.getElem?_set_ne hm]
  rw [es] at e2
  exact ⟨F', f0.trans s1, e2, hh'⟩
theorem xs_fzJ {α : Type} [Rp α] {l : List α} {p : Addr} {k j : Nat} {ks : List (Nat × OA)} {L : List OA} (hk : Γ[k]? = some (some (vr p))) (hj : L[j]? = some (lstA T p l)) (q : XS ts D F0 (Γ.set k (some (va T (LF.mk l)))) (stt Ω ks (L.set j nilA))) : XS ts D F0 Γ (stt Ω ks L) := fun σ H n => q σ H (n.fzJ hk hj)
/-- one of a def's own things stays, the others are left -/
theorem Holds.sel {F H : Hp} {Ω L : List OA} {o : OA} {j : Nat} (h : Holds F (Ω ++ L) H) (q : L[j]? = some o) : Holds F (Ω ++ [o]) H := by
  obtain ⟨ts, h1, h2, h3, h4, h5⟩ := h
  have lj := getlt q
  have len : (Ω ++ L).length = Ω.length + L.length := List.length_append
  have len1 : (Ω ++ [o]).length = Ω.length + 1 := by simp
  have ix : ∀ k, k < Ω.length + 1 → (if k = Ω.length then Ω.length + j else k) < (Ω ++ L).length := fun k hk => by
    split <;> omega
  have inj : ∀ k m, k < Ω.length + 1 → m < Ω.length + 1 → k ≠ m → (if k = Ω.length then Ω.length + j else k) ≠ (if m = Ω.length then Ω.length + j else m) := fun k m hk hm ne => by
    split <;> split <;> omega
  refine ⟨fun k => ts (if k = Ω.length then Ω.length + j else k), fun k x r => ?_, h2, fun k r => h3 _ (ix k (by omega)), fun k b x r e => h4 _ b x (ix k (by omega)) e, fun k m b x r r2 ne e => h5 _ _ b x (ix k (by omega)) (ix m (by omega)) (inj k m (by omega) (by omega) ne) e⟩
  by_cases hk : k = Ω.length
  · subst hk
    rw [app_at] at r
    cases r
    show o.P F (ts (if Ω.length = Ω.length then Ω.length + j else Ω.length))
    rw [if_pos rfl]
    refine h1 _ _ ?_
    rw [List.getElem?_append_right (by omega), Nat.add_sub_cancel_left]
    exact q
  · have lt : k < Ω.length := by have := getlt r; omega
    show x.P F (ts (if k = Ω.length then Ω.length + j else k))
    rw [if_neg hk]
    rw [List.getElem?_append_left lt] at r
    refine h1 _ _ ?_
    rw [List.getElem?_append_left lt]
    exact r
theorem Holds.all {F H : Hp} {Ω : List OA} {ks : List (Nat × OA)} {L : List OA} (h : Holds F (stt Ω ks L) H) : Holds F (stt Ω ks []) H := by
  obtain ⟨ts, h1, h2, h3, h4, h5⟩ := h
  have len : (stt Ω ks L).length = (apk Ω ks).length + L.length := List.length_append
  have e : stt Ω ks [] = apk Ω ks := stt_nil
  rw [e]
  exact ⟨ts, fun i o q => h1 i o (by unfold stt; rw [List.getElem?_append_left (getlt q)]; exact q), h2, fun i q => h3 i (by omega), fun i b x q => h4 i b x (by omega), fun i j b x qi qj => h5 i j b x (by omega) (by omega)⟩
theorem RT.all {Q : VK} {A : VA} {ks : List (Nat × OA)} {L : List OA} (k : RT F0 (RV A (stt Ω ks [])) Q) : RT F0 (RV A (stt Ω ks L)) Q := fun F v H Ω' f hh ⟨a, e⟩ => by
  subst e
  exact k F v H _ f hh.all ⟨a, rfl⟩
/-- the thing at j of a def's own is handed back -/
theorem RT.hand {Q : VK} {o : Addr → OA} {p : Addr} {j : Nat} {ks : List (Nat × OA)} {L : List OA} (k : RT F0 (RN (stt Ω ks []) o) Q) (hj : L[j]? = some (o p)) : RT F0 (RV (vr p) (stt Ω ks L)) Q := fun F v H Ω' f hh ⟨a, e⟩ => by
  subst e
  refine k F v H _ f (Holds.sel (Ω := apk Ω ks) hh hj) ⟨p, a, ?_⟩
  rw [stt_nil]
theorem RT.allN {Q : VK} {o : Addr → OA} {ks : List (Nat × OA)} {L : List OA} (k : RT F0 (RN (stt Ω ks []) o) Q) : RT F0 (RN (stt Ω ks L) o) Q := fun F v H Ω' f hh ⟨p, a, e⟩ => by
  subst e
  rw [stt_app] at hh
  refine k F v H _ f (Holds.sel (Ω := apk Ω ks) (o := o p) (j := L.length) hh app_at) ⟨p, a, ?_⟩
  rw [stt_nil]
/-! ### loops -/
inductive Stp (S ρ : Type) where
  | nx (s : S) | rt (r : ρ) | bk (s : S)
def whileM {S ρ : Type} (c : S → Option Bool) (b : S → Option (Stp S ρ)) : Nat → S → Option (Stp S ρ)
  | 0, _ => none
  | n + 1, s => (c s).bind fun v => if v = true then (b s).bind fun
      | .nx s' => whileM c b n s'
      | .rt r => some (.rt r)
      | .bk s' => some (.nx s')
    else some (.nx s)
def forM' {α S ρ : Type} (b : α → S → Option (Stp S ρ)) : List α → S → Option (Stp S ρ)
  | [], s => some (.nx s)
  | x :: r, s => (b x s).bind fun
      | .nx s' => forM' b r s'
      | .rt v => some (.rt v)
      | .bk s' => some (.nx s')
/-- what a loop hands on -/
def nxt {S ρ : Type} : Stp S ρ → Option S
  | .nx s => some s
  | _ => none
def aft {S ρ : Type} (st : Stp S ρ) (k : S → Option ρ) : Option ρ := match st with
  | .nx s => k s
  | .rt r => some r
  | .bk _ => none
/-- what a block's end must lead to: st by the block's own word -/
structure To {S ρ : Type} (D : Ends) (F0 : Hp) (st : Stp S ρ) (N B : S → St → Hp → Prop) (RR : ρ → Hp → V → List OA → Prop) : Prop where
  nx : ∀ s, st = .nx s → ∀ σ H, N s σ H → D.nx σ H
  ct : ∀ s, st = .nx s → ∀ σ H, N s σ H → D.ct σ H
  bk : ∀ s, st = .bk s → ∀ σ H, B s σ H → D.bk σ H
  rt : ∀ r, st = .rt r → RT F0 (RR r) D.rt
theorem bnd_some {α β : Type} {o : Option α} {f : α → Option β} {r : β} (h : o.bind f = some r) : ∃ a, o = some a ∧ f a = some r := by
  cases o with
  | none => cases h
  | some a => exact ⟨a, rfl, h⟩
/-- what a for's target does with its item -/
def Tgt (g : TG) (A : VA) (f : List (Option VA) → List (Option VA)) (js : List Nat) : Prop := ∀ F σ Γ x H Ω, Env F σ Γ → Holds F Ω H → A.P F x → ∀ Q : L2.St → Hp → Prop,
  (∀ F' σ' H', Same F F' → Env F' σ' (f Γ) → Holds F' Ω H' → (∀ vs, (∀ j ∈ js, j ∈ vs) → wipe σ' vs = wipe σ vs) → Q σ' H') → g x σ H Q
theorem wipe_set {σ : L2.St} {j : Nat} {v : Option V} : ∀ {vs : List Nat}, j ∈ vs → wipe (σ.set j v) vs = wipe σ vs := by
  intro vs hj
  apply List.ext_getElem?
  intro k
  have len : (wipe (σ.set j v) vs).length = (wipe σ vs).length := by rw [wipe_length, wipe_length, List.length_set]
  by_cases hk : k ∈ vs
  · have : ∀ (τ : L2.St) (vs : List Nat), k ∈ vs → k < τ.length → (wipe τ vs)[k]? = some none := by
      intro τ vs
      induction vs with
      | nil => intro h; cases h
      | cons a r ih =>
        intro h lt
        unfold wipe
        by_cases ha : a = k
        · subst ha; rw [List.getElem?_set_self (by rw [wipe_length]; exact lt)]
        · rw [List.getElem?_set_ne ha]
          rcases List.mem_cons.mp h with z | z
          · exact absurd z.symm ha
          · exact ih z lt
    by_cases lt : k < σ.length
    · rw [this σ vs hk lt, this _ vs hk (by rw [List.length_set]; exact lt)]
    · rw [List.getElem?_eq_none (by rw [wipe_length, List.length_set]; omega), List.getElem?_eq_none (by rw [wipe_length]; omega)]
  · rw [wipe_out hk, wipe_out hk]
    have ne : j ≠ k := fun e => hk (e ▸ hj)
    rw [List.getElem?_set_ne ne]
theorem tgt_name {k : Nat} : Tgt (gName k) A (fun Γ => Γ.set k (some A)) [k] := fun F σ Γ x H Ω e hh a Q q => q F _ H (Same.refl F) (e.set a) hh fun vs h => wipe_set (h k List.mem_cons_self)
theorem tgt_pair {α β : Type} [Rp α] [Rp β] {x : α × β} {k l : Nat} : Tgt (gTup T.K 2 (gCons (gName k) (gCons (gName l) gNil))) (va T x) (fun Γ => (Γ.set k (some (va T x.1))).set l (some (va T x.2))) [k, l] := fun F σ Γ v H Ω e hh a Q q => by
  obtain ⟨p, y, z, rfl, ht, ry, rz⟩ := a
  refine ⟨p, [y, z], rfl, Same.tup hh.same ht, rfl, y, [z], rfl, z, [], rfl, rfl, ?_⟩
  exact q F _ H (Same.refl F) ((e.set (A := va T x.1) ry).set (A := va T x.2) rz) hh fun vs h => (wipe_set (h l (by simp))).trans (wipe_set (h k (by simp)))
structure Wk {α : Type} (J : It) (Sx : Hp → Prop) (xs : List α) (A : α → VA) : Prop where
  mono : ∀ F F', Same F F' → Sx F → Sx F'
  go : ∀ (i : Nat) F Ω H, Sx F → Holds F Ω H → i < xs.length → J.go i H
  stop : ∀ F Ω H, Sx F → Holds F Ω H → J.stop xs.length H
  yld : ∀ (i : Nat) a F Ω H x H', Sx F → Holds F Ω H → xs[i]? = some a → J.yld i H x H' → ∃ F', Same F F' ∧ Holds F' Ω H' ∧ (A a).P F' x
def XI {α : Type} (wi : TI) (Γ : List (Option VA)) (Ω : List OA) (xs : List α) (A : α → VA) (Ω2 : List OA) : Prop :=
  ∀ F σ H, Env F σ Γ → Holds F Ω H → ∀ R : It → Hp → Prop, (∀ F' J H' Sx, Same F F' → Holds F' Ω2 H' → Wk J Sx xs A → Sx F' → R J H') → wi σ H R
theorem xs_for {α S ρ : Type} {bd : α → S → Option (Stp S ρ)} {s0 : S} {st : Stp S ρ} {wi : TI} {tb : TS} {g : TG} {xs : List α} {A : α → VA} {f : α → List (Option VA) → List (Option VA)} (G : S → List (Option VA)) (O : S → List OA) (RR : ρ → Hp → V → List OA → Prop)
    (hm : forM' bd xs s0 = some st) (hi : XI wi (G s0) Ω xs A (O s0)) {js : List Nat} (ht : ∀ a, Tgt g (A a) (f a) js)
    (hb : ∀ a s s', a ∈ xs → bd a s = some s' → ∀ F1 D', Same F0 F1 → To D' F1 s' (fun s => NX F1 (G s) (O s)) (fun s => NX F1 (G s) (O s)) RR → XS tb D' F1 (f a (G s)) (O s))
    (hn : ∀ s, st = .nx s → ∀ σ H, NX F0 (G s) (O s) σ H → D.nx σ H) (hr : ∀ r, st = .rt r → RT F0 (RR r) D.rt) : XS (tFor wi g tb) D F0 (G s0) Ω := by
  rintro σ H ⟨F, f0, e, hh⟩
  refine hi F σ H e hh _ fun F1 J H1 Sx e1 hh1 W sx => ?_
  refine ⟨fun i m σ H => m = xs.length - i ∧ i ≤ xs.length ∧ ∃ s F, forM' bd (xs.drop i) s = some st ∧ Same F0 F ∧ Sx F ∧ Env F σ (G s) ∧ Holds F (O s) H, ⟨xs.length, by simp, Nat.zero_le _, s0, F1, by rw [List.drop_zero]; exact hm, f0.trans e1, sx, e.mono e1, hh1⟩, ?_⟩
  rintro i m σ H ⟨rfl, hi, s, F, hs, f0, sx, e, hh⟩
  by_cases hlt : i < xs.length
  · refine .inr ⟨W.go i F (O s) H sx hh hlt, ?_⟩
    have hx : xs[i]? = some xs[i] := List.getElem?_eq_getElem hlt
    rw [List.drop_eq_getElem_cons hlt] at hs
    obtain ⟨s', h1, hs⟩ := bnd_some hs
    refine ⟨fun σ' H' => ∃ s2, s' = .nx s2 ∧ ∃ F, Same F0 F ∧ Sx F ∧ Env F σ' (G s2) ∧ Holds F (O s2) H', ?_, fun x H' y => ?_⟩
    · rintro σ' H' ⟨s2, rfl, F', f0', sx', e', hh'⟩
      exact ⟨xs.length - (i + 1), by omega, rfl, hlt, s2, F', hs, f0', sx', e', hh'⟩
    · obtain ⟨F2, e2, hh2, a2⟩ := W.yld i _ F (O s) H x H' sx hh hx y
      refine ht xs[i] F2 σ (G s) x H' (O s) (e.mono e2) hh2 a2 _ fun F3 σ3 H3 e3 en3 hh3 _ => ?_
      have sx3 := W.mono _ _ (e2.trans e3) sx
      have f3 : Same F0 F3 := f0.trans (e2.trans e3)
      have gN : ∀ (s2 : S) (σ' : L2.St) (H' : Hp), NX F3 (G s2) (O s2) σ' H' → ∃ F, Same F0 F ∧ Sx F ∧ Env F σ' (G s2) ∧ Holds F (O s2) H' := fun s2 σ' H' ⟨F4, f4, e4, hh4⟩ => ⟨F4, f3.trans f4, W.mono _ _ f4 sx3, e4, hh4⟩
      have gW : ∀ (s2 : S) (σ' : L2.St) (H' : Hp), NX F3 (G s2) (O s2) σ' H' → NX F0 (G s2) (O s2) σ' H' := fun s2 σ' H' ⟨F4, f4, e4, hh4⟩ => ⟨F4, f3.trans f4, e4, hh4⟩
      refine hb xs[i] s s' (List.getElem_mem hlt) h1 F3 { D with nx := fun σ' H' => ∃ s2, s' = .nx s2 ∧ ∃ F, Same F0 F ∧ Sx F ∧ Env F σ' (G s2) ∧ Holds F (O s2) H', ct := fun σ' H' => ∃ s2, s' = .nx s2 ∧ ∃ F, Same F0 F ∧ Sx F ∧ Env F σ' (G s2) ∧ Holds F (O s2) H', bk := D.nx } f3 ⟨fun s2 z σ' H' n2 => ⟨s2, z, gN s2 σ' H' n2⟩, fun s2 z σ' H' n2 => ⟨s2, z, gN s2 σ' H' n2⟩, fun s2 z σ' H' n2 => ?_, fun r z => ?_⟩ σ3 H3 ⟨F3, Same.refl _, en3, hh3⟩
      · subst z
        cases hs
        exact hn s2 rfl σ' H' (gW s2 σ' H' n2)
      · subst z
        cases hs
        exact (hr r rfl).mono f3
  · have ei : i = xs.length := by omega
    subst ei
    refine .inl ⟨W.stop F (O s) H sx hh, ?_⟩
    rw [List.drop_length] at hs
    cases hs
    exact hn s rfl σ H ⟨F, f0, e, hh⟩
theorem xs_forS {α S ρ : Type} {bd : α → S → Option (Stp S ρ)} {s0 : S} {st : Stp S ρ} {wi : TI} {tb : TS} {g : TG} {xs : List α} {A : α → VA} {f : α → List (Option VA) → List (Option VA)} (G : S → List (Option VA)) (O : S → List OA) (RR : ρ → Hp → V → List OA → Prop)
    (hm : forM' bd xs s0 = some st) (hi : XI wi (G s0) Ω xs A (O s0)) {js : List Nat} (ht : ∀ a, Tgt g (A a) (f a) js)
    (hb : ∀ a s s', a ∈ xs → bd a s = some s' → ∀ F1 D', Same F0 F1 → To D' F1 s' (fun s => NX F1 (G s) (O s)) (fun s => NX F1 (G s) (O s)) RR → XS tb D' F1 (f a (G s)) (O s))
    (hn : ∀ s, st = .nx s → XS ts D F0 (G s) (O s)) (hr : ∀ r, st = .rt r → RT F0 (RR r) D.rt) : XS (tSeq (tFor wi g tb) ts) D F0 (G s0) Ω :=
  xs_seq (xs_for G O RR hm hi ht hb (fun s e σ H n => hn s e σ H n) hr)
end
end VL

set_option Elab.async false
set_option linter.all false
set_option maxRecDepth 100000
/-! lists, fields, the machine, the numbers, defs -/
namespace VL
open PySem L2

theorem alA_map {α : Type} [Rp α] {T : TC} {F : Hp} : ∀ {vs : List V} {l : List α}, AlA F vs (l.map (va T)) → Al T F vs l
  | _, [], h => by cases h; exact .nil
  | _, a :: r, h => by cases h with | cons h t => exact .cons h (alA_map t)
def cut {α : Type} (l : List α) (lo hi : Option Int) : List α := (l.drop (HT.sIx l.length 0 lo)).take (HT.sIx l.length l.length hi - HT.sIx l.length 0 lo)
theorem cut_len {α : Type} (l : List α) (lo hi : Option Int) : (cut l lo hi).length ≤ l.length := by
  unfold cut
  rw [List.length_take, List.length_drop]
  omega
theorem al_cut {α : Type} [Rp α] {T : TC} {F : Hp} {vs : List V} {l : List α} (lo hi : Option Int) (h : Al T F vs l) : Al T F (cutV vs lo hi) (cut l lo hi) := by
  unfold cut cutV
  rw [al_len h]
  exact al_take _ (al_drop _ h)
theorem al_at {α : Type} [Rp α] {T : TC} {F : Hp} {vs : List V} {l : List α} {i : Int} {a : α} (h : Al T F vs l) (e : atI l i = some a) : ∃ v, atI vs i = some v ∧ Rp.rep T F v a := by
  unfold atI at e ⊢
  rw [al_len h]
  cases hx : ixN l.length i with
  | none => rw [hx] at e; cases e
  | some k =>
    rw [hx] at e
    exact al_get h e

section
variable {T : TC} {Γ : List (Option VA)} {Ω Ω1 Ω2 Ω3 : List OA} {A B C : VA} {As : List VA} {ta tb te : TE} {t u : TT} {i j n m : Int} {b c : Bool} {α : Type} [Rp α] {l l2 : List α} {F0 : Hp} {D : Ends} {ts : TS}

/-! ### what a list holds, whoever holds it -/
def IsL (T : TC) (Ω : List OA) (A : VA) (l : List α) : Prop := ∀ F H v, Holds F Ω H → A.P F v → ∃ p vs, v = .ref p ∧ SqL T.K H p vs ∧ Al T F vs l
def IsLs (T : TC) (Ω : List OA) (A : VA) (l : List α) : Prop := ∀ F H v, Holds F Ω H → A.P F v → ∃ p vs, v = .ref p ∧ H p = some (.lst vs) ∧ Al T F vs l
def IsT (T : TC) (Ω : List OA) (A : VA) (l : List α) : Prop := ∀ F H v, Holds F Ω H → A.P F v → ∃ p vs, v = .ref p ∧ SqT T.K H p vs ∧ Al T F vs l
theorem isLs_LF : IsLs T Ω (va T (LF.mk l)) l := fun F H v hh ⟨p, vs, h1, h2, h3⟩ => ⟨p, vs, h1, hh.same _ _ h2, h3⟩
theorem isL_LF : IsL T Ω (va T (LF.mk l)) l := fun F H v hh ⟨p, vs, h1, h2, h3⟩ => ⟨p, vs, h1, SqL.of (hh.same _ _ h2), h3⟩
theorem isL_SF : IsL T Ω (va T (SF.mk l)) l := fun F H v hh ⟨p, vs, h1, h2, h3⟩ => ⟨p, vs, h1, hh.same.seq h2, h3⟩
theorem isT_TF : IsT T Ω (va T (TF.mk l)) l := fun F H v hh ⟨p, vs, h1, h2, h3⟩ => ⟨p, vs, h1, Same.tup hh.same h2, h3⟩
theorem isLs_M {k : Nat} {p : Addr} (h : Ω[k]? = some (lstA T p l)) : IsLs T Ω (vr p) l := fun F H v hh e => by
  obtain ⟨t, ⟨vs, h1, h2⟩, st, _⟩ := hh.get h
  exact ⟨p, vs, e, st _ _ h1, h2⟩
theorem isL_M {k : Nat} {p : Addr} (h : Ω[k]? = some (lstA T p l)) : IsL T Ω (vr p) l := fun F H v hh e => by
  obtain ⟨t, ⟨vs, h1, h2⟩, st, _⟩ := hh.get h
  exact ⟨p, vs, e, SqL.of (st _ _ h1), h2⟩

def rLen (K : PySem.W.Frag) : List V → Hp → VK → Prop := fun xs H Q => ∃ p ys, xs = [.ref p] ∧ (SqL K H p ys ∨ SqT K H p ys) ∧ Q (.int ys.length) H
theorem cr_len {X : Cx} : CallR X (.builtin "len") (rLen X.K) := call_len_seq
theorem alA1 {F : Hp} {vs : List V} (h : AlA F vs [A]) : ∃ v, vs = [v] ∧ A.P F v := by
  cases h with
  | cons h t => cases t; exact ⟨_, rfl, h⟩
theorem alA2 {F : Hp} {vs : List V} (h : AlA F vs [A, B]) : ∃ v w, vs = [v, w] ∧ A.P F v ∧ B.P F w := by
  cases h with
  | cons h t => cases t with | cons h2 t => cases t; exact ⟨_, _, rfl, h, h2⟩
theorem rc_lenL (h : IsL T Ω A l) : RC (rLen T.K) Ω [A] (va T (l.length : Int)) := fun F H vs hh a Q q => by
  obtain ⟨v, rfl, a1⟩ := alA1 a
  obtain ⟨p, ws, e, hs, al⟩ := h F H v hh a1
  refine ⟨p, ws, by rw [e], .inl hs, q F _ H (Same.refl F) hh ?_⟩
  show V.int _ = V.int _
  rw [al_len al]
theorem xe_lenL (ha : XE te Γ Ω A Ω1) (h : IsL T Ω1 A l) : XE (tCB (rLen T.K) (tCons te tNil)) Γ Ω (va T (l.length : Int)) Ω1 := xe_cb (xa_cons ha xa_nil) (rc_lenL h)
theorem ro_ixL {a : α} (h : IsL T Ω A l) (e : atI l i = some a) : RO (rIx T.K) Ω A (va T i) (va T a) := fun F H x y hh a1 a2 Q q => by
  obtain ⟨p, ws, rfl, hs, al⟩ := h F H x hh a1
  obtain ⟨v, hv, rv⟩ := al_at al e
  exact .inl ⟨p, ws, i, v, rfl, a2, hs, hv, q F v H (Same.refl F) hh rv⟩
/-! new lists -/
theorem xe_lst {ta : TA} (h : XA ta Γ Ω (l.map (va T)) Ω1) (hz : l.length ≤ sizeLine) : XE (tLst ta) Γ Ω (va T (LF.mk l)) Ω1 := fun F σ H e hh Q q => by
  refine h F σ H e hh _ fun F1 xs H1 e1 hh1 a1 => ?_
  have al := alA_map a1
  refine ⟨by rw [al_len al]; exact hz, fun p hp => ?_⟩
  obtain ⟨hh2, e2⟩ := hh1.newF (u := .lst xs) hp
  exact q _ _ _ _ (e1.trans e2) hh2 ⟨⟨p, xs, rfl, upd_same, al.mono e2⟩, rfl⟩
theorem xn_lst {ta : TA} (h : XA ta Γ Ω (l.map (va T)) Ω1) (hz : l.length ≤ sizeLine) : XG (tLst ta) Γ Ω (RN Ω1 fun p => lstA T p l) := fun F σ H e hh Q q => by
  refine h F σ H e hh _ fun F1 xs H1 e1 hh1 a1 => ?_
  have al := alA_map a1
  refine ⟨by rw [al_len al]; exact hz, fun p hp => ?_⟩
  exact q F1 _ _ _ e1 (hh1.newL (o := lstA T p l) hp ⟨xs, upd_same, al⟩) ⟨p, rfl, rfl⟩
theorem xe_tup2 {β : Type} [Rp β] {a : α} {x : β} {ta : TA} (h : XA ta Γ Ω [va T a, va T x] Ω1) : XE (tTup ta) Γ Ω (va T (a, x)) Ω1 := fun F σ H e hh Q q => by
  refine h F σ H e hh _ fun F1 xs H1 e1 hh1 a1 => ?_
  obtain ⟨v, w, rfl, h1, h2⟩ := alA2 a1
  refine ⟨by show 2 ≤ sizeLine; decide, fun p hp => ?_⟩
  obtain ⟨hh2, e2⟩ := hh1.newF (u := .tup [v, w]) hp
  exact q _ _ _ _ (e1.trans e2) hh2 ⟨⟨p, v, w, rfl, SqT.of upd_same, Rp.mono e2 h1, Rp.mono e2 h2⟩, rfl⟩
theorem xe_tup3 {β γ : Type} [Rp β] [Rp γ] {a : α} {x : β} {y : γ} {ta : TA} (h : XA ta Γ Ω [va T a, va T x, va T y] Ω1) : XE (tTup ta) Γ Ω (va T (T3.mk a x y)) Ω1 := fun F σ H e hh Q q => by
  refine h F σ H e hh _ fun F1 xs H1 e1 hh1 a1 => ?_
  cases a1 with
  | cons h1 a1 =>
    obtain ⟨v, w, rfl, h2, h3⟩ := alA2 a1
    refine ⟨by show 3 ≤ sizeLine; decide, fun p hp => ?_⟩
    obtain ⟨hh2, e2⟩ := hh1.newF (u := .tup [_, v, w]) hp
    exact q _ _ _ _ (e1.trans e2) hh2 ⟨⟨p, _, v, w, rfl, SqT.of upd_same, Rp.mono e2 h1, Rp.mono e2 h2, Rp.mono e2 h3⟩, rfl⟩
theorem xe_tupF {ta : TA} (h : XA ta Γ Ω (l.map (va T)) Ω1) (hz : l.length ≤ sizeLine) : XE (tTup ta) Γ Ω (va T (TF.mk l)) Ω1 := fun F σ H e hh Q q => by
  refine h F σ H e hh _ fun F1 xs H1 e1 hh1 a1 => ?_
  have al := alA_map a1
  refine ⟨by rw [al_len al]; exact hz, fun p hp => ?_⟩
  obtain ⟨hh2, e2⟩ := hh1.newF (u := .tup xs) hp
  exact q _ _ _ _ (e1.trans e2) hh2 ⟨⟨p, xs, rfl, SqT.of upd_same, al.mono e2⟩, rfl⟩
/-- xs + ys -/
theorem ro_cat (h : IsLs T Ω A l) (h2 : IsLs T Ω B l2) (hz : l.length + l2.length ≤ sizeLine) : RO rCat Ω A B (va T (LF.mk (l ++ l2))) := fun F H x y hh a1 a2 Q q => by
  obtain ⟨p, vs, rfl, hp, al⟩ := h F H x hh a1
  obtain ⟨p2, vs2, rfl, hp2, al2⟩ := h2 F H y hh a2
  refine ⟨p, p2, vs, vs2, rfl, rfl, hp, hp2, by rw [al_len al, al_len al2]; exact hz, fun d hd => ?_⟩
  obtain ⟨hh2, e2⟩ := hh.newF (u := .lst (vs ++ vs2)) hd
  exact q _ _ _ e2 hh2 ⟨d, _, rfl, upd_same, (al_app al al2).mono e2⟩
theorem al_repF {vs : List V} {F : Hp} (h : Al T F vs l) : ∀ n : Nat, Al T F (List.replicate n vs).flatten (List.replicate n l).flatten
  | 0 => .nil
  | n + 1 => by rw [List.replicate_succ, List.flatten_cons, List.replicate_succ, List.flatten_cons]; exact al_app h (al_repF h n)
theorem ro_rep (h : IsLs T Ω A l) (h1 : -(2 ^ 63) ≤ i) (h2 : i < 2 ^ 63) (hz : l.length * i.toNat ≤ sizeLine) : RO rRep Ω A (va T i) (va T (LF.mk (List.replicate i.toNat l).flatten)) := fun F H x y hh a1 a2 Q q => by
  obtain ⟨p, vs, rfl, hp, al⟩ := h F H x hh a1
  refine ⟨p, i, vs, rfl, a2, hp, h1, h2, by rw [al_len al]; exact hz, fun d hd => ?_⟩
  obtain ⟨hh2, e2⟩ := hh.newF (u := .lst (List.replicate i.toNat vs).flatten) hd
  exact q _ _ _ e2 hh2 ⟨d, _, rfl, upd_same, (al_repF al _).mono e2⟩
/-- the same into a changing list -/
theorem xn_op {r : R2} {o : Addr → OA} (ha : XE ta Γ Ω A Ω1) (hb : XE tb Γ Ω1 B Ω2) (hr : ∀ F H x y, Holds F Ω2 H → A.P F x → B.P F y → ∀ Q : VK, (∀ p H', Holds F (Ω2 ++ [o p]) H' → Q (.ref p) H') → r x y H Q) : XG (tOp r ta tb) Γ Ω (RN Ω2 o) := fun F σ H e hh Q q => by
  refine ha F σ H e hh _ fun F1 x H1 Ω' e1 hh1 ⟨a1, o1⟩ => ?_
  subst o1
  refine hb F1 σ H1 (e.mono e1) hh1 _ fun F2 y H2 Ω'' e2 hh2 ⟨a2, o2⟩ => ?_
  subst o2
  exact hr F2 H2 x y hh2 (A.mono e2 a1) a2 Q fun p H3 hh3 => q F2 _ H3 _ (e1.trans e2) hh3 ⟨p, rfl, rfl⟩
/-- list(xs) -/
def rList (K : PySem.W.Frag) : List V → Hp → VK → Prop := fun xs H Q => ∃ p ys, xs = [.ref p] ∧ (SqL K H p ys ∨ SqT K H p ys) ∧ ∀ l, H l = none → Q (.ref l) (upd H l (.lst ys))
theorem cr_list {X : Cx} : CallR X (.type "list") (rList X.K) := call_list_of
theorem xe_listL (ha : XE te Γ Ω A Ω1) (h : IsL T Ω1 A l) : XE (tCB (rList T.K) (tCons te tNil)) Γ Ω (va T (LF.mk l)) Ω1 := xe_cb (xa_cons ha xa_nil) fun F H vs hh a Q q => by
  obtain ⟨v, rfl, a1⟩ := alA1 a
  obtain ⟨p, ws, e, hs, al⟩ := h F H v hh a1
  refine ⟨p, ws, by rw [e], .inl hs, fun d hd => ?_⟩
  obtain ⟨hh2, e2⟩ := hh.newF (u := .lst ws) hd
  exact q _ _ _ e2 hh2 ⟨d, _, rfl, upd_same, al.mono e2⟩
theorem xe_listT (ha : XE te Γ Ω A Ω1) (h : IsT T Ω1 A l) : XE (tCB (rList T.K) (tCons te tNil)) Γ Ω (va T (LF.mk l)) Ω1 := xe_cb (xa_cons ha xa_nil) fun F H vs hh a Q q => by
  obtain ⟨v, rfl, a1⟩ := alA1 a
  obtain ⟨p, ws, e, hs, al⟩ := h F H v hh a1
  refine ⟨p, ws, by rw [e], .inr hs, fun d hd => ?_⟩
  obtain ⟨hh2, e2⟩ := hh.newF (u := .lst ws) hd
  exact q _ _ _ e2 hh2 ⟨d, _, rfl, upd_same, al.mono e2⟩
/-- tuple(xs): of a list, a new one; of a tuple, itself -/
def rTuple (K : PySem.W.Frag) : List V → Hp → VK → Prop := fun xs H Q => ∃ p ys, xs = [.ref p] ∧ ((SqL K H p ys ∧ ∀ l, H l = none → Q (.ref l) (upd H l (.tup ys))) ∨ (SqT K H p ys ∧ Q (.ref p) H))
theorem cr_tuple {X : Cx} : CallR X (.type "tuple") (rTuple X.K) := call_tuple_of
theorem xe_tupleL (ha : XE te Γ Ω A Ω1) (h : IsL T Ω1 A l) : XE (tCB (rTuple T.K) (tCons te tNil)) Γ Ω (va T (TF.mk l)) Ω1 := xe_cb (xa_cons ha xa_nil) fun F H vs hh a Q q => by
  obtain ⟨v, rfl, a1⟩ := alA1 a
  obtain ⟨p, ws, e, hs, al⟩ := h F H v hh a1
  refine ⟨p, ws, by rw [e], .inl ⟨hs, fun d hd => ?_⟩⟩
  obtain ⟨hh2, e2⟩ := hh.newF (u := .tup ws) hd
  exact q _ _ _ e2 hh2 ⟨d, _, rfl, SqT.of upd_same, al.mono e2⟩
theorem xe_tupleT (ha : XE te Γ Ω (va T (TF.mk l)) Ω1) : XE (tCB (rTuple T.K) (tCons te tNil)) Γ Ω (va T (TF.mk l)) Ω1 := xe_cb (xa_cons ha xa_nil) fun F H vs hh a Q q => by
  obtain ⟨v, rfl, a1⟩ := alA1 a
  obtain ⟨p, ws, e, hs, al⟩ := id a1
  exact ⟨p, ws, by rw [e], .inr ⟨Same.tup hh.same hs, q F _ H (Same.refl F) hh (e ▸ a1)⟩⟩
/-! slices -/
def XO (to : TO) (Γ : List (Option VA)) (Ω : List OA) (o : Option Int) : Prop := ∀ F σ H, Env F σ Γ → Holds F Ω H → ∀ Q : Option Int → Hp → Prop, (∀ F' H', Same F F' → Holds F' Ω H' → Q o H') → to σ H Q
theorem xo_none : XO tNoPart Γ Ω none := fun F σ H e hh Q q => q F H (Same.refl F) hh
theorem xo_some (h : XE te Γ Ω (va T i) Ω) : XO (tPart te) Γ Ω (some i) := fun F σ H e hh Q q => by
  refine h F σ H e hh _ fun F1 x H1 Ω' e1 hh1 ⟨a1, o1⟩ => ?_
  subst o1
  exact ⟨i, a1, q F1 H1 e1 hh1⟩
theorem xe_sliceL {tl th : TO} {lo hi : Option Int} (ha : XE te Γ Ω A Ω1) (hl : XO tl Γ Ω1 lo) (hu : XO th Γ Ω1 hi) (h : IsL T Ω1 A l) : XE (tSl (rSlL T.K) te tl th) Γ Ω (va T (LF.mk (cut l lo hi))) Ω1 := fun F σ H e hh Q q => by
  refine ha F σ H e hh _ fun F1 x H1 Ω' e1 hh1 ⟨a1, o1⟩ => ?_
  subst o1
  refine hl F1 σ H1 (e.mono e1) hh1 _ fun F2 H2 e2 hh2 => ?_
  refine hu F2 σ H2 ((e.mono e1).mono e2) hh2 _ fun F3 H3 e3 hh3 => ?_
  obtain ⟨p, ws, rfl, hs, al⟩ := h F3 H3 x hh3 (A.mono (e2.trans e3) a1)
  refine ⟨p, ws, rfl, hs, fun d hd => ?_⟩
  obtain ⟨hh4, e4⟩ := hh3.newF (u := .lst (cutV ws lo hi)) hd
  exact q _ _ _ _ (((e1.trans e2).trans e3).trans e4) hh4 ⟨⟨d, _, rfl, upd_same, (al_cut lo hi al).mono e4⟩, rfl⟩
theorem xe_revL (ha : XE te Γ Ω A Ω1) (h : IsL T Ω1 A l) : XE (tRevL T.K te) Γ Ω (va T (LF.mk l.reverse)) Ω1 := fun F σ H e hh Q q => by
  refine ha F σ H e hh _ fun F1 x H1 Ω' e1 hh1 ⟨a1, o1⟩ => ?_
  subst o1
  obtain ⟨p, ws, rfl, hs, al⟩ := h F1 H1 x hh1 a1
  refine ⟨p, ws, rfl, hs, fun d hd => ?_⟩
  obtain ⟨hh4, e4⟩ := hh1.newF (u := .lst ws.reverse) hd
  exact q _ _ _ _ (e1.trans e4) hh4 ⟨⟨d, _, rfl, upd_same, (al_rev al).mono e4⟩, rfl⟩
/-! lists that change -/
theorem xe_app {k : Nat} {p : Addr} {a : α} (h0 : Ω[k]? = some (lstA T p l2)) (hk : Ω1[k]? = some (lstA T p l)) (ha : XE ta Γ Ω (vr p) Ω) (hb : XE tb Γ Ω (va T a) Ω1) (hz : l.length < sizeLine) :
    XE (tBM T.K "list" rAppend ta (tCons tb tNil)) Γ Ω (va T ()) (Ω1.set k (lstA T p (l ++ [a]))) := fun F σ H e hh Q q => by
  refine ha F σ H e hh _ fun F1 x H1 Ω' e1 hh1 ⟨a1, o1⟩ => ?_
  subst o1
  obtain ⟨p0, vs0, e0, h00, _⟩ := isLs_M h0 F1 H1 x hh1 a1
  have a1 : x = .ref p := a1
  subst a1
  cases e0
  refine ⟨.inl ⟨rfl, _, SqL.of h00⟩, ?_⟩
  refine hb F1 σ H1 (e.mono e1) hh1 _ fun F2 y H2 Ω'' e2 hh2 ⟨a2, o2⟩ => ?_
  subst o2
  obtain ⟨t, ⟨vs, h1, al⟩, st, _, wr⟩ := hh2.get hk
  refine ⟨p, vs, y, rfl, rfl, st _ _ h1, by rw [al_len al]; exact hz, ?_⟩
  exact q F2 _ _ _ (e1.trans e2) (wr (lstA T p (l ++ [a])) p _ _ h1 ⟨_, upd_same, al_app al (.cons a2 .nil)⟩) ⟨rfl, rfl⟩
/-- xs[i] = e, xs a name's own list -/
theorem xs_setL {k : Nat} {p : Addr} {a : α} {to ti : TE} {jn : Nat} (hv : XE te Γ Ω (va T a) Ω1) (ho : XE to Γ Ω1 (vr p) Ω1) (hi : XE ti Γ Ω1 (va T i) Ω1) (hk : Ω1[k]? = some (lstA T p l)) (hj : ixN l.length i = some jn) (q : XS ts D F0 Γ (Ω1.set k (lstA T p (l.set jn a)))) :
    XS (tSeq (tAsg te (gSub to ti rSetL)) ts) D F0 Γ Ω := fun σ H ⟨F, f0, e, hh⟩ => by
  refine hv F σ H e hh _ fun F1 v H1 Ω' e1 hh1 ⟨a1, o1⟩ => ?_
  subst o1
  refine ho F1 σ H1 (e.mono e1) hh1 _ fun F2 o H2 Ω' e2 hh2 ⟨a2, o2⟩ => ?_
  subst o2
  refine hi F2 σ H2 ((e.mono e1).mono e2) hh2 _ fun F3 x H3 Ω' e3 hh3 ⟨a3, o3⟩ => ?_
  subst o3
  obtain ⟨t, ⟨vs, h1, al⟩, st, _, wr⟩ := hh3.get hk
  refine ⟨p, vs, i, jn, a2, a3, st _ _ h1, by rw [al_len al]; exact hj, ?_⟩
  exact q σ _ ⟨F3, f0.trans ((e1.trans e2).trans e3), ((e.mono e1).mono e2).mono e3, wr (lstA T p (l.set jn a)) p _ _ h1 ⟨_, upd_same, al_set (Rp.mono (e2.trans e3) a1) jn al⟩⟩
/-! walks -/
theorem wk_list {p : Addr} {vs : List V} : Wk (Itl T.K p) (fun F => SqL T.K F p vs ∧ Al T F vs l) l (fun a => va T a) where
  mono := fun F F' e ⟨h1, h2⟩ => ⟨e.seq h1, h2.mono e⟩
  go := fun i F Ω H ⟨h1, h2⟩ hh hi => ⟨vs, vs[i]'(by rw [al_len h2]; exact hi), hh.same.seq h1, List.getElem?_eq_getElem _⟩
  stop := fun F Ω H ⟨h1, h2⟩ hh => ⟨vs, hh.same.seq h1, by rw [al_len h2]; exact Nat.le_refl _⟩
  yld := fun i a F Ω H x H' ⟨h1, h2⟩ hh hx y => by
    obtain ⟨e, y⟩ := y
    subst e
    obtain ⟨v, hv, rv⟩ := al_get h2 hx
    have ev := y vs (hh.same.seq h1)
    rw [hv] at ev
    cases ev
    exact ⟨F, Same.refl F, hh, rv⟩
theorem wk_tup {p : Addr} {vs : List V} : Wk (Itt T.K p) (fun F => SqT T.K F p vs ∧ Al T F vs l) l (fun a => va T a) where
  mono := fun F F' e ⟨h1, h2⟩ => ⟨Same.tup e h1, h2.mono e⟩
  go := fun i F Ω H ⟨h1, h2⟩ hh hi => ⟨vs, vs[i]'(by rw [al_len h2]; exact hi), Same.tup hh.same h1, List.getElem?_eq_getElem _⟩
  stop := fun F Ω H ⟨h1, h2⟩ hh => ⟨vs, Same.tup hh.same h1, by rw [al_len h2]; exact Nat.le_refl _⟩
  yld := fun i a F Ω H x H' ⟨h1, h2⟩ hh hx y => by
    obtain ⟨e, y⟩ := y
    subst e
    obtain ⟨v, hv, rv⟩ := al_get h2 hx
    have ev := y vs (Same.tup hh.same h1)
    rw [hv] at ev
    cases ev
    exact ⟨F, Same.refl F, hh, rv⟩
theorem wk_range {n : Nat} {lo : Int} : Wk (Itr lo n) (fun _ => True) ((List.range n).map fun (k : Nat) => lo + (k : Int)) (fun a => va T a) where
  mono := fun _ _ _ _ => trivial
  go := fun i F Ω H _ _ hi => by
    have hi : i < n := by simpa using hi
    exact hi
  stop := fun F Ω H _ _ => by show n ≤ _; simp
  yld := fun i a F Ω H x H' _ hh hx y => by
    obtain ⟨e, y⟩ := y
    subst e y
    refine ⟨F, Same.refl F, hh, ?_⟩
    show V.int _ = V.int a
    rw [List.getElem?_map] at hx
    cases hr : (List.range n)[i]? with
    | none => rw [hr] at hx; cases hx
    | some k =>
      rw [hr] at hx
      have hk : i = k := by
        obtain ⟨h1, h2⟩ := List.getElem?_eq_some_iff.mp hr
        rw [List.getElem_range] at h2
        exact h2
      subst hk
      cases hx
      rfl
theorem xi_list (ha : XE te Γ Ω A Ω1) (h : ∀ F v, A.P F v → ∃ p vs, v = .ref p ∧ SqL T.K F p vs ∧ Al T F vs l) : XI (iList T.K te) Γ Ω l (fun a => va T a) Ω1 := fun F σ H e hh R r => by
  refine ha F σ H e hh _ fun F1 x H1 Ω' e1 hh1 ⟨a1, o1⟩ => ?_
  subst o1
  obtain ⟨p, vs, rfl, h1, al⟩ := h F1 x a1
  exact ⟨p, rfl, ⟨vs, hh1.same.seq h1⟩, r F1 _ H1 _ e1 hh1 wk_list ⟨h1, al⟩⟩
theorem xi_LF (ha : XE te Γ Ω (va T (LF.mk l)) Ω1) : XI (iList T.K te) Γ Ω l (fun a => va T a) Ω1 := xi_list ha fun F v ⟨p, vs, h1, h2, h3⟩ => ⟨p, vs, h1, SqL.of h2, h3⟩
/-- the ints from lo on, so many -/
def rng (lo : Int) (n : Nat) : List Int := (List.range n).map fun (k : Nat) => lo + (k : Int)
theorem xi_range1 {ta : TA} (ha : XA ta Γ Ω [va T i] Ω1) (h1 : -(2 ^ 62) ≤ i) (h2 : i < 2 ^ 62) : XI (iRng1 ta) Γ Ω (rng 0 i.toNat) (fun a => va T a) Ω1 := fun F σ H e hh R r => by
  refine ha F σ H e hh _ fun F1 vs H1 e1 hh1 a1 => ?_
  obtain ⟨v, rfl, b1⟩ := alA1 a1
  have b1 : v = .int i := b1
  subst b1
  exact ⟨i, rfl, h1, h2, r F1 _ H1 _ e1 hh1 wk_range trivial⟩
theorem rev_get {β : Type} {xs : List β} {i : Nat} {a : β} (h : xs.reverse[i]? = some a) : i < xs.length ∧ xs[xs.length - 1 - i]? = some a := by
  have lt : i < xs.length := by have := getlt h; rwa [List.length_reverse] at this
  rw [List.getElem?_reverse lt] at h
  exact ⟨lt, h⟩
theorem wk_revL {p : Addr} {vs : List V} : Wk (Itv T.K p vs.length) (fun F => SqL T.K F p vs ∧ Al T F vs l) l.reverse (fun a => va T a) where
  mono := fun F F' e ⟨h1, h2⟩ => ⟨e.seq h1, h2.mono e⟩
  go := fun i F Ω H ⟨h1, h2⟩ hh hi => by
    rw [List.length_reverse, ← al_len h2] at hi
    exact ⟨hi, vs, _, hh.same.seq h1, List.getElem?_eq_getElem (by omega)⟩
  stop := fun F Ω H ⟨h1, h2⟩ hh => by show vs.length ≤ _; rw [List.length_reverse, al_len h2]; exact Nat.le_refl _
  yld := fun i a F Ω H x H' ⟨h1, h2⟩ hh hx y => by
    obtain ⟨e, y⟩ := y
    subst e
    obtain ⟨lt, hx⟩ := rev_get hx
    obtain ⟨v, hv, rv⟩ := al_get h2 hx
    have ev := y vs (hh.same.seq h1)
    rw [al_len h2, hv] at ev
    cases ev
    exact ⟨F, Same.refl F, hh, rv⟩
theorem xi_revL (ha : XE te Γ Ω (va T (LF.mk l)) Ω1) : XI (_root_.RT.iRevA T.K te) Γ Ω l.reverse (fun a => va T a) Ω1 := fun F σ H e hh R r => by
  refine ha F σ H e hh _ fun F1 x H1 Ω' e1 hh1 ⟨a1, o1⟩ => ?_
  subst o1
  obtain ⟨p, vs, rfl, h1, al⟩ := id a1
  exact ⟨p, vs, rfl, .inl ⟨SqL.of (hh1.same _ _ h1), r F1 _ H1 _ e1 hh1 wk_revL ⟨SqL.of h1, al⟩⟩⟩

/-! ### a list comprehension -/
/-- b x s: whether the item is taken, its value, the state behind -/
def lcM {β γ S : Type} (b : β → S → Option (Option γ × S)) : List β → S → Option (List γ × S)
  | [], s => some ([], s)
  | x :: r, s => (b x s).bind fun (o, s') => (lcM b r s').bind fun (ys, s'') => some ((match o with | some y => y :: ys | none => ys), s'')
/-- what is known behind the wiping of the slots vs -/
def wip (Γ : List (Option VA)) : List Nat → List (Option VA)
  | [] => Γ
  | i :: r => (wip Γ r).set i none
theorem env_none {F : Hp} {σ : L2.St} {k : Nat} (h : Env F σ Γ) : Env F (σ.set k none) (Γ.set k none) := by
  refine ⟨by rw [List.length_set, List.length_set]; exact h.1, fun i A q => ?_⟩
  by_cases hk : k = i
  · subst hk
    have lt : k < Γ.length := by have := getlt q; rwa [List.length_set] at this
    rw [List.getElem?_set_self lt] at q
    cases q
  · rw [List.getElem?_set_ne hk] at q
    obtain ⟨w, h1, h2⟩ := h.2 i A q
    exact ⟨w, by rw [List.getElem?_set_ne hk]; exact h1, h2⟩
theorem wip_env {F : Hp} {σ : L2.St} (h : Env F σ Γ) : ∀ vs : List Nat, Env F (wipe σ vs) (wip Γ vs)
  | [] => h
  | i :: r => env_none (wip_env h r)
theorem wipe_wipe {σ : L2.St} (vs : List Nat) : wipe (wipe σ vs) vs = wipe σ vs := by
  have : ∀ (r : List Nat) (τ : L2.St), (∀ i ∈ r, i ∈ vs) → wipe (wipe τ r) vs = wipe τ vs := by
    intro r
    induction r with
    | nil => intro τ _; rfl
    | cons a r ih =>
      intro τ h
      show wipe ((wipe τ r).set a none) vs = _
      rw [wipe_set (h a List.mem_cons_self)]
      exact ih τ fun i hi => h i (List.mem_cons_of_mem _ hi)
  exact this vs σ fun _ h => h
theorem set_last {β : Type} {l : List β} {a b : β} : (l ++ [a]).set l.length b = l ++ [b] := by
  rw [List.set_append_right _ _ (Nat.le_refl _)]; simp
theorem xn_lc {β γ S : Type} [Rp γ] {b : β → S → Option (Option γ × S)} {xs : List β} {s0 s1 : S} {ys : List γ} {wi : TI} {g : TG} {tt : TT} {vs : List Nat} {A : β → VA} {f : β → List (Option VA) → List (Option VA)} {js : List Nat} (O : S → List OA)
    (hm : lcM b xs s0 = some (ys, s1)) (hi : XI wi Γ Ω xs A (O s0)) (ht : ∀ a, Tgt g (A a) (f a) js) (hj : ∀ j ∈ js, j ∈ vs) (hz : xs.length ≤ sizeLine)
    (hb : ∀ a s o s', a ∈ xs → b a s = some (o, s') → ∀ X : OA, (o = none → XT tt (f a (wip Γ vs)) (O s ++ [X]) false (O s' ++ [X])) ∧
      (∀ y, o = some y → XT tt (f a (wip Γ vs)) (O s ++ [X]) true (O s ++ [X]) ∧ XE te (f a (wip Γ vs)) (O s ++ [X]) (va T y) (O s' ++ [X]))) :
    XG (tLc wi g tt te vs) Γ Ω (RN (O s1) fun p => lstA T p ys) := by
  intro F σ H e hh Q q
  refine hi F σ H e hh _ fun F1 J H1 Sx e1 hh1 W sx => fun d hd => ?_
  refine ⟨fun i m H => m = xs.length - i ∧ i ≤ xs.length ∧ ∃ s F acc r, lcM b (xs.drop i) s = some (r, s1) ∧ acc ++ r = ys ∧ acc.length ≤ i ∧ Same F1 F ∧ Sx F ∧ Holds F (O s ++ [lstA T d acc]) H,
    ⟨xs.length, by simp, Nat.zero_le _, s0, F1, [], ys, by rw [List.drop_zero]; exact hm, rfl, Nat.zero_le _, Same.refl _, sx, hh1.newL (o := lstA T d ([] : List γ)) hd ⟨[], upd_same, .nil⟩⟩, ?_⟩
  rintro i m H ⟨rfl, hi, s, F, acc, r, hs, he, hl, f1, sx, hh⟩
  by_cases hlt : i < xs.length
  · refine .inr ⟨W.go i F _ H sx hh hlt, ?_⟩
    have hx : xs[i]? = some xs[i] := List.getElem?_eq_getElem hlt
    rw [List.drop_eq_getElem_cons hlt] at hs
    obtain ⟨⟨o, s'⟩, h1, hs⟩ := bnd_some hs
    obtain ⟨⟨r2, s2⟩, h2, hs⟩ := bnd_some hs
    cases hs
    refine ⟨fun H' => ∃ s F acc r, lcM b (xs.drop (i + 1)) s = some (r, s1) ∧ acc ++ r = ys ∧ acc.length ≤ i + 1 ∧ Same F1 F ∧ Sx F ∧ Holds F (O s ++ [lstA T d acc]) H', fun H' n => ⟨xs.length - (i + 1), by omega, rfl, hlt, n⟩, fun x H' y => ?_⟩
    obtain ⟨F2, e2, hh2, a2⟩ := W.yld i _ F _ H x H' sx hh hx y
    have en : Env F2 (wipe σ vs) (wip Γ vs) := wip_env ((e.mono e1).mono (f1.trans e2)) vs
    refine ht xs[i] F2 (wipe σ vs) (wip Γ vs) x H' _ en hh2 a2 _ fun F3 σ3 H3 e3 en3 hh3 hw => ⟨(hw vs hj).trans (wipe_wipe vs), ?_⟩
    obtain ⟨c1, c2⟩ := hb xs[i] s o s' (List.getElem_mem hlt) h1 (lstA T d acc)
    have f3 : Same F1 F3 := f1.trans (e2.trans e3)
    have sx3 := W.mono _ _ (e2.trans e3) sx
    cases o with
    | none =>
      refine c1 rfl F3 σ3 H3 en3 hh3 _ fun F4 H4 e4 hh4 => ?_
      rw [if_neg Bool.false_ne_true]
      exact ⟨s', F4, acc, r2, h2, he, by omega, f3.trans e4, W.mono _ _ e4 sx3, hh4⟩
    | some y =>
      obtain ⟨c3, c4⟩ := c2 y rfl
      refine c3 F3 σ3 H3 en3 hh3 _ fun F4 H4 e4 hh4 => ?_
      rw [if_pos rfl]
      refine c4 F4 σ3 H4 (en3.mono e4) hh4 _ fun F5 v H5 Ω5 e5 hh5 ⟨a5, o5⟩ => ?_
      subst o5
      have hk : (O s' ++ [lstA T d acc])[(O s').length]? = some (lstA T d acc) := app_at
      obtain ⟨t, ⟨ws, w1, al⟩, st, _, wr⟩ := hh5.get hk
      refine ⟨ws, st _ _ w1, by rw [al_len al]; omega, ?_⟩
      have hh6 := wr (lstA T d (acc ++ [y])) d _ (.lst (ws ++ [v])) w1 ⟨_, upd_same, al_app al (.cons a5 .nil)⟩
      rw [set_last] at hh6
      refine ⟨s', F5, acc ++ [y], r2, h2, by rw [List.append_assoc]; exact he, by rw [List.length_append]; simp; omega, f3.trans (e4.trans e5), W.mono _ _ (e4.trans e5) sx3, hh6⟩
  · have ei : i = xs.length := by omega
    subst ei
    refine .inl ⟨W.stop F _ H sx hh, ?_⟩
    rw [List.drop_length] at hs
    cases hs
    rw [List.append_nil] at he
    subst he
    exact q F (.ref d) H _ (e1.trans f1) hh ⟨d, rfl, rfl⟩
theorem xn_lcS {β γ S : Type} [Rp γ] {b : β → S → Option (Option γ × S)} {xs : List β} {s0 s1 : S} {ys : List γ} {wi : TI} {g : TG} {tt : TT} {vs : List Nat} {A : β → VA} {f : β → List (Option VA) → List (Option VA)} {js : List Nat} {Ω0 : List OA} (ks : S → List (Nat × OA)) (L : S → List OA)
    (hm : lcM b xs s0 = some (ys, s1)) (hi : XI wi Γ Ω0 xs A (stt Ω (ks s0) (L s0))) (ht : ∀ a, Tgt g (A a) (f a) js) (hj : ∀ j ∈ js, j ∈ vs) (hz : xs.length ≤ sizeLine)
    (hb : ∀ a s o s', a ∈ xs → b a s = some (o, s') → ∀ X : OA, (o = none → XT tt (f a (wip Γ vs)) (stt Ω (ks s) (L s ++ [X])) false (stt Ω (ks s') (L s' ++ [X]))) ∧
      (∀ y, o = some y → XT tt (f a (wip Γ vs)) (stt Ω (ks s) (L s ++ [X])) true (stt Ω (ks s) (L s ++ [X])) ∧ XE te (f a (wip Γ vs)) (stt Ω (ks s) (L s ++ [X])) (va T y) (stt Ω (ks s') (L s' ++ [X])))) :
    XG (tLc wi g tt te vs) Γ Ω0 (RN (stt Ω (ks s1) (L s1)) fun p => lstA T p ys) :=
  xn_lc (fun s => stt Ω (ks s) (L s)) hm hi ht hj hz fun a s o s' ha h X => by
    simp only [stt_app]
    exact hb a s o s' ha h X
/-- no test -/
theorem xt_yes : XT tYes Γ Ω true Ω := fun F σ H e hh Q q => q F H (Same.refl F) hh
end
end VL

set_option Elab.async false
set_option linter.all false
set_option maxRecDepth 100000
/-! defs, the machine, the numbers -/
namespace VL
open PySem L2
open PyProof.Rows (envOfC)

/-! ### a def by its body -/
/-- a body at a promise's arguments -/
def Bod (X : Cx) (body : List Stmt) (Γ : List (Option VA)) (Ω : List OA) (F0 : Hp) (R : Hp → V → List OA → Prop) : Prop :=
  ∃ t, PSs X body t ∧ ∀ D : Ends, RT F0 R D.rt → (∀ F σ H Ω', Same F0 F → Holds F Ω' H → R F .non Ω' → D.nx σ H) → XS t D F0 Γ Ω
theorem start_env {F : Hp} {N : List Str} {vs : List V} {As : List VA} (h : AlA F vs As) : Env F (L2.start N vs) (As.map some ++ List.replicate (N.length - As.length) none) := by
  have hl := h.len
  refine ⟨by unfold L2.start; simp [hl], fun i A q => ?_⟩
  by_cases hi : i < As.length
  · rw [List.getElem?_append_left (by simpa using hi), List.getElem?_map] at q
    have : ∀ {vs : List V} {As : List VA} {i : Nat}, AlA F vs As → (As[i]?).map some = some (some A) → ∃ v, vs[i]? = some v ∧ A.P F v := by
      intro vs As i h
      induction h generalizing i with
      | nil => intro q; simp at q
      | cons a t ih =>
        intro q
        cases i with
        | zero => simp at q; subst q; exact ⟨_, rfl, a⟩
        | succ i => simpa using ih (by simpa using q)
    obtain ⟨v, h1, h2⟩ := this h q
    refine ⟨v, ?_, h2⟩
    unfold L2.start
    rw [List.getElem?_append_left (by rw [List.length_map]; exact getlt h1), List.getElem?_map, h1]
    rfl
  · rw [List.getElem?_append_right (by simpa using hi), List.getElem?_replicate] at q
    split at q <;> cases q
section
variable {P : Program} {w : World} {K : PySem.W.Frag} {mg : Str → Option Value} {base : Heap}
theorem fn_ok {x qual : Str} {st : Stmt} {f : Addr} {fd : FuncData} {N ps : List Str} {k : Nat} {Pre : PreT} (F : Fun K x qual st f fd) (S : FnScope N ps (defScope st)) (hl : ∀ As Ω R, Pre As Ω R → As.length = ps.length)
    (hb : ∀ (cdv : Value) (A : Around) (outer : List PySem.Env) (s : Shared) (H : Hp) (E : XK), Room k (A.deeper (envOfC qual (defScope st) s.heap.objs.size f cdv)) → ∀ As Ω R F0, Pre As Ω R →
      Bod (cxOf CX0 P w K mg base N qual (defScope st) f cdv A outer s H E).nox (defBody st) (As.map some ++ List.replicate (N.length - As.length) none) Ω F0 R) : FnOk P w K mg base CX0 (k + 1) f fd ps (mkSp Pre) := by
  refine F.ok S (fun vs H Q E h => ?_) (fun cdv A outer s H vs Q E hr h => ?_)
  · obtain ⟨F, Ω, As, R, hp, ha, _⟩ := h
    rw [ha.len]; exact hl _ _ _ hp
  · obtain ⟨F0, Ω, As, R, hp, ha, hh, hq⟩ := h
    obtain ⟨t, h1, h2⟩ := hb cdv A outer s H E hr As Ω R F0 hp
    refine ⟨t, h1, h2 _ (fun F v H Ω' e hh r => hq F v H Ω' e hh r) (fun F σ H Ω' e hh r => hq F .non H Ω' e hh r) _ _ ⟨F0, Same.refl F0, start_env ha, hh⟩⟩

/-! ### a def that may be called -/
structure Cal (P : Program) (w : World) (K : PySem.W.Frag) (mg : Str → Option Value) (base : Heap) (k : Nat) (x : Str) (ps : List Str) (sp : Sp) : Prop where
  ex : ∃ f fd, FnOk P w K mg base CX0 k f fd ps sp ∧ mg x = some (.ref f) ∧ PySem.W.keepIn K (.ref f) = true ∧ Binds K fd ps []
theorem pe_cal {X : Cx} {k : Nat} {x : Str} {ps : List Str} {sp : Sp} {p pos : Pos} {e : Expr} {es : List Expr} {t : TA} (C : Cal X.prog X.w X.K X.mg X.base k x ps sp) (hr : Room k X.A) (hg : Gl X x) (ha : PA X (e :: es) t)
    (hdb : (x == ("__debug__" : Str)) = false := by decide) (he : starEach (e :: es) X.env = (false, eval e X.env) :: starEach es X.env := by rfl) (hpl : (backTo pos (starEach es X.env)).any (·.1) = false := by rfl) :
    PE X (.Call (.Name x p) (e :: es) [] pos) (tCall sp [] E0 t) := by
  obtain ⟨f, fd, F, hm, hk, hb⟩ := C.ex
  exact pe_call F hr hg hm hk hb .nil pass0 ha hdb he hpl
/-- a method -/
structure CalM (P : Program) (w : World) (K : PySem.W.Frag) (mg : Str → Option Value) (base : Heap) (k : Nat) (C : Addr) (m : Str) (ps : List Str) (sp : Sp) : Prop where
  ex : ∃ f fd, FnOk P w K mg base CX0 k f fd ps sp ∧ Meth K C m f ∧ Binds K fd ps []
  cl : Cls K C
end

/-! ### the machine -/
structure MS where
  w : Int
  c : Int
  cnt : Str → Int
  wk : List (T3 Str Int Int)
def mf (s : MS) (d e : Addr) : List (Str × V) := [("width", .int s.w), ("cutoff", .int s.c), ("counts", .ref d), ("entered", .ref e)]
def mkv (s : MS) : List (Key × V) := mwords.map fun w => (Sum.inr w, V.int (s.cnt w))
def MachAt (T : TC) (p dx d e : Addr) (ws : List V) (s : MS) (F t : Hp) : Prop := t p = some (.ins (T.C 0) dx (mf s d e)) ∧ t d = some (.dK (mkv s)) ∧ t e = some (.lst ws) ∧ Al T F ws s.wk
def machA (T : TC) (p : Addr) (s : MS) : OA := ⟨fun F t => ∃ dx d e ws, MachAt T p dx d e ws s F t, fun h ⟨dx, d, e, ws, h1, h2, h3, h4⟩ => ⟨dx, d, e, ws, h1, h2, h3, h4.mono h⟩⟩
section
variable {T : TC} {Γ : List (Option VA)} {Ω Ω1 Ω2 : List OA} {A B C : VA} {ta tb te : TE} {s : MS} {p : Addr} {k : Nat}
/-- machine.width, machine.cutoff -/
theorem xe_mw (cl : Cls T.K (T.C 0)) (na : NoAttr T.K (T.C 0) "width") (ha : XE ta Γ Ω (vr p) Ω1) (hk : Ω1[k]? = some (machA T p s)) : XE (tFld T.K ta "width") Γ Ω (va T s.w) Ω1 := fun F σ H e hh Q q => by
  refine ha F σ H e hh _ fun F1 x H1 Ω' e1 hh1 ⟨a1, o1⟩ => ?_
  subst o1
  obtain ⟨t, ⟨dx, d, en, ws, h1, h2, h3, h4⟩, st, _⟩ := hh1.get hk
  exact ⟨p, _, dx, _, _, a1, st _ _ h1, cl, na, rfl, q F1 _ H1 _ e1 hh1 ⟨rfl, rfl⟩⟩
end

/-! ### the numbers -/
structure Bg where
  w : Int
  row : List Int
  v : Int
/-- the sign of a number -/
def sgn (v : Int) : Int := if v < 0 then -1 else if v = 0 then 0 else 1
instance : Rp Bg := ⟨fun T F v b => ∃ p dx r vs, v = .ref p ∧ F p = some (.ins (T.C 1) dx [("width", .int b.w), ("side", .int (sgn b.v)), ("row", .ref r), ("value", .int b.v)]) ∧ SqT T.K F r vs ∧ Al T F vs b.row,
  fun e ⟨p, dx, r, vs, h1, h2, h3, h4⟩ => ⟨p, dx, r, vs, h1, e _ _ h2, Same.tup e h3, h4.mono e⟩⟩
section
variable {T : TC} {Γ : List (Option VA)} {Ω Ω1 Ω2 : List OA} {A B C : VA} {ta tb te : TE} {x : Bg} {p : Addr} {k : Nat}
theorem xe_bw (cl : Cls T.K (T.C 1)) (na : NoAttr T.K (T.C 1) "width") (ha : XE ta Γ Ω (va T x) Ω1) : XE (tFld T.K ta "width") Γ Ω (va T x.w) Ω1 := fun F σ H e hh Q q => by
  refine ha F σ H e hh _ fun F1 v H1 Ω' e1 hh1 ⟨⟨p, dx, r, vs, h1, h2, h3, h4⟩, o1⟩ => ?_
  subst o1
  exact ⟨p, _, dx, _, _, h1, hh1.same _ _ h2, cl, na, rfl, q F1 _ H1 _ e1 hh1 ⟨rfl, rfl⟩⟩
theorem xe_bs (cl : Cls T.K (T.C 1)) (na : NoAttr T.K (T.C 1) "side") (ha : XE ta Γ Ω (va T x) Ω1) : XE (tFld T.K ta "side") Γ Ω (va T (sgn x.v)) Ω1 := fun F σ H e hh Q q => by
  refine ha F σ H e hh _ fun F1 v H1 Ω' e1 hh1 ⟨⟨p, dx, r, vs, h1, h2, h3, h4⟩, o1⟩ => ?_
  subst o1
  exact ⟨p, _, dx, _, _, h1, hh1.same _ _ h2, cl, na, rfl, q F1 _ H1 _ e1 hh1 ⟨rfl, rfl⟩⟩
theorem xe_br (cl : Cls T.K (T.C 1)) (na : NoAttr T.K (T.C 1) "row") (ha : XE ta Γ Ω (va T x) Ω1) : XE (tFld T.K ta "row") Γ Ω (va T (TF.mk x.row)) Ω1 := fun F σ H e hh Q q => by
  refine ha F σ H e hh _ fun F1 v H1 Ω' e1 hh1 ⟨⟨p, dx, r, vs, h1, h2, h3, h4⟩, o1⟩ => ?_
  subst o1
  exact ⟨p, _, dx, _, _, h1, hh1.same _ _ h2, cl, na, rfl, q F1 _ H1 _ e1 hh1 ⟨⟨r, vs, rfl, h3, h4⟩, rfl⟩⟩
theorem xe_bv (cl : Cls T.K (T.C 1)) (na : NoAttr T.K (T.C 1) "value") (ha : XE ta Γ Ω (va T x) Ω1) : XE (tFld T.K ta "value") Γ Ω (va T x.v) Ω1 := fun F σ H e hh Q q => by
  refine ha F σ H e hh _ fun F1 v H1 Ω' e1 hh1 ⟨⟨p, dx, r, vs, h1, h2, h3, h4⟩, o1⟩ => ?_
  subst o1
  exact ⟨p, _, dx, _, _, h1, hh1.same _ _ h2, cl, na, rfl, q F1 _ H1 _ e1 hh1 ⟨rfl, rfl⟩⟩
end
/-! ### things in the making -/
def rawA (t0 : Hp) : OA := ⟨fun _ t => Same t0 t, fun _ h => h⟩
section
variable {F F' H H' : Hp} {Ω : List OA} {o o' : OA} {i j : Nat} {a p : Addr} {u u' : HO}
theorem Holds.conv (h : Holds F Ω H) (q : Ω[i]? = some o) (k : ∀ t, o.P F t → o'.P F t) : Holds F (Ω.set i o') H := by
  obtain ⟨ts, h1, h2, h3, h4, h5⟩ := h
  have lt := getlt q
  refine ⟨ts, fun k x r => ?_, h2, fun k r => h3 k (by rwa [List.length_set] at r), fun k b x r => h4 k b x (by rwa [List.length_set] at r), fun k m b x r r2 => h5 k m b x (by rwa [List.length_set] at r) (by rwa [List.length_set] at r2)⟩
  by_cases hk : i = k
  · subst hk
    rw [List.getElem?_set_self lt] at r
    cases r
    exact k _ (h1 _ _ q)
  · rw [List.getElem?_set_ne hk] at r
    exact h1 k x r
/-- the thing at i, its part of the heap laid open -/
theorem Holds.opened (h : Holds F Ω H) (q : Ω[i]? = some o) : ∃ t, o.P F t ∧ Same t H ∧ Holds F (Ω.set i (rawA t)) H := by
  obtain ⟨ts, h1, h2, h3, h4, h5⟩ := h
  have lt := getlt q
  refine ⟨ts i, h1 i o q, h3 i lt, ts, fun k x r => ?_, h2, fun k r => h3 k (by rwa [List.length_set] at r), fun k b x r => h4 k b x (by rwa [List.length_set] at r), fun k m b x r r2 => h5 k m b x (by rwa [List.length_set] at r) (by rwa [List.length_set] at r2)⟩
  by_cases hk : i = k
  · subst hk
    rw [List.getElem?_set_self lt] at r
    cases r
    exact Same.refl _
  · rw [List.getElem?_set_ne hk] at r
    exact h1 k x r
theorem Holds.rawWrite {t : Hp} (h : Holds F Ω H) (q : Ω[i]? = some (rawA t)) (ha : t a = some u) : Holds F (Ω.set i (rawA (upd t a u'))) (upd H a u') := by
  obtain ⟨t2, s2, st, _, wr⟩ := h.get q
  refine wr (rawA (upd t a u')) a u u' (s2 _ _ ha) fun b x e => ?_
  by_cases hb : b = a
  · subst hb; rw [upd_same] at e ⊢; exact e
  · rw [upd_ne hb] at e ⊢; exact s2 _ _ e
theorem Holds.rawHas {t : Hp} (h : Holds F Ω H) (q : Ω[i]? = some (rawA t)) : Same t H := let ⟨_, s2, st, _⟩ := h.get q; fun b x e => st _ _ (s2 b x e)
end
/-- a new instance, nothing in it -/
def newA (C p : Addr) : OA := ⟨fun _ t => ∃ dx, t p = some (.ins C dx []), fun _ h => h⟩
section
variable {T : TC} {Γ : List (Option VA)} {Ω Ω1 Ω2 : List OA} {A B C : VA} {As Ds : List VA} {ta tb te : TE} {D : Ends} {F0 : Hp} {ts : TS}
theorem xn_make {C : Addr} {Pre : PreT} {E : XK} {t : TA} {dvs : List V} {o : Addr → OA} (ha : XA t Γ Ω As Ω1) (hd : ∀ F, AlA F dvs Ds) (hp : ∀ x, Pre (vr x :: (As ++ Ds)) (Ω1 ++ [newA C x]) (RV (va T ()) (Ω1 ++ [o x]))) :
    XG (tMake C (mkSp Pre) dvs E t) Γ Ω (RN Ω1 o) := fun F σ H e hh Q q => by
  refine ha F σ H e hh _ fun F1 xs H1 e1 hh1 a1 => ?_
  intro x dx nx ndx nex
  have hh2 : Holds F1 (Ω1 ++ [newA C x]) (upd (upd H1 dx (.own x)) x (.ins C dx [])) := by
    refine hh1.newO (t := upd (fun _ => none) x (.ins C dx [])) (fun b y r => by rw [sng_some r]; exact nx) (fun b y r => ?_) (fun b y r => ?_) ⟨dx, upd_same⟩
    · rw [upd_ne (ne_of_none r nx), upd_ne (ne_of_none r ndx)]; exact r
    · have hb := sng_some r
      subst hb
      rw [upd_same] at r ⊢; exact r
  refine ⟨F1, Ω1 ++ [newA C x], vr x :: (As ++ Ds), _, hp x, .cons rfl (a1.app (hd F1)), hh2, fun F' v H' Ω' e' hh' ⟨hv, ho⟩ => ⟨hv, ?_⟩⟩
  subst ho
  exact q F' _ H' _ (e1.trans e') hh' ⟨x, rfl, rfl⟩
def bigA (T : TC) (p : Addr) (b : Bg) : OA := ⟨fun F t => ∃ dx r vs, t p = some (.ins (T.C 1) dx [("width", .int b.w), ("side", .int (sgn b.v)), ("row", .ref r), ("value", .int b.v)]) ∧ SqT T.K F r vs ∧ Al T F vs b.row,
  fun e ⟨dx, r, vs, h2, h3, h4⟩ => ⟨dx, r, vs, h2, Same.tup e h3, h4.mono e⟩⟩
theorem xe_fzB {b : Bg} (h : XG te Γ Ω (RN Ω1 fun p => bigA T p b)) : XE te Γ Ω (va T b) Ω1 := fun F σ H e hh Q q =>
  h F σ H e hh Q fun F1 v H1 Ω' e1 hh1 ⟨p, hv, o1⟩ => by
    subst o1
    obtain ⟨F', t, s1, s2, ⟨dx, r, vs, h2, h3, h4⟩, hh'⟩ := hh1.freeze
    exact q F' v H1 _ (e1.trans s1) hh' ⟨⟨p, dx, r, vs, hv, s2 _ _ h2, Same.tup s1 h3, h4.mono s1⟩, rfl⟩
end
/-! ### what the machine's methods do -/
def MS.step (s : MS) (w : Str) (n : Int) : MS := { s with cnt := fun x => if x = w then s.cnt x + n else s.cnt x }
def MS.enter (s : MS) (w : Str) (m n : Int) : MS := { s with wk := if s.wk.length < 1000 then s.wk ++ [T3.mk w m n] else s.wk }
def MS.fresh (w c : Int) : MS := ⟨w, c, fun _ => 0, []⟩
def MS.reset (s : MS) : MS := MS.fresh s.w s.c
theorem mwords_nd : mwords.Nodup := by decide +kernel
theorem val_words {f : Str → Int} : ∀ {ws : List Str} {w : Str}, w ∈ ws → valV (ws.map fun w => ((Sum.inr w : Key), V.int (f w))) (Sum.inr w) = some (V.int (f w)) := by
  intro ws w hw
  unfold valV
  induction ws with
  | nil => cases hw
  | cons a r ih =>
    rw [List.map_cons, List.find?_cons]
    by_cases h : a = w
    · subst h; simp
    · have : decide ((Sum.inr a : Key) = Sum.inr w) = false := decide_eq_false fun e => h (Sum.inr.inj e)
      simp only [this]
      rcases List.mem_cons.mp hw with e | e
      · exact absurd e.symm h
      · exact ih e
end VL

set_option Elab.async false
set_option linter.all false
set_option maxRecDepth 100000
/-! the machine's methods, the numbers' -/
namespace VL
open PySem L2
theorem putK_words {f : Str → Int} {w : Str} (n : Int) {ws : List Str} (hw : w ∈ ws) :
    putK (ws.map fun x => ((Sum.inr x : Key), V.int (f x))) (Sum.inr w) (V.int n) = ws.map fun x => ((Sum.inr x : Key), V.int (if x = w then n else f x)) := by
  have any : ((ws.map fun x => ((Sum.inr x : Key), V.int (f x))).any fun kv => decide (kv.1 = Sum.inr w)) = true :=
    List.any_eq_true.mpr ⟨_, List.mem_map.mpr ⟨w, hw, rfl⟩, decide_eq_true rfl⟩
  unfold putK
  rw [if_pos any, List.map_map]
  apply List.map_congr_left
  intro x _
  show (if (Sum.inr x : Key) = Sum.inr w then ((Sum.inr x : Key), V.int n) else (Sum.inr x, V.int (f x))) = _
  by_cases e : x = w
  · rw [if_pos (by rw [e]), if_pos e]
  · rw [if_neg (fun z => e (Sum.inr.inj z)), if_neg e]
theorem mwords_len (s : MS) : (mkv s).length < sizeLine := by
  unfold mkv
  rw [List.length_map]
  decide +kernel
section
variable {T : TC} {Γ : List (Option VA)} {Ω Ω1 Ω2 : List OA} {A B C : VA} {As Ds : List VA} {ta tb te : TE} {D : Ends} {F0 : Hp} {ts : TS} {s : MS} {p : Addr} {k : Nat}
/-- what the machine's class must be -/
structure MCls (K : PySem.W.Frag) (C : Addr) : Prop where
  cl : Cls K C
  nw : NoAttr K C "width"
  nc : NoAttr K C "cutoff"
  nt : NoAttr K C "counts"
  ne : NoAttr K C "entered"
structure BCls (K : PySem.W.Frag) (C : Addr) : Prop where
  cl : Cls K C
  nw : NoAttr K C "width"
  ns : NoAttr K C "side"
  nr : NoAttr K C "row"
  nv : NoAttr K C "value"
theorem look_ne {a b : Str} {v : V} {fs : List (Str × V)} (h : (b == a) = false) : ((a, v) :: fs).lookup b = fs.lookup b := by
  rw [List.lookup_cons, h]
theorem mf_counts (d e : Addr) : (mf s d e).lookup ("counts" : Str) = some (V.ref d) := by
  unfold mf
  rw [look_ne (by decide +kernel), look_ne (by decide +kernel)]
  rfl
theorem mf_entered (d e : Addr) : (mf s d e).lookup ("entered" : Str) = some (V.ref e) := by
  unfold mf
  rw [look_ne (by decide +kernel), look_ne (by decide +kernel), look_ne (by decide +kernel)]
  rfl
theorem putF_hit {f : Str} {v x : V} {fs : List (Str × V)} : putF f v ((f, x) :: fs) = (f, v) :: fs := by
  show (if f = f then (f, v) :: fs else _) = _
  rw [if_pos rfl]
theorem putF_miss {f g : Str} {v x : V} {fs : List (Str × V)} (h : ¬ g = f) : putF f v ((g, x) :: fs) = (g, x) :: putF f v fs := by
  show (if g = f then _ else (g, x) :: putF f v fs) = _
  rw [if_neg h]
/-- self.counts[word] += many -/
theorem xs_step {wd : Str} {n : Int} (mc : MCls T.K (T.C 0)) (h0 : Γ[0]? = some (some (vr p))) (h1 : Γ[1]? = some (some (va T wd))) (h2 : Γ[2]? = some (some (va T n))) (hk : Ω[k]? = some (machA T p s)) (hw : wd ∈ mwords)
    (q : ∀ σ H, NX F0 Γ (Ω.set k (machA T p (s.step wd n))) σ H → D.nx σ H) : XS (sDAug (tFld T.K (tVar 0) "counts") (tVar 1) (tVar 2) rAdd) D F0 Γ Ω := fun σ H ⟨F, f0, e, hh⟩ => by
  obtain ⟨v0, a0, b0⟩ := e.2 0 _ h0
  obtain ⟨v1, a1, b1⟩ := e.2 1 _ h1
  obtain ⟨v2, a2, b2⟩ := e.2 2 _ h2
  have b1 : v1 = .str wd := b1
  have b2 : v2 = .int n := b2
  subst b1 b2
  obtain ⟨t, ⟨dx, d, en, ws, m1, m2, m3, m4⟩, st, _, wr⟩ := hh.get hk
  refine ⟨v0, a0, p, _, dx, _, _, b0, st _ _ m1, mc.cl, mc.nt, mf_counts d en, .str wd, a1, d, .int (s.cnt wd), rfl, ?_, .int n, a2, s.cnt wd, n, rfl, rfl, ?_⟩
  · have g := DGet.k (k := Sum.inr wd) (st _ _ m2)
    rw [show valV (mkv s) (Sum.inr wd) = some (V.int (s.cnt wd)) from val_words hw] at g
    exact g
  · refine ⟨_, DPut.k (k := Sum.inr wd) (st _ _ m2) (mwords_len s), q σ _ ⟨F, f0, e, wr (machA T p (s.step wd n)) d _ _ m2 ⟨dx, d, en, ws, ?_, ?_, ?_, m4⟩⟩⟩
    · rw [upd_ne (by intro z; rw [z, m2] at m1; cases m1)]; exact m1
    · rw [upd_same]
      unfold mkv
      rw [putK_words _ hw]
      congr 2
      apply List.map_congr_left
      intro x _
      show (Sum.inr x, V.int _) = (Sum.inr x, V.int (if x = wd then s.cnt x + n else s.cnt x))
      by_cases z : x = wd
      · rw [if_pos z, if_pos z, z]
      · rw [if_neg z, if_neg z]
    · rw [upd_ne (by intro z; rw [z, m2] at m3; cases m3)]; exact m3
/-- if len(self.entered) < 1000: self.entered.append((word, m, n)) -/
theorem xs_enter {wd : Str} {m n : Int} (mc : MCls T.K (T.C 0)) (h0 : Γ[0]? = some (some (vr p))) (h1 : Γ[1]? = some (some (va T wd))) (h2 : Γ[2]? = some (some (va T m))) (h3 : Γ[3]? = some (some (va T n))) (hk : Ω[k]? = some (machA T p s))
    (q : ∀ σ H, NX F0 Γ (Ω.set k (machA T p (s.enter wd m n))) σ H → D.nx σ H) :
    XS (tIfS (tTest (tOp (rI0 fun i j => .bl (decide (i < j))) (tCB (rLen T.K) (tCons (tFld T.K (tVar 0) "entered") tNil)) (tC (.int 1000))))
      (tDrop (tBM T.K "list" rAppend (tFld T.K (tVar 0) "entered") (tCons (tTup (tCons (tVar 1) (tCons (tVar 2) (tCons (tVar 3) tNil)))) tNil))) tNext) D F0 Γ Ω := fun σ H ⟨F, f0, e, hh⟩ => by
  obtain ⟨v0, a0, b0⟩ := e.2 0 _ h0
  obtain ⟨v1, a1, b1⟩ := e.2 1 _ h1
  obtain ⟨v2, a2, b2⟩ := e.2 2 _ h2
  obtain ⟨v3, a3, b3⟩ := e.2 3 _ h3
  obtain ⟨t, ⟨dx, d, en, ws, m1, m2, m3, m4⟩, st, _, wr⟩ := hh.get hk
  refine ⟨v0, a0, p, _, dx, _, _, b0, st _ _ m1, mc.cl, mc.ne, mf_entered d en, en, ws, rfl, .inl (SqL.of (st _ _ m3)), (ws.length : Int), 1000, rfl, rfl, _, rfl, ite2 (fun h => ?_) (fun h => ?_)⟩
  · have lt : ws.length < 1000 := by have := of_decide_eq_true h; omega
    refine ⟨v0, a0, p, _, dx, _, _, b0, st _ _ m1, mc.cl, mc.ne, mf_entered d en, .inl ⟨rfl, _, SqL.of (st _ _ m3)⟩, v1, a1, v2, a2, v3, a3, by show 3 ≤ sizeLine; decide, fun x hx => ?_⟩
    obtain ⟨hh2, e2⟩ := hh.newF (u := .tup [v1, v2, v3]) hx
    obtain ⟨t', ⟨dx', d', en', ws', m1', m2', m3', m4'⟩, st', _, wr'⟩ := hh2.get hk
    have nx : ∀ b y, H b = some y → b ≠ x := fun b y r => ne_of_none r hx
    have i1 := (st' _ _ m1').symm.trans ((upd_ne (nx _ _ (st _ _ m1))).trans (st _ _ m1))
    have i1 : mf s d' en' = mf s d en := by
      have := Option.some.inj i1
      injection this
    have i2 : en' = en := by
      unfold mf at i1
      injection i1 with _ i1
      injection i1 with _ i1
      injection i1 with _ i1
      injection i1 with i1 _
      injection i1 with _ i1
      injection i1
    subst i2
    have i3 := (st' _ _ m3').symm.trans ((upd_ne (nx _ _ (st _ _ m3))).trans (st _ _ m3))
    cases i3
    refine ⟨en', ws, _, rfl, rfl, st' _ _ m3', Nat.lt_trans lt (by decide), q σ _ ⟨_, f0.trans e2, e.mono e2, wr' (machA T p (s.enter wd m n)) en' _ _ m3' ⟨dx', d', en', _, ?_, ?_, upd_same, ?_⟩⟩⟩
    · rw [upd_ne (by intro z; rw [z, m3'] at m1'; cases m1')]; exact m1'
    · rw [upd_ne (by intro z; rw [z, m3'] at m2'; cases m2')]; exact m2'
    · have hl : s.wk.length < 1000 := by rw [← al_len m4]; exact lt
      show Al T _ _ (if s.wk.length < 1000 then s.wk ++ [T3.mk wd m n] else s.wk)
      rw [if_pos hl]
      exact al_app m4' (.cons ⟨x, v1, v2, v3, rfl, SqT.of upd_same, Rp.mono (α := Str) e2 b1, Rp.mono (α := Int) e2 b2, Rp.mono (α := Int) e2 b3⟩ .nil)
  · have ge : ¬ s.wk.length < 1000 := by
      intro z
      apply h
      rw [← al_len m4] at z
      exact decide_eq_true (by omega)
    refine q σ H ⟨F, f0, e, ?_⟩
    have es : s.enter wd m n = s := by
      unfold MS.enter
      rw [if_neg ge]
    rw [es]
    have : Ω.set k (machA T p s) = Ω := by
      apply List.ext_getElem?
      intro j
      by_cases z : k = j
      · subst z; rw [List.getElem?_set_self (getlt hk), hk]
      · rw [List.getElem?_set_ne z]
    rw [this]
    exact hh
/-! ### a thing in the making: its attributes stored one by one -/
theorem xs_fldV {C : Addr} {f : Str} {v0 : V} {t : Hp} {dx : Addr} {fs : List (Str × V)} {j : Nat} (cl : Cls T.K C) (na : NoAttr T.K C f) (h : XE te Γ Ω (vx v0) Ω) (hj : Γ[j]? = some (some (vr p))) (hk : Ω[k]? = some (rawA t)) (ht : t p = some (.ins C dx fs)) (hl : fs.length < 1000)
    (q : XS ts D F0 Γ (Ω.set k (rawA (upd t p (.ins C dx (putF f v0 fs)))))) : XS (tSeq (sFld T.K (tVar j) te f) ts) D F0 Γ Ω := fun σ H ⟨F, f0, e, hh⟩ => by
  refine h F σ H e hh _ fun F1 v H1 Ω' e1 hh1 ⟨a1, o1⟩ => ?_
  subst o1
  have a1 : v = v0 := a1
  subst a1
  obtain ⟨x, h1, h2⟩ := e.2 j _ hj
  refine ⟨x, h1, p, C, dx, fs, h2, hh1.rawHas hk _ _ ht, cl, na, hl, ?_⟩
  exact q σ _ ⟨F1, f0.trans e1, e.mono e1, hh1.rawWrite hk ht⟩
theorem xs_fldN {C : Addr} {f : Str} {u : HO} {t : Hp} {dx : Addr} {fs : List (Str × V)} {j : Nat} (cl : Cls T.K C) (na : NoAttr T.K C f) (h : XG te Γ Ω (RN Ω fun r => rawA (upd (fun _ => none) r u))) (hj : Γ[j]? = some (some (vr p))) (hk : Ω[k]? = some (rawA t)) (ht : t p = some (.ins C dx fs)) (hl : fs.length < 1000)
    (q : ∀ r, t r = none → XS ts D F0 Γ (Ω.set k (rawA (upd (upd t r u) p (.ins C dx (putF f (.ref r) fs)))))) : XS (tSeq (sFld T.K (tVar j) te f) ts) D F0 Γ Ω := fun σ H ⟨F, f0, e, hh⟩ => by
  refine h F σ H e hh _ fun F1 v H1 Ω' e1 hh1 ⟨r, a1, o1⟩ => ?_
  subst o1 a1
  obtain ⟨x, h1, h2⟩ := e.2 j _ hj
  obtain ⟨t1, t2, s1, s2, _, _, dj, kk⟩ := hh1.merge hk
  have nt : t r = none := by
    cases z : t r with
    | none => rfl
    | some y => exact (nn (s2 r u upd_same) (dj r y (s1 _ _ z))).elim
  have hh2 : Holds F1 (Ω.set k (rawA (upd t r u))) H1 := kk _ fun b y e => by
    by_cases hb : b = r
    · subst hb
      rw [upd_same] at e
      cases e
      refine cup_r (fun c y z => ?_) b u (s2 b u upd_same)
      cases w : t1 c with
      | none => rfl
      | some y2 => exact (nn z (dj c y2 w)).elim
    · rw [upd_ne hb] at e
      exact cup_l b y (s1 b y e)
  have hk2 : (Ω.set k (rawA (upd t r u)))[k]? = some (rawA (upd t r u)) := List.getElem?_set_self (getlt hk)
  have np : p ≠ r := ne_of_none ht nt
  have ht2 : upd t r u p = some (.ins C dx fs) := by rw [upd_ne np]; exact ht
  refine ⟨x, h1, p, C, dx, fs, h2, hh2.rawHas hk2 _ _ ht2, cl, na, hl, ?_⟩
  have hh3 := hh2.rawWrite (u' := .ins C dx (putF f (.ref r) fs)) hk2 ht2
  rw [List.set_set] at hh3
  exact q r nt σ _ ⟨F1, f0.trans e1, e.mono e1, hh3⟩
theorem NX.conv {o o' : OA} {σ : L2.St} {H : Hp} (h : NX F0 Γ Ω σ H) (hk : Ω[k]? = some o) (c : ∀ F t, Same F0 F → o.P F t → o'.P F t) : NX F0 Γ (Ω.set k o') σ H :=
  let ⟨F, f0, e, hh⟩ := h
  ⟨F, f0, e, hh.conv hk fun t => c F t f0⟩
/-- {word: 0 for word in WORDS} -/
theorem xn_zeros {aW : Addr} {i : Nat} {vs : List Nat} (hW : ∀ H, SqT T.K H aW (mwords.map V.str)) (hi : i ∈ vs) (hlt : i < Γ.length) :
    XG (tDc (iTup T.K (tC (.ref aW))) (gName i) tYes (tVar i) (tC (.int 0)) vs) Γ Ω (RN Ω fun r => rawA (upd (fun _ => none) r (.dK (mwords.map fun w => (Sum.inr w, V.int 0))))) := fun F σ H e hh Q q => by
  refine ⟨aW, rfl, ⟨_, hW H⟩, fun d hd => ?_⟩
  refine dc_tup (xs := mwords.map V.str) (fun m H' => Holds F (Ω ++ [rawA (upd (fun _ => none) d (.dK ((mwords.take m).map fun w => (Sum.inr w, V.int 0))))]) H') (hh.newL hd (Same.refl _)) (fun _ H' _ _ => hW H') (fun m x H' hx p => ?_) (fun H' p => ?_)
  · rw [List.getElem?_map] at hx
    cases hw : mwords[m]? with
    | none => rw [hw] at hx; cases hx
    | some wd =>
      rw [hw] at hx
      cases hx
      refine ⟨(wipe_set hi).trans (wipe_wipe vs), ?_⟩
      simp only [tYes, ↓reduceIte]
      have li : i < (wipe σ vs).length := by rw [wipe_length, e.1]; exact hlt
      refine ⟨.str wd, by rw [List.getElem?_set_self li], _, Sum.inr wd, rfl, p.rawHas app_at d _ upd_same, ?_, ?_⟩
      · rw [List.length_map, List.length_take]
        exact Nat.lt_of_le_of_lt (Nat.min_le_right _ _) (by decide +kernel)
      · have hh2 := p.rawWrite (u' := .dK (putK ((mwords.take m).map fun w => ((Sum.inr w : Key), V.int 0)) (Sum.inr wd) (.int 0))) app_at upd_same
        rw [set_last, upd_upd] at hh2
        have nin : valV ((mwords.take m).map fun w => ((Sum.inr w : Key), V.int 0)) (Sum.inr wd) = none := by
          cases z : valV ((mwords.take m).map fun w => ((Sum.inr w : Key), V.int 0)) (Sum.inr wd) with
          | none => rfl
          | some y =>
            have hm := valV_in z
            rw [List.map_map] at hm
            obtain ⟨w2, h2, e2⟩ := List.mem_map.mp hm
            have e2 : w2 = wd := Sum.inr.inj e2
            subst e2
            obtain ⟨j2, h3, h4⟩ := List.mem_take_iff_getElem.mp h2
            have hlt3 : j2 < mwords.length := by omega
            have eq2 : mwords[j2]? = some w2 := by rw [List.getElem?_eq_getElem hlt3, h4]
            have := nd_ix mwords_nd eq2 hw
            omega
        rw [putK_new _ nin] at hh2
        rw [List.take_add_one, hw, List.map_append, putK_new _ nin]
        exact hh2
  · rw [show (mwords.map V.str).length = mwords.length from List.length_map _, List.take_length] at p
    exact q F (.ref d) H' _ (Same.refl F) p ⟨d, rfl, rfl⟩
/-- the whole of a machine's __init__ behind its checks: four stores -/
theorem mf_put {w c : Int} {d e : Addr} : putF "entered" (.ref e) (putF "counts" (.ref d) (putF "cutoff" (.int c) (putF "width" (.int w) []))) = ([("width", .int w), ("cutoff", .int c), ("counts", .ref d), ("entered", .ref e)] : List (Str × V)) := by
  rw [show putF "width" (.int w) [] = [(("width" : Str), V.int w)] from rfl, putF_miss (f := "cutoff") (g := "width") (by decide +kernel), show putF "cutoff" (.int c) [] = [(("cutoff" : Str), V.int c)] from rfl,
    putF_miss (f := "counts") (g := "width") (by decide +kernel), putF_miss (f := "counts") (g := "cutoff") (by decide +kernel), show putF "counts" (.ref d) [] = [(("counts" : Str), V.ref d)] from rfl,
    putF_miss (f := "entered") (g := "width") (by decide +kernel), putF_miss (f := "entered") (g := "cutoff") (by decide +kernel), putF_miss (f := "entered") (g := "counts") (by decide +kernel)]
  all_goals rfl
theorem mf_reset {d e d2 e2 : Addr} : putF "entered" (.ref e2) (putF "counts" (.ref d2) (mf s d e)) = mf s d2 e2 := by
  unfold mf
  rw [putF_miss (f := "counts") (g := "width") (by decide +kernel), putF_miss (f := "counts") (g := "cutoff") (by decide +kernel), putF_hit,
    putF_miss (f := "entered") (g := "width") (by decide +kernel), putF_miss (f := "entered") (g := "cutoff") (by decide +kernel), putF_miss (f := "entered") (g := "counts") (by decide +kernel), putF_hit]
theorem set_get {l : List OA} {k : Nat} {o o' : OA} (h : l[k]? = some o) : (l.set k o')[k]? = some o' := List.getElem?_set_self (getlt h)
/-- self.width = bits; self.cutoff = cutoff; self.counts = {..}; self.entered = [] -/
theorem xs_minit {w c : Int} {aW : Addr} {i : Nat} {vs : List Nat} (mc : MCls T.K (T.C 0)) (hW : ∀ H, SqT T.K H aW (mwords.map V.str)) (hi : i ∈ vs) (hlt : i < Γ.length)
    (h0 : Γ[0]? = some (some (vr p))) (h1 : Γ[1]? = some (some (va T w))) (h2 : Γ[2]? = some (some (va T c))) (hk : Ω[k]? = some (newA (T.C 0) p)) (q : ∀ σ H, NX F0 Γ (Ω.set k (machA T p (MS.fresh w c))) σ H → D.nx σ H) :
    XS (tSeq (sFld T.K (tVar 0) (tVar 1) "width") (tSeq (sFld T.K (tVar 0) (tVar 2) "cutoff") (tSeq (sFld T.K (tVar 0) (tDc (iTup T.K (tC (.ref aW))) (gName i) tYes (tVar i) (tC (.int 0)) vs) "counts") (sFld T.K (tVar 0) (tLst tNil) "entered")))) D F0 Γ Ω := by
  intro σ H ⟨F, f0, e, hh⟩
  obtain ⟨t, ⟨dx, ht⟩, _, hh2⟩ := hh.opened hk
  have hk2 : (Ω.set k (rawA t))[k]? = some (rawA t) := set_get hk
  have iv : ∀ {j : Nat} {n : Int} {Ω' : List OA}, Γ[j]? = some (some (va T n)) → XE (tVar j) Γ Ω' (vx (.int n)) Ω' := fun h => (xe_var h).to fun F v a => a
  refine xs_fldV (D := D) (ts := (tSeq (sFld T.K (tVar 0) (tVar 2) "cutoff") (tSeq (sFld T.K (tVar 0) (tDc (iTup T.K (tC (.ref aW))) (gName i) tYes (tVar i) (tC (.int 0)) vs) "counts") (sFld T.K (tVar 0) (tLst tNil) "entered")))) mc.cl mc.nw (iv h1) h0 hk2 ht (by decide) ?_ σ H ⟨F, Same.refl F, e, hh2⟩
  rw [List.set_set]
  refine xs_fldV mc.cl mc.nc (iv h2) h0 (set_get hk) upd_same (by show 1 < 1000; decide) ?_
  rw [List.set_set, upd_upd]
  refine xs_fldN mc.cl mc.nt (xn_zeros hW hi hlt) h0 (set_get hk) upd_same (by rw [show putF "width" (V.int w) [] = [(("width" : Str), V.int w)] from rfl, putF_miss (by decide +kernel)]; show 2 < 1000; decide) fun d hd => ?_
  rw [List.set_set]
  refine fun σ H n => xs_fldN (ts := tNext) mc.cl mc.ne (u := .lst []) (p := p) ?_ h0 (set_get hk) upd_same ?_ (fun en he => ?_) σ H n
  · exact fun F σ H e hh Q q => ⟨Nat.zero_le _, fun r hr => q F (.ref r) _ _ (Same.refl F) (hh.newL (o := rawA (upd (fun _ => none) r (.lst []))) hr (Same.refl _)) ⟨r, rfl, rfl⟩⟩
  · rw [show putF "width" (V.int w) [] = [(("width" : Str), V.int w)] from rfl, putF_miss (by decide +kernel), show putF "cutoff" (V.int c) [] = [(("cutoff" : Str), V.int c)] from rfl, putF_miss (by decide +kernel), putF_miss (by decide +kernel)]
    show 3 < 1000
    decide
  · rw [List.set_set, mf_put]
    intro σ H n
    have npd : d ≠ p := fun z => by rw [z, upd_same] at hd; cases hd
    have npe : en ≠ p := fun z => by rw [z, upd_same] at he; cases he
    have nde : d ≠ en := fun z => by rw [← z, upd_ne npd, upd_same] at he; cases he
    have n2 := n.conv (o' := machA T p (MS.fresh w c)) (set_get hk) fun F t f st => ⟨dx, d, en, [], st p _ upd_same, st d _ (by rw [upd_ne npd, upd_ne nde, upd_ne npd, upd_same]; rfl), st en _ (by rw [upd_ne npe, upd_same]), .nil⟩
    rw [List.set_set] at n2
    obtain ⟨F2, f2, e2, hh3⟩ := n2
    exact q σ H ⟨F2, f0.trans f2, e2, hh3⟩
/-- self.counts = {..}; self.entered = [] -/
theorem xs_mreset {aW : Addr} {i : Nat} {vs : List Nat} (mc : MCls T.K (T.C 0)) (hW : ∀ H, SqT T.K H aW (mwords.map V.str)) (hi : i ∈ vs) (hlt : i < Γ.length)
    (h0 : Γ[0]? = some (some (vr p))) (hk : Ω[k]? = some (machA T p s)) (q : ∀ σ H, NX F0 Γ (Ω.set k (machA T p s.reset)) σ H → D.nx σ H) :
    XS (tSeq (sFld T.K (tVar 0) (tDc (iTup T.K (tC (.ref aW))) (gName i) tYes (tVar i) (tC (.int 0)) vs) "counts") (sFld T.K (tVar 0) (tLst tNil) "entered")) D F0 Γ Ω := by
  intro σ H ⟨F, f0, e, hh⟩
  obtain ⟨t, ⟨dx, d0, e0, ws, ht, _⟩, _, hh2⟩ := hh.opened hk
  have hk2 : (Ω.set k (rawA t))[k]? = some (rawA t) := set_get hk
  refine xs_fldN (D := D) (ts := sFld T.K (tVar 0) (tLst tNil) "entered") mc.cl mc.nt (xn_zeros hW hi hlt) h0 hk2 ht (by show 4 < 1000; decide) (fun d hd => ?_) σ H ⟨F, Same.refl F, e, hh2⟩
  rw [List.set_set]
  refine fun σ H n => xs_fldN (ts := tNext) mc.cl mc.ne (u := .lst []) (p := p) ?_ h0 (set_get hk) upd_same ?_ (fun en he => ?_) σ H n
  · exact fun F σ H e hh Q q => ⟨Nat.zero_le _, fun r hr => q F (.ref r) _ _ (Same.refl F) (hh.newL (o := rawA (upd (fun _ => none) r (.lst []))) hr (Same.refl _)) ⟨r, rfl, rfl⟩⟩
  · unfold mf
    rw [putF_miss (by decide +kernel), putF_miss (by decide +kernel), putF_hit]
    show 4 < 1000
    decide
  · rw [List.set_set, mf_reset]
    intro σ H n
    have npd : d ≠ p := fun z => by rw [z, ht] at hd; cases hd
    have npe : en ≠ p := fun z => by rw [z, upd_same] at he; cases he
    have nde : d ≠ en := fun z => by rw [← z, upd_ne npd, upd_same] at he; cases he
    have n2 := n.conv (o' := machA T p s.reset) (set_get hk) fun F t f st => ⟨dx, d, en, [], st p _ upd_same, st d _ (by rw [upd_ne npd, upd_ne nde, upd_ne npd, upd_same]; rfl), st en _ (by rw [upd_ne npe, upd_same]), .nil⟩
    rw [List.set_set] at n2
    obtain ⟨F2, f2, e2, hh3⟩ := n2
    exact q σ H ⟨F2, f0.trans f2, e2, hh3⟩
/-- self.counts[word] -/
theorem xe_cnt {wd : Str} {i j : Nat} (mc : MCls T.K (T.C 0)) (ha : Γ[j]? = some (some (vr p))) (hy : Γ[i]? = some (some (va T wd))) (hk : Ω[k]? = some (machA T p s)) (hw : wd ∈ mwords) : XE (tDGet (tFld T.K (tVar j) "counts") (tVar i)) Γ Ω (va T (s.cnt wd)) Ω := fun F σ H e hh Q q => by
  obtain ⟨v0, a0, b0⟩ := e.2 j _ ha
  obtain ⟨v1, a1, b1⟩ := e.2 i _ hy
  have b1 : v1 = .str wd := b1
  subst b1
  obtain ⟨t, ⟨dx, d, en, ws, m1, m2, m3, m4⟩, st, _⟩ := hh.get hk
  refine ⟨v0, a0, p, _, dx, _, _, b0, st _ _ m1, mc.cl, mc.nt, mf_counts d en, .str wd, a1, d, .int (s.cnt wd), rfl, ?_, q F _ H _ (Same.refl F) hh ⟨rfl, rfl⟩⟩
  have g := DGet.k (k := Sum.inr wd) (st _ _ m2)
  rw [show valV (mkv s) (Sum.inr wd) = some (V.int (s.cnt wd)) from val_words hw] at g
  exact g
/-- self.entered, as a list -/
theorem xe_walk {j : Nat} (mc : MCls T.K (T.C 0)) (ha : Γ[j]? = some (some (vr p))) (hk : Ω[k]? = some (machA T p s)) : XE (tCB (rList T.K) (tCons (tFld T.K (tVar j) "entered") tNil)) Γ Ω (va T (LF.mk s.wk)) Ω := fun F σ H e hh Q q => by
  obtain ⟨v0, a0, b0⟩ := e.2 j _ ha
  obtain ⟨t, ⟨dx, d, en, ws, m1, m2, m3, m4⟩, st, _⟩ := hh.get hk
  refine ⟨v0, a0, p, _, dx, _, _, b0, st _ _ m1, mc.cl, mc.ne, mf_entered d en, en, ws, rfl, .inl (SqL.of (st _ _ m3)), fun l hl => ?_⟩
  obtain ⟨hh2, e2⟩ := hh.newF (u := .lst ws) hl
  exact q _ _ _ _ e2 hh2 ⟨⟨l, ws, rfl, upd_same, m4.mono e2⟩, rfl⟩
/-- the words of the tally -/
theorem xi_words {aW : Addr} (hW : ∀ H, SqT T.K H aW (mwords.map V.str)) : XI (iTup T.K (tC (.ref aW))) Γ Ω mwords (fun a => va T a) Ω := fun F σ H e hh R r => by
  have al : ∀ l : List Str, Al T F (l.map V.str) l := fun l => by
    induction l with
    | nil => exact .nil
    | cons a r ih => exact .cons rfl ih
  exact ⟨aW, rfl, ⟨_, hW H⟩, r F _ H _ (Same.refl F) hh wk_tup ⟨hW F, al mwords⟩⟩
theorem lcM_all {β γ : Type} (f : β → γ) : ∀ l : List β, lcM (fun x (_ : Unit) => some (some (f x), ())) l () = some (l.map f, ())
  | [] => rfl
  | x :: r => by
    show ((lcM (fun x (_ : Unit) => some (some (f x), ())) r ()).bind fun (ys, s'') => some (f x :: ys, s'')) = _
    rw [lcM_all f r]
    rfl
def MS.tally (s : MS) : List (Str × Int) := mwords.map fun w => (w, s.cnt w)
theorem xe_tally {aW : Addr} {i j : Nat} {vs : List Nat} (mc : MCls T.K (T.C 0)) (hW : ∀ H, SqT T.K H aW (mwords.map V.str)) (hi : i ∈ vs) (ha : ((wip Γ vs).set i none)[j]? = some (some (vr p))) (hlt : i < (wip Γ vs).length) (hk : Ω[k]? = some (machA T p s)) :
    XE (tLc (iTup T.K (tC (.ref aW))) (gName i) tYes (tTup (tCons (tVar i) (tCons (tDGet (tFld T.K (tVar j) "counts") (tVar i)) tNil))) vs) Γ Ω (va T (LF.mk s.tally)) Ω := by
  refine xe_fz (xn_lc (fun _ : Unit => Ω) (lcM_all (fun w => (w, s.cnt w)) mwords) (xi_words hW) (fun a => tgt_name) (fun m hm => by rw [List.mem_singleton.mp hm]; exact hi) (by decide +kernel) fun a s1 o s2 hm h X => ⟨fun e => ?_, fun y e => ?_⟩)
  · subst e; cases h
  · subst e
    cases h
    have hj : ((wip Γ vs).set i (some (va T a)))[j]? = some (some (vr p)) := by
      have ne : i ≠ j := fun z => by
        subst z
        rw [List.getElem?_set_self hlt] at ha
        cases ha
      rw [List.getElem?_set_ne ne] at ha ⊢
      exact ha
    have hi' : ((wip Γ vs).set i (some (va T a)))[i]? = some (some (va T a)) := List.getElem?_set_self hlt
    exact ⟨xt_yes, xe_tup2 (xa_cons (xe_var hi') (xa_cons (xe_cnt mc hj hi' (app_lt hk) hm) xa_nil))⟩
/-- a frozen thing stored -/
theorem xs_fldR {C : Addr} {f : Str} {t : Hp} {dx : Addr} {fs : List (Str × V)} {j : Nat} {row : List Int} (cl : Cls T.K C) (na : NoAttr T.K C f) (h : ∀ Ω', XE te Γ Ω' (va T (TF.mk row)) Ω') (hj : Γ[j]? = some (some (vr p))) (hk : Ω[k]? = some (rawA t)) (ht : t p = some (.ins C dx fs)) (hl : fs.length < 1000)
    (q : ∀ F1 r vs, Same F0 F1 → SqT T.K F1 r vs → Al T F1 vs row → XS ts D F1 Γ (Ω.set k (rawA (upd t p (.ins C dx (putF f (.ref r) fs)))))) : XS (tSeq (sFld T.K (tVar j) te f) ts) D F0 Γ Ω := fun σ H ⟨F, f0, e, hh⟩ => by
  refine h Ω F σ H e hh _ fun F1 v H1 Ω' e1 hh1 ⟨⟨r, vs, hv, s1, a1⟩, o1⟩ => ?_
  subst o1 hv
  obtain ⟨x, h1, h2⟩ := e.2 j _ hj
  refine ⟨x, h1, p, C, dx, fs, h2, hh1.rawHas hk _ _ ht, cl, na, hl, ?_⟩
  exact q F1 r vs (f0.trans e1) s1 a1 σ _ ⟨F1, Same.refl F1, e.mono e1, hh1.rawWrite hk ht⟩
/-- a number's __init__ -/
theorem bg_put {w s v : Int} {r : Addr} : putF "value" (.int v) (putF "row" (.ref r) (putF "side" (.int s) (putF "width" (.int w) []))) = ([("width", .int w), ("side", .int s), ("row", .ref r), ("value", .int v)] : List (Str × V)) := by
  rw [show putF "width" (V.int w) [] = [(("width" : Str), V.int w)] from rfl, putF_miss (f := "side") (g := "width") (by decide +kernel), show putF "side" (V.int s) [] = [(("side" : Str), V.int s)] from rfl,
    putF_miss (f := "row") (g := "width") (by decide +kernel), putF_miss (f := "row") (g := "side") (by decide +kernel), show putF "row" (V.ref r) [] = [(("row" : Str), V.ref r)] from rfl,
    putF_miss (f := "value") (g := "width") (by decide +kernel), putF_miss (f := "value") (g := "side") (by decide +kernel), putF_miss (f := "value") (g := "row") (by decide +kernel)]
  rfl
theorem xs_binit {ts1 : TE} {w v : Int} {row : List Int} (bc : BCls T.K (T.C 1)) (h0 : Γ[0]? = some (some (vr p))) (h1 : Γ[1]? = some (some (va T w))) (h2 : Γ[2]? = some (some (va T v)))
    (hs : ∀ Ω', XE ts1 Γ Ω' (va T (sgn v)) Ω') (h3 : ∀ Ω', XE te Γ Ω' (va T (TF.mk row)) Ω') (hk : Ω[k]? = some (newA (T.C 1) p)) (q : ∀ σ H, NX F0 Γ (Ω.set k (bigA T p ⟨w, row, v⟩)) σ H → D.nx σ H) :
    XS (tSeq (sFld T.K (tVar 0) (tVar 1) "width") (tSeq (sFld T.K (tVar 0) ts1 "side") (tSeq (sFld T.K (tVar 0) te "row") (sFld T.K (tVar 0) (tVar 2) "value")))) D F0 Γ Ω := by
  intro σ H ⟨F, f0, e, hh⟩
  obtain ⟨t, ⟨dx, ht⟩, _, hh2⟩ := hh.opened hk
  have hk2 : (Ω.set k (rawA t))[k]? = some (rawA t) := set_get hk
  have iv : ∀ {j : Nat} {n : Int} {Ω' : List OA}, Γ[j]? = some (some (va T n)) → XE (tVar j) Γ Ω' (vx (.int n)) Ω' := fun h => (xe_var h).to fun F v a => a
  refine xs_fldV (D := D) (ts := (tSeq (sFld T.K (tVar 0) ts1 "side") (tSeq (sFld T.K (tVar 0) te "row") (sFld T.K (tVar 0) (tVar 2) "value")))) bc.cl bc.nw (iv h1) h0 hk2 ht (by decide) ?_ σ H ⟨F, Same.refl F, e, hh2⟩
  rw [List.set_set]
  refine xs_fldV (v0 := .int (sgn v)) bc.cl bc.ns ((hs _).to fun F u a => a) h0 (set_get hk) upd_same (by show 1 < 1000; decide) ?_
  rw [List.set_set, upd_upd]
  refine xs_fldR bc.cl bc.nr h3 h0 (set_get hk) upd_same (by rw [show putF "width" (V.int w) [] = [(("width" : Str), V.int w)] from rfl, putF_miss (by decide +kernel)]; show 2 < 1000; decide) fun F1 r vs e1 s1 a1 => ?_
  rw [List.set_set, upd_upd]
  refine fun σ H n => xs_fldV (ts := tNext) bc.cl bc.nv (iv h2) h0 (set_get hk) upd_same ?_ ?_ σ H n
  · rw [show putF "width" (V.int w) [] = [(("width" : Str), V.int w)] from rfl, putF_miss (by decide +kernel), show putF "side" (V.int (sgn v)) [] = [(("side" : Str), V.int (sgn v))] from rfl, putF_miss (by decide +kernel), putF_miss (by decide +kernel)]
    show 3 < 1000
    decide
  · rw [List.set_set, upd_upd, bg_put]
    intro σ H n
    have n2 := n.conv (o' := bigA T p ⟨w, row, v⟩) (set_get hk) fun F t f st => ⟨dx, r, vs, st p _ upd_same, Same.tup f s1, a1.mono f⟩
    rw [List.set_set] at n2
    obtain ⟨F2, f2, e2, hh3⟩ := n2
    exact q σ H ⟨F2, f0.trans (e1.trans f2), e2, hh3⟩
end
end VL

set_option Elab.async false
set_option linter.all false
set_option maxRecDepth 100000
/-! what the printed texts lean on -/
namespace VL
open PySem L2
open PyProof.Rows (envOfC)
section
variable {P : Program} {w : World} {K : PySem.W.Frag} {mg : Str → Option Value} {base : Heap}
theorem fn_okD {x qual : Str} {params : Arguments} {body : List Stmt} {scope : Scope} {dvs : List V} {f : Addr} {fd : FuncData} {N ps : List Str} {k : Nat} {Pre : PreT} (F : FunD K x qual params body scope dvs [] f fd) (S : FnScope N ps scope) (hl : ∀ As Ω R, Pre As Ω R → As.length = ps.length)
    (hb : ∀ (cdv : Value) (A : Around) (outer : List PySem.Env) (s : Shared) (H : Hp) (E : XK), Room k (A.deeper (envOfC qual scope s.heap.objs.size f cdv)) → ∀ As Ω R F0, Pre As Ω R →
      Bod (cxOf CX0 P w K mg base N qual scope f cdv A outer s H E).nox body (As.map some ++ List.replicate (N.length - As.length) none) Ω F0 R) : FnOk P w K mg base CX0 (k + 1) f fd ps (mkSp Pre) := by
  refine F.ok S (fun vs H Q E h => ?_) (fun cdv A outer s H vs Q E hr h => ?_)
  · obtain ⟨F, Ω, As, R, hp, ha, _⟩ := h
    rw [ha.len]; exact hl _ _ _ hp
  · obtain ⟨F0, Ω, As, R, hp, ha, hh, hq⟩ := h
    obtain ⟨t, h1, h2⟩ := hb cdv A outer s H E hr As Ω R F0 hp
    exact ⟨t, h1.nox, h2 _ (fun F v H Ω' e hh r => hq F v H Ω' e hh r) (fun F σ H Ω' e hh r => hq F .non H Ω' e hh r) _ _ ⟨F0, Same.refl F0, start_env ha, hh⟩⟩
/-- a class that may be made: dvs fill up what is not written -/
structure CalC (P : Program) (w : World) (K : PySem.W.Frag) (mg : Str → Option Value) (base : Heap) (k : Nat) (x : Str) (C : Addr) (ps : List Str) (dvs : List V) (sp : Sp) : Prop where
  ex : ∃ f fd ds, FnOk P w K mg base CX0 k f fd ps sp ∧ mg x = some (.ref C) ∧ Mk K C f ∧ Vals dvs ds ∧ Binds K fd ps ds
section
variable {X : Cx} {k : Nat} {x m : Str} {C : Addr} {ps : List Str} {dvs : List V} {sp : Sp} {p pos apos : Pos} {e o : Expr} {es : List Expr} {t : TA} {ta : TE}
theorem pe_calC (c : CalC X.prog X.w X.K X.mg X.base k x C ps dvs sp) (hr : Room (k + 1) X.A) (hg : Gl X x) (ha : PA X (e :: es) t)
    (hdb : (x == ("__debug__" : Str)) = false := by decide) (he : starEach (e :: es) X.env = (false, eval e X.env) :: starEach es X.env := by rfl) (hpl : (backTo pos (starEach es X.env)).any (·.1) = false := by rfl) :
    PE X (.Call (.Name x p) (e :: es) [] pos) (tMake C sp dvs E0 t) := by
  obtain ⟨f, fd, ds, F, hm, M, hv, hb⟩ := c.ex
  exact pe_make M F hr hg hm hb hv pass0 ha hdb he hpl
theorem pe_calM {pl : Sem Bool} (he : PE X o ta) (c : CalM X.prog X.w X.K X.mg X.base k C m ps sp) (hr : Room k X.A) (ha : PA X (e :: es) t)
    (hst : starEach (e :: es) X.env = (false, eval e X.env) :: starEach es X.env := by rfl) (hpl : (backTo pos (starEach es X.env)).any (·.1) = false := by rfl)
    (ht : eval (.Call (.Attribute o m apos) (e :: es) [] pos) X.env = (do
      let ov ← eval o X.env
      standAt apos.atName
      let (f, first) ← holding [ov] (getMethod ov m pl)
      callWith pos f first (backTo pos (starEach (e :: es) X.env)) (backToKw pos (keywordEach [] X.env))) := by rfl) :
    PE X (.Call (.Attribute o m apos) (e :: es) [] pos) (tMeth C m sp [] E0 ta t) := by
  obtain ⟨f, fd, F, hm, hb⟩ := c.ex
  exact pe_meth he c.cl hm F hr hb .nil pass0 ha hst hpl ht
theorem pe_calM0 {pl : Sem Bool} (he : PE X o ta) (c : CalM X.prog X.w X.K X.mg X.base k C m ps sp) (hr : Room k X.A)
    (ht : eval (.Call (.Attribute o m apos) [] [] pos) X.env = (do
      let ov ← eval o X.env
      standAt apos.atName
      let (f, first) ← holding [ov] (getMethod ov m pl)
      callWith pos f first (backTo pos (starEach [] X.env)) (backToKw pos (keywordEach [] X.env))) := by rfl) :
    PE X (.Call (.Attribute o m apos) [] [] pos) (tMeth C m sp [] E0 ta tNil) := by
  obtain ⟨f, fd, F, hm, hb⟩ := c.ex
  exact pe_meth0 he c.cl hm F hr hb .nil pass0 ht
/-- a module's constant -/
theorem pe_gl {x : Str} {v : V} {pos : Pos} (hg : Gl X x) (hm : ∃ u, X.mg x = some u ∧ RelV v u) (hd : (x == ("__debug__" : Str)) = false := by decide) : PE X (.Name x pos) (tC v) := by
  obtain ⟨u, h1, h2⟩ := hm
  exact pe_glob hg h1 h2 hd
end
end
section
variable {X : Cx}
theorem op_mulG : OpR X (binaryOp .Mult) (rI IntMulOk fun i j => .int (i * j)) := L2.opI fun _ _ _ _ _ _ _ hc q => PyProof.Rows.mul_int q hc
/-- + of ints, of lists; * of ints, of a list and an int -/
def rAddQ : R2 := fun x y H Q => rI0 (fun i j => .int (i + j)) x y H Q ∨ rCat x y H Q
theorem op_addQ : OpR X (binaryOp .Add) rAddQ := op_add.or op_cat
def rMulQ : R2 := fun x y H Q => rI IntMulOk (fun i j => .int (i * j)) x y H Q ∨ rRep x y H Q
theorem op_mulQ : OpR X (binaryOp .Mult) rMulQ := op_mulG.or op_rep
/-- int(x) -/
def rInt : List V → Hp → VK → Prop := fun xs H Q => (∃ i, xs = [.int i] ∧ Q (.int i) H) ∨ ∃ k, xs = [.bl k] ∧ Q (.int (if k then 1 else 0)) H
theorem cr_int : CallR X (.type "int") rInt := call_int1
def rAbs : List V → Hp → VK → Prop := fun xs H Q => ∃ i, xs = [.int i] ∧ Q (.int (if i < 0 then -i else i)) H
theorem cr_abs : CallR X (.builtin "abs") rAbs := call_abs
def rMax2 : List V → Hp → VK → Prop := fun xs H Q => ∃ i j, xs = [.int i, .int j] ∧ Q (.int (if j > i then j else i)) H
def rMin2 : List V → Hp → VK → Prop := fun xs H Q => ∃ i j, xs = [.int i, .int j] ∧ Q (.int (if j < i then j else i)) H
theorem cr_min2 (hc : X.calm = true) : CallR X (.builtin "min") rMin2 := call_min2 hc
/-- x op= y by the operator's rule -/
theorem ip_of {op : Operator} {r : R2} (h : OpR X (inplaceOp op) r) : PIp X op r := h
end
section
variable {T : TC} {Γ : List (Option VA)} {Ω Ω1 Ω2 : List OA} {A B C : VA} {As Ds : List VA} {ta tb te : TE} {t u : TT} {D : Ends} {F0 : Hp} {ts : TS} {i j : Int} {b c : Bool} {α : Type} [Rp α] {l l2 : List α} {p : Addr} {k : Nat} {s : MS} {R : Hp → V → List OA → Prop}
theorem ro_or1 {r r' : R2} (h : RO r Ω A B C) : RO (fun x y H Q => r x y H Q ∨ r' x y H Q) Ω A B C := fun F H x y hh a1 a2 Q q => .inl (h F H x y hh a1 a2 Q q)
theorem ro_or2 {r r' : R2} (h : RO r' Ω A B C) : RO (fun x y H Q => r x y H Q ∨ r' x y H Q) Ω A B C := fun F H x y hh a1 a2 Q q => .inr (h F H x y hh a1 a2 Q q)
theorem xe_add (ha : XE ta Γ Ω (va T i) Ω1) (hb : XE tb Γ Ω1 (va T j) Ω2) : XE (tOp rAddQ ta tb) Γ Ω (va T (i + j)) Ω2 := xe_op ha hb (ro_or1 ro_int)
theorem xe_sub (ha : XE ta Γ Ω (va T i) Ω1) (hb : XE tb Γ Ω1 (va T j) Ω2) : XE (tOp (rI0 fun i j => .int (i - j)) ta tb) Γ Ω (va T (i - j)) Ω2 := xe_op ha hb ro_int
theorem xe_mul (h : IntMulOk i j) (ha : XE ta Γ Ω (va T i) Ω1) (hb : XE tb Γ Ω1 (va T j) Ω2) : XE (tOp rMulQ ta tb) Γ Ω (va T (i * j)) Ω2 := xe_op ha hb (ro_or1 (ro_intD h))
theorem xe_fdiv (h : CDivW i j) (ha : XE ta Γ Ω (va T i) Ω1) (hb : XE tb Γ Ω1 (va T j) Ω2) : XE (tOp (rI CDivW fun i j => .int (i / j)) ta tb) Γ Ω (va T (i / j)) Ω2 := xe_op ha hb (ro_intD h)
theorem xe_mod (h : 0 < j) (ha : XE ta Γ Ω (va T i) Ω1) (hb : XE tb Γ Ω1 (va T j) Ω2) : XE (tOp (rI (fun _ j => 0 < j) fun i j => .int (i % j)) ta tb) Γ Ω (va T (i % j)) Ω2 := xe_op ha hb (ro_intD (D := fun _ j => 0 < j) h)
theorem xe_shl (h : CShl i j) (ha : XE ta Γ Ω (va T i) Ω1) (hb : XE tb Γ Ω1 (va T j) Ω2) : XE (tOp (rI CShl fun i j => .int (i * 2 ^ j.toNat)) ta tb) Γ Ω (va T (i * 2 ^ j.toNat)) Ω2 := xe_op ha hb (ro_intD h)
theorem xe_shr (h : 0 ≤ j) (ha : XE ta Γ Ω (va T i) Ω1) (hb : XE tb Γ Ω1 (va T j) Ω2) : XE (tOp (rI (fun _ j => 0 ≤ j) fun i j => .int (i / 2 ^ j.toNat)) ta tb) Γ Ω (va T (i / 2 ^ j.toNat)) Ω2 := xe_op ha hb (ro_intD (D := fun _ j => 0 ≤ j) h)
theorem xe_pow (h : CPow i j) (ha : XE ta Γ Ω (va T i) Ω1) (hb : XE tb Γ Ω1 (va T j) Ω2) : XE (tOp (rI CPow fun i j => .int (i ^ j.toNat)) ta tb) Γ Ω (va T (i ^ j.toNat)) Ω2 := xe_op ha hb (ro_intD h)
theorem xe_band (ha : XE ta Γ Ω (va T i) Ω1) (hb : XE tb Γ Ω1 (va T j) Ω2) : XE (tOp (rI0 fun i j => .int (Builtin.bitAnd i j)) ta tb) Γ Ω (va T (Builtin.bitAnd i j)) Ω2 := xe_op ha hb ro_int
theorem xe_neg (ha : XE ta Γ Ω (va T i) Ω1) : XE (tUn (rU fun i => .int (-i)) ta) Γ Ω (va T (-i)) Ω1 := xe_un ha ru_int
theorem xe_cat {A B : VA} (ha : XE ta Γ Ω A Ω1) (hb : XE tb Γ Ω1 B Ω2) (h : IsLs T Ω2 A l) (h2 : IsLs T Ω2 B l2) (hz : l.length + l2.length ≤ sizeLine) : XE (tOp rAddQ ta tb) Γ Ω (va T (LF.mk (l ++ l2))) Ω2 := xe_op ha hb (ro_or2 (ro_cat h h2 hz))
theorem xe_rep {A : VA} (ha : XE ta Γ Ω A Ω1) (hb : XE tb Γ Ω1 (va T i) Ω2) (h : IsLs T Ω2 A l) (h1 : (-(2 ^ 63) ≤ i ∧ i < 2 ^ 63) ∧ l.length * i.toNat ≤ sizeLine) : XE (tOp rMulQ ta tb) Γ Ω (va T (LF.mk (List.replicate i.toNat l).flatten)) Ω2 := xe_op ha hb (ro_or2 (ro_rep h h1.1.1 h1.1.2 h1.2))
theorem xe_ix {A : VA} {a : α} (ha : XE ta Γ Ω A Ω1) (hb : XE tb Γ Ω1 (va T i) Ω2) (h : IsL T Ω2 A l) (e : atI l i = some a) : XE (tOp (rIx T.K) ta tb) Γ Ω (va T a) Ω2 := xe_op ha hb (ro_ixL h e)
theorem xe_int1 (ha : XE te Γ Ω (va T i) Ω1) : XE (tCB rInt (tCons te tNil)) Γ Ω (va T i) Ω1 := xe_cb (xa_cons ha xa_nil) fun F H vs hh a Q q => by
  obtain ⟨v, rfl, a1⟩ := alA1 a
  have a1 : v = .int i := a1
  subst a1
  exact .inl ⟨i, rfl, q F _ H (Same.refl F) hh rfl⟩
theorem xe_intb (ha : XE te Γ Ω (va T b) Ω1) : XE (tCB rInt (tCons te tNil)) Γ Ω (va T (if b = true then (1 : Int) else 0)) Ω1 := xe_cb (xa_cons ha xa_nil) fun F H vs hh a Q q => by
  obtain ⟨v, rfl, a1⟩ := alA1 a
  have a1 : v = .bl b := a1
  subst a1
  refine .inr ⟨b, rfl, q F _ H (Same.refl F) hh ?_⟩
  cases b <;> rfl
theorem xe_abs (ha : XE te Γ Ω (va T i) Ω1) : XE (tCB rAbs (tCons te tNil)) Γ Ω (va T ((i.natAbs : Nat) : Int)) Ω1 := xe_cb (xa_cons ha xa_nil) fun F H vs hh a Q q => by
  obtain ⟨v, rfl, a1⟩ := alA1 a
  have a1 : v = .int i := a1
  subst a1
  refine ⟨i, rfl, q F _ H (Same.refl F) hh ?_⟩
  show V.int _ = V.int _
  congr 1
  split <;> omega
theorem xe_min2 (ha : XE ta Γ Ω (va T i) Ω1) (hb : XE tb Γ Ω1 (va T j) Ω2) : XE (tCB rMin2 (tCons ta (tCons tb tNil))) Γ Ω (va T (min i j)) Ω2 := xe_cb (xa_cons ha (xa_cons hb xa_nil)) fun F H vs hh a Q q => by
  obtain ⟨v, w, rfl, a1, a2⟩ := alA2 a
  have a1 : v = .int i := a1
  have a2 : w = .int j := a2
  subst a1 a2
  refine ⟨i, j, rfl, q F _ H (Same.refl F) hh ?_⟩
  show V.int _ = V.int _
  congr 1
  split <;> omega
theorem xe_bits (ha : XE te Γ Ω (va T i) Ω1) : XE (tBits te) Γ Ω (va T ((Builtin.Int.intBits i : Nat) : Int)) Ω1 := fun F σ H e hh Q q => by
  refine ha F σ H e hh _ fun F1 x H1 Ω' e1 hh1 ⟨a1, o1⟩ => ?_
  subst o1
  exact ⟨i, a1, q F1 _ H1 _ e1 hh1 ⟨rfl, rfl⟩⟩
theorem xe_ite {a a' : α} (h : XT t Γ Ω b Ω1) (h1 : XE ta Γ Ω1 (va T a) Ω2) (h2 : XE tb Γ Ω1 (va T a') Ω2) : XE (tIf t ta tb) Γ Ω (va T (if b = true then a else a')) Ω2 :=
  xe_if h (fun e => xe_eq h1 (by rw [if_pos e])) (fun e => xe_eq h2 (by rw [if_neg (by rw [e]; exact Bool.false_ne_true)]))
theorem xe_ifT (h : XT t Γ Ω true Ω1) (h1 : XE ta Γ Ω1 A Ω2) : XE (tIf t ta tb) Γ Ω A Ω2 := xe_if h (fun _ => h1) (fun e => nomatch e)
theorem xe_ifF (h : XT t Γ Ω false Ω1) (h1 : XE tb Γ Ω1 A Ω2) : XE (tIf t ta tb) Γ Ω A Ω2 := xe_if h (fun e => nomatch e) (fun _ => h1)
theorem xe_lt (ha : XE ta Γ Ω (va T i) Ω1) (hb : XE tb Γ Ω1 (va T j) Ω2) : XE (tOp (rI0 fun i j => .bl (decide (i < j))) ta tb) Γ Ω (va T (decide (i < j))) Ω2 := (xe_op ha hb ro_bl)
theorem xe_gt (ha : XE ta Γ Ω (va T i) Ω1) (hb : XE tb Γ Ω1 (va T j) Ω2) : XE (tOp (rI0 fun i j => .bl (decide (j < i))) ta tb) Γ Ω (va T (decide (j < i))) Ω2 := (xe_op ha hb (ro_bl (g := fun i j => decide (j < i))))
theorem xe_ge (ha : XE ta Γ Ω (va T i) Ω1) (hb : XE tb Γ Ω1 (va T j) Ω2) : XE (tOp (rI0 fun i j => .bl (decide (j ≤ i))) ta tb) Γ Ω (va T (decide (j ≤ i))) Ω2 := (xe_op ha hb (ro_bl (g := fun i j => decide (j ≤ i))))
/-! == by values, by data -/
def rEqX (K : PySem.W.Frag) : R2 := fun x y H Q => rEq x y H Q ∨ rEqD K x y H Q
theorem op_eqX {X : Cx} (hu : X.A.units + 64 < cLine) : OpR X (compareOp .Eq) (rEqX X.K) := op_eq.or (op_eqD hu)
def rNeX (K : PySem.W.Frag) : R2 := fun x y H Q => rNe x y H Q ∨ rNeD K x y H Q
theorem op_neX {X : Cx} (hu : X.A.units + 64 < cLine) : OpR X (compareOp .NotEq) (rNeX X.K) := op_ne.or (op_neD hu)
theorem xe_eqI (ha : XE ta Γ Ω (va T i) Ω1) (hb : XE tb Γ Ω1 (va T j) Ω2) : XE (tOp (rEqX T.K) ta tb) Γ Ω (va T (decide (i = j))) Ω2 := xe_op ha hb (ro_or1 ro_eqI)
theorem xe_neI (ha : XE ta Γ Ω (va T i) Ω1) (hb : XE tb Γ Ω1 (va T j) Ω2) : XE (tOp (rNeX T.K) ta tb) Γ Ω (va T (!decide (i = j))) Ω2 := xe_op ha hb (ro_or1 ro_neI)
/-! statements, further -/
theorem xs_ifN {t1 : TS} (h : XT t Γ Ω false Ω1) (q : XS ts D F0 Γ Ω1) : XS (tSeq (tIfS t t1 tNext) ts) D F0 Γ Ω := xs_ifF h q
theorem nt {b : Bool} (h : ¬ b = true) : b = false := by cases b with
  | true => exact absurd rfl h
  | false => rfl
variable {n : Int}
theorem xs_augI {k : Nat} {g : Int → Int → Int} (hx : Γ[k]? = some (some (va T i))) (h : XE te Γ Ω (va T j) Ω1) (e : g i j = n) (q : XS ts D F0 (Γ.set k (some (va T n))) Ω1) : XS (tSeq (tAug k te (rI0 fun i j => .int (g i j))) ts) D F0 Γ Ω := fun σ H ⟨F, f0, en, hh⟩ => by
  subst e
  obtain ⟨x, h1, h2⟩ := en.2 k _ hx
  refine ⟨x, h1, ?_⟩
  refine h F σ H en hh _ fun F1 v H1 Ω' e1 hh1 ⟨a1, o1⟩ => ?_
  exact ⟨i, j, h2, a1, q _ H1 ⟨F1, f0.trans e1, (en.mono e1).set (A := va T (g i j)) rfl, o1 ▸ hh1⟩⟩
theorem xs_augI1 {k : Nat} {g : Int → Int → Int} (hx : Γ[k]? = some (some (va T i))) (h : XE te Γ Ω (va T j) Ω1) (e : g i j = n) (q : ∀ σ H, NX F0 (Γ.set k (some (va T n))) Ω1 σ H → D.nx σ H) : XS (tAug k te (rI0 fun i j => .int (g i j))) D F0 Γ Ω := fun σ H m => xs_augI (ts := tNext) hx h e q σ H m
theorem xs_augD {k : Nat} {Dd : Int → Int → Prop} {g : Int → Int → Int} (hx : Γ[k]? = some (some (va T i))) (hd : Dd i j) (h : XE te Γ Ω (va T j) Ω1) (e : g i j = n) (q : XS ts D F0 (Γ.set k (some (va T n))) Ω1) : XS (tSeq (tAug k te (rI Dd fun i j => .int (g i j))) ts) D F0 Γ Ω := fun σ H ⟨F, f0, en, hh⟩ => by
  subst e
  obtain ⟨x, h1, h2⟩ := en.2 k _ hx
  refine ⟨x, h1, ?_⟩
  refine h F σ H en hh _ fun F1 v H1 Ω' e1 hh1 ⟨a1, o1⟩ => ?_
  exact ⟨i, j, h2, a1, hd, q _ H1 ⟨F1, f0.trans e1, (en.mono e1).set (A := va T (g i j)) rfl, o1 ▸ hh1⟩⟩
theorem xs_augD1 {k : Nat} {Dd : Int → Int → Prop} {g : Int → Int → Int} (hx : Γ[k]? = some (some (va T i))) (hd : Dd i j) (h : XE te Γ Ω (va T j) Ω1) (e : g i j = n) (q : ∀ σ H, NX F0 (Γ.set k (some (va T n))) Ω1 σ H → D.nx σ H) : XS (tAug k te (rI Dd fun i j => .int (g i j))) D F0 Γ Ω := fun σ H m => xs_augD (ts := tNext) hx hd h e q σ H m
theorem xs_par2 {k l : Nat} {ta : TA} (h : XA ta Γ Ω [A, B] Ω1) (q : XS ts D F0 ((Γ.set k (some A)).set l (some B)) Ω1) : XS (tSeq (tPar k l ta) ts) D F0 Γ Ω := fun σ H ⟨F, f0, en, hh⟩ => by
  refine h F σ H en hh _ fun F1 vs H1 e1 hh1 a1 => ?_
  obtain ⟨v, w, rfl, b1, b2⟩ := alA2 a1
  exact ⟨v, w, rfl, q _ H1 ⟨F1, f0.trans e1, ((en.mono e1).set b1).set b2, hh1⟩⟩
theorem xs_asgG {g : TG} {f : List (Option VA) → List (Option VA)} {js : List Nat} (h : XE te Γ Ω A Ω1) (ht : Tgt g A f js) (q : XS ts D F0 (f Γ) Ω1) : XS (tSeq (tAsg te g) ts) D F0 Γ Ω := fun σ H ⟨F, f0, en, hh⟩ => by
  refine h F σ H en hh _ fun F1 v H1 Ω' e1 hh1 ⟨a1, o1⟩ => ?_
  subst o1
  exact ht F1 σ Γ v H1 _ (en.mono e1) hh1 a1 _ fun F2 σ2 H2 e2 en2 hh2 _ => q σ2 H2 ⟨F2, f0.trans (e1.trans e2), en2, hh2⟩
theorem mf_none {m : Str} {d e : Addr} (h : (m == "width" || m == "cutoff" || m == "counts" || m == "entered") = false) : (mf s d e).lookup m = none := by
  simp only [Bool.or_eq_false_iff] at h
  unfold mf
  rw [look_ne h.1.1.1, look_ne h.1.1.2, look_ne h.1.2, look_ne h.2]
  rfl
/-- a method of the machine -/
theorem xe_mcall {m : Str} {Pre : PreT} {E : XK} {ta : TE} {t : TA} {Ω' : List OA} (ha : XE ta Γ Ω (vr p) Ω) (hk : Ω[k]? = some (machA T p s)) (hx : XA t Γ Ω As Ω1) (hp : Pre (vr p :: As) Ω1 (RV A Ω')) (he : Ω' = Ω2)
    (hm : (m == "width" || m == "cutoff" || m == "counts" || m == "entered") = false := by decide +kernel) : XE (tMeth (T.C 0) m (mkSp Pre) [] E ta t) Γ Ω A Ω2 := fun F σ H e hh Q q => by
  subst he
  refine ha F σ H e hh _ fun F1 x H1 Ωa e1 hh1 ⟨a1, o1⟩ => ?_
  subst o1
  obtain ⟨t0, ⟨dx, d, en, ws, m1, m2, m3, m4⟩, st, _⟩ := hh1.get hk
  refine ⟨p, dx, _, a1, st _ _ m1, mf_none hm, ?_⟩
  refine hx F1 σ H1 (e.mono e1) hh1 _ fun F2 vs H2 e2 hh2 a2 => ?_
  refine ⟨F2, Ω1, vr p :: As, _, hp, ?_, hh2, fun F' v H' Ω3 e' hh' r => q F' v H' Ω3 ((e1.trans e2).trans e') hh' r⟩
  rw [List.append_nil]
  exact .cons a1 a2
end
section
variable {T : TC} {Γ : List (Option VA)} {Ω Ω1 Ω2 : List OA} {A B C : VA} {ta tb te tc : TE} {i j : Int} {b : Bool}
def rIsi (K : PySem.W.Frag) : List V → Hp → VK → Prop := fun xs H Q => ∃ (x c : V) (t u : Value) (b : Bool), xs = [x, c] ∧ ClsV c u ∧ TyX K H x t ∧ PySem.W.kitOne K t u = some b ∧ Q (.bl b) H
theorem cr_isi {X : Cx} : CallR X (.builtin "isinstance") (rIsi X.K) := call_isi
/-- what a class must be that isinstance asks for -/
structure ICls (K : PySem.W.Frag) (C : Addr) : Prop where
  cl : Cls K C
  ha : PySem.W.findIn K (.ref C) "__class__" = some (some (.builtin "object.__class__"))
  hn : PySem.W.specialIn K (.builtin "object.__class__") "__get__" = some (some (.builtin "getset_descriptor.__get__"))
  htk : PySem.W.takesIn K (.builtin "object.__class__") = some true
  hm : PySem.W.mroIn K C (.type "object") = some true
  kit : PySem.W.kitOne K (.ref C) (.ref C) = some true
theorem xe_isi {c : V} {t u : Value} (ha : XE ta Γ Ω A Ω1) (hb : XE tc Γ Ω1 (vx c) Ω1) (hc : ClsV c u) (ht : ∀ F H v, Holds F Ω1 H → A.P F v → TyX T.K H v t) (hk : PySem.W.kitOne T.K t u = some b) :
    XE (tCB (rIsi T.K) (tCons ta (tCons tc tNil))) Γ Ω (va T b) Ω1 := xe_cb (xa_cons ha (xa_cons hb xa_nil)) fun F H vs hh a Q q => by
  obtain ⟨v, w, rfl, a1, a2⟩ := alA2 a
  have a2 : w = c := a2
  subst a2
  exact ⟨v, w, t, u, b, rfl, hc, ht F H v hh a1, hk, q F _ H (Same.refl F) hh rfl⟩
theorem xe_vx {c : V} : XE (tC c) Γ Ω (vx c) Ω := xe_c fun _ => rfl
theorem ty_int {F H : Hp} {v : V} (_ : Holds F Ω H) (a : (va T i).P F v) : TyX T.K H v (.type "int") := by
  have a : v = .int i := a
  subst a
  exact .base (.int i)
theorem ty_mach {F H : Hp} {v : V} {p : Addr} {k : Nat} {s : MS} (ic : ICls T.K (T.C 0)) (hk : Ω[k]? = some (machA T p s)) (hh : Holds F Ω H) (a : (vr p).P F v) : TyX T.K H v (.ref (T.C 0)) := by
  have a : v = .ref p := a
  subst a
  obtain ⟨t, ⟨dx, d, en, ws, m1, _⟩, st, _⟩ := hh.get hk
  exact .base (.ins (st _ _ m1) ic.cl ic.ha ic.hn ic.htk ic.hm)
theorem ty_big {F H : Hp} {v : V} {x : Bg} (ic : ICls T.K (T.C 1)) (hh : Holds F Ω H) (a : (va T x).P F v) : TyX T.K H v (.ref (T.C 1)) := by
  obtain ⟨p, dx, r, vs, rfl, h2, _⟩ := a
  exact .base (.ins (hh.same _ _ h2) ic.cl ic.ha ic.hn ic.htk ic.hm)
end
section
variable {X : Cx} {K : PySem.W.Frag} {e o tg l : Expr} {es : List Expr} {f m name : Str} {pos p1 p2 p3 apos cpos : Pos} {te ta tl : TE} {t : TA} {k : Nat} {id Tn : String} {r : V → List V → Hp → VK → Prop}
/-! the rules, the written part named (within a comprehension's block) -/
theorem pe_fldK (he : PE X e ta) (hb : attributeBase e f X.env (eval e X.env) = eval e X.env) (hK : X.K = K) : PE X (.Attribute e f pos) (tFld K ta f) := hK ▸ pe_fld he hb
theorem cr_lenK (hK : X.K = K) : CallR X (.builtin "len") (rLen K) := hK ▸ cr_len
theorem cr_listK (hK : X.K = K) : CallR X (.type "list") (rList K) := hK ▸ cr_list
theorem cr_isiK (hK : X.K = K) : CallR X (.builtin "isinstance") (rIsi K) := hK ▸ cr_isi
theorem ix_seqK (hK : X.K = K) : IxR X (rIx K) := hK ▸ ix_seq
theorem sl_listK (hK : X.K = K) : SlR X (rSlL K) := hK ▸ sl_list
theorem op_eqXK (hu : X.A.units + 64 < cLine) (hK : X.K = K) : OpR X (compareOp .Eq) (rEqX K) := hK ▸ op_eqX hu
theorem op_neXK (hu : X.A.units + 64 < cLine) (hK : X.K = K) : OpR X (compareOp .NotEq) (rNeX K) := hK ▸ op_neX hu
theorem pe_revLK (he : PE X e te) (hK : X.K = K) : PE X (.Subscript e (.Slice none none (some (.UnaryOp .USub (.Constant (.int 1) k p1) p2)) p3) pos) (tRevL K te) := hK ▸ pe_revL he
theorem pi_listK (hl : PE X l tl) (hK : X.K = K) : PI X tg l (iList K tl) := hK ▸ pi_list hl
theorem pg_tupK {es : List Expr} {k : Nat} {t : TGs} {n : Nat} (hK : X.K = K) (hc : X.calm = true) (h : PGs X es t)
    (hn : (assignEach es X.env).length = n := by rfl) (hst : (assignEach es X.env).findIdx? (·.1) = none := by rfl) : PG X (.Tuple es k pos) (gTup K n t) := hK ▸ pg_tup hc h hn hst
end
/-! ### promises of the machine's and the numbers' methods -/
def Pre_Mach_step (T : TC) : PreT := fun As Ω R => ∃ (k : Nat) (p : Addr) (s : MS) (wd : Str) (n : Int), As = [vr p, va T wd, va T n] ∧ Ω[k]? = some (machA T p s) ∧ wd ∈ mwords ∧ R = RV (va T ()) (stt Ω [(k, machA T p (s.step wd n))] [])
def Pre_Mach_enter (T : TC) : PreT := fun As Ω R => ∃ (k : Nat) (p : Addr) (s : MS) (wd : Str) (m n : Int), As = [vr p, va T wd, va T m, va T n] ∧ Ω[k]? = some (machA T p s) ∧ R = RV (va T ()) (stt Ω [(k, machA T p (s.enter wd m n))] [])
def Pre_Mach_reset (T : TC) : PreT := fun As Ω R => ∃ (k : Nat) (p : Addr) (s : MS), As = [vr p] ∧ Ω[k]? = some (machA T p s) ∧ R = RV (va T ()) (stt Ω [(k, machA T p s.reset)] [])
def Pre_Mach_tally (T : TC) : PreT := fun As Ω R => ∃ (k : Nat) (p : Addr) (s : MS), As = [vr p] ∧ Ω[k]? = some (machA T p s) ∧ R = RV (va T (LF.mk s.tally)) Ω
def Pre_Mach_walk (T : TC) : PreT := fun As Ω R => ∃ (k : Nat) (p : Addr) (s : MS), As = [vr p] ∧ Ω[k]? = some (machA T p s) ∧ R = RV (va T (LF.mk s.wk)) Ω
def Pre_Mach_parts (T : TC) : PreT := fun As Ω R => ∃ (k : Nat) (p : Addr) (s : MS), As = [vr p] ∧ Ω[k]? = some (machA T p s) ∧ R = RV (va T (s.w, s.c)) Ω
def Pre_Machine (T : TC) : PreT := fun As Ω R => ∃ (Ω0 : List OA) (p : Addr) (w c : Int), As = [vr p, va T w, va T c] ∧ ((8 ≤ w ∧ w ≤ 30) ∧ 2 ≤ c ∧ c ≤ 1000) ∧ Ω = Ω0 ++ [newA (T.C 0) p] ∧ R = RV (va T ()) (Ω0 ++ [machA T p (MS.fresh w c)])
def Pre_Big (T : TC) : PreT := fun As Ω R => ∃ (Ω0 : List OA) (p : Addr) (w v : Int) (row : List Int) (B : VA), (B = va T (LF.mk row) ∨ B = va T (TF.mk row)) ∧ As = [vr p, va T w, va T v, B] ∧ Ω = Ω0 ++ [newA (T.C 1) p] ∧ R = RV (va T ()) (Ω0 ++ [bigA T p ⟨w, row, v⟩])
/-- what must hold to go on -/
noncomputable def chkP (p : Prop) : Option Unit := @ite _ p (Classical.propDecidable p) (some ()) none
theorem chkP_some {p : Prop} {r : Unit} (h : chkP p = some r) : p := by
  unfold chkP at h
  split at h
  · assumption
  · cases h
end VL

set_option Elab.async false
set_option linter.all false
set_option maxRecDepth 100000
/-! == of data; new things side by side -/
namespace VL
open PySem L2
class Dat (α : Type) [Rp α] where
  dat : α → PyData
  ok : α → Prop
  dep : Nat
  dp : ∀ {T : TC} {F H : Hp} {v : V} {a : α}, Same F H → Rp.rep T F v a → Dp T.K H v (dat a)
  lay : ∀ {a : α}, ok a → (dat a).canLay0 = true
  depth : ∀ {a : α}, (dat a).depth ≤ dep
  eqv : ∀ {a b : α}, PyData.eqv (dat a) (dat b) = true ↔ a = b
instance : Dat Int := ⟨.int, fun _ => True, 0, fun _ h => by
    rw [show _ = V.int _ from h]; exact .int _, fun _ => rfl, Nat.le_refl _, fun {a b} => by
    show (a == b) = true ↔ a = b
    exact beq_iff_eq⟩
instance : Dat Bool := ⟨.bool, fun _ => True, 0, fun _ h => by
    rw [show _ = V.bl _ from h]; exact .bl _, fun _ => rfl, Nat.le_refl _, fun {a b} => by
    show (a == b) = true ↔ a = b
    exact beq_iff_eq⟩
instance : Dat Str := ⟨.str, fun s => (PyData.str s).canLay0 = true, 0, fun _ h => by
    rw [show _ = V.str _ from h]; exact .str _, fun h => h, Nat.le_refl _, fun {a b} => by
    show (a == b) = true ↔ a = b
    exact beq_iff_eq⟩
section
variable {α : Type} [Rp α] [Dat α]
theorem dp_all {T : TC} {F H : Hp} (e : Same F H) : ∀ {vs : List V} {l : List α}, Al T F vs l → DpAll T.K H vs (l.map Dat.dat)
  | _, _, .nil => .nil
  | _, _, .cons h t => .cons (Dat.dp e h) (dp_all e t)
theorem lay_all : ∀ {l : List α}, (∀ x ∈ l, Dat.ok x) → PyData.canLayAll0 (l.map Dat.dat) = true
  | [], _ => rfl
  | x :: r, h => by
    show (PyData.canLay0 (Dat.dat x) && PyData.canLayAll0 (r.map Dat.dat)) = true
    rw [Dat.lay (h x List.mem_cons_self), lay_all fun y hy => h y (List.mem_cons_of_mem _ hy)]
    rfl
theorem dep_all : ∀ {l : List α}, PyData.depthAll (l.map Dat.dat) ≤ Dat.dep α
  | [] => Nat.zero_le _
  | x :: r => by
    show max (PyData.depth (Dat.dat x)) (PyData.depthAll (r.map Dat.dat)) ≤ _
    exact Nat.max_le.mpr ⟨Dat.depth, dep_all⟩
theorem eqv_all : ∀ {l m : List α}, PyData.eqvAll (l.map Dat.dat) (m.map Dat.dat) = true ↔ l = m
  | [], [] => by simp [PyData.eqvAll]
  | [], _ :: _ => by simp [PyData.eqvAll]
  | _ :: _, [] => by simp [PyData.eqvAll]
  | x :: r, y :: s => by
    simp only [List.map_cons, PyData.eqvAll, Bool.and_eq_true, Dat.eqv, eqv_all, List.cons.injEq]
end
theorem depth_list {ds : List PyData} : (PyData.list ds).depth = PyData.depthAll ds + 1 := by simp [PyData.depth]
theorem depth_tuple {ds : List PyData} : (PyData.tuple ds).depth = PyData.depthAll ds + 1 := by simp [PyData.depth]
instance {α : Type} [Rp α] [Dat α] : Dat (LF α) := ⟨fun l => .list (l.l.map Dat.dat), fun l => ∀ x ∈ l.l, Dat.ok x, Dat.dep α + 1, fun e ⟨p, vs, h1, h2, h3⟩ => by
    rw [h1]; exact .lst (SqL.of (e _ _ h2)) (dp_all e h3), fun h => by show PyData.canLayAll0 _ = true; exact lay_all h, fun {a} => by rw [depth_list]; exact Nat.succ_le_succ dep_all, fun {a b} => by
    show PyData.eqvAll _ _ = true ↔ a = b
    rw [eqv_all]
    cases a; cases b; simp⟩
instance {α : Type} [Rp α] [Dat α] : Dat (TF α) := ⟨fun l => .tuple (l.l.map Dat.dat), fun l => ∀ x ∈ l.l, Dat.ok x, Dat.dep α + 1, fun e ⟨p, vs, h1, h2, h3⟩ => by
    rw [h1]; exact .tup (Same.tup e h2) (dp_all e h3), fun h => by show PyData.canLayAll0 _ = true; exact lay_all h, fun {a} => by rw [depth_tuple]; exact Nat.succ_le_succ dep_all, fun {a b} => by
    show PyData.eqvAll _ _ = true ↔ a = b
    rw [eqv_all]
    cases a; cases b; simp⟩
instance {α β : Type} [Rp α] [Rp β] [Dat α] [Dat β] : Dat (α × β) := ⟨fun l => .tuple [Dat.dat l.1, Dat.dat l.2], fun l => Dat.ok l.1 ∧ Dat.ok l.2, max (Dat.dep α) (Dat.dep β) + 1, fun e ⟨p, x, y, h1, h2, h3, h4⟩ => by
    rw [h1]; exact .tup (Same.tup e h2) (.cons (Dat.dp e h3) (.cons (Dat.dp e h4) .nil)), fun h => by
    show (PyData.canLay0 (Dat.dat _) && (PyData.canLay0 (Dat.dat _) && true)) = true
    rw [Dat.lay h.1, Dat.lay h.2]; rfl, fun {a} => by
    rw [depth_tuple]
    refine Nat.succ_le_succ ?_
    show max (PyData.depth (Dat.dat a.1)) (max (PyData.depth (Dat.dat a.2)) 0) ≤ _
    have h1 := Dat.depth (a := a.1)
    have h2 := Dat.depth (a := a.2)
    omega, fun {a b} => by
    show (PyData.eqv (Dat.dat a.1) (Dat.dat b.1) && (PyData.eqv (Dat.dat a.2) (Dat.dat b.2) && true)) = true ↔ a = b
    rw [Bool.and_true, Bool.and_eq_true, Dat.eqv, Dat.eqv]
    exact Prod.ext_iff.symm⟩
instance {α β γ : Type} [Rp α] [Rp β] [Rp γ] [Dat α] [Dat β] [Dat γ] : Dat (T3 α β γ) := ⟨fun l => .tuple [Dat.dat l.a, Dat.dat l.b, Dat.dat l.c], fun l => Dat.ok l.a ∧ Dat.ok l.b ∧ Dat.ok l.c, max (Dat.dep α) (max (Dat.dep β) (Dat.dep γ)) + 1, fun e ⟨p, x, y, z, h1, h2, h3, h4, h5⟩ => by
    rw [h1]; exact .tup (Same.tup e h2) (.cons (Dat.dp e h3) (.cons (Dat.dp e h4) (.cons (Dat.dp e h5) .nil))), fun h => by
    show (PyData.canLay0 (Dat.dat _) && (PyData.canLay0 (Dat.dat _) && (PyData.canLay0 (Dat.dat _) && true))) = true
    rw [Dat.lay h.1, Dat.lay h.2.1, Dat.lay h.2.2]; rfl, fun {a} => by
    rw [depth_tuple]
    refine Nat.succ_le_succ ?_
    show max (PyData.depth (Dat.dat a.a)) (max (PyData.depth (Dat.dat a.b)) (max (PyData.depth (Dat.dat a.c)) 0)) ≤ _
    have h1 := Dat.depth (a := a.a)
    have h2 := Dat.depth (a := a.b)
    have h3 := Dat.depth (a := a.c)
    omega, fun {a b} => by
    show (PyData.eqv (Dat.dat a.a) (Dat.dat b.a) && (PyData.eqv (Dat.dat a.b) (Dat.dat b.b) && (PyData.eqv (Dat.dat a.c) (Dat.dat b.c) && true))) = true ↔ a = b
    rw [Bool.and_true, Bool.and_eq_true, Bool.and_eq_true, Dat.eqv, Dat.eqv, Dat.eqv]
    cases a; cases b; simp⟩
/-- == -/
def eqD {α : Type} [Rp α] [Dat α] (x y : α) : Bool := PyData.eqv (Dat.dat x) (Dat.dat y)
theorem eqD_iff {α : Type} [Rp α] [Dat α] {x y : α} : eqD x y = true ↔ x = y := Dat.eqv
/-- A is data d -/
def IsD (T : TC) (Ω : List OA) (A : VA) (d : PyData) : Prop := ∀ F H v, Holds F Ω H → A.P F v → Dp T.K H v d
section
variable {T : TC} {Γ : List (Option VA)} {Ω Ω1 Ω2 Ω3 : List OA} {A B C : VA} {ta tb te : TE} {D : Ends} {F0 : Hp} {ts : TS} {b : Bool} {α : Type} [Rp α] [Dat α] {x y : α} {l m : List α} {p : Addr} {k : Nat}
theorem isD_va : IsD T Ω (va T x) (Dat.dat x) := fun F H v hh a => Dat.dp hh.same a
theorem shp {x : α} (h : Dat.ok x) (hd : Dat.dep α ≤ 64) : SeqAt.shaped (Dat.dat x) = true := by
  unfold SeqAt.shaped
  rw [Dat.lay h, Bool.true_and]
  exact decide_eq_true (Nat.le_trans Dat.depth hd)
theorem ro_eqD {d e : PyData} (h1 : IsD T Ω A d) (h2 : IsD T Ω B e) (s1 : SeqAt.shaped d = true) (s2 : SeqAt.shaped e = true) : RO (rEqX T.K) Ω A B (va T (PyData.eqv d e)) := fun F H x y hh a1 a2 Q q =>
  .inr ⟨d, e, h1 F H x hh a1, h2 F H y hh a2, s1, s2, q F _ H (Same.refl F) hh rfl⟩
theorem ro_neD {d e : PyData} (h1 : IsD T Ω A d) (h2 : IsD T Ω B e) (s1 : SeqAt.shaped d = true) (s2 : SeqAt.shaped e = true) : RO (rNeX T.K) Ω A B (va T (!PyData.eqv d e)) := fun F H x y hh a1 a2 Q q =>
  .inr ⟨d, e, h1 F H x hh a1, h2 F H y hh a2, s1, s2, q F _ H (Same.refl F) hh rfl⟩
theorem xe_neK (h : x = y ∧ Dat.ok x) (hd : Dat.dep α ≤ 64) (ha : XE ta Γ Ω A Ω1) (hb : XE tb Γ Ω1 B Ω2) (i1 : IsD T Ω2 A (Dat.dat x)) (i2 : IsD T Ω2 B (Dat.dat y)) : XE (tOp (rNeX T.K) ta tb) Γ Ω (va T false) Ω2 := by
  obtain ⟨h, o⟩ := h
  subst h
  have := xe_op ha hb (ro_neD i1 i2 (shp o hd) (shp o hd))
  rw [Dat.eqv.mpr rfl] at this
  exact this
theorem xe_appE {k : Nat} {p : Addr} {a : α} {l l2 : List α} {Ω2 : List OA} (h0 : Ω[k]? = some (lstA T p l2)) (hk : Ω1[k]? = some (lstA T p l)) (ha : XE ta Γ Ω (vr p) Ω) (hb : XE tb Γ Ω (va T a) Ω1) (hz : l.length < sizeLine) (he : Ω1.set k (lstA T p (l ++ [a])) = Ω2) :
    XE (tBM T.K "list" rAppend ta (tCons tb tNil)) Γ Ω (va T ()) Ω2 := he ▸ xe_app h0 hk ha hb hz
/-- == of data -/
theorem xe_eqD (h : Dat.ok x ∧ Dat.ok y) (hd : Dat.dep α ≤ 64) (ha : XE ta Γ Ω A Ω1) (hb : XE tb Γ Ω1 B Ω2) (i1 : IsD T Ω2 A (Dat.dat x)) (i2 : IsD T Ω2 B (Dat.dat y)) : XE (tOp (rEqX T.K) ta tb) Γ Ω (va T (eqD x y)) Ω2 := xe_op ha hb (ro_eqD i1 i2 (shp h.1 hd) (shp h.2 hd))
theorem xe_neD (h : Dat.ok x ∧ Dat.ok y) (hd : Dat.dep α ≤ 64) (ha : XE ta Γ Ω A Ω1) (hb : XE tb Γ Ω1 B Ω2) (i1 : IsD T Ω2 A (Dat.dat x)) (i2 : IsD T Ω2 B (Dat.dat y)) : XE (tOp (rNeX T.K) ta tb) Γ Ω (va T (!eqD x y)) Ω2 := xe_op ha hb (ro_neD i1 i2 (shp h.1 hd) (shp h.2 hd))
/-- things made in a turn are left -/
theorem Holds.cutL {F H : Hp} {Ω : List OA} {ks : List (Nat × OA)} {L M : List OA} (h : Holds F (stt Ω ks (L ++ M)) H) : Holds F (stt Ω ks L) H := by
  have e : stt Ω ks (L ++ M) = stt Ω ks L ++ M := (List.append_assoc _ _ _).symm
  rw [e] at h
  obtain ⟨ts, h1, h2, h3, h4, h5⟩ := h
  have len : (stt Ω ks L ++ M).length = (stt Ω ks L).length + M.length := List.length_append
  exact ⟨ts, fun i o q => h1 i o (by rw [List.getElem?_append_left (getlt q)]; exact q), h2, fun i q => h3 i (by omega), fun i b x q => h4 i b x (by omega), fun i j b x qi qj => h5 i j b x (by omega) (by omega)⟩
theorem NX.cutL {ks : List (Nat × OA)} {σ : L2.St} {H : Hp} {L' : List OA} (L M : List OA) (h : NX F0 Γ (stt Ω ks L') σ H) (e : L' = L ++ M := by rfl) : NX F0 Γ (stt Ω ks L) σ H := by
  subst e
  let ⟨F, f0, en, hh⟩ := h
  exact ⟨F, f0, en, hh.cutL⟩
end
/-! ### keyword arguments -/
/-- the parameters' values out of those that are written, by place -/
def prm {α : Type} (ix : List Nat) (l : List α) : List α := ix.filterMap fun i => l[i]?
theorem prm_rel {R : V → Value → Prop} : ∀ (ix : List Nat) {vs : List V} {us : List Value}, Paired R vs us → Paired R (prm ix vs) (prm ix us)
  | [], _, _, _ => .nil
  | i :: r, vs, us, h => by
    have hl := PySem.Paired.length h
    have ih := prm_rel r h
    have key : ∀ (vs : List V) (us : List Value), Paired R vs us → ∀ i : Nat, (vs[i]? = none ∧ us[i]? = none) ∨ ∃ v u, vs[i]? = some v ∧ us[i]? = some u ∧ R v u := by
      intro vs us h
      induction h with
      | nil => intro i; exact .inl ⟨by simp, by simp⟩
      | cons a t ih =>
        intro i
        cases i with
        | zero => exact .inr ⟨_, _, rfl, rfl, a⟩
        | succ i => simpa using ih i
    unfold prm
    rw [List.filterMap_cons, List.filterMap_cons]
    rcases key vs us h i with ⟨h1, h2⟩ | ⟨v, u, h1, h2, rr⟩
    · rw [h1, h2]; exact ih
    · rw [h1, h2]; exact .cons rr ih
theorem prm_relA {F : Hp} : ∀ (ix : List Nat) {vs : List V} {As : List VA}, AlA F vs As → AlA F (prm ix vs) (prm ix As)
  | [], _, _, _ => .nil
  | i :: r, vs, As, h => by
    have ih := prm_relA r h
    have key : ∀ (vs : List V) (As : List VA), AlA F vs As → ∀ i : Nat, (vs[i]? = none ∧ As[i]? = none) ∨ ∃ v A, vs[i]? = some v ∧ As[i]? = some A ∧ A.P F v := by
      intro vs As h
      induction h with
      | nil => intro i; exact .inl ⟨by simp, by simp⟩
      | cons a t ih =>
        intro i
        cases i with
        | zero => exact .inr ⟨_, _, rfl, rfl, a⟩
        | succ i => simpa using ih i
    unfold prm
    rw [List.filterMap_cons, List.filterMap_cons]
    rcases key vs As h i with ⟨h1, h2⟩ | ⟨v, u, h1, h2, rr⟩
    · rw [h1, h2]; exact ih
    · rw [h1, h2]; exact .cons rr ih
structure CalK (P : Program) (w : World) (K : PySem.W.Frag) (mg : Str → Option Value) (base : Heap) (k : Nat) (x : Str) (ps : List Str) (n : Nat) (ks : List Str) (ix : List Nat) (sp : Sp) : Prop where
  ex : ∃ f fd, FnOk P w K mg base CX0 k f fd ps sp ∧ mg x = some (.ref f) ∧ PySem.W.keepIn K (.ref f) = true ∧ KBn K fd ps n ks (fun us ws => prm ix (us ++ ws)) (fun vs zs => prm ix (vs ++ zs))
section
variable {X : Cx} {k n : Nat} {x : Str} {ps ks : List Str} {ix : List Nat} {sp : Sp} {p pos : Pos} {e : Expr} {es : List Expr} {kws : List Keyword} {t tk : TA}
end
section
variable {T : TC} {Γ : List (Option VA)} {Ω Ω1 Ω2 Ω3 : List OA} {A : VA} {As Ks : List VA}
end
end VL

set_option Elab.async false
set_option linter.all false
set_option maxRecDepth 100000
/-! frozen dicts from texts to ints; zip; pairs by place -/
namespace VL
open PySem L2 PyProof.Rows
structure DF where
  l : List (Str × Int)
def dkv (l : List (Str × Int)) : List (Key × V) := l.map fun q => (Sum.inr q.1, V.int q.2)
instance : Rp DF := ⟨fun T F v d => ∃ p od, v = .ref p ∧ F p = some (.frz od (.dK (dkv d.l))), fun e ⟨p, od, h1, h2⟩ => ⟨p, od, h1, e _ _ h2⟩⟩
/-- what an expression makes is locked for good -/
def tFz (te : TE) : TE := fun σ H Q => te σ H fun v H1 => ∃ p kvs, v = .ref p ∧ H1 p = some (.dK kvs) ∧ ∀ od, Q v (upd H1 p (.frz od (.dK kvs)))
theorem pe_fz {X : Cx} {e : Expr} {te : TE} (he : PE X e te) : PE X e (tFz te) := by
  refine ⟨fun pins s σ H Q I hw => ?_⟩
  refine thn (he.run pins s σ H _ I hw) fun u s1 ⟨x, H1, I1, rx, p, kvs, ex, hp, q⟩ => ?_
  obtain ⟨od, I2⟩ := I1.lock hp trivial
  exact ⟨x, _, I2, rx, q od⟩
/-! ### a dict on its way -/
def rawD (p : Addr) (kvs : List (Key × V)) : OA := ⟨fun _ t => t p = some (.dK kvs), fun _ h => h⟩
theorem Holds.newD {F H : Hp} {Ω : List OA} {p : Addr} {kvs : List (Key × V)} (h : Holds F Ω H) (n : H p = none) : Holds F (Ω ++ [rawD p kvs]) (upd H p (.dK kvs)) := by
  refine h.newO (t := upd (fun _ => none) p (.dK kvs)) (fun b x e => ?_) (same_upd n) (fun b x e => ?_) upd_same
  · by_cases hb : b = p
    · rw [hb]; exact n
    · rw [upd_ne hb] at e; cases e
  · by_cases hb : b = p
    · subst hb; rw [upd_same] at e ⊢; exact e
    · rw [upd_ne hb] at e; cases e
theorem Holds.fzD {F H : Hp} {Ω : List OA} {p : Addr} {kvs : List (Key × V)} {u : HO} (h : Holds F (Ω ++ [rawD p kvs]) H) : H p = some (.dK kvs) ∧ Holds (upd F p u) Ω (upd H p u) ∧ Same F (upd F p u) := by
  obtain ⟨ts, h1, h2, h3, h4, h5⟩ := h
  have len : (Ω ++ [rawD p kvs]).length = Ω.length + 1 := by simp
  have tp : ts Ω.length p = some (.dK kvs) := h1 Ω.length (rawD p kvs) app_at
  have nF : F p = none := h4 Ω.length p _ (by omega) tp
  have sF : Same F (upd F p u) := same_upd nF
  have nt : ∀ i, i < Ω.length → ts i p = none := fun i q => h5 Ω.length i p _ (by omega) (by omega) (by omega) tp
  refine ⟨h3 Ω.length (by omega) p _ tp, ⟨ts, fun i o q => o.mono sF (h1 i o (app_lt q)), fun b x e => ?_, fun i q b x e => ?_, fun i b x q e => ?_, fun i j b x qi qj ne e => h5 i j b x (by omega) (by omega) ne e⟩, sF⟩
  · by_cases hb : b = p
    · subst hb; rw [upd_same] at e ⊢; exact e
    · rw [upd_ne hb] at e ⊢; exact h2 b x e
  · by_cases hb : b = p
    · subst hb; rw [nt i q] at e; cases e
    · rw [upd_ne hb]; exact h3 i (by omega) b x e
  · by_cases hb : b = p
    · subst hb; rw [nt i q] at e; cases e
    · rw [upd_ne hb]; exact h4 i b x (by omega) e
section
variable {T : TC} {Γ : List (Option VA)} {Ω Ω1 Ω2 Ω3 : List OA} {A B C : VA} {ta tb te : TE} {D : Ends} {F0 : Hp} {ts : TS}
/-- keys that differ: merging leaves them as they are -/
theorem any_dkv {k : Str} : ∀ {l : List (Str × Int)}, (k ∉ l.map (·.1)) → ((dkv l).any fun kv => decide (kv.1 = (Sum.inr k : Key))) = false := by
  intro l h
  rw [List.any_eq_false]
  intro x hx
  obtain ⟨y, hy, rfl⟩ := List.mem_map.mp hx
  have : y.1 ≠ k := fun e => h (List.mem_map.mpr ⟨y, hy, e⟩)
  simp [this]
theorem merge_dkv : ∀ {l acc : List (Str × Int)}, ((acc ++ l).map (·.1)).Nodup → mergeK (dkv acc) (dkv l) = dkv (acc ++ l)
  | [], acc, _ => by rw [List.append_nil]; rfl
  | x :: r, acc, h => by
    have hx : x.1 ∉ acc.map (·.1) := fun m => by
      rw [List.map_append, List.nodup_append] at h
      exact h.2.2 _ m _ (by simp) rfl
    have e : mergeK (dkv acc) (dkv (x :: r)) = mergeK (putK (dkv acc) (Sum.inr x.1) (V.int x.2)) (dkv r) := rfl
    have e2 : putK (dkv acc) (Sum.inr x.1) (V.int x.2) = dkv (acc ++ [x]) := by
      unfold putK
      rw [any_dkv hx]
      show dkv acc ++ [(Sum.inr x.1, V.int x.2)] = _
      unfold dkv
      rw [List.map_append]
      rfl
    rw [e, e2, merge_dkv (l := r) (acc := acc ++ [x]) (by rw [List.append_assoc]; exact h), List.append_assoc]
    rfl
theorem merge0 {l : List (Str × Int)} (h : (l.map (·.1)).Nodup) : mergeK [] (dkv l) = dkv l := merge_dkv (acc := []) h
theorem val_dkv {k : Str} {v : Int} : ∀ {l : List (Str × Int)}, l.lookup k = some v → valV (dkv l) (Sum.inr k) = some (V.int v)
  | [], h => by cases h
  | x :: r, h => by
    by_cases e : x.1 = k
    · have hb : (k == x.1) = true := by rw [e]; exact beq_self_eq_true k
      have h2 : (match k == x.1 with | true => some x.2 | false => r.lookup k) = some v := h
      rw [hb] at h2
      have h3 : x.2 = v := Option.some.inj h2
      show valV ((Sum.inr x.1, V.int x.2) :: dkv r) (Sum.inr k) = _
      rw [valV_pos (p := ((Sum.inr x.1 : Key), V.int x.2)) (by show (Sum.inr x.1 : Key) = Sum.inr k; rw [e])]
      show some (V.int x.2) = _
      rw [h3]
    · have hb : (k == x.1) = false := by
        cases q : k == x.1 with
        | false => rfl
        | true => exact absurd (beq_iff_eq.mp q).symm e
      have h2 : (match k == x.1 with | true => some x.2 | false => r.lookup k) = some v := h
      rw [hb] at h2
      have ih := val_dkv (l := r) h2
      show valV ((Sum.inr x.1, V.int x.2) :: dkv r) (Sum.inr k) = _
      unfold valV at ih ⊢
      rw [List.find?_cons_of_neg (by simp [e])]
      exact ih
/-! ### a display -/
def XPs (trs : List (TE × TE)) (Γ : List (Option VA)) (Ω : List OA) (kvs : List (Str × Int)) : Prop :=
  ∀ F σ H, Env F σ Γ → Holds F Ω H → ∀ Q : List (V × V) → Hp → Prop, (∀ F' H', Same F F' → Holds F' Ω H' → Q (kvs.map fun q => (V.str q.1, V.int q.2)) H') → tPairs trs σ H Q
theorem xps_nil : XPs [] Γ Ω [] := fun F σ H e hh Q q => q F H (Same.refl F) hh
theorem xps_cons {tk tv : TE} {trs : List (TE × TE)} {k : Str} {v : Int} {r : List (Str × Int)} (hk : XE tk Γ Ω (va T k) Ω) (hv : XE tv Γ Ω (va T v) Ω) (hr : XPs trs Γ Ω r) : XPs ((tk, tv) :: trs) Γ Ω ((k, v) :: r) := fun F σ H e hh Q q => by
  refine hk F σ H e hh _ fun F1 x H1 Ω' e1 hh1 ⟨a1, o1⟩ => ?_
  subst o1
  refine hv F1 σ H1 (e.mono e1) hh1 _ fun F2 y H2 Ω' e2 hh2 ⟨a2, o2⟩ => ?_
  subst o2
  have a1 : x = V.str k := a1
  have a2 : y = V.int v := a2
  subst a1 a2
  exact hr F2 σ H2 ((e.mono e1).mono e2) hh2 _ fun F3 H3 e3 hh3 => q F3 H3 ((e1.trans e2).trans e3) hh3
theorem xe_disp {trs : List (TE × TE)} {kvs : List (Str × Int)} {ks : List (Nat × OA)} {L : List OA} (h : ∀ X, XPs trs Γ (stt Ω ks (L ++ [X])) kvs) (hn : (kvs.map (·.1)).Nodup) (h15 : kvs.length ≤ 15) : XE (tFz (tDisp trs)) Γ (stt Ω ks L) (va T (DF.mk kvs)) (stt Ω ks L) := fun F σ H e hh Q q => by
  intro p hp
  have hh1 := hh.newD (kvs := []) hp
  rw [stt_app] at hh1
  refine h (rawD p []) F σ _ e hh1 _ fun F2 H2 e2 hh2 => ?_
  rw [← stt_app] at hh2
  refine ⟨(hh2.fzD (u := .dK [])).1, dkv kvs, ?_, by unfold dkv; rw [List.length_map]; exact h15, p, _, rfl, upd_same, fun od => ?_⟩
  · unfold dkv
    rw [List.map_map]
    rfl
  · obtain ⟨_, hh3, e3⟩ := hh2.fzD (u := .frz od (.dK (mergeK [] (dkv kvs))))
    have eu : upd (upd H2 p (.dK (mergeK [] (dkv kvs)))) p (.frz od (.dK (mergeK [] (dkv kvs)))) = upd H2 p (.frz od (.dK (mergeK [] (dkv kvs)))) := by
      funext b
      by_cases hb : b = p
      · subst hb; rw [upd_same, upd_same]
      · rw [upd_ne hb, upd_ne hb, upd_ne hb]
    rw [eu]
    exact q _ _ _ _ (e2.trans e3) hh3 ⟨⟨p, od, rfl, by rw [upd_same, merge0 hn]⟩, rfl⟩
theorem xe_disp0 : XE (tFz tDNewK) Γ Ω (va T (DF.mk [])) Ω := fun F σ H e hh Q q => by
  intro p hp
  refine ⟨p, [], rfl, upd_same, fun od => ?_⟩
  have eu : upd (upd H p (.dK [])) p (.frz od (.dK [])) = upd H p (.frz od (.dK [])) := by
    funext b
    by_cases hb : b = p
    · subst hb; rw [upd_same, upd_same]
    · rw [upd_ne hb, upd_ne hb, upd_ne hb]
  rw [eu]
  obtain ⟨hh3, e3⟩ := hh.newF (u := .frz od (.dK [])) hp
  exact q _ _ _ _ e3 hh3 ⟨⟨p, od, rfl, upd_same⟩, rfl⟩

/-! ### dict(pairs) -/
def rDictP (K : PySem.W.Frag) : List V → Hp → VK → Prop := fun xs H Q => ∃ (a : Addr) (ps : List Addr) (kvs : List (Key × V)), xs = [.ref a] ∧ SqL K H a (ps.map V.ref) ∧ Paired (fun p kv => SqT K H p [kV kv.1, kv.2]) ps kvs ∧
    ∀ p, H p = none → Q (.ref p) (upd H p (.dK (mergeK [] kvs)))
theorem cr_dictPK {X : Cx} {K : PySem.W.Frag} (hc : X.calm = true) (hK : X.K = K) : CallR X (.type "dict") (rDictP K) := hK ▸ call_dictP hc
theorem pairs_al {F : Hp} : ∀ {vs : List V} {l : List (Str × Int)}, Al T F vs l → ∃ ps : List Addr, vs = ps.map V.ref ∧ Paired (fun p kv => SqT T.K F p [kV kv.1, kv.2]) ps (dkv l)
  | _, _, .nil => ⟨[], rfl, .nil⟩
  | _, _, .cons h t => by
    obtain ⟨p, x, y, hv, hs, h1, h2⟩ := h
    have h1 : x = V.str _ := h1
    have h2 : y = V.int _ := h2
    obtain ⟨ps, e, pr⟩ := pairs_al t
    subst h1 h2
    exact ⟨p :: ps, by rw [hv, e]; rfl, .cons hs pr⟩
theorem paired_imp {α β : Type} {R R' : α → β → Prop} (k : ∀ a b, R a b → R' a b) : ∀ {xs : List α} {ys : List β}, Paired R xs ys → Paired R' xs ys
  | _, _, .nil => .nil
  | _, _, .cons h t => .cons (k _ _ h) (paired_imp k t)
theorem fz_upd {H : Hp} {p : Addr} {u u' : HO} : upd (upd H p u) p u' = upd H p u' := by
  funext b
  by_cases hb : b = p
  · subst hb; rw [upd_same, upd_same]
  · rw [upd_ne hb, upd_ne hb, upd_ne hb]
theorem xe_dictP {l : List (Str × Int)} (ha : XE te Γ Ω A Ω1) (h : IsL T Ω1 A l) (hn : (l.map (·.1)).Nodup) : XE (tFz (tCB (rDictP T.K) (tCons te tNil))) Γ Ω (va T (DF.mk l)) Ω1 := fun F σ H e hh Q q => by
  refine ha F σ H e hh _ fun F1 x H1 Ω' e1 hh1 ⟨a1, o1⟩ => ?_
  subst o1
  obtain ⟨p, ws, ev, hs, al⟩ := h F1 H1 x hh1 a1
  obtain ⟨ps, ew, pr⟩ := pairs_al al
  refine ⟨p, ps, dkv l, by rw [ev], (by rw [← ew]; exact hs), paired_imp (fun a b q => Same.tup hh1.same q) pr, fun d hd => ?_⟩
  refine ⟨d, _, rfl, upd_same, fun od => ?_⟩
  rw [fz_upd]
  obtain ⟨hh3, e3⟩ := hh1.newF (u := .frz od (.dK (mergeK [] (dkv l)))) hd
  exact q _ _ _ _ (e1.trans e3) hh3 ⟨⟨d, od, rfl, by rw [upd_same, merge0 hn]⟩, rfl⟩
/-! ### == where it is known to hold -/
def rEqF : R2 := fun x y H Q => ∃ a b oa ob ks ls, x = .ref a ∧ y = .ref b ∧ H a = some (.frz oa (.dK ks)) ∧ H b = some (.frz ob (.dK ls)) ∧ ks.length = ls.length ∧ (∀ p ∈ ks, valV ls p.1 = some p.2 ∧ flatB p.2 = true) ∧ Q (.bl true) H
theorem op_eqF {X : Cx} (units : X.A.units < cLine) : OpR X (compareOp .Eq) rEqF := by
  intro pins s σ H x y v u Q inv r1 r2 h
  obtain ⟨a, b, oa, ob, ks, ls, rfl, rfl, ha, hb, len, vals, q⟩ := h
  obtain rfl : v = Value.ref a := r1
  obtain rfl : u = Value.ref b := r2
  have okA : ObjOk X.prog X.w H s.heap a (.dK ks) := (show s.heap.get? a = some oa ∧ ObjOk X.prog X.w H s.heap a (.dK ks) from inv.hok a _ ha).2
  have okB : ObjOk X.prog X.w H s.heap b (.dK ls) := (show s.heap.get? b = some ob ∧ ObjOk X.prog X.w H s.heap b (.dK ls) from inv.hok b _ hb).2
  obtain ⟨_, n1, w1, k1, d1⟩ := okA
  obtain ⟨_, n2, w2, k2, d2⟩ := okB
  have same : w1.length = w2.length := by rw [← k1.length, ← k2.length]; exact len
  exact PySem.W.keq_eq (r := true) (knd := mixKind X.prog X.w) n1 n2 d1 d2 units (fun _ => hits_all k2 k1 vals) (fin_bl inv q (by simp [same]))
/-- the same keys, the same numbers -/
def sameD (l m : List (Str × Int)) : Prop := l.length = m.length ∧ ∀ x ∈ l, m.lookup x.1 = some x.2
theorem xe_eqDF {l m : List (Str × Int)} (ha : XE ta Γ Ω (va T (DF.mk l)) Ω1) (hb : XE tb Γ Ω1 (va T (DF.mk m)) Ω2) (h : sameD l m) : XE (tOp rEqF ta tb) Γ Ω (va T true) Ω2 := xe_op ha hb fun F H x y hh a1 a2 Q q => by
  obtain ⟨p, o1, rfl, h1⟩ := a1
  obtain ⟨p2, o2, rfl, h2⟩ := a2
  refine ⟨p, p2, o1, o2, dkv l, dkv m, rfl, rfl, hh.same _ _ h1, hh.same _ _ h2, by unfold dkv; rw [List.length_map, List.length_map]; exact h.1, fun z hz => ?_, q F _ H (Same.refl F) hh rfl⟩
  obtain ⟨x, hx, rfl⟩ := List.mem_map.mp hz
  exact ⟨val_dkv (h.2 x hx), rfl⟩
def rSumT (K : PySem.W.Frag) : List V → Hp → VK → Prop := fun vs H Q => ∃ (a : Addr) (ns : List Int), vs = [V.ref a] ∧ SqT K H a (ns.map V.int) ∧ Q (.int ns.sum) H
end
end VL

set_option Elab.async false
set_option linter.all false
set_option maxRecDepth 100000
/-! enumerate over a tuple; a truth whose second part may have no value; slices of tuples -/
namespace VL
open PySem L2 PyProof.Rows
/-- the tuple at a, its items in new pairs with their places -/
def IteT (K : PySem.W.Frag) (a : Addr) : It :=
  ⟨fun i H => ∃ xs x, SqT K H a xs ∧ xs[i]? = some x, fun i H v H' => ∃ p x, v = .ref p ∧ H p = none ∧ H' = upd H p (.tup [.int (i : Nat), x]) ∧ ∀ xs, SqT K H a xs → xs[i]? = some x, fun i H => ∃ xs, SqT K H a xs ∧ xs.length = i⟩
def iEnumT (K : PySem.W.Frag) (ta : TA) : TI := fun σ H R => ta σ H fun vs H1 => ∃ a xs, vs = [.ref a] ∧ SqT K H1 a xs ∧ R (IteT K a) H1
section
variable {T : TC} {Γ : List (Option VA)} {Ω Ω1 Ω2 Ω3 : List OA} {A B C : VA} {ta tb te : TE} {b : Bool} {α : Type} [Rp α] {l : List α}
/-- the items with their places -/
def nums (l : List α) : List (Int × α) := (rng 0 l.length).zip l
theorem nums_get {l : List α} {i : Nat} {x : α} (h : l[i]? = some x) : (nums l)[i]? = some ((i : Int), x) := by
  unfold nums
  rw [List.getElem?_zip_eq_some]
  refine ⟨?_, h⟩
  unfold rng
  rw [List.getElem?_map, List.getElem?_range (getlt h)]
  show some ((0 : Int) + (i : Int)) = some (i : Int)
  rw [Int.zero_add]
theorem nums_len {l : List α} : (nums l).length = l.length := by
  unfold nums rng
  rw [List.length_zip, List.length_map, List.length_range, Nat.min_self]
/-! ### a truth whose second part may have no value -/
theorem xe_andO {mb : Option Bool} {v : Bool} (h1 : XE ta Γ Ω (va T b) Ω) (hm : (if b = true then mb else some false) = some v) (h2 : ∀ v, mb = some v → XE tb Γ Ω (va T v) Ω) : XE (tAndV ta tb) Γ Ω (va T v) Ω := fun F σ H e hh Q q => by
  refine h1 F σ H e hh _ fun F1 x H1 Ω' e1 hh1 ⟨a1, o1⟩ => ?_
  subst o1
  refine ⟨b, a1, ?_⟩
  cases b with
  | true =>
    rw [if_pos rfl] at hm ⊢
    exact h2 v hm F1 σ H1 (e.mono e1) hh1 Q fun F2 y H2 Ω'' e2 hh2 r => q F2 y H2 Ω'' (e1.trans e2) hh2 r
  | false =>
    rw [if_neg Bool.false_ne_true] at hm ⊢
    cases hm
    exact q F1 _ H1 _ e1 hh1 ⟨rfl, rfl⟩
/-! ### a pair of a new list and a value -/
def RNP (T : TC) (Ω2 : List OA) (o : Addr → OA) (B : VA) : Hp → V → List OA → Prop := fun F v Ω' => ∃ p t w, v = .ref t ∧ SqT T.K F t [.ref p, w] ∧ B.P F w ∧ Ω' = Ω2 ++ [o p]
def RNQ (T : TC) (Ω2 : List OA) (p : Addr) (B : VA) : Hp → V → List OA → Prop := fun F v Ω' => ∃ t w, v = .ref t ∧ SqT T.K F t [.ref p, w] ∧ B.P F w ∧ Ω' = Ω2
end
end VL

set_option Elab.async false
set_option linter.all false
set_option maxRecDepth 100000
/-! == and != by the text's own __eq__ -/
namespace VL
open PySem L2 PyProof.Rows
/-- the class at C: a plain one, with its own __eq__ at f, without __ne__ -/
theorem ns_some {K : PySem.W.Frag} {h : Heap} {N : Addr} {mp : Str → Option Value} {k : Str} {v : Value} (X : K.In h) (ns : h.Ns N mp) (found : PySem.W.nsIn K N k = some (some v)) : mp k = some v := by
  obtain ⟨ob, ents, cnt, at1, data1, _, find1⟩ := ns
  unfold PySem.W.nsIn at found
  split at found
  · rename_i c d ents2 n' sl q
    have same := X _ _ q
    rw [at1] at same
    cases same
    cases data1
    split at found
    · rename_i entry hit
      cases found
      rw [← find1]
      unfold nsFind findBy
      rw [← Array.find?_toList, hit] <;> rfl
    · split at found <;> cases found
  · cases found
theorem lookup_eq : typeLookup (.type "object") "__eq__" = pure (some (.builtin "object.__eq__")) := by rw [typeLookup_type, builtinLookup_eq_fast]; kernel_rfl
theorem own_ne {K : PySem.W.Frag} {h : Heap} {C f x dx : Addr} {mA : Str → Option Value} (X : K.In h) (q : ownB K C f = true) (hx : ObjM h x dx C mA) : h.OwnEqNoNe x C f "object" [.type "object"] := by
  unfold ownB at q
  split at q
  · rename_i t dd cd sl lk
    split at q
    · rename_i C' b k0 k1 k2 k3 n k5 em es
      obtain ⟨q1, q⟩ := He.ba q
      obtain ⟨q2, q⟩ := He.ba q
      obtain ⟨q3, q⟩ := He.ba q
      obtain ⟨q4, q⟩ := He.ba q
      obtain ⟨q5, q⟩ := He.ba q
      obtain ⟨q6, q⟩ := He.ba q
      obtain ⟨q7, q8⟩ := He.ba q
      have q1 := of_decide_eq_true q1
      have q2 := of_decide_eq_true q2
      have q3 := of_decide_eq_true q3
      subst q1 q2 q3
      obtain ⟨nm, bases, mro, ns, qn, hd, sn, sub, ab, col, del⟩ := cd
      simp only [Bool.not_eq_true'] at em q4 q5 q6 q7
      subst em q4
      obtain ⟨sl⟩ := sl
      simp only at es
      subst es
      split at q8
      · rename_i u fd2 fdt fsl lf
        have q8 := of_decide_eq_true q8
        subst q8
        exact ⟨_, _, nm, qn, ns, bases, hd, sn, sub, ab, col, dd, k0, k1, k2, k3, k5, n, _, _, hx.obj, rfl, X _ _ lk, .of_isNs (PySem.W.isNs_of_in X q5), (ns_some X (.of_isNs (PySem.W.isNs_of_in X q5)) (He.eqO_ok q7)), X _ _ lf, rfl, PySem.F.mro_object, lookup_eq, PySem.W.nsMap_none_of_in X q5 (He.eqO_ok q6)⟩
      · cases q8
    · cases q
  · cases q
/-- x == y, x != y of two instances of the class at C: what its own __eq__ promises -/
def rOwnEq (C : Addr) (sp : Sp) : R2 := fun x y H Q => ∃ a b dx dy fs gs, x = .ref a ∧ y = .ref b ∧ H a = some (.ins C dx fs) ∧ H b = some (.ins C dy gs) ∧ sp [x, y] H (fun v H' => ∃ r, v = .bl r ∧ Q (.bl r) H') E0
def rOwnNe (C : Addr) (sp : Sp) : R2 := fun x y H Q => ∃ a b dx dy fs gs, x = .ref a ∧ y = .ref b ∧ H a = some (.ins C dx fs) ∧ H b = some (.ins C dy gs) ∧ sp [x, y] H (fun v H' => ∃ r, v = .bl r ∧ Q (.bl (!r)) H') E0
section
variable {X : Cx} {n : Nat} {C f : Addr} {fd : FuncData} {ps : List Str} {sp : Sp}
/-- the call of __eq__ at a place with room -/
theorem call_own {A : Around} (F : FnOk X.prog X.w X.K X.mg X.base CX0 n f fd ps sp) (hb : Binds X.K fd ps []) (room : Room n A) (fr : A.frames = X.A.frames) {pins : List (Addr × Obj)} {σ : L2.St} {H : Hp} {s : Shared} {x y : V} {u v : Value} {Q : VK} (I : Inv X pins σ H s) (r1 : RelV x u) (r2 : RelV y v) (q : sp [x, y] H Q E0) :
    wpAny (model X.prog X.w) A (call (.ref f) [u, v]) (EP X pins σ Q) X.xe s := by
  have e0 : Env0 X.prog X.w X.K X.mg X.base A X.stack s H := by
    have b := I.env0
    exact ⟨by rw [fr]; exact b.frames, b.mod, b.bs, b.bsz, b.funs, b.frf, b.hok, b.bare⟩
  have len := F.len _ _ _ _ q
  have two : Vals [x, y] [u, v] := .cons r1 (.cons r2 .nil)
  refine wpAny_call (codeAny_mono (F.run A X.stack s H ⟨[u, v], []⟩ [u, v] [x, y] Q E0 room e0 (by
    have z := hb s [u, v] I.kIn (by simpa using len)
    simpa using z) two q) fun res s' out => ?_)
  cases res with
  | error e => exact False.elim out
  | ok fl =>
    cases fl with
    | ret w => exact I.after out
    | next => exact False.elim out
    | brk => exact False.elim out
    | cont => exact False.elim out
theorem op_ownNe (F : FnOk X.prog X.w X.K X.mg X.base CX0 n f fd ps sp) (own : ownB X.K C f = true) (hb : Binds X.K fd ps []) (room : Room (n + 1) X.A) : OpR X (compareOp .NotEq) (rOwnNe C sp) := by
  intro pins s σ H x y v u Q I r1 r2 h
  obtain ⟨a, b, dx, dy, fs, gs, rfl, rfl, ha, hb', q⟩ := h
  obtain rfl : v = Value.ref a := r1
  obtain rfl : u = Value.ref b := r2
  obtain ⟨mA, J, _⟩ := ins_get I.hok ha
  obtain ⟨mB, J', _⟩ := ins_get I.hok hb'
  have ne := own_ne I.kIn own J
  have hy := J'.obj
  have r3 := call_own F hb room.in1 rfl I (show RelV (V.ref a) (Value.ref a) from rfl) (show RelV (V.ref b) (Value.ref b) from rfl) q
  obtain ⟨hp, g, d, t, os⟩ := s
  refine compareOp_ne_ownEq PySem.F.cmp_object ne hy rfl ?_ (wpAny_mono r3 (fun w s' z => ?_) fun _ _ z => z)
  · have := room.un
    omega
  · obtain ⟨z, H', I', rz, r, ez, q'⟩ := z
    subst ez
    obtain rfl : w = Value.bool r := rz
    exact ⟨r, rfl, .bl (!r), H', I', rfl, q'⟩
theorem op_ownEq (F : FnOk X.prog X.w X.K X.mg X.base CX0 n f fd ps sp) (own : PySem.W.findIn X.K (.ref C) "__eq__" = some (some (.ref f))) (isf : PySem.W.isFn X.K (.ref f) = true) (hb : Binds X.K fd ps []) (room : Room n X.A) : OpR X (compareOp .Eq) (rOwnEq C sp) := by
  intro pins s σ H x y v u Q I r1 r2 h
  obtain ⟨a, b, dx, dy, fs, gs, rfl, rfl, ha, hb', q⟩ := h
  obtain rfl : v = Value.ref a := r1
  obtain rfl : u = Value.ref b := r2
  obtain ⟨mA, J, _⟩ := ins_get I.hok ha
  obtain ⟨mB, J', _⟩ := ins_get I.hok hb'
  obtain ⟨od, J, _⟩ := J.look
  obtain ⟨od', J', _⟩ := J'.look
  obtain ⟨m, fr⟩ := I.fr
  have r3 := call_own F hb room rfl I (show RelV (V.ref a) (Value.ref a) from rfl) (show RelV (V.ref b) (Value.ref b) from rfl) q
  show wpAny (model X.prog X.w) X.A (richCompare .Eq (.ref a) (.ref b)) (EP X pins σ Q) X.xe s
  refine PySem.W.cmp_K (tb := .ref C) (op := .Eq) room.units0 fr I.ok.mod.kin J J'.type (by simp [PySem.W.notFirst]) own isf (wpAny_mono r3 (fun w s' z => ?_) fun _ _ z => z)
  obtain ⟨z, H', I', rz, r, ez, q'⟩ := z
  subst ez
  obtain rfl : w = Value.bool r := rz
  exact ⟨.bl r, H', I', rfl, q'⟩
end
section
variable {T : TC} {Γ : List (Option VA)} {Ω Ω1 Ω2 Ω3 : List OA} {A B C : VA} {ta tb te : TE} {x y : Bg} {r : Bool}
theorem xe_ownNe {Pre : PreT} {Ω' : List OA} (ha : XE ta Γ Ω (va T x) Ω1) (hb : XE tb Γ Ω1 (va T y) Ω2) (hp : Pre [va T x, va T y] Ω2 (RV (va T r) Ω')) (he : Ω' = Ω2) : XE (tOp (rOwnNe (T.C 1) (mkSp Pre)) ta tb) Γ Ω (va T (!r)) Ω2 := xe_op ha hb fun F H u v hh a1 a2 Q q => by
  subst he
  obtain ⟨p, dx, r1, vs, rfl, h1, h2, h3⟩ := id a1
  obtain ⟨p2, dx2, r2, vs2, rfl, g1, g2, g3⟩ := id a2
  refine ⟨p, p2, dx, dx2, _, _, rfl, rfl, hh.same _ _ h1, hh.same _ _ g1, F, _, _, _, hp, .cons a1 (.cons a2 .nil), hh, fun F' w H' Ω'' s' hh' ⟨aw, eo⟩ => ?_⟩
  subst eo
  exact ⟨r, aw, q F' _ H' s' hh' rfl⟩
theorem xe_ownEq {Pre : PreT} {Ω' : List OA} (ha : XE ta Γ Ω (va T x) Ω1) (hb : XE tb Γ Ω1 (va T y) Ω2) (hp : Pre [va T x, va T y] Ω2 (RV (va T r) Ω')) (he : Ω' = Ω2) : XE (tOp (rOwnEq (T.C 1) (mkSp Pre)) ta tb) Γ Ω (va T r) Ω2 := xe_op ha hb fun F H u v hh a1 a2 Q q => by
  subst he
  obtain ⟨p, dx, r1, vs, rfl, h1, h2, h3⟩ := id a1
  obtain ⟨p2, dx2, r2, vs2, rfl, g1, g2, g3⟩ := id a2
  refine ⟨p, p2, dx, dx2, _, _, rfl, rfl, hh.same _ _ h1, hh.same _ _ g1, F, _, _, _, hp, .cons a1 (.cons a2 .nil), hh, fun F' w H' Ω'' s' hh' ⟨aw, eo⟩ => ?_⟩
  subst eo
  exact ⟨r, aw, q F' _ H' s' hh' rfl⟩
end
structure CalEq (P : Program) (w : World) (K : PySem.W.Frag) (mg : Str → Option Value) (base : Heap) (n : Nat) (C : Addr) (sp : Sp) : Prop where
  ex : ∃ f fd, FnOk P w K mg base CX0 n f fd ["self", "other"] sp ∧ ownB K C f = true ∧ Meth K C "__eq__" f ∧ Binds K fd ["self", "other"] []
section
variable {X : Cx} {n : Nat} {C : Addr} {sp : Sp}
theorem op_neC (c : CalEq X.prog X.w X.K X.mg X.base n C sp) (room : Room (n + 1) X.A) : OpR X (compareOp .NotEq) (rOwnNe C sp) := by
  obtain ⟨f, fd, F, own, _, hb⟩ := c.ex
  exact op_ownNe F own hb room
theorem op_eqC (c : CalEq X.prog X.w X.K X.mg X.base n C sp) (room : Room (n + 1) X.A) : OpR X (compareOp .Eq) (rOwnEq C sp) := by
  obtain ⟨f, fd, F, own, me, hb⟩ := c.ex
  exact op_ownEq F me.1 me.2 hb (room.mono (Nat.le_succ n))
end
end VL

set_option Elab.async false
set_option linter.all false
set_option maxRecDepth 100000
/-! bits joined; tuples of four -/
namespace VL
open PySem L2
structure T4 (α β γ δ : Type) where
  a : α
  b : β
  c : γ
  d : δ
instance {α β γ δ : Type} [Rp α] [Rp β] [Rp γ] [Rp δ] : Rp (T4 α β γ δ) := ⟨fun T F v l => ∃ p x y z u, v = .ref p ∧ SqT T.K F p [x, y, z, u] ∧ Rp.rep T F x l.a ∧ Rp.rep T F y l.b ∧ Rp.rep T F z l.c ∧ Rp.rep T F u l.d,
  fun e ⟨p, x, y, z, u, h1, h2, h3, h4, h5, h6⟩ => ⟨p, x, y, z, u, h1, Same.tup e h2, Rp.mono e h3, Rp.mono e h4, Rp.mono e h5, Rp.mono e h6⟩⟩
section
variable {T : TC} {Γ : List (Option VA)} {Ω Ω1 Ω2 Ω3 : List OA} {A B C : VA} {As : List VA} {ta tb te : TE} {t u : TT} {i j n m : Int} {b c : Bool}
theorem cal0' {Ω : List OA} : stt Ω [] [] = Ω := List.append_nil _
end
end VL

set_option Elab.async false
set_option linter.all false
set_option maxRecDepth 100000
/-! texts compared; items of a dict; enumerate over a list; lists unpacked; extend -/
namespace VL
open PySem L2
section
variable {T : TC} {Γ : List (Option VA)} {Ω Ω1 Ω2 Ω3 : List OA} {A B C : VA} {As : List VA} {ta tb te ti : TE} {t u : TT} {i j n m : Int} {b c : Bool} {x y : Str}
theorem ro_eqS : RO rEq Ω (va T x) (va T y) (va T (decide (x = y))) := fun F H v w hh a1 a2 Q q => by
  have a1 : v = .str x := a1
  have a2 : w = .str y := a2
  subst a1 a2
  refine ⟨rfl, q F _ H (Same.refl F) hh ?_⟩
  show V.bl _ = V.bl _
  congr 1
  exact decide_eq_decide.mpr ⟨V.str.inj, fun h => by rw [h]⟩
theorem xe_eqS (ha : XE ta Γ Ω (va T x) Ω1) (hb : XE tb Γ Ω1 (va T y) Ω2) : XE (tOp (rEqX T.K) ta tb) Γ Ω (va T (decide (x = y))) Ω2 := xe_op ha hb (ro_or1 ro_eqS)
/-! isinstance of a list, a tuple, a truth -/
theorem ty_lst {α : Type} [Rp α] {l : List α} {F H : Hp} {v : V} (hh : Holds F Ω H) (a : (va T (LF.mk l)).P F v) : TyX T.K H v (.type "list") := by
  obtain ⟨p, vs, rfl, h, _⟩ := a
  exact .base (.lst (hh.same _ _ h))
theorem ty_bool {F H : Hp} {v : V} (_ : Holds F Ω H) (a : (va T b).P F v) : TyX T.K H v (.type "bool") := by
  have a : v = .bl b := a
  subst a
  exact .base (.bl b)
/-! all(xs), xs a list of truths -/
theorem al_bool {F : Hp} : ∀ {vs : List V} {l : List Bool}, Al T F vs l → vs = l.map V.bl
  | _, _, .nil => rfl
  | _, _, .cons h t => by rw [List.map_cons, ← al_bool t, show _ = V.bl _ from h]
theorem xe_all {l : List Bool} (ha : XE te Γ Ω A Ω1) (h : IsL T Ω1 A l) : XE (tCB (rAll T.K) (tCons te tNil)) Γ Ω (va T (l.all id)) Ω1 := xe_cb (xa_cons ha xa_nil) fun F H vs hh a Q q => by
  obtain ⟨v, rfl, a1⟩ := alA1 a
  obtain ⟨p, ws, e, hs, al⟩ := h F H v hh a1
  subst e
  refine ⟨p, l, rfl, ?_, q F _ H (Same.refl F) hh rfl⟩
  rw [← al_bool al]
  exact hs
def un2 {α : Type} : List α → Option (α × α)
  | [a, b] => some (a, b)
  | _ => none
/-! items of a dict -/
theorem wk_items {p : Addr} {od : Obj} {l : List (Str × Int)} : Wk (Iti p od (dkv l)) (fun F => F p = some (.frz od (.dK (dkv l)))) l (fun z => va T z) where
  mono := fun F F' e h => e _ _ h
  go := fun i F Ω H h hh hi => ⟨hh.same _ _ h, by unfold dkv; rw [List.length_map]; exact hi⟩
  stop := fun F Ω H h hh => ⟨hh.same _ _ h, by unfold dkv; rw [List.length_map]; exact Nat.le_refl _⟩
  yld := fun i z F Ω H v H' h hh hz y => by
    obtain ⟨q, k, w, hk, ev, hq, eH⟩ := y
    subst ev eH
    unfold dkv at hk
    rw [List.getElem?_map, hz] at hk
    have hk := Option.some.inj hk
    have h1 : k = Sum.inr z.1 := (congrArg Prod.fst hk).symm
    have h2 : w = V.int z.2 := (congrArg Prod.snd hk).symm
    subst h1 h2
    obtain ⟨hh2, e2⟩ := hh.newF (u := .tup [kV (Sum.inr z.1), V.int z.2]) hq
    exact ⟨_, e2, hh2, q, _, _, rfl, SqT.of upd_same, rfl, rfl⟩
theorem xi_items {l : List (Str × Int)} (ha : XE te Γ Ω (va T (DF.mk l)) Ω1) : XI (iItems te) Γ Ω l (fun a => va T a) Ω1 := fun F σ H e hh R r => by
  refine ha F σ H e hh _ fun F1 x H1 Ω' e1 hh1 ⟨a1, o1⟩ => ?_
  subst o1
  obtain ⟨p, od, rfl, hp⟩ := a1
  exact ⟨p, od, dkv l, rfl, hh1.same _ _ hp, r F1 _ H1 _ e1 hh1 wk_items hp⟩
/-! enumerate over a list -/
theorem wk_enumL {α : Type} [Rp α] {l : List α} {a : Addr} {vs : List V} : Wk (Ite T.K a) (fun F => SqL T.K F a vs ∧ Al T F vs l) (nums l) (fun z => va T z) where
  mono := fun F F' e ⟨h1, h2⟩ => ⟨e.seq h1, h2.mono e⟩
  go := fun i F Ω H ⟨h1, h2⟩ hh hi => ⟨vs, vs[i]'(by rw [al_len h2, ← nums_len (l := l)]; exact hi), hh.same.seq h1, List.getElem?_eq_getElem _⟩
  stop := fun F Ω H ⟨h1, h2⟩ hh => ⟨vs, hh.same.seq h1, by rw [al_len h2, nums_len]; exact Nat.le_refl _⟩
  yld := fun i z F Ω H v H' ⟨h1, h2⟩ hh hz y => by
    obtain ⟨p, x, ev, hp, eH, k⟩ := y
    subst ev eH
    have lt : i < l.length := by have := getlt hz; rwa [nums_len] at this
    have hl : l[i]? = some l[i] := List.getElem?_eq_getElem lt
    rw [nums_get hl] at hz
    have ez := Option.some.inj hz
    subst ez
    obtain ⟨u, hu, ru⟩ := al_get h2 hl
    have ex := k vs (hh.same.seq h1)
    rw [hu] at ex
    cases ex
    obtain ⟨hh2, e2⟩ := hh.newF (u := .tup [.int (i : Nat), x]) hp
    exact ⟨_, e2, hh2, p, _, x, rfl, SqT.of upd_same, rfl, Rp.mono e2 ru⟩
theorem xi_enumL {α : Type} [Rp α] {l : List α} (ha : XE te Γ Ω (va T (LF.mk l)) Ω1) : XI (iEnum T.K (tCons te tNil)) Γ Ω (nums l) (fun z => va T z) Ω1 := fun F σ H e hh R r => by
  refine xa_cons ha xa_nil F σ H e hh _ fun F1 vs H1 e1 hh1 a1 => ?_
  obtain ⟨v, rfl, b1⟩ := alA1 a1
  obtain ⟨p, xs, rfl, h1, al⟩ := b1
  have s1 : SqL T.K F1 p xs := SqL.of h1
  exact ⟨p, xs, rfl, hh1.same.seq s1, r F1 _ H1 _ e1 hh1 wk_enumL ⟨s1, al⟩⟩
end
instance {α β γ δ : Type} [Rp α] [Rp β] [Rp γ] [Rp δ] [Dat α] [Dat β] [Dat γ] [Dat δ] : Dat (T4 α β γ δ) := ⟨fun l => .tuple [Dat.dat l.a, Dat.dat l.b, Dat.dat l.c, Dat.dat l.d], fun l => Dat.ok l.a ∧ Dat.ok l.b ∧ Dat.ok l.c ∧ Dat.ok l.d, max (Dat.dep α) (max (Dat.dep β) (max (Dat.dep γ) (Dat.dep δ))) + 1, fun e ⟨p, x, y, z, u, h1, h2, h3, h4, h5, h6⟩ => by
    rw [h1]; exact .tup (Same.tup e h2) (.cons (Dat.dp e h3) (.cons (Dat.dp e h4) (.cons (Dat.dp e h5) (.cons (Dat.dp e h6) .nil)))), fun h => by
    show (PyData.canLay0 (Dat.dat _) && (PyData.canLay0 (Dat.dat _) && (PyData.canLay0 (Dat.dat _) && (PyData.canLay0 (Dat.dat _) && true)))) = true
    rw [Dat.lay h.1, Dat.lay h.2.1, Dat.lay h.2.2.1, Dat.lay h.2.2.2]; rfl, fun {a} => by
    rw [depth_tuple]
    refine Nat.succ_le_succ ?_
    show max (PyData.depth (Dat.dat a.a)) (max (PyData.depth (Dat.dat a.b)) (max (PyData.depth (Dat.dat a.c)) (max (PyData.depth (Dat.dat a.d)) 0))) ≤ _
    have h1 := Dat.depth (a := a.a)
    have h2 := Dat.depth (a := a.b)
    have h3 := Dat.depth (a := a.c)
    have h4 := Dat.depth (a := a.d)
    omega, fun {a b} => by
    show (PyData.eqv (Dat.dat a.a) (Dat.dat b.a) && (PyData.eqv (Dat.dat a.b) (Dat.dat b.b) && (PyData.eqv (Dat.dat a.c) (Dat.dat b.c) && (PyData.eqv (Dat.dat a.d) (Dat.dat b.d) && true)))) = true ↔ a = b
    rw [Bool.and_true, Bool.and_eq_true, Bool.and_eq_true, Bool.and_eq_true, Dat.eqv, Dat.eqv, Dat.eqv, Dat.eqv]
    cases a; cases b; simp⟩
section
variable {X : Cx} {K : PySem.W.Frag} {e : Expr} {ta : TA} {p pos tpos : Pos} {elts : List Expr} {kk : Nat}
theorem pi_enumK (hK : X.K = K) (hg : Gl X "enumerate") (hm : X.mg "enumerate" = none) (ha : PA X [e] ta) (hs : starEach [e] X.env = [(false, eval e X.env)] := by rfl) :
    PI X (.Tuple elts kk tpos) (.Call (.Name "enumerate" p) [e] [] pos) (iEnum K ta) := hK ▸ pi_enum hg hm ha hs
theorem cr_allK (hK : X.K = K) (hc : X.calm = true) : CallR X (.builtin "all") (rAll K) := hK ▸ cr_all hc
end
end VL

set_option Elab.async false
set_option linter.all false
set_option maxRecDepth 100000
/-! != of tuples item by item; == and != of pairs (frozen dict, data) that are equal -/
namespace VNe
open PySem
end VNe
namespace VL
open PySem L2 PyProof.Rows
/-- two frozen dicts of the same keys and flat values -/
def FD (H : Hp) (x y : V) : Prop := ∃ a b oa ob ks ls, x = .ref a ∧ y = .ref b ∧ H a = some (.frz oa (.dK ks)) ∧ H b = some (.frz ob (.dK ls)) ∧ ks.length = ls.length ∧ ∀ p ∈ ks, valV ls p.1 = some p.2 ∧ flatB p.2 = true
/-- the same data -/
def FS (K : PySem.W.Frag) (H : Hp) (x y : V) : Prop := ∃ d, Dp K H x d ∧ Dp K H y d ∧ d.canLay0 = true ∧ d.depth ≤ 60 ∧ PyData.eqv d d = true
section
variable {X : Cx} {pins : List (Addr × Obj)} {σ : L2.St} {H : Hp} {s : Shared}
end
def PkE (K : PySem.W.Frag) (x y : V) (H : Hp) : Prop := ∃ a b x1 x2 y1 y2, x = .ref a ∧ y = .ref b ∧ SqT K H a [x1, x2] ∧ SqT K H b [y1, y2] ∧ FD H x1 y1 ∧ FS K H x2 y2
def rPkEq (K : PySem.W.Frag) : R2 := fun x y H Q => PkE K x y H ∧ Q (.bl true) H
def rPkNe (K : PySem.W.Frag) : R2 := fun x y H Q => PkE K x y H ∧ Q (.bl false) H
section
variable {X : Cx} {pins : List (Addr × Obj)} {σ : L2.St} {H : Hp} {s : Shared}
end
section
variable {T : TC} {Γ : List (Option VA)} {Ω Ω1 Ω2 : List OA} {ta tb : TE} {α : Type} [Rp α] [Dat α] {x y : DF × α}
end
section
variable {T : TC} {Γ : List (Option VA)} {Ω Ω1 Ω2 Ω3 : List OA} {ta tb tc : TE}
end
end VL

set_option Elab.async false
set_option linter.all false
set_option maxRecDepth 100000
/-! != of lists whose items have a text's own __eq__; a list unpacked into three -/
namespace VNe
open PySem PySem.SeqAt
end VNe
namespace VL
open PySem L2 PyProof.Rows
/-- pair by pair the own __eq__ says yes; both lists stay -/
def WL (C : Addr) (sp : Sp) (a b : Addr) (xs ys : List V) : List (V × V) → Hp → (Hp → Prop) → Prop
  | [], H, Q => Q H
  | z :: r, H, Q => ∃ p q dx dy fs gs, z.1 = .ref p ∧ z.2 = .ref q ∧ H p = some (.ins C dx fs) ∧ H q = some (.ins C dy gs) ∧ (p = q → WL C sp a b xs ys r H Q) ∧
    (p ≠ q → sp [z.1, z.2] H (fun v H' => v = .bl true ∧ H' a = some (.lst xs) ∧ H' b = some (.lst ys) ∧ WL C sp a b xs ys r H' Q) E0)
def rOwnL (C : Addr) (sp : Sp) (r : Bool) : R2 := fun x y H Q => ∃ a b xs ys, x = .ref a ∧ y = .ref b ∧ H a = some (.lst xs) ∧ H b = some (.lst ys) ∧ xs.length = ys.length ∧ WL C sp a b xs ys (xs.zip ys) H (fun H' => Q (.bl r) H')
section
variable {X : Cx} {n : Nat} {C f : Addr} {fd : FuncData} {ps : List Str} {sp : Sp}
/-- what the loop keeps -/
def LI (X : Cx) (pins : List (Addr × Obj)) (σ : L2.St) (C : Addr) (sp : Sp) (a b : Addr) (xs ys : List V) (Q : Hp → Prop) (i : Nat) (s : Shared) : Prop := ∃ H, Inv X pins σ H s ∧ H a = some (.lst xs) ∧ H b = some (.lst ys) ∧ WL C sp a b xs ys ((xs.zip ys).drop i) H Q
end
section
variable {T : TC} {Γ : List (Option VA)} {Ω Ω1 Ω2 Ω3 : List OA} {ta tb te : TE} {l m : List Bg}
def un3 {α : Type} : List α → Option (α × α × α)
  | [a, b, c] => some (a, b, c)
  | _ => none
end
end VL

set_option Elab.async false
set_option linter.all false
set_option maxRecDepth 100000
/-! None behind a list of numbers; a pair of a new list and a value, kept in a name -/
namespace VL
open PySem L2
inductive OI where
  | i (n : Int)
  | no
def OI.v : OI → V
  | .i n => .int n
  | .no => .non
def OI.d : OI → PyData
  | .i n => .int n
  | .no => .none
instance : Rp OI := ⟨fun _ _ v a => v = a.v, fun _ h => h⟩
instance : Dat OI := ⟨OI.d, fun _ => True, 0, fun {T F H v a} _ h => by
    rw [show v = a.v from h]
    cases a
    · exact .int _
    · exact .non, fun {a} _ => by cases a <;> rfl, fun {a} => by cases a <;> exact Nat.le_refl _, fun {a b} => by
    cases a <;> cases b
    · rename_i m n
      show (m == n) = true ↔ _
      rw [beq_iff_eq]
      exact ⟨fun e => by rw [e], fun e => by cases e; rfl⟩
    · exact ⟨(fun e => nomatch e), (fun e => nomatch e)⟩
    · exact ⟨(fun e => nomatch e), (fun e => nomatch e)⟩
    · exact ⟨fun _ => rfl, fun _ => rfl⟩⟩
/-- a pair of a list that changes, at p, and a value -/
def pvA (T : TC) (p : Addr) (B : VA) : VA := ⟨fun F v => ∃ t w, v = .ref t ∧ SqT T.K F t [.ref p, w] ∧ B.P F w, fun e ⟨t, w, a, b, c⟩ => ⟨t, w, a, Same.tup e b, B.mono e c⟩⟩
section
variable {T : TC} {Γ : List (Option VA)} {Ω Ω1 Ω2 Ω3 : List OA} {A B C : VA} {ta tb te : TE} {D : Ends} {F0 : Hp} {ts : TS} {p : Addr}
theorem xn_repQ {α : Type} [Rp α] {l : List α} {i : Int} (ha : XE ta Γ Ω A Ω1) (hb : XE tb Γ Ω1 (va T i) Ω2) (h : IsLs T Ω2 A l) (h1 : (-(2 ^ 63) ≤ i ∧ i < 2 ^ 63) ∧ l.length * i.toNat ≤ sizeLine) : XG (tOp rMulQ ta tb) Γ Ω (RN Ω2 fun p => lstA T p (List.replicate i.toNat l).flatten) :=
  xn_op ha hb fun F H x y hh a1 a2 Q q => by
    obtain ⟨p, vs, rfl, hp, al⟩ := h F H x hh a1
    refine .inr ⟨p, i, vs, rfl, a2, hp, h1.1.1, h1.1.2, by rw [al_len al]; exact h1.2, fun d hd => ?_⟩
    exact q d _ (hh.newL (o := lstA T d (List.replicate i.toNat l).flatten) hd ⟨_, upd_same, al_repF al _⟩)
end
/-! ### walks over a list that may change, and doesn't -/
section
variable {T : TC} {Γ : List (Option VA)} {Ω Ω0 Ω1 Ω2 : List OA} {A B : VA} {te ta tb : TE} {D : Ends} {F0 : Hp} {ts : TS}
structure Wk2 (k : Nat) (o : OA) {α : Type} (J : It) (Sx : Hp → Prop) (xs : List α) (A : α → VA) : Prop where
  mono : ∀ F F', Same F F' → Sx F → Sx F'
  go : ∀ (i : Nat) F Ω H, Sx F → Holds F Ω H → Ω[k]? = some o → i < xs.length → J.go i H
  stop : ∀ F Ω H, Sx F → Holds F Ω H → Ω[k]? = some o → J.stop xs.length H
  yld : ∀ (i : Nat) a F Ω H x H', Sx F → Holds F Ω H → Ω[k]? = some o → xs[i]? = some a → J.yld i H x H' → ∃ F', Same F F' ∧ Holds F' Ω H' ∧ (A a).P F' x
def XI2 (k : Nat) (o : OA) {α : Type} (wi : TI) (Γ : List (Option VA)) (Ω : List OA) (xs : List α) (A : α → VA) (Ω2 : List OA) : Prop :=
  ∀ F σ H, Env F σ Γ → Holds F Ω H → ∀ R : It → Hp → Prop, (∀ F' J H' Sx, Same F F' → Holds F' Ω2 H' → Wk2 k o J Sx xs A → Sx F' → R J H') → wi σ H R
end
end VL

set_option Elab.async false
set_option linter.all false
set_option maxRecDepth 100000
/-! the parts of a pair with a list that changes -/
namespace VL
open PySem L2
section
variable {T : TC} {Γ : List (Option VA)} {Ω Ω1 Ω2 : List OA} {B : VA} {te : TE} {p : Addr}
end
end VL

set_option Elab.async false
set_option linter.all false
set_option maxRecDepth 100000
/-! an own __eq__ beside a number or a list; is, of truths; a new list of a tuple; a new machine handed over at once -/
namespace VL
open PySem L2 PyProof.Rows
/-- neither an int nor a list comes ahead of the class at C, nor is one of it -/
def otherB (K : PySem.W.Frag) (C : Addr) : Bool := PySem.W.notFirst K C (.type "int") && (PySem.W.notFirst K C (.type "list") && (decide (PySem.W.kitOne K (.type "int") (.ref C) = some false) && decide (PySem.W.kitOne K (.type "list") (.ref C) = some false)))
/-- an int or a list -/
def IsO (H : Hp) (y : V) : Prop := (∃ i, y = .int i) ∨ ∃ b vs, y = .ref b ∧ H b = some (.lst vs)
def rOwnX (K : PySem.W.Frag) (C : Addr) (sp : Sp) : R2 := fun x y H Q => ∃ a dx fs, x = .ref a ∧ H a = some (.ins C dx fs) ∧ IsO H y ∧ sp [x, y] H (fun v H' => v = .bl false ∧ Q (.bl false) H') E0
section
variable {X : Cx} {n : Nat} {C f : Addr} {fd : FuncData} {ps : List Str} {sp : Sp}
structure CalEqX (P : Program) (w : World) (K : PySem.W.Frag) (mg : Str → Option Value) (base : Heap) (n : Nat) (C : Addr) (sp : Sp) : Prop where
  ex : ∃ f fd, FnOk P w K mg base CX0 n f fd ["self", "other"] sp ∧ otherB K C = true ∧ Meth K C "__eq__" f ∧ Binds K fd ["self", "other"] []
end
/-- what __eq__ tells of a number beside an int or a list -/
def PreX (T : TC) : PreT := fun As Ω R => ∃ (x0 : Bg) (A : VA), As = [va T x0, A] ∧ (∀ F H v, Holds F Ω H → A.P F v → IsO H v) ∧ R = RV (va T false) (stt Ω [] [])
section
variable {T : TC} {Γ : List (Option VA)} {Ω Ω0 Ω1 Ω2 : List OA} {A B : VA} {ta tb te : TE} {x : Bg} {b c : Bool}
def rIsB : R2 := fun x y H Q => ∃ a b, x = .bl a ∧ y = .bl b ∧ Q (.bl (decide (a = b))) H
end
end VL

set_option Elab.async false
set_option linter.all false
set_option maxRecDepth 100000
/-! VL18: a name that holds one of several defs; and/or whose second part changes things. -/
namespace VL
open PySem L2
/-- one of several defs, by its number -/
structure FT where
  i : Nat
instance : Rp FT := ⟨fun T _ v a => v = .ref (T.C (200 + a.i)), fun _ h => h⟩
structure HeldF (P : Program) (w : World) (K : PySem.W.Frag) (mg : Str → Option Value) (base : Heap) (k : Nat) (f : Addr) (sp : Sp) : Prop where
  ex : ∃ (fd : FuncData) (ps : List Str), FnOk P w K mg base CX0 k f fd ps sp ∧ PySem.W.keepIn K (.ref f) = true ∧ Binds K fd ps []
structure HeldFK (P : Program) (w : World) (K : PySem.W.Frag) (mg : Str → Option Value) (base : Heap) (k : Nat) (f : Addr) (n : Nat) (ks : List Str) (ix : List Nat) (sp : Sp) : Prop where
  ex : ∃ (fd : FuncData) (ps : List Str), FnOk P w K mg base CX0 k f fd ps sp ∧ PySem.W.keepIn K (.ref f) = true ∧ KBn K fd ps n ks (fun us ws => prm ix (us ++ ws)) (fun vs zs => prm ix (vs ++ zs))
def tCallFn (i : Nat) (S : Addr → Sp → Prop) (t : TA) : TE := fun σ H Q => ∃ f sp, σ[i]? = some (some (.ref f)) ∧ S f sp ∧ t σ H fun vs H1 => sp (vs ++ []) H1 Q E0
def tCallFnN (i : Nat) (S : Addr → Sp → Prop) (n m : Nat) (g : List V → List V → List V) (t tk : TA) : TE := fun σ H Q => ∃ f sp, σ[i]? = some (some (.ref f)) ∧ S f sp ∧ tCallN n m sp g E0 t tk σ H Q
section
variable {X : Cx} {k i n : Nat} {S : Addr → Sp → Prop} {x : Str} {ks : List Str} {ix : List Nat} {p pos : Pos} {e : Expr} {es : List Expr} {kws : List Keyword} {t tk : TA}
end
section
variable {T : TC} {Γ : List (Option VA)} {Ω Ω1 Ω2 Ω3 : List OA} {A : VA} {As Ks : List VA} {a : FT} {i : Nat} {S : Addr → Sp → Prop}
end
end VL

set_option Elab.async false
set_option linter.all false
set_option maxRecDepth 100000
set_option maxHeartbeats 2000000
/-! VL19: a lambda without parameters handed to a def that calls it: what it makes of the caller's machine. -/
namespace VL
open PySem PySem.Spec PyProof.Rows L2 LamX
/-- the table at P in t: its code objects stand in F -/
def TabF (F t : Hp) (P : Addr) (q : Str) : Prop := ∃ ps : Array Value, t P = some (.tbl ps) ∧ TriplesOk ps.toList ∧ ∀ (pos : Pos) (cv : Value), codeAmong pos ps.toList = some cv → ∃ c, cv = .ref c ∧ F c = some (CodeO c q)
theorem TabF.mono {F F' t : Hp} {P : Addr} {q : Str} (e : Same F F') : TabF F t P q → TabF F' t P q := fun ⟨ps, h1, h2, h3⟩ => ⟨ps, h1, h2, fun pos cv h => let ⟨c, a, b⟩ := h3 pos cv h; ⟨c, a, e _ _ b⟩⟩
/-- all the tables of a law -/
def tabA (l : List (Addr × Str)) : OA := ⟨fun F t => ∀ p ∈ l, TabF F t p.1 p.2, fun e h p hp => (h p hp).mono e⟩
/-- the table's part of the heap behind a lambda's making: H as it was, or a new code object at c' -/
def Grown (H : Hp) (P : Addr) (q : Str) (H1 : Hp) (c' : Addr) : Prop :=
  (H1 = H ∧ ∃ (ps : Array Value) (pos : Pos), H P = some (.tbl ps) ∧ codeAmong pos ps.toList = some (.ref c')) ∨
  ∃ (ps more : Array Value), H P = some (.tbl ps) ∧ H c' = none ∧ H1 = upd (upd H P (.tbl (ps ++ more))) c' (CodeO c' q) ∧ (TriplesOk ps.toList → TriplesOk (ps ++ more).toList) ∧
    ∀ (pos : Pos) (cv : Value), TriplesOk ps.toList → codeAmong pos (ps ++ more).toList = some cv → codeAmong pos ps.toList = some cv ∨ cv = .ref c'
section
variable {X : Cx} {pins : List (Addr × Obj)} {σ : L2.St} {H : Hp} {s : Shared}
end
/-! ### a def that is handed a lambda -/
/-- what its name makes: act -/
def tAct (i : Nat) (f c' : Addr) (q : Str) (act : Hp → VK → Prop) : TE := fun σ H Q => σ[i]? = some (some (.ref f)) ∧ H c' = some (CodeO c' q) ∧ act H Q
/-- in each def's context that is entered at s: a call of the name that holds the lambda -/
def ActH (P : Program) (w : World) (K : PySem.W.Frag) (mg : Str → Option Value) (base : Heap) (k : Nat) (A : Around) (outer : List PySem.Env) (s : Shared) (H : Hp) (f c' : Addr) (q : Str) (act : Hp → VK → Prop) : Prop :=
  ∀ (Ng : List Str) (qg : Str) (sg : Scope) (g : Addr) (cdg : Value) (i : Nat) (a : Str) (p1 p2 : Pos), Room (k + 1) (A.deeper (envOfC qg sg s.heap.objs.size g cdg)) → Ng[i]? = some a → Vis sg a → (a == ("__debug__" : Str)) = false → (a == ("__classdict__" : Str)) = false →
    PE (cxOf CX0 P w K mg base Ng qg sg g cdg A outer s H E0).nox (.Call (.Name a p1) [] [] p2) (tAct i f c' q act)
abbrev PreLT := Addr → Addr → Str → (Hp → VK → Prop) → PreT
/-- that def: k, its depth; kl, that of the lambda's body -/
structure CalL (P : Program) (w : World) (K : PySem.W.Frag) (mg : Str → Option Value) (base : Heap) (kl k : Nat) (x : Str) (ps : List Str) (Pre : PreLT) : Prop where
  ex : ∃ g fd, mg x = some (.ref g) ∧ PySem.W.keepIn K (.ref g) = true ∧ Binds K fd ps [] ∧ (∀ f c' q act As Ω R, Pre f c' q act As Ω R → As.length = ps.length) ∧
    ∀ (A : Around) (outer : List PySem.Env) (s : Shared) (H : Hp) (us : List Value) (vs : List V) (Q : VK) (f c' : Addr) (q : Str) (act : Hp → VK → Prop), Room k A → Env0 P w K mg base A outer s H → BindsTo s fd ⟨us, []⟩ (ps.zip us) → Vals vs us →
      ActH P w K mg base kl A outer s H f c' q act → mkSp (Pre f c' q act) vs H Q E0 → codeAny (model P w) A (.call (.ref g) ⟨us, []⟩) (CR CX0 outer P w H s Q E0) s
section
variable {P : Program} {w : World} {K : PySem.W.Frag} {mg : Str → Option Value} {base : Heap}
end
/-! ### x(e, lambda: body) -/
def tLam (P : Addr) (q : Str) (Pre : PreLT) (ta tb : TE) : TE := fun σ H Q => ta σ H fun v H0 => (∃ ps : Array Value, H0 P = some (.tbl ps) ∧ TriplesOk ps.toList ∧ ∀ (pos : Pos) (cv : Value), codeAmong pos ps.toList = some cv → ∃ c, cv = .ref c ∧ H0 c = some (CodeO c q)) ∧
  ∀ f c' H1, Grown H0 P q H1 c' → mkSp (Pre f c' q fun H' Q' => tb σ H' Q') [v, .ref f] H1 Q E0
section
variable {X : Cx}
end
/-! ### what it makes of a machine -/
/-- the name's value: the lambda f, which takes the machine at k0 from m to r.2 and tells r.1 -/
def askA (T : TC) {α : Type} [Rp α] (f c' : Addr) (q : Str) (act : Hp → VK → Prop) (Ω : List OA) (k0 : Nat) (p0 : Addr) (M : MS → Option (α × MS)) : VA :=
  ⟨fun F v => v = .ref f ∧ F c' = some (CodeO c' q) ∧ ∀ m r, M m = some r → ∀ F1 H1, Same F F1 → Holds F1 (stt Ω [(k0, machA T p0 m)] []) H1 → ∀ Q : VK, (∀ F2 v H2, Same F1 F2 → Holds F2 (stt Ω [(k0, machA T p0 r.2)] []) H2 → (va T r.1).P F2 v → Q v H2) → act H1 Q,
   fun e ⟨h1, h2, h3⟩ => ⟨h1, e _ _ h2, fun m r hm F1 H1 e1 => h3 m r hm F1 H1 (e.trans e1)⟩⟩
section
variable {T : TC} {Γ : List (Option VA)} {Ω Ω1 : List OA} {α : Type} [Rp α]
end
section
variable {T : TC} {Γ : List (Option VA)} {Ω Ω1 Ω2 : List OA} {α : Type} [Rp α]
end
/-! ### a def whose code object is known -/
def CodeIs (K : PySem.W.Frag) (g c : Addr) : Prop := ∀ (oc : Value) (od : Option Addr) (x qual : Str) (ar : Arguments) (body : List Stmt) (sc : Scope) (dV kV doc pm : Value) (an : Option Addr) (cdv ct : Value) (osl : Array (Option Value)),
  K.lookup g = some ⟨oc, od, .func (PySem.W.fnOf x qual ar body sc dV kV doc pm an cdv ct), osl⟩ → PySem.W.codeIn K cdv qual = true → cdv = .ref c
section
variable {P : Program} {w : World} {K : PySem.W.Frag} {mg : Str → Option Value} {base : Heap}
end
end VL

set_option Elab.async false
set_option linter.all false
set_option maxRecDepth 100000
/-! VL20: the script with a list behind it; divmod; tests whose parts change things. -/
namespace VL
open PySem PySem.Spec PyProof.Rows L2
def rCatS (K : PySem.W.Frag) : R2 := fun x y H Q => ∃ l b xs zs, x = .ref l ∧ y = .ref b ∧ SqL K H l xs ∧ H b = some (.lst zs) ∧ xs.length + zs.length ≤ sizeLine ∧ ∀ p, H p = none → Q (.ref p) (upd H p (.lst (xs ++ zs)))
/-- divmod by what is not 0 -/
def CDivF (_ j : Int) : Prop := j ≠ 0 ∧ j.natAbs.log2 < 9000
def rDivmod : List V → Hp → VK → Prop := fun xs H Q => ∃ i j, xs = [.int i, .int j] ∧ CDivF i j ∧ ∀ p, H p = none → Q (.ref p) (upd H p (.tup [.int (i.fdiv j), .int (i.fmod j)]))
section
variable {T : TC} {ts : TA} {Γ : List (Option VA)} {Ω Ω1 Ω2 : List OA} {A : VA} {ta tb : TE} {t u : TT} {i j : Int} {b : Bool}
end
end VL

set_option Elab.async false
set_option linter.all false
set_option maxRecDepth 100000
/-! VL21: == and != of tuples whose items are numbers by their own __eq__, frozen dicts and data. -/
namespace VNe
open PySem PySem.SeqAt
end VNe
namespace VL
open PySem L2 PyProof.Rows
/-- pair by pair: equal dicts, equal data, or the own __eq__ says yes -/
def WT (K : PySem.W.Frag) (C : Addr) (sp : Sp) : List (V × V) → Hp → (Hp → Prop) → Prop
  | [], H, Q => Q H
  | z :: r, H, Q => (FD H z.1 z.2 ∧ WT K C sp r H Q) ∨ (FS K H z.1 z.2 ∧ WT K C sp r H Q) ∨
    ∃ p q dx dy fs gs, z.1 = .ref p ∧ z.2 = .ref q ∧ H p = some (.ins C dx fs) ∧ H q = some (.ins C dy gs) ∧ (p = q → WT K C sp r H Q) ∧ (p ≠ q → sp [z.1, z.2] H (fun v H' => v = .bl true ∧ WT K C sp r H' Q) E0)
def rOwnT (K : PySem.W.Frag) (C : Addr) (sp : Sp) (b : Bool) : R2 := fun x y H Q => ∃ a c xs ys, x = .ref a ∧ y = .ref c ∧ SqT K H a xs ∧ SqT K H c ys ∧ xs.length = ys.length ∧ WT K C sp (xs.zip ys) H (fun H' => Q (.bl b) H')
section
variable {X : Cx} {n : Nat} {C f : Addr} {fd : FuncData} {ps : List Str} {sp : Sp}
/-- what the walk keeps -/
def TI (X : Cx) (pins : List (Addr × Obj)) (σ : L2.St) (C : Addr) (sp : Sp) (Q : Hp → Prop) (zs : List (Value × Value)) (s : Shared) : Prop :=
  ∃ H, Inv X pins σ H s ∧ ∃ us : List (V × V), us.length = zs.length ∧ (∀ i (h : i < us.length) (h2 : i < zs.length), RelV us[i].1 zs[i].1 ∧ RelV us[i].2 zs[i].2) ∧ WT X.K C sp us H Q
end
section
variable {T : TC} {Γ : List (Option VA)} {Ω Ω1 Ω2 : List OA} {ta tb : TE} {Pre : PreT}
/-- two items that compare alike -/
def ItE (T : TC) (Ω : List OA) (sp : Sp) (A B : VA) : Prop := ∀ F H x y r k, Holds F Ω H → A.P F x → B.P F y → (∀ F' H', Same F F' → Holds F' Ω H' → WT T.K (T.C 1) sp r H' k) → WT T.K (T.C 1) sp ((x, y) :: r) H k
end
end VL

set_option Elab.async false
set_option linter.all false
set_option maxRecDepth 100000
/-! VL22: a dict that changes: made, written, read, locked where it is read as a value. -/
namespace VL
open PySem L2 PyProof.Rows
/-- a dict that is locked from now on, at its old place -/
def fzDA (p : Addr) (l : List (Str × Int)) : OA := ⟨fun F _ => ∃ od, F p = some (.frz od (.dK (dkv l))), fun e ⟨od, h⟩ => ⟨od, e _ _ h⟩⟩
/-- written in its place, or at the end -/
def dput (l : List (Str × Int)) (k : Str) (v : Int) : List (Str × Int) := if (l.any fun p => decide (p.1 = k)) = true then l.map (fun p => if p.1 = k then (p.1, v) else p) else l ++ [(k, v)]
section
variable {T : TC} {Γ : List (Option VA)} {Ω Ω1 Ω2 Ω3 : List OA} {A B C : VA} {ta tb te : TE} {D : Ends} {F0 : Hp} {ts : TS}
/-! written -/
/-- a target that writes a thing -/
def Tgo (g : TG) (A : VA) (Γ : List (Option VA)) (Ω Ω2 : List OA) : Prop := ∀ F σ v H, Env F σ Γ → Holds F Ω H → A.P F v → ∀ Q : L2.St → Hp → Prop, (∀ F' H', Same F F' → Holds F' Ω2 H' → Q σ H') → g v σ H Q
end
/-! != of two dicts, where they are known to be alike -/
def rNeF : R2 := fun x y H Q => ∃ a b oa ob ks ls, x = .ref a ∧ y = .ref b ∧ H a = some (.frz oa (.dK ks)) ∧ H b = some (.frz ob (.dK ls)) ∧ ks.length = ls.length ∧ (∀ p ∈ ks, valV ls p.1 = some p.2 ∧ flatB p.2 = true) ∧ Q (.bl false) H
end VL

set_option Elab.async false
set_option linter.all false
set_option maxRecDepth 100000
/-! VL23: range downwards, one by one; isinstance and len of pairs. -/
namespace VL
open PySem L2 PyProof.Rows
section
variable {T : TC} {Γ : List (Option VA)} {Ω Ω1 Ω2 : List OA} {A B C : VA} {ta tb te : TE}
/-- i, i - 1, .. (n of them) -/
def rngD (i : Int) (n : Nat) : List Int := (List.range n).map fun (k : Nat) => i + (k : Int) * (-1)
end
end VL

set_option Elab.async false
set_option linter.all false
set_option maxRecDepth 100000
/-! VL24: a pair of a dict and a list that both change: made, handed on, its parts; get of a dict that changes. -/
namespace VL
open PySem L2 PyProof.Rows
section
variable {T : TC} {Γ : List (Option VA)} {Ω Ω1 Ω2 Ω3 : List OA} {A B C : VA} {ta tb tc te : TE} {D : Ends} {F0 : Hp} {ts : TS}
/-- dict(d): a new one, from a locked one -/
def rDictD : List V → Hp → VK → Prop := fun xs H Q => ∃ (a : Addr) (kvs : List (Key × V)), xs = [.ref a] ∧ Rd H a (.dK kvs) ∧ ∀ p, H p = none → Q (.ref p) (upd H p (.dK kvs))
end
end VL

set_option Elab.async false
set_option linter.all false
set_option maxRecDepth 100000
set_option maxHeartbeats 2000000
/-! VL25: a lambda with one parameter that has an int for its default, handed to a def that calls it without arguments. -/
namespace VL
open PySem PySem.Spec PyProof.Rows L2 LamX
structure LamSD (N : List Str) (nm : Str) (sc scope : Scope) : Prop where
  kind : scope.kind = .function
  co : scope.isCoroutine = false
  gen : scope.isGenerator = false
  own : ∀ y ∈ scope.names, y.2 ≠ .cell ∧ (y.2 = .local → y.1 ∉ N)
  free : ∀ y ∈ scope.names, y.2 = .free → sc.names.lookup y.1 = some .cell ∨ sc.names.lookup y.1 = some .free
  par : scope.names.lookup nm = some .local
def lamSDB (N : List Str) (nm : Str) (sc scope : Scope) : Bool :=
  decide (scope.kind = .function) && !scope.isCoroutine && !scope.isGenerator && (scope.names.all fun y => !decide (y.2 = .cell) && (!decide (y.2 = .local) || !decide (y.1 ∈ N)) && (!decide (y.2 = .free) || decide (sc.names.lookup y.1 = some .cell) || decide (sc.names.lookup y.1 = some .free))) && decide (scope.names.lookup nm = some .local)
theorem LamSD.has {X : Cx} {N : List Str} {nm : Str} {scope : Scope} (L : LamSD N nm X.env.scope scope) (ok : X.Ok) : ∀ y ∈ scope.names, y.2 = .free → ∃ c, X.env.cells.lookup y.1 = some c := fun y hy e => by
  rcases L.free y hy e with k | k
  · exact ok.has _ (.inl k)
  · exact ok.has _ (.inr k)
section
variable {X : Cx} {pins : List (Addr × Obj)} {σ : L2.St} {H : Hp} {s : Shared}
end
section
variable {X : Cx} {pins : List (Addr × Obj)} {σ : L2.St} {H HZ : Hp} {s s1 : Shared}
end
section
variable {X : Cx}
end
section
variable {X : Cx}
end
section
variable {T : TC} {Γ : List (Option VA)} {Ω Ω1 Ω2 : List OA} {ta tb : TE} {i j : Int}
end
end VL

set_option Elab.async false
set_option linter.all false
set_option maxRecDepth 100000
/-! VL26: the first and the last of four. -/
namespace VL
open PySem L2 PyProof.Rows
section
variable {T : TC} {Γ : List (Option VA)} {Ω Ω1 Ω2 : List OA} {te ti : TE}
end
end VL

set_option Elab.async false
set_option linter.all false
set_option maxRecDepth 100000
/-! VL27: == and != of tuples among whose items stand pairs of numbers with an own __eq__; a call with a new thing ahead of arguments that change things. -/
namespace VL
open PySem L2 PyProof.Rows
/-- pair by pair, as WT, or two tuples within -/
def WT2 (K : PySem.W.Frag) (C : Addr) (sp : Sp) : List (V × V) → Hp → (Hp → Prop) → Prop
  | [], H, Q => Q H
  | z :: r, H, Q => WT K C sp [z] H (fun H' => WT2 K C sp r H' Q) ∨
    ∃ p q xs ys, z.1 = .ref p ∧ z.2 = .ref q ∧ SqT K H p xs ∧ SqT K H q ys ∧ xs.length = ys.length ∧ (p = q → WT2 K C sp r H Q) ∧ (p ≠ q → WT K C sp (xs.zip ys) H (fun H' => WT2 K C sp r H' Q))
def rOwnT2 (K : PySem.W.Frag) (C : Addr) (sp : Sp) (b : Bool) : R2 := fun x y H Q => ∃ a c xs ys, x = .ref a ∧ y = .ref c ∧ SqT K H a xs ∧ SqT K H c ys ∧ xs.length = ys.length ∧ WT2 K C sp (xs.zip ys) H (fun H' => Q (.bl b) H')
section
variable {X : Cx} {n : Nat} {C f : Addr} {fd : FuncData} {ps : List Str} {sp : Sp}
def TI2 (X : Cx) (pins : List (Addr × Obj)) (σ : L2.St) (C : Addr) (sp : Sp) (Q : Hp → Prop) (zs : List (Value × Value)) (s : Shared) : Prop :=
  ∃ H, Inv X pins σ H s ∧ ∃ us : List (V × V), us.length = zs.length ∧ (∀ i (h : i < us.length) (h2 : i < zs.length), RelV us[i].1 zs[i].1 ∧ RelV us[i].2 zs[i].2) ∧ WT2 X.K C sp us H Q
end
section
variable {T : TC} {Γ : List (Option VA)} {Ω Ω1 Ω2 : List OA} {ta tb : TE} {Pre : PreT}
def ItE2 (T : TC) (Ω : List OA) (sp : Sp) (A B : VA) : Prop := ∀ F H x y r k, Holds F Ω H → A.P F x → B.P F y → (∀ F' H', Same F F' → Holds F' Ω H' → WT2 T.K (T.C 1) sp r H' k) → WT2 T.K (T.C 1) sp ((x, y) :: r) H k
end
end VL

set_option Elab.async false
set_option linter.all false
set_option maxRecDepth 100000
/-! VL28: a pair of a new list and a value out of one of several defs; such a pair handed on at once; a new list and two values in one assignment. -/
namespace VL
open PySem L2 PyProof.Rows
section
variable {T : TC} {Γ : List (Option VA)} {Ω Ω0 Ω1 Ω2 Ω3 : List OA} {A B C : VA} {As Ks : List VA} {a : FT} {i : Nat} {S : Addr → Sp → Prop} {ta tb te : TE} {D : Ends} {F0 : Hp} {ts : TS}
/-- arguments, among them a pair of a new list at p -/
def XAN (t : TA) (Γ : List (Option VA)) (Ω : List OA) (As : Addr → List VA) (Ω2 : Addr → List OA) : Prop :=
  ∀ F σ H, Env F σ Γ → Holds F Ω H → ∀ Q : List V → Hp → Prop, (∀ F' vs H' p, Same F F' → Holds F' (Ω2 p) H' → AlA F' vs (As p) → Q vs H') → t σ H Q
end
end VL

set_option Elab.async false
set_option linter.all false
set_option maxRecDepth 100000
/-! VL29: == and != of machines, with a new one, with a tuple; a machine made by keywords; in of a dict that changes; new lists told by a machine; a method of a new machine. -/
namespace VL
open PySem L2 PyProof.Rows
section
variable {T : TC} {Γ : List (Option VA)} {Ω Ω0 Ω1 Ω2 Ω3 : List OA} {A B C : VA} {As Ks : List VA} {ta tb te : TE} {D : Ends} {F0 : Hp} {ts : TS} {p p2 : Addr} {k k2 : Nat} {x y s : MS} {r : Bool}
end
/-! ### machine == a tuple -/
def otherT (K : PySem.W.Frag) (C : Addr) : Bool := PySem.W.notFirst K C (.type "tuple") && decide (PySem.W.kitOne K (.type "tuple") (.ref C) = some false)
def rOwnXT (K : PySem.W.Frag) (C : Addr) (sp : Sp) : R2 := fun x y H Q => ∃ a dx fs b xs, x = .ref a ∧ H a = some (.ins C dx fs) ∧ y = .ref b ∧ SqT K H b xs ∧ sp [x, y] H (fun v H' => v = .bl false ∧ Q (.bl false) H') E0
section
variable {X : Cx} {n : Nat} {C f : Addr} {fd : FuncData} {ps : List Str} {sp : Sp}
structure CalEqT (P : Program) (w : World) (K : PySem.W.Frag) (mg : Str → Option Value) (base : Heap) (n : Nat) (C : Addr) (sp : Sp) : Prop where
  ex : ∃ f fd, FnOk P w K mg base CX0 n f fd ["self", "other"] sp ∧ otherT K C = true ∧ Meth K C "__eq__" f ∧ Binds K fd ["self", "other"] []
end
/-- what __eq__ of a machine tells beside a tuple -/
def PreXT (T : TC) : PreT := fun As Ω R => ∃ (k0 : Nat) (p0 : Addr) (x0 : MS) (A : VA), As = [vr p0, A] ∧ Ω[k0]? = some (machA T p0 x0) ∧ (∀ F H v, Holds F Ω H → A.P F v → ∃ b xs, v = .ref b ∧ SqT T.K H b xs) ∧ R = RV (va T false) (stt Ω [] [])
section
variable {T : TC} {Γ : List (Option VA)} {Ω Ω0 Ω1 Ω2 Ω3 : List OA} {A B C : VA} {As Ks : List VA} {ta tb te : TE} {p : Addr} {k : Nat} {x s : MS} {r : Bool}
def rNoN : R2 := fun x y H Q => y = .non ∧ Q (.bl (!decide (x = .non))) H
/-! ### new lists that a machine tells -/
def Pre_Mach_tallyN (T : TC) : PreT := fun As Ω R => ∃ (k : Nat) (p : Addr) (s : MS), As = [vr p] ∧ Ω[k]? = some (machA T p s) ∧ R = RN Ω (fun q => lstA T q s.tally)
def Pre_Mach_walkN (T : TC) : PreT := fun As Ω R => ∃ (k : Nat) (p : Addr) (s : MS), As = [vr p] ∧ Ω[k]? = some (machA T p s) ∧ R = RN Ω (fun q => lstA T q s.wk)
structure CalCK (P : Program) (w : World) (K : PySem.W.Frag) (mg : Str → Option Value) (base : Heap) (k : Nat) (x : Str) (C : Addr) (ps ks : List Str) (ix : List Nat) (sp : Sp) : Prop where
  ex : ∃ f fd g, FnOk P w K mg base CX0 k f fd ps sp ∧ mg x = some (.ref C) ∧ Mk K C f ∧ KBn K fd ps 1 ks g (fun vs zs => prm ix (vs ++ zs))
end
end VL

set_option Elab.async false
set_option linter.all false
set_option maxRecDepth 100000
/-! VL30: a dict with three numbers, a dict and a list that change (a law's own tally and walk): made, its parts; ways that are never taken; ranges by a step; max of a list. -/
namespace VL
open PySem L2 PyProof.Rows
def wkv (b c B : Int) (d e : Addr) : List (Key × V) := [(Sum.inr ("bits" : Str), .int b), (Sum.inr ("cutoff" : Str), .int c), (Sum.inr ("base" : Str), .int B), (Sum.inr ("counts" : Str), .ref d), (Sum.inr ("walk" : Str), .ref e)]
section
variable {b c B : Int} {d e : Addr}
end
section
variable {T : TC} {Γ : List (Option VA)} {Ω Ω0 Ω1 Ω2 Ω3 : List OA} {A B' C : VA} {ta tb te : TE} {D : Ends} {F0 : Hp} {ts : TS} {b c B : Int} {p : Addr} {k : Nat}
/-- such a dict, new -/
def RNW (T : TC) (Ω2 : List OA) (b c B : Int) : Hp → V → List OA → Prop := fun _ v Ω' => ∃ p d e, v = .ref p ∧ Ω' = Ω2 ++ [rawD p (wkv b c B d e), rawD d (dkv []), lstA T e ([] : List (T3 Str Int Int))]
/-! ### is None -/
def rIsNo : R2 := fun x y H Q => y = .non ∧ Q (.bl (decide (x = .non))) H
def tNo : TE := fun _ _ _ => False
/-! ### max of a list -/
def maxL : List Int → Int
  | [] => 0
  | [a] => a
  | a :: r => max a (maxL r)
end
end VL
namespace VL
open PySem L2 PyProof.Rows
/-! ### range(0, j, c) -/
def rngS (c : Int) (n : Nat) : List Int := (List.range n).map fun (k : Nat) => 0 + (k : Int) * c
def CRg (j c : Int) : Prop := 0 < c ∧ c < 2 ^ 30 ∧ 0 ≤ j ∧ j < 2 ^ 30
section
variable {T : TC} {Γ : List (Option VA)} {Ω Ω1 Ω2 : List OA} {B' : VA} {As : List VA}
end
end VL

set_option Elab.async false
set_option linter.all false
set_option maxRecDepth 100000
/-! VL31: reversed(range(n)). -/
namespace VL
open PySem L2 PyProof.Rows
section
variable {T : TC} {Γ : List (Option VA)} {Ω Ω1 Ω2 : List OA} {A B C : VA} {ta tb te : TE}
end
end VL

set_option Elab.async false
set_option linter.all false
set_option maxRecDepth 100000
/-! VL32: defs with defaults and keyword-only parameters. -/
namespace VL
open PySem L2
open PyProof.Rows (envOfC)
section
variable {P : Program} {w : World} {K : PySem.W.Frag} {mg : Str → Option Value} {base : Heap}
theorem fn_okK {x qual : Str} {params : Arguments} {body : List Stmt} {scope : Scope} {dvs : List V} {kws : List (Str × V)} {f : Addr} {fd : FuncData} {N ps : List Str} {k : Nat} {Pre : PreT} (F : FunD K x qual params body scope dvs kws f fd) (S : FnScope N ps scope) (hl : ∀ As Ω R, Pre As Ω R → As.length = ps.length)
    (hb : ∀ (cdv : Value) (A : Around) (outer : List PySem.Env) (s : Shared) (H : Hp) (E : XK), Room k (A.deeper (envOfC qual scope s.heap.objs.size f cdv)) → ∀ As Ω R F0, Pre As Ω R →
      Bod (cxOf CX0 P w K mg base N qual scope f cdv A outer s H E).nox body (As.map some ++ List.replicate (N.length - As.length) none) Ω F0 R) : FnOk P w K mg base CX0 (k + 1) f fd ps (mkSp Pre) := by
  refine F.ok S (fun vs H Q E h => ?_) (fun cdv A outer s H vs Q E hr h => ?_)
  · obtain ⟨F, Ω, As, R, hp, ha, _⟩ := h
    rw [ha.len]; exact hl _ _ _ hp
  · obtain ⟨F0, Ω, As, R, hp, ha, hh, hq⟩ := h
    obtain ⟨t, h1, h2⟩ := hb cdv A outer s H E hr As Ω R F0 hp
    exact ⟨t, h1.nox, h2 _ (fun F v H Ω' e hh r => hq F v H Ω' e hh r) (fun F σ H Ω' e hh r => hq F .non H Ω' e hh r) _ _ ⟨F0, Same.refl F0, start_env ha, hh⟩⟩
/-- a def that may be called, what is not written filled up -/
structure CalD (P : Program) (w : World) (K : PySem.W.Frag) (mg : Str → Option Value) (base : Heap) (k : Nat) (x : Str) (ps : List Str) (dvs : List V) (sp : Sp) : Prop where
  ex : ∃ f fd ds, FnOk P w K mg base CX0 k f fd ps sp ∧ mg x = some (.ref f) ∧ PySem.W.keepIn K (.ref f) = true ∧ Vals dvs ds ∧ Binds K fd ps ds
structure CalKD (P : Program) (w : World) (K : PySem.W.Frag) (mg : Str → Option Value) (base : Heap) (k : Nat) (x : Str) (ps : List Str) (n : Nat) (ks : List Str) (dvs : List V) (ix : List Nat) (sp : Sp) : Prop where
  ex : ∃ f fd g, FnOk P w K mg base CX0 k f fd ps sp ∧ mg x = some (.ref f) ∧ PySem.W.keepIn K (.ref f) = true ∧ KBn K fd ps n ks g (fun vs zs => prm ix (vs ++ (dvs ++ zs)))
end
section
variable {X : Cx} {k n : Nat} {x : Str} {ps ks : List Str} {dvs : List V} {ix : List Nat} {sp : Sp} {p pos : Pos} {e : Expr} {es : List Expr} {kws : List Keyword} {t tk : TA}
theorem pe_calD (C : CalD X.prog X.w X.K X.mg X.base k x ps dvs sp) (hr : Room k X.A) (hg : Gl X x) (ha : PA X (e :: es) t)
    (hdb : (x == ("__debug__" : Str)) = false := by decide) (he : starEach (e :: es) X.env = (false, eval e X.env) :: starEach es X.env := by rfl) (hpl : (backTo pos (starEach es X.env)).any (·.1) = false := by rfl) :
    PE X (.Call (.Name x p) (e :: es) [] pos) (tCall sp dvs E0 t) := by
  obtain ⟨f, fd, ds, F, hm, hk, hv, hb⟩ := C.ex
  exact pe_call F hr hg hm hk hb hv pass0 ha hdb he hpl
theorem pe_calKD (c : CalKD X.prog X.w X.K X.mg X.base k x ps n ks dvs ix sp) (hr : Room k X.A) (hg : Gl X x)
    (ha : PA X (e :: es) t) (hkw : PK X kws tk) (hall : (backToKw pos (keywordEach kws X.env)).all (·.1.isSome) = true := by rfl) (hks : (backToKw pos (keywordEach kws X.env)).filterMap (·.1) = ks := by rfl)
    (hdb : (x == ("__debug__" : Str)) = false := by decide) (he : starEach (e :: es) X.env = (false, eval e X.env) :: starEach es X.env := by rfl)
    (hpl : ((backTo pos (starEach (e :: es) X.env)).any (·.1) || (backToKw pos (keywordEach kws X.env)).any (·.1.isNone)) = false := by rfl) :
    PE X (.Call (.Name x p) (e :: es) kws pos) (tCallN n ks.length sp (fun vs zs => prm ix (vs ++ (dvs ++ zs))) E0 t tk) := by
  obtain ⟨f, fd, g, F, hm, hk, hb⟩ := c.ex
  exact pe_callN F hr hg hm hk hb pass0 ha hkw hall hks hdb he hpl
theorem pe_calKD0 (c : CalKD X.prog X.w X.K X.mg X.base k x ps 0 ks dvs ix sp) (hr : Room k X.A) (hg : Gl X x)
    (hkw : PK X kws tk) (hall : (backToKw pos (keywordEach kws X.env)).all (·.1.isSome) = true := by rfl) (hks : (backToKw pos (keywordEach kws X.env)).filterMap (·.1) = ks := by rfl)
    (hdb : (x == ("__debug__" : Str)) = false := by decide)
    (hpl : ((backTo pos (starEach [] X.env)).any (·.1) || (backToKw pos (keywordEach kws X.env)).any (·.1.isNone)) = false := by rfl) :
    PE X (.Call (.Name x p) [] kws pos) (tCallN 0 ks.length sp (fun vs zs => prm ix (vs ++ (dvs ++ zs))) E0 tNil tk) := by
  obtain ⟨f, fd, g, F, hm, hk, hb⟩ := c.ex
  refine ⟨fun pins s σ H Q I h => ?_⟩
  refine PySem.wpAny_Call_Name_kw (ld_glob I hg hm ?_ hdb)
  refine PySem.W.callWith_KW0 (h₀ := X.base) I.ok.mod.kin hk hall ?_ hpl
  refine L2.thn (hkw.run pos pins s σ H _ I h) fun ws s2 ⟨zs, H2, I2, rz, l1, l2, q2⟩ => ⟨I2.kIn, ?_⟩
  rw [hks]
  exact run_fnN (us := []) (vs := []) F hr hb pass0 I2 .nil rz l1 l2 q2
end
section
variable {T : TC} {Γ : List (Option VA)} {Ω Ω1 Ω2 Ω3 : List OA} {A : VA} {As Ks Ds : List VA} {dvs : List V}
theorem xe_callD {Pre : PreT} {E : XK} {t : TA} {Ω' : List OA} (ha : XA t Γ Ω As Ω1) (hd : ∀ F, AlA F dvs Ds) (hp : Pre (As ++ Ds) Ω1 (RV A Ω')) (he : Ω' = Ω2) : XE (tCall (mkSp Pre) dvs E t) Γ Ω A Ω2 := he ▸ xg_callD ha hd hp
theorem xg_callND {Pre : PreT} {E : XK} {t tk : TA} {ix : List Nat} {n m : Nat} {R : Hp → V → List OA → Prop} (ha : XA t Γ Ω As Ω1) (hk : XA tk Γ Ω1 Ks Ω2) (hd : ∀ F, AlA F dvs Ds) (hp : Pre (prm ix (As ++ (Ds ++ Ks))) Ω2 R) (h1 : As.length = n := by rfl) (h2 : Ks.length = m := by rfl) :
    XG (tCallN n m (mkSp Pre) (fun vs zs => prm ix (vs ++ (dvs ++ zs))) E t tk) Γ Ω R := fun F σ H e hh Q q => by
  refine ha F σ H e hh _ fun F1 xs H1 e1 hh1 a1 => ?_
  refine hk F1 σ H1 (e.mono e1) hh1 _ fun F2 zs H2 e2 hh2 a2 => ?_
  refine ⟨a1.len.trans h1, a2.len.trans h2, F2, Ω2, _, _, hp, prm_relA ix ((a1.mono e2).app ((hd F2).app a2)), hh2, fun F' v H' Ω4 e' hh' r => q F' v H' Ω4 ((e1.trans e2).trans e') hh' r⟩
theorem xe_callND {Pre : PreT} {E : XK} {t tk : TA} {ix : List Nat} {n m : Nat} {Ω' : List OA} (ha : XA t Γ Ω As Ω1) (hk : XA tk Γ Ω1 Ks Ω2) (hd : ∀ F, AlA F dvs Ds) (hp : Pre (prm ix (As ++ (Ds ++ Ks))) Ω2 (RV A Ω')) (he : Ω' = Ω3) (h1 : As.length = n := by rfl) (h2 : Ks.length = m := by rfl) :
    XE (tCallN n m (mkSp Pre) (fun vs zs => prm ix (vs ++ (dvs ++ zs))) E t tk) Γ Ω A Ω3 := he ▸ xg_callND ha hk hd hp h1 h2
end
end VL

set_option Elab.async false
set_option linter.all false
set_option maxRecDepth 100000
/-! VL33: a list of two new machines. -/
namespace VL
open PySem L2
def rawLA (d : Addr) (vs : List V) : OA := ⟨fun _ t => t d = some (.lst vs), fun _ h => h⟩
/-- hands back a list of two new machines -/
abbrev RMM (T : TC) (Ω2 : List OA) (s1 s2 : MS) : Hp → V → List OA → Prop := fun F v Ω' => ∃ p q1 q2, v = .ref p ∧ F p = some (.lst [.ref q1, .ref q2]) ∧ Ω' = Ω2 ++ [machA T q1 s1, machA T q2 s2]
section
variable {T : TC} {Γ : List (Option VA)} {Ω Ω0 Ω1 Ω2 : List OA} {As : List VA} {ta tb te : TE}
variable {F0 : Hp}
end
end VL

set_option Elab.async false
set_option linter.all false
set_option maxRecDepth 100000
/-! VL34: count of a text in a list of texts. -/
namespace VL
open PySem L2
/-- how often -/
def cntStr (k : Str) (l : List Str) : Nat := l.countP (· == k)
def rCntS (K : PySem.W.Frag) : V → List V → Hp → VK → Prop := fun x xs H Q => ∃ (p : Addr) (l : List Str) (k : Str), x = .ref p ∧ xs = [.str k] ∧ SqL K H p (l.map V.str) ∧ Q (.int (cntStr k l : Nat)) H
theorem al_str {T : TC} {F : Hp} : ∀ {vs : List V} {l : List Str}, Al T F vs l → vs = l.map V.str
  | _, _, .nil => rfl
  | _, _, .cons h t => by rw [List.map_cons, ← al_str t, show _ = V.str _ from h]
section
variable {T : TC} {Ω Ω1 Ω2 : List OA}
end
end VL

set_option Elab.async false
set_option linter.all false
set_option maxRecDepth 100000
set_option maxHeartbeats 1000000
/-! VL35: list(reversed(l)) of a list. -/
namespace VLR
open PySem PySem.Spec PyProof.Rows RT
section
variable {prog : Program} {w : World} {A : Around} {E : Value → Shared → Prop} {s : Shared}
/-- a new, empty list takes all that a walk from a list's end gives -/
theorem take_rev {R : Result → Shared → Prop} {it l S : Addr} {items : Array Value} {c₀ : Nat} (hh : A.handled = none) (hit : s.heap.IsRevIter it l ((items.size : Int) - 1)) (hl : s.heap.IsList l items) (hne : l ≠ it) (hn : items.size ≤ sizeLine)
    (eS : s.heap.get? S = some { cls := .type "list", data := .seq #[] c₀ }) (nl : S ≠ l) (ni : S ≠ it)
    (hR : ∀ (h' : Heap) (tk : Nat) (acc : Array Value) (c : Nat), (∀ b o, b ≠ S → b ≠ it → s.heap.get? b = some o → h'.get? b = some o) → h'.get? S = some { cls := .type "list", dict := none, data := .seq acc c, slots := #[] } →
      ItemsOf (fun i v => items[items.size - 1 - i]? = some v) acc items.size → R (.ok (.ret .none)) { s with heap := h', toks := tk }) :
    wpAny (model prog w) A.in1 (Builtin.List.listExtendWith (.ref S) (.ref it) .none)
      (fun f s' => match f with | .done z => R (.ok z) s' | .again k => k.quiet = true ∧ codeAny (model prog w) A k R s') (fun e s' => R (.error e) s') s := by
  have W := (Walks.listRev (prog := prog) (w := w) (A := A.in1) hh it l hne items).toS
  have hSf : S ∉ [it, l] := by simp only [List.mem_cons, List.not_mem_nil, or_false, not_or]; exact ⟨ni, nl⟩
  have ty := hit.typeIs
  have same : Builtin.List.listSameRef (.ref S) (.ref it) = false := by simp [Builtin.List.listSameRef, ni]
  unfold Builtin.List.listExtendWith
  refine wpAny_bind (wpAny_typeOf ty ?_); rw [if_neg (by rw [same]; decide)]
  refine wpAny_bind (wpAny_pyIter_revIter hit ?_); refine wpAny_bind (wpAny_holding ?_); unfold Builtin.List.listLengthHint
  refine wpAny_bind (wpAny_specialOf ty nolen_lri ?_)
  show wpAny _ A.in1 (specialOf (Value.ref it) (Str.ofString "__length_hint__") >>= fun _ => _) _ _ _
  refine wpAny_bind (wpAny_specialOf ty hint_lri ?_); generalize hid : ("list_reverseiterator.__length_hint__" : String) = id1; wp_delta
  rw [show splitId id1 = some ("list_reverseiterator", "__length_hint__") from by subst hid; decide +kernel]; subst hid
  refine wpAny_bind (wpAny_isInstance (b := true) ty (by rw [isSubtype_type]; kernel_rfl) (wpAny_pure ?_)); rw [if_neg (by decide)]
  have z0 : ((items.size : Nat) : Int) - 1 - ((0 : Nat) : Int) = (items.size : Int) - 1 := by omega
  refine wpAny_pure ⟨plainId_quiet F.plain_extend_loop _, codeAny_extend_loopS W hn _ hSf _ items.size 0 _ _ _ rfl (Nat.zero_le _) ⟨Nat.zero_le _, by rw [z0]; exact hit, hl⟩ eS (ItemsOf.nil _) fun s2 acc c hm hS2 hacc => ?_⟩
  rw [Moved.eq_with hm]
  refine hR s2.heap s2.toks acc c (fun b o h1 h2 e => hm.heap b o (fun m => ?_) e) hS2 hacc
  rcases List.mem_cons.mp m with q | q
  · exact h1 q
  · exact h2 (List.mem_singleton.mp q)
theorem init_rev {R : Result → Shared → Prop} {it l S : Addr} {items : Array Value} (hh : A.handled = none) (hit : s.heap.IsRevIter it l ((items.size : Int) - 1)) (hl : s.heap.IsList l items) (hne : l ≠ it) (hn : items.size ≤ sizeLine)
    (eS : s.heap.get? S = some { cls := .type "list", data := .seq #[] }) (nl : S ≠ l) (ni : S ≠ it)
    (hR : ∀ (h' : Heap) (tk : Nat) (acc : Array Value) (c : Nat), (∀ b o, b ≠ S → b ≠ it → s.heap.get? b = some o → h'.get? b = some o) → h'.get? S = some { cls := .type "list", dict := none, data := .seq acc c, slots := #[] } →
      ItemsOf (fun i v => items[items.size - 1 - i]? = some v) acc items.size → R (.ok (.ret .none)) { s with heap := h', toks := tk }) :
    wpAny (model prog w) A.in1 (Builtin.«list.__init__» ⟨[.ref S, .ref it], []⟩)
      (fun f s' => match f with | .done z => R (.ok z) s' | .again k => k.quiet = true ∧ codeAny (model prog w) A k R s') (fun e s' => R (.error e) s') s := by
  show wpAny _ _ (do let old ← Builtin.List.listItems (.ref S); Builtin.List.listUpdate (.ref S) (fun _ => #[]); letGo old.toList.reverse; Builtin.List.listExtendWith (.ref S) (.ref it) .none) _ _ s
  refine wpAny_bind ?_; unfold Builtin.List.listItems; refine wpAny_bind (wpAny_seqItems eS rfl (wpAny_pure ?_))
  show wpAny _ _ (updateSeq S (fun _ => #[]) >>= fun _ => letGo (#[] : Array Value).toList.reverse >>= fun _ => Builtin.List.listExtendWith (.ref S) (.ref it) .none) _ _ s
  refine wpAny_bind (wpAny_updateSeq eS rfl ?_); refine wpAny_bind (wpAny_letGo ?_)
  have other : ∀ b o, b ≠ S → s.heap.get? b = some o → (s.heap.update S (Obj.mapSeq (fun _ => (#[] : Array Value)))).get? b = some o := fun b o hb e => (Heap.get?_update_other _ _ (Ne.symm hb)).trans e
  refine take_rev hh (hit.at fun o e => other _ o (Ne.symm ni) e) (hl.at fun o e => other _ o (Ne.symm nl) e) hne hn (Heap.get?_update_self (Obj.mapSeq (fun _ => (#[] : Array Value))) eS rfl) nl ni fun h2 tk acc c hk e2 hi => ?_
  exact hR h2 tk acc c (fun b o h1 h3 e => hk b o h1 h3 (other b o h1 e)) e2 hi
theorem call_list_rev {Q : Value → Shared → Prop} {it l : Addr} {items : Array Value} (hh : A.handled = none) (hit : s.heap.IsRevIter it l ((items.size : Int) - 1)) (hl : s.heap.IsList l items) (hne : l ≠ it) (hn : items.size ≤ sizeLine)
    (hQ : ∀ (h' : Heap) (tk : Nat) (acc : Array Value) (c : Nat), (∀ b o, b ≠ it → s.heap.get? b = some o → h'.get? b = some o) → h'.get? s.heap.objs.size = some { cls := .type "list", dict := none, data := .seq acc c, slots := #[] } →
      ItemsOf (fun i v => items[items.size - 1 - i]? = some v) acc items.size → Q (.ref s.heap.objs.size) { s with heap := h', toks := tk }) :
    wpAny (model prog w) A (call (.type "list") [.ref it]) Q E s := by
  obtain ⟨oi, hoi, _⟩ := id hit
  obtain ⟨ol, hol, _⟩ := id hl
  refine callType_codes (Q₁ := fun v s2 => v = .ref s.heap.objs.size ∧ s2 = { s with heap := s.heap.push { cls := .type "list", data := .seq #[] } }) F.called_list (F.typeCall_list_1 _) F.entry_list_init (code_list_new _ ⟨rfl, rfl⟩) fun v s2 q => ?_
  obtain ⟨rfl, rfl⟩ := q
  have eS : (s.heap.push { cls := .type "list", data := .seq #[] }).get? s.heap.objs.size = some { cls := .type "list", data := .seq #[] } := Heap.get?_push_size _ rfl
  refine ⟨⟨_, eS, rfl⟩, F.args_list_init_2 _ _, init_rev (A := A.in1) hh (hit.at fun o e => Heap.get?_push_of_some _ e) (hl.push _) hne hn eS (Nat.ne_of_gt (Heap.lt_size hol)) (Nat.ne_of_gt (Heap.lt_size hoi)) fun h2 tk acc c hk e2 hi => ?_⟩
  exact ⟨rfl, hQ h2 tk acc c (fun b o hb e => hk b o (Nat.ne_of_lt (Heap.lt_size e)) hb (Heap.get?_push_of_some _ e)) e2 hi⟩
end
end VLR
namespace VL
open PySem PySem.Spec PyProof.Rows L2 _root_.RT
section
variable {X : Cx}
def tListRev (K : PySem.W.Frag) (te : TE) : TE := fun σ H Q => te σ H fun v H1 => ∃ (a : Addr) (xs : List V), v = .ref a ∧ SqL K H1 a xs ∧ ∀ q, H1 q = none → Q (.ref q) (upd H1 q (.lst xs.reverse))
theorem pe_listRev {e : Expr} {te : TE} {p p2 pos pos2 : Pos} (hc : X.calm = true) (hg : Gl X "list") (hm : X.mg "list" = none) (hg2 : Gl X "reversed") (hm2 : X.mg "reversed" = none) (he : PE X e te) (hs : starEach [e] X.env = (false, eval e X.env) :: starEach [] X.env := by rfl)
    (hs3 : starEach [.Call (.Name "reversed" p2) [e] [] pos2] X.env = (false, eval (.Call (.Name "reversed" p2) [e] [] pos2) X.env) :: starEach [] X.env := by rfl) :
    PE X (.Call (.Name "list" p) [.Call (.Name "reversed" p2) [e] [] pos2] [] pos) (tListRev X.K te) := ⟨fun pins s σ H Q I h => by
  refine Call_ (ld_blt I hg hm PyProof.Rows.boot_list (PyProof.Rows.callWith_type1 (args_cons (Call_ (ld_blt I hg2 hm2 PyProof.Rows.boot_reversed (PyProof.Rows.callWith_type1 (args_cons (thn (he.run pins s σ H _ I h) fun u s1 ⟨v, H1, I1, r1, a, xs, ev, hq, q⟩ => args_nil ?_) hs) hs rfl))) hs3) hs3 rfl))
  subst ev
  obtain rfl : u = Value.ref a := r1
  obtain ⟨its, rv, pl, hz⟩ := I1.list hq
  have hl := pl.isList
  obtain ⟨ol, hol, _⟩ := id hl
  refine call_reversed_list hl (args_nil ?_)
  have hn : its.toArray.size ≤ sizeLine := by rw [List.size_toArray, ← rv.length]; exact hz
  refine VLR.call_list_rev (s := { s1 with heap := s1.heap.push (revObj a ((its.toArray.size : Int) - 1)) }) (I1.ok.hd hc) ⟨_, Heap.get?_push_size _ rfl, rfl, rfl⟩ (hl.push _) (Nat.ne_of_lt (Heap.lt_size hol)) hn fun h2 tk acc c hk e2 hi => ?_
  have ge : s1.heap.objs.size ≤ (s1.heap.push (revObj a ((its.toArray.size : Int) - 1))).objs.size := by
    show _ ≤ (s1.heap.objs.push _).size
    rw [Array.size_push]
    omega
  have kp : ∀ b o, s1.heap.get? b = some o → h2.get? b = some o := fun b o eb => hk b o (Nat.ne_of_lt (Heap.lt_size eb)) (Heap.get?_push_of_some _ eb)
  refine ⟨.ref _, upd H1 _ (.lst xs.reverse), I1.laid (t' := tk) kp ge ⟨by rw [List.length_reverse]; exact hz, acc.toList, c, vals_rev rv hi, ?_⟩, rfl, q _ (I1.hok.fresh ge)⟩
  rw [Array.toArray_toList]
  exact e2⟩
theorem pe_listRevK {K : PySem.W.Frag} (hK : X.K = K) {e : Expr} {te : TE} {p p2 pos pos2 : Pos} (hc : X.calm = true) (hg : Gl X "list") (hm : X.mg "list" = none) (hg2 : Gl X "reversed") (hm2 : X.mg "reversed" = none) (he : PE X e te) (hs : starEach [e] X.env = (false, eval e X.env) :: starEach [] X.env := by rfl)
    (hs3 : starEach [.Call (.Name "reversed" p2) [e] [] pos2] X.env = (false, eval (.Call (.Name "reversed" p2) [e] [] pos2) X.env) :: starEach [] X.env := by rfl) :
    PE X (.Call (.Name "list" p) [.Call (.Name "reversed" p2) [e] [] pos2] [] pos) (tListRev K te) := hK ▸ pe_listRev hc hg hm hg2 hm2 he hs hs3
end
section
variable {T : TC} {Ω Ω1 : List OA}
/-- of a list that is seen in this state -/
theorem xe_listRev {α : Type} [Rp α] {te : TE} {A : VA} {l : List α} (ha : XE te Γ Ω A Ω1) (h : IsL T Ω1 A l) : XE (tListRev T.K te) Γ Ω (va T (LF.mk l.reverse)) Ω1 := fun F σ H e hh Q q => by
  refine ha F σ H e hh _ fun F1 x H1 Ω' e1 hh1 ⟨a1, o1⟩ => ?_
  subst o1
  obtain ⟨p, vs, ex, hs, al⟩ := h F1 H1 x hh1 a1
  refine ⟨p, vs, ex, hs, fun r hr => ?_⟩
  obtain ⟨hh2, e2⟩ := hh1.newF (u := .lst vs.reverse) hr
  exact q _ _ _ _ (e1.trans e2) hh2 ⟨⟨r, _, rfl, upd_same, al_rev (al.mono e2)⟩, rfl⟩
end
section
variable {T : TC} {Ω Ω1 Ω2 : List OA}
theorem ty_str {F H : Hp} {v : V} {x : Str} (_ : Holds F Ω H) (a : (va T x).P F v) : TyX T.K H v (.type "str") := by
  have a : v = .str x := a
  subst a
  exact .base (.str x)
/-- a text among texts -/
def inS (k : Str) (l : List Str) : Bool := l.any fun y => y == k
theorem inV_s (k : Str) : ∀ l : List Str, inV (.str k) (l.map V.str) = inS k l
  | [] => rfl
  | y :: r => by
    show (eqV (.str y) (.str k) || inV (.str k) (r.map V.str)) = ((y == k) || inS k r)
    rw [inV_s k r]
    rfl
theorem flat_s : ∀ l : List Str, (l.map V.str).all flatV = true
  | [] => rfl
  | _ :: r => flat_s r
theorem op_notInK {X : Cx} {K : PySem.W.Frag} (h : X.K = K) : OpR X (compareOp .NotIn) (rIn K true) := h ▸ op_notIn_seq
theorem xe_inB {neg : Bool} {ta tb : TE} {l : List Str} {k : Str} (ha : XE ta Γ Ω (va T k) Ω1) (hb : XE tb Γ Ω1 (va T (TF.mk l)) Ω2) : XE (tOp (rIn T.K neg) ta tb) Γ Ω (va T (if neg then !inS k l else inS k l)) Ω2 := xe_op ha hb fun F H x y hh a1 a2 Q q => by
  have a1 : x = .str k := a1
  subst a1
  obtain ⟨p, vs, ey, hs, al⟩ := a2
  subst ey
  rw [al_str al] at hs
  refine ⟨p, _, rfl, .inr (Same.tup (fun b o e => hh.same b o e) hs), rfl, flat_s l, ?_⟩
  rw [inV_s]
  exact q F _ H (Same.refl F) hh rfl
theorem xe_notInS {ta tb : TE} {l : List Str} {k : Str} (ha : XE ta Γ Ω (va T k) Ω1) (hb : XE tb Γ Ω1 (va T (TF.mk l)) Ω2) : XE (tOp (rIn T.K true) ta tb) Γ Ω (va T (!inS k l)) Ω2 := xe_inB (neg := true) ha hb
theorem xe_iteL {α : Type} [Rp α] {l m : List α} {t : TT} {b : Bool} {ta tb : TE} (h : XT t Γ Ω b Ω1) (h1 : XE ta Γ Ω1 (va T (LF.mk l)) Ω2) (h2 : XE tb Γ Ω1 (va T (LF.mk m)) Ω2) : XE (tIf t ta tb) Γ Ω (va T (LF.mk (if b = true then l else m))) Ω2 :=
  xe_if h (fun e => xe_eq h1 (by rw [if_pos e])) (fun e => xe_eq h2 (by rw [if_neg (by rw [e]; exact Bool.false_ne_true)]))
end
end VL

set_option Elab.async false
set_option linter.all false
/-! the mathematics: loops by invariants, digits, bits -/
namespace VL
open PySem L2
theorem chkP_eq {p : Prop} (h : p) : chkP p = some () := by unfold chkP; exact if_pos h
theorem bnd_of {α β : Type} {o : Option α} {a : α} {f : α → Option β} {r : Option β} (h : o = some a) (k : f a = r) : o.bind f = r := by rw [h]; exact k
/-! ### loops -/
section
variable {α S ρ : Type} {b : α → S → Option (Stp S ρ)}
theorem forM_cons {x : α} {r : List α} {s s' : S} (h : b x s = some (.nx s')) : forM' b (x :: r) s = forM' b r s' := by
  show (b x s).bind _ = _
  rw [h]
  rfl
theorem forM_ind (I : Nat → S → Prop) : ∀ (xs : List α) (k : Nat) (s : S), (∀ i x s, xs[i]? = some x → I (k + i) s → ∃ s', b x s = some (.nx s') ∧ I (k + i + 1) s') → I k s → ∃ s', forM' b xs s = some (.nx s') ∧ I (k + xs.length) s'
  | [], k, s, _, h => ⟨s, rfl, h⟩
  | x :: r, k, s, hs, h => by
    obtain ⟨s1, e1, i1⟩ := hs 0 x s rfl h
    obtain ⟨s2, e2, i2⟩ := forM_ind I r (k + 1) s1 (fun i y t hy ht => by
      obtain ⟨t', e, q⟩ := hs (i + 1) y t hy (by rw [show k + (i + 1) = k + 1 + i from by omega]; exact ht)
      exact ⟨t', e, by rw [show k + 1 + i + 1 = k + (i + 1) + 1 from by omega]; exact q⟩) i1
    exact ⟨s2, by rw [forM_cons e1, e2], by rw [List.length_cons, show k + (r.length + 1) = k + 1 + r.length from by omega]; exact i2⟩
theorem forM_fold (g : S → α → S) (I : S → Prop) : ∀ {xs : List α} {s : S}, (∀ x ∈ xs, ∀ s, I s → b x s = some (.nx (g s x)) ∧ I (g s x)) → I s → forM' b xs s = some (.nx (xs.foldl g s))
  | [], s, _, _ => rfl
  | x :: r, s, hs, h => by
    obtain ⟨e, i⟩ := hs x List.mem_cons_self s h
    rw [forM_cons e]
    exact forM_fold g I (fun y hy => hs y (List.mem_cons_of_mem _ hy)) i
end
theorem lcM_mapU {β γ : Type} {b : β → Unit → Option (Option γ × Unit)} {f : β → γ} : ∀ {xs : List β}, (∀ x ∈ xs, b x () = some (some (f x), ())) → lcM b xs () = some (xs.map f, ())
  | [], _ => rfl
  | x :: r, h => by
    show (b x ()).bind _ = _
    rw [h x List.mem_cons_self]
    show (lcM b r ()).bind _ = _
    rw [lcM_mapU fun y hy => h y (List.mem_cons_of_mem _ hy)]
    rfl
/-! ### bits -/
def bl (a : Nat) : Nat := if a = 0 then 0 else a.log2 + 1
theorem intBits_nat (a : Nat) : Builtin.Int.intBits (a : Int) = bl a := by
  unfold Builtin.Int.intBits bl
  by_cases h : a = 0
  · subst h; rfl
  · rw [if_neg h, if_neg (by simpa using h), Int.natAbs_natCast]
def pc (a : Nat) : Nat := if h : a = 0 then 0 else a % 2 + pc (a / 2)
termination_by a
decreasing_by omega
/-! ### digits -/
def dg (w a : Nat) : List Int := if h : a = 0 ∨ w = 0 then [] else ((a % 2 ^ w : Nat) : Int) :: dg w (a / 2 ^ w)
termination_by a
decreasing_by
  have h1 : a ≠ 0 := fun e => h (.inl e)
  have h2 : w ≠ 0 := fun e => h (.inr e)
  exact Nat.div_lt_self (by omega) (Nat.one_lt_two_pow h2)
theorem dg_zero (w : Nat) : dg w 0 = [] := by unfold dg; rfl
theorem dg_pos {w a : Nat} (hw : w ≠ 0) (h : a ≠ 0) : dg w a = ((a % 2 ^ w : Nat) : Int) :: dg w (a / 2 ^ w) := by
  rw [dg, dif_neg (fun e => e.elim h hw)]
theorem dg_ind {w : Nat} (hw : w ≠ 0) {p : Nat → Prop} (h0 : p 0) (hs : ∀ a, a ≠ 0 → p (a / 2 ^ w) → p a) : ∀ a, p a := fun a => by
  induction a using Nat.strongRecOn with
  | ind a ih =>
    by_cases h : a = 0
    · subst h; exact h0
    · exact hs a h (ih _ (Nat.div_lt_self (by omega) (Nat.one_lt_two_pow hw)))
section
variable {w : Nat} (hw : w ≠ 0)
include hw
theorem dg_mem : ∀ a, ∀ x ∈ dg w a, ∃ d : Nat, x = (d : Int) ∧ d < 2 ^ w := by
  refine dg_ind hw (fun x hx => by rw [dg_zero] at hx; cases hx) fun a h ih x hx => ?_
  rw [dg_pos hw h] at hx
  rcases List.mem_cons.mp hx with e | e
  · exact ⟨_, e, Nat.mod_lt _ (Nat.two_pow_pos w)⟩
  · exact ih x e
theorem dg_len : ∀ a m, a < 2 ^ (w * m) → (dg w a).length ≤ m := by
  refine dg_ind hw (fun m _ => by rw [dg_zero]; exact Nat.zero_le _) fun a h ih m hm => ?_
  rw [dg_pos hw h, List.length_cons]
  cases m with
  | zero => rw [Nat.mul_zero, Nat.pow_zero] at hm; omega
  | succ m =>
    have := ih m (by
      rw [Nat.div_lt_iff_lt_mul (Nat.two_pow_pos w), ← Nat.pow_add, show w * m + w = w * (m + 1) from by rw [Nat.mul_succ]]
      exact hm)
    omega
end
/-! ### rows from the last digit on, compared -/
def vm (B : Int) : List Int → Int
  | [] => 0
  | d :: r => d * B ^ r.length + vm B r
theorem vm_snoc {B : Int} : ∀ {r : List Int} {d : Int}, vm B (r ++ [d]) = vm B r * B + d
  | [], d => by show d * B ^ 0 + 0 = 0 * B + d; simp
  | e :: r, d => by
    show e * B ^ (r ++ [d]).length + vm B (r ++ [d]) = (e * B ^ r.length + vm B r) * B + d
    rw [vm_snoc (r := r), List.length_append, show [d].length = 1 from rfl, Int.pow_succ, Int.add_mul, ← Int.mul_assoc, Int.add_assoc]
theorem vm_bound {B : Int} (hB : 0 < B) : ∀ {r : List Int}, (∀ x ∈ r, 0 ≤ x ∧ x < B) → 0 ≤ vm B r ∧ vm B r < B ^ r.length
  | [], _ => ⟨Int.le_refl _, by show (0 : Int) < B ^ 0; rw [Int.pow_zero]; decide⟩
  | d :: r, h => by
    obtain ⟨i0, i1⟩ := vm_bound hB (r := r) fun x hx => h x (List.mem_cons_of_mem _ hx)
    obtain ⟨d0, d1⟩ := h d List.mem_cons_self
    have hp : 0 < B ^ r.length := Int.pow_pos hB
    have h0 : 0 ≤ d * B ^ r.length := Int.mul_nonneg d0 (by omega)
    have h1 : (d + 1) * B ^ r.length ≤ B * B ^ r.length := Int.mul_le_mul_of_nonneg_right (by omega) (by omega)
    rw [Int.add_mul, Int.one_mul] at h1
    show 0 ≤ d * B ^ r.length + vm B r ∧ d * B ^ r.length + vm B r < B ^ (r.length + 1)
    rw [Int.pow_succ, Int.mul_comm (B ^ r.length) B]
    omega
theorem vm_dg {w : Nat} (hw : w ≠ 0) : ∀ a : Nat, vm (2 ^ w) (dg w a).reverse = (a : Int) := by
  refine dg_ind hw (by rw [dg_zero]; rfl) fun a h ih => ?_
  rw [dg_pos hw h, List.reverse_cons, vm_snoc, ih]
  have := Nat.div_add_mod a (2 ^ w)
  have q : (a : Int) = ((2 ^ w * (a / 2 ^ w) + a % 2 ^ w : Nat) : Int) := by rw [this]
  conv => rhs; rw [q]
  push_cast
  rw [Int.mul_comm]
theorem dg_bound {w : Nat} (hw : w ≠ 0) (a : Nat) : a < 2 ^ (w * (dg w a).length) := by
  have h := (vm_bound (B := 2 ^ w) (Int.pow_pos (by decide)) (r := (dg w a).reverse) fun x hx => by
    obtain ⟨d, rfl, lt⟩ := dg_mem hw a x (List.mem_reverse.mp hx)
    have : ((d : Nat) : Int) < ((2 ^ w : Nat) : Int) := Int.ofNat_lt.mpr lt
    rw [Int.natCast_pow] at this
    exact ⟨by omega, this⟩).2
  rw [vm_dg hw, List.length_reverse] at h
  have e : (((2 ^ w) ^ (dg w a).length : Nat) : Int) = ((2 : Int) ^ w) ^ (dg w a).length := by rw [Int.natCast_pow, Int.natCast_pow]; rfl
  rw [← e] at h
  rw [Nat.pow_mul]
  exact Int.ofNat_lt.mp h
def cp : List Int → List Int → Nat
  | x :: r, y :: t => if x = y then cp r t + 1 else 0
  | _, _ => 0
theorem take_rev {l : List Int} {m : Nat} {x : Int} (h : l[m]? = some x) : (l.take (m + 1)).reverse = x :: (l.take m).reverse := by
  obtain ⟨lt, e⟩ := List.getElem?_eq_some_iff.mp h
  rw [List.take_add_one, h, Option.toList_some, List.reverse_append]
  rfl
end VL

set_option Elab.async false
set_option linter.all false
/-! rows from the first digit on; masks of any number -/
namespace VL
open PySem L2
theorem mod_neg (t : Nat) {M : Nat} (hM : 0 < M) : (-(t : Int) - 1) % (M : Int) = (M : Int) - 1 - ((t % M : Nat) : Int) := by
  have h := Nat.div_add_mod t M
  have lt := Nat.mod_lt t hM
  have e : (-(t : Int) - 1) = ((M : Int) - 1 - ((t % M : Nat) : Int)) + (M : Int) * (-((t / M : Nat) : Int) - 1) := by
    have q : (t : Int) = ((M * (t / M) + t % M : Nat) : Int) := by rw [h]
    rw [q, Int.mul_sub, Int.mul_neg, Int.mul_one]
    push_cast
    omega
  rw [e, Int.add_mul_emod_self_left, Int.emod_eq_of_lt (by omega) (by omega)]
theorem and_low (x : Int) (W : Nat) : Builtin.bitAnd x ((2 ^ W - 1 : Nat) : Int) = x % 2 ^ W := by
  have hp : 0 < 2 ^ W := Nat.two_pow_pos W
  have e2 : ((2 : Int) ^ W) = ((2 ^ W : Nat) : Int) := by rw [Int.natCast_pow]; rfl
  rw [e2]
  by_cases h : 0 ≤ x
  · obtain ⟨a, rfl⟩ := Int.eq_ofNat_of_zero_le h
    rw [PySem.W.os_band, Nat.and_two_pow_sub_one_eq_mod]
    exact Int.natCast_emod _ _
  · obtain ⟨t, ht⟩ := Int.eq_ofNat_of_zero_le (a := -x - 1) (by omega)
    have ex : x = -(t : Int) - 1 := by omega
    have en : Builtin.bitNot x = (t : Int) := by show -x - 1 = (t : Int); exact ht
    unfold Builtin.bitAnd
    rw [decide_eq_false h, decide_eq_true (show (0 : Int) ≤ ((2 ^ W - 1 : Nat) : Int) from by omega)]
    show ((2 ^ W - 1 : Nat) : Int) - (((((2 ^ W - 1 : Nat) : Int)).toNat &&& (Builtin.bitNot x).toNat : Nat) : Int) = _
    rw [en, Int.toNat_natCast, Int.toNat_natCast, Nat.and_comm, Nat.and_two_pow_sub_one_eq_mod, ex, mod_neg t hp]
    omega
def lv (B : Int) : List Int → Int
  | [] => 0
  | d :: r => d + B * lv B r
theorem lv_snoc {B : Int} : ∀ {r : List Int} {d : Int}, lv B (r ++ [d]) = lv B r + d * B ^ r.length
  | [], d => by show d + B * 0 = 0 + d * B ^ 0; simp
  | e :: r, d => by
    show e + B * lv B (r ++ [d]) = (e + B * lv B r) + d * B ^ (r.length + 1)
    rw [lv_snoc (r := r), Int.mul_add, Int.pow_succ, Int.mul_comm B (d * B ^ r.length), Int.mul_assoc d]
    omega
theorem lv_bound {B : Int} (hB : 0 < B) : ∀ {r : List Int}, (∀ x ∈ r, 0 ≤ x ∧ x < B) → 0 ≤ lv B r ∧ lv B r < B ^ r.length
  | [], _ => ⟨Int.le_refl _, by show (0 : Int) < B ^ 0; rw [Int.pow_zero]; decide⟩
  | d :: r, h => by
    obtain ⟨i0, i1⟩ := lv_bound hB (r := r) fun x hx => h x (List.mem_cons_of_mem _ hx)
    obtain ⟨d0, d1⟩ := h d List.mem_cons_self
    have h0 : 0 ≤ B * lv B r := Int.mul_nonneg (by omega) i0
    have h1 : B * (lv B r + 1) ≤ B * B ^ r.length := Int.mul_le_mul_of_nonneg_left (by omega) (by omega)
    rw [Int.mul_add, Int.mul_one] at h1
    show 0 ≤ d + B * lv B r ∧ d + B * lv B r < B ^ (r.length + 1)
    rw [Int.pow_succ, Int.mul_comm (B ^ r.length) B]
    omega
theorem lv_split {B : Int} : ∀ (m : Nat) (l : List Int), m ≤ l.length → lv B l = lv B (l.take m) + B ^ m * lv B (l.drop m)
  | 0, l, _ => by rw [List.take_zero, List.drop_zero, Int.pow_zero, Int.one_mul]; show lv B l = 0 + lv B l; omega
  | m + 1, [], h => absurd h (by rw [List.length_nil]; omega)
  | m + 1, d :: r, h => by
    rw [List.take_succ_cons, List.drop_succ_cons]
    show d + B * lv B r = (d + B * lv B (r.take m)) + B ^ (m + 1) * lv B (r.drop m)
    rw [lv_split m r (by rw [List.length_cons] at h; omega), Int.mul_add, Int.pow_succ, Int.mul_comm (B ^ m) B, Int.mul_assoc]
    omega
end VL

set_option Elab.async false
set_option linter.all false
/-! sizes; rows of so many digits; differences -/
namespace VL
open PySem L2
theorem intBits_abs (n : Int) : Builtin.Int.intBits n = bl n.natAbs := by
  rw [← intBits_nat]
  unfold Builtin.Int.intBits
  rw [Int.natAbs_natCast]
  by_cases h : n = 0
  · subst h; rfl
  · rw [if_neg (by simpa using h), if_neg (by simpa using h)]
theorem bl_lt (a : Nat) : a < 2 ^ bl a := by
  unfold bl
  by_cases h : a = 0
  · subst h; decide
  · rw [if_neg h]; exact Nat.lt_log2_self
theorem bl_le {a k : Nat} : bl a ≤ k ↔ a < 2 ^ k := by
  constructor
  · intro h
    exact Nat.lt_of_lt_of_le (bl_lt a) (Nat.pow_le_pow_right (by decide) h)
  · intro h
    unfold bl
    by_cases e : a = 0
    · rw [if_pos e]; exact Nat.zero_le _
    · rw [if_neg e]
      have := (Nat.log2_lt e).mpr h
      omega
/-- how many digits -/
def sz (W a : Nat) : Nat := (bl a + W - 1) / W
theorem sz_le {W : Nat} (hw : W ≠ 0) {a k : Nat} : sz W a ≤ k ↔ a < 2 ^ (W * k) := by
  rw [← bl_le]
  unfold sz
  constructor
  · intro h
    have h1 := Nat.div_add_mod (bl a + W - 1) W
    have h2 := Nat.mod_lt (bl a + W - 1) (Nat.pos_of_ne_zero hw)
    have h3 : W * ((bl a + W - 1) / W) ≤ W * k := Nat.mul_le_mul_left W h
    omega
  · intro h
    have : bl a + W - 1 < W * (k + 1) := by rw [Nat.mul_succ]; omega
    have := (Nat.div_lt_iff_lt_mul (Nat.pos_of_ne_zero hw)).mpr (by rw [Nat.mul_comm]; exact this : bl a + W - 1 < (k + 1) * W)
    omega
theorem eq_of_le {x y : Nat} (h : ∀ k, x ≤ k ↔ y ≤ k) : x = y := by
  have h1 := (h y).mpr (Nat.le_refl _)
  have h2 := (h x).mp (Nat.le_refl _)
  omega
theorem dg_size {W : Nat} (hw : W ≠ 0) (a : Nat) : (dg W a).length = sz W a := eq_of_le fun k => by
  rw [sz_le hw]
  exact ⟨fun h => Nat.lt_of_lt_of_le (dg_bound hw a) (Nat.pow_le_pow_right (by decide) (Nat.mul_le_mul_left W h)), fun h => dg_len hw a k h⟩
/-! rows of so many digits -/
def rw_ (W : Nat) (n : Int) : Nat → List Int
  | 0 => []
  | k + 1 => (n % 2 ^ W) :: rw_ W (n / 2 ^ W) k
theorem pp (W k : Nat) : (2 : Int) ^ (W * k) = ((2 ^ (W * k) : Nat) : Int) := by rw [Int.natCast_pow]; rfl
theorem p2 (k : Nat) : (2 : Int) ^ k = ((2 ^ k : Nat) : Int) := by rw [Int.natCast_pow]; rfl
theorem ppos (k : Nat) : (0 : Int) < 2 ^ k := Int.pow_pos (by decide)
theorem rw_len (W : Nat) : ∀ (k : Nat) (n : Int), (rw_ W n k).length = k
  | 0, _ => rfl
  | k + 1, n => by show (rw_ W (n / 2 ^ W) k).length + 1 = _; rw [rw_len W k]
theorem ediv_pow (n : Int) (a b : Nat) : n / 2 ^ a / 2 ^ b = n / 2 ^ (a + b) := by
  rw [Int.pow_add, Int.ediv_ediv_of_nonneg (Int.le_of_lt (ppos a))]
theorem rw_app (W : Nat) : ∀ (k : Nat) (n : Int) (m : Nat), rw_ W n (k + m) = rw_ W n k ++ rw_ W (n / 2 ^ (k * W)) m
  | 0, n, m => by rw [Nat.zero_mul, Int.pow_zero, Int.ediv_one, Nat.zero_add]; rfl
  | k + 1, n, m => by
    rw [show k + 1 + m = (k + m) + 1 from by omega]
    show (n % 2 ^ W) :: rw_ W (n / 2 ^ W) (k + m) = _
    rw [rw_app W k, ediv_pow, show W + k * W = (k + 1) * W from by rw [Nat.succ_mul]; omega]
    rfl
theorem mod_div_pow (n : Int) (a b : Nat) : n % 2 ^ (a + b) / 2 ^ a = n / 2 ^ a % 2 ^ b := by
  have ha := ppos a
  have hb := ppos b
  have e : n % 2 ^ (a + b) = n - 2 ^ (a + b) * (n / 2 ^ (a + b)) := Int.emod_def ..
  rw [e, ← ediv_pow, Int.pow_add, Int.mul_assoc, Int.sub_eq_add_neg, ← Int.mul_neg, Int.add_mul_ediv_left _ _ (by omega), Int.emod_def]
  omega
theorem mod_mod_pow (n : Int) (a b : Nat) : n % 2 ^ (a + b) % 2 ^ a = n % 2 ^ a := by
  rw [Int.pow_add]
  exact Int.emod_emod_of_dvd n (Int.dvd_mul_right _ _)
theorem rw_mod (W : Nat) : ∀ (k : Nat) (n : Int), rw_ W (n % 2 ^ (k * W)) k = rw_ W n k
  | 0, _ => rfl
  | k + 1, n => by
    show ((n % 2 ^ ((k + 1) * W)) % 2 ^ W) :: rw_ W (n % 2 ^ ((k + 1) * W) / 2 ^ W) k = (n % 2 ^ W) :: rw_ W (n / 2 ^ W) k
    rw [show (k + 1) * W = W + k * W from by rw [Nat.succ_mul]; omega, mod_mod_pow, mod_div_pow, rw_mod W k]
theorem rw_dg {W : Nat} (hw : W ≠ 0) (a : Nat) : rw_ W (a : Int) (sz W a) = dg W a := by
  rw [← dg_size hw]
  revert a
  refine dg_ind hw (by rw [dg_zero]; rfl) fun a h ih => ?_
  rw [dg_pos hw h]
  show ((a : Int) % 2 ^ W) :: rw_ W ((a : Int) / 2 ^ W) (dg W (a / 2 ^ W)).length = _
  rw [p2, ← Int.natCast_emod, ← Int.natCast_ediv, ih]
theorem nat_of {n : Int} {k : Nat} (h0 : 0 ≤ n) (h : n < 2 ^ k) : n.natAbs < 2 ^ k := by
  rw [p2] at h
  omega
theorem int_of {n : Int} {k : Nat} (h : n.natAbs < 2 ^ k) : -(2 ^ k) < n ∧ n < 2 ^ k := by
  rw [p2]
  omega
theorem shl_ok {n i : Int} {k : Nat} (h : n.natAbs < 2 ^ k) (h0 : 0 ≤ i) (h2 : (k : Int) + i ≤ 2 ^ 27) : CShl n i := ⟨h0, by
  rw [intBits_abs]
  have := bl_le.mpr h
  omega⟩
theorem mul_small {a b : Int} (h : a.natAbs < 2 ^ 64) : IntMulOk a b := by
  have h := int_of h
  exact .of_left (PySem.intBits_le_64 h.1 h.2)
theorem mul_small' {a b : Int} (h : b.natAbs < 2 ^ 64) : IntMulOk a b := by
  have h := int_of h
  exact .of_right (PySem.intBits_le_64 h.1 h.2)
end VL
/-! ### a value that is there, and of which something holds -/
namespace VL
open PySem L2
def Sat {α : Type} (o : Option α) (P : α → Prop) : Prop := ∃ r, o = some r ∧ P r
section
variable {α β S ρ : Type} {o : Option α} {P : α → Prop} {Q : β → Prop} {f : α → Option β} {a : α}
theorem sat_bind (h : Sat o P) (k : ∀ r, P r → Sat (f r) Q) : Sat (o.bind f) Q := by
  obtain ⟨r, e, p⟩ := h
  rw [e]
  exact k r p
theorem sat_eq (h : o = some a) (k : Sat (f a) Q) : Sat (o.bind f) Q := by rw [h]; exact k
theorem sat_let (k : Sat (f a) Q) : Sat ((some a).bind f) Q := k
theorem sat_chk {p : Prop} {f : Unit → Option β} (h : p) (k : Sat (f ()) Q) : Sat ((chkP p).bind f) Q := by rw [chkP_eq h]; exact k
theorem sat_some {a : β} (h : Q a) : Sat (some a) Q := ⟨a, rfl, h⟩
theorem sat_get (h : Sat o (fun r => r = a)) : o = some a := by
  obtain ⟨r, e, p⟩ := h
  rw [e, p]
variable {γ : Type}
theorem sat_for {b : γ → S → Option (Stp S ρ)} {xs : List γ} {s0 : S} {g : Stp S ρ → Option β} (I : Nat → S → Prop)
    (h : ∀ i x s, xs[i]? = some x → I i s → Sat (b x s) (fun st => ∃ s', st = .nx s' ∧ I (i + 1) s')) (h0 : I 0 s0) (k : ∀ s, I xs.length s → Sat (g (.nx s)) Q) : Sat ((forM' b xs s0).bind g) Q := by
  obtain ⟨s', e, i⟩ := forM_ind (b := b) I xs 0 s0 (fun i x s hx hi => by
    rw [Nat.zero_add] at hi
    obtain ⟨st, e, s', e2, q⟩ := h i x s hx hi
    exact ⟨s', by rw [e, e2], by rw [Nat.zero_add]; exact q⟩) h0
  rw [e]
  rw [Nat.zero_add] at i
  exact k s' i
theorem sat_forA {b : γ → S → Option (Stp S ρ)} {xs : List γ} {s0 : S} {g : Stp S ρ → Option β} (I : S → Prop)
    (h : ∀ x ∈ xs, ∀ s, I s → Sat (b x s) (fun st => ∃ s', st = .nx s' ∧ I s')) (h0 : I s0) (k : ∀ s, I s → Sat (g (.nx s)) Q) : Sat ((forM' b xs s0).bind g) Q :=
  sat_for (fun _ => I) (fun i x s hx hi => h x (List.mem_of_getElem? hx) s hi) h0 fun s hi => k s hi
theorem sat_nx {s : S} {g : S → Option β} (k : Sat (g s) Q) : Sat ((nxt (Stp.nx (ρ := ρ) s)).bind g) Q := k
theorem sat_end {s : S} {I : S → Prop} (h : I s) : Sat (some (Stp.nx (ρ := ρ) s)) (fun st => ∃ s', st = .nx s' ∧ I s') := ⟨_, rfl, s, rfl, h⟩
end
theorem rng_len (lo : Int) (n : Nat) : (rng lo n).length = n := by unfold rng; rw [List.length_map, List.length_range]
theorem rng_get {lo : Int} {n i : Nat} {x : Int} (h : (rng lo n)[i]? = some x) : i < n ∧ x = lo + (i : Int) := by
  have lt := getlt h
  rw [rng_len] at lt
  unfold rng at h
  rw [List.getElem?_map, List.getElem?_range lt] at h
  exact ⟨lt, (Option.some.inj h).symm⟩
theorem cdiv_s {i j : Int} (h : 0 < j) (h2 : j < 2 ^ 64) : CDivW i j := ⟨h, by
  have : j.natAbs < 2 ^ 64 := by omega
  have h0 : j.natAbs ≠ 0 := by omega
  have := (Nat.log2_lt h0 (k := 64)).mpr this
  omega⟩
theorem size_lt {n m : Nat} (h : n ≤ m) (hm : m < 16777216) : n < sizeLine := Nat.lt_of_le_of_lt h (by show m < 2 ^ 24; exact hm)
theorem size_le {n m : Nat} (h : n ≤ m) (hm : m ≤ 16777216) : n ≤ sizeLine := Nat.le_trans h (by show m ≤ 2 ^ 24; exact hm)
/-! ### what a machine has counted -/
theorem nd_le {α : Type} [DecidableEq α] : ∀ {l m : List α}, l.Nodup → (∀ x ∈ l, x ∈ m) → l.length ≤ m.length
  | [], _, _, _ => Nat.zero_le _
  | x :: r, m, h, s => by
    obtain ⟨h1, h2⟩ := List.nodup_cons.mp h
    have hx := s x List.mem_cons_self
    have := nd_le (l := r) (m := m.erase x) h2 fun y hy => (List.mem_erase_of_ne (fun e => h1 (by rw [← e]; exact hy))).mpr (s y (List.mem_cons_of_mem _ hy))
    rw [List.length_erase_of_mem hx] at this
    have := List.length_pos_of_mem hx
    rw [List.length_cons]
    omega
/-- the words with numbers above 0 -/
def posL (l : List (Str × Int)) : List (Str × Int) := l.filter fun p => decide (0 < p.2)
theorem lookup_of {l : List (Str × Int)} (hd : (l.map (·.1)).Nodup) {x : Str × Int} (h : x ∈ l) : l.lookup x.1 = some x.2 := by
  induction l with
  | nil => cases h
  | cons a r ih =>
    rw [List.map_cons] at hd
    obtain ⟨h1, h2⟩ := List.nodup_cons.mp hd
    rw [show (a :: r) = ((a.1, a.2) :: r) from rfl, List.lookup_cons]
    rcases List.mem_cons.mp h with e | e
    · subst e; rw [beq_self_eq_true]
    · have ne : (x.1 == a.1) = false := by
        cases q : x.1 == a.1 with
        | false => rfl
        | true => exact absurd (List.mem_map.mpr ⟨x, e, by rw [beq_iff_eq.mp q]⟩) h1
      rw [ne]
      exact ih h2 e
theorem mem_lookup {l : List (Str × Int)} {k : Str} {v : Int} (h : l.lookup k = some v) : (k, v) ∈ l := by
  induction l with
  | nil => cases h
  | cons a r ih =>
    rw [show (a :: r) = ((a.1, a.2) :: r) from rfl, List.lookup_cons] at h
    cases q : k == a.1 with
    | true =>
      rw [q] at h
      have h := Option.some.inj h
      rw [beq_iff_eq.mp q, ← h]
      exact List.mem_cons_self
    | false => rw [q] at h; exact List.mem_cons_of_mem _ (ih h)
theorem same_of {l m : List (Str × Int)} (h1 : (l.map (·.1)).Nodup) (h2 : (m.map (·.1)).Nodup) (h : ∀ x, x ∈ l ↔ x ∈ m) : sameD l m := by
  have nd : ∀ {l : List (Str × Int)}, (l.map (·.1)).Nodup → l.Nodup := fun {l} h => by
    induction l with
    | nil => exact List.nodup_nil
    | cons a r ih =>
      rw [List.map_cons] at h
      obtain ⟨q1, q2⟩ := List.nodup_cons.mp h
      exact List.nodup_cons.mpr ⟨fun z => q1 (List.mem_map.mpr ⟨a, z, rfl⟩), ih q2⟩
  refine ⟨Nat.le_antisymm (nd_le (nd h1) fun x hx => (h x).mp hx) (nd_le (nd h2) fun x hx => (h x).mpr hx), fun x hx => lookup_of h2 ((h x).mp hx)⟩
theorem posL_nd {l : List (Str × Int)} (h : (l.map (·.1)).Nodup) : ((posL l).map (·.1)).Nodup := (List.filter_sublist.map _).nodup h
theorem tally_keys (S : MS) : (S.tally.map (·.1)).Nodup := by
  have : S.tally.map (·.1) = mwords := by
    unfold MS.tally
    rw [List.map_map]
    exact List.map_id _
  rw [this]
  exact mwords_nd
theorem mem_tally {S : MS} {x : Str × Int} : x ∈ S.tally ↔ x.1 ∈ mwords ∧ x.2 = S.cnt x.1 := by
  unfold MS.tally
  constructor
  · intro h
    obtain ⟨w, hw, rfl⟩ := List.mem_map.mp h
    exact ⟨hw, rfl⟩
  · rintro ⟨h1, h2⟩
    exact List.mem_map.mpr ⟨x.1, h1, by rw [← h2]⟩
/-- the same above 0 -/
def Cnt (S : MS) (l : List (Str × Int)) : Prop := (l.map (·.1)).Nodup ∧ (∀ x ∈ l, x.1 ∈ mwords) ∧ ∀ w ∈ mwords, (∀ n, l.lookup w = some n → 0 < n → S.cnt w = n) ∧ (0 < S.cnt w → l.lookup w = some (S.cnt w))
theorem cnt_same {S : MS} {l : List (Str × Int)} (h : Cnt S l) : sameD (posL S.tally) (posL l) := same_of (posL_nd (tally_keys S)) (posL_nd h.1) fun x => by
  unfold posL
  rw [List.mem_filter, List.mem_filter, mem_tally, decide_eq_true_iff]
  constructor
  · rintro ⟨⟨h1, h2⟩, h3⟩
    have := (h.2.2 x.1 h1).2 (h2 ▸ h3)
    refine ⟨?_, h3⟩
    have m := mem_lookup this
    rw [← h2] at m
    exact m
  · rintro ⟨h1, h3⟩
    have hw := h.2.1 x h1
    exact ⟨⟨hw, ((h.2.2 x.1 hw).1 x.2 (lookup_of h.1 h1) h3).symm⟩, h3⟩
theorem lcM_filter {γ : Type} {b : γ → Unit → Option (Option γ × Unit)} {p : γ → Bool} : ∀ {l : List γ}, (∀ x ∈ l, b x () = some (if p x = true then some x else none, ())) → lcM b l () = some (l.filter p, ())
  | [], _ => rfl
  | x :: r, h => by
    show (b x ()).bind _ = _
    rw [h x List.mem_cons_self, List.filter_cons]
    show (lcM b r ()).bind _ = _
    rw [lcM_filter fun y hy => h y (List.mem_cons_of_mem _ hy)]
    cases p x <;> rfl
end VL
namespace VL
open PySem L2
end VL
namespace VL
open PySem L2
theorem cnt_nil (w c : Int) (wk : List (T3 Str Int Int)) : Cnt ⟨w, c, fun _ => 0, wk⟩ [] := ⟨List.nodup_nil, fun x h => (by cases h), fun w _ => ⟨fun n h _ => (by cases h), fun h => absurd h (by show ¬ (0 : Int) < 0; omega)⟩⟩
theorem cnt_fresh (w c : Int) : Cnt (MS.fresh w c) [] := cnt_nil w c []
theorem lookup_app {l m : List (Str × Int)} {k : Str} : (l ++ m).lookup k = (l.lookup k).or (m.lookup k) := by
  induction l with
  | nil => show m.lookup k = (none : Option Int).or (m.lookup k); cases m.lookup k <;> rfl
  | cons a r ih =>
    rw [show (a :: r) ++ m = (a.1, a.2) :: (r ++ m) from rfl, show (a :: r) = (a.1, a.2) :: r from rfl, List.lookup_cons, List.lookup_cons, ih]
    cases k == a.1 <;> rfl
theorem lookup_out {l : List (Str × Int)} {k : Str} (h : k ∉ l.map (·.1)) : l.lookup k = none := by
  cases q : l.lookup k with
  | none => rfl
  | some v => exact absurd (List.mem_map.mpr ⟨_, mem_lookup q, rfl⟩) h
theorem lookup_self {k : Str} {n : Int} {r : List (Str × Int)} : ((k, n) :: r).lookup k = some n := by rw [List.lookup_cons, beq_self_eq_true]
theorem lookup_skip {k j : Str} {n : Int} {r : List (Str × Int)} (h : j ≠ k) : ((k, n) :: r).lookup j = r.lookup j := by
  rw [List.lookup_cons]
  have : (j == k) = false := by
    cases q : j == k with
    | false => rfl
    | true => exact absurd (beq_iff_eq.mp q) h
  rw [this]
theorem cnt_add {S : MS} {l : List (Str × Int)} {w : Str} {n : Int} (h : Cnt S l) (hw : w ∈ mwords) (h0 : S.cnt w = 0) (hn : w ∉ l.map (·.1)) : Cnt (S.step w n) (l ++ [(w, n)]) := by
  refine ⟨?_, fun x hx => ?_, fun v hv => ?_⟩
  · rw [List.map_append, List.nodup_append]
    refine ⟨h.1, by simp, fun a ha b hb => ?_⟩
    have hb : b = w := by simpa using hb
    subst hb
    exact fun e => hn (e ▸ ha)
  · rcases List.mem_append.mp hx with z | z
    · exact h.2.1 x z
    · rw [List.mem_singleton.mp z]; exact hw
  · have e : (S.step w n).cnt v = if v = w then S.cnt v + n else S.cnt v := rfl
    rw [e, lookup_app]
    by_cases q : v = w
    · subst q
      rw [if_pos rfl, lookup_out hn, h0, Int.zero_add]
      show (∀ m, ([(v, n)] : List (Str × Int)).lookup v = some m → 0 < m → n = m) ∧ (0 < n → ([(v, n)] : List (Str × Int)).lookup v = some n)
      rw [lookup_self]
      exact ⟨fun m e _ => Option.some.inj e, fun _ => rfl⟩
    · rw [if_neg q]
      have : ([(w, n)] : List (Str × Int)).lookup v = none := by rw [lookup_skip q]; rfl
      rw [this, Option.or_none]
      exact h.2.2 v hv
theorem cnt_enter {S : MS} {l : List (Str × Int)} {w : Str} {m n : Int} (h : Cnt S l) : Cnt (S.enter w m n) l := h
/-- the same counts, told otherwise -/
theorem cnt_same_as {S S' : MS} {l m : List (Str × Int)} (h : Cnt S l) (hc : S'.cnt = S.cnt) (nd : (m.map (·.1)).Nodup) (sub : ∀ x ∈ m, x.1 ∈ mwords) (e : ∀ w ∈ mwords, (∀ n, m.lookup w = some n → 0 < n → l.lookup w = some n) ∧ (∀ n, l.lookup w = some n → 0 < n → m.lookup w = some n)) : Cnt S' m :=
  ⟨nd, sub, fun w hw => ⟨fun n hn h0 => by rw [hc]; exact (h.2.2 w hw).1 n ((e w hw).1 n hn h0) h0, fun h0 => by rw [hc] at h0 ⊢; exact (e w hw).2 _ ((h.2.2 w hw).2 h0) h0⟩⟩
end VL
namespace VL
open PySem L2
def WkOk (l : List (T3 Str Int Int)) : Prop := ∀ x ∈ l, (PyData.str x.a).canLay0 = true
theorem wkok_dat {l : List (T3 Str Int Int)} (h : WkOk l) : Dat.ok (LF.mk l) := fun x hx => ⟨h x hx, trivial, trivial⟩
theorem wkok_nil : WkOk [] := fun x h => (by cases h)
theorem wkok_one {w : Str} {m n : Int} (hw : (PyData.str w).canLay0 = true := by decide +kernel) : WkOk [T3.mk w m n] := fun x hx => by rw [List.mem_singleton.mp hx]; exact hw
end VL
namespace VL
open PySem L2
end VL

set_option Elab.async false
set_option linter.all false
/-! bits of any integers -/
namespace VL
open PySem L2 PyProof.Rows
abbrev band := Builtin.bitAnd
theorem half (x y : Int) : band x y = 2 * band (x / 2) (y / 2) + (if x % 2 = 1 ∧ y % 2 = 1 then 1 else 0) := PySem.W.kbt_halves x y
/-! one bit -/
def bit (x : Int) (i : Nat) : Int := x / 2 ^ i % 2
end VL

set_option Elab.async false
set_option linter.all false
set_option maxRecDepth 100000
/-! VD: long division digit by digit, by numbers: the guess, how often it is corrected, what each place finds. -/
namespace VL
open PySem L2
section
variable {B E b r : Nat}
variable {h v1 v2 : Nat}
end
/-! ### the steps, by the two numbers that are divided: b has all its digits, E stands behind its last two -/
/-- what is divided at place i: the rest so far and the next digit -/
def dvR (B A b i : Nat) : Nat := A / B ^ (i + 1) % b * B + A / B ^ i % B
def dvS (B E A b i : Nat) : T4 Int Int Bool Int :=
  ⟨((dvR B A b i / E / B / (b / E / B) : Nat) : Int), ((dvR B A b i / E / B / (b / E / B) : Nat) : Int) - ((dvR B A b i / E / (b / E) : Nat) : Int), decide (dvR B A b i / b < dvR B A b i / E / (b / E)), ((dvR B A b i / b : Nat) : Int)⟩
/-- the steps of k places, from the top -/
def dvSteps (B E A b : Nat) : Nat → List (T4 Int Int Bool Int)
  | 0 => []
  | k + 1 => dvS B E A b k :: dvSteps B E A b k
end VL

set_option Elab.async false
set_option linter.all false
set_option maxRecDepth 100000
set_option maxHeartbeats 4000000
namespace P
open PySem L2 VL
section
variable {P : Program} {w : World} {mg : Str → Option Value} {base : Heap} {T : TC}

noncomputable def M_is_integer (x0 : Int) : Option Bool :=
  some (true && (!false))
def Pre_is_integer (T : TC) : PreT := fun As Ω R => ∃ (x0 : Int) (r : Bool), As = [va T x0] ∧ M_is_integer x0 = some r ∧ R = RV (va T r) (stt Ω [] [])
theorem sc_is_integer : FnScope ["value"] ["value"] (defScope s_is_integer) := ⟨rfl, rfl, rfl, by decide +kernel, rfl, by decide +kernel, by decide +kernel⟩
theorem ok_is_integer {f : Addr} {fd : FuncData} (F : Fun T.K "is_integer" "is_integer" s_is_integer f fd) (z_isinstance : mg "isinstance" = none) (z_int : mg "int" = none) (z_bool : mg "bool" = none) : FnOk P w T.K mg base CX0 1 f fd ["value"] (mkSp (Pre_is_integer T)) := by
  refine fn_ok F sc_is_integer (fun As Ω R h => ?_) (fun cdv A outer s H E hr As Ω R F0 h => ?_)
  · obtain ⟨x0, r, rfl, _⟩ := h
    rfl
  obtain ⟨x0, r, rfl, hm, rfl⟩ := h
  refine ⟨_, (pss_one (ps_ret (pe_and (pe_callB (cr_isiK (K := T.K) rfl) (by rfl) z_isinstance (by decide +kernel) (pa_cons (pv 0) (pa_cons (pe_bltn (v := .ty "int") (by rfl) z_int (by decide +kernel) rfl) pa_nil))) (pe_one (pe_not (pe_callB (cr_isiK (K := T.K) rfl) (by rfl) z_isinstance (by decide +kernel) (pa_cons (pv 0) (pa_cons (pe_bltn (v := .ty "bool") (by rfl) z_bool (by decide +kernel) rfl) pa_nil)))))))), fun D hrt hnx => ?_⟩
  have ok : Okk Ω [] := okk0
  suffices hx : XS _ D F0 [some (va T x0)] (stt Ω [] []) by
    rw [show (stt Ω [] []) = Ω from stt_self (by simp)] at hx
    exact hx
  unfold M_is_integer at hm
  obtain rfl := Option.some.inj hm
  refine xs_ret (xe_andV (xe_isi (xe_var (i := 0) rfl) xe_vx (.ty _) (fun F H v hh a => ty_int hh a) (kit_ty (by decide +kernel))) (fun _ => (xe_notV (xe_isi (xe_var (i := 0) rfl) xe_vx (.ty _) (fun F H v hh a => ty_int hh a) (kit_ty (by decide +kernel)))))) hrt.all
noncomputable def M_is_between (x0 : Int) (x1 : Int) (x2 : Int) : Option Bool :=
  (M_is_integer x0).bind fun z1 => some (z1 && (decide (x1 ≤ x0) && decide (x0 ≤ x2)))
def Pre_is_between (T : TC) : PreT := fun As Ω R => ∃ (x0 : Int) (x1 : Int) (x2 : Int) (r : Bool), As = [va T x0, va T x1, va T x2] ∧ M_is_between x0 x1 x2 = some r ∧ R = RV (va T r) (stt Ω [] [])
theorem sc_is_between : FnScope ["value", "low", "high"] ["value", "low", "high"] (defScope s_is_between) := ⟨rfl, rfl, rfl, by decide +kernel, rfl, by decide +kernel, by decide +kernel⟩
theorem ok_is_between {f : Addr} {fd : FuncData} (F : Fun T.K "is_between" "is_between" s_is_between f fd) (c_is_integer : Cal P w T.K mg base 1 "is_integer" ["value"] (mkSp (Pre_is_integer T))) : FnOk P w T.K mg base CX0 2 f fd ["value", "low", "high"] (mkSp (Pre_is_between T)) := by
  refine fn_ok F sc_is_between (fun As Ω R h => ?_) (fun cdv A outer s H E hr As Ω R F0 h => ?_)
  · obtain ⟨x0, x1, x2, r, rfl, _⟩ := h
    rfl
  obtain ⟨x0, x1, x2, r, rfl, hm, rfl⟩ := h
  refine ⟨_, (pss_one (ps_ret (pe_and (pe_cal c_is_integer (hr.mono (by decide)) (by rfl) (pa_cons (pv 0) pa_nil)) (pe_one (pe_chain op_le op_le (pv 1) (pv 0) (pv 2)))))), fun D hrt hnx => ?_⟩
  have ok : Okk Ω [] := okk0
  suffices hx : XS _ D F0 [some (va T x0), some (va T x1), some (va T x2)] (stt Ω [] []) by
    rw [show (stt Ω [] []) = Ω from stt_self (by simp)] at hx
    exact hx
  unfold M_is_between at hm
  obtain ⟨z1, hz1, hm⟩ := bnd_some hm
  obtain rfl := Option.some.inj hm
  refine xs_ret (xe_andV (xe_call (xa_cons (xe_var (i := 0) rfl) xa_nil) ⟨x0, z1, rfl, hz1, rfl⟩ cal0) (fun _ => (xe_chain (xe_var (i := 1) rfl) (xe_var (i := 0) rfl) ro_bl (fun _ => (xe_var (i := 2) rfl)) (fun _ => ro_bl)))) hrt.all
theorem sc_Mach_step : FnScope ["self", "word", "many"] ["self", "word", "many"] (defScope s_Mach_step) := ⟨rfl, rfl, rfl, by decide +kernel, rfl, by decide +kernel, by decide +kernel⟩
theorem ok_Mach_step {f : Addr} {fd : FuncData} (F : Fun T.K "step" "Machine.step" s_Mach_step f fd) (mc : MCls T.K (T.C 0))  : FnOk P w T.K mg base CX0 1 f fd ["self", "word", "many"] (mkSp (Pre_Mach_step T)) := by
  refine fn_ok F sc_Mach_step (fun As Ω R h => ?_) (fun cdv A outer s H E hr As Ω R F0 h => ?_)
  · obtain ⟨k, p, x, wd, n, rfl, _⟩ := h; rfl
  obtain ⟨k, p, x, wd, n, rfl, hk, hw, rfl⟩ := h
  refine ⟨_, pss_one (ps_daug (hu_of hr) (pe_fld (pv 0) (by rfl)) (pv 1) (pv 2) in_add (fun _ _ _ => rfl)), fun D hrt hnx => ?_⟩
  exact xs_step mc rfl rfl rfl hk hw fun σ H ⟨F, f0, e, hh⟩ => hnx F σ H _ f0 hh ⟨rfl, stt_one.symm⟩
theorem sc_Mach_enter : FnScope ["self", "word", "m", "n"] ["self", "word", "m", "n"] (defScope s_Mach_enter) := ⟨rfl, rfl, rfl, by decide +kernel, rfl, by decide +kernel, by decide +kernel⟩
theorem ok_Mach_enter {f : Addr} {fd : FuncData} (F : Fun T.K "enter" "Machine.enter" s_Mach_enter f fd) (mc : MCls T.K (T.C 0)) (z_len : mg "len" = none) (g_LONGEST_WALK : ∃ u, mg "LONGEST_WALK" = some u ∧ RelV (.int 1000) u) : FnOk P w T.K mg base CX0 1 f fd ["self", "word", "m", "n"] (mkSp (Pre_Mach_enter T)) := by
  refine fn_ok F sc_Mach_enter (fun As Ω R h => ?_) (fun cdv A outer s H E hr As Ω R F0 h => ?_)
  · obtain ⟨k, p, x, wd, m, n, rfl, _⟩ := h; rfl
  obtain ⟨k, p, x, wd, m, n, rfl, hk, rfl⟩ := h
  refine ⟨_, pss_one (ps_if (pt_cmpR op_lt (pe_callB cr_len (by rfl) z_len PySem.boot_len (pa_cons (pe_fld (pv 0) (by rfl)) pa_nil)) (pe_gl rfl g_LONGEST_WALK) (nomark _)) (pss_one (ps_expr (pe_bm PySem.F.plainAttrs_list PySem.F.slot_list_append PySem.F.type_list_append mt_append (pe_fld (pv 0) (by rfl)) (pa_cons (pe_tup (pa_cons (pv 1) (pa_cons (pv 2) (pa_cons (pv 3) pa_nil)))) pa_nil)))) pss_nil), fun D hrt hnx => ?_⟩
  exact xs_enter mc rfl rfl rfl rfl hk fun σ H ⟨F, f0, e, hh⟩ => hnx F σ H _ f0 hh ⟨rfl, stt_one.symm⟩
theorem sc_Mach_reset : FnScope ["self", "word"] ["self"] (defScope s_Mach_reset) := ⟨rfl, rfl, rfl, by decide +kernel, rfl, by decide +kernel, by decide +kernel⟩
theorem ok_Mach_reset {f : Addr} {fd : FuncData} (F : Fun T.K "reset" "Machine.reset" s_Mach_reset f fd) (mc : MCls T.K (T.C 0)) {aW : Addr} (g_WORDS : ∃ u, mg "WORDS" = some u ∧ RelV (.ref aW) u) (hW : ∀ H, SqT T.K H aW (mwords.map V.str)) : FnOk P w T.K mg base CX0 1 f fd ["self"] (mkSp (Pre_Mach_reset T)) := by
  refine fn_ok F sc_Mach_reset (fun As Ω R h => ?_) (fun cdv A outer s H E hr As Ω R F0 h => ?_)
  · obtain ⟨k, p, x, rfl, _⟩ := h; rfl
  obtain ⟨k, p, x, rfl, hk, rfl⟩ := h
  refine ⟨_, pss_cons (ps_fld (pv 0) (pe_dc (own := [("word", 1)]) rfl sc_Mach_reset.nd (pi_tup (pe_gl rfl g_WORDS)) (blkOk_by (N := ["self", "word"]) (sc := defScope s_Mach_reset) (by decide +kernel)) (fun _ _ _ _ _ => pg_name (i := 1) sc_Mach_reset.nd rfl (.inl rfl)) (fun _ _ _ _ _ => pts_nil) (fun _ _ _ _ _ => pv 1) (fun _ _ _ _ _ => pe_int)) rfl) (pss_one (ps_fld (pv 0) (pe_lst pa_nil) rfl)), fun D hrt hnx => ?_⟩
  exact xs_mreset mc hW (by simp) (by simp) rfl hk fun σ H ⟨F, f0, e, hh⟩ => hnx F σ H _ f0 hh ⟨rfl, stt_one.symm⟩
theorem sc_Mach_tally : FnScope ["self", "word"] ["self"] (defScope s_Mach_tally) := ⟨rfl, rfl, rfl, by decide +kernel, rfl, by decide +kernel, by decide +kernel⟩
theorem ok_Mach_tally {f : Addr} {fd : FuncData} (F : Fun T.K "tally" "Machine.tally" s_Mach_tally f fd) (mc : MCls T.K (T.C 0)) {aW : Addr} (g_WORDS : ∃ u, mg "WORDS" = some u ∧ RelV (.ref aW) u) (hW : ∀ H, SqT T.K H aW (mwords.map V.str)) : FnOk P w T.K mg base CX0 1 f fd ["self"] (mkSp (Pre_Mach_tally T)) := by
  refine fn_ok F sc_Mach_tally (fun As Ω R h => ?_) (fun cdv A outer s H E hr As Ω R F0 h => ?_)
  · obtain ⟨k, p, x, rfl, _⟩ := h; rfl
  obtain ⟨k, p, x, rfl, hk, rfl⟩ := h
  refine ⟨_, pss_one (ps_ret (pe_lc (own := [("word", 1)]) rfl sc_Mach_tally.nd (pi_tup (pe_gl rfl g_WORDS)) (blkOk_by (N := ["self", "word"]) (sc := defScope s_Mach_tally) (by decide +kernel)) (fun _ _ _ _ _ => pg_name (i := 1) sc_Mach_tally.nd rfl (.inl rfl)) (fun _ _ _ _ _ => pts_nil) (fun _ _ _ _ _ => pe_tup (pa_cons (pv 1) (pa_cons (pe_dget (by exact hu_of hr) (pe_fldK (K := T.K) (pv 0) (by rfl) rfl) (pv 1) (by intro _ _; rfl)) pa_nil))))), fun D hrt hnx => ?_⟩
  exact xs_ret (xe_tally mc hW (by simp) rfl (by simp [wip]) hk) hrt
theorem sc_Mach_walk : FnScope ["self"] ["self"] (defScope s_Mach_walk) := ⟨rfl, rfl, rfl, by decide +kernel, rfl, by decide +kernel, by decide +kernel⟩
theorem ok_Mach_walk {f : Addr} {fd : FuncData} (F : Fun T.K "walk" "Machine.walk" s_Mach_walk f fd) (mc : MCls T.K (T.C 0)) (z_list : mg "list" = none) : FnOk P w T.K mg base CX0 1 f fd ["self"] (mkSp (Pre_Mach_walk T)) := by
  refine fn_ok F sc_Mach_walk (fun As Ω R h => ?_) (fun cdv A outer s H E hr As Ω R F0 h => ?_)
  · obtain ⟨k, p, x, rfl, _⟩ := h; rfl
  obtain ⟨k, p, x, rfl, hk, rfl⟩ := h
  refine ⟨_, pss_one (ps_ret (pe_callTy cr_list (by rfl) z_list (by decide +kernel) (pa_cons (pe_fld (pv 0) (by rfl)) pa_nil))), fun D hrt hnx => ?_⟩
  exact xs_ret (xe_walk mc rfl hk) hrt
theorem sc_Mach_init : FnScope ["self", "bits", "cutoff", "word"] ["self", "bits", "cutoff"] (defScope s_Mach_init) := ⟨rfl, rfl, rfl, by decide +kernel, rfl, by decide +kernel, by decide +kernel⟩
theorem ok_Mach_init {f : Addr} {fd : FuncData} (F : FunD T.K "__init__" "Machine.__init__" (defArgs s_Mach_init) (defBody s_Mach_init) (defScope s_Mach_init) [.int 30, .int 70] [] f fd) (mc : MCls T.K (T.C 0)) {aW : Addr} (g_WORDS : ∃ u, mg "WORDS" = some u ∧ RelV (.ref aW) u) (hW : ∀ H, SqT T.K H aW (mwords.map V.str)) (c_is_between : Cal P w T.K mg base 2 "is_between" ["value", "low", "high"] (mkSp (Pre_is_between T))) : FnOk P w T.K mg base CX0 3 f fd ["self", "bits", "cutoff"] (mkSp (Pre_Machine T)) := by
  refine fn_okD F sc_Mach_init (fun As Ω R h => ?_) (fun cdv A outer s H E hr As Ω R F0 h => ?_)
  · obtain ⟨Ω0, p, w, c, rfl, _⟩ := h; rfl
  obtain ⟨Ω0, p, w, c, rfl, hc, rfl, rfl⟩ := h
  refine ⟨_, pss_cons (ps_if (pt_not (pt_val (pe_cal c_is_between (hr.mono (by decide)) (by rfl) (pa_cons (pv 1) (pa_cons pe_int (pa_cons pe_int pa_nil)))))) pss_never pss_nil) (pss_cons (ps_if (pt_not (pt_val (pe_cal c_is_between (hr.mono (by decide)) (by rfl) (pa_cons (pv 2) (pa_cons pe_int (pa_cons pe_int pa_nil)))))) pss_never pss_nil) (pss_cons (ps_fld (pv 0) (pv 1) rfl) (pss_cons (ps_fld (pv 0) (pv 2) rfl) (pss_cons (ps_fld (pv 0) (pe_dc (own := [("word", 3)]) rfl sc_Mach_init.nd (pi_tup (pe_gl rfl g_WORDS)) (blkOk_by (N := ["self", "bits", "cutoff", "word"]) (sc := defScope s_Mach_init) (by decide +kernel)) (fun _ _ _ _ _ => pg_name (i := 3) sc_Mach_init.nd rfl (.inl rfl)) (fun _ _ _ _ _ => pts_nil) (fun _ _ _ _ _ => pv 3) (fun _ _ _ _ _ => pe_int)) rfl) (pss_one (ps_fld (pv 0) (pe_lst pa_nil) rfl)))))), fun D hrt hnx => ?_⟩
  have m1 : M_is_between w 8 30 = some true := by simp [M_is_between, M_is_integer, hc.1.1, hc.1.2]
  have m2 : M_is_between c 2 1000 = some true := by simp [M_is_between, M_is_integer, hc.2.1, hc.2.2]
  show XS _ D F0 [some (vr p), some (va T w), some (va T c), none] _
  refine xs_ifN (xt_notF (xt_tB (T := T) (xe_call (xa_cons (xe_var (i := 1) rfl) (xa_cons xe_int (xa_cons xe_int xa_nil))) ⟨w, 8, 30, true, rfl, m1, rfl⟩ (List.append_nil _)))) ?_
  show XS _ D F0 [some (vr p), some (va T w), some (va T c), none] _
  refine xs_ifN (xt_notF (xt_tB (T := T) (xe_call (xa_cons (xe_var (i := 2) rfl) (xa_cons xe_int (xa_cons xe_int xa_nil))) ⟨c, 2, 1000, true, rfl, m2, rfl⟩ (List.append_nil _)))) ?_
  show XS _ D F0 [some (vr p), some (va T w), some (va T c), none] _
  exact xs_minit (k := Ω0.length) mc hW (by simp) (by simp) rfl rfl rfl app_at fun σ H ⟨F, f0, e, hh⟩ => hnx F σ H _ f0 hh ⟨rfl, set_last⟩
noncomputable def M_Big_eq (x0 : Bg) (x1 : Bg) : Option Bool :=
  some (true && ((decide (x0.w = x1.w)) && (decide (x0.v = x1.v))))
def Pre_Big_eq (T : TC) : PreT := fun As Ω R => ∃ (x0 : Bg) (x1 : Bg) (r : Bool), As = [va T x0, va T x1] ∧ M_Big_eq x0 x1 = some r ∧ R = RV (va T r) (stt Ω [] [])
theorem sc_Big_eq : FnScope ["self", "other"] ["self", "other"] (defScope s_Big_eq) := ⟨rfl, rfl, rfl, by decide +kernel, rfl, by decide +kernel, by decide +kernel⟩
theorem ok_Big_eq {f : Addr} {fd : FuncData} (F : Fun T.K "__eq__" "Big.__eq__" s_Big_eq f fd) (z_isinstance : mg "isinstance" = none) (icb : ICls T.K (T.C 1)) (g_Big : ∃ u, mg "Big" = some u ∧ RelV (.ref (T.C 1)) u) (bc : BCls T.K (T.C 1)) : FnOk P w T.K mg base CX0 1 f fd ["self", "other"] (mkSp (Pre_Big_eq T)) := by
  refine fn_ok F sc_Big_eq (fun As Ω R h => ?_) (fun cdv A outer s H E hr As Ω R F0 h => ?_)
  · obtain ⟨x0, x1, r, rfl, _⟩ := h
    rfl
  obtain ⟨x0, x1, r, rfl, hm, rfl⟩ := h
  refine ⟨_, (pss_one (ps_ret (pe_and (pe_callB (cr_isiK (K := T.K) rfl) (by rfl) z_isinstance (by decide +kernel) (pa_cons (pv 1) (pa_cons (pe_gl rfl g_Big) pa_nil))) (pe_and (pe_cmpR (op_eqXK (K := T.K) (by exact hr.units) rfl) (pe_fldK (K := T.K) (pv 0) (by rfl) rfl) (pe_fldK (K := T.K) (pv 1) (by rfl) rfl) (nomark _)) (pe_one (pe_cmpR (op_eqXK (K := T.K) (by exact hr.units) rfl) (pe_fldK (K := T.K) (pv 0) (by rfl) rfl) (pe_fldK (K := T.K) (pv 1) (by rfl) rfl) (nomark _))))))), fun D hrt hnx => ?_⟩
  have ok : Okk Ω [] := okk0
  suffices hx : XS _ D F0 [some (va T x0), some (va T x1)] (stt Ω [] []) by
    rw [show (stt Ω [] []) = Ω from stt_self (by simp)] at hx
    exact hx
  unfold M_Big_eq at hm
  obtain rfl := Option.some.inj hm
  refine xs_ret (xe_andV (xe_isi (xe_var (i := 1) rfl) xe_vx (.own _) (fun F H v hh a => ty_big icb hh a) icb.kit) (fun _ => (xe_andV (xe_eqI (xe_bw bc.cl bc.nw (xe_var (i := 0) rfl)) (xe_bw bc.cl bc.nw (xe_var (i := 1) rfl))) (fun _ => (xe_eqI (xe_bv bc.cl bc.nv (xe_var (i := 0) rfl)) (xe_bv bc.cl bc.nv (xe_var (i := 1) rfl))))))) hrt.all
noncomputable def M_Big_digits (x0 : Bg) : Option (List Int) :=
  some x0.row
def Pre_Big_digits (T : TC) : PreT := fun As Ω R => ∃ (x0 : Bg) (r : List Int), As = [va T x0] ∧ M_Big_digits x0 = some r ∧ R = RV (va T (LF.mk r)) (stt Ω [] [])
theorem sc_Big_digits : FnScope ["self"] ["self"] (defScope s_Big_digits) := ⟨rfl, rfl, rfl, by decide +kernel, rfl, by decide +kernel, by decide +kernel⟩
theorem ok_Big_digits {f : Addr} {fd : FuncData} (F : Fun T.K "digits" "Big.digits" s_Big_digits f fd) (bc : BCls T.K (T.C 1)) (z_list : mg "list" = none) : FnOk P w T.K mg base CX0 1 f fd ["self"] (mkSp (Pre_Big_digits T)) := by
  refine fn_ok F sc_Big_digits (fun As Ω R h => ?_) (fun cdv A outer s H E hr As Ω R F0 h => ?_)
  · obtain ⟨x0, r, rfl, _⟩ := h
    rfl
  obtain ⟨x0, r, rfl, hm, rfl⟩ := h
  refine ⟨_, (pss_one (ps_ret (pe_callTy (cr_listK (K := T.K) rfl) (by rfl) z_list (by decide +kernel) (pa_cons (pe_fldK (K := T.K) (pv 0) (by rfl) rfl) pa_nil)))), fun D hrt hnx => ?_⟩
  have ok : Okk Ω [] := okk0
  suffices hx : XS _ D F0 [some (va T x0)] (stt Ω [] []) by
    rw [show (stt Ω [] []) = Ω from stt_self (by simp)] at hx
    exact hx
  unfold M_Big_digits at hm
  obtain rfl := Option.some.inj hm
  refine xs_ret (xe_listT (xe_br bc.cl bc.nr (xe_var (i := 0) rfl)) isT_TF) hrt.all
noncomputable def M_Big_sign (x0 : Bg) : Option Int :=
  some (sgn x0.v)
def Pre_Big_sign (T : TC) : PreT := fun As Ω R => ∃ (x0 : Bg) (r : Int), As = [va T x0] ∧ M_Big_sign x0 = some r ∧ R = RV (va T r) (stt Ω [] [])
theorem sc_Big_sign : FnScope ["self"] ["self"] (defScope s_Big_sign) := ⟨rfl, rfl, rfl, by decide +kernel, rfl, by decide +kernel, by decide +kernel⟩
theorem ok_Big_sign {f : Addr} {fd : FuncData} (F : Fun T.K "sign" "Big.sign" s_Big_sign f fd) (bc : BCls T.K (T.C 1)) : FnOk P w T.K mg base CX0 1 f fd ["self"] (mkSp (Pre_Big_sign T)) := by
  refine fn_ok F sc_Big_sign (fun As Ω R h => ?_) (fun cdv A outer s H E hr As Ω R F0 h => ?_)
  · obtain ⟨x0, r, rfl, _⟩ := h
    rfl
  obtain ⟨x0, r, rfl, hm, rfl⟩ := h
  refine ⟨_, (pss_one (ps_ret (pe_fldK (K := T.K) (pv 0) (by rfl) rfl))), fun D hrt hnx => ?_⟩
  have ok : Okk Ω [] := okk0
  suffices hx : XS _ D F0 [some (va T x0)] (stt Ω [] []) by
    rw [show (stt Ω [] []) = Ω from stt_self (by simp)] at hx
    exact hx
  unfold M_Big_sign at hm
  obtain rfl := Option.some.inj hm
  refine xs_ret (xe_bs bc.cl bc.ns (xe_var (i := 0) rfl)) hrt.all
noncomputable def M_Big_bits (x0 : Bg) : Option Int :=
  some x0.w
def Pre_Big_bits (T : TC) : PreT := fun As Ω R => ∃ (x0 : Bg) (r : Int), As = [va T x0] ∧ M_Big_bits x0 = some r ∧ R = RV (va T r) (stt Ω [] [])
theorem sc_Big_bits : FnScope ["self"] ["self"] (defScope s_Big_bits) := ⟨rfl, rfl, rfl, by decide +kernel, rfl, by decide +kernel, by decide +kernel⟩
theorem ok_Big_bits {f : Addr} {fd : FuncData} (F : Fun T.K "bits" "Big.bits" s_Big_bits f fd) (bc : BCls T.K (T.C 1)) : FnOk P w T.K mg base CX0 1 f fd ["self"] (mkSp (Pre_Big_bits T)) := by
  refine fn_ok F sc_Big_bits (fun As Ω R h => ?_) (fun cdv A outer s H E hr As Ω R F0 h => ?_)
  · obtain ⟨x0, r, rfl, _⟩ := h
    rfl
  obtain ⟨x0, r, rfl, hm, rfl⟩ := h
  refine ⟨_, (pss_one (ps_ret (pe_fldK (K := T.K) (pv 0) (by rfl) rfl))), fun D hrt hnx => ?_⟩
  have ok : Okk Ω [] := okk0
  suffices hx : XS _ D F0 [some (va T x0)] (stt Ω [] []) by
    rw [show (stt Ω [] []) = Ω from stt_self (by simp)] at hx
    exact hx
  unfold M_Big_bits at hm
  obtain rfl := Option.some.inj hm
  refine xs_ret (xe_bw bc.cl bc.nw (xe_var (i := 0) rfl)) hrt.all
noncomputable def M_order_of (x0 : Int) (x1 : Int) : Option Int :=
  if (decide (x0 < x1)) = true then some (-(1 : Int)) else some (if (decide (x0 = x1)) = true then (0 : Int) else (1 : Int))
def Pre_order_of (T : TC) : PreT := fun As Ω R => ∃ (x0 : Int) (x1 : Int) (r : Int), As = [va T x0, va T x1] ∧ M_order_of x0 x1 = some r ∧ R = RV (va T r) (stt Ω [] [])
theorem sc_order_of : FnScope ["a", "b"] ["a", "b"] (defScope s_order_of) := ⟨rfl, rfl, rfl, by decide +kernel, rfl, by decide +kernel, by decide +kernel⟩
theorem ok_order_of {f : Addr} {fd : FuncData} (F : Fun T.K "order_of" "order_of" s_order_of f fd)  : FnOk P w T.K mg base CX0 1 f fd ["a", "b"] (mkSp (Pre_order_of T)) := by
  refine fn_ok F sc_order_of (fun As Ω R h => ?_) (fun cdv A outer s H E hr As Ω R F0 h => ?_)
  · obtain ⟨x0, x1, r, rfl, _⟩ := h
    rfl
  obtain ⟨x0, x1, r, rfl, hm, rfl⟩ := h
  refine ⟨_, (pss_cons (ps_if (pt_cmpR op_lt (pv 0) (pv 1) (nomark _)) (pss_one (ps_ret (pe_un un_neg pe_int))) pss_nil) (pss_one (ps_ret (pe_ifExp (pt_cmpR (op_eqXK (K := T.K) (by exact hr.units) rfl) (pv 0) (pv 1) (nomark _)) pe_int pe_int)))), fun D hrt hnx => ?_⟩
  have ok : Okk Ω [] := okk0
  suffices hx : XS _ D F0 [some (va T x0), some (va T x1)] (stt Ω [] []) by
    rw [show (stt Ω [] []) = Ω from stt_self (by simp)] at hx
    exact hx
  unfold M_order_of at hm
  by_cases hc : (decide (x0 < x1)) = true
  · rw [if_pos hc] at hm
    refine xs_ifT (xt_eq (xt_test (T := T) (xe_lt (xe_var (i := 0) rfl) (xe_var (i := 1) rfl))) hc) ?_
    obtain rfl := Option.some.inj hm
    refine xs_ret (xe_neg xe_int) hrt.all
  · rw [if_neg hc] at hm
    refine xs_ifN (xt_eq (xt_test (T := T) (xe_lt (xe_var (i := 0) rfl) (xe_var (i := 1) rfl))) (nt hc)) ?_
    show XS (tRet _) _ _ [some (va T x0), some (va T x1)] (stt Ω [] [])
    obtain rfl := Option.some.inj hm
    refine xs_ret (xe_ite (xt_test (T := T) (xe_eqI (xe_var (i := 0) rfl) (xe_var (i := 1) rfl))) xe_int xe_int) hrt.all
theorem sc_Big_init : FnScope ["self", "width", "value", "row"] ["self", "width", "value", "row"] (defScope s_Big_init) := ⟨rfl, rfl, rfl, by decide +kernel, rfl, by decide +kernel, by decide +kernel⟩
theorem order_sgn (v : Int) : M_order_of v 0 = some (sgn v) := by
  unfold M_order_of sgn
  by_cases h : v < 0
  · rw [if_pos (decide_eq_true h), if_pos h]
  · rw [if_neg (by simpa using h), if_neg h]
    by_cases e : v = 0
    · rw [if_pos (decide_eq_true e), if_pos e]
    · rw [if_neg (by simpa using e), if_neg e]
theorem ok_Big_init {f : Addr} {fd : FuncData} (F : Fun T.K "__init__" "Big.__init__" s_Big_init f fd) (bc : BCls T.K (T.C 1)) (z_tuple : mg "tuple" = none) (c_order_of : Cal P w T.K mg base 1 "order_of" ["a", "b"] (mkSp (Pre_order_of T))) : FnOk P w T.K mg base CX0 2 f fd ["self", "width", "value", "row"] (mkSp (Pre_Big T)) := by
  refine fn_ok F sc_Big_init (fun As Ω R h => ?_) (fun cdv A outer s H E hr As Ω R F0 h => ?_)
  · obtain ⟨Ω0, p, w, sd, row, B, _, rfl, _⟩ := h; rfl
  obtain ⟨Ω0, p, w, sd, row, B, hB, rfl, rfl, rfl⟩ := h
  refine ⟨_, pss_cons (ps_fld (pv 0) (pv 1) rfl) (pss_cons (ps_fld (pv 0) (pe_cal c_order_of (hr.mono (by decide)) (by rfl) (pa_cons (pv 2) (pa_cons pe_int pa_nil))) rfl) (pss_cons (ps_fld (pv 0) (pe_callTy cr_tuple (by rfl) z_tuple (by decide +kernel) (pa_cons (pv 3) pa_nil)) rfl) (pss_one (ps_fld (pv 0) (pv 2) rfl)))), fun D hrt hnx => ?_⟩
  show XS _ D F0 [some (vr p), some (va T w), some (va T sd), some B] _
  refine xs_binit (k := Ω0.length) (row := row) bc rfl rfl rfl (fun Ω' => xe_call (xa_cons (xe_var (i := 2) rfl) (xa_cons xe_int xa_nil)) ⟨sd, 0, sgn sd, rfl, order_sgn sd, rfl⟩ cal0') (fun Ω' => ?_) app_at fun σ H ⟨F, f0, e, hh⟩ => hnx F σ H _ f0 hh ⟨rfl, set_last⟩
  rcases hB with rfl | rfl
  · exact xe_tupleL (xe_var (i := 3) rfl) isL_LF
  · exact xe_tupleT (xe_var (i := 3) rfl)
noncomputable def M_check_machine (x0 : MS) : Option Unit :=
  (chkP (true = true)).bind fun z1 => some ()
def Pre_check_machine (T : TC) : PreT := fun As Ω R => ∃ (k0 : Nat) (p0 : Addr) (x0 : MS) (r : Unit), As = [vr p0] ∧ Ω[k0]? = some (machA T p0 x0) ∧ M_check_machine x0 = some r ∧ R = RV (va T r) (stt Ω [] [])
theorem sc_check_machine : FnScope ["machine"] ["machine"] (defScope s_check_machine) := ⟨rfl, rfl, rfl, by decide +kernel, rfl, by decide +kernel, by decide +kernel⟩
theorem ok_check_machine {f : Addr} {fd : FuncData} (F : Fun T.K "check_machine" "check_machine" s_check_machine f fd) (z_isinstance : mg "isinstance" = none) (icm : ICls T.K (T.C 0)) (g_Machine : ∃ u, mg "Machine" = some u ∧ RelV (.ref (T.C 0)) u) : FnOk P w T.K mg base CX0 1 f fd ["machine"] (mkSp (Pre_check_machine T)) := by
  refine fn_ok F sc_check_machine (fun As Ω R h => ?_) (fun cdv A outer s H E hr As Ω R F0 h => ?_)
  · obtain ⟨k0, p0, x0, r, rfl, _⟩ := h
    rfl
  obtain ⟨k0, p0, x0, r, rfl, hk0, hm, rfl⟩ := h
  refine ⟨_, (pss_one (ps_if (pt_not (pt_val (pe_callB (cr_isiK (K := T.K) rfl) (by rfl) z_isinstance (by decide +kernel) (pa_cons (pv 0) (pa_cons (pe_gl rfl g_Machine) pa_nil))))) pss_never pss_nil)), fun D hrt hnx => ?_⟩
  have ok : Okk Ω [] := okk0
  suffices hx : XS _ D F0 [some (vr p0)] (stt Ω [] []) by
    rw [show (stt Ω [] []) = Ω from stt_self (by simp)] at hx
    exact hx
  unfold M_check_machine at hm
  obtain ⟨z1, hz1, hm⟩ := bnd_some hm
  refine xs_ifF1 (xt_notF (xt_eq (xt_tB (T := T) (xe_isi (xe_var (i := 0) rfl) xe_vx (.own _) (fun F H v hh a => ty_mach icm (stt_getU hk0) hh a) icm.kit)) (chkP_some hz1))) ?_
  obtain rfl := Option.some.inj hm
  exact fun σ H ⟨F, f0, e, hh⟩ => hnx F σ H _ f0 hh.all ⟨rfl, rfl⟩
noncomputable def M_top_digit (x0 : Int) : Option Int :=
  (chkP (CShl (1 : Int) x0)).bind fun z1 => some (((1 : Int) * 2 ^ (x0).toNat) - (1 : Int))
def Pre_top_digit (T : TC) : PreT := fun As Ω R => ∃ (x0 : Int) (r : Int), As = [va T x0] ∧ M_top_digit x0 = some r ∧ R = RV (va T r) (stt Ω [] [])
theorem sc_top_digit : FnScope ["width"] ["width"] (defScope s_top_digit) := ⟨rfl, rfl, rfl, by decide +kernel, rfl, by decide +kernel, by decide +kernel⟩
theorem ok_top_digit {f : Addr} {fd : FuncData} (F : Fun T.K "top_digit" "top_digit" s_top_digit f fd)  : FnOk P w T.K mg base CX0 1 f fd ["width"] (mkSp (Pre_top_digit T)) := by
  refine fn_ok F sc_top_digit (fun As Ω R h => ?_) (fun cdv A outer s H E hr As Ω R F0 h => ?_)
  · obtain ⟨x0, r, rfl, _⟩ := h
    rfl
  obtain ⟨x0, r, rfl, hm, rfl⟩ := h
  refine ⟨_, (pss_one (ps_ret (pe_op op_sub (pe_op op_shlW pe_int (pv 0)) pe_int))), fun D hrt hnx => ?_⟩
  have ok : Okk Ω [] := okk0
  suffices hx : XS _ D F0 [some (va T x0)] (stt Ω [] []) by
    rw [show (stt Ω [] []) = Ω from stt_self (by simp)] at hx
    exact hx
  unfold M_top_digit at hm
  obtain ⟨z1, hz1, hm⟩ := bnd_some hm
  obtain rfl := Option.some.inj hm
  refine xs_ret (xe_sub (xe_shl (chkP_some hz1) xe_int (xe_var (i := 0) rfl)) xe_int) hrt.all
noncomputable def M_size_of (x0 : Int) (x1 : Int) : Option Int :=
  (chkP (CDivW ((((Builtin.Int.intBits x1 : Nat) : Int) + x0) - (1 : Int)) x0)).bind fun z1 => some (((((Builtin.Int.intBits x1 : Nat) : Int) + x0) - (1 : Int)) / x0)
def Pre_size_of (T : TC) : PreT := fun As Ω R => ∃ (x0 : Int) (x1 : Int) (r : Int), As = [va T x0, va T x1] ∧ M_size_of x0 x1 = some r ∧ R = RV (va T r) (stt Ω [] [])
theorem sc_size_of : FnScope ["width", "n"] ["width", "n"] (defScope s_size_of) := ⟨rfl, rfl, rfl, by decide +kernel, rfl, by decide +kernel, by decide +kernel⟩
theorem ok_size_of {f : Addr} {fd : FuncData} (F : Fun T.K "size_of" "size_of" s_size_of f fd)  : FnOk P w T.K mg base CX0 2 f fd ["width", "n"] (mkSp (Pre_size_of T)) := by
  refine fn_ok F sc_size_of (fun As Ω R h => ?_) (fun cdv A outer s H E hr As Ω R F0 h => ?_)
  · obtain ⟨x0, x1, r, rfl, _⟩ := h
    rfl
  obtain ⟨x0, x1, r, rfl, hm, rfl⟩ := h
  refine ⟨_, (pss_one (ps_ret (pe_op op_fdivW (pe_op op_sub (pe_op op_addQ (pe_bits (pv 1)) (pv 0)) pe_int) (pv 0)))), fun D hrt hnx => ?_⟩
  have ok : Okk Ω [] := okk0
  suffices hx : XS _ D F0 [some (va T x0), some (va T x1)] (stt Ω [] []) by
    rw [show (stt Ω [] []) = Ω from stt_self (by simp)] at hx
    exact hx
  unfold M_size_of at hm
  obtain ⟨z1, hz1, hm⟩ := bnd_some hm
  obtain rfl := Option.some.inj hm
  refine xs_ret (xe_fdiv (chkP_some hz1) (xe_sub (xe_add (xe_bits (xe_var (i := 1) rfl)) (xe_var (i := 0) rfl)) xe_int) (xe_var (i := 0) rfl)) hrt.all
noncomputable def M_number_of : Nat → Int → (List Int) → Option Int
  | 0, _, _ => none
  | kf + 1, x0, x1 => (some (x1.length : Int)).bind fun y1 => if (decide ((32 : Int) < y1)) = true then (chkP (CDivW y1 (2 : Int))).bind fun z2 => (some (y1 / (2 : Int))).bind fun y3 => (M_number_of kf x0 (cut x1 none (some y3))).bind fun z4 => (M_number_of kf x0 (cut x1 (some y3) none)).bind fun z5 => (chkP (IntMulOk y3 x0)).bind fun z6 => (chkP (CShl z5 (y3 * x0))).bind fun z7 => some (z4 + (z5 * 2 ^ ((y3 * x0)).toNat)) else (forM' (ρ := Unit) (fun (a9 : Int) (s8 : Int) => (chkP (CShl s8 x0)).bind fun z10 => (some ((s8 * 2 ^ (x0).toNat) + a9)).bind fun y11 => some (Stp.nx y11)) ((x1).reverse) (0 : Int)).bind fun z12 => (nxt z12).bind fun s13 => some s13
theorem M_number_of_succ (kf : Nat) (x0 : Int) (x1 : List Int) : M_number_of (kf + 1) x0 x1 = ((some (x1.length : Int)).bind fun y1 => if (decide ((32 : Int) < y1)) = true then (chkP (CDivW y1 (2 : Int))).bind fun z2 => (some (y1 / (2 : Int))).bind fun y3 => (M_number_of kf x0 (cut x1 none (some y3))).bind fun z4 => (M_number_of kf x0 (cut x1 (some y3) none)).bind fun z5 => (chkP (IntMulOk y3 x0)).bind fun z6 => (chkP (CShl z5 (y3 * x0))).bind fun z7 => some (z4 + (z5 * 2 ^ ((y3 * x0)).toNat)) else (forM' (ρ := Unit) (fun (a9 : Int) (s8 : Int) => (chkP (CShl s8 x0)).bind fun z10 => (some ((s8 * 2 ^ (x0).toNat) + a9)).bind fun y11 => some (Stp.nx y11)) ((x1).reverse) (0 : Int)).bind fun z12 => (nxt z12).bind fun s13 => some s13) := by rw [M_number_of]
theorem M_number_of_zero (x0 : Int) (x1 : List Int) : M_number_of 0 x0 x1 = none := by rw [M_number_of]
def Pre_number_of (kf : Nat) (T : TC) : PreT := fun As Ω R => ∃ (x0 : Int) (x1 : List Int) (r : Int), As = [va T x0, va T (LF.mk x1)] ∧ M_number_of kf x0 x1 = some r ∧ R = RV (va T r) (stt Ω [] [])
theorem sc_number_of : FnScope ["width", "row", "size", "half", "number", "digit"] ["width", "row"] (defScope s_number_of) := ⟨rfl, rfl, rfl, by decide +kernel, rfl, by decide +kernel, by decide +kernel⟩
theorem ok0_number_of {f : Addr} {fd : FuncData} (F : Fun T.K "number_of" "number_of" s_number_of f fd) : FnOk P w T.K mg base CX0 1 f fd ["width", "row"] (mkSp (Pre_number_of 0 T)) := by
  refine fn_ok (k := 0) F sc_number_of (fun As Ω R h => ?_) (fun cdv A outer s H E hr As Ω R F0 h => ?_)
  · obtain ⟨x0, x1, r, rfl, _⟩ := h
    rfl
  obtain ⟨x0, x1, r, rfl, hm, rfl⟩ := h
  rw [M_number_of_zero] at hm
  cases hm
theorem ok_number_of (kf : Nat) {f : Addr} {fd : FuncData} (F : Fun T.K "number_of" "number_of" s_number_of f fd) (z_len : mg "len" = none) (g_LONGEST_LOOP : ∃ u, mg "LONGEST_LOOP" = some u ∧ RelV (.int 32) u) (c_number_of : Cal P w T.K mg base (1 + kf) "number_of" ["width", "row"] (mkSp (Pre_number_of kf T))) (z_reversed : mg "reversed" = none) : FnOk P w T.K mg base CX0 (1 + kf + 1) f fd ["width", "row"] (mkSp (Pre_number_of (kf + 1) T)) := by
  refine fn_ok F sc_number_of (fun As Ω R h => ?_) (fun cdv A outer s H E hr As Ω R F0 h => ?_)
  · obtain ⟨x0, x1, r, rfl, _⟩ := h
    rfl
  obtain ⟨x0, x1, r, rfl, hm, rfl⟩ := h
  refine ⟨_, (pss_cons (ps_set (i := 2) sc_number_of.nd rfl (.inl rfl) (pe_callB (cr_lenK (K := T.K) rfl) (by rfl) z_len PySem.boot_len (pa_cons (pv 1) pa_nil))) (pss_cons (ps_if (pt_cmpR op_gt (pv 2) (pe_gl rfl g_LONGEST_LOOP) (nomark _)) (pss_cons (ps_set (i := 3) sc_number_of.nd rfl (.inl rfl) (pe_op op_fdivW (pv 2) pe_int)) (pss_one (ps_ret (pe_op op_addQ (pe_cal c_number_of (hr.mono (by omega)) (by rfl) (pa_cons (pv 0) (pa_cons (pe_slice (sl_listK (K := T.K) rfl) (pv 1) po_none (po_some (pv 3))) pa_nil))) (pe_op op_shlW (pe_cal c_number_of (hr.mono (by omega)) (by rfl) (pa_cons (pv 0) (pa_cons (pe_slice (sl_listK (K := T.K) rfl) (pv 1) (po_some (pv 3)) po_none) pa_nil))) (pe_op op_mulQ (pv 3) (pv 0))))))) pss_nil) (pss_cons (ps_set (i := 4) sc_number_of.nd rfl (.inl rfl) pe_int) (pss_cons (ps_for PassesOwn.never rfl (RT.pi_revA (by rfl) z_reversed (pv 1)) (pg_name (i := 5) sc_number_of.nd rfl (.inl rfl)) (pss_one (ps_set (i := 4) sc_number_of.nd rfl (.inl rfl) (pe_op op_addQ (pe_op op_shlW (pv 4) (pv 0)) (pv 5))))) (pss_one (ps_ret (pv 4))))))), fun D hrt hnx => ?_⟩
  have ok : Okk Ω [] := okk0
  suffices hx : XS _ D F0 [some (va T x0), some (va T (LF.mk x1)), none, none, none, none] (stt Ω [] []) by
    rw [show (stt Ω [] []) = Ω from stt_self (by simp)] at hx
    exact hx
  rw [M_number_of_succ] at hm
  obtain ⟨y1, hy1, hm⟩ := bnd_some hm
  refine xs_set (A := va T y1) (xe_eq (xe_lenL (xe_var (i := 1) rfl) isL_LF) (Option.some.inj hy1)) ?_
  show XS (tSeq _ _) _ _ [some (va T x0), some (va T (LF.mk x1)), some (va T y1), none, none, none] (stt Ω [] [])
  by_cases hc : (decide ((32 : Int) < y1)) = true
  · rw [if_pos hc] at hm
    refine xs_ifT (xt_eq (xt_test (T := T) (xe_gt (xe_var (i := 2) rfl) xe_int)) hc) ?_
    obtain ⟨z2, hz2, hm⟩ := bnd_some hm
    obtain ⟨y3, hy3, hm⟩ := bnd_some hm
    refine xs_set (A := va T y3) (xe_eq (xe_fdiv (chkP_some hz2) (xe_var (i := 2) rfl) xe_int) (Option.some.inj hy3)) ?_
    show XS (tRet _) _ _ [some (va T x0), some (va T (LF.mk x1)), some (va T y1), some (va T y3), none, none] (stt Ω [] [])
    obtain ⟨z4, hz4, hm⟩ := bnd_some hm
    obtain ⟨z5, hz5, hm⟩ := bnd_some hm
    obtain ⟨z6, hz6, hm⟩ := bnd_some hm
    obtain ⟨z7, hz7, hm⟩ := bnd_some hm
    obtain rfl := Option.some.inj hm
    refine xs_ret (xe_add (xe_call (xa_cons (xe_var (i := 0) rfl) (xa_cons (xe_sliceL (xe_var (i := 1) rfl) xo_none (xo_some (T := T) (xe_var (i := 3) rfl)) isL_LF) xa_nil)) ⟨x0, (cut x1 none (some y3)), z4, rfl, hz4, rfl⟩ cal0) (xe_shl (chkP_some hz7) (xe_call (xa_cons (xe_var (i := 0) rfl) (xa_cons (xe_sliceL (xe_var (i := 1) rfl) (xo_some (T := T) (xe_var (i := 3) rfl)) xo_none isL_LF) xa_nil)) ⟨x0, (cut x1 (some y3) none), z5, rfl, hz5, rfl⟩ cal0) (xe_mul (chkP_some hz6) (xe_var (i := 3) rfl) (xe_var (i := 0) rfl)))) hrt.all
  · rw [if_neg hc] at hm
    refine xs_ifN (xt_eq (xt_test (T := T) (xe_gt (xe_var (i := 2) rfl) xe_int)) (nt hc)) ?_
    show XS (tSeq _ _) _ _ [some (va T x0), some (va T (LF.mk x1)), some (va T y1), none, none, none] (stt Ω [] [])
    refine xs_set (A := va T (0 : Int)) xe_int ?_
    show XS (tSeq _ _) _ _ [some (va T x0), some (va T (LF.mk x1)), some (va T y1), none, some (va T (0 : Int)), none] (stt Ω [] [])
    obtain ⟨z12, hz12, hm⟩ := bnd_some hm
    refine xs_forS (fun (s8 : Int) => [some (va T x0), some (va T (LF.mk x1)), some (va T y1), none, some (va T s8), none]) (fun (s8 : Int) => (stt Ω [] [])) (fun (_ : Unit) _ _ _ => False) hz12 (xi_revL (xe_var (i := 1) rfl)) (fun _ => tgt_name) (fun a9 s8 s' ha hm F1 D1 e1 hD => ?_) (fun s13 es => ?_) (fun r1 es => ?_)
    · show XS (tAsg _ _) _ _ [some (va T x0), some (va T (LF.mk x1)), some (va T y1), none, some (va T s8), some (va T a9)] (stt Ω [] [])
      obtain ⟨z10, hz10, hm⟩ := bnd_some hm
      obtain ⟨y11, hy11, hm⟩ := bnd_some hm
      refine xs_set1 (A := va T y11) (xe_eq (xe_add (xe_shl (chkP_some hz10) (xe_var (i := 4) rfl) (xe_var (i := 0) rfl)) (xe_var (i := 5) rfl)) (Option.some.inj hy11)) ?_
      obtain rfl := Option.some.inj hm
      exact fun σ H n => hD.nx _ rfl σ H (n.forget 5)
    · subst es
      obtain ⟨s2, hs2, hm⟩ := bnd_some hm
      cases hs2
      show XS (tRet _) _ _ [some (va T x0), some (va T (LF.mk x1)), some (va T y1), none, some (va T s13), none] (stt Ω [] [])
      obtain rfl := Option.some.inj hm
      refine xs_ret (xe_var (i := 4) rfl) hrt.all
    · subst es
      cases hm
noncomputable def M_low_part (x0 : Int) (x1 : Int) (x2 : Int) : Option Int :=
  (chkP (IntMulOk x2 x0)).bind fun z1 => (chkP (CShl (1 : Int) (x2 * x0))).bind fun z2 => some (Builtin.bitAnd x1 (((1 : Int) * 2 ^ ((x2 * x0)).toNat) - (1 : Int)))
def Pre_low_part (T : TC) : PreT := fun As Ω R => ∃ (x0 : Int) (x1 : Int) (x2 : Int) (r : Int), As = [va T x0, va T x1, va T x2] ∧ M_low_part x0 x1 x2 = some r ∧ R = RV (va T r) (stt Ω [] [])
theorem sc_low_part : FnScope ["width", "n", "size"] ["width", "n", "size"] (defScope s_low_part) := ⟨rfl, rfl, rfl, by decide +kernel, rfl, by decide +kernel, by decide +kernel⟩
theorem ok_low_part {f : Addr} {fd : FuncData} (F : Fun T.K "low_part" "low_part" s_low_part f fd)  : FnOk P w T.K mg base CX0 1 f fd ["width", "n", "size"] (mkSp (Pre_low_part T)) := by
  refine fn_ok F sc_low_part (fun As Ω R h => ?_) (fun cdv A outer s H E hr As Ω R F0 h => ?_)
  · obtain ⟨x0, x1, x2, r, rfl, _⟩ := h
    rfl
  obtain ⟨x0, x1, x2, r, rfl, hm, rfl⟩ := h
  refine ⟨_, (pss_one (ps_ret (pe_op op_and (pv 1) (pe_op op_sub (pe_op op_shlW pe_int (pe_op op_mulQ (pv 2) (pv 0))) pe_int)))), fun D hrt hnx => ?_⟩
  have ok : Okk Ω [] := okk0
  suffices hx : XS _ D F0 [some (va T x0), some (va T x1), some (va T x2)] (stt Ω [] []) by
    rw [show (stt Ω [] []) = Ω from stt_self (by simp)] at hx
    exact hx
  unfold M_low_part at hm
  obtain ⟨z1, hz1, hm⟩ := bnd_some hm
  obtain ⟨z2, hz2, hm⟩ := bnd_some hm
  obtain rfl := Option.some.inj hm
  refine xs_ret (xe_band (xe_var (i := 1) rfl) (xe_sub (xe_shl (chkP_some hz2) xe_int (xe_mul (chkP_some hz1) (xe_var (i := 2) rfl) (xe_var (i := 0) rfl))) xe_int)) hrt.all
noncomputable def M_row_of : Nat → Int → Int → Int → Option (List Int)
  | 0, _, _, _ => none
  | kf + 1, x0, x1, x2 => if (decide ((32 : Int) < x2)) = true then (chkP (CDivW x2 (2 : Int))).bind fun z1 => (some (x2 / (2 : Int))).bind fun y2 => (M_low_part x0 x1 y2).bind fun z3 => (M_row_of kf x0 z3 y2).bind fun z4 => (chkP (IntMulOk y2 x0)).bind fun z5 => (chkP (0 ≤ (y2 * x0))).bind fun z6 => (M_row_of kf x0 (x1 / 2 ^ ((y2 * x0)).toNat) (x2 - y2)).bind fun z7 => (chkP (z4.length + z7.length ≤ sizeLine)).bind fun z8 => some (z4 ++ z7) else (M_top_digit x0).bind fun z9 => (some ([] : List Int)).bind fun y10 => (chkP (-(2 ^ 62) ≤ x2 ∧ x2 < 2 ^ 62)).bind fun z13 => (forM' (ρ := Unit) (fun (a15 : Int) (s14 : Int × (List Int)) => (chkP (s14.2.length < sizeLine)).bind fun z16 => (chkP (0 ≤ x0)).bind fun z17 => (some (s14.1 / 2 ^ (x0).toNat)).bind fun y18 => some (Stp.nx (y18, (s14.2 ++ [(Builtin.bitAnd s14.1 z9)])))) (rng 0 (x2).toNat) (x1, y10)).bind fun z19 => (nxt z19).bind fun s20 => some s20.2
theorem M_row_of_succ (kf : Nat) (x0 : Int) (x1 : Int) (x2 : Int) : M_row_of (kf + 1) x0 x1 x2 = (if (decide ((32 : Int) < x2)) = true then (chkP (CDivW x2 (2 : Int))).bind fun z1 => (some (x2 / (2 : Int))).bind fun y2 => (M_low_part x0 x1 y2).bind fun z3 => (M_row_of kf x0 z3 y2).bind fun z4 => (chkP (IntMulOk y2 x0)).bind fun z5 => (chkP (0 ≤ (y2 * x0))).bind fun z6 => (M_row_of kf x0 (x1 / 2 ^ ((y2 * x0)).toNat) (x2 - y2)).bind fun z7 => (chkP (z4.length + z7.length ≤ sizeLine)).bind fun z8 => some (z4 ++ z7) else (M_top_digit x0).bind fun z9 => (some ([] : List Int)).bind fun y10 => (chkP (-(2 ^ 62) ≤ x2 ∧ x2 < 2 ^ 62)).bind fun z13 => (forM' (ρ := Unit) (fun (a15 : Int) (s14 : Int × (List Int)) => (chkP (s14.2.length < sizeLine)).bind fun z16 => (chkP (0 ≤ x0)).bind fun z17 => (some (s14.1 / 2 ^ (x0).toNat)).bind fun y18 => some (Stp.nx (y18, (s14.2 ++ [(Builtin.bitAnd s14.1 z9)])))) (rng 0 (x2).toNat) (x1, y10)).bind fun z19 => (nxt z19).bind fun s20 => some s20.2) := by rw [M_row_of]
theorem M_row_of_zero (x0 : Int) (x1 : Int) (x2 : Int) : M_row_of 0 x0 x1 x2 = none := by rw [M_row_of]
def Pre_row_of (kf : Nat) (T : TC) : PreT := fun As Ω R => ∃ (x0 : Int) (x1 : Int) (x2 : Int) (r : List Int), As = [va T x0, va T x1, va T x2] ∧ M_row_of kf x0 x1 x2 = some r ∧ R = RV (va T (LF.mk r)) (stt Ω [] [])
theorem sc_row_of : FnScope ["width", "n", "size", "half", "top", "row", "place"] ["width", "n", "size"] (defScope s_row_of) := ⟨rfl, rfl, rfl, by decide +kernel, rfl, by decide +kernel, by decide +kernel⟩
theorem ok0_row_of {f : Addr} {fd : FuncData} (F : Fun T.K "row_of" "row_of" s_row_of f fd) : FnOk P w T.K mg base CX0 1 f fd ["width", "n", "size"] (mkSp (Pre_row_of 0 T)) := by
  refine fn_ok (k := 0) F sc_row_of (fun As Ω R h => ?_) (fun cdv A outer s H E hr As Ω R F0 h => ?_)
  · obtain ⟨x0, x1, x2, r, rfl, _⟩ := h
    rfl
  obtain ⟨x0, x1, x2, r, rfl, hm, rfl⟩ := h
  rw [M_row_of_zero] at hm
  cases hm
theorem ok_row_of (kf : Nat) {f : Addr} {fd : FuncData} (F : Fun T.K "row_of" "row_of" s_row_of f fd) (g_LONGEST_LOOP : ∃ u, mg "LONGEST_LOOP" = some u ∧ RelV (.int 32) u) (c_low_part : Cal P w T.K mg base 1 "low_part" ["width", "n", "size"] (mkSp (Pre_low_part T))) (c_row_of : Cal P w T.K mg base (1 + kf) "row_of" ["width", "n", "size"] (mkSp (Pre_row_of kf T))) (c_top_digit : Cal P w T.K mg base 1 "top_digit" ["width"] (mkSp (Pre_top_digit T))) (z_range : mg "range" = none) : FnOk P w T.K mg base CX0 (1 + kf + 1) f fd ["width", "n", "size"] (mkSp (Pre_row_of (kf + 1) T)) := by
  refine fn_ok F sc_row_of (fun As Ω R h => ?_) (fun cdv A outer s H E hr As Ω R F0 h => ?_)
  · obtain ⟨x0, x1, x2, r, rfl, _⟩ := h
    rfl
  obtain ⟨x0, x1, x2, r, rfl, hm, rfl⟩ := h
  refine ⟨_, (pss_cons (ps_if (pt_cmpR op_gt (pv 2) (pe_gl rfl g_LONGEST_LOOP) (nomark _)) (pss_cons (ps_set (i := 3) sc_row_of.nd rfl (.inl rfl) (pe_op op_fdivW (pv 2) pe_int)) (pss_one (ps_ret (pe_op op_addQ (pe_cal c_row_of (hr.mono (by omega)) (by rfl) (pa_cons (pv 0) (pa_cons (pe_cal c_low_part (hr.mono (by omega)) (by rfl) (pa_cons (pv 0) (pa_cons (pv 1) (pa_cons (pv 3) pa_nil)))) (pa_cons (pv 3) pa_nil)))) (pe_cal c_row_of (hr.mono (by omega)) (by rfl) (pa_cons (pv 0) (pa_cons (pe_op op_shr (pv 1) (pe_op op_mulQ (pv 3) (pv 0))) (pa_cons (pe_op op_sub (pv 2) (pv 3)) pa_nil)))))))) pss_nil) (pss_cons (ps_set (i := 4) sc_row_of.nd rfl (.inl rfl) (pe_cal c_top_digit (hr.mono (by omega)) (by rfl) (pa_cons (pv 0) pa_nil))) (pss_cons (ps_set (i := 5) sc_row_of.nd rfl (.inl rfl) (pe_lst pa_nil)) (pss_cons (ps_for PassesOwn.never rfl (pi_range1 rfl z_range (pa_cons (pv 2) pa_nil)) (pg_name (i := 6) sc_row_of.nd rfl (.inl rfl)) (pss_cons (ps_expr (pe_bm PySem.F.plainAttrs_list PySem.F.slot_list_append PySem.F.type_list_append mt_append (pv 5) (pa_cons (pe_op op_and (pv 1) (pv 4)) pa_nil))) (pss_one (ps_aug (i := 1) sc_row_of.nd rfl (.inl rfl) (pv 0) (ip_of iop_shr))))) (pss_one (ps_ret (pv 5))))))), fun D hrt hnx => ?_⟩
  have ok : Okk Ω [] := okk0
  suffices hx : XS _ D F0 [some (va T x0), some (va T x1), some (va T x2), none, none, none, none] (stt Ω [] []) by
    rw [show (stt Ω [] []) = Ω from stt_self (by simp)] at hx
    exact hx
  rw [M_row_of_succ] at hm
  by_cases hc : (decide ((32 : Int) < x2)) = true
  · rw [if_pos hc] at hm
    refine xs_ifT (xt_eq (xt_test (T := T) (xe_gt (xe_var (i := 2) rfl) xe_int)) hc) ?_
    obtain ⟨z1, hz1, hm⟩ := bnd_some hm
    obtain ⟨y2, hy2, hm⟩ := bnd_some hm
    refine xs_set (A := va T y2) (xe_eq (xe_fdiv (chkP_some hz1) (xe_var (i := 2) rfl) xe_int) (Option.some.inj hy2)) ?_
    show XS (tRet _) _ _ [some (va T x0), some (va T x1), some (va T x2), some (va T y2), none, none, none] (stt Ω [] [])
    obtain ⟨z3, hz3, hm⟩ := bnd_some hm
    obtain ⟨z4, hz4, hm⟩ := bnd_some hm
    obtain ⟨z5, hz5, hm⟩ := bnd_some hm
    obtain ⟨z6, hz6, hm⟩ := bnd_some hm
    obtain ⟨z7, hz7, hm⟩ := bnd_some hm
    obtain ⟨z8, hz8, hm⟩ := bnd_some hm
    obtain rfl := Option.some.inj hm
    refine xs_ret (xe_cat (xe_call (xa_cons (xe_var (i := 0) rfl) (xa_cons (xe_call (xa_cons (xe_var (i := 0) rfl) (xa_cons (xe_var (i := 1) rfl) (xa_cons (xe_var (i := 3) rfl) xa_nil))) ⟨x0, x1, y2, z3, rfl, hz3, rfl⟩ cal0) (xa_cons (xe_var (i := 3) rfl) xa_nil))) ⟨x0, z3, y2, z4, rfl, hz4, rfl⟩ cal0) (xe_call (xa_cons (xe_var (i := 0) rfl) (xa_cons (xe_shr (chkP_some hz6) (xe_var (i := 1) rfl) (xe_mul (chkP_some hz5) (xe_var (i := 3) rfl) (xe_var (i := 0) rfl))) (xa_cons (xe_sub (xe_var (i := 2) rfl) (xe_var (i := 3) rfl)) xa_nil))) ⟨x0, (x1 / 2 ^ ((y2 * x0)).toNat), (x2 - y2), z7, rfl, hz7, rfl⟩ cal0) isLs_LF isLs_LF (chkP_some hz8)) hrt.all
  · rw [if_neg hc] at hm
    refine xs_ifN (xt_eq (xt_test (T := T) (xe_gt (xe_var (i := 2) rfl) xe_int)) (nt hc)) ?_
    show XS (tSeq _ _) _ _ [some (va T x0), some (va T x1), some (va T x2), none, none, none, none] (stt Ω [] [])
    obtain ⟨z9, hz9, hm⟩ := bnd_some hm
    refine xs_set (A := va T z9) (xe_call (xa_cons (xe_var (i := 0) rfl) xa_nil) ⟨x0, z9, rfl, hz9, rfl⟩ cal0) ?_
    show XS (tSeq _ _) _ _ [some (va T x0), some (va T x1), some (va T x2), none, some (va T z9), none, none] (stt Ω [] [])
    obtain ⟨y10, hy10, hm⟩ := bnd_some hm
    obtain rfl := Option.some.inj hy10
    refine xs_setO ((xn_lst (T := T) (l := ([] : List Int)) xa_nil (Nat.zero_le _))) (fun pp11 => ?_)
    show XS (tSeq _ _) _ _ [some (va T x0), some (va T x1), some (va T x2), none, some (va T z9), some (vr pp11), none] (stt Ω [] [lstA T pp11 (([] : List Int) : List Int)])
    obtain ⟨z13, hz13, hm⟩ := bnd_some hm
    obtain ⟨z19, hz19, hm⟩ := bnd_some hm
    refine xs_forS (fun (s14 : Int × (List Int)) => [some (va T x0), some (va T s14.1), some (va T x2), none, some (va T z9), some (vr pp11), none]) (fun (s14 : Int × (List Int)) => (stt Ω [] [lstA T pp11 (s14.2 : List Int)])) (fun (_ : Unit) _ _ _ => False) hz19 (xi_range1 (T := T) (xa_cons (xe_var (i := 2) rfl) xa_nil) (chkP_some hz13).1 (chkP_some hz13).2) (fun _ => tgt_name) (fun a15 s14 s' ha hm F1 D1 e1 hD => ?_) (fun s20 es => ?_) (fun r1 es => ?_)
    · show XS (tSeq _ _) _ _ [some (va T x0), some (va T s14.1), some (va T x2), none, some (va T z9), some (vr pp11), some (va T a15)] (stt Ω [] [lstA T pp11 (s14.2 : List Int)])
      obtain ⟨z16, hz16, hm⟩ := bnd_some hm
      refine xs_drop (xe_appE (stt_getL (j := 0) rfl) (stt_getL (j := 0) rfl) (xe_var (i := 5) rfl) (xe_band (xe_var (i := 1) rfl) (xe_var (i := 4) rfl)) (chkP_some hz16) (stt_setL (j := 0))) ?_
      show XS (tAug _ _ _) _ _ [some (va T x0), some (va T s14.1), some (va T x2), none, some (va T z9), some (vr pp11), some (va T a15)] (stt Ω [] [lstA T pp11 ((s14.2 ++ [(Builtin.bitAnd s14.1 z9)]) : List Int)])
      obtain ⟨z17, hz17, hm⟩ := bnd_some hm
      obtain ⟨y18, hy18, hm⟩ := bnd_some hm
      refine xs_augD1 (T := T) rfl (chkP_some hz17) (xe_var (i := 0) rfl) (Option.some.inj hy18) ?_
      obtain rfl := Option.some.inj hm
      exact fun σ H n => hD.nx _ rfl σ H (n.forget 6)
    · subst es
      obtain ⟨s2, hs2, hm⟩ := bnd_some hm
      cases hs2
      show XS (tRet _) _ _ [some (va T x0), some (va T s20.1), some (va T x2), none, some (va T z9), some (vr pp11), none] (stt Ω [] [lstA T pp11 (s20.2 : List Int)])
      obtain rfl := Option.some.inj hm
      refine xs_fzJ (k := 5) (j := 0) rfl rfl ?_
      show XS _ _ _ [some (va T x0), some (va T s20.1), some (va T x2), none, some (va T z9), some (va T (LF.mk s20.2)), none] (stt Ω [] [nilA])
      exact xs_ret (xe_var (i := 5) rfl) hrt.all
    · subst es
      cases hm
noncomputable def M_big_of (x0 : MS) (x1 : Int) : Option Bg :=
  (M_size_of x0.w x1).bind fun z1 => (M_row_of 20 x0.w ((x1.natAbs : Nat) : Int) z1).bind fun z2 => some (Bg.mk x0.w z2 x1)
def Pre_big_of (T : TC) : PreT := fun As Ω R => ∃ (k0 : Nat) (p0 : Addr) (x0 : MS) (x1 : Int) (r : Bg), As = [vr p0, va T x1] ∧ Ω[k0]? = some (machA T p0 x0) ∧ M_big_of x0 x1 = some r ∧ R = RV (va T r) (stt Ω [] [])
theorem sc_big_of : FnScope ["machine", "value"] ["machine", "value"] (defScope s_big_of) := ⟨rfl, rfl, rfl, by decide +kernel, rfl, by decide +kernel, by decide +kernel⟩
theorem ok_big_of {f : Addr} {fd : FuncData} (F : Fun T.K "big_of" "big_of" s_big_of f fd) (mc : MCls T.K (T.C 0)) (z_abs : mg "abs" = none) (c_size_of : Cal P w T.K mg base 2 "size_of" ["width", "n"] (mkSp (Pre_size_of T))) (c_row_of : Cal P w T.K mg base 21 "row_of" ["width", "n", "size"] (mkSp (Pre_row_of 20 T))) (c_Big : CalC P w T.K mg base 2 "Big" (T.C 1) ["self", "width", "value", "row"] [] (mkSp (Pre_Big T))) : FnOk P w T.K mg base CX0 22 f fd ["machine", "value"] (mkSp (Pre_big_of T)) := by
  refine fn_ok F sc_big_of (fun As Ω R h => ?_) (fun cdv A outer s H E hr As Ω R F0 h => ?_)
  · obtain ⟨k0, p0, x0, x1, r, rfl, _⟩ := h
    rfl
  obtain ⟨k0, p0, x0, x1, r, rfl, hk0, hm, rfl⟩ := h
  refine ⟨_, (pss_one (ps_ret (pe_calC c_Big (hr.mono (by decide)) (by rfl) (pa_cons (pe_fldK (K := T.K) (pv 0) (by rfl) rfl) (pa_cons (pv 1) (pa_cons (pe_cal c_row_of (hr.mono (by decide)) (by rfl) (pa_cons (pe_fldK (K := T.K) (pv 0) (by rfl) rfl) (pa_cons (pe_callB cr_abs (by rfl) z_abs (by decide +kernel) (pa_cons (pv 1) pa_nil)) (pa_cons (pe_cal c_size_of (hr.mono (by decide)) (by rfl) (pa_cons (pe_fldK (K := T.K) (pv 0) (by rfl) rfl) (pa_cons (pv 1) pa_nil))) pa_nil)))) pa_nil)))))), fun D hrt hnx => ?_⟩
  have ok : Okk Ω [] := okk0
  suffices hx : XS _ D F0 [some (vr p0), some (va T x1)] (stt Ω [] []) by
    rw [show (stt Ω [] []) = Ω from stt_self (by simp)] at hx
    exact hx
  unfold M_big_of at hm
  obtain ⟨z1, hz1, hm⟩ := bnd_some hm
  obtain ⟨z2, hz2, hm⟩ := bnd_some hm
  obtain rfl := Option.some.inj hm
  refine xs_ret (xe_fzB (xn_make (Ds := []) (xa_cons (xe_mw mc.cl mc.nw (xe_var (i := 0) rfl) (stt_getU hk0)) (xa_cons (xe_var (i := 1) rfl) (xa_cons (xe_call (xa_cons (xe_mw mc.cl mc.nw (xe_var (i := 0) rfl) (stt_getU hk0)) (xa_cons (xe_abs (xe_var (i := 1) rfl)) (xa_cons (xe_call (xa_cons (xe_mw mc.cl mc.nw (xe_var (i := 0) rfl) (stt_getU hk0)) (xa_cons (xe_var (i := 1) rfl) xa_nil)) ⟨x0.w, x1, z1, rfl, hz1, rfl⟩ cal0) xa_nil))) ⟨x0.w, ((x1.natAbs : Nat) : Int), z1, z2, rfl, hz2, rfl⟩ cal0) xa_nil))) (fun _ => .nil) (fun q => ⟨_, q, x0.w, x1, z2, _, .inl rfl, rfl, rfl, rfl⟩))) hrt.all
noncomputable def M_big (x0 : MS) (x1 : Int) : Option Bg :=
  (M_check_machine x0).bind fun z1 => (M_is_integer x1).bind fun z2 => (chkP (z2 = true)).bind fun z3 => (M_big_of x0 x1).bind fun z4 => some z4
def Pre_big (T : TC) : PreT := fun As Ω R => ∃ (k0 : Nat) (p0 : Addr) (x0 : MS) (x1 : Int) (r : Bg), As = [vr p0, va T x1] ∧ Ω[k0]? = some (machA T p0 x0) ∧ M_big x0 x1 = some r ∧ R = RV (va T r) (stt Ω [] [])
theorem sc_big : FnScope ["machine", "n"] ["machine", "n"] (defScope s_big) := ⟨rfl, rfl, rfl, by decide +kernel, rfl, by decide +kernel, by decide +kernel⟩
theorem ok_big {f : Addr} {fd : FuncData} (F : Fun T.K "big" "big" s_big f fd) (c_check_machine : Cal P w T.K mg base 1 "check_machine" ["machine"] (mkSp (Pre_check_machine T))) (c_is_integer : Cal P w T.K mg base 1 "is_integer" ["value"] (mkSp (Pre_is_integer T))) (c_big_of : Cal P w T.K mg base 22 "big_of" ["machine", "value"] (mkSp (Pre_big_of T))) : FnOk P w T.K mg base CX0 23 f fd ["machine", "n"] (mkSp (Pre_big T)) := by
  refine fn_ok F sc_big (fun As Ω R h => ?_) (fun cdv A outer s H E hr As Ω R F0 h => ?_)
  · obtain ⟨k0, p0, x0, x1, r, rfl, _⟩ := h
    rfl
  obtain ⟨k0, p0, x0, x1, r, rfl, hk0, hm, rfl⟩ := h
  refine ⟨_, (pss_cons (ps_expr (pe_cal c_check_machine (hr.mono (by decide)) (by rfl) (pa_cons (pv 0) pa_nil))) (pss_cons (ps_if (pt_not (pt_val (pe_cal c_is_integer (hr.mono (by decide)) (by rfl) (pa_cons (pv 1) pa_nil)))) pss_never pss_nil) (pss_one (ps_ret (pe_cal c_big_of (hr.mono (by decide)) (by rfl) (pa_cons (pv 0) (pa_cons (pv 1) pa_nil))))))), fun D hrt hnx => ?_⟩
  have ok : Okk Ω [] := okk0
  suffices hx : XS _ D F0 [some (vr p0), some (va T x1)] (stt Ω [] []) by
    rw [show (stt Ω [] []) = Ω from stt_self (by simp)] at hx
    exact hx
  unfold M_big at hm
  obtain ⟨z1, hz1, hm⟩ := bnd_some hm
  refine xs_drop (xe_call (xa_cons (xe_var (i := 0) rfl) xa_nil) ⟨k0, p0, x0, z1, rfl, (stt_getU hk0), hz1, rfl⟩ cal0) ?_
  show XS (tSeq _ _) _ _ [some (vr p0), some (va T x1)] (stt Ω [] [])
  obtain ⟨z2, hz2, hm⟩ := bnd_some hm
  obtain ⟨z3, hz3, hm⟩ := bnd_some hm
  refine xs_ifN (xt_notF (xt_eq (xt_tB (T := T) (xe_call (xa_cons (xe_var (i := 1) rfl) xa_nil) ⟨x1, z2, rfl, hz2, rfl⟩ cal0)) (chkP_some hz3))) ?_
  show XS (tRet _) _ _ [some (vr p0), some (va T x1)] (stt Ω [] [])
  obtain ⟨z4, hz4, hm⟩ := bnd_some hm
  obtain rfl := Option.some.inj hm
  refine xs_ret (xe_call (xa_cons (xe_var (i := 0) rfl) (xa_cons (xe_var (i := 1) rfl) xa_nil)) ⟨k0, p0, x0, x1, z4, rfl, (stt_getU hk0), hz4, rfl⟩ cal0) hrt.all
noncomputable def M_check_order (x0 : Str) : Option Unit :=
  (chkP (true = true)).bind fun z1 => (chkP ((!inS x0 ([("little" : Str), ("big" : Str)] : List Str)) = false)).bind fun z2 => some ()
def Pre_check_order (T : TC) : PreT := fun As Ω R => ∃ (x0 : Str) (r : Unit), As = [va T x0] ∧ M_check_order x0 = some r ∧ R = RV (va T r) (stt Ω [] [])
theorem sc_check_order : FnScope ["order"] ["order"] (defScope s_check_order) := ⟨rfl, rfl, rfl, by decide +kernel, rfl, by decide +kernel, by decide +kernel⟩
theorem ok_check_order {f : Addr} {fd : FuncData} (F : Fun T.K "check_order" "check_order" s_check_order f fd) (z_isinstance : mg "isinstance" = none) (z_str : mg "str" = none) : FnOk P w T.K mg base CX0 1 f fd ["order"] (mkSp (Pre_check_order T)) := by
  refine fn_ok F sc_check_order (fun As Ω R h => ?_) (fun cdv A outer s H E hr As Ω R F0 h => ?_)
  · obtain ⟨x0, r, rfl, _⟩ := h
    rfl
  obtain ⟨x0, r, rfl, hm, rfl⟩ := h
  refine ⟨_, (pss_one (ps_if (PW.pt (pw_or (pt_not (pt_val (pe_callB (cr_isiK (K := T.K) rfl) (by rfl) z_isinstance (by decide +kernel) (pa_cons (pv 0) (pa_cons (pe_bltn (v := .ty "str") (by rfl) z_str (by decide +kernel) rfl) pa_nil))))) (pw_or1 (pt_cmpR (op_notInK (K := T.K) rfl) (pv 0) (pe_tup (pa_cons pe_str (pa_cons pe_str pa_nil))) (by with_unfolding_all rfl))))) pss_never pss_nil)), fun D hrt hnx => ?_⟩
  have ok : Okk Ω [] := okk0
  suffices hx : XS _ D F0 [some (va T x0)] (stt Ω [] []) by
    rw [show (stt Ω [] []) = Ω from stt_self (by simp)] at hx
    exact hx
  unfold M_check_order at hm
  obtain ⟨z1, hz1, hm⟩ := bnd_some hm
  obtain ⟨z2, hz2, hm⟩ := bnd_some hm
  refine xs_ifF1 (xt_orF (xt_notF (xt_eq (xt_tB (T := T) (xe_isi (xe_var (i := 0) rfl) xe_vx (.ty _) (fun F H v hh a => ty_str hh a) (kit_ty (by decide +kernel)))) (chkP_some hz1))) (xt_eq (xt_test (T := T) (xe_notInS (xe_var (i := 0) rfl) (xe_tupF (l := [("little" : Str), ("big" : Str)]) (xa_cons xe_str (xa_cons xe_str xa_nil)) (by show 2 ≤ sizeLine; decide)))) (chkP_some hz2))) ?_
  obtain rfl := Option.some.inj hm
  exact fun σ H ⟨F, f0, e, hh⟩ => hnx F σ H _ f0 hh.all ⟨rfl, rfl⟩
noncomputable def M_check_signed (x0 : Bool) : Option Unit :=
  (chkP (true = true)).bind fun z1 => some ()
def Pre_check_signed (T : TC) : PreT := fun As Ω R => ∃ (x0 : Bool) (r : Unit), As = [va T x0] ∧ M_check_signed x0 = some r ∧ R = RV (va T r) (stt Ω [] [])
theorem sc_check_signed : FnScope ["signed"] ["signed"] (defScope s_check_signed) := ⟨rfl, rfl, rfl, by decide +kernel, rfl, by decide +kernel, by decide +kernel⟩
theorem ok_check_signed {f : Addr} {fd : FuncData} (F : Fun T.K "check_signed" "check_signed" s_check_signed f fd) (z_isinstance : mg "isinstance" = none) (z_bool : mg "bool" = none) : FnOk P w T.K mg base CX0 1 f fd ["signed"] (mkSp (Pre_check_signed T)) := by
  refine fn_ok F sc_check_signed (fun As Ω R h => ?_) (fun cdv A outer s H E hr As Ω R F0 h => ?_)
  · obtain ⟨x0, r, rfl, _⟩ := h
    rfl
  obtain ⟨x0, r, rfl, hm, rfl⟩ := h
  refine ⟨_, (pss_one (ps_if (pt_not (pt_val (pe_callB (cr_isiK (K := T.K) rfl) (by rfl) z_isinstance (by decide +kernel) (pa_cons (pv 0) (pa_cons (pe_bltn (v := .ty "bool") (by rfl) z_bool (by decide +kernel) rfl) pa_nil))))) pss_never pss_nil)), fun D hrt hnx => ?_⟩
  have ok : Okk Ω [] := okk0
  suffices hx : XS _ D F0 [some (va T x0)] (stt Ω [] []) by
    rw [show (stt Ω [] []) = Ω from stt_self (by simp)] at hx
    exact hx
  unfold M_check_signed at hm
  obtain ⟨z1, hz1, hm⟩ := bnd_some hm
  refine xs_ifF1 (xt_notF (xt_eq (xt_tB (T := T) (xe_isi (xe_var (i := 0) rfl) xe_vx (.ty _) (fun F H v hh a => ty_bool hh a) (kit_ty (by decide +kernel)))) (chkP_some hz1))) ?_
  obtain rfl := Option.some.inj hm
  exact fun σ H ⟨F, f0, e, hh⟩ => hnx F σ H _ f0 hh.all ⟨rfl, rfl⟩
noncomputable def M_magnitude_of (x0 : Int) : Option Int :=
  some (if (decide (x0 < (0 : Int))) = true then ((-x0) - (1 : Int)) else x0)
def Pre_magnitude_of (T : TC) : PreT := fun As Ω R => ∃ (x0 : Int) (r : Int), As = [va T x0] ∧ M_magnitude_of x0 = some r ∧ R = RV (va T r) (stt Ω [] [])
theorem sc_magnitude_of : FnScope ["value"] ["value"] (defScope s_magnitude_of) := ⟨rfl, rfl, rfl, by decide +kernel, rfl, by decide +kernel, by decide +kernel⟩
theorem ok_magnitude_of {f : Addr} {fd : FuncData} (F : Fun T.K "magnitude_of" "magnitude_of" s_magnitude_of f fd)  : FnOk P w T.K mg base CX0 1 f fd ["value"] (mkSp (Pre_magnitude_of T)) := by
  refine fn_ok F sc_magnitude_of (fun As Ω R h => ?_) (fun cdv A outer s H E hr As Ω R F0 h => ?_)
  · obtain ⟨x0, r, rfl, _⟩ := h
    rfl
  obtain ⟨x0, r, rfl, hm, rfl⟩ := h
  refine ⟨_, (pss_one (ps_ret (pe_ifExp (pt_cmpR op_lt (pv 0) pe_int (nomark _)) (pe_op op_sub (pe_un un_neg (pv 0)) pe_int) (pv 0)))), fun D hrt hnx => ?_⟩
  have ok : Okk Ω [] := okk0
  suffices hx : XS _ D F0 [some (va T x0)] (stt Ω [] []) by
    rw [show (stt Ω [] []) = Ω from stt_self (by simp)] at hx
    exact hx
  unfold M_magnitude_of at hm
  obtain rfl := Option.some.inj hm
  refine xs_ret (xe_ite (xt_test (T := T) (xe_lt (xe_var (i := 0) rfl) xe_int)) (xe_sub (xe_neg (xe_var (i := 0) rfl)) xe_int) (xe_var (i := 0) rfl)) hrt.all
noncomputable def M_count_reading (x0 : MS) (x1 : Int) (x2 : Int) : Option (Unit × MS) :=
  (M_magnitude_of x1).bind fun z1 => (M_size_of (8 : Int) z1).bind fun z2 => (chkP (("looked" : Str) ∈ mwords)).bind fun z3 => (if (decide (x1 < (0 : Int))) = true then (some (min (z2 + (1 : Int)) x2)).bind fun y4 => (chkP (("complemented" : Str) ∈ mwords)).bind fun z5 => some (y4, ((x0.step ("looked" : Str) (min ((x2 - z2) + (1 : Int)) x2)).step ("complemented" : Str) y4)) else some (z2, (x0.step ("looked" : Str) (min ((x2 - z2) + (1 : Int)) x2)))).bind fun z8 => (chkP (("shifted" : Str) ∈ mwords)).bind fun z9 => some ((), (z8.2.step ("shifted" : Str) z8.1))
def Pre_count_reading (T : TC) : PreT := fun As Ω R => ∃ (k0 : Nat) (p0 : Addr) (x0 : MS) (x1 : Int) (x2 : Int) (r : Unit × MS), As = [vr p0, va T x1, va T x2] ∧ Ω[k0]? = some (machA T p0 x0) ∧ M_count_reading x0 x1 x2 = some r ∧ R = RV (va T r.1) (stt Ω [(k0, machA T p0 r.2)] [])
theorem sc_count_reading : FnScope ["machine", "number", "size", "kept"] ["machine", "number", "size"] (defScope s_count_reading) := ⟨rfl, rfl, rfl, by decide +kernel, rfl, by decide +kernel, by decide +kernel⟩
theorem ok_count_reading {f : Addr} {fd : FuncData} (F : Fun T.K "count_reading" "count_reading" s_count_reading f fd) (g_BYTE : ∃ u, mg "BYTE" = some u ∧ RelV (.int 8) u) (c_magnitude_of : Cal P w T.K mg base 1 "magnitude_of" ["value"] (mkSp (Pre_magnitude_of T))) (c_size_of : Cal P w T.K mg base 2 "size_of" ["width", "n"] (mkSp (Pre_size_of T))) (mc : MCls T.K (T.C 0)) (z_min : mg "min" = none) (c_Mach_step : CalM P w T.K mg base 1 (T.C 0) "step" ["self", "word", "many"] (mkSp (Pre_Mach_step T))) : FnOk P w T.K mg base CX0 3 f fd ["machine", "number", "size"] (mkSp (Pre_count_reading T)) := by
  refine fn_ok F sc_count_reading (fun As Ω R h => ?_) (fun cdv A outer s H E hr As Ω R F0 h => ?_)
  · obtain ⟨k0, p0, x0, x1, x2, r, rfl, _⟩ := h
    rfl
  obtain ⟨k0, p0, x0, x1, x2, r, rfl, hk0, hm, rfl⟩ := h
  refine ⟨_, (pss_cons (ps_set (i := 3) sc_count_reading.nd rfl (.inl rfl) (pe_cal c_size_of (hr.mono (by decide)) (by rfl) (pa_cons (pe_gl rfl g_BYTE) (pa_cons (pe_cal c_magnitude_of (hr.mono (by decide)) (by rfl) (pa_cons (pv 1) pa_nil)) pa_nil)))) (pss_cons (ps_expr (pe_calM (pv 0) c_Mach_step (hr.mono (by decide)) (pa_cons pe_str (pa_cons (pe_callB (cr_min2 rfl) (by rfl) z_min (by decide +kernel) (pa_cons (pe_op op_addQ (pe_op op_sub (pv 2) (pv 3)) pe_int) (pa_cons (pv 2) pa_nil))) pa_nil)))) (Evl.pss_cut (ps_if (pt_cmpR op_lt (pv 1) pe_int (nomark _)) (pss_cons (ps_set (i := 3) sc_count_reading.nd rfl (.inl rfl) (pe_callB (cr_min2 rfl) (by rfl) z_min (by decide +kernel) (pa_cons (pe_op op_addQ (pv 3) pe_int) (pa_cons (pv 2) pa_nil)))) (pss_one (ps_expr (pe_calM (pv 0) c_Mach_step (hr.mono (by decide)) (pa_cons pe_str (pa_cons (pv 3) pa_nil)))))) pss_nil) (pss_one (ps_expr (pe_calM (pv 0) c_Mach_step (hr.mono (by decide)) (pa_cons pe_str (pa_cons (pv 3) pa_nil)))))))), fun D hrt hnx => ?_⟩
  have ok := okk1 hk0
  suffices hx : XS _ D F0 [some (vr p0), some (va T x1), some (va T x2), none] (stt Ω [(k0, machA T p0 x0)] []) by
    rw [show (stt Ω [(k0, machA T p0 x0)] []) = Ω from stt_self (by simp [hk0])] at hx
    exact hx
  unfold M_count_reading at hm
  obtain ⟨z1, hz1, hm⟩ := bnd_some hm
  obtain ⟨z2, hz2, hm⟩ := bnd_some hm
  refine xs_set (A := va T z2) (xe_call (xa_cons xe_int (xa_cons (xe_call (xa_cons (xe_var (i := 1) rfl) xa_nil) ⟨x1, z1, rfl, hz1, rfl⟩ cal0) xa_nil)) ⟨(8 : Int), z1, z2, rfl, hz2, rfl⟩ cal0) ?_
  show XS (tSeq _ _) _ _ [some (vr p0), some (va T x1), some (va T x2), some (va T z2)] (stt Ω [(k0, machA T p0 x0)] [])
  obtain ⟨z3, hz3, hm⟩ := bnd_some hm
  refine xs_drop (xe_mcall (xe_var (i := 0) rfl) (stt_get ok (i := 0) rfl) (xa_cons xe_str (xa_cons (xe_min2 (xe_add (xe_sub (xe_var (i := 2) rfl) (xe_var (i := 3) rfl)) xe_int) (xe_var (i := 2) rfl)) xa_nil)) ⟨k0, p0, x0, ("looked" : Str), (min ((x2 - z2) + (1 : Int)) x2), rfl, (stt_get ok (i := 0) rfl), chkP_some hz3, rfl⟩ (cal1 ok (i := 0) rfl)) ?_
  show XS (Evl.tCut _ _) _ _ [some (vr p0), some (va T x1), some (va T x2), some (va T z2)] (stt Ω [(k0, machA T p0 (x0.step ("looked" : Str) (min ((x2 - z2) + (1 : Int)) x2)))] [])
  obtain ⟨z8, hz8, hm⟩ := bnd_some hm
  refine xs_cut (Γ' := [some (vr p0), some (va T x1), some (va T x2), some (va T z8.1)]) (Ω' := (stt Ω [(k0, machA T p0 z8.2)] [])) ?_ ?_
  · clear hm
    have hm := hz8
    clear hz8
    by_cases hc : (decide (x1 < (0 : Int))) = true
    · rw [if_pos hc] at hm
      refine xs_ifT1 (xt_eq (xt_test (T := T) (xe_lt (xe_var (i := 1) rfl) xe_int)) hc) ?_
      obtain ⟨y4, hy4, hm⟩ := bnd_some hm
      refine xs_set (A := va T y4) (xe_eq (xe_min2 (xe_add (xe_var (i := 3) rfl) xe_int) (xe_var (i := 2) rfl)) (Option.some.inj hy4)) ?_
      show XS (tDrop _) _ _ [some (vr p0), some (va T x1), some (va T x2), some (va T y4)] (stt Ω [(k0, machA T p0 (x0.step ("looked" : Str) (min ((x2 - z2) + (1 : Int)) x2)))] [])
      obtain ⟨z5, hz5, hm⟩ := bnd_some hm
      refine xs_drop1 (xe_mcall (xe_var (i := 0) rfl) (stt_get ok (i := 0) rfl) (xa_cons xe_str (xa_cons (xe_var (i := 3) rfl) xa_nil)) ⟨k0, p0, (x0.step ("looked" : Str) (min ((x2 - z2) + (1 : Int)) x2)), ("complemented" : Str), y4, rfl, (stt_get ok (i := 0) rfl), chkP_some hz5, rfl⟩ (cal1 ok (i := 0) rfl)) ?_
      obtain rfl := Option.some.inj hm
      exact fun σ H n => n
    · rw [if_neg hc] at hm
      refine xs_ifF1 (xt_eq (xt_test (T := T) (xe_lt (xe_var (i := 1) rfl) xe_int)) (nt hc)) ?_
      obtain rfl := Option.some.inj hm
      exact fun σ H n => n
  · obtain ⟨z9, hz9, hm⟩ := bnd_some hm
    refine xs_drop1 (xe_mcall (xe_var (i := 0) rfl) (stt_get ok (i := 0) rfl) (xa_cons xe_str (xa_cons (xe_var (i := 3) rfl) xa_nil)) ⟨k0, p0, z8.2, ("shifted" : Str), z8.1, rfl, (stt_get ok (i := 0) rfl), chkP_some hz9, rfl⟩ (cal1 ok (i := 0) rfl)) ?_
    obtain rfl := Option.some.inj hm
    exact fun σ H ⟨F, f0, e, hh⟩ => hnx F σ H _ f0 hh.all ⟨rfl, rfl⟩
noncomputable def M_from_bytes (x0 : MS) (x1 : List Int) (x2 : Str) (x3 : Bool) : Option (Bg × MS) :=
  (M_check_machine x0).bind fun z1 => (chkP (true = true)).bind fun z2 => (chkP ((decide ((10000 : Int) < (x1.length : Int))) = false)).bind fun z3 => (chkP (x1.length ≤ sizeLine)).bind fun z4 => (lcM (fun (a6 : Int) (s5 : Unit) => (M_is_between a6 (0 : Int) (255 : Int)).bind fun z7 => some (some z7, ())) x1 ()).bind fun z8 => (chkP ((z8.1.all id) = true)).bind fun z10 => (M_check_order x2).bind fun z11 => (M_check_signed x3).bind fun z12 => (some (x1.length : Int)).bind fun y13 => if (decide (y13 = (0 : Int))) = true then (M_big_of x0 (0 : Int)).bind fun z14 => some (z14, x0) else (M_number_of 20 (8 : Int) (if (decide (x2 = ("little" : Str))) = true then x1 else x1.reverse)).bind fun z15 => (if x3 = true then (chkP (IntMulOk (y13 - (1 : Int)) (8 : Int))).bind fun z16 => (chkP (0 ≤ ((y13 - (1 : Int)) * (8 : Int)))).bind fun z17 => some (decide ((128 : Int) ≤ (z15 / 2 ^ (((y13 - (1 : Int)) * (8 : Int))).toNat))) else some false).bind fun z18 => (if z18 = true then (chkP (IntMulOk y13 (8 : Int))).bind fun z20 => (chkP (CShl (1 : Int) (y13 * (8 : Int)))).bind fun z21 => (some (z15 - ((1 : Int) * 2 ^ ((y13 * (8 : Int))).toNat))).bind fun y22 => some y22 else some z15).bind fun z25 => (M_count_reading (x0.enter ("from bytes" : Str) y13 (0 : Int)) z25 y13).bind fun z26 => (M_big_of z26.2 z25).bind fun z27 => some (z27, z26.2)
def Pre_from_bytes (T : TC) : PreT := fun As Ω R => ∃ (k0 : Nat) (p0 : Addr) (x0 : MS) (x1 : List Int) (x2 : Str) (x3 : Bool) (r : Bg × MS), As = [vr p0, va T (LF.mk x1), va T x2, va T x3] ∧ Ω[k0]? = some (machA T p0 x0) ∧ M_from_bytes x0 x1 x2 x3 = some r ∧ R = RV (va T r.1) (stt Ω [(k0, machA T p0 r.2)] [])
theorem sc_from_bytes : FnScope ["machine", "row", "order", "signed", "size", "number", "part"] ["machine", "row", "order", "signed"] (defScope s_from_bytes) := ⟨rfl, rfl, rfl, by decide +kernel, rfl, by decide +kernel, by decide +kernel⟩
theorem ok_from_bytes {f : Addr} {fd : FuncData} (F : FunD T.K "from_bytes" "from_bytes" (defArgs s_from_bytes) (defBody s_from_bytes) (defScope s_from_bytes) [V.str "big"] [("signed", V.bl false)] f fd) (c_check_machine : Cal P w T.K mg base 1 "check_machine" ["machine"] (mkSp (Pre_check_machine T))) (z_isinstance : mg "isinstance" = none) (z_list : mg "list" = none) (z_len : mg "len" = none) (g_LONGEST_ROW : ∃ u, mg "LONGEST_ROW" = some u ∧ RelV (.int 10000) u) (g_GREATEST_BYTE : ∃ u, mg "GREATEST_BYTE" = some u ∧ RelV (.int 255) u) (c_is_between : Cal P w T.K mg base 2 "is_between" ["value", "low", "high"] (mkSp (Pre_is_between T))) (z_all : mg "all" = none) (c_check_order : Cal P w T.K mg base 1 "check_order" ["order"] (mkSp (Pre_check_order T))) (c_check_signed : Cal P w T.K mg base 1 "check_signed" ["signed"] (mkSp (Pre_check_signed T))) (c_big_of : Cal P w T.K mg base 22 "big_of" ["machine", "value"] (mkSp (Pre_big_of T))) (g_BYTE : ∃ u, mg "BYTE" = some u ∧ RelV (.int 8) u) (z_reversed : mg "reversed" = none) (c_number_of : Cal P w T.K mg base 21 "number_of" ["width", "row"] (mkSp (Pre_number_of 20 T))) (g_SIGN_BYTE : ∃ u, mg "SIGN_BYTE" = some u ∧ RelV (.int 128) u) (mc : MCls T.K (T.C 0)) (c_Mach_enter : CalM P w T.K mg base 1 (T.C 0) "enter" ["self", "word", "m", "n"] (mkSp (Pre_Mach_enter T))) (c_count_reading : Cal P w T.K mg base 3 "count_reading" ["machine", "number", "size"] (mkSp (Pre_count_reading T))) : FnOk P w T.K mg base CX0 23 f fd ["machine", "row", "order", "signed"] (mkSp (Pre_from_bytes T)) := by
  refine fn_okK F sc_from_bytes (fun As Ω R h => ?_) (fun cdv A outer s H E hr As Ω R F0 h => ?_)
  · obtain ⟨k0, p0, x0, x1, x2, x3, r, rfl, _⟩ := h
    rfl
  obtain ⟨k0, p0, x0, x1, x2, x3, r, rfl, hk0, hm, rfl⟩ := h
  refine ⟨_, (pss_cons (ps_expr (pe_cal c_check_machine (hr.mono (by decide)) (by rfl) (pa_cons (pv 0) pa_nil))) (pss_cons (ps_if (PW.pt (pw_or (pt_not (pt_val (pe_callB (cr_isiK (K := T.K) rfl) (by rfl) z_isinstance (by decide +kernel) (pa_cons (pv 1) (pa_cons (pe_bltn (v := .ty "list") (by rfl) z_list (by decide +kernel) rfl) pa_nil))))) (pw_or1 (pt_cmpR op_gt (pe_callB (cr_lenK (K := T.K) rfl) (by rfl) z_len PySem.boot_len (pa_cons (pv 1) pa_nil)) (pe_gl rfl g_LONGEST_ROW) (nomark _))))) pss_never pss_nil) (pss_cons (ps_if (pt_not (pt_val (pe_callB (cr_allK (K := T.K) rfl rfl) (by rfl) z_all (by decide +kernel) (pa_cons (pe_lc (own := [("part", 6)]) rfl sc_from_bytes.nd (pi_listK (K := T.K) (pv 1) rfl) (blkOk_by (N := ["machine", "row", "order", "signed", "size", "number", "part"]) (sc := defScope s_from_bytes) (by decide +kernel)) (fun _ _ _ _ _ => (pg_name (i := 6) sc_from_bytes.nd rfl (.inl rfl))) (fun _ _ _ _ _ => pts_nil) (fun _ _ _ _ _ => (pe_cal c_is_between (hr.mono (by decide)) (by rfl) (pa_cons (pv 6) (pa_cons pe_int (pa_cons (pe_gl rfl g_GREATEST_BYTE) pa_nil)))))) pa_nil)))) pss_never pss_nil) (pss_cons (ps_expr (pe_cal c_check_order (hr.mono (by decide)) (by rfl) (pa_cons (pv 2) pa_nil))) (pss_cons (ps_expr (pe_cal c_check_signed (hr.mono (by decide)) (by rfl) (pa_cons (pv 3) pa_nil))) (pss_cons (ps_set (i := 4) sc_from_bytes.nd rfl (.inl rfl) (pe_callB (cr_lenK (K := T.K) rfl) (by rfl) z_len PySem.boot_len (pa_cons (pv 1) pa_nil))) (pss_cons (ps_if (pt_cmpR (op_eqXK (K := T.K) (by exact hr.units) rfl) (pv 4) pe_int (nomark _)) (pss_one (ps_ret (pe_cal c_big_of (hr.mono (by decide)) (by rfl) (pa_cons (pv 0) (pa_cons pe_int pa_nil))))) pss_nil) (pss_cons (ps_set (i := 5) sc_from_bytes.nd rfl (.inl rfl) (pe_cal c_number_of (hr.mono (by decide)) (by rfl) (pa_cons (pe_gl rfl g_BYTE) (pa_cons (pe_ifExp (pt_cmpR (op_eqXK (K := T.K) (by exact hr.units) rfl) (pv 2) pe_str (nomark _)) (pv 1) (pe_listRevK (K := T.K) rfl rfl (by rfl) z_list (by rfl) z_reversed (pv 1))) pa_nil)))) (Evl.pss_cut (ps_if (PW.pt (pw_and (pt_val (pv 3)) (pw_and1 (pt_cmpR op_ge (pe_op op_shr (pv 5) (pe_op op_mulQ (pe_op op_sub (pv 4) pe_int) (pe_gl rfl g_BYTE))) (pe_gl rfl g_SIGN_BYTE) (nomark _))))) (pss_one (ps_aug (i := 5) sc_from_bytes.nd rfl (.inl rfl) (pe_op op_shlW pe_int (pe_op op_mulQ (pv 4) (pe_gl rfl g_BYTE))) (ip_of iop_sub))) pss_nil) (pss_cons (ps_expr (pe_calM (pv 0) c_Mach_enter (hr.mono (by decide)) (pa_cons pe_str (pa_cons (pv 4) (pa_cons pe_int pa_nil))))) (pss_cons (ps_expr (pe_cal c_count_reading (hr.mono (by decide)) (by rfl) (pa_cons (pv 0) (pa_cons (pv 5) (pa_cons (pv 4) pa_nil))))) (pss_one (ps_ret (pe_cal c_big_of (hr.mono (by decide)) (by rfl) (pa_cons (pv 0) (pa_cons (pv 5) pa_nil)))))))))))))))), fun D hrt hnx => ?_⟩
  have ok := okk1 hk0
  suffices hx : XS _ D F0 [some (vr p0), some (va T (LF.mk x1)), some (va T x2), some (va T x3), none, none, none] (stt Ω [(k0, machA T p0 x0)] []) by
    rw [show (stt Ω [(k0, machA T p0 x0)] []) = Ω from stt_self (by simp [hk0])] at hx
    exact hx
  unfold M_from_bytes at hm
  obtain ⟨z1, hz1, hm⟩ := bnd_some hm
  refine xs_drop (xe_call (xa_cons (xe_var (i := 0) rfl) xa_nil) ⟨k0, p0, x0, z1, rfl, (stt_get ok (i := 0) rfl), hz1, rfl⟩ cal0) ?_
  show XS (tSeq _ _) _ _ [some (vr p0), some (va T (LF.mk x1)), some (va T x2), some (va T x3), none, none, none] (stt Ω [(k0, machA T p0 x0)] [])
  obtain ⟨z2, hz2, hm⟩ := bnd_some hm
  obtain ⟨z3, hz3, hm⟩ := bnd_some hm
  refine xs_ifN (xt_orF (xt_notF (xt_eq (xt_tB (T := T) (xe_isi (xe_var (i := 1) rfl) xe_vx (.ty _) (fun F H v hh a => ty_lst hh a) (kit_ty (by decide +kernel)))) (chkP_some hz2))) (xt_eq (xt_test (T := T) (xe_gt (xe_lenL (xe_var (i := 1) rfl) isL_LF) xe_int)) (chkP_some hz3))) ?_
  show XS (tSeq _ _) _ _ [some (vr p0), some (va T (LF.mk x1)), some (va T x2), some (va T x3), none, none, none] (stt Ω [(k0, machA T p0 x0)] [])
  obtain ⟨z4, hz4, hm⟩ := bnd_some hm
  obtain ⟨z8, hz8, hm⟩ := bnd_some hm
  obtain ⟨z10, hz10, hm⟩ := bnd_some hm
  refine xs_ifN (xt_notF (xt_eq (xt_tB (T := T) (xe_all (xe_fz (xn_lcS (T := T) (fun (s5 : Unit) => [(k0, machA T p0 x0)]) (fun (s5 : Unit) => []) hz8 (xi_LF (xe_var (i := 1) rfl)) (fun _ => tgt_name) (by simp) (chkP_some hz4) ?q9)) isL_LF)) (chkP_some hz10))) ?_
  case q9 =>
    exact (fun a6 s5 o s2 ha hm X => by
      obtain ⟨z7, hz7, hm⟩ := bnd_some hm
      obtain ⟨rfl, rfl⟩ := Prod.mk.inj (Option.some.inj hm)
      refine ⟨(fun e => nomatch e), fun y e => ?_⟩
      obtain rfl := Option.some.inj e
      refine ⟨xt_yes, (xe_call (xa_cons (xe_var (i := 6) rfl) (xa_cons xe_int (xa_cons xe_int xa_nil))) ⟨a6, (0 : Int), (255 : Int), z7, rfl, hz7, rfl⟩ cal0)⟩)
  show XS (tSeq _ _) _ _ [some (vr p0), some (va T (LF.mk x1)), some (va T x2), some (va T x3), none, none, none] (stt Ω [(k0, machA T p0 x0)] [])
  obtain ⟨z11, hz11, hm⟩ := bnd_some hm
  refine xs_drop (xe_call (xa_cons (xe_var (i := 2) rfl) xa_nil) ⟨x2, z11, rfl, hz11, rfl⟩ cal0) ?_
  show XS (tSeq _ _) _ _ [some (vr p0), some (va T (LF.mk x1)), some (va T x2), some (va T x3), none, none, none] (stt Ω [(k0, machA T p0 x0)] [])
  obtain ⟨z12, hz12, hm⟩ := bnd_some hm
  refine xs_drop (xe_call (xa_cons (xe_var (i := 3) rfl) xa_nil) ⟨x3, z12, rfl, hz12, rfl⟩ cal0) ?_
  show XS (tSeq _ _) _ _ [some (vr p0), some (va T (LF.mk x1)), some (va T x2), some (va T x3), none, none, none] (stt Ω [(k0, machA T p0 x0)] [])
  obtain ⟨y13, hy13, hm⟩ := bnd_some hm
  refine xs_set (A := va T y13) (xe_eq (xe_lenL (xe_var (i := 1) rfl) isL_LF) (Option.some.inj hy13)) ?_
  show XS (tSeq _ _) _ _ [some (vr p0), some (va T (LF.mk x1)), some (va T x2), some (va T x3), some (va T y13), none, none] (stt Ω [(k0, machA T p0 x0)] [])
  by_cases hc : (decide (y13 = (0 : Int))) = true
  · rw [if_pos hc] at hm
    refine xs_ifT (xt_eq (xt_test (T := T) (xe_eqI (xe_var (i := 4) rfl) xe_int)) hc) ?_
    obtain ⟨z14, hz14, hm⟩ := bnd_some hm
    obtain rfl := Option.some.inj hm
    refine xs_ret (xe_call (xa_cons (xe_var (i := 0) rfl) (xa_cons xe_int xa_nil)) ⟨k0, p0, x0, (0 : Int), z14, rfl, (stt_get ok (i := 0) rfl), hz14, rfl⟩ cal0) hrt.all
  · rw [if_neg hc] at hm
    refine xs_ifN (xt_eq (xt_test (T := T) (xe_eqI (xe_var (i := 4) rfl) xe_int)) (nt hc)) ?_
    show XS (tSeq _ _) _ _ [some (vr p0), some (va T (LF.mk x1)), some (va T x2), some (va T x3), some (va T y13), none, none] (stt Ω [(k0, machA T p0 x0)] [])
    obtain ⟨z15, hz15, hm⟩ := bnd_some hm
    refine xs_set (A := va T z15) (xe_call (xa_cons xe_int (xa_cons (xe_iteL (xt_test (T := T) (xe_eqS (xe_var (i := 2) rfl) xe_str)) (xe_var (i := 1) rfl) (xe_listRev (xe_var (i := 1) rfl) isL_LF)) xa_nil)) ⟨(8 : Int), (if (decide (x2 = ("little" : Str))) = true then x1 else x1.reverse), z15, rfl, hz15, rfl⟩ cal0) ?_
    show XS (Evl.tCut _ _) _ _ [some (vr p0), some (va T (LF.mk x1)), some (va T x2), some (va T x3), some (va T y13), some (va T z15), none] (stt Ω [(k0, machA T p0 x0)] [])
    obtain ⟨z18, hz18, hm⟩ := bnd_some hm
    obtain ⟨z25, hz25, hm⟩ := bnd_some hm
    refine xs_cut (Γ' := [some (vr p0), some (va T (LF.mk x1)), some (va T x2), some (va T x3), some (va T y13), some (va T z25), none]) (Ω' := (stt Ω [(k0, machA T p0 x0)] [])) ?_ ?_
    · clear hm
      have hm := hz25
      clear hz25
      by_cases hc : z18 = true
      · rw [if_pos hc] at hm
        refine xs_ifT1 (xt_eq (xt_andO (xt_tB (T := T) (xe_var (i := 3) rfl)) hz18 ?q19) hc) ?_
        case q19 =>
          exact (fun v hm => by
            obtain ⟨z16, hz16, hm⟩ := bnd_some hm
            obtain ⟨z17, hz17, hm⟩ := bnd_some hm
            obtain rfl := Option.some.inj hm
            exact (xt_test (T := T) (xe_ge (xe_shr (chkP_some hz17) (xe_var (i := 5) rfl) (xe_mul (chkP_some hz16) (xe_sub (xe_var (i := 4) rfl) xe_int) xe_int)) xe_int)))
        obtain ⟨z20, hz20, hm⟩ := bnd_some hm
        obtain ⟨z21, hz21, hm⟩ := bnd_some hm
        obtain ⟨y22, hy22, hm⟩ := bnd_some hm
        refine xs_augI1 (T := T) rfl (xe_shl (chkP_some hz21) xe_int (xe_mul (chkP_some hz20) (xe_var (i := 4) rfl) xe_int)) (Option.some.inj hy22) ?_
        obtain rfl := Option.some.inj hm
        exact fun σ H n => n
      · rw [if_neg hc] at hm
        refine xs_ifF1 (xt_eq (xt_andO (xt_tB (T := T) (xe_var (i := 3) rfl)) hz18 ?q19) (nt hc)) ?_
        case q19 =>
          exact (fun v hm => by
            obtain ⟨z16, hz16, hm⟩ := bnd_some hm
            obtain ⟨z17, hz17, hm⟩ := bnd_some hm
            obtain rfl := Option.some.inj hm
            exact (xt_test (T := T) (xe_ge (xe_shr (chkP_some hz17) (xe_var (i := 5) rfl) (xe_mul (chkP_some hz16) (xe_sub (xe_var (i := 4) rfl) xe_int) xe_int)) xe_int)))
        obtain rfl := Option.some.inj hm
        exact fun σ H n => n
    · refine xs_drop (xe_mcall (xe_var (i := 0) rfl) (stt_get ok (i := 0) rfl) (xa_cons xe_str (xa_cons (xe_var (i := 4) rfl) (xa_cons xe_int xa_nil))) ⟨k0, p0, x0, ("from bytes" : Str), y13, (0 : Int), rfl, (stt_get ok (i := 0) rfl), rfl⟩ (cal1 ok (i := 0) rfl)) ?_
      show XS (tSeq _ _) _ _ [some (vr p0), some (va T (LF.mk x1)), some (va T x2), some (va T x3), some (va T y13), some (va T z25), none] (stt Ω [(k0, machA T p0 (x0.enter ("from bytes" : Str) y13 (0 : Int)))] [])
      obtain ⟨z26, hz26, hm⟩ := bnd_some hm
      refine xs_drop (xe_call (xa_cons (xe_var (i := 0) rfl) (xa_cons (xe_var (i := 5) rfl) (xa_cons (xe_var (i := 4) rfl) xa_nil))) ⟨k0, p0, (x0.enter ("from bytes" : Str) y13 (0 : Int)), z25, y13, z26, rfl, (stt_get ok (i := 0) rfl), hz26, rfl⟩ (cal1 ok (i := 0) rfl)) ?_
      show XS (tRet _) _ _ [some (vr p0), some (va T (LF.mk x1)), some (va T x2), some (va T x3), some (va T y13), some (va T z25), none] (stt Ω [(k0, machA T p0 z26.2)] [])
      obtain ⟨z27, hz27, hm⟩ := bnd_some hm
      obtain rfl := Option.some.inj hm
      refine xs_ret (xe_call (xa_cons (xe_var (i := 0) rfl) (xa_cons (xe_var (i := 5) rfl) xa_nil)) ⟨k0, p0, z26.2, z25, z27, rfl, (stt_get ok (i := 0) rfl), hz27, rfl⟩ cal0) hrt.all
noncomputable def M__law_source_of (x0 : Int) : Option (List Int) :=
  (if (decide ((0 : Int) ≤ x0)) = true then some x0 else (chkP (IntMulOk (3 : Int) x0)).bind fun z1 => some (((0 : Int) - ((3 : Int) * x0)) - (1 : Int))).bind fun z2 => (chkP (CPow (10 : Int) (18 : Int))).bind fun z4 => (chkP (IntMulOk z2 (if (decide (((10 : Int) ^ ((18 : Int)).toNat) ≤ z2)) = true then (1 : Int) else 0))).bind fun z5 => (chkP (0 < (2147483647 : Int))).bind fun z6 => some ([(z2 * (if (decide (((10 : Int) ^ ((18 : Int)).toNat) ≤ z2)) = true then (1 : Int) else 0)), (z2 % (2147483647 : Int)), (0 : Int)] : List Int)
def Pre__law_source_of (T : TC) : PreT := fun As Ω R => ∃ (x0 : Int) (r : List Int), As = [va T x0] ∧ M__law_source_of x0 = some r ∧ R = RN (stt Ω [] []) (fun q => lstA T q r)
theorem sc__law_source_of : FnScope ["_law_cell"] ["_law_cell"] (defScope s__law_source_of) := ⟨rfl, rfl, rfl, by decide +kernel, rfl, by decide +kernel, by decide +kernel⟩
theorem ok__law_source_of {f : Addr} {fd : FuncData} (F : Fun T.K "_law_source_of" "_law_source_of" s__law_source_of f fd) (z_int : mg "int" = none) : FnOk P w T.K mg base CX0 1 f fd ["_law_cell"] (mkSp (Pre__law_source_of T)) := by
  refine fn_ok F sc__law_source_of (fun As Ω R h => ?_) (fun cdv A outer s H E hr As Ω R F0 h => ?_)
  · obtain ⟨x0, r, rfl, _⟩ := h
    rfl
  obtain ⟨x0, r, rfl, hm, rfl⟩ := h
  refine ⟨_, (pss_cons (ps_set (i := 0) sc__law_source_of.nd rfl (.inl rfl) (pe_ifExp (pt_cmpR op_ge (pv 0) pe_int (nomark _)) (pv 0) (pe_op op_sub (pe_op op_sub pe_int (pe_op op_mulQ pe_int (pv 0))) pe_int))) (pss_one (ps_ret (pe_lst (pa_cons (pe_op op_mulQ (pv 0) (pe_callTy cr_int (by rfl) z_int (by decide +kernel) (pa_cons (pe_cmpR op_ge (pv 0) (pe_op op_pow pe_int pe_int) (nomark _)) pa_nil))) (pa_cons (pe_op op_mod (pe_callTy cr_int (by rfl) z_int (by decide +kernel) (pa_cons (pv 0) pa_nil)) pe_int) (pa_cons pe_int pa_nil))))))), fun D hrt hnx => ?_⟩
  have ok : Okk Ω [] := okk0
  suffices hx : XS _ D F0 [some (va T x0)] (stt Ω [] []) by
    rw [show (stt Ω [] []) = Ω from stt_self (by simp)] at hx
    exact hx
  unfold M__law_source_of at hm
  obtain ⟨z2, hz2, hm⟩ := bnd_some hm
  refine xs_set (A := va T z2) (show XE _ _ _ (va T z2) (stt Ω [] []) from ?q3) ?_
  case q3 =>
    exact (by
      by_cases hc : (decide ((0 : Int) ≤ x0)) = true
      · rw [if_pos hc] at hz2
        obtain rfl := Option.some.inj hz2
        exact xe_ifT (xt_eq (xt_test (T := T) (xe_ge (xe_var (i := 0) rfl) xe_int)) hc) (xe_var (i := 0) rfl)
      · rw [if_neg hc] at hz2
        obtain ⟨z1, hz1, hz2⟩ := bnd_some hz2
        obtain rfl := Option.some.inj hz2
        exact xe_ifF (xt_eq (xt_test (T := T) (xe_ge (xe_var (i := 0) rfl) xe_int)) (nt hc)) (xe_sub (xe_sub xe_int (xe_mul (chkP_some hz1) xe_int (xe_var (i := 0) rfl))) xe_int))
  show XS (tRet _) _ _ [some (va T z2)] (stt Ω [] [])
  obtain ⟨z4, hz4, hm⟩ := bnd_some hm
  obtain ⟨z5, hz5, hm⟩ := bnd_some hm
  obtain ⟨z6, hz6, hm⟩ := bnd_some hm
  obtain rfl := Option.some.inj hm
  refine xs_ret (xn_lst (T := T) (l := [(z2 * (if (decide (((10 : Int) ^ ((18 : Int)).toNat) ≤ z2)) = true then (1 : Int) else 0)), (z2 % (2147483647 : Int)), (0 : Int)]) (xa_cons (xe_mul (chkP_some hz5) (xe_var (i := 0) rfl) (xe_intb (xe_ge (xe_var (i := 0) rfl) (xe_pow (chkP_some hz4) xe_int xe_int)))) (xa_cons (xe_mod (chkP_some hz6) (xe_int1 (xe_var (i := 0) rfl)) xe_int) (xa_cons xe_int xa_nil))) (by show 3 ≤ sizeLine; decide)) (RT.allN hrt)
noncomputable def M__law_next (x0 : List Int) (x1 : Int) : Option (Int × List Int) :=
  (atI x0 (0 : Int)).bind fun z1 => if (decide ((0 : Int) < z1)) = true then (atI x0 (0 : Int)).bind fun z2 => (chkP (0 < x1)).bind fun z3 => (some (z2 % x1)).bind fun y4 => (atI x0 (0 : Int)).bind fun z5 => (chkP (CDivW z5 x1)).bind fun z6 => (some (z5 / x1)).bind fun y7 => (ixN x0.length (0 : Int)).bind fun z8 => some (y4, (x0.set z8 y7)) else (atI x0 (2 : Int)).bind fun z9 => (some (z9 + (1 : Int))).bind fun y10 => (ixN x0.length (2 : Int)).bind fun z11 => (atI (x0.set z11 y10) (1 : Int)).bind fun z12 => (atI (x0.set z11 y10) (2 : Int)).bind fun z13 => (chkP (IntMulOk (104729 : Int) z13)).bind fun z14 => (chkP (0 < (2147483647 : Int))).bind fun z15 => (some (((z12 + ((104729 : Int) * z13)) + (7919 : Int)) % (2147483647 : Int))).bind fun y16 => (chkP (IntMulOk y16 (48271 : Int))).bind fun z17 => (chkP (0 < (2147483647 : Int))).bind fun z18 => (some ((y16 * (48271 : Int)) % (2147483647 : Int))).bind fun y19 => (chkP (CDivW y19 (1009 : Int))).bind fun z20 => (chkP (IntMulOk y19 ((y19 / (1009 : Int)) + (69621 : Int)))).bind fun z21 => (chkP (0 < (2147483647 : Int))).bind fun z22 => (some ((y19 * ((y19 / (1009 : Int)) + (69621 : Int))) % (2147483647 : Int))).bind fun y23 => (chkP (CDivW y23 (2003 : Int))).bind fun z24 => (chkP (IntMulOk y23 ((y23 / (2003 : Int)) + (40692 : Int)))).bind fun z25 => (chkP (0 < (2147483399 : Int))).bind fun z26 => (some ((y23 * ((y23 / (2003 : Int)) + (40692 : Int))) % (2147483399 : Int))).bind fun y27 => (chkP (CDivW y27 (7 : Int))).bind fun z28 => (chkP (0 < x1)).bind fun z29 => some (((y27 / (7 : Int)) % x1), (x0.set z11 y10))
def Pre__law_next (T : TC) : PreT := fun As Ω R => ∃ (k0 : Nat) (p0 : Addr) (x0 : List Int) (x1 : Int) (r : Int × List Int), As = [vr p0, va T x1] ∧ Ω[k0]? = some (lstA T p0 x0) ∧ M__law_next x0 x1 = some r ∧ R = RV (va T r.1) (stt Ω [(k0, lstA T p0 r.2)] [])
theorem sc__law_next : FnScope ["_law_source", "_law_times", "_law_found", "_law_prime", "_law_number"] ["_law_source", "_law_times"] (defScope s__law_next) := ⟨rfl, rfl, rfl, by decide +kernel, rfl, by decide +kernel, by decide +kernel⟩
theorem ok__law_next {f : Addr} {fd : FuncData} (F : Fun T.K "_law_next" "_law_next" s__law_next f fd) (z_int : mg "int" = none) : FnOk P w T.K mg base CX0 1 f fd ["_law_source", "_law_times"] (mkSp (Pre__law_next T)) := by
  refine fn_ok F sc__law_next (fun As Ω R h => ?_) (fun cdv A outer s H E hr As Ω R F0 h => ?_)
  · obtain ⟨k0, p0, x0, x1, r, rfl, _⟩ := h
    rfl
  obtain ⟨k0, p0, x0, x1, r, rfl, hk0, hm, rfl⟩ := h
  refine ⟨_, (pss_cons (ps_if (pt_cmpR op_gt (pe_ix (ix_seqK (K := T.K) rfl) (pv 0) pe_int (by intro _ _; rfl)) pe_int (nomark _)) (pss_cons (ps_set (i := 2) sc__law_next.nd rfl (.inl rfl) (pe_op op_mod (pe_callTy cr_int (by rfl) z_int (by decide +kernel) (pa_cons (pe_ix (ix_seqK (K := T.K) rfl) (pv 0) pe_int (by intro _ _; rfl)) pa_nil)) (pv 1))) (pss_cons (ps_asg (pe_op op_fdivW (pe_ix (ix_seqK (K := T.K) rfl) (pv 0) pe_int (by intro _ _; rfl)) (pv 1)) (pg_sub (pv 0) pe_int set_list)) (pss_one (ps_ret (pv 2))))) pss_nil) (pss_cons (ps_asg (pe_op op_addQ (pe_ix (ix_seqK (K := T.K) rfl) (pv 0) pe_int (by intro _ _; rfl)) pe_int) (pg_sub (pv 0) pe_int set_list)) (pss_cons (ps_set (i := 3) sc__law_next.nd rfl (.inl rfl) pe_int) (pss_cons (ps_set (i := 4) sc__law_next.nd rfl (.inl rfl) (pe_op op_mod (pe_callTy cr_int (by rfl) z_int (by decide +kernel) (pa_cons (pe_op op_addQ (pe_op op_addQ (pe_ix (ix_seqK (K := T.K) rfl) (pv 0) pe_int (by intro _ _; rfl)) (pe_op op_mulQ pe_int (pe_ix (ix_seqK (K := T.K) rfl) (pv 0) pe_int (by intro _ _; rfl)))) pe_int) pa_nil)) (pv 3))) (pss_cons (ps_set (i := 4) sc__law_next.nd rfl (.inl rfl) (pe_op op_mod (pe_callTy cr_int (by rfl) z_int (by decide +kernel) (pa_cons (pe_op op_mulQ (pv 4) pe_int) pa_nil)) (pv 3))) (pss_cons (ps_set (i := 4) sc__law_next.nd rfl (.inl rfl) (pe_op op_mod (pe_callTy cr_int (by rfl) z_int (by decide +kernel) (pa_cons (pe_op op_mulQ (pv 4) (pe_op op_addQ (pe_op op_fdivW (pv 4) pe_int) pe_int)) pa_nil)) (pv 3))) (pss_cons (ps_set (i := 4) sc__law_next.nd rfl (.inl rfl) (pe_op op_mod (pe_callTy cr_int (by rfl) z_int (by decide +kernel) (pa_cons (pe_op op_mulQ (pv 4) (pe_op op_addQ (pe_op op_fdivW (pv 4) pe_int) pe_int)) pa_nil)) pe_int)) (pss_one (ps_ret (pe_op op_mod (pe_callTy cr_int (by rfl) z_int (by decide +kernel) (pa_cons (pe_op op_fdivW (pv 4) pe_int) pa_nil)) (pv 1))))))))))), fun D hrt hnx => ?_⟩
  have ok := okk1 hk0
  suffices hx : XS _ D F0 [some (vr p0), some (va T x1), none, none, none] (stt Ω [(k0, lstA T p0 (x0 : List Int))] []) by
    rw [show (stt Ω [(k0, lstA T p0 (x0 : List Int))] []) = Ω from stt_self (by simp [hk0])] at hx
    exact hx
  unfold M__law_next at hm
  obtain ⟨z1, hz1, hm⟩ := bnd_some hm
  by_cases hc : (decide ((0 : Int) < z1)) = true
  · rw [if_pos hc] at hm
    refine xs_ifT (xt_eq (xt_test (T := T) (xe_gt (xe_ix (xe_var (i := 0) rfl) xe_int (isL_M (stt_get ok (i := 0) rfl)) hz1) xe_int)) hc) ?_
    obtain ⟨z2, hz2, hm⟩ := bnd_some hm
    obtain ⟨z3, hz3, hm⟩ := bnd_some hm
    obtain ⟨y4, hy4, hm⟩ := bnd_some hm
    refine xs_set (A := va T y4) (xe_eq (xe_mod (chkP_some hz3) (xe_int1 (xe_ix (xe_var (i := 0) rfl) xe_int (isL_M (stt_get ok (i := 0) rfl)) hz2)) (xe_var (i := 1) rfl)) (Option.some.inj hy4)) ?_
    show XS (tSeq _ _) _ _ [some (vr p0), some (va T x1), some (va T y4), none, none] (stt Ω [(k0, lstA T p0 (x0 : List Int))] [])
    obtain ⟨z5, hz5, hm⟩ := bnd_some hm
    obtain ⟨z6, hz6, hm⟩ := bnd_some hm
    obtain ⟨y7, hy7, hm⟩ := bnd_some hm
    obtain ⟨z8, hz8, hm⟩ := bnd_some hm
    refine xs_setL (xe_eq (xe_fdiv (chkP_some hz6) (xe_ix (xe_var (i := 0) rfl) xe_int (isL_M (stt_get ok (i := 0) rfl)) hz5) (xe_var (i := 1) rfl)) (Option.some.inj hy7)) (xe_var (i := 0) rfl) xe_int (stt_get ok (i := 0) rfl) hz8 ?_
    rw [(stt_set ok (i := 0) rfl)]
    show XS (tRet _) _ _ [some (vr p0), some (va T x1), some (va T y4), none, none] (stt Ω [(k0, lstA T p0 ((x0.set z8 y7) : List Int))] [])
    obtain rfl := Option.some.inj hm
    refine xs_ret (xe_var (i := 2) rfl) hrt.all
  · rw [if_neg hc] at hm
    refine xs_ifN (xt_eq (xt_test (T := T) (xe_gt (xe_ix (xe_var (i := 0) rfl) xe_int (isL_M (stt_get ok (i := 0) rfl)) hz1) xe_int)) (nt hc)) ?_
    show XS (tSeq _ _) _ _ [some (vr p0), some (va T x1), none, none, none] (stt Ω [(k0, lstA T p0 (x0 : List Int))] [])
    obtain ⟨z9, hz9, hm⟩ := bnd_some hm
    obtain ⟨y10, hy10, hm⟩ := bnd_some hm
    obtain ⟨z11, hz11, hm⟩ := bnd_some hm
    refine xs_setL (xe_eq (xe_add (xe_ix (xe_var (i := 0) rfl) xe_int (isL_M (stt_get ok (i := 0) rfl)) hz9) xe_int) (Option.some.inj hy10)) (xe_var (i := 0) rfl) xe_int (stt_get ok (i := 0) rfl) hz11 ?_
    rw [(stt_set ok (i := 0) rfl)]
    show XS (tSeq _ _) _ _ [some (vr p0), some (va T x1), none, none, none] (stt Ω [(k0, lstA T p0 ((x0.set z11 y10) : List Int))] [])
    refine xs_set (A := va T (2147483647 : Int)) xe_int ?_
    show XS (tSeq _ _) _ _ [some (vr p0), some (va T x1), none, some (va T (2147483647 : Int)), none] (stt Ω [(k0, lstA T p0 ((x0.set z11 y10) : List Int))] [])
    obtain ⟨z12, hz12, hm⟩ := bnd_some hm
    obtain ⟨z13, hz13, hm⟩ := bnd_some hm
    obtain ⟨z14, hz14, hm⟩ := bnd_some hm
    obtain ⟨z15, hz15, hm⟩ := bnd_some hm
    obtain ⟨y16, hy16, hm⟩ := bnd_some hm
    refine xs_set (A := va T y16) (xe_eq (xe_mod (chkP_some hz15) (xe_int1 (xe_add (xe_add (xe_ix (xe_var (i := 0) rfl) xe_int (isL_M (stt_get ok (i := 0) rfl)) hz12) (xe_mul (chkP_some hz14) xe_int (xe_ix (xe_var (i := 0) rfl) xe_int (isL_M (stt_get ok (i := 0) rfl)) hz13))) xe_int)) (xe_var (i := 3) rfl)) (Option.some.inj hy16)) ?_
    show XS (tSeq _ _) _ _ [some (vr p0), some (va T x1), none, some (va T (2147483647 : Int)), some (va T y16)] (stt Ω [(k0, lstA T p0 ((x0.set z11 y10) : List Int))] [])
    obtain ⟨z17, hz17, hm⟩ := bnd_some hm
    obtain ⟨z18, hz18, hm⟩ := bnd_some hm
    obtain ⟨y19, hy19, hm⟩ := bnd_some hm
    refine xs_set (A := va T y19) (xe_eq (xe_mod (chkP_some hz18) (xe_int1 (xe_mul (chkP_some hz17) (xe_var (i := 4) rfl) xe_int)) (xe_var (i := 3) rfl)) (Option.some.inj hy19)) ?_
    show XS (tSeq _ _) _ _ [some (vr p0), some (va T x1), none, some (va T (2147483647 : Int)), some (va T y19)] (stt Ω [(k0, lstA T p0 ((x0.set z11 y10) : List Int))] [])
    obtain ⟨z20, hz20, hm⟩ := bnd_some hm
    obtain ⟨z21, hz21, hm⟩ := bnd_some hm
    obtain ⟨z22, hz22, hm⟩ := bnd_some hm
    obtain ⟨y23, hy23, hm⟩ := bnd_some hm
    refine xs_set (A := va T y23) (xe_eq (xe_mod (chkP_some hz22) (xe_int1 (xe_mul (chkP_some hz21) (xe_var (i := 4) rfl) (xe_add (xe_fdiv (chkP_some hz20) (xe_var (i := 4) rfl) xe_int) xe_int))) (xe_var (i := 3) rfl)) (Option.some.inj hy23)) ?_
    show XS (tSeq _ _) _ _ [some (vr p0), some (va T x1), none, some (va T (2147483647 : Int)), some (va T y23)] (stt Ω [(k0, lstA T p0 ((x0.set z11 y10) : List Int))] [])
    obtain ⟨z24, hz24, hm⟩ := bnd_some hm
    obtain ⟨z25, hz25, hm⟩ := bnd_some hm
    obtain ⟨z26, hz26, hm⟩ := bnd_some hm
    obtain ⟨y27, hy27, hm⟩ := bnd_some hm
    refine xs_set (A := va T y27) (xe_eq (xe_mod (chkP_some hz26) (xe_int1 (xe_mul (chkP_some hz25) (xe_var (i := 4) rfl) (xe_add (xe_fdiv (chkP_some hz24) (xe_var (i := 4) rfl) xe_int) xe_int))) xe_int) (Option.some.inj hy27)) ?_
    show XS (tRet _) _ _ [some (vr p0), some (va T x1), none, some (va T (2147483647 : Int)), some (va T y27)] (stt Ω [(k0, lstA T p0 ((x0.set z11 y10) : List Int))] [])
    obtain ⟨z28, hz28, hm⟩ := bnd_some hm
    obtain ⟨z29, hz29, hm⟩ := bnd_some hm
    obtain rfl := Option.some.inj hm
    refine xs_ret (xe_mod (chkP_some hz29) (xe_int1 (xe_fdiv (chkP_some hz28) (xe_var (i := 4) rfl) xe_int)) (xe_var (i := 1) rfl)) hrt.all
noncomputable def M__law_one (x0 : List Int) (x1 : List Int) : Option (Int × List Int) :=
  (M__law_next x0 (x1.length : Int)).bind fun z1 => (atI x1 z1.1).bind fun z2 => some (z2, z1.2)
def Pre__law_one (T : TC) : PreT := fun As Ω R => ∃ (k0 : Nat) (p0 : Addr) (x0 : List Int) (x1 : List Int) (r : Int × List Int), As = [vr p0, va T (LF.mk x1)] ∧ Ω[k0]? = some (lstA T p0 x0) ∧ M__law_one x0 x1 = some r ∧ R = RV (va T r.1) (stt Ω [(k0, lstA T p0 r.2)] [])
theorem sc__law_one : FnScope ["_law_source", "_law_some"] ["_law_source", "_law_some"] (defScope s__law_one) := ⟨rfl, rfl, rfl, by decide +kernel, rfl, by decide +kernel, by decide +kernel⟩
theorem ok__law_one {f : Addr} {fd : FuncData} (F : Fun T.K "_law_one" "_law_one" s__law_one f fd) (z_len : mg "len" = none) (c__law_next : Cal P w T.K mg base 1 "_law_next" ["_law_source", "_law_times"] (mkSp (Pre__law_next T))) : FnOk P w T.K mg base CX0 2 f fd ["_law_source", "_law_some"] (mkSp (Pre__law_one T)) := by
  refine fn_ok F sc__law_one (fun As Ω R h => ?_) (fun cdv A outer s H E hr As Ω R F0 h => ?_)
  · obtain ⟨k0, p0, x0, x1, r, rfl, _⟩ := h
    rfl
  obtain ⟨k0, p0, x0, x1, r, rfl, hk0, hm, rfl⟩ := h
  refine ⟨_, (pss_one (ps_ret (pe_ix (ix_seqK (K := T.K) rfl) (pv 1) (pe_cal c__law_next (hr.mono (by decide)) (by rfl) (pa_cons (pv 0) (pa_cons (pe_callB (cr_lenK (K := T.K) rfl) (by rfl) z_len PySem.boot_len (pa_cons (pv 1) pa_nil)) pa_nil))) (by intro _ _; rfl)))), fun D hrt hnx => ?_⟩
  have ok := okk1 hk0
  suffices hx : XS _ D F0 [some (vr p0), some (va T (LF.mk x1))] (stt Ω [(k0, lstA T p0 (x0 : List Int))] []) by
    rw [show (stt Ω [(k0, lstA T p0 (x0 : List Int))] []) = Ω from stt_self (by simp [hk0])] at hx
    exact hx
  unfold M__law_one at hm
  obtain ⟨z1, hz1, hm⟩ := bnd_some hm
  obtain ⟨z2, hz2, hm⟩ := bnd_some hm
  obtain rfl := Option.some.inj hm
  refine xs_ret (xe_ix (xe_var (i := 1) rfl) (xe_call (xa_cons (xe_var (i := 0) rfl) (xa_cons (xe_lenL (xe_var (i := 1) rfl) isL_LF) xa_nil)) ⟨k0, p0, x0, (x1.length : Int), z1, rfl, (stt_get ok (i := 0) rfl), hz1, rfl⟩ (cal1 ok (i := 0) rfl)) isL_LF hz2) hrt.all
noncomputable def M__law_cell_at (x0 : List Int) (x1 : Int) : Option Int :=
  (chkP ((cut x0 (some x1) (some (x1 + (1 : Int)))).length + ([(0 : Int)] : List Int).length ≤ sizeLine)).bind fun z1 => (atI ((cut x0 (some x1) (some (x1 + (1 : Int)))) ++ ([(0 : Int)] : List Int)) (0 : Int)).bind fun z2 => some z2
def Pre__law_cell_at (T : TC) : PreT := fun As Ω R => ∃ (x0 : List Int) (x1 : Int) (r : Int), As = [va T (SF.mk x0), va T x1] ∧ M__law_cell_at x0 x1 = some r ∧ R = RV (va T r) (stt Ω [] [])
theorem sc__law_cell_at : FnScope ["_law_script", "_law_index"] ["_law_script", "_law_index"] (defScope s__law_cell_at) := ⟨rfl, rfl, rfl, by decide +kernel, rfl, by decide +kernel, by decide +kernel⟩
theorem ok__law_cell_at {f : Addr} {fd : FuncData} (F : Fun T.K "_law_cell_at" "_law_cell_at" s__law_cell_at f fd)  : FnOk P w T.K mg base CX0 1 f fd ["_law_script", "_law_index"] (mkSp (Pre__law_cell_at T)) := by
  refine fn_ok F sc__law_cell_at (fun As Ω R h => ?_) (fun cdv A outer s H E hr As Ω R F0 h => ?_)
  · obtain ⟨x0, x1, r, rfl, _⟩ := h
    rfl
  obtain ⟨x0, x1, r, rfl, hm, rfl⟩ := h
  refine ⟨_, (pss_one (ps_ret (pe_ix (ix_seqK (K := T.K) rfl) (pe_op op_addQ (pe_slice (sl_listK (K := T.K) rfl) (pv 0) (po_some (pv 1)) (po_some (pe_op op_addQ (pv 1) pe_int))) (pe_lst (pa_cons pe_int pa_nil))) pe_int (by intro _ _; rfl)))), fun D hrt hnx => ?_⟩
  have ok : Okk Ω [] := okk0
  suffices hx : XS _ D F0 [some (va T (SF.mk x0)), some (va T x1)] (stt Ω [] []) by
    rw [show (stt Ω [] []) = Ω from stt_self (by simp)] at hx
    exact hx
  unfold M__law_cell_at at hm
  obtain ⟨z1, hz1, hm⟩ := bnd_some hm
  obtain ⟨z2, hz2, hm⟩ := bnd_some hm
  obtain rfl := Option.some.inj hm
  refine xs_ret (xe_ix (xe_cat (xe_sliceL (xe_var (i := 0) rfl) (xo_some (T := T) (xe_var (i := 1) rfl)) (xo_some (T := T) (xe_add (xe_var (i := 1) rfl) xe_int)) isL_SF) (xe_lst (l := [(0 : Int)]) (xa_cons xe_int xa_nil) (by show 1 ≤ sizeLine; decide)) isLs_LF isLs_LF (chkP_some hz1)) xe_int isL_LF hz2) hrt.all
noncomputable def M__law_power (x0 : Int) (x1 : Int) : Option Int :=
  (chkP (-(2 ^ 62) ≤ x1 ∧ x1 < 2 ^ 62)).bind fun z1 => (forM' (ρ := Unit) (fun (a3 : Int) (s2 : Int) => (chkP (IntMulOk s2 x0)).bind fun z4 => (some (s2 * x0)).bind fun y5 => some (Stp.nx y5)) (rng 0 (x1).toNat) (1 : Int)).bind fun z6 => (nxt z6).bind fun s7 => some s7
def Pre__law_power (T : TC) : PreT := fun As Ω R => ∃ (x0 : Int) (x1 : Int) (r : Int), As = [va T x0, va T x1] ∧ M__law_power x0 x1 = some r ∧ R = RV (va T r) (stt Ω [] [])
theorem sc__law_power : FnScope ["_law_base", "_law_times", "_law_found", "_law_k"] ["_law_base", "_law_times"] (defScope s__law_power) := ⟨rfl, rfl, rfl, by decide +kernel, rfl, by decide +kernel, by decide +kernel⟩
theorem ok__law_power {f : Addr} {fd : FuncData} (F : Fun T.K "_law_power" "_law_power" s__law_power f fd) (z_range : mg "range" = none) : FnOk P w T.K mg base CX0 1 f fd ["_law_base", "_law_times"] (mkSp (Pre__law_power T)) := by
  refine fn_ok F sc__law_power (fun As Ω R h => ?_) (fun cdv A outer s H E hr As Ω R F0 h => ?_)
  · obtain ⟨x0, x1, r, rfl, _⟩ := h
    rfl
  obtain ⟨x0, x1, r, rfl, hm, rfl⟩ := h
  refine ⟨_, (pss_cons (ps_set (i := 2) sc__law_power.nd rfl (.inl rfl) pe_int) (pss_cons (ps_for PassesOwn.never rfl (pi_range1 rfl z_range (pa_cons (pv 1) pa_nil)) (pg_name (i := 3) sc__law_power.nd rfl (.inl rfl)) (pss_one (ps_set (i := 2) sc__law_power.nd rfl (.inl rfl) (pe_op op_mulQ (pv 2) (pv 0))))) (pss_one (ps_ret (pv 2))))), fun D hrt hnx => ?_⟩
  have ok : Okk Ω [] := okk0
  suffices hx : XS _ D F0 [some (va T x0), some (va T x1), none, none] (stt Ω [] []) by
    rw [show (stt Ω [] []) = Ω from stt_self (by simp)] at hx
    exact hx
  unfold M__law_power at hm
  refine xs_set (A := va T (1 : Int)) xe_int ?_
  show XS (tSeq _ _) _ _ [some (va T x0), some (va T x1), some (va T (1 : Int)), none] (stt Ω [] [])
  obtain ⟨z1, hz1, hm⟩ := bnd_some hm
  obtain ⟨z6, hz6, hm⟩ := bnd_some hm
  refine xs_forS (fun (s2 : Int) => [some (va T x0), some (va T x1), some (va T s2), none]) (fun (s2 : Int) => (stt Ω [] [])) (fun (_ : Unit) _ _ _ => False) hz6 (xi_range1 (T := T) (xa_cons (xe_var (i := 1) rfl) xa_nil) (chkP_some hz1).1 (chkP_some hz1).2) (fun _ => tgt_name) (fun a3 s2 s' ha hm F1 D1 e1 hD => ?_) (fun s7 es => ?_) (fun r1 es => ?_)
  · show XS (tAsg _ _) _ _ [some (va T x0), some (va T x1), some (va T s2), some (va T a3)] (stt Ω [] [])
    obtain ⟨z4, hz4, hm⟩ := bnd_some hm
    obtain ⟨y5, hy5, hm⟩ := bnd_some hm
    refine xs_set1 (A := va T y5) (xe_eq (xe_mul (chkP_some hz4) (xe_var (i := 2) rfl) (xe_var (i := 0) rfl)) (Option.some.inj hy5)) ?_
    obtain rfl := Option.some.inj hm
    exact fun σ H n => hD.nx _ rfl σ H (n.forget 3)
  · subst es
    obtain ⟨s2, hs2, hm⟩ := bnd_some hm
    cases hs2
    show XS (tRet _) _ _ [some (va T x0), some (va T x1), some (va T s7), none] (stt Ω [] [])
    obtain rfl := Option.some.inj hm
    refine xs_ret (xe_var (i := 2) rfl) hrt.all
  · subst es
    cases hm
noncomputable def M__law_machine (x0 : List Int) : Option (MS × List Int) :=
  (M__law_next x0 (23 : Int)).bind fun z1 => (some ((8 : Int) + z1.1)).bind fun y2 => (M__law_next z1.2 (8 : Int)).bind fun z3 => (M__law_next z3.2 (999 : Int)).bind fun z4 => (M__law_one z4.2 ([((2 : Int) + z3.1), (70 : Int), ((2 : Int) + z4.1)] : List Int)).bind fun z5 => (M__law_one z5.2 ([(8 : Int), (8 : Int), (9 : Int), (15 : Int), (30 : Int), (30 : Int), y2] : List Int)).bind fun z6 => (chkP ((8 ≤ z6.1 ∧ z6.1 ≤ 30) ∧ 2 ≤ z5.1 ∧ z5.1 ≤ 1000)).bind fun z7 => some ((MS.fresh z6.1 z5.1), z6.2)
def Pre__law_machine (T : TC) : PreT := fun As Ω R => ∃ (k0 : Nat) (p0 : Addr) (x0 : List Int) (r : MS × List Int), As = [vr p0] ∧ Ω[k0]? = some (lstA T p0 x0) ∧ M__law_machine x0 = some r ∧ R = RN (stt Ω [(k0, lstA T p0 r.2)] []) (fun q => machA T q r.1)
theorem sc__law_machine : FnScope ["_law_source", "_law_drawn", "_law_cut"] ["_law_source"] (defScope s__law_machine) := ⟨rfl, rfl, rfl, by decide +kernel, rfl, by decide +kernel, by decide +kernel⟩
theorem ok__law_machine {f : Addr} {fd : FuncData} (F : Fun T.K "_law_machine" "_law_machine" s__law_machine f fd) (c__law_next : Cal P w T.K mg base 1 "_law_next" ["_law_source", "_law_times"] (mkSp (Pre__law_next T))) (c__law_one : Cal P w T.K mg base 2 "_law_one" ["_law_source", "_law_some"] (mkSp (Pre__law_one T))) (c_Machine2 : CalC P w T.K mg base 3 "Machine" (T.C 0) ["self", "bits", "cutoff"] [] (mkSp (Pre_Machine T))) : FnOk P w T.K mg base CX0 5 f fd ["_law_source"] (mkSp (Pre__law_machine T)) := by
  refine fn_ok F sc__law_machine (fun As Ω R h => ?_) (fun cdv A outer s H E hr As Ω R F0 h => ?_)
  · obtain ⟨k0, p0, x0, r, rfl, _⟩ := h
    rfl
  obtain ⟨k0, p0, x0, r, rfl, hk0, hm, rfl⟩ := h
  refine ⟨_, (pss_cons (ps_set (i := 1) sc__law_machine.nd rfl (.inl rfl) (pe_op op_addQ pe_int (pe_cal c__law_next (hr.mono (by decide)) (by rfl) (pa_cons (pv 0) (pa_cons pe_int pa_nil))))) (pss_cons (ps_set (i := 2) sc__law_machine.nd rfl (.inl rfl) (pe_cal c__law_one (hr.mono (by decide)) (by rfl) (pa_cons (pv 0) (pa_cons (pe_lst (pa_cons (pe_op op_addQ pe_int (pe_cal c__law_next (hr.mono (by decide)) (by rfl) (pa_cons (pv 0) (pa_cons pe_int pa_nil)))) (pa_cons pe_int (pa_cons (pe_op op_addQ pe_int (pe_cal c__law_next (hr.mono (by decide)) (by rfl) (pa_cons (pv 0) (pa_cons pe_int pa_nil)))) pa_nil)))) pa_nil)))) (pss_one (ps_ret (pe_calC c_Machine2 (hr.mono (by decide)) (by rfl) (pa_cons (pe_cal c__law_one (hr.mono (by decide)) (by rfl) (pa_cons (pv 0) (pa_cons (pe_lst (pa_cons pe_int (pa_cons pe_int (pa_cons pe_int (pa_cons pe_int (pa_cons pe_int (pa_cons pe_int (pa_cons (pv 1) pa_nil)))))))) pa_nil))) (pa_cons (pv 2) pa_nil))))))), fun D hrt hnx => ?_⟩
  have ok := okk1 hk0
  suffices hx : XS _ D F0 [some (vr p0), none, none] (stt Ω [(k0, lstA T p0 (x0 : List Int))] []) by
    rw [show (stt Ω [(k0, lstA T p0 (x0 : List Int))] []) = Ω from stt_self (by simp [hk0])] at hx
    exact hx
  unfold M__law_machine at hm
  obtain ⟨z1, hz1, hm⟩ := bnd_some hm
  obtain ⟨y2, hy2, hm⟩ := bnd_some hm
  refine xs_set (A := va T y2) (xe_eq (xe_add xe_int (xe_call (xa_cons (xe_var (i := 0) rfl) (xa_cons xe_int xa_nil)) ⟨k0, p0, x0, (23 : Int), z1, rfl, (stt_get ok (i := 0) rfl), hz1, rfl⟩ (cal1 ok (i := 0) rfl))) (Option.some.inj hy2)) ?_
  show XS (tSeq _ _) _ _ [some (vr p0), some (va T y2), none] (stt Ω [(k0, lstA T p0 (z1.2 : List Int))] [])
  obtain ⟨z3, hz3, hm⟩ := bnd_some hm
  obtain ⟨z4, hz4, hm⟩ := bnd_some hm
  obtain ⟨z5, hz5, hm⟩ := bnd_some hm
  refine xs_set (A := va T z5.1) (xe_call (xa_cons (xe_var (i := 0) rfl) (xa_cons (xe_lst (l := [((2 : Int) + z3.1), (70 : Int), ((2 : Int) + z4.1)]) (xa_cons (xe_add xe_int (xe_call (xa_cons (xe_var (i := 0) rfl) (xa_cons xe_int xa_nil)) ⟨k0, p0, z1.2, (8 : Int), z3, rfl, (stt_get ok (i := 0) rfl), hz3, rfl⟩ (cal1 ok (i := 0) rfl))) (xa_cons xe_int (xa_cons (xe_add xe_int (xe_call (xa_cons (xe_var (i := 0) rfl) (xa_cons xe_int xa_nil)) ⟨k0, p0, z3.2, (999 : Int), z4, rfl, (stt_get ok (i := 0) rfl), hz4, rfl⟩ (cal1 ok (i := 0) rfl))) xa_nil))) (by show 3 ≤ sizeLine; decide)) xa_nil)) ⟨k0, p0, z4.2, ([((2 : Int) + z3.1), (70 : Int), ((2 : Int) + z4.1)] : List Int), z5, rfl, (stt_get ok (i := 0) rfl), hz5, rfl⟩ (cal1 ok (i := 0) rfl)) ?_
  show XS (tRet _) _ _ [some (vr p0), some (va T y2), some (va T z5.1)] (stt Ω [(k0, lstA T p0 (z5.2 : List Int))] [])
  obtain ⟨z6, hz6, hm⟩ := bnd_some hm
  obtain ⟨z7, hz7, hm⟩ := bnd_some hm
  obtain rfl := Option.some.inj hm
  refine xs_ret (xn_make (Ds := []) (xa_cons (xe_call (xa_cons (xe_var (i := 0) rfl) (xa_cons (xe_lst (l := [(8 : Int), (8 : Int), (9 : Int), (15 : Int), (30 : Int), (30 : Int), y2]) (xa_cons xe_int (xa_cons xe_int (xa_cons xe_int (xa_cons xe_int (xa_cons xe_int (xa_cons xe_int (xa_cons (xe_var (i := 1) rfl) xa_nil))))))) (by show 7 ≤ sizeLine; decide)) xa_nil)) ⟨k0, p0, z5.2, ([(8 : Int), (8 : Int), (9 : Int), (15 : Int), (30 : Int), (30 : Int), y2] : List Int), z6, rfl, (stt_get ok (i := 0) rfl), hz6, rfl⟩ (cal1 ok (i := 0) rfl)) (xa_cons (xe_var (i := 2) rfl) xa_nil)) (fun _ => .nil) (fun q => ⟨_, q, z6.1, z5.1, rfl, chkP_some hz7, rfl, rfl⟩)) (RT.allN hrt)
noncomputable def M__law_counted (x0 : MS) (x1 : DF) (x2 : List (T3 Str Int Int)) : Option (Bool × MS) :=
  (chkP (x0.tally.length ≤ sizeLine)).bind fun z1 => (lcM (fun (a3 : (Str × Int)) (s2 : Unit) => if (decide ((0 : Int) < a3.2)) = true then some (some (a3.1, a3.2), ()) else some (none, ())) x0.tally ()).bind fun z4 => (chkP ((z4.1.map (·.1)).Nodup)).bind fun z6 => (some (DF.mk z4.1)).bind fun y7 => (chkP (x1.l.length ≤ sizeLine)).bind fun z8 => (lcM (fun (a10 : (Str × Int)) (s9 : Unit) => if (decide ((0 : Int) < a10.2)) = true then some (some (a10.1, a10.2), ()) else some (none, ())) x1.l ()).bind fun z11 => (chkP ((z11.1.map (·.1)).Nodup)).bind fun z13 => (some (DF.mk z11.1)).bind fun y14 => (chkP (sameD y7.l y14.l)).bind fun z15 => (if true = true then (chkP (Dat.ok (LF.mk x0.wk) ∧ Dat.ok (LF.mk x2))).bind fun z16 => some (eqD (LF.mk x0.wk) (LF.mk x2)) else some false).bind fun z17 => (chkP (z17 = true)).bind fun z19 => some (true, x0.reset)
def Pre__law_counted (T : TC) : PreT := fun As Ω R => ∃ (k0 : Nat) (p0 : Addr) (x0 : MS) (x1 : DF) (x2 : List (T3 Str Int Int)) (r : Bool × MS), As = [vr p0, va T x1, va T (LF.mk x2)] ∧ Ω[k0]? = some (machA T p0 x0) ∧ M__law_counted x0 x1 x2 = some r ∧ R = RV (va T r.1) (stt Ω [(k0, machA T p0 r.2)] [])
theorem sc__law_counted : FnScope ["_law_machine_here", "_law_got", "_law_entered", "_law_found", "_law_due", "_law_is_same", "_law_word", "_law_number"] ["_law_machine_here", "_law_got", "_law_entered"] (defScope s__law_counted) := ⟨rfl, rfl, rfl, by decide +kernel, rfl, by decide +kernel, by decide +kernel⟩
theorem ok__law_counted {f : Addr} {fd : FuncData} (F : Fun T.K "_law_counted" "_law_counted" s__law_counted f fd) (mc : MCls T.K (T.C 0)) (c_Mach_tally : CalM P w T.K mg base 1 (T.C 0) "tally" ["self"] (mkSp (Pre_Mach_tally T))) (z_dict : mg "dict" = none) (c_Mach_walk : CalM P w T.K mg base 1 (T.C 0) "walk" ["self"] (mkSp (Pre_Mach_walk T))) (c_Mach_reset : CalM P w T.K mg base 1 (T.C 0) "reset" ["self"] (mkSp (Pre_Mach_reset T))) : FnOk P w T.K mg base CX0 2 f fd ["_law_machine_here", "_law_got", "_law_entered"] (mkSp (Pre__law_counted T)) := by
  refine fn_ok F sc__law_counted (fun As Ω R h => ?_) (fun cdv A outer s H E hr As Ω R F0 h => ?_)
  · obtain ⟨k0, p0, x0, x1, x2, r, rfl, _⟩ := h
    rfl
  obtain ⟨k0, p0, x0, x1, x2, r, rfl, hk0, hm, rfl⟩ := h
  refine ⟨_, (pss_cons (ps_set (i := 3) sc__law_counted.nd rfl (.inl rfl) (pe_fz (pe_callTy (cr_dictPK (K := T.K) rfl rfl) (by rfl) z_dict (by decide +kernel) (pa_cons (pe_lc (own := [("_law_word", 6), ("_law_number", 7)]) rfl sc__law_counted.nd (pi_listK (K := T.K) (pe_calM0 (pv 0) c_Mach_tally (hr.mono (by decide))) rfl) (blkOk_by (N := ["_law_machine_here", "_law_got", "_law_entered", "_law_found", "_law_due", "_law_is_same", "_law_word", "_law_number"]) (sc := defScope s__law_counted) (by decide +kernel)) (fun _ _ _ _ _ => (pg_tupK (K := T.K) (n := 2) rfl rfl (pgs_cons (pg_name (i := 6) sc__law_counted.nd rfl (.inl rfl)) (pgs_cons (pg_name (i := 7) sc__law_counted.nd rfl (.inl rfl)) pgs_nil)))) (fun _ _ _ _ _ => (pts_one (pt_cmpR op_gt (pv 7) pe_int (nomark _)))) (fun _ _ _ _ _ => (pe_tup (pa_cons (pv 6) (pa_cons (pv 7) pa_nil))))) pa_nil)))) (pss_cons (ps_set (i := 4) sc__law_counted.nd rfl (.inl rfl) (pe_fz (pe_callTy (cr_dictPK (K := T.K) rfl rfl) (by rfl) z_dict (by decide +kernel) (pa_cons (pe_lc (own := [("_law_word", 6), ("_law_number", 7)]) rfl sc__law_counted.nd (pi_items (pv 1)) (blkOk_by (N := ["_law_machine_here", "_law_got", "_law_entered", "_law_found", "_law_due", "_law_is_same", "_law_word", "_law_number"]) (sc := defScope s__law_counted) (by decide +kernel)) (fun _ _ _ _ _ => (pg_tupK (K := T.K) (n := 2) rfl rfl (pgs_cons (pg_name (i := 6) sc__law_counted.nd rfl (.inl rfl)) (pgs_cons (pg_name (i := 7) sc__law_counted.nd rfl (.inl rfl)) pgs_nil)))) (fun _ _ _ _ _ => (pts_one (pt_cmpR op_gt (pv 7) pe_int (nomark _)))) (fun _ _ _ _ _ => (pe_tup (pa_cons (pv 6) (pa_cons (pv 7) pa_nil))))) pa_nil)))) (pss_cons (ps_set (i := 5) sc__law_counted.nd rfl (.inl rfl) (pe_and (pe_cmpR (op_eqF (Nat.lt_of_le_of_lt (Nat.le_add_right _ 64) (by exact hr.units))) (pv 3) (pv 4) (nomark _)) (pe_one (pe_cmpR (op_eqXK (K := T.K) (by exact hr.units) rfl) (pe_calM0 (pv 0) c_Mach_walk (hr.mono (by decide))) (pv 2) (nomark _))))) (pss_cons (ps_expr (pe_calM0 (pv 0) c_Mach_reset (hr.mono (by decide)))) (pss_one (ps_ret (pv 5))))))), fun D hrt hnx => ?_⟩
  have ok := okk1 hk0
  suffices hx : XS _ D F0 [some (vr p0), some (va T x1), some (va T (LF.mk x2)), none, none, none, none, none] (stt Ω [(k0, machA T p0 x0)] []) by
    rw [show (stt Ω [(k0, machA T p0 x0)] []) = Ω from stt_self (by simp [hk0])] at hx
    exact hx
  unfold M__law_counted at hm
  obtain ⟨z1, hz1, hm⟩ := bnd_some hm
  obtain ⟨z4, hz4, hm⟩ := bnd_some hm
  obtain ⟨z6, hz6, hm⟩ := bnd_some hm
  obtain ⟨y7, hy7, hm⟩ := bnd_some hm
  refine xs_set (A := va T y7) (xe_eq (xe_dictP (xe_fz (xn_lcS (T := T) (fun (s2 : Unit) => [(k0, machA T p0 x0)]) (fun (s2 : Unit) => []) hz4 (xi_LF (xe_mcall (xe_var (i := 0) rfl) (stt_get ok (i := 0) rfl) xa_nil ⟨k0, p0, x0, rfl, (stt_get ok (i := 0) rfl), rfl⟩ rfl)) (fun _ => tgt_pair) (by simp) (chkP_some hz1) ?q5)) isL_LF (chkP_some hz6)) (Option.some.inj hy7)) ?_
  case q5 =>
    exact (fun a3 s2 o s2 ha hm X => by
      by_cases hc : (decide ((0 : Int) < a3.2)) = true
      · rw [if_pos hc] at hm
        obtain ⟨rfl, rfl⟩ := Prod.mk.inj (Option.some.inj hm)
        refine ⟨(fun e => nomatch e), fun y e => ?_⟩
        obtain rfl := Option.some.inj e
        refine ⟨xt_eq (xt_test (T := T) (xe_gt (xe_var (i := 7) rfl) xe_int)) hc, (xe_tup2 (xa_cons (xe_var (i := 6) rfl) (xa_cons (xe_var (i := 7) rfl) xa_nil)))⟩
      · rw [if_neg hc] at hm
        obtain ⟨rfl, rfl⟩ := Prod.mk.inj (Option.some.inj hm)
        exact ⟨fun _ => xt_eq (xt_test (T := T) (xe_gt (xe_var (i := 7) rfl) xe_int)) (nt hc), fun y e => nomatch e⟩)
  show XS (tSeq _ _) _ _ [some (vr p0), some (va T x1), some (va T (LF.mk x2)), some (va T y7), none, none, none, none] (stt Ω [(k0, machA T p0 x0)] [])
  obtain ⟨z8, hz8, hm⟩ := bnd_some hm
  obtain ⟨z11, hz11, hm⟩ := bnd_some hm
  obtain ⟨z13, hz13, hm⟩ := bnd_some hm
  obtain ⟨y14, hy14, hm⟩ := bnd_some hm
  refine xs_set (A := va T y14) (xe_eq (xe_dictP (xe_fz (xn_lcS (T := T) (fun (s9 : Unit) => [(k0, machA T p0 x0)]) (fun (s9 : Unit) => []) hz11 (xi_items (xe_var (i := 1) rfl)) (fun _ => tgt_pair) (by simp) (chkP_some hz8) ?q12)) isL_LF (chkP_some hz13)) (Option.some.inj hy14)) ?_
  case q12 =>
    exact (fun a10 s9 o s2 ha hm X => by
      by_cases hc : (decide ((0 : Int) < a10.2)) = true
      · rw [if_pos hc] at hm
        obtain ⟨rfl, rfl⟩ := Prod.mk.inj (Option.some.inj hm)
        refine ⟨(fun e => nomatch e), fun y e => ?_⟩
        obtain rfl := Option.some.inj e
        refine ⟨xt_eq (xt_test (T := T) (xe_gt (xe_var (i := 7) rfl) xe_int)) hc, (xe_tup2 (xa_cons (xe_var (i := 6) rfl) (xa_cons (xe_var (i := 7) rfl) xa_nil)))⟩
      · rw [if_neg hc] at hm
        obtain ⟨rfl, rfl⟩ := Prod.mk.inj (Option.some.inj hm)
        exact ⟨fun _ => xt_eq (xt_test (T := T) (xe_gt (xe_var (i := 7) rfl) xe_int)) (nt hc), fun y e => nomatch e⟩)
  show XS (tSeq _ _) _ _ [some (vr p0), some (va T x1), some (va T (LF.mk x2)), some (va T y7), some (va T y14), none, none, none] (stt Ω [(k0, machA T p0 x0)] [])
  obtain ⟨z15, hz15, hm⟩ := bnd_some hm
  obtain ⟨z17, hz17, hm⟩ := bnd_some hm
  refine xs_set (A := va T z17) (xe_andO (xe_eqDF (xe_var (i := 3) rfl) (xe_var (i := 4) rfl) (chkP_some hz15)) hz17 ?q18) ?_
  case q18 =>
    exact (fun v hm => by
      obtain ⟨z16, hz16, hm⟩ := bnd_some hm
      obtain rfl := Option.some.inj hm
      exact (xe_eqD (chkP_some hz16) (by decide) (xe_mcall (xe_var (i := 0) rfl) (stt_get ok (i := 0) rfl) xa_nil ⟨k0, p0, x0, rfl, (stt_get ok (i := 0) rfl), rfl⟩ rfl) (xe_var (i := 2) rfl) isD_va isD_va))
  show XS (tSeq _ _) _ _ [some (vr p0), some (va T x1), some (va T (LF.mk x2)), some (va T y7), some (va T y14), some (va T z17), none, none] (stt Ω [(k0, machA T p0 x0)] [])
  refine xs_drop (xe_mcall (xe_var (i := 0) rfl) (stt_get ok (i := 0) rfl) xa_nil ⟨k0, p0, x0, rfl, (stt_get ok (i := 0) rfl), rfl⟩ (cal1 ok (i := 0) rfl)) ?_
  show XS (tRet _) _ _ [some (vr p0), some (va T x1), some (va T (LF.mk x2)), some (va T y7), some (va T y14), some (va T z17), none, none] (stt Ω [(k0, machA T p0 x0.reset)] [])
  obtain ⟨z19, hz19, hm⟩ := bnd_some hm
  obtain rfl := Option.some.inj hm
  refine xs_ret (xe_eq (xe_var (i := 5) rfl) (chkP_some hz19)) hrt.all
noncomputable def M__law_whole (x0 : List Int) (x1 : Bool) : Option Int :=
  (forM' (ρ := Unit) (fun (a2 : Int) (s1 : Int) => (chkP (IntMulOk (256 : Int) s1)).bind fun z3 => (some (((256 : Int) * s1) + a2)).bind fun y4 => some (Stp.nx y4)) ((x0).reverse) (0 : Int)).bind fun z5 => (nxt z5).bind fun s6 => (if x1 = true then (chkP (Dat.ok (LF.mk x0) ∧ Dat.ok (LF.mk ([] : List Int)))).bind fun z7 => (if (!eqD (LF.mk x0) (LF.mk ([] : List Int))) = true then (atI x0 (-(1 : Int))).bind fun z8 => some (decide ((127 : Int) < z8)) else some false).bind fun z9 => some z9 else some false).bind fun z11 => (if z11 = true then (M__law_power (256 : Int) (x0.length : Int)).bind fun z13 => (some (s6 - z13)).bind fun y14 => some y14 else some s6).bind fun z17 => some z17
def Pre__law_whole (T : TC) : PreT := fun As Ω R => ∃ (x0 : List Int) (x1 : Bool) (r : Int), As = [va T (LF.mk x0), va T x1] ∧ M__law_whole x0 x1 = some r ∧ R = RV (va T r) (stt Ω [] [])
theorem sc__law_whole : FnScope ["_law_some", "_law_is_signed", "_law_found", "_law_one_here"] ["_law_some", "_law_is_signed"] (defScope s__law_whole) := ⟨rfl, rfl, rfl, by decide +kernel, rfl, by decide +kernel, by decide +kernel⟩
theorem ok__law_whole {f : Addr} {fd : FuncData} (F : Fun T.K "_law_whole" "_law_whole" s__law_whole f fd) (z_len : mg "len" = none) (c__law_power : Cal P w T.K mg base 1 "_law_power" ["_law_base", "_law_times"] (mkSp (Pre__law_power T))) : FnOk P w T.K mg base CX0 2 f fd ["_law_some", "_law_is_signed"] (mkSp (Pre__law_whole T)) := by
  refine fn_ok F sc__law_whole (fun As Ω R h => ?_) (fun cdv A outer s H E hr As Ω R F0 h => ?_)
  · obtain ⟨x0, x1, r, rfl, _⟩ := h
    rfl
  obtain ⟨x0, x1, r, rfl, hm, rfl⟩ := h
  refine ⟨_, (pss_cons (ps_set (i := 2) sc__law_whole.nd rfl (.inl rfl) pe_int) (pss_cons (ps_for PassesOwn.never rfl (pi_listK (K := T.K) (pe_revLK (K := T.K) (pv 0) rfl) rfl) (pg_name (i := 3) sc__law_whole.nd rfl (.inl rfl)) (pss_one (ps_set (i := 2) sc__law_whole.nd rfl (.inl rfl) (pe_op op_addQ (pe_op op_mulQ pe_int (pv 2)) (pv 3))))) (Evl.pss_cut (ps_if (PW.pt (pw_and (pt_val (pv 1)) (pw_and (pt_cmpR (op_neXK (K := T.K) (by exact hr.units) rfl) (pv 0) (pe_lst pa_nil) (nomark _)) (pw_and1 (pt_cmpR op_gt (pe_ix (ix_seqK (K := T.K) rfl) (pv 0) (pe_un un_neg pe_int) (by intro _ _; rfl)) pe_int (nomark _)))))) (pss_one (ps_set (i := 2) sc__law_whole.nd rfl (.inl rfl) (pe_op op_sub (pv 2) (pe_cal c__law_power (hr.mono (by decide)) (by rfl) (pa_cons pe_int (pa_cons (pe_callB (cr_lenK (K := T.K) rfl) (by rfl) z_len PySem.boot_len (pa_cons (pv 0) pa_nil)) pa_nil)))))) pss_nil) (pss_one (ps_ret (pv 2)))))), fun D hrt hnx => ?_⟩
  have ok : Okk Ω [] := okk0
  suffices hx : XS _ D F0 [some (va T (LF.mk x0)), some (va T x1), none, none] (stt Ω [] []) by
    rw [show (stt Ω [] []) = Ω from stt_self (by simp)] at hx
    exact hx
  unfold M__law_whole at hm
  refine xs_set (A := va T (0 : Int)) xe_int ?_
  show XS (tSeq _ _) _ _ [some (va T (LF.mk x0)), some (va T x1), some (va T (0 : Int)), none] (stt Ω [] [])
  obtain ⟨z5, hz5, hm⟩ := bnd_some hm
  refine xs_forS (fun (s1 : Int) => [some (va T (LF.mk x0)), some (va T x1), some (va T s1), none]) (fun (s1 : Int) => (stt Ω [] [])) (fun (_ : Unit) _ _ _ => False) hz5 (xi_LF (xe_revL (xe_var (i := 0) rfl) isL_LF)) (fun _ => tgt_name) (fun a2 s1 s' ha hm F1 D1 e1 hD => ?_) (fun s6 es => ?_) (fun r1 es => ?_)
  · show XS (tAsg _ _) _ _ [some (va T (LF.mk x0)), some (va T x1), some (va T s1), some (va T a2)] (stt Ω [] [])
    obtain ⟨z3, hz3, hm⟩ := bnd_some hm
    obtain ⟨y4, hy4, hm⟩ := bnd_some hm
    refine xs_set1 (A := va T y4) (xe_eq (xe_add (xe_mul (chkP_some hz3) xe_int (xe_var (i := 2) rfl)) (xe_var (i := 3) rfl)) (Option.some.inj hy4)) ?_
    obtain rfl := Option.some.inj hm
    exact fun σ H n => hD.nx _ rfl σ H (n.forget 3)
  · subst es
    obtain ⟨s2, hs2, hm⟩ := bnd_some hm
    cases hs2
    show XS (Evl.tCut _ _) _ _ [some (va T (LF.mk x0)), some (va T x1), some (va T s6), none] (stt Ω [] [])
    obtain ⟨z11, hz11, hm⟩ := bnd_some hm
    obtain ⟨z17, hz17, hm⟩ := bnd_some hm
    refine xs_cut (Γ' := [some (va T (LF.mk x0)), some (va T x1), some (va T z17), none]) (Ω' := (stt Ω [] [])) ?_ ?_
    · clear hm
      have hm := hz17
      clear hz17
      by_cases hc : z11 = true
      · rw [if_pos hc] at hm
        refine xs_ifT1 (xt_eq (xt_andO (xt_tB (T := T) (xe_var (i := 1) rfl)) hz11 ?q12) hc) ?_
        case q12 =>
          exact (fun v hm => by
            obtain ⟨z7, hz7, hm⟩ := bnd_some hm
            obtain ⟨z9, hz9, hm⟩ := bnd_some hm
            obtain rfl := Option.some.inj hm
            refine (xt_andO (xt_test (T := T) (xe_neD (chkP_some hz7) (by decide) (xe_var (i := 0) rfl) (xe_lst (T := T) (l := ([] : List Int)) xa_nil (Nat.zero_le _)) isD_va isD_va)) hz9 ?q10)
            case q10 =>
              exact (fun v hm => by
                obtain ⟨z8, hz8, hm⟩ := bnd_some hm
                obtain rfl := Option.some.inj hm
                exact (xt_test (T := T) (xe_gt (xe_ix (xe_var (i := 0) rfl) (xe_neg xe_int) isL_LF hz8) xe_int))))
        obtain ⟨z13, hz13, hm⟩ := bnd_some hm
        obtain ⟨y14, hy14, hm⟩ := bnd_some hm
        refine xs_set1 (A := va T y14) (xe_eq (xe_sub (xe_var (i := 2) rfl) (xe_call (xa_cons xe_int (xa_cons (xe_lenL (xe_var (i := 0) rfl) isL_LF) xa_nil)) ⟨(256 : Int), (x0.length : Int), z13, rfl, hz13, rfl⟩ cal0)) (Option.some.inj hy14)) ?_
        obtain rfl := Option.some.inj hm
        exact fun σ H n => n
      · rw [if_neg hc] at hm
        refine xs_ifF1 (xt_eq (xt_andO (xt_tB (T := T) (xe_var (i := 1) rfl)) hz11 ?q12) (nt hc)) ?_
        case q12 =>
          exact (fun v hm => by
            obtain ⟨z7, hz7, hm⟩ := bnd_some hm
            obtain ⟨z9, hz9, hm⟩ := bnd_some hm
            obtain rfl := Option.some.inj hm
            refine (xt_andO (xt_test (T := T) (xe_neD (chkP_some hz7) (by decide) (xe_var (i := 0) rfl) (xe_lst (T := T) (l := ([] : List Int)) xa_nil (Nat.zero_le _)) isD_va isD_va)) hz9 ?q10)
            case q10 =>
              exact (fun v hm => by
                obtain ⟨z8, hz8, hm⟩ := bnd_some hm
                obtain rfl := Option.some.inj hm
                exact (xt_test (T := T) (xe_gt (xe_ix (xe_var (i := 0) rfl) (xe_neg xe_int) isL_LF hz8) xe_int))))
        obtain rfl := Option.some.inj hm
        exact fun σ H n => n
    · obtain rfl := Option.some.inj hm
      refine xs_ret (xe_var (i := 2) rfl) hrt.all
  · subst es
    cases hm
noncomputable def M__law_steps (x0 : List Int) (x1 : Bool) : Option (DF × (LF (T3 Str Int Int))) :=
  (chkP (Dat.ok (LF.mk x0) ∧ Dat.ok (LF.mk ([] : List Int)))).bind fun z1 => if (eqD (LF.mk x0) (LF.mk ([] : List Int))) = true then some ((DF.mk []), (LF.mk ([] : List (T3 Str Int Int)))) else (chkP ((nums x0).length ≤ sizeLine)).bind fun z2 => (lcM (fun (a4 : (Int × Int)) (s3 : Unit) => (chkP (IntMulOk (255 : Int) (if x1 = true then (1 : Int) else 0))).bind fun z5 => if (!decide (a4.2 = ((255 : Int) * (if x1 = true then (1 : Int) else 0)))) = true then some (some (a4.1 + (1 : Int)), ()) else some (none, ())) (nums x0) ()).bind fun z6 => (chkP (Dat.ok (LF.mk z6.1) ∧ Dat.ok (LF.mk ([] : List Int)))).bind fun z8 => (if (!eqD (LF.mk z6.1) (LF.mk ([] : List Int))) = true then (atI z6.1 (-(1 : Int))).bind fun z9 => some z9 else some (0 : Int)).bind fun z10 => (some (((x0.length : Int) - z10) + (if (decide ((0 : Int) < z10)) = true then (1 : Int) else 0))).bind fun y12 => (some (min (x0.length : Int) (z10 + (if x1 = true then (1 : Int) else 0)))).bind fun y13 => (chkP (IntMulOk y13 (if x1 = true then (1 : Int) else 0))).bind fun z14 => (chkP ((([(("looked" : Str), y12), (("shifted" : Str), y13), (("complemented" : Str), (y13 * (if x1 = true then (1 : Int) else 0)))] : List (Str × Int)).map (·.1)).Nodup)).bind fun z15 => some ((DF.mk [(("looked" : Str), y12), (("shifted" : Str), y13), (("complemented" : Str), (y13 * (if x1 = true then (1 : Int) else 0)))]), (LF.mk ([(T3.mk ("from bytes" : Str) (x0.length : Int) (0 : Int))] : List (T3 Str Int Int))))
def Pre__law_steps (T : TC) : PreT := fun As Ω R => ∃ (x0 : List Int) (x1 : Bool) (r : (DF × (LF (T3 Str Int Int)))), As = [va T (LF.mk x0), va T x1] ∧ M__law_steps x0 x1 = some r ∧ R = RV (va T r) (stt Ω [] [])
theorem sc__law_steps : FnScope ["_law_some", "_law_is_minus", "_law_kept", "_law_size", "_law_looked", "_law_at", "_law_one_here"] ["_law_some", "_law_is_minus"] (defScope s__law_steps) := ⟨rfl, rfl, rfl, by decide +kernel, rfl, by decide +kernel, by decide +kernel⟩
theorem ok__law_steps {f : Addr} {fd : FuncData} (F : Fun T.K "_law_steps" "_law_steps" s__law_steps f fd) (z_enumerate : mg "enumerate" = none) (z_int : mg "int" = none) (z_len : mg "len" = none) (z_min : mg "min" = none) : FnOk P w T.K mg base CX0 1 f fd ["_law_some", "_law_is_minus"] (mkSp (Pre__law_steps T)) := by
  refine fn_ok F sc__law_steps (fun As Ω R h => ?_) (fun cdv A outer s H E hr As Ω R F0 h => ?_)
  · obtain ⟨x0, x1, r, rfl, _⟩ := h
    rfl
  obtain ⟨x0, x1, r, rfl, hm, rfl⟩ := h
  refine ⟨_, (pss_cons (ps_if (pt_cmpR (op_eqXK (K := T.K) (by exact hr.units) rfl) (pv 0) (pe_lst pa_nil) (nomark _)) (pss_one (ps_ret (pe_tup (pa_cons (pe_fz pe_dnewK) (pa_cons (pe_lst pa_nil) pa_nil))))) pss_nil) (pss_cons (ps_setLc (i := 2) (own := [("_law_at", 5), ("_law_one_here", 6)]) rfl sc__law_steps.nd rfl rfl (sw_true rfl rfl rfl (by decide +kernel)) (pi_enumK (K := T.K) rfl rfl z_enumerate (pa_cons (pv 0) pa_nil)) (blkOk_by (N := ["_law_some", "_law_is_minus", "_law_kept", "_law_size", "_law_looked", "_law_at", "_law_one_here"]) (sc := defScope s__law_steps) (by decide +kernel)) (fun _ _ _ _ _ => (pg_tupK (K := T.K) (n := 2) rfl rfl (pgs_cons (pg_name (i := 5) sc__law_steps.nd rfl (.inl rfl)) (pgs_cons (pg_name (i := 6) sc__law_steps.nd rfl (.inl rfl)) pgs_nil)))) (fun _ _ _ _ _ => (pts_one (pt_cmpR (op_neXK (K := T.K) (by exact hr.units) rfl) (pv 6) (pe_op op_mulQ pe_int (pe_callTy cr_int (by rfl) z_int (by decide +kernel) (pa_cons (pv 1) pa_nil))) (nomark _)))) (fun _ _ _ _ _ => (pe_op op_addQ (pv 5) pe_int))) (pss_cons (ps_set (i := 3) sc__law_steps.nd rfl (.inl rfl) (pe_ifExp (pt_cmpR (op_neXK (K := T.K) (by exact hr.units) rfl) (pv 2) (pe_lst pa_nil) (nomark _)) (pe_ix (ix_seqK (K := T.K) rfl) (pv 2) (pe_un un_neg pe_int) (by intro _ _; rfl)) pe_int)) (pss_cons (ps_set (i := 4) sc__law_steps.nd rfl (.inl rfl) (pe_op op_addQ (pe_op op_sub (pe_callB (cr_lenK (K := T.K) rfl) (by rfl) z_len PySem.boot_len (pa_cons (pv 0) pa_nil)) (pv 3)) (pe_callTy cr_int (by rfl) z_int (by decide +kernel) (pa_cons (pe_cmpR op_gt (pv 3) pe_int (nomark _)) pa_nil)))) (pss_cons (ps_set (i := 3) sc__law_steps.nd rfl (.inl rfl) (pe_callB (cr_min2 rfl) (by rfl) z_min (by decide +kernel) (pa_cons (pe_callB (cr_lenK (K := T.K) rfl) (by rfl) z_len PySem.boot_len (pa_cons (pv 0) pa_nil)) (pa_cons (pe_op op_addQ (pv 3) (pe_callTy cr_int (by rfl) z_int (by decide +kernel) (pa_cons (pv 1) pa_nil))) pa_nil)))) (pss_one (ps_ret (pe_tup (pa_cons (pe_fz (pe_disp (pps_cons pe_str (pv 4) (pps_cons pe_str (pv 3) (pps_cons pe_str (pe_op op_mulQ (pv 3) (pe_callTy cr_int (by rfl) z_int (by decide +kernel) (pa_cons (pv 1) pa_nil))) pps_nil))) (by rfl) (by rfl) (fun z => by cases z) (by decide))) (pa_cons (pe_lst (pa_cons (pe_tup (pa_cons pe_str (pa_cons (pe_callB (cr_lenK (K := T.K) rfl) (by rfl) z_len PySem.boot_len (pa_cons (pv 0) pa_nil)) (pa_cons pe_int pa_nil)))) pa_nil)) pa_nil)))))))))), fun D hrt hnx => ?_⟩
  have ok : Okk Ω [] := okk0
  suffices hx : XS _ D F0 [some (va T (LF.mk x0)), some (va T x1), none, none, none, none, none] (stt Ω [] []) by
    rw [show (stt Ω [] []) = Ω from stt_self (by simp)] at hx
    exact hx
  unfold M__law_steps at hm
  obtain ⟨z1, hz1, hm⟩ := bnd_some hm
  by_cases hc : (eqD (LF.mk x0) (LF.mk ([] : List Int))) = true
  · rw [if_pos hc] at hm
    refine xs_ifT (xt_eq (xt_test (T := T) (xe_eqD (chkP_some hz1) (by decide) (xe_var (i := 0) rfl) (xe_lst (T := T) (l := ([] : List Int)) xa_nil (Nat.zero_le _)) isD_va isD_va)) hc) ?_
    obtain rfl := Option.some.inj hm
    refine xs_ret (xe_tup2 (xa_cons xe_disp0 (xa_cons (xe_lst (T := T) (l := ([] : List (T3 Str Int Int))) xa_nil (Nat.zero_le _)) xa_nil))) hrt.all
  · rw [if_neg hc] at hm
    refine xs_ifN (xt_eq (xt_test (T := T) (xe_eqD (chkP_some hz1) (by decide) (xe_var (i := 0) rfl) (xe_lst (T := T) (l := ([] : List Int)) xa_nil (Nat.zero_le _)) isD_va isD_va)) (nt hc)) ?_
    show XS (tSeq _ _) _ _ [some (va T (LF.mk x0)), some (va T x1), none, none, none, none, none] (stt Ω [] [])
    obtain ⟨z2, hz2, hm⟩ := bnd_some hm
    obtain ⟨z6, hz6, hm⟩ := bnd_some hm
    refine xs_set (A := va T (LF.mk z6.1)) (xe_fz (xn_lcS (T := T) (fun (s3 : Unit) => []) (fun (s3 : Unit) => []) hz6 (xi_enumL (xe_var (i := 0) rfl)) (fun _ => tgt_pair) (by simp) (chkP_some hz2) ?q7)) ?_
    case q7 =>
      exact (fun a4 s3 o s2 ha hm X => by
        obtain ⟨z5, hz5, hm⟩ := bnd_some hm
        by_cases hc : (!decide (a4.2 = ((255 : Int) * (if x1 = true then (1 : Int) else 0)))) = true
        · rw [if_pos hc] at hm
          obtain ⟨rfl, rfl⟩ := Prod.mk.inj (Option.some.inj hm)
          refine ⟨(fun e => nomatch e), fun y e => ?_⟩
          obtain rfl := Option.some.inj e
          refine ⟨xt_eq (xt_test (T := T) (xe_neI (xe_var (i := 6) rfl) (xe_mul (chkP_some hz5) xe_int (xe_intb (xe_var (i := 1) rfl))))) hc, (xe_add (xe_var (i := 5) rfl) xe_int)⟩
        · rw [if_neg hc] at hm
          obtain ⟨rfl, rfl⟩ := Prod.mk.inj (Option.some.inj hm)
          exact ⟨fun _ => xt_eq (xt_test (T := T) (xe_neI (xe_var (i := 6) rfl) (xe_mul (chkP_some hz5) xe_int (xe_intb (xe_var (i := 1) rfl))))) (nt hc), fun y e => nomatch e⟩)
    show XS (tSeq _ _) _ _ [some (va T (LF.mk x0)), some (va T x1), some (va T (LF.mk z6.1)), none, none, none, none] (stt Ω [] [])
    obtain ⟨z8, hz8, hm⟩ := bnd_some hm
    obtain ⟨z10, hz10, hm⟩ := bnd_some hm
    refine xs_set (A := va T z10) (show XE _ _ _ (va T z10) (stt Ω [] []) from ?q11) ?_
    case q11 =>
      exact (by
        by_cases hc : (!eqD (LF.mk z6.1) (LF.mk ([] : List Int))) = true
        · rw [if_pos hc] at hz10
          obtain ⟨z9, hz9, hz10⟩ := bnd_some hz10
          obtain rfl := Option.some.inj hz10
          exact xe_ifT (xt_eq (xt_test (T := T) (xe_neD (chkP_some hz8) (by decide) (xe_var (i := 2) rfl) (xe_lst (T := T) (l := ([] : List Int)) xa_nil (Nat.zero_le _)) isD_va isD_va)) hc) (xe_ix (xe_var (i := 2) rfl) (xe_neg xe_int) isL_LF hz9)
        · rw [if_neg hc] at hz10
          obtain rfl := Option.some.inj hz10
          exact xe_ifF (xt_eq (xt_test (T := T) (xe_neD (chkP_some hz8) (by decide) (xe_var (i := 2) rfl) (xe_lst (T := T) (l := ([] : List Int)) xa_nil (Nat.zero_le _)) isD_va isD_va)) (nt hc)) xe_int)
    show XS (tSeq _ _) _ _ [some (va T (LF.mk x0)), some (va T x1), some (va T (LF.mk z6.1)), some (va T z10), none, none, none] (stt Ω [] [])
    obtain ⟨y12, hy12, hm⟩ := bnd_some hm
    refine xs_set (A := va T y12) (xe_eq (xe_add (xe_sub (xe_lenL (xe_var (i := 0) rfl) isL_LF) (xe_var (i := 3) rfl)) (xe_intb (xe_gt (xe_var (i := 3) rfl) xe_int))) (Option.some.inj hy12)) ?_
    show XS (tSeq _ _) _ _ [some (va T (LF.mk x0)), some (va T x1), some (va T (LF.mk z6.1)), some (va T z10), some (va T y12), none, none] (stt Ω [] [])
    obtain ⟨y13, hy13, hm⟩ := bnd_some hm
    refine xs_set (A := va T y13) (xe_eq (xe_min2 (xe_lenL (xe_var (i := 0) rfl) isL_LF) (xe_add (xe_var (i := 3) rfl) (xe_intb (xe_var (i := 1) rfl)))) (Option.some.inj hy13)) ?_
    show XS (tRet _) _ _ [some (va T (LF.mk x0)), some (va T x1), some (va T (LF.mk z6.1)), some (va T y13), some (va T y12), none, none] (stt Ω [] [])
    obtain ⟨z14, hz14, hm⟩ := bnd_some hm
    obtain ⟨z15, hz15, hm⟩ := bnd_some hm
    obtain rfl := Option.some.inj hm
    refine xs_ret (xe_tup2 (xa_cons (xe_disp (fun X => (xps_cons (T := T) xe_str (xe_var (i := 4) rfl) (xps_cons (T := T) xe_str (xe_var (i := 3) rfl) (xps_cons (T := T) xe_str (xe_mul (chkP_some hz14) (xe_var (i := 3) rfl) (xe_intb (xe_var (i := 1) rfl))) xps_nil)))) (chkP_some hz15) (by show 3 ≤ 15; decide)) (xa_cons (xe_lst (l := [(T3.mk ("from bytes" : Str) (x0.length : Int) (0 : Int))]) (xa_cons (xe_tup3 (xa_cons xe_str (xa_cons (xe_lenL (xe_var (i := 0) rfl) isL_LF) (xa_cons xe_int xa_nil)))) xa_nil) (by show 1 ≤ sizeLine; decide)) xa_nil))) hrt.all
noncomputable def M__law_right (x0 : MS) (x1 : List Int) (x2 : Bool) : Option (Bool × MS) :=
  (M__law_whole x1 x2).bind fun z1 => (M_big x0 z1).bind fun z2 => (M__law_steps x1 (decide (z1 < (0 : Int)))).bind fun z3 => (M_from_bytes x0 x1 ("little" : Str) x2).bind fun z4 => (M_Big_eq z4.1 z2).bind fun z5 => (chkP ((!z5) = false)).bind fun z6 => (M__law_counted z4.2 z3.1 z3.2.l).bind fun z7 => (chkP (z7.1 = true)).bind fun z8 => (chkP ((LF.mk x1) = (LF.mk x1) ∧ Dat.ok (LF.mk x1))).bind fun z9 => (M_from_bytes z7.2 ((x1).reverse) ("big" : Str) x2).bind fun z10 => (M_Big_eq z10.1 z2).bind fun z11 => (chkP ((!z11) = false)).bind fun z12 => (M__law_counted z10.2 z3.1 z3.2.l).bind fun z13 => (chkP (z13.1 = true)).bind fun z14 => if x2 = true then some (true, z13.2) else (M_from_bytes z13.2 ((x1).reverse) ("big" : Str) false).bind fun z15 => (M_Big_eq z15.1 z2).bind fun z16 => (chkP (z16 = true)).bind fun z17 => (M__law_counted z15.2 z3.1 z3.2.l).bind fun z18 => (chkP (z18.1 = true)).bind fun z19 => some (true, z18.2)
def Pre__law_right (T : TC) : PreT := fun As Ω R => ∃ (k0 : Nat) (p0 : Addr) (x0 : MS) (x1 : List Int) (x2 : Bool) (r : Bool × MS), As = [vr p0, va T (LF.mk x1), va T x2] ∧ Ω[k0]? = some (machA T p0 x0) ∧ M__law_right x0 x1 x2 = some r ∧ R = RV (va T r.1) (stt Ω [(k0, machA T p0 r.2)] [])
theorem sc__law_right : FnScope ["_law_machine_here", "_law_some", "_law_is_signed", "_law_whole_here", "_law_due", "_law_kept", "_law_counted_here", "_law_entered"] ["_law_machine_here", "_law_some", "_law_is_signed"] (defScope s__law_right) := ⟨rfl, rfl, rfl, by decide +kernel, rfl, by decide +kernel, by decide +kernel⟩
theorem ok__law_right {f : Addr} {fd : FuncData} (F : Fun T.K "_law_right" "_law_right" s__law_right f fd) (c__law_whole : Cal P w T.K mg base 2 "_law_whole" ["_law_some", "_law_is_signed"] (mkSp (Pre__law_whole T))) (c_big : Cal P w T.K mg base 23 "big" ["machine", "n"] (mkSp (Pre_big T))) (z_list : mg "list" = none) (c__law_steps : Cal P w T.K mg base 1 "_law_steps" ["_law_some", "_law_is_minus"] (mkSp (Pre__law_steps T))) (ckd_from_bytes_3_signed : CalKD P w T.K mg base 23 "from_bytes" ["machine", "row", "order", "signed"] 3 ["signed"] [V.str "big"] [0, 1, 2, 4] (mkSp (Pre_from_bytes T))) (ceq : CalEq P w T.K mg base 1 (T.C 1) (mkSp (Pre_Big_eq T))) (c__law_counted : Cal P w T.K mg base 2 "_law_counted" ["_law_machine_here", "_law_got", "_law_entered"] (mkSp (Pre__law_counted T))) (ckd_from_bytes_0_signed_order_row_machine : CalKD P w T.K mg base 23 "from_bytes" ["machine", "row", "order", "signed"] 0 ["signed", "order", "row", "machine"] [V.str "big"] [4, 3, 2, 1] (mkSp (Pre_from_bytes T))) (cd_from_bytes_2 : CalD P w T.K mg base 23 "from_bytes" ["machine", "row", "order", "signed"] [V.str "big", V.bl false] (mkSp (Pre_from_bytes T))) : FnOk P w T.K mg base CX0 24 f fd ["_law_machine_here", "_law_some", "_law_is_signed"] (mkSp (Pre__law_right T)) := by
  refine fn_ok F sc__law_right (fun As Ω R h => ?_) (fun cdv A outer s H E hr As Ω R F0 h => ?_)
  · obtain ⟨k0, p0, x0, x1, x2, r, rfl, _⟩ := h
    rfl
  obtain ⟨k0, p0, x0, x1, x2, r, rfl, hk0, hm, rfl⟩ := h
  refine ⟨_, (pss_cons (ps_set (i := 3) sc__law_right.nd rfl (.inl rfl) (pe_cal c__law_whole (hr.mono (by decide)) (by rfl) (pa_cons (pv 1) (pa_cons (pv 2) pa_nil)))) (pss_cons (ps_par (i := 4) (j := 5) rfl sc__law_right.nd rfl rfl (by decide) rfl rfl (pa_cons (pe_cal c_big (hr.mono (by decide)) (by rfl) (pa_cons (pv 0) (pa_cons (pv 3) pa_nil))) (pa_cons (pe_callTy (cr_listK (K := T.K) rfl) (by rfl) z_list (by decide +kernel) (pa_cons (pv 1) pa_nil)) pa_nil)) (by rfl)) (pss_cons (ps_asg (pe_cal c__law_steps (hr.mono (by decide)) (by rfl) (pa_cons (pv 1) (pa_cons (pe_cmpR op_lt (pv 3) pe_int (nomark _)) pa_nil))) (pg_tupK (K := T.K) (n := 2) rfl rfl (pgs_cons (pg_name (i := 6) sc__law_right.nd rfl (.inl rfl)) (pgs_cons (pg_name (i := 7) sc__law_right.nd rfl (.inl rfl)) pgs_nil)))) (pss_cons (ps_if (pt_cmpR (op_neC ceq (hr.mono (by decide))) (pe_calKD ckd_from_bytes_3_signed (hr.mono (by decide)) (by rfl) (pa_cons (pv 0) (pa_cons (pv 1) (pa_cons pe_str pa_nil))) (pk_cons (pv 2) pk_nil)) (pv 4) (nomark _)) pss_never pss_nil) (pss_cons (ps_if (PW.pt (pw_or (pt_not (pt_val (pe_cal c__law_counted (hr.mono (by decide)) (by rfl) (pa_cons (pv 0) (pa_cons (pv 6) (pa_cons (pv 7) pa_nil)))))) (pw_or1 (pt_cmpR (op_neXK (K := T.K) (by exact hr.units) rfl) (pv 1) (pv 5) (nomark _))))) pss_never pss_nil) (pss_cons (ps_if (pt_cmpR (op_neC ceq (hr.mono (by decide))) (pe_calKD0 ckd_from_bytes_0_signed_order_row_machine (hr.mono (by decide)) (by rfl) (pk_cons (pv 2) (pk_cons pe_str (pk_cons (pe_revLK (K := T.K) (pv 1) rfl) (pk_cons (pv 0) pk_nil))))) (pv 4) (nomark _)) pss_never pss_nil) (pss_cons (ps_if (pt_not (pt_val (pe_cal c__law_counted (hr.mono (by decide)) (by rfl) (pa_cons (pv 0) (pa_cons (pv 6) (pa_cons (pv 7) pa_nil)))))) pss_never pss_nil) (pss_cons (ps_if (pt_val (pv 2)) (pss_one (ps_ret pe_bl)) pss_nil) (pss_one (ps_ret (pe_and (pe_cmpR (op_eqC ceq (hr.mono (by decide))) (pe_calD cd_from_bytes_2 (hr.mono (by decide)) (by rfl) (pa_cons (pv 0) (pa_cons (pe_revLK (pv 5) rfl) pa_nil))) (pv 4) (nomark _)) (pe_one (pe_cal c__law_counted (hr.mono (by decide)) (by rfl) (pa_cons (pv 0) (pa_cons (pv 6) (pa_cons (pv 7) pa_nil)))))))))))))))), fun D hrt hnx => ?_⟩
  have ok := okk1 hk0
  suffices hx : XS _ D F0 [some (vr p0), some (va T (LF.mk x1)), some (va T x2), none, none, none, none, none] (stt Ω [(k0, machA T p0 x0)] []) by
    rw [show (stt Ω [(k0, machA T p0 x0)] []) = Ω from stt_self (by simp [hk0])] at hx
    exact hx
  unfold M__law_right at hm
  obtain ⟨z1, hz1, hm⟩ := bnd_some hm
  refine xs_set (A := va T z1) (xe_call (xa_cons (xe_var (i := 1) rfl) (xa_cons (xe_var (i := 2) rfl) xa_nil)) ⟨x1, x2, z1, rfl, hz1, rfl⟩ cal0) ?_
  show XS (tSeq _ _) _ _ [some (vr p0), some (va T (LF.mk x1)), some (va T x2), some (va T z1), none, none, none, none] (stt Ω [(k0, machA T p0 x0)] [])
  obtain ⟨z2, hz2, hm⟩ := bnd_some hm
  refine xs_par2 (A := va T z2) (B := va T (LF.mk x1)) (xa_cons (xe_call (xa_cons (xe_var (i := 0) rfl) (xa_cons (xe_var (i := 3) rfl) xa_nil)) ⟨k0, p0, x0, z1, z2, rfl, (stt_get ok (i := 0) rfl), hz2, rfl⟩ cal0) (xa_cons (xe_listL (xe_var (i := 1) rfl) isL_LF) xa_nil)) ?_
  show XS (tSeq _ _) _ _ [some (vr p0), some (va T (LF.mk x1)), some (va T x2), some (va T z1), some (va T z2), some (va T (LF.mk x1)), none, none] (stt Ω [(k0, machA T p0 x0)] [])
  obtain ⟨z3, hz3, hm⟩ := bnd_some hm
  refine xs_asgG (xe_call (xa_cons (xe_var (i := 1) rfl) (xa_cons (xe_lt (xe_var (i := 3) rfl) xe_int) xa_nil)) ⟨x1, (decide (z1 < (0 : Int))), z3, rfl, hz3, rfl⟩ cal0) tgt_pair ?_
  show XS (tSeq _ _) _ _ [some (vr p0), some (va T (LF.mk x1)), some (va T x2), some (va T z1), some (va T z2), some (va T (LF.mk x1)), some (va T z3.1), some (va T (LF.mk z3.2.l))] (stt Ω [(k0, machA T p0 x0)] [])
  obtain ⟨z4, hz4, hm⟩ := bnd_some hm
  obtain ⟨z5, hz5, hm⟩ := bnd_some hm
  obtain ⟨z6, hz6, hm⟩ := bnd_some hm
  refine xs_ifN (xt_eq (xt_test (T := T) (xe_ownNe (xe_callND (Ds := [va T ("big" : Str)]) (xa_cons (xe_var (i := 0) rfl) (xa_cons (xe_var (i := 1) rfl) (xa_cons xe_str xa_nil))) (xa_cons (xe_var (i := 2) rfl) xa_nil) (fun _ => (.cons rfl .nil)) ⟨k0, p0, x0, x1, ("little" : Str), x2, z4, rfl, (stt_get ok (i := 0) rfl), hz4, rfl⟩ (cal1 ok (i := 0) rfl)) (xe_var (i := 4) rfl) ⟨z4.1, z2, z5, rfl, hz5, rfl⟩ cal0)) (chkP_some hz6)) ?_
  show XS (tSeq _ _) _ _ [some (vr p0), some (va T (LF.mk x1)), some (va T x2), some (va T z1), some (va T z2), some (va T (LF.mk x1)), some (va T z3.1), some (va T (LF.mk z3.2.l))] (stt Ω [(k0, machA T p0 z4.2)] [])
  obtain ⟨z7, hz7, hm⟩ := bnd_some hm
  obtain ⟨z8, hz8, hm⟩ := bnd_some hm
  obtain ⟨z9, hz9, hm⟩ := bnd_some hm
  refine xs_ifN (xt_orF (xt_notF (xt_eq (xt_tB (T := T) (xe_call (xa_cons (xe_var (i := 0) rfl) (xa_cons (xe_var (i := 6) rfl) (xa_cons (xe_var (i := 7) rfl) xa_nil))) ⟨k0, p0, z4.2, z3.1, z3.2.l, z7, rfl, (stt_get ok (i := 0) rfl), hz7, rfl⟩ (cal1 ok (i := 0) rfl))) (chkP_some hz8))) (xt_test (T := T) (xe_neK (chkP_some hz9) (by decide) (xe_var (i := 1) rfl) (xe_var (i := 5) rfl) isD_va isD_va))) ?_
  show XS (tSeq _ _) _ _ [some (vr p0), some (va T (LF.mk x1)), some (va T x2), some (va T z1), some (va T z2), some (va T (LF.mk x1)), some (va T z3.1), some (va T (LF.mk z3.2.l))] (stt Ω [(k0, machA T p0 z7.2)] [])
  obtain ⟨z10, hz10, hm⟩ := bnd_some hm
  obtain ⟨z11, hz11, hm⟩ := bnd_some hm
  obtain ⟨z12, hz12, hm⟩ := bnd_some hm
  refine xs_ifN (xt_eq (xt_test (T := T) (xe_ownNe (xe_callND (Ds := [va T ("big" : Str)]) xa_nil (xa_cons (xe_var (i := 2) rfl) (xa_cons xe_str (xa_cons (xe_revL (xe_var (i := 1) rfl) isL_LF) (xa_cons (xe_var (i := 0) rfl) xa_nil)))) (fun _ => (.cons rfl .nil)) ⟨k0, p0, z7.2, (x1).reverse, ("big" : Str), x2, z10, rfl, (stt_get ok (i := 0) rfl), hz10, rfl⟩ (cal1 ok (i := 0) rfl)) (xe_var (i := 4) rfl) ⟨z10.1, z2, z11, rfl, hz11, rfl⟩ cal0)) (chkP_some hz12)) ?_
  show XS (tSeq _ _) _ _ [some (vr p0), some (va T (LF.mk x1)), some (va T x2), some (va T z1), some (va T z2), some (va T (LF.mk x1)), some (va T z3.1), some (va T (LF.mk z3.2.l))] (stt Ω [(k0, machA T p0 z10.2)] [])
  obtain ⟨z13, hz13, hm⟩ := bnd_some hm
  obtain ⟨z14, hz14, hm⟩ := bnd_some hm
  refine xs_ifN (xt_notF (xt_eq (xt_tB (T := T) (xe_call (xa_cons (xe_var (i := 0) rfl) (xa_cons (xe_var (i := 6) rfl) (xa_cons (xe_var (i := 7) rfl) xa_nil))) ⟨k0, p0, z10.2, z3.1, z3.2.l, z13, rfl, (stt_get ok (i := 0) rfl), hz13, rfl⟩ (cal1 ok (i := 0) rfl))) (chkP_some hz14))) ?_
  show XS (tSeq _ _) _ _ [some (vr p0), some (va T (LF.mk x1)), some (va T x2), some (va T z1), some (va T z2), some (va T (LF.mk x1)), some (va T z3.1), some (va T (LF.mk z3.2.l))] (stt Ω [(k0, machA T p0 z13.2)] [])
  by_cases hc : x2 = true
  · rw [if_pos hc] at hm
    refine xs_ifT (xt_eq (xt_tB (T := T) (xe_var (i := 2) rfl)) hc) ?_
    obtain rfl := Option.some.inj hm
    refine xs_ret xe_bl hrt.all
  · rw [if_neg hc] at hm
    refine xs_ifN (xt_eq (xt_tB (T := T) (xe_var (i := 2) rfl)) (nt hc)) ?_
    show XS (tRet _) _ _ [some (vr p0), some (va T (LF.mk x1)), some (va T x2), some (va T z1), some (va T z2), some (va T (LF.mk x1)), some (va T z3.1), some (va T (LF.mk z3.2.l))] (stt Ω [(k0, machA T p0 z13.2)] [])
    obtain ⟨z15, hz15, hm⟩ := bnd_some hm
    obtain ⟨z16, hz16, hm⟩ := bnd_some hm
    obtain ⟨z17, hz17, hm⟩ := bnd_some hm
    obtain ⟨z18, hz18, hm⟩ := bnd_some hm
    obtain ⟨z19, hz19, hm⟩ := bnd_some hm
    obtain rfl := Option.some.inj hm
    refine xs_ret (xe_andT (xe_eq (xe_ownEq (xe_callD (Ds := [va T ("big" : Str), va T false]) (xa_cons (xe_var (i := 0) rfl) (xa_cons (xe_revL (xe_var (i := 5) rfl) isL_LF) xa_nil)) (fun _ => (.cons rfl (.cons rfl .nil))) ⟨k0, p0, z13.2, (x1).reverse, ("big" : Str), false, z15, rfl, (stt_get ok (i := 0) rfl), hz15, rfl⟩ (cal1 ok (i := 0) rfl)) (xe_var (i := 4) rfl) ⟨z15.1, z2, z16, rfl, hz16, rfl⟩ cal0) (chkP_some hz17)) (xe_eq (xe_call (xa_cons (xe_var (i := 0) rfl) (xa_cons (xe_var (i := 6) rfl) (xa_cons (xe_var (i := 7) rfl) xa_nil))) ⟨k0, p0, z15.2, z3.1, z3.2.l, z18, rfl, (stt_get ok (i := 0) rfl), hz18, rfl⟩ (cal1 ok (i := 0) rfl)) (chkP_some hz19))) hrt.all
noncomputable def M__law_bytes (x0 : List Int) : Option (List Int × List Int) :=
  (M__law_next x0 (6 : Int)).bind fun z1 => (M__law_one z1.2 ([(0 : Int), (0 : Int), z1.1] : List Int)).bind fun z2 => (chkP ((-(2 ^ 63) ≤ z2.1 ∧ z2.1 < 2 ^ 63) ∧ ([(0 : Int)] : List Int).length * (z2.1).toNat ≤ sizeLine)).bind fun z3 => (some ((List.replicate (z2.1).toNat ([(0 : Int)] : List Int)).flatten)).bind fun y4 => (M__law_one z2.2 ([(3 : Int), (20 : Int)] : List Int)).bind fun z7 => (M__law_next z7.2 z7.1).bind fun z8 => (chkP (-(2 ^ 62) ≤ z8.1 ∧ z8.1 < 2 ^ 62)).bind fun z9 => (forM' (ρ := Unit) (fun (a11 : Int) (s10 : (List Int) × (List Int)) => (M__law_next s10.1 (256 : Int)).bind fun z12 => (M__law_one z12.2 ([z12.1, z12.1, (0 : Int), (255 : Int), (127 : Int), (128 : Int)] : List Int)).bind fun z13 => (chkP (s10.2.length < sizeLine)).bind fun z14 => some (Stp.nx (z13.2, (s10.2 ++ [z13.1])))) (rng 0 (z8.1).toNat) (z8.2, y4)).bind fun z15 => (nxt z15).bind fun s16 => (M__law_one s16.1 ([(0 : Int), (255 : Int), (255 : Int)] : List Int)).bind fun z17 => (M__law_next z17.2 (9 : Int)).bind fun z18 => (M__law_one z18.2 ([(0 : Int), (1 : Int), z18.1] : List Int)).bind fun z19 => (chkP ((-(2 ^ 63) ≤ z19.1 ∧ z19.1 < 2 ^ 63) ∧ ([z17.1] : List Int).length * (z19.1).toNat ≤ sizeLine)).bind fun z20 => (chkP (s16.2.length + ((List.replicate (z19.1).toNat ([z17.1] : List Int)).flatten).length ≤ sizeLine)).bind fun z21 => some ((s16.2 ++ (List.replicate (z19.1).toNat ([z17.1] : List Int)).flatten), z19.2)
def Pre__law_bytes (T : TC) : PreT := fun As Ω R => ∃ (k0 : Nat) (p0 : Addr) (x0 : List Int) (r : List Int × List Int), As = [vr p0] ∧ Ω[k0]? = some (lstA T p0 x0) ∧ M__law_bytes x0 = some r ∧ R = RV (va T (LF.mk r.1)) (stt Ω [(k0, lstA T p0 r.2)] [])
theorem sc__law_bytes : FnScope ["_law_source", "_law_found", "_law_k", "_law_drawn"] ["_law_source"] (defScope s__law_bytes) := ⟨rfl, rfl, rfl, by decide +kernel, rfl, by decide +kernel, by decide +kernel⟩
theorem ok__law_bytes {f : Addr} {fd : FuncData} (F : Fun T.K "_law_bytes" "_law_bytes" s__law_bytes f fd) (c__law_next : Cal P w T.K mg base 1 "_law_next" ["_law_source", "_law_times"] (mkSp (Pre__law_next T))) (c__law_one : Cal P w T.K mg base 2 "_law_one" ["_law_source", "_law_some"] (mkSp (Pre__law_one T))) (z_range : mg "range" = none) : FnOk P w T.K mg base CX0 3 f fd ["_law_source"] (mkSp (Pre__law_bytes T)) := by
  refine fn_ok F sc__law_bytes (fun As Ω R h => ?_) (fun cdv A outer s H E hr As Ω R F0 h => ?_)
  · obtain ⟨k0, p0, x0, r, rfl, _⟩ := h
    rfl
  obtain ⟨k0, p0, x0, r, rfl, hk0, hm, rfl⟩ := h
  refine ⟨_, (pss_cons (ps_set (i := 1) sc__law_bytes.nd rfl (.inl rfl) (pe_op op_mulQ (pe_lst (pa_cons pe_int pa_nil)) (pe_cal c__law_one (hr.mono (by decide)) (by rfl) (pa_cons (pv 0) (pa_cons (pe_lst (pa_cons pe_int (pa_cons pe_int (pa_cons (pe_cal c__law_next (hr.mono (by decide)) (by rfl) (pa_cons (pv 0) (pa_cons pe_int pa_nil))) pa_nil)))) pa_nil))))) (pss_cons (ps_for PassesOwn.never rfl (pi_range1 rfl z_range (pa_cons (pe_cal c__law_next (hr.mono (by decide)) (by rfl) (pa_cons (pv 0) (pa_cons (pe_cal c__law_one (hr.mono (by decide)) (by rfl) (pa_cons (pv 0) (pa_cons (pe_lst (pa_cons pe_int (pa_cons pe_int pa_nil))) pa_nil))) pa_nil))) pa_nil)) (pg_name (i := 2) sc__law_bytes.nd rfl (.inl rfl)) (pss_cons (ps_set (i := 3) sc__law_bytes.nd rfl (.inl rfl) (pe_cal c__law_next (hr.mono (by decide)) (by rfl) (pa_cons (pv 0) (pa_cons pe_int pa_nil)))) (pss_one (ps_expr (pe_bm PySem.F.plainAttrs_list PySem.F.slot_list_append PySem.F.type_list_append mt_append (pv 1) (pa_cons (pe_cal c__law_one (hr.mono (by decide)) (by rfl) (pa_cons (pv 0) (pa_cons (pe_lst (pa_cons (pv 3) (pa_cons (pv 3) (pa_cons pe_int (pa_cons pe_int (pa_cons pe_int (pa_cons pe_int pa_nil))))))) pa_nil))) pa_nil)))))) (pss_one (ps_ret (pe_op op_addQ (pv 1) (pe_op op_mulQ (pe_lst (pa_cons (pe_cal c__law_one (hr.mono (by decide)) (by rfl) (pa_cons (pv 0) (pa_cons (pe_lst (pa_cons pe_int (pa_cons pe_int (pa_cons pe_int pa_nil)))) pa_nil))) pa_nil)) (pe_cal c__law_one (hr.mono (by decide)) (by rfl) (pa_cons (pv 0) (pa_cons (pe_lst (pa_cons pe_int (pa_cons pe_int (pa_cons (pe_cal c__law_next (hr.mono (by decide)) (by rfl) (pa_cons (pv 0) (pa_cons pe_int pa_nil))) pa_nil)))) pa_nil))))))))), fun D hrt hnx => ?_⟩
  have ok := okk1 hk0
  suffices hx : XS _ D F0 [some (vr p0), none, none, none] (stt Ω [(k0, lstA T p0 (x0 : List Int))] []) by
    rw [show (stt Ω [(k0, lstA T p0 (x0 : List Int))] []) = Ω from stt_self (by simp [hk0])] at hx
    exact hx
  unfold M__law_bytes at hm
  obtain ⟨z1, hz1, hm⟩ := bnd_some hm
  obtain ⟨z2, hz2, hm⟩ := bnd_some hm
  obtain ⟨z3, hz3, hm⟩ := bnd_some hm
  obtain ⟨y4, hy4, hm⟩ := bnd_some hm
  obtain rfl := Option.some.inj hy4
  refine xs_setO ((xn_repQ (xe_lst (l := [(0 : Int)]) (xa_cons xe_int xa_nil) (by show 1 ≤ sizeLine; decide)) (xe_call (xa_cons (xe_var (i := 0) rfl) (xa_cons (xe_lst (l := [(0 : Int), (0 : Int), z1.1]) (xa_cons xe_int (xa_cons xe_int (xa_cons (xe_call (xa_cons (xe_var (i := 0) rfl) (xa_cons xe_int xa_nil)) ⟨k0, p0, x0, (6 : Int), z1, rfl, (stt_get ok (i := 0) rfl), hz1, rfl⟩ (cal1 ok (i := 0) rfl)) xa_nil))) (by show 3 ≤ sizeLine; decide)) xa_nil)) ⟨k0, p0, z1.2, ([(0 : Int), (0 : Int), z1.1] : List Int), z2, rfl, (stt_get ok (i := 0) rfl), hz2, rfl⟩ (cal1 ok (i := 0) rfl)) isLs_LF (chkP_some hz3))) (fun pp5 => ?_)
  show XS (tSeq _ _) _ _ [some (vr p0), some (vr pp5), none, none] (stt Ω [(k0, lstA T p0 (z2.2 : List Int))] [lstA T pp5 (((List.replicate (z2.1).toNat ([(0 : Int)] : List Int)).flatten) : List Int)])
  obtain ⟨z7, hz7, hm⟩ := bnd_some hm
  obtain ⟨z8, hz8, hm⟩ := bnd_some hm
  obtain ⟨z9, hz9, hm⟩ := bnd_some hm
  obtain ⟨z15, hz15, hm⟩ := bnd_some hm
  refine xs_forS (fun (s10 : (List Int) × (List Int)) => [some (vr p0), some (vr pp5), none, none]) (fun (s10 : (List Int) × (List Int)) => (stt Ω [(k0, lstA T p0 (s10.1 : List Int))] [lstA T pp5 (s10.2 : List Int)])) (fun (_ : Unit) _ _ _ => False) hz15 (xi_range1 (T := T) (xa_cons (xe_call (xa_cons (xe_var (i := 0) rfl) (xa_cons (xe_call (xa_cons (xe_var (i := 0) rfl) (xa_cons (xe_lst (l := [(3 : Int), (20 : Int)]) (xa_cons xe_int (xa_cons xe_int xa_nil)) (by show 2 ≤ sizeLine; decide)) xa_nil)) ⟨k0, p0, z2.2, ([(3 : Int), (20 : Int)] : List Int), z7, rfl, (stt_get ok (i := 0) rfl), hz7, rfl⟩ (cal1 ok (i := 0) rfl)) xa_nil)) ⟨k0, p0, z7.2, z7.1, z8, rfl, (stt_get ok (i := 0) rfl), hz8, rfl⟩ (cal1 ok (i := 0) rfl)) xa_nil) (chkP_some hz9).1 (chkP_some hz9).2) (fun _ => tgt_name) (fun a11 s10 s' ha hm F1 D1 e1 hD => ?_) (fun s16 es => ?_) (fun r1 es => ?_)
  · show XS (tSeq _ _) _ _ [some (vr p0), some (vr pp5), some (va T a11), none] (stt Ω [(k0, lstA T p0 (s10.1 : List Int))] [lstA T pp5 (s10.2 : List Int)])
    obtain ⟨z12, hz12, hm⟩ := bnd_some hm
    refine xs_set (A := va T z12.1) (xe_call (xa_cons (xe_var (i := 0) rfl) (xa_cons xe_int xa_nil)) ⟨k0, p0, s10.1, (256 : Int), z12, rfl, (stt_get ok (i := 0) rfl), hz12, rfl⟩ (cal1 ok (i := 0) rfl)) ?_
    show XS (tDrop _) _ _ [some (vr p0), some (vr pp5), some (va T a11), some (va T z12.1)] (stt Ω [(k0, lstA T p0 (z12.2 : List Int))] [lstA T pp5 (s10.2 : List Int)])
    obtain ⟨z13, hz13, hm⟩ := bnd_some hm
    obtain ⟨z14, hz14, hm⟩ := bnd_some hm
    refine xs_drop1 (xe_appE (stt_getL (j := 0) rfl) (stt_getL (j := 0) rfl) (xe_var (i := 1) rfl) (xe_call (xa_cons (xe_var (i := 0) rfl) (xa_cons (xe_lst (l := [z12.1, z12.1, (0 : Int), (255 : Int), (127 : Int), (128 : Int)]) (xa_cons (xe_var (i := 3) rfl) (xa_cons (xe_var (i := 3) rfl) (xa_cons xe_int (xa_cons xe_int (xa_cons xe_int (xa_cons xe_int xa_nil)))))) (by show 6 ≤ sizeLine; decide)) xa_nil)) ⟨k0, p0, z12.2, ([z12.1, z12.1, (0 : Int), (255 : Int), (127 : Int), (128 : Int)] : List Int), z13, rfl, (stt_get ok (i := 0) rfl), hz13, rfl⟩ (cal1 ok (i := 0) rfl)) (chkP_some hz14) (stt_setL (j := 0))) ?_
    obtain rfl := Option.some.inj hm
    exact fun σ H n => hD.nx _ rfl σ H ((n.forget 3).forget 2)
  · subst es
    obtain ⟨s2, hs2, hm⟩ := bnd_some hm
    cases hs2
    show XS (tRet _) _ _ [some (vr p0), some (vr pp5), none, none] (stt Ω [(k0, lstA T p0 (s16.1 : List Int))] [lstA T pp5 (s16.2 : List Int)])
    refine xs_fzJ (k := 1) (j := 0) rfl rfl ?_
    show XS _ _ _ [some (vr p0), some (va T (LF.mk s16.2)), none, none] (stt Ω [(k0, lstA T p0 (s16.1 : List Int))] [nilA])
    obtain ⟨z17, hz17, hm⟩ := bnd_some hm
    obtain ⟨z18, hz18, hm⟩ := bnd_some hm
    obtain ⟨z19, hz19, hm⟩ := bnd_some hm
    obtain ⟨z20, hz20, hm⟩ := bnd_some hm
    obtain ⟨z21, hz21, hm⟩ := bnd_some hm
    obtain rfl := Option.some.inj hm
    refine xs_ret (xe_cat (xe_var (i := 1) rfl) (xe_rep (xe_lst (l := [z17.1]) (xa_cons (xe_call (xa_cons (xe_var (i := 0) rfl) (xa_cons (xe_lst (l := [(0 : Int), (255 : Int), (255 : Int)]) (xa_cons xe_int (xa_cons xe_int (xa_cons xe_int xa_nil))) (by show 3 ≤ sizeLine; decide)) xa_nil)) ⟨k0, p0, s16.1, ([(0 : Int), (255 : Int), (255 : Int)] : List Int), z17, rfl, (stt_get ok (i := 0) rfl), hz17, rfl⟩ (cal1 ok (i := 0) rfl)) xa_nil) (by show 1 ≤ sizeLine; decide)) (xe_call (xa_cons (xe_var (i := 0) rfl) (xa_cons (xe_lst (l := [(0 : Int), (1 : Int), z18.1]) (xa_cons xe_int (xa_cons xe_int (xa_cons (xe_call (xa_cons (xe_var (i := 0) rfl) (xa_cons xe_int xa_nil)) ⟨k0, p0, z17.2, (9 : Int), z18, rfl, (stt_get ok (i := 0) rfl), hz18, rfl⟩ (cal1 ok (i := 0) rfl)) xa_nil))) (by show 3 ≤ sizeLine; decide)) xa_nil)) ⟨k0, p0, z18.2, ([(0 : Int), (1 : Int), z18.1] : List Int), z19, rfl, (stt_get ok (i := 0) rfl), hz19, rfl⟩ (cal1 ok (i := 0) rfl)) isLs_LF (chkP_some hz20)) isLs_LF isLs_LF (chkP_some hz21)) hrt.all
  · subst es
    cases hm
noncomputable def M__law_many (x0 : List Int) : Option (List Int × List Int) :=
  (M__law_next x0 (256 : Int)).bind fun z1 => (M__law_one z1.2 ([(0 : Int), (255 : Int), (1 : Int), z1.1] : List Int)).bind fun z2 => (M__law_next z2.2 (1200 : Int)).bind fun z3 => (chkP ((-(2 ^ 63) ≤ ((100 : Int) + z3.1) ∧ ((100 : Int) + z3.1) < 2 ^ 63) ∧ ([z2.1] : List Int).length * (((100 : Int) + z3.1)).toNat ≤ sizeLine)).bind fun z4 => (some ((List.replicate (((100 : Int) + z3.1)).toNat ([z2.1] : List Int)).flatten)).bind fun y5 => (M__law_bytes z3.2).bind fun z6 => (chkP (z6.1.length + y5.length ≤ sizeLine)).bind fun z7 => (M__law_bytes z6.2).bind fun z8 => (chkP ((z6.1 ++ y5).length + z8.1.length ≤ sizeLine)).bind fun z9 => some (((z6.1 ++ y5) ++ z8.1), z8.2)
def Pre__law_many (T : TC) : PreT := fun As Ω R => ∃ (k0 : Nat) (p0 : Addr) (x0 : List Int) (r : List Int × List Int), As = [vr p0] ∧ Ω[k0]? = some (lstA T p0 x0) ∧ M__law_many x0 = some r ∧ R = RV (va T (LF.mk r.1)) (stt Ω [(k0, lstA T p0 r.2)] [])
theorem sc__law_many : FnScope ["_law_source", "_law_filled"] ["_law_source"] (defScope s__law_many) := ⟨rfl, rfl, rfl, by decide +kernel, rfl, by decide +kernel, by decide +kernel⟩
theorem ok__law_many {f : Addr} {fd : FuncData} (F : Fun T.K "_law_many" "_law_many" s__law_many f fd) (c__law_next : Cal P w T.K mg base 1 "_law_next" ["_law_source", "_law_times"] (mkSp (Pre__law_next T))) (c__law_one : Cal P w T.K mg base 2 "_law_one" ["_law_source", "_law_some"] (mkSp (Pre__law_one T))) (c__law_bytes : Cal P w T.K mg base 3 "_law_bytes" ["_law_source"] (mkSp (Pre__law_bytes T))) : FnOk P w T.K mg base CX0 4 f fd ["_law_source"] (mkSp (Pre__law_many T)) := by
  refine fn_ok F sc__law_many (fun As Ω R h => ?_) (fun cdv A outer s H E hr As Ω R F0 h => ?_)
  · obtain ⟨k0, p0, x0, r, rfl, _⟩ := h
    rfl
  obtain ⟨k0, p0, x0, r, rfl, hk0, hm, rfl⟩ := h
  refine ⟨_, (pss_cons (ps_set (i := 1) sc__law_many.nd rfl (.inl rfl) (pe_op op_mulQ (pe_lst (pa_cons (pe_cal c__law_one (hr.mono (by decide)) (by rfl) (pa_cons (pv 0) (pa_cons (pe_lst (pa_cons pe_int (pa_cons pe_int (pa_cons pe_int (pa_cons (pe_cal c__law_next (hr.mono (by decide)) (by rfl) (pa_cons (pv 0) (pa_cons pe_int pa_nil))) pa_nil))))) pa_nil))) pa_nil)) (pe_op op_addQ pe_int (pe_cal c__law_next (hr.mono (by decide)) (by rfl) (pa_cons (pv 0) (pa_cons pe_int pa_nil)))))) (pss_one (ps_ret (pe_op op_addQ (pe_op op_addQ (pe_cal c__law_bytes (hr.mono (by decide)) (by rfl) (pa_cons (pv 0) pa_nil)) (pv 1)) (pe_cal c__law_bytes (hr.mono (by decide)) (by rfl) (pa_cons (pv 0) pa_nil)))))), fun D hrt hnx => ?_⟩
  have ok := okk1 hk0
  suffices hx : XS _ D F0 [some (vr p0), none] (stt Ω [(k0, lstA T p0 (x0 : List Int))] []) by
    rw [show (stt Ω [(k0, lstA T p0 (x0 : List Int))] []) = Ω from stt_self (by simp [hk0])] at hx
    exact hx
  unfold M__law_many at hm
  obtain ⟨z1, hz1, hm⟩ := bnd_some hm
  obtain ⟨z2, hz2, hm⟩ := bnd_some hm
  obtain ⟨z3, hz3, hm⟩ := bnd_some hm
  obtain ⟨z4, hz4, hm⟩ := bnd_some hm
  obtain ⟨y5, hy5, hm⟩ := bnd_some hm
  refine xs_set (A := va T (LF.mk y5)) (xe_eq (xe_rep (xe_lst (l := [z2.1]) (xa_cons (xe_call (xa_cons (xe_var (i := 0) rfl) (xa_cons (xe_lst (l := [(0 : Int), (255 : Int), (1 : Int), z1.1]) (xa_cons xe_int (xa_cons xe_int (xa_cons xe_int (xa_cons (xe_call (xa_cons (xe_var (i := 0) rfl) (xa_cons xe_int xa_nil)) ⟨k0, p0, x0, (256 : Int), z1, rfl, (stt_get ok (i := 0) rfl), hz1, rfl⟩ (cal1 ok (i := 0) rfl)) xa_nil)))) (by show 4 ≤ sizeLine; decide)) xa_nil)) ⟨k0, p0, z1.2, ([(0 : Int), (255 : Int), (1 : Int), z1.1] : List Int), z2, rfl, (stt_get ok (i := 0) rfl), hz2, rfl⟩ (cal1 ok (i := 0) rfl)) xa_nil) (by show 1 ≤ sizeLine; decide)) (xe_add xe_int (xe_call (xa_cons (xe_var (i := 0) rfl) (xa_cons xe_int xa_nil)) ⟨k0, p0, z2.2, (1200 : Int), z3, rfl, (stt_get ok (i := 0) rfl), hz3, rfl⟩ (cal1 ok (i := 0) rfl))) isLs_LF (chkP_some hz4)) (congrArg LF.mk (Option.some.inj hy5))) ?_
  show XS (tRet _) _ _ [some (vr p0), some (va T (LF.mk y5))] (stt Ω [(k0, lstA T p0 (z3.2 : List Int))] [])
  obtain ⟨z6, hz6, hm⟩ := bnd_some hm
  obtain ⟨z7, hz7, hm⟩ := bnd_some hm
  obtain ⟨z8, hz8, hm⟩ := bnd_some hm
  obtain ⟨z9, hz9, hm⟩ := bnd_some hm
  obtain rfl := Option.some.inj hm
  refine xs_ret (xe_cat (xe_cat (xe_call (xa_cons (xe_var (i := 0) rfl) xa_nil) ⟨k0, p0, z3.2, z6, rfl, (stt_get ok (i := 0) rfl), hz6, rfl⟩ (cal1 ok (i := 0) rfl)) (xe_var (i := 1) rfl) isLs_LF isLs_LF (chkP_some hz7)) (xe_call (xa_cons (xe_var (i := 0) rfl) xa_nil) ⟨k0, p0, z6.2, z8, rfl, (stt_get ok (i := 0) rfl), hz8, rfl⟩ (cal1 ok (i := 0) rfl)) isLs_LF isLs_LF (chkP_some hz9)) hrt.all
noncomputable def M_law (x0 : List Int) : Option Bool :=
  (M__law_cell_at x0 (0 : Int)).bind fun z1 => (chkP (([z1] : List Int).length + (cut x0 (some (1 : Int)) (some (5 : Int))).length ≤ sizeLine)).bind fun z2 => (forM' (ρ := Unit) (fun (a4 : Int) (s3 : Unit) => (M__law_source_of a4).bind fun z5 => (M__law_machine z5).bind fun z8 => (chkP ((-(2 ^ 63) ≤ (9 : Int) ∧ (9 : Int) < 2 ^ 63) ∧ ([(0 : Int)] : List Int).length * ((9 : Int)).toNat ≤ sizeLine)).bind fun z11 => (chkP ((-(2 ^ 63) ≤ (9 : Int) ∧ (9 : Int) < 2 ^ 63) ∧ ([(255 : Int)] : List Int).length * ((9 : Int)).toNat ≤ sizeLine)).bind fun z12 => (chkP ((-(2 ^ 63) ≤ (8 : Int) ∧ (8 : Int) < 2 ^ 63) ∧ ([(0 : Int)] : List Int).length * ((8 : Int)).toNat ≤ sizeLine)).bind fun z13 => (chkP (((List.replicate ((8 : Int)).toNat ([(0 : Int)] : List Int)).flatten).length + ([(255 : Int)] : List Int).length ≤ sizeLine)).bind fun z14 => (some ([(LF.mk ([] : List Int)), (LF.mk ([(0 : Int)] : List Int)), (LF.mk ([(255 : Int)] : List Int)), (LF.mk ([(128 : Int)] : List Int)), (LF.mk ([(127 : Int)] : List Int)), (LF.mk ([(0 : Int), (255 : Int)] : List Int)), (LF.mk ([(255 : Int), (0 : Int)] : List Int)), (LF.mk ([(0 : Int), (128 : Int)] : List Int)), (LF.mk (List.replicate ((9 : Int)).toNat ([(0 : Int)] : List Int)).flatten), (LF.mk (List.replicate ((9 : Int)).toNat ([(255 : Int)] : List Int)).flatten), (LF.mk ((List.replicate ((8 : Int)).toNat ([(0 : Int)] : List Int)).flatten ++ ([(255 : Int)] : List Int)))] : List (LF Int))).bind fun y15 => (M__law_many z8.2).bind fun z16 => (chkP (y15.length + ([(LF.mk z16.1)] : List (LF Int)).length ≤ sizeLine)).bind fun z17 => (chkP (-(2 ^ 62) ≤ (24 : Int) ∧ (24 : Int) < 2 ^ 62)).bind fun z18 => (chkP ((rng 0 ((24 : Int)).toNat).length ≤ sizeLine)).bind fun z19 => (lcM (fun (a21 : Int) (s20 : (List Int)) => (M__law_bytes s20).bind fun z22 => some (some (LF.mk z22.1), z22.2)) (rng 0 ((24 : Int)).toNat) z16.2).bind fun z23 => (chkP ((y15 ++ ([(LF.mk z16.1)] : List (LF Int))).length + z23.1.length ≤ sizeLine)).bind fun z25 => (forM' (ρ := Unit) (fun (a27 : (LF Int)) (s26 : MS) => (M__law_right s26 a27.l true).bind fun z28 => (chkP (z28.1 = true)).bind fun z29 => (M__law_right z28.2 a27.l false).bind fun z30 => (chkP (z30.1 = true)).bind fun z31 => some (Stp.nx z30.2)) ((y15 ++ ([(LF.mk z16.1)] : List (LF Int))) ++ z23.1) z8.1).bind fun z32 => (nxt z32).bind fun s33 => some (Stp.nx ())) (([z1] : List Int) ++ (cut x0 (some (1 : Int)) (some (5 : Int)))) ()).bind fun z34 => (nxt z34).bind fun s35 => some true
def Pre_law (T : TC) : PreT := fun As Ω R => ∃ (x0 : List Int) (r : Bool), As = [va T (SF.mk x0)] ∧ M_law x0 = some r ∧ R = RV (va T r) (stt Ω [] [])
theorem sc_law : FnScope ["_law_script", "_law_cell", "_law_source", "_law_machine_here", "_law_some", "_law_one_here", "_law_turn"] ["_law_script"] (defScope s_law) := ⟨rfl, rfl, rfl, by decide +kernel, rfl, by decide +kernel, by decide +kernel⟩
theorem ok_law {f : Addr} {fd : FuncData} (F : Fun T.K "law" "law" s_law f fd) (c__law_cell_at : Cal P w T.K mg base 1 "_law_cell_at" ["_law_script", "_law_index"] (mkSp (Pre__law_cell_at T))) (c__law_source_of : Cal P w T.K mg base 1 "_law_source_of" ["_law_cell"] (mkSp (Pre__law_source_of T))) (c__law_machine : Cal P w T.K mg base 5 "_law_machine" ["_law_source"] (mkSp (Pre__law_machine T))) (c__law_many : Cal P w T.K mg base 4 "_law_many" ["_law_source"] (mkSp (Pre__law_many T))) (z_range : mg "range" = none) (c__law_bytes : Cal P w T.K mg base 3 "_law_bytes" ["_law_source"] (mkSp (Pre__law_bytes T))) (c__law_right : Cal P w T.K mg base 24 "_law_right" ["_law_machine_here", "_law_some", "_law_is_signed"] (mkSp (Pre__law_right T))) : FnOk P w T.K mg base CX0 25 f fd ["_law_script"] (mkSp (Pre_law T)) := by
  refine fn_ok F sc_law (fun As Ω R h => ?_) (fun cdv A outer s H E hr As Ω R F0 h => ?_)
  · obtain ⟨x0, r, rfl, _⟩ := h
    rfl
  obtain ⟨x0, r, rfl, hm, rfl⟩ := h
  refine ⟨_, (pss_cons (ps_for PassesOwn.never rfl (pi_listK (K := T.K) (pe_op op_addQ (pe_lst (pa_cons (pe_cal c__law_cell_at (hr.mono (by decide)) (by rfl) (pa_cons (pv 0) (pa_cons pe_int pa_nil))) pa_nil)) (pe_slice (sl_listK (K := T.K) rfl) (pv 0) (po_some pe_int) (po_some pe_int))) rfl) (pg_name (i := 1) sc_law.nd rfl (.inl rfl)) (pss_cons (ps_set (i := 2) sc_law.nd rfl (.inr rfl) (pe_cal c__law_source_of (hr.mono (by decide)) (by rfl) (pa_cons (pv 1) pa_nil))) (pss_cons (ps_set (i := 3) sc_law.nd rfl (.inl rfl) (pe_cal c__law_machine (hr.mono (by decide)) (by rfl) (pa_cons (pv 2) pa_nil))) (pss_cons (ps_set (i := 4) sc_law.nd rfl (.inl rfl) (pe_lst (pa_cons (pe_lst pa_nil) (pa_cons (pe_lst (pa_cons pe_int pa_nil)) (pa_cons (pe_lst (pa_cons pe_int pa_nil)) (pa_cons (pe_lst (pa_cons pe_int pa_nil)) (pa_cons (pe_lst (pa_cons pe_int pa_nil)) (pa_cons (pe_lst (pa_cons pe_int (pa_cons pe_int pa_nil))) (pa_cons (pe_lst (pa_cons pe_int (pa_cons pe_int pa_nil))) (pa_cons (pe_lst (pa_cons pe_int (pa_cons pe_int pa_nil))) (pa_cons (pe_op op_mulQ (pe_lst (pa_cons pe_int pa_nil)) pe_int) (pa_cons (pe_op op_mulQ (pe_lst (pa_cons pe_int pa_nil)) pe_int) (pa_cons (pe_op op_addQ (pe_op op_mulQ (pe_lst (pa_cons pe_int pa_nil)) pe_int) (pe_lst (pa_cons pe_int pa_nil))) pa_nil))))))))))))) (pss_one (ps_for PassesOwn.never rfl (pi_listK (K := T.K) (pe_op op_addQ (pe_op op_addQ (pv 4) (pe_lst (pa_cons (pe_cal c__law_many (hr.mono (by decide)) (by rfl) (pa_cons (pv 2) pa_nil)) pa_nil))) (pe_lc (own := [("_law_turn", 6)]) rfl sc_law.nd (pi_range1 rfl z_range (pa_cons pe_int pa_nil)) (blkOk_by (N := ["_law_script", "_law_cell", "_law_source", "_law_machine_here", "_law_some", "_law_one_here", "_law_turn"]) (sc := defScope s_law) (by decide +kernel)) (fun _ _ _ _ _ => (pg_name (i := 6) sc_law.nd rfl (.inl rfl))) (fun _ _ _ _ _ => pts_nil) (fun _ _ _ _ _ => (pe_cal c__law_bytes (hr.mono (by decide)) (by rfl) (pa_cons (pv 2) pa_nil))))) rfl) (pg_name (i := 5) sc_law.nd rfl (.inl rfl)) (pss_one (ps_if (PW.pt (pw_or (pt_not (pt_val (pe_cal c__law_right (hr.mono (by decide)) (by rfl) (pa_cons (pv 3) (pa_cons (pv 5) (pa_cons pe_bl pa_nil)))))) (pw_or1 (pt_not (pt_val (pe_cal c__law_right (hr.mono (by decide)) (by rfl) (pa_cons (pv 3) (pa_cons (pv 5) (pa_cons pe_bl pa_nil))))))))) pss_never pss_nil)))))))) (pss_one (ps_ret pe_bl))), fun D hrt hnx => ?_⟩
  have ok : Okk Ω [] := okk0
  suffices hx : XS _ D F0 [some (va T (SF.mk x0)), none, none, none, none, none, none] (stt Ω [] []) by
    rw [show (stt Ω [] []) = Ω from stt_self (by simp)] at hx
    exact hx
  unfold M_law at hm
  obtain ⟨z1, hz1, hm⟩ := bnd_some hm
  obtain ⟨z2, hz2, hm⟩ := bnd_some hm
  obtain ⟨z34, hz34, hm⟩ := bnd_some hm
  refine xs_forS (fun (s3 : Unit) => [some (va T (SF.mk x0)), none, none, none, none, none, none]) (fun (s3 : Unit) => (stt Ω [] [])) (fun (_ : Unit) _ _ _ => False) hz34 (xi_LF (xe_cat (xe_lst (l := [z1]) (xa_cons (xe_call (xa_cons (xe_var (i := 0) rfl) (xa_cons xe_int xa_nil)) ⟨x0, (0 : Int), z1, rfl, hz1, rfl⟩ cal0) xa_nil) (by show 1 ≤ sizeLine; decide)) (xe_sliceL (xe_var (i := 0) rfl) (xo_some (T := T) xe_int) (xo_some (T := T) xe_int) isL_SF) isLs_LF isLs_LF (chkP_some hz2))) (fun _ => tgt_name) (fun a4 s3 s' ha hm F1 D1 e1 hD => ?_) (fun s35 es => ?_) (fun r1 es => ?_)
  · show XS (tSeq _ _) _ _ [some (va T (SF.mk x0)), some (va T a4), none, none, none, none, none] (stt Ω [] [])
    obtain ⟨z5, hz5, hm⟩ := bnd_some hm
    refine xs_setO (xn_call (xa_cons (xe_var (i := 1) rfl) xa_nil) ⟨a4, z5, rfl, hz5, rfl⟩ cal0) (fun pp6 => ?_)
    show XS (tSeq _ _) _ _ [some (va T (SF.mk x0)), some (va T a4), some (vr pp6), none, none, none, none] (stt Ω [] [lstA T pp6 (z5 : List Int)])
    obtain ⟨z8, hz8, hm⟩ := bnd_some hm
    refine xs_setO (xn_call (xa_cons (xe_var (i := 2) rfl) xa_nil) ⟨(Ω.length + 0), pp6, z5, z8, rfl, (stt_getL (j := 0) rfl), hz8, rfl⟩ (cal1L (j := 0))) (fun pp9 => ?_)
    show XS (tSeq _ _) _ _ [some (va T (SF.mk x0)), some (va T a4), some (vr pp6), some (vr pp9), none, none, none] (stt Ω [] [lstA T pp6 (z8.2 : List Int), machA T pp9 z8.1])
    obtain ⟨z11, hz11, hm⟩ := bnd_some hm
    obtain ⟨z12, hz12, hm⟩ := bnd_some hm
    obtain ⟨z13, hz13, hm⟩ := bnd_some hm
    obtain ⟨z14, hz14, hm⟩ := bnd_some hm
    obtain ⟨y15, hy15, hm⟩ := bnd_some hm
    refine xs_set (A := va T (LF.mk y15)) (xe_eq (xe_lst (l := [(LF.mk ([] : List Int)), (LF.mk ([(0 : Int)] : List Int)), (LF.mk ([(255 : Int)] : List Int)), (LF.mk ([(128 : Int)] : List Int)), (LF.mk ([(127 : Int)] : List Int)), (LF.mk ([(0 : Int), (255 : Int)] : List Int)), (LF.mk ([(255 : Int), (0 : Int)] : List Int)), (LF.mk ([(0 : Int), (128 : Int)] : List Int)), (LF.mk (List.replicate ((9 : Int)).toNat ([(0 : Int)] : List Int)).flatten), (LF.mk (List.replicate ((9 : Int)).toNat ([(255 : Int)] : List Int)).flatten), (LF.mk ((List.replicate ((8 : Int)).toNat ([(0 : Int)] : List Int)).flatten ++ ([(255 : Int)] : List Int)))]) (xa_cons (xe_lst (T := T) (l := ([] : List Int)) xa_nil (Nat.zero_le _)) (xa_cons (xe_lst (l := [(0 : Int)]) (xa_cons xe_int xa_nil) (by show 1 ≤ sizeLine; decide)) (xa_cons (xe_lst (l := [(255 : Int)]) (xa_cons xe_int xa_nil) (by show 1 ≤ sizeLine; decide)) (xa_cons (xe_lst (l := [(128 : Int)]) (xa_cons xe_int xa_nil) (by show 1 ≤ sizeLine; decide)) (xa_cons (xe_lst (l := [(127 : Int)]) (xa_cons xe_int xa_nil) (by show 1 ≤ sizeLine; decide)) (xa_cons (xe_lst (l := [(0 : Int), (255 : Int)]) (xa_cons xe_int (xa_cons xe_int xa_nil)) (by show 2 ≤ sizeLine; decide)) (xa_cons (xe_lst (l := [(255 : Int), (0 : Int)]) (xa_cons xe_int (xa_cons xe_int xa_nil)) (by show 2 ≤ sizeLine; decide)) (xa_cons (xe_lst (l := [(0 : Int), (128 : Int)]) (xa_cons xe_int (xa_cons xe_int xa_nil)) (by show 2 ≤ sizeLine; decide)) (xa_cons (xe_rep (xe_lst (l := [(0 : Int)]) (xa_cons xe_int xa_nil) (by show 1 ≤ sizeLine; decide)) xe_int isLs_LF (chkP_some hz11)) (xa_cons (xe_rep (xe_lst (l := [(255 : Int)]) (xa_cons xe_int xa_nil) (by show 1 ≤ sizeLine; decide)) xe_int isLs_LF (chkP_some hz12)) (xa_cons (xe_cat (xe_rep (xe_lst (l := [(0 : Int)]) (xa_cons xe_int xa_nil) (by show 1 ≤ sizeLine; decide)) xe_int isLs_LF (chkP_some hz13)) (xe_lst (l := [(255 : Int)]) (xa_cons xe_int xa_nil) (by show 1 ≤ sizeLine; decide)) isLs_LF isLs_LF (chkP_some hz14)) xa_nil))))))))))) (by show 11 ≤ sizeLine; decide)) (congrArg LF.mk (Option.some.inj hy15))) ?_
    show XS (tFor _ _ _) _ _ [some (va T (SF.mk x0)), some (va T a4), some (vr pp6), some (vr pp9), some (va T (LF.mk y15)), none, none] (stt Ω [] [lstA T pp6 (z8.2 : List Int), machA T pp9 z8.1])
    obtain ⟨z16, hz16, hm⟩ := bnd_some hm
    obtain ⟨z17, hz17, hm⟩ := bnd_some hm
    obtain ⟨z18, hz18, hm⟩ := bnd_some hm
    obtain ⟨z19, hz19, hm⟩ := bnd_some hm
    obtain ⟨z23, hz23, hm⟩ := bnd_some hm
    obtain ⟨z25, hz25, hm⟩ := bnd_some hm
    obtain ⟨z32, hz32, hm⟩ := bnd_some hm
    refine xs_for (fun (s26 : MS) => [some (va T (SF.mk x0)), some (va T a4), some (vr pp6), some (vr pp9), some (va T (LF.mk y15)), none, none]) (fun (s26 : MS) => (stt Ω [] [lstA T pp6 (z23.2 : List Int), machA T pp9 s26])) (fun (_ : Unit) _ _ _ => False) hz32 (xi_LF (xe_cat (xe_cat (xe_var (i := 4) rfl) (xe_lst (l := [(LF.mk z16.1)]) (xa_cons (xe_call (xa_cons (xe_var (i := 2) rfl) xa_nil) ⟨(Ω.length + 0), pp6, z8.2, z16, rfl, (stt_getL (j := 0) rfl), hz16, rfl⟩ (cal1L (j := 0))) xa_nil) (by show 1 ≤ sizeLine; decide)) isLs_LF isLs_LF (chkP_some hz17)) (xe_fz (xn_lcS (T := T) (fun (s20 : (List Int)) => []) (fun (s20 : (List Int)) => [lstA T pp6 (s20 : List Int), machA T pp9 z8.1]) hz23 (xi_range1 (T := T) (xa_cons xe_int xa_nil) (chkP_some hz18).1 (chkP_some hz18).2) (fun _ => tgt_name) (by simp) (chkP_some hz19) ?q24)) isLs_LF isLs_LF (chkP_some hz25))) (fun _ => tgt_name) (fun a27 s26 s' ha hm F1 D1 e1 hD => ?_) (fun s33 es => ?_) (fun r1 es => ?_)
    case q24 =>
      exact (fun a21 s20 o s2 ha hm X => by
        obtain ⟨z22, hz22, hm⟩ := bnd_some hm
        obtain ⟨rfl, rfl⟩ := Prod.mk.inj (Option.some.inj hm)
        refine ⟨(fun e => nomatch e), fun y e => ?_⟩
        obtain rfl := Option.some.inj e
        refine ⟨xt_yes, (xe_call (xa_cons (xe_var (i := 2) rfl) xa_nil) ⟨(Ω.length + 0), pp6, s20, z22, rfl, (stt_getL (j := 0) rfl), hz22, rfl⟩ (cal1L (j := 0)))⟩)
    · show XS (tIfS _ _ _) _ _ [some (va T (SF.mk x0)), some (va T a4), some (vr pp6), some (vr pp9), some (va T (LF.mk y15)), some (va T (LF.mk a27.l)), none] (stt Ω [] [lstA T pp6 (z23.2 : List Int), machA T pp9 s26])
      obtain ⟨z28, hz28, hm⟩ := bnd_some hm
      obtain ⟨z29, hz29, hm⟩ := bnd_some hm
      obtain ⟨z30, hz30, hm⟩ := bnd_some hm
      obtain ⟨z31, hz31, hm⟩ := bnd_some hm
      refine xs_ifF1 (xt_orF (xt_notF (xt_eq (xt_tB (T := T) (xe_call (xa_cons (xe_var (i := 3) rfl) (xa_cons (xe_var (i := 5) rfl) (xa_cons xe_bl xa_nil))) ⟨(Ω.length + 1), pp9, s26, a27.l, true, z28, rfl, (stt_getL (j := 1) rfl), hz28, rfl⟩ (cal1L (j := 1)))) (chkP_some hz29))) (xt_notF (xt_eq (xt_tB (T := T) (xe_call (xa_cons (xe_var (i := 3) rfl) (xa_cons (xe_var (i := 5) rfl) (xa_cons xe_bl xa_nil))) ⟨(Ω.length + 1), pp9, z28.2, a27.l, false, z30, rfl, (stt_getL (j := 1) rfl), hz30, rfl⟩ (cal1L (j := 1)))) (chkP_some hz31)))) ?_
      obtain rfl := Option.some.inj hm
      exact fun σ H n => hD.nx _ rfl σ H (n.forget 5)
    · subst es
      obtain ⟨s2, hs2, hm⟩ := bnd_some hm
      cases hs2
      obtain rfl := Option.some.inj hm
      exact fun σ H n => hD.nx _ rfl σ H (NX.cutL [] [lstA T pp6 (z23.2 : List Int), machA T pp9 s33] ((((n.forget 2).forget 3).forget 4).forget 1))
    · subst es
      cases hm
  · subst es
    obtain ⟨s2, hs2, hm⟩ := bnd_some hm
    cases hs2
    show XS (tRet _) _ _ [some (va T (SF.mk x0)), none, none, none, none, none, none] (stt Ω [] [])
    obtain rfl := Option.some.inj hm
    refine xs_ret xe_bl hrt.all
  · subst es
    cases hm
end
end P

set_option Elab.async false
set_option linter.all false
set_option maxRecDepth 100000
set_option exponentiation.threshold 4000
namespace P
open PySem L2 VL
/-- a source: three numbers -/
def Src (s : List Int) : Prop := ∃ a b c : Int, s = [a, b, c]
theorem cdiv_log {i j : Int} (h : 0 < j) (h2 : j.natAbs.log2 < 9000) : CDivW i j := ⟨h, h2⟩
theorem cdiv_small {i j : Int} (h : 0 < j) (h2 : j < 2 ^ 64) : CDivW i j := ⟨h, by
  have : j.natAbs < 2 ^ 64 := by omega
  have h0 : j.natAbs ≠ 0 := by omega
  have := (Nat.log2_lt h0 (k := 64)).mpr this
  omega⟩
theorem mul_l {a b : Int} (h1 : -(2 ^ 64) < a) (h2 : a < 2 ^ 64) : IntMulOk a b := .of_left (intBits_le_64 h1 h2)
theorem mul_r {a b : Int} (h1 : -(2 ^ 64) < b) (h2 : b < 2 ^ 64) : IntMulOk a b := .of_right (intBits_le_64 h1 h2)
theorem next_log {s : List Int} {m : Int} (hs : Src s) (h : 0 < m) (h2 : m.natAbs.log2 < 9000) : ∃ r s', M__law_next s m = some (r, s') ∧ Src s' ∧ 0 ≤ r ∧ r < m := by
  obtain ⟨a, b, c, rfl⟩ := hs
  unfold M__law_next
  rw [show atI [a, b, c] (0 : Int) = some a from rfl]
  simp only [Option.bind_some]
  by_cases ha : (0 : Int) < a
  · rw [if_pos (decide_eq_true ha), chkP_eq h, chkP_eq (cdiv_log h h2)]
    exact ⟨_, _, rfl, ⟨_, _, _, rfl⟩, Int.emod_nonneg _ (by omega), Int.emod_lt_of_pos _ h⟩
  · rw [if_neg (by simpa using ha)]
    rw [show atI [a, b, c] (2 : Int) = some c from rfl]
    simp only [Option.bind_some]
    rw [show ixN [a, b, c].length (2 : Int) = some 2 from rfl]
    simp only [Option.bind_some]
    rw [show [a, b, c].set 2 (c + 1) = [a, b, c + 1] from rfl, show atI [a, b, c + 1] (1 : Int) = some b from rfl, show atI [a, b, c + 1] (2 : Int) = some (c + 1) from rfl]
    simp only [Option.bind_some]
    rw [chkP_eq (mul_l (by decide) (by decide)), chkP_eq (by decide : (0 : Int) < 2147483647)]
    simp only [Option.bind_some]
    generalize hy : ((b + 104729 * (c + 1)) + 7919) % (2147483647 : Int) = y
    have hy1 : 0 ≤ y ∧ y < 2147483647 := by omega
    generalize hz : (y * 48271) % (2147483647 : Int) = z
    have hz1 : 0 ≤ z ∧ z < 2147483647 := by omega
    generalize hu : (z * ((z / 1009) + 69621)) % (2147483647 : Int) = u
    have hu1 : 0 ≤ u ∧ u < 2147483647 := by rw [← hu]; exact ⟨Int.emod_nonneg _ (by decide), Int.emod_lt_of_pos _ (by decide)⟩
    rw [chkP_eq (mul_r (by decide) (by decide)), chkP_eq (cdiv_small (by decide) (by decide)), chkP_eq (mul_l (by omega) (by omega)), chkP_eq (cdiv_small (by decide) (by decide)), chkP_eq (mul_l (by omega) (by omega)),
      chkP_eq (by decide : (0 : Int) < 2147483399), chkP_eq (cdiv_small (by decide) (by decide)), chkP_eq h]
    exact ⟨_, _, rfl, ⟨_, _, _, rfl⟩, Int.emod_nonneg _ (by omega), Int.emod_lt_of_pos _ h⟩
theorem next_ok {s : List Int} {m : Int} (hs : Src s) (h : 0 < m) (h2 : m < 2 ^ 64) : ∃ r s', M__law_next s m = some (r, s') ∧ Src s' ∧ 0 ≤ r ∧ r < m := next_log hs h (cdiv_small (i := 0) h h2).2
theorem one_ok {s l : List Int} (hs : Src s) (h : l ≠ []) (h2 : l.length < 100) : ∃ r s', M__law_one s l = some (r, s') ∧ Src s' ∧ r ∈ l := by
  have hp : 0 < l.length := List.length_pos_iff.mpr h
  obtain ⟨r, s', e, hs', r0, r1⟩ := next_ok hs (m := (l.length : Int)) (by omega) (by omega)
  obtain ⟨k, rfl⟩ := Int.eq_ofNat_of_zero_le r0
  have lt : k < l.length := by omega
  refine ⟨l[k], s', ?_, hs', List.getElem_mem lt⟩
  unfold M__law_one
  rw [e]
  show (atI l (k : Int)).bind _ = _
  rw [atI_nat (List.getElem?_eq_getElem lt)]
  rfl
theorem src_ok (x : Int) : ∃ s, M__law_source_of x = some s ∧ Src s := by
  have key : ∀ z : Int, ∃ s, ((chkP (CPow (10 : Int) (18 : Int))).bind fun z4 => (chkP (IntMulOk z (if (decide (((10 : Int) ^ ((18 : Int)).toNat) ≤ z)) = true then (1 : Int) else 0))).bind fun z5 => (chkP (0 < (2147483647 : Int))).bind fun z6 => some ([(z * (if (decide (((10 : Int) ^ ((18 : Int)).toNat) ≤ z)) = true then (1 : Int) else 0)), (z % (2147483647 : Int)), (0 : Int)] : List Int)) = some s ∧ Src s := fun z => by
    rw [chkP_eq (by unfold CPow; decide), chkP_eq (show IntMulOk z _ from by split <;> exact mul_r (by decide) (by decide)), chkP_eq (by decide : (0 : Int) < 2147483647)]
    exact ⟨_, rfl, _, _, _, rfl⟩
  unfold M__law_source_of
  by_cases h : (0 : Int) ≤ x
  · rw [if_pos (decide_eq_true h)]
    exact key x
  · rw [if_neg (by simpa using h), chkP_eq (mul_l (by decide) (by decide))]
    exact key _
theorem next_s {s : List Int} {m : Int} (hs : Src s) (h : 0 < m) (h2 : m < 2 ^ 64) : Sat (M__law_next s m) (fun r => Src r.2 ∧ 0 ≤ r.1 ∧ r.1 < m) := by
  obtain ⟨r, s', e, h1, h2, h3⟩ := next_ok hs h h2
  exact ⟨_, e, h1, h2, h3⟩
theorem one_s {s l : List Int} (hs : Src s) (h : l ≠ []) (h2 : l.length < 100) : Sat (M__law_one s l) (fun r => Src r.2 ∧ r.1 ∈ l) := by
  obtain ⟨r, s', e, h1, h2⟩ := one_ok hs h h2
  exact ⟨_, e, h1, h2⟩
theorem src_s (x : Int) : Sat (M__law_source_of x) Src := src_ok x
theorem power_ok {B : Int} (hB0 : 0 < B) (hB : B ≤ 1073741824) {i : Int} (h0 : 0 ≤ i) (h : i < 2 ^ 62) : M__law_power B i = some (B ^ i.toNat) := by
  have e : ∀ n : Nat, (rng 0 n).foldl (fun (s : Int) (_ : Int) => s * B) 1 = B ^ n := fun n => by
    induction n with
    | zero => rw [Int.pow_zero]; rfl
    | succ n ih =>
      have e : rng 0 (n + 1) = rng 0 n ++ [(0 : Int) + (n : Int)] := by
        unfold rng
        rw [List.range_succ, List.map_append]
        rfl
      rw [e, List.foldl_append, ih, Int.pow_succ]
      rfl
  unfold M__law_power
  rw [chkP_eq (by omega), Option.bind_some, forM_fold (fun (s : Int) (_ : Int) => s * B) (fun _ => True) (fun x _ s _ => ⟨by rw [chkP_eq (mul_r (by omega) (by omega))]; rfl, trivial⟩) trivial, e]
  rfl
theorem cell_ok (ns : List Int) (i : Int) (h : ns.length ≤ 63) : ∃ z, M__law_cell_at ns i = some z := by
  have hc := cut_len ns (some i) (some (i + 1))
  unfold M__law_cell_at
  rw [chkP_eq (size_le (n := (cut ns (some i) (some (i + 1))).length + ([0] : List Int).length) (m := 64) (by show _ + 1 ≤ 64; omega) (by decide)), Option.bind_some]
  have lt : 0 < (cut ns (some i) (some (i + 1)) ++ [(0 : Int)]).length := by rw [List.length_append]; show 0 < _ + 1; omega
  exact ⟨_, bnd_of (atI_nat (j := 0) (List.getElem?_eq_getElem lt)) rfl⟩
/-! ### the program's functions -/
theorem top_ok {W : Nat} (h : W ≤ 30) : M_top_digit (W : Int) = some ((2 ^ W - 1 : Nat) : Int) := by
  unfold M_top_digit
  refine bnd_of (chkP_eq (shl_ok (k := 1) (by decide) (by omega) (by omega))) ?_
  rw [Int.toNat_natCast, Int.one_mul, p2, Int.ofNat_sub (Nat.two_pow_pos W)]
  rfl
theorem size_ok {W : Nat} (h8 : 8 ≤ W) (h : W ≤ 30) (n : Int) : M_size_of (W : Int) n = some ((sz W n.natAbs : Nat) : Int) := by
  unfold M_size_of
  refine bnd_of (chkP_eq (cdiv_s (by omega) (by omega))) ?_
  rw [intBits_abs]
  unfold sz
  congr 1
  rw [show ((bl n.natAbs : Nat) : Int) + (W : Int) - 1 = ((bl n.natAbs + W - 1 : Nat) : Int) from by omega]
  exact (Int.natCast_ediv _ _).symm
theorem kW_le {W k : Nat} (h : W ≤ 30) (hk : k ≤ 4194304) : k * W ≤ 125829120 := Nat.le_trans (Nat.mul_le_mul hk h) (by decide)
theorem low_ok {W k : Nat} (h : W ≤ 30) (n : Int) (hk : k ≤ 4194304) : M_low_part (W : Int) n (k : Int) = some (n % 2 ^ (k * W)) := by
  have hm := kW_le h hk
  unfold M_low_part
  refine bnd_of (chkP_eq (mul_small' (by omega))) ?_
  rw [← Int.natCast_mul]
  refine bnd_of (chkP_eq (shl_ok (k := 1) (by decide) (by omega) (by omega))) ?_
  rw [Int.toNat_natCast, Int.one_mul, p2, ← Int.natCast_one, ← Int.ofNat_sub (Nat.two_pow_pos _), and_low, p2]
theorem row_loop {W : Nat} (h : W ≤ 30) : ∀ (xs : List Int) (n : Int) (row : List Int), row.length + xs.length < 16777216 →
    forM' (ρ := Unit) (fun (a15 : Int) (s14 : Int × (List Int)) => (chkP (s14.2.length < sizeLine)).bind fun z16 => (chkP (0 ≤ (W : Int))).bind fun z17 => (some (s14.1 / 2 ^ ((W : Int)).toNat)).bind fun y18 => some (Stp.nx (y18, (s14.2 ++ [(Builtin.bitAnd s14.1 ((2 ^ W - 1 : Nat) : Int))])))) xs (n, row) = some (.nx (n / 2 ^ (xs.length * W), row ++ rw_ W n xs.length))
  | [], n, row, _ => by
    show some (Stp.nx (n, row)) = some (Stp.nx (n / 2 ^ (0 * W), row ++ []))
    rw [Nat.zero_mul, Int.pow_zero, Int.ediv_one, List.append_nil]
  | x :: r, n, row, hl => by
    rw [List.length_cons] at hl
    rw [forM_cons (s' := (n / 2 ^ W, row ++ [n % 2 ^ W])) (by
      refine bnd_of (chkP_eq (size_lt (m := 16777215) (by show row.length ≤ _; omega) (by decide))) ?_
      refine bnd_of (chkP_eq (by omega)) ?_
      refine bnd_of rfl ?_
      rw [Int.toNat_natCast, and_low]), row_loop h r _ _ (by rw [List.length_append]; show row.length + 1 + r.length < _; omega)]
    rw [ediv_pow, List.length_cons, show W + r.length * W = (r.length + 1) * W from by rw [Nat.succ_mul]; omega, List.append_assoc]
    rfl
theorem row_ok {W : Nat} (h8 : 8 ≤ W) (h : W ≤ 30) : ∀ (f k : Nat) (n : Int), k ≤ 32 * 2 ^ f → k ≤ 4194304 → M_row_of (f + 1) (W : Int) n (k : Int) = some (rw_ W n k) := by
  intro f
  induction f with
  | zero =>
    intro k n hk hk2
    rw [M_row_of_succ, if_neg (by rw [decide_eq_true_iff]; omega)]
    refine bnd_of (top_ok h) ?_
    refine bnd_of rfl ?_
    refine bnd_of (chkP_eq (by omega)) ?_
    rw [Int.toNat_natCast]
    refine bnd_of (row_loop h (rng 0 k) n [] (by rw [rng_len]; show 0 + k < _; omega)) ?_
    rw [rng_len]
    rfl
  | succ f ih =>
    intro k n hk hk2
    rw [M_row_of_succ]
    by_cases q : 32 < k
    · rw [if_pos (decide_eq_true (by omega))]
      refine bnd_of (chkP_eq (cdiv_s (by decide) (by decide))) ?_
      refine bnd_of rfl ?_
      rw [show (k : Int) / 2 = ((k / 2 : Nat) : Int) from rfl]
      have hp : 32 * 2 ^ (f + 1) = 2 * (32 * 2 ^ f) := by rw [Nat.pow_succ]; omega
      have hm := kW_le (k := k / 2) h (by omega)
      refine bnd_of (low_ok h n (by omega)) ?_
      refine bnd_of (ih (k / 2) _ (by omega) (by omega)) ?_
      refine bnd_of (chkP_eq (mul_small' (by omega))) ?_
      rw [← Int.natCast_mul, Int.toNat_natCast, show (k : Int) - ((k / 2 : Nat) : Int) = ((k - k / 2 : Nat) : Int) from by omega]
      refine bnd_of (chkP_eq (by omega)) ?_
      refine bnd_of (ih (k - k / 2) _ (by omega) (by omega)) ?_
      refine bnd_of (chkP_eq (size_le (m := 4194304) (by rw [rw_len, rw_len]; omega) (by decide))) ?_
      rw [rw_mod, ← rw_app, show k / 2 + (k - k / 2) = k from by omega]
    · rw [if_neg (by rw [decide_eq_true_iff]; omega)]
      refine bnd_of (top_ok h) ?_
      refine bnd_of rfl ?_
      refine bnd_of (chkP_eq (by omega)) ?_
      rw [Int.toNat_natCast]
      refine bnd_of (row_loop h (rng 0 k) n [] (by rw [rng_len]; show 0 + k < _; omega)) ?_
      rw [rng_len]
      rfl
/-- the number as the program keeps it -/
abbrev bg (W : Nat) (n : Int) : Bg := ⟨(W : Int), dg W n.natAbs, n⟩
theorem bigof_ok {W : Nat} {S : MS} (hS : S.w = (W : Int)) (h8 : 8 ≤ W) (h : W ≤ 30) {n : Int} (hn : sz W n.natAbs ≤ 4194304) : M_big_of S n = some (bg W n) := by
  unfold M_big_of
  rw [hS]
  refine bnd_of (size_ok h8 h n) ?_
  refine bnd_of (row_ok h8 h 19 _ _ (Nat.le_trans hn (by decide)) hn) ?_
  rw [rw_dg (by omega)]
theorem big_ok {W : Nat} {S : MS} (hS : S.w = (W : Int)) (h8 : 8 ≤ W) (h : W ≤ 30) {n : Int} (hn : sz W n.natAbs ≤ 4194304) : M_big S n = some (bg W n) := by
  unfold M_big
  refine bnd_of (show M_check_machine S = some () from bnd_of (chkP_eq rfl) rfl) ?_
  refine bnd_of (show M_is_integer n = some true from rfl) ?_
  refine bnd_of (chkP_eq rfl) ?_
  exact bnd_of (bigof_ok hS h8 h hn) rfl
def ord (a b : Int) : Int := if a < b then -1 else if a = b then 0 else 1
theorem cut_take {α : Type} (l : List α) {k : Nat} (hk : k ≤ l.length) : cut l none (some (k : Int)) = l.take k := by
  have h1 : HT.sIx l.length 0 none = 0 := rfl
  have h2 : HT.sIx l.length l.length (some (k : Int)) = k := by rw [HT.sIx_nat, Nat.min_eq_left hk]
  unfold cut
  rw [h1, h2, List.drop_zero, Nat.sub_zero]
theorem cut_drop {α : Type} (l : List α) {k : Nat} (hk : k ≤ l.length) : cut l (some (k : Int)) none = l.drop k := by
  have h1 : HT.sIx l.length 0 (some (k : Int)) = k := by rw [HT.sIx_nat, Nat.min_eq_left hk]
  have h2 : HT.sIx l.length l.length none = l.length := rfl
  unfold cut
  rw [h1, h2]
  exact List.take_of_length_le (by rw [List.length_drop]; omega)
theorem lv_foldr (B : Int) : ∀ l : List Int, l.foldr (fun d s => s * B + d) 0 = lv B l
  | [] => rfl
  | d :: r => by
    rw [List.foldr_cons, lv_foldr B r, Int.mul_comm]
    show B * lv B r + d = d + B * lv B r
    omega
theorem num_loop {W : Nat} : ∀ (xs : List Int) (m : Nat) (s : Int), (∀ x ∈ xs, 0 ≤ x ∧ x < (2 : Int) ^ W) → 0 ≤ s → s < 2 ^ (W * m) → W * (m + xs.length) + W ≤ 134217728 →
    forM' (ρ := Unit) (fun (a9 : Int) (s8 : Int) => (chkP (CShl s8 (W : Int))).bind fun z10 => (some ((s8 * 2 ^ ((W : Int)).toNat) + a9)).bind fun y11 => some (Stp.nx y11)) xs s = some (.nx (xs.foldl (fun s d => s * 2 ^ W + d) s))
  | [], m, s, _, _, _, _ => rfl
  | x :: r, m, s, hd, s0, s1, hl => by
    have hx := hd x List.mem_cons_self
    rw [List.length_cons] at hl
    have e1 : (s + 1) * 2 ^ W ≤ 2 ^ (W * m) * 2 ^ W := Int.mul_le_mul_of_nonneg_right (by omega) (Int.le_of_lt (ppos W))
    rw [Int.add_mul, Int.one_mul, ← Int.pow_add] at e1
    have e0 : 0 ≤ s * 2 ^ W := Int.mul_nonneg s0 (Int.le_of_lt (ppos W))
    have el : W * (m + (r.length + 1)) = W * m + W * r.length + W := by rw [Nat.mul_add, Nat.mul_add, Nat.mul_one]; omega
    rw [forM_cons (s' := s * 2 ^ W + x) (by
      refine bnd_of (chkP_eq (shl_ok (nat_of s0 s1) (by omega) (by omega))) ?_
      refine bnd_of rfl ?_
      rw [Int.toNat_natCast]), num_loop r (m + 1) _ (fun y hy => hd y (List.mem_cons_of_mem _ hy)) (by omega) (by rw [Nat.mul_succ]; omega) (by rw [show m + 1 + r.length = m + (r.length + 1) from by omega]; exact hl)]
    rfl
theorem num_base {W : Nat} {row : List Int} (h : W ≤ 30) (hd : ∀ x ∈ row, 0 ≤ x ∧ x < (2 : Int) ^ W) (hl : row.length ≤ 32) :
    ((forM' (ρ := Unit) (fun (a9 : Int) (s8 : Int) => (chkP (CShl s8 (W : Int))).bind fun z10 => (some ((s8 * 2 ^ ((W : Int)).toNat) + a9)).bind fun y11 => some (Stp.nx y11)) ((row).reverse) (0 : Int)).bind fun z12 => (nxt z12).bind fun s13 => some s13) = some (lv (2 ^ W) row) := by
  have := Nat.mul_le_mul h hl
  refine bnd_of (num_loop row.reverse 0 0 (fun x hx => hd x (List.mem_reverse.mp hx)) (Int.le_refl _) (by rw [Nat.mul_zero, Int.pow_zero]; exact Int.zero_lt_one) (by rw [List.length_reverse, Nat.zero_add]; omega)) ?_
  rw [List.foldl_reverse, lv_foldr]
  rfl
theorem num_ok {W : Nat} (h8 : 8 ≤ W) (h : W ≤ 30) : ∀ (f : Nat) (row : List Int), (∀ x ∈ row, 0 ≤ x ∧ x < (2 : Int) ^ W) → row.length ≤ 32 * 2 ^ f → row.length ≤ 2097152 → M_number_of (f + 1) (W : Int) row = some (lv (2 ^ W) row) := by
  intro f
  induction f with
  | zero =>
    intro row hd hl _
    rw [M_number_of_succ, Option.bind_some, if_neg (by rw [decide_eq_true_iff]; omega)]
    exact num_base h hd (by omega)
  | succ f ih =>
    intro row hd hl hl2
    rw [M_number_of_succ, Option.bind_some]
    by_cases q : 32 < row.length
    · rw [if_pos (decide_eq_true (by omega))]
      refine bnd_of (chkP_eq (cdiv_s (by decide) (by decide))) ?_
      refine bnd_of rfl ?_
      rw [show ((row.length : Nat) : Int) / 2 = ((row.length / 2 : Nat) : Int) from rfl, cut_take row (by omega), cut_drop row (by omega)]
      have hp : 32 * 2 ^ (f + 1) = 2 * (32 * 2 ^ f) := by rw [Nat.pow_succ]; omega
      have d1 : ∀ x ∈ row.take (row.length / 2), 0 ≤ x ∧ x < (2 : Int) ^ W := fun x hx => hd x (List.mem_of_mem_take hx)
      have d2 : ∀ x ∈ row.drop (row.length / 2), 0 ≤ x ∧ x < (2 : Int) ^ W := fun x hx => hd x (List.mem_of_mem_drop hx)
      refine bnd_of (ih _ d1 (by rw [List.length_take]; omega) (by rw [List.length_take]; omega)) ?_
      refine bnd_of (ih _ d2 (by rw [List.length_drop]; omega) (by rw [List.length_drop]; omega)) ?_
      have kb : row.length / 2 * W ≤ 31457280 := Nat.le_trans (Nat.mul_le_mul (show row.length / 2 ≤ 1048576 by omega) h) (by decide)
      have kb2 : W * (row.drop (row.length / 2)).length ≤ 31457310 := Nat.le_trans (Nat.mul_le_mul h (show (row.drop (row.length / 2)).length ≤ 1048577 by rw [List.length_drop]; omega)) (by decide)
      have bd := lv_bound (ppos W) d2
      rw [← Int.pow_mul] at bd
      refine bnd_of (chkP_eq (mul_small' (by omega))) ?_
      rw [← Int.natCast_mul]
      refine bnd_of (chkP_eq (shl_ok (nat_of bd.1 bd.2) (by omega) (by omega))) ?_
      rw [Int.toNat_natCast, lv_split (row.length / 2) row (by omega), ← Int.pow_mul, Nat.mul_comm W, Int.mul_comm (2 ^ (row.length / 2 * W))]
    · rw [if_neg (by rw [decide_eq_true_iff]; omega)]
      exact num_base h hd (by omega)
theorem eq_self (W : Nat) (n : Int) : M_Big_eq (bg W n) (bg W n) = some true := by
  unfold M_Big_eq
  rw [decide_eq_true rfl, decide_eq_true rfl]
  rfl
theorem tally_len (S : MS) : S.tally.length = 10 := by unfold MS.tally; rw [List.length_map]; rfl
theorem tally_loop (l : List (Str × Int)) : lcM (fun (a3 : (Str × Int)) (s2 : Unit) => if (decide ((0 : Int) < a3.2)) = true then some (some (a3.1, a3.2), ()) else some (none, ())) l () = some (posL l, ()) := by
  unfold posL
  refine lcM_filter (p := fun (p : Str × Int) => decide (0 < p.2)) fun x _ => ?_
  by_cases q : 0 < x.2
  · rw [if_pos (decide_eq_true q), if_pos (decide_eq_true q)]
  · rw [if_neg (by simpa using q), if_neg (by simpa using q)]
theorem counted_ok {S : MS} {l : List (Str × Int)} {wl : List (T3 Str Int Int)} (h : Cnt S l) (hl : l.length ≤ 100) (hw : S.wk = wl) (hk : WkOk wl) : M__law_counted S (DF.mk l) wl = some (true, S.reset) := by
  subst hw
  unfold M__law_counted
  refine bnd_of (chkP_eq (size_le (m := 10) (by rw [tally_len]; omega) (by decide))) ?_
  refine bnd_of (tally_loop _) ?_
  refine bnd_of (chkP_eq (posL_nd (tally_keys S))) ?_
  refine bnd_of rfl ?_
  refine bnd_of (chkP_eq (size_le (m := 100) hl (by decide))) ?_
  refine bnd_of (tally_loop _) ?_
  refine bnd_of (chkP_eq (posL_nd h.1)) ?_
  refine bnd_of rfl ?_
  refine bnd_of (chkP_eq (cnt_same h)) ?_
  refine bnd_of (a := true) ?_ (bnd_of (chkP_eq rfl) rfl)
  rw [if_pos rfl]
  refine bnd_of (chkP_eq ⟨wkok_dat hk, wkok_dat hk⟩) ?_
  rw [eqD_iff.mpr rfl]
theorem lcM_cons1 {β γ S : Type} {b : β → S → Option (Option γ × S)} {x : β} {xs : List β} {s s1 s2 : S} {f : γ} {ys : List γ} (e1 : b x s = some (some f, s1)) (e2 : lcM b xs s1 = some (ys, s2)) : lcM b (x :: xs) s = some (f :: ys, s2) := by
  show (b x s).bind _ = _
  rw [e1]
  show (lcM b xs s1).bind _ = _
  rw [e2]
  rfl
theorem sat_lcS {β γ S : Type} {b : β → S → Option (Option γ × S)} (I : S → Prop) (P : γ → Prop) (hb : ∀ x s, I s → Sat (b x s) (fun r => ∃ y, r.1 = some y ∧ P y ∧ I r.2)) : ∀ (xs : List β) (s : S), I s → Sat (lcM b xs s) (fun r => r.1.length = xs.length ∧ (∀ y ∈ r.1, P y) ∧ I r.2) := by
  intro xs
  induction xs with
  | nil => intro s hs; exact ⟨([], s), rfl, rfl, fun y hy => (by cases hy), hs⟩
  | cons x r ih =>
    intro s hs
    obtain ⟨⟨o, s1⟩, e1, y, hy, hp, hs1⟩ := hb x s hs
    have hy : o = some y := hy
    subst hy
    obtain ⟨⟨ys, s2⟩, e2, l2, p2, i2⟩ := ih s1 hs1
    refine ⟨(y :: ys, s2), lcM_cons1 e1 e2, by rw [List.length_cons, List.length_cons, l2], fun z hz => ?_, i2⟩
    rcases List.mem_cons.mp hz with e | e
    · rw [e]; exact hp
    · exact p2 z e
theorem lcM_fm {γ δ : Type} {b : γ → Unit → Option (Option δ × Unit)} {p : γ → Bool} {f : γ → δ} : ∀ {l : List γ}, (∀ x ∈ l, b x () = some (if p x = true then some (f x) else none, ())) → lcM b l () = some ((l.filter p).map f, ())
  | [], _ => rfl
  | x :: r, h => by
    show (b x ()).bind _ = _
    rw [h x List.mem_cons_self, List.filter_cons]
    show (lcM b r ()).bind _ = _
    rw [lcM_fm fun y hy => h y (List.mem_cons_of_mem _ hy)]
    cases p x <;> rfl
theorem atI_m1 {r : List Int} {x : Int} : atI (r ++ [x]) (-1) = some x := by
  have h : ixN (r ++ [x]).length (-1) = some r.length := by
    unfold ixN
    rw [List.length_append]
    show _ = some r.length
    simp
    omega
  show (ixN (r ++ [x]).length (-1)).bind (fun j => (r ++ [x])[j]?) = some x
  rw [h, Option.bind_some, List.getElem?_append_right (Nat.le_refl _), Nat.sub_self]
  rfl
/-- bytes -/
def By (l : List Int) : Prop := ∀ x ∈ l, 0 ≤ x ∧ x < 256
/-- the places, and one, of what is not b -/
def pls (b : Int) (l : List Int) : List Int := ((nums l).filter fun p => !decide (p.2 = b)).map fun p => p.1 + 1
theorem nums_snoc (l : List Int) (d : Int) : nums (l ++ [d]) = nums l ++ [((l.length : Int), d)] := by
  unfold nums
  rw [List.length_append, List.length_singleton]
  have e : rng 0 (l.length + 1) = rng 0 l.length ++ [(0 : Int) + (l.length : Int)] := by
    unfold rng
    rw [List.range_succ, List.map_append]
    rfl
  rw [e, List.zip_append (by rw [rng_len]), Int.zero_add]
  rfl
theorem pls_snoc (b : Int) (l : List Int) (d : Int) : pls b (l ++ [d]) = if d = b then pls b l else pls b l ++ [(l.length : Int) + 1] := by
  unfold pls
  rw [nums_snoc, List.filter_append, List.map_append]
  by_cases h : d = b
  · rw [if_pos h]
    have : List.filter (fun p : Int × Int => !decide (p.2 = b)) [((l.length : Int), d)] = [] := by simp [h]
    rw [this]
    simp
  · rw [if_neg h]
    have : List.filter (fun p : Int × Int => !decide (p.2 = b)) [((l.length : Int), d)] = [((l.length : Int), d)] := by simp [h]
    rw [this]
    rfl
/-- so many bytes are kept: the last place of what is not b -/
def lastP (z : List Int) : Int := z.getLast?.getD 0
theorem lastP_snoc (z : List Int) (x : Int) : lastP (z ++ [x]) = x := by unfold lastP; rw [List.getLast?_concat]; rfl
theorem last_told (z : List Int) : ((chkP (Dat.ok (LF.mk z) ∧ Dat.ok (LF.mk ([] : List Int)))).bind fun z8 => (if (!eqD (LF.mk z) (LF.mk ([] : List Int))) = true then (atI z (-(1 : Int))).bind fun z9 => some z9 else some (0 : Int))) = some (lastP z) := by
  rw [chkP_eq ⟨fun _ _ => trivial, fun _ _ => trivial⟩, Option.bind_some]
  rcases List.eq_nil_or_concat z with e | ⟨m, x, e⟩
  · subst e
    rw [eqD_iff.mpr rfl]
    rfl
  · rw [List.concat_eq_append] at e
    subst e
    have ne : eqD (LF.mk (m ++ [x])) (LF.mk ([] : List Int)) = false := by
      cases q : eqD (LF.mk (m ++ [x])) (LF.mk ([] : List Int)) with
      | false => rfl
      | true => exact absurd (congrArg LF.l (eqD_iff.mp q)) (by simp)
    rw [ne]
    show (atI (m ++ [x]) (-1)).bind (fun z9 => some z9) = _
    rw [atI_m1, lastP_snoc]
    rfl
theorem pow256 (n : Nat) : (256 : Nat) ^ n = 2 ^ (8 * n) := by rw [show (256 : Nat) = 2 ^ 8 from rfl, ← Nat.pow_mul]
theorem sz_top {u n e : Nat} (hu : u < 256 ^ n) (he : e < 256) : sz 8 (u + e * 256 ^ n) = if e = 0 then sz 8 u else n + 1 := by
  by_cases h : e = 0
  · rw [if_pos h, h, Nat.zero_mul, Nat.add_zero]
  · rw [if_neg h]
    have p : 256 ^ (n + 1) = 256 ^ n * 256 := Nat.pow_succ _ _
    have a : (e + 1) * 256 ^ n ≤ 256 * 256 ^ n := Nat.mul_le_mul_right _ (by omega)
    rw [Nat.add_mul, Nat.one_mul] at a
    have b : 1 * 256 ^ n ≤ e * 256 ^ n := Nat.mul_le_mul_right _ (by omega)
    have u1 : sz 8 (u + e * 256 ^ n) ≤ n + 1 := (sz_le (by decide)).mpr (by rw [← pow256]; omega)
    have u2 : ¬ sz 8 (u + e * 256 ^ n) ≤ n := fun q => by
      have := (sz_le (by decide)).mp q
      rw [← pow256] at this
      omega
    omega
/-- the value, and what is left to the greatest one -/
theorem by_val : ∀ (n : Nat) (l : List Int), l.length = n → By l → ∃ u v : Nat, lv 256 l = (u : Int) ∧ u + v + 1 = 256 ^ n ∧ (sz 8 u : Int) = lastP (pls 0 l) ∧ (sz 8 v : Int) = lastP (pls 255 l)
  | 0, l, hl, _ => by
    have e : l = [] := List.length_eq_zero_iff.mp hl
    subst e
    exact ⟨0, 0, rfl, rfl, rfl, rfl⟩
  | n + 1, l, hl, hb => by
    rcases List.eq_nil_or_concat l with e | ⟨m, d, e⟩
    · subst e
      exact absurd hl (by simp)
    · rw [List.concat_eq_append] at e
      subst e
      rw [List.length_append, List.length_singleton] at hl
      have hm : m.length = n := by omega
      obtain ⟨u, v, e1, e2, e3, e4⟩ := by_val n m hm fun x hx => hb x (List.mem_append_left _ hx)
      obtain ⟨d0, d1⟩ := hb d (List.mem_append_right _ List.mem_cons_self)
      obtain ⟨k, hk⟩ := Int.eq_ofNat_of_zero_le d0
      subst hk
      have k1 : k < 256 := by omega
      have p : 256 ^ (n + 1) = 256 ^ n * 256 := Nat.pow_succ _ _
      have s1 := sz_top (u := u) (n := n) (e := k) (by omega) k1
      have s2 := sz_top (u := v) (n := n) (e := 255 - k) (by omega) (by omega)
      refine ⟨u + k * 256 ^ n, v + (255 - k) * 256 ^ n, ?_, ?_, ?_, ?_⟩
      · rw [lv_snoc, e1, hm]
        push_cast
        rfl
      · have : k * 256 ^ n + (255 - k) * 256 ^ n = 255 * 256 ^ n := by rw [← Nat.add_mul]; congr 1; omega
        omega
      · rw [s1, pls_snoc]
        by_cases z : k = 0
        · rw [if_pos z, if_pos (by omega), e3]
        · rw [if_neg z, if_neg (by omega), lastP_snoc, hm]; omega
      · rw [s2, pls_snoc]
        by_cases z : 255 - k = 0
        · rw [if_pos z, if_pos (by omega), e4]
        · rw [if_neg z, if_neg (by omega), lastP_snoc, hm]; omega
def vl (u n : Nat) (ng : Bool) : Int := if ng = true then (u : Int) - ((256 ^ n : Nat) : Int) else (u : Int)
def rdS (S : MS) (n : Nat) (kept : Int) (ng : Bool) : MS :=
  if ng = true then (((S.enter "from bytes" (n : Int) 0).step "looked" (min ((n : Int) - kept + 1) (n : Int))).step "complemented" (min (kept + 1) (n : Int))).step "shifted" (min (kept + 1) (n : Int))
  else ((S.enter "from bytes" (n : Int) 0).step "looked" (min ((n : Int) - kept + 1) (n : Int))).step "shifted" kept
theorem e256 : (2 : Int) ^ 8 = 256 := by decide
theorem c256 (n : Nat) : ((256 ^ n : Nat) : Int) = (256 : Int) ^ n := by rw [Int.natCast_pow]; rfl
theorem top_div {m : List Int} {d : Int} (hb : By (m ++ [d])) : lv 256 (m ++ [d]) / 256 ^ m.length = d := by
  have b := lv_bound (B := 256) (by decide) (r := m) fun x hx => hb x (List.mem_append_left _ hx)
  have pp : (0 : Int) < 256 ^ m.length := Int.pow_pos (by decide)
  rw [lv_snoc, Int.add_mul_ediv_right _ _ (by omega), Int.ediv_eq_zero_of_lt b.1 b.2, Int.zero_add]
theorem btw (a : Int) (h : 0 ≤ a ∧ a < 256) : M_is_between a (0 : Int) (255 : Int) = some true := by
  unfold M_is_between M_is_integer
  have e1 : decide ((0 : Int) ≤ a) = true := decide_eq_true h.1
  have e2 : decide (a ≤ (255 : Int)) = true := decide_eq_true (by omega)
  simp [e1, e2, h.1]
  try omega
theorem fb_ok {W : Nat} {S : MS} (hS : S.w = (W : Int)) (h8 : 8 ≤ W) (h30 : W ≤ 30) {m : List Int} {d : Int} {x1 : List Int} {o : Str} {sg : Bool} {u v : Nat} (ho : o = ("little" : Str) ∧ x1 = m ++ [d] ∨ o = ("big" : Str) ∧ x1 = (m ++ [d]).reverse)
    (hb : By (m ++ [d])) (hn : m.length + 1 ≤ 10000) (hu : lv 256 (m ++ [d]) = (u : Int)) (huv : u + v + 1 = 256 ^ (m.length + 1)) :
    M_from_bytes S x1 o sg = some (bg W (vl u (m.length + 1) (sg && decide (127 < d))), rdS S (m.length + 1) (if (sg && decide (127 < d)) = true then (sz 8 v : Int) else (sz 8 u : Int)) (sg && decide (127 < d))) := by
  have lx : x1.length = m.length + 1 := by rcases ho with ⟨_, e⟩ | ⟨_, e⟩ <;> rw [e] <;> simp
  have bx : ∀ x ∈ x1, 0 ≤ x ∧ x < 256 := fun x hx => by
    rcases ho with ⟨_, e⟩ | ⟨_, e⟩
    · rw [e] at hx; exact hb x hx
    · rw [e] at hx; exact hb x (List.mem_reverse.mp hx)
  have ord : (if (decide (o = ("little" : Str))) = true then x1 else x1.reverse) = m ++ [d] := by
    rcases ho with ⟨e1, e⟩ | ⟨e1, e⟩
    · rw [e1, e, if_pos (decide_eq_true rfl)]
    · rw [e1, e, if_neg (by decide +kernel), List.reverse_reverse]
  have so : M_check_order o = some () := by
    unfold M_check_order
    refine bnd_of (chkP_eq rfl) (bnd_of (chkP_eq ?_) rfl)
    rcases ho with ⟨e1, _⟩ | ⟨e1, _⟩ <;> rw [e1] <;> decide +kernel
  have nl : ((m.length + 1 : Nat) : Int) = (m.length : Int) + 1 := rfl
  have num : M_number_of 20 (8 : Int) (m ++ [d]) = some (u : Int) := by
    have := num_ok (W := 8) (by decide) (by decide) 19 (m ++ [d]) (fun x hx => by rw [e256]; exact hb x hx) (by rw [List.length_append, List.length_singleton]; omega) (by rw [List.length_append, List.length_singleton]; omega)
    rw [e256, hu] at this
    exact this
  have td := top_div hb
  rw [hu] at td
  have pn : (256 : Nat) ^ (m.length + 1) ≤ 2 ^ 80000 := by rw [pow256]; exact Nat.pow_le_pow_right (by decide) (by omega)
  unfold M_from_bytes
  refine bnd_of (show M_check_machine S = some () from bnd_of (a := ()) (chkP_eq rfl) rfl) ?_
  refine bnd_of (chkP_eq rfl) (bnd_of (chkP_eq (decide_eq_false (by omega))) ?_)
  refine bnd_of (chkP_eq (size_le (m := 10000) (by omega) (by decide))) ?_
  refine bnd_of (lcM_mapU (f := fun _ => true) fun x hx => by rw [btw x (bx x hx)]; rfl) ?_
  refine bnd_of (chkP_eq (by rw [List.all_map]; exact List.all_eq_true.mpr fun _ _ => rfl)) ?_
  refine bnd_of so (bnd_of (show M_check_signed sg = some () from bnd_of (a := ()) (chkP_eq rfl) rfl) ?_)
  rw [Option.bind_some, lx, if_neg (by rw [decide_eq_true_iff]; omega), ord]
  refine bnd_of num ?_
  have e8 : ((((m.length + 1 : Nat) : Int) - (1 : Int)) * (8 : Int)).toNat = 8 * m.length := by omega
  have e9 : ((((m.length + 1 : Nat) : Int)) * (8 : Int)).toNat = 8 * (m.length + 1) := by omega
  rw [e8, e9]
  have p8 : ∀ k : Nat, (2 : Int) ^ (8 * k) = 256 ^ k := fun k => by rw [Int.pow_mul, e256]
  rw [p8, p8]
  refine bnd_of (a := (sg && decide (127 < d))) ?_ ?_
  · cases sg
    · rfl
    · rw [if_pos rfl]
      refine bnd_of (chkP_eq (mul_small' (by decide))) (bnd_of (chkP_eq (by omega)) ?_)
      rw [td, Bool.true_and]
      rfl
  · generalize hng : (sg && decide (127 < d)) = ng
    refine bnd_of (a := vl u (m.length + 1) ng) ?_ ?_
    · unfold vl
      cases ng
      · rfl
      · rw [if_pos rfl, if_pos rfl]
        refine bnd_of (chkP_eq (mul_small' (by decide))) (bnd_of (chkP_eq (shl_ok (k := 1) (by decide) (by omega) (by omega))) ?_)
        rw [Int.one_mul, c256]
        rfl
    · have val : vl u (m.length + 1) ng = if ng = true then -((v : Int) + 1) else (u : Int) := by
        unfold vl
        cases ng
        · rfl
        · rw [if_pos rfl, if_pos rfl]
          have : ((256 ^ (m.length + 1) : Nat) : Int) = (u : Int) + v + 1 := by rw [← huv]; push_cast; rfl
          omega
      have cr : M_count_reading (S.enter ("from bytes" : Str) ((m.length + 1 : Nat) : Int) (0 : Int)) (vl u (m.length + 1) ng) ((m.length + 1 : Nat) : Int) = some ((), rdS S (m.length + 1) (if ng = true then (sz 8 v : Int) else (sz 8 u : Int)) ng) := by
        unfold M_count_reading M_magnitude_of rdS
        rw [val]
        cases ng
        · simp only [Bool.false_eq_true, if_false]
          rw [if_neg (by rw [decide_eq_true_iff]; omega), Option.bind_some]
          refine bnd_of (size_ok (W := 8) (by decide) (by decide) _) ?_
          refine bnd_of (chkP_eq (by decide +kernel)) ?_
          rw [if_neg (by rw [decide_eq_true_iff]; omega), Option.bind_some, Int.natAbs_natCast]
          exact bnd_of (chkP_eq (by decide +kernel)) rfl
        · simp only [if_true]
          rw [if_pos (decide_eq_true (by omega)), Option.bind_some]
          refine bnd_of (size_ok (W := 8) (by decide) (by decide) _) ?_
          refine bnd_of (chkP_eq (by decide +kernel)) ?_
          rw [if_pos (decide_eq_true (by omega)), show (-(-((v : Int) + 1)) - 1).natAbs = v from by omega, Option.bind_some]
          exact bnd_of (bnd_of (chkP_eq (by decide +kernel)) rfl) (bnd_of (chkP_eq (by decide +kernel)) rfl)
      refine bnd_of cr ?_
      have hw : (rdS S (m.length + 1) (if ng = true then (sz 8 v : Int) else (sz 8 u : Int)) ng).w = (W : Int) := by
        unfold rdS
        split <;> exact hS
      refine bnd_of (bigof_ok hw h8 h30 ((sz_le (by omega)).mpr ?_)) rfl
      have : (vl u (m.length + 1) ng).natAbs ≤ 256 ^ (m.length + 1) := by rw [val]; split <;> omega
      refine Nat.lt_of_le_of_lt (Nat.le_trans this pn) (Nat.pow_lt_pow_right (by decide) (by omega))
theorem whole_ok {m : List Int} {d : Int} {sg : Bool} {u : Nat} (hn : m.length + 1 ≤ 10000) (hu : lv 256 (m ++ [d]) = (u : Int)) : M__law_whole (m ++ [d]) sg = some (vl u (m.length + 1) (sg && decide (127 < d))) := by
  unfold M__law_whole
  have lp : forM' (ρ := Unit) (fun (a2 : Int) (s1 : Int) => (chkP (IntMulOk (256 : Int) s1)).bind fun z3 => (some (((256 : Int) * s1) + a2)).bind fun y4 => some (Stp.nx y4)) ((m ++ [d]).reverse) (0 : Int) = some (.nx (u : Int)) := by
    rw [forM_fold (fun (s a : Int) => 256 * s + a) (fun _ => True) (fun x _ s _ => ⟨by rw [chkP_eq (mul_small (by decide))]; rfl, trivial⟩) trivial, List.foldl_reverse]
    congr 2
    rw [← hu, ← lv_foldr]
    congr 1
    funext x y
    omega
  refine bnd_of lp ?_
  refine bnd_of (a := (u : Int)) rfl ?_
  refine bnd_of (a := (sg && decide (127 < d))) ?_ ?_
  · cases sg
    · rfl
    · rw [if_pos rfl]
      have ne : eqD (LF.mk (m ++ [d])) (LF.mk ([] : List Int)) = false := by
        cases q : eqD (LF.mk (m ++ [d])) (LF.mk ([] : List Int)) with
        | false => rfl
        | true => exact absurd (congrArg LF.l (eqD_iff.mp q)) (by simp)
      rw [chkP_eq ⟨fun _ _ => trivial, fun _ _ => trivial⟩, Option.bind_some, ne]
      show ((atI (m ++ [d]) (-1)).bind fun z8 => some (decide ((127 : Int) < z8))).bind (fun z9 => some z9) = _
      rw [atI_m1]
      rfl
  · unfold vl
    generalize (sg && decide (127 < d)) = ng
    cases ng
    · rfl
    · rw [if_pos rfl, if_pos rfl, List.length_append, List.length_singleton]
      have pw := power_ok (B := 256) (i := ((m.length + 1 : Nat) : Int)) (by decide) (by decide) (by omega) (by omega)
      rw [Int.toNat_natCast, ← c256] at pw
      exact bnd_of (bnd_of pw rfl) rfl
/-- what the law counts by hand -/
def due (n : Nat) (k : Int) (ng : Bool) : List (Str × Int) :=
  [(("looked" : Str), ((n : Int) - k) + (if (decide ((0 : Int) < k)) = true then (1 : Int) else 0)), (("shifted" : Str), min (n : Int) (k + (if ng = true then (1 : Int) else 0))), (("complemented" : Str), (min (n : Int) (k + (if ng = true then (1 : Int) else 0))) * (if ng = true then (1 : Int) else 0))]
theorem nd3 : [("looked" : Str), ("shifted" : Str), ("complemented" : Str)].Nodup := by decide +kernel
theorem mw3 : ("looked" : Str) ∈ mwords ∧ ("shifted" : Str) ∈ mwords ∧ ("complemented" : Str) ∈ mwords := by decide +kernel
theorem ni1 : ("shifted" : Str) ∉ [("looked" : Str)] ∧ ("complemented" : Str) ∉ [("looked" : Str)] ∧ ("shifted" : Str) ∉ [("looked" : Str), ("complemented" : Str)] := by decide +kernel
theorem steps_ok {l : List Int} {ng : Bool} (hl : l ≠ []) (hn : l.length ≤ 10000) : M__law_steps l ng = some (DF.mk (due l.length (lastP (pls (if ng = true then 255 else 0) l)) ng), LF.mk [T3.mk ("from bytes" : Str) (l.length : Int) (0 : Int)]) := by
  have ne : eqD (LF.mk l) (LF.mk ([] : List Int)) = false := by
    cases q : eqD (LF.mk l) (LF.mk ([] : List Int)) with
    | false => rfl
    | true => exact absurd (congrArg LF.l (eqD_iff.mp q)) hl
  unfold M__law_steps
  refine bnd_of (chkP_eq ⟨fun _ _ => trivial, fun _ _ => trivial⟩) ?_
  rw [ne, if_neg (by decide)]
  refine bnd_of (chkP_eq (size_le (m := 10000) (by rw [nums_len]; exact hn) (by decide))) ?_
  have e255 : (255 : Int) * (if ng = true then (1 : Int) else 0) = (if ng = true then 255 else 0) := by cases ng <;> rfl
  have lp : lcM (fun (a4 : (Int × Int)) (s3 : Unit) => (chkP (IntMulOk (255 : Int) (if ng = true then (1 : Int) else 0))).bind fun z5 => if (!decide (a4.2 = ((255 : Int) * (if ng = true then (1 : Int) else 0)))) = true then some (some (a4.1 + (1 : Int)), ()) else some (none, ())) (nums l) () = some (pls (if ng = true then 255 else 0) l, ()) := by
    unfold pls
    refine lcM_fm (p := fun (p : Int × Int) => !decide (p.2 = (if ng = true then 255 else 0))) (f := fun (p : Int × Int) => p.1 + 1) fun x _ => ?_
    rw [chkP_eq (mul_small (by decide)), Option.bind_some, e255]
    by_cases q : (!decide (x.2 = (if ng = true then 255 else 0))) = true
    · rw [if_pos q, if_pos q]
    · rw [if_neg q, if_neg q]
  refine bnd_of lp ?_
  have lt := last_told (pls (if ng = true then 255 else 0) l)
  generalize hk : lastP (pls (if ng = true then 255 else 0) l) = k at lt ⊢
  dsimp only
  rw [chkP_eq ⟨fun _ _ => trivial, fun _ _ => trivial⟩, Option.bind_some] at lt ⊢
  refine bnd_of lt ?_
  rw [Option.bind_some, Option.bind_some]
  refine bnd_of (chkP_eq (mul_small' (by cases ng <;> decide))) ?_
  refine bnd_of (chkP_eq nd3) ?_
  rfl
theorem rd_counts {W c : Int} {n : Nat} {k : Int} {ng : Bool} (k0 : 0 ≤ k) (kn : k ≤ n) (n1 : 1 ≤ n) : Cnt (rdS (MS.fresh W c) n k ng) (due n k ng) ∧ (rdS (MS.fresh W c) n k ng).wk = [T3.mk ("from bytes" : Str) (n : Int) (0 : Int)] := by
  have e1 : ((n : Int) - k) + (if (decide ((0 : Int) < k)) = true then (1 : Int) else 0) = min ((n : Int) - k + 1) (n : Int) := by
    by_cases z : 0 < k
    · rw [if_pos (decide_eq_true z)]; omega
    · rw [if_neg (by rw [decide_eq_true_iff]; exact z)]; omega
  unfold due rdS
  rw [e1]
  generalize min ((n : Int) - k + 1) (n : Int) = a
  cases ng
  · refine ⟨?_, rfl⟩
    have h1 : Cnt (((MS.fresh W c).enter "from bytes" (n : Int) 0).step "looked" a) [(("looked" : Str), a)] := cnt_add (l := []) (cnt_enter (cnt_fresh W c)) (by decide +kernel) rfl (by simp)
    have h2 := cnt_add (n := k) (w := "shifted") h1 mw3.2.1 rfl ni1.1
    refine cnt_same_as h2 rfl nd3 (fun x hx => ?_) fun w hw => ?_
    · simp only [List.mem_cons, List.not_mem_nil, or_false] at hx
      rcases hx with h | h | h <;> rw [h]
      · exact mw3.1
      · exact mw3.2.1
      · exact mw3.2.2
    · have em : min (n : Int) (k + (if false = true then (1 : Int) else 0)) = k := by simp; omega
      rw [em]
      simp only [Bool.false_eq_true, if_false, Int.mul_zero, List.lookup_cons, List.cons_append, List.nil_append, List.lookup_nil]
      constructor
      · intro x hx hp
        cases q1 : (w == ("looked" : Str))
        · cases q2 : (w == ("shifted" : Str))
          · cases q3 : (w == ("complemented" : Str))
            · rw [q1, q2, q3] at hx; cases hx
            · rw [q1, q2, q3] at hx; cases hx; exact absurd hp (by decide)
          · rw [q1, q2] at hx; exact hx
        · rw [q1] at hx; exact hx
      · intro x hx hp
        cases q1 : (w == ("looked" : Str))
        · cases q2 : (w == ("shifted" : Str))
          · rw [q1, q2] at hx; cases hx
          · rw [q1, q2] at hx; exact hx
        · rw [q1] at hx; exact hx
  · refine ⟨?_, rfl⟩
    have em : min (n : Int) (k + (if true = true then (1 : Int) else 0)) = min (k + 1) (n : Int) := by rw [if_pos rfl]; omega
    rw [em, if_pos rfl, if_pos rfl, Int.mul_one]
    generalize min (k + 1) (n : Int) = b
    have h1 : Cnt (((MS.fresh W c).enter "from bytes" (n : Int) 0).step "looked" a) [(("looked" : Str), a)] := cnt_add (l := []) (cnt_enter (cnt_fresh W c)) (by decide +kernel) rfl (by simp)
    have h2 := cnt_add (n := b) (w := "complemented") h1 mw3.2.2 rfl ni1.2.1
    have h3 := cnt_add (n := b) (w := "shifted") h2 mw3.2.1 rfl ni1.2.2
    refine cnt_same_as h3 rfl nd3 (fun x hx => ?_) fun w hw => ?_
    · simp only [List.mem_cons, List.not_mem_nil, or_false] at hx
      rcases hx with h | h | h <;> rw [h]
      · exact mw3.1
      · exact mw3.2.1
      · exact mw3.2.2
    · have sw : List.lookup w [(("looked" : Str), a), (("shifted" : Str), b), (("complemented" : Str), b)] = List.lookup w ([(("looked" : Str), a)] ++ [(("complemented" : Str), b)] ++ [(("shifted" : Str), b)]) := by
        simp only [List.lookup_cons, List.cons_append, List.nil_append, List.lookup_nil]
        cases q1 : (w == ("looked" : Str)) <;> cases q2 : (w == ("shifted" : Str)) <;> cases q3 : (w == ("complemented" : Str)) <;> rfl
      rw [sw]
      exact ⟨fun _ h _ => h, fun _ h _ => h⟩
theorem ng_vl {u v n : Nat} (huv : u + v + 1 = 256 ^ n) (ng : Bool) : decide (vl u n ng < (0 : Int)) = ng := by
  unfold vl
  cases ng
  · rw [if_neg (by decide)]; exact decide_eq_false (by omega)
  · rw [if_pos rfl, ← huv]
    exact decide_eq_true (by push_cast; omega)
theorem vl_sz {W u v n : Nat} (h8 : 8 ≤ W) (hn : n ≤ 10000) (huv : u + v + 1 = 256 ^ n) (ng : Bool) : sz W (vl u n ng).natAbs ≤ 4194304 := by
  have pn : (256 : Nat) ^ n ≤ 2 ^ 80000 := by rw [pow256]; exact Nat.pow_le_pow_right (by decide) (by omega)
  have : (vl u n ng).natAbs ≤ 256 ^ n := by
    unfold vl
    rw [← huv]
    cases ng
    · rw [if_neg (by decide)]; omega
    · rw [if_pos rfl]; push_cast; omega
  exact (sz_le (by omega)).mpr (Nat.lt_of_le_of_lt (Nat.le_trans this pn) (Nat.pow_lt_pow_right (by decide) (by omega)))
theorem wk1 {n : Int} : WkOk [T3.mk ("from bytes" : Str) n (0 : Int)] := wkok_one
theorem lawr_ok {W : Nat} {c : Int} {l : List Int} {sg : Bool} (h8 : 8 ≤ W) (h30 : W ≤ 30) (hb : By l) (hl : l.length ≤ 10000) : M__law_right (MS.fresh (W : Int) c) l sg = some (true, MS.fresh (W : Int) c) := by
  obtain ⟨F, hF⟩ : ∃ F, F = MS.fresh (W : Int) c := ⟨_, rfl⟩
  have Fw : F.w = (W : Int) := by rw [hF]; rfl
  rcases List.eq_nil_or_concat l with e | ⟨m, d, e⟩
  · subst e
    have bz : M_big_of F (0 : Int) = some (bg W 0) := bigof_ok Fw h8 h30 (by rw [show sz W (0 : Int).natAbs = 0 from Nat.le_zero.mp ((sz_le (by omega)).mpr (by rw [Nat.mul_zero]; decide))]; decide)
    have bb : M_big F (0 : Int) = some (bg W 0) := big_ok Fw h8 h30 (by rw [show sz W (0 : Int).natAbs = 0 from Nat.le_zero.mp ((sz_le (by omega)).mpr (by rw [Nat.mul_zero]; decide))]; decide)
    have fb : ∀ (o : Str) (s2 : Bool), M_check_order o = some () → M_from_bytes F [] o s2 = some (bg W 0, F) := fun o s2 ho => by
      unfold M_from_bytes
      refine bnd_of (show M_check_machine F = some () from bnd_of (a := ()) (chkP_eq rfl) rfl) ?_
      refine bnd_of (chkP_eq rfl) (bnd_of (chkP_eq (by decide)) (bnd_of (chkP_eq (Nat.zero_le _)) ?_))
      refine bnd_of (a := ([], ())) rfl (bnd_of (chkP_eq rfl) ?_)
      refine bnd_of ho (bnd_of (show M_check_signed s2 = some () from bnd_of (a := ()) (chkP_eq rfl) rfl) ?_)
      rw [Option.bind_some, if_pos (show decide ((([] : List Int).length : Int) = (0 : Int)) = true from rfl)]
      exact bnd_of bz rfl
    have o1 : M_check_order ("little" : Str) = some () := by unfold M_check_order; exact bnd_of (chkP_eq rfl) (bnd_of (chkP_eq (by decide +kernel)) rfl)
    have o2 : M_check_order ("big" : Str) = some () := by unfold M_check_order; exact bnd_of (chkP_eq rfl) (bnd_of (chkP_eq (by decide +kernel)) rfl)
    have wh : M__law_whole [] sg = some 0 := by
      unfold M__law_whole
      refine bnd_of (a := .nx (0 : Int)) rfl (bnd_of (a := (0 : Int)) rfl ?_)
      refine bnd_of (a := false) ?_ rfl
      cases sg
      · rfl
      · rw [if_pos rfl, chkP_eq ⟨fun _ _ => trivial, fun _ _ => trivial⟩, Option.bind_some, eqD_iff.mpr rfl]
        rfl
    have st : M__law_steps [] (decide ((0 : Int) < 0)) = some (DF.mk [], LF.mk []) := by
      unfold M__law_steps
      refine bnd_of (chkP_eq ⟨fun _ _ => trivial, fun _ _ => trivial⟩) ?_
      rw [eqD_iff.mpr rfl, if_pos rfl]
    have ct : M__law_counted F (DF.mk []) [] = some (true, F) := by
      have := counted_ok (S := F) (l := []) (wl := []) (by rw [hF]; exact cnt_fresh _ _) (by decide) (by rw [hF]; rfl) wkok_nil
      rw [this, hF]
      rfl
    rw [← hF]
    unfold M__law_right
    refine bnd_of wh (bnd_of bb (bnd_of st (bnd_of (fb _ _ o1) ?_)))
    refine bnd_of (eq_self W 0) (bnd_of (chkP_eq rfl) (bnd_of ct (bnd_of (chkP_eq rfl) ?_)))
    refine bnd_of (chkP_eq ⟨rfl, fun _ _ => trivial⟩) ?_
    refine bnd_of (fb _ _ o2) (bnd_of (eq_self W 0) (bnd_of (chkP_eq rfl) (bnd_of ct (bnd_of (chkP_eq rfl) ?_))))
    cases sg
    · rw [if_neg (by decide)]
      exact bnd_of (fb _ _ o2) (bnd_of (eq_self W 0) (bnd_of (chkP_eq rfl) (bnd_of ct (bnd_of (chkP_eq rfl) rfl))))
    · rfl
  · rw [List.concat_eq_append] at e
    subst e
    have hm : m.length + 1 ≤ 10000 := by rw [List.length_append, List.length_singleton] at hl; exact hl
    obtain ⟨u, v, e1, huv, e3, e4⟩ := by_val (m.length + 1) (m ++ [d]) (by simp) hb
    generalize hng : (sg && decide (127 < d)) = ng
    have wh := whole_ok (sg := sg) hm e1
    have F1 := fb_ok (sg := sg) Fw h8 h30 (.inl ⟨rfl, rfl⟩) hb hm e1 huv
    have F2 := fb_ok (sg := sg) Fw h8 h30 (.inr ⟨rfl, rfl⟩) hb hm e1 huv
    rw [hng] at wh F1 F2
    have bb : M_big F (vl u (m.length + 1) ng) = some (bg W (vl u (m.length + 1) ng)) := big_ok Fw h8 h30 (vl_sz h8 hm huv ng)
    have st := steps_ok (l := m ++ [d]) (ng := ng) (by simp) hl
    have len : (m ++ [d]).length = m.length + 1 := by simp
    have kk : lastP (pls (if ng = true then 255 else 0) (m ++ [d])) = (if ng = true then (sz 8 v : Int) else (sz 8 u : Int)) := by
      cases ng
      · exact e3.symm
      · exact e4.symm
    rw [kk, len] at st
    have szl : ∀ z : Nat, z < 256 ^ (m.length + 1) → sz 8 z ≤ m.length + 1 := fun z hz => (sz_le (by decide)).mpr (by rw [← pow256]; exact hz)
    have kb : 0 ≤ (if ng = true then (sz 8 v : Int) else (sz 8 u : Int)) ∧ (if ng = true then (sz 8 v : Int) else (sz 8 u : Int)) ≤ ((m.length + 1 : Nat) : Int) := by
      have a1 := szl u (by omega)
      have a2 := szl v (by omega)
      cases ng
      · rw [if_neg (by decide)]; omega
      · rw [if_pos rfl]; omega
    obtain ⟨C1, C2⟩ := rd_counts (W := (W : Int)) (c := c) (ng := ng) kb.1 kb.2 (by omega)
    rw [← hF] at C1 C2
    have ct : M__law_counted (rdS F (m.length + 1) (if ng = true then (sz 8 v : Int) else (sz 8 u : Int)) ng) (DF.mk (due (m.length + 1) (if ng = true then (sz 8 v : Int) else (sz 8 u : Int)) ng)) [T3.mk ("from bytes" : Str) ((m.length + 1 : Nat) : Int) (0 : Int)] = some (true, F) := by
      rw [counted_ok C1 (by show 3 ≤ 100; decide) C2 wk1]
      have : (rdS F (m.length + 1) (if ng = true then (sz 8 v : Int) else (sz 8 u : Int)) ng).reset = F := by
        unfold rdS
        rw [hF]
        split <;> rfl
      rw [this]
    rw [← hF]
    unfold M__law_right
    refine bnd_of wh (bnd_of bb ?_)
    rw [ng_vl huv]
    refine bnd_of st (bnd_of F1 ?_)
    refine bnd_of (eq_self W _) (bnd_of (chkP_eq rfl) (bnd_of ct (bnd_of (chkP_eq rfl) ?_)))
    refine bnd_of (chkP_eq ⟨rfl, fun _ _ => trivial⟩) ?_
    refine bnd_of F2 (bnd_of (eq_self W _) (bnd_of (chkP_eq rfl) (bnd_of ct (bnd_of (chkP_eq rfl) ?_))))
    cases hs : sg
    · rw [if_neg (by decide)]
      rw [hs] at F2
      exact bnd_of F2 (bnd_of (eq_self W _) (bnd_of (chkP_eq rfl) (bnd_of ct (bnd_of (chkP_eq rfl) rfl))))
    · rfl
theorem by_app {a b : List Int} (h : By a) (h2 : By b) : By (a ++ b) := fun x hx => (List.mem_append.mp hx).elim (h x) (h2 x)
theorem by_rep {d : Int} (h : 0 ≤ d ∧ d < 256) (k : Nat) : By (List.replicate k [d]).flatten := fun x hx => by
  obtain ⟨l, hl, hx⟩ := List.mem_flatten.mp hx
  rw [(List.mem_replicate.mp hl).2] at hx
  rw [List.mem_singleton.mp hx]
  exact h
theorem len_rep (d : Int) (k : Nat) : (List.replicate k [d]).flatten.length = k := by
  rw [List.length_flatten, List.map_replicate]
  simp
theorem bytes_s {s : List Int} (hs : Src s) : Sat (M__law_bytes s) (fun r => Src r.2 ∧ By r.1 ∧ r.1.length ≤ 40) := by
  unfold M__law_bytes
  refine sat_bind (next_s hs (by decide) (by decide)) fun r1 ⟨g1, a1, b1⟩ => ?_
  refine sat_bind (one_s g1 (List.cons_ne_nil _ _) (by show 3 < 100; decide)) fun r2 ⟨g2, m2⟩ => ?_
  simp only [List.mem_cons, List.not_mem_nil, or_false] at m2
  refine sat_chk ⟨by omega, Nat.le_trans (show 1 * (r2.1).toNat ≤ 10 by omega) (by decide)⟩ (sat_let ?_)
  refine sat_bind (one_s g2 (List.cons_ne_nil _ _) (by show 2 < 100; decide)) fun r7 ⟨g7, m7⟩ => ?_
  simp only [List.mem_cons, List.not_mem_nil, or_false] at m7
  refine sat_bind (next_s g7 (by omega) (by omega)) fun r8 ⟨g8, a8, b8⟩ => ?_
  refine sat_chk (by omega) ?_
  obtain ⟨k, hk⟩ : ∃ k, k = (r2.1).toNat := ⟨_, rfl⟩
  rw [← hk]
  have k6 : k ≤ 6 := by omega
  refine sat_for (fun i st => Src st.1 ∧ By st.2 ∧ st.2.length = k + i) (fun i x st hi hst => ?_) ⟨g8, by_rep (by decide) k, by rw [len_rep]; rfl⟩ fun st hst => ?_
  · obtain ⟨q1, q2, q3⟩ := hst
    have hi2 := (rng_get hi).1
    refine sat_bind (next_s q1 (by decide) (by decide)) fun t1 ⟨v1, u1, w1⟩ => ?_
    refine sat_bind (one_s v1 (List.cons_ne_nil _ _) (by show 6 < 100; decide)) fun t2 ⟨v2, m⟩ => ?_
    simp only [List.mem_cons, List.not_mem_nil, or_false] at m
    refine sat_chk (Nat.lt_of_le_of_lt (show st.2.length ≤ 100 by omega) (by decide)) ?_
    exact sat_end ⟨v2, by_app q2 fun y hy => by rw [List.mem_singleton.mp hy]; omega, by rw [List.length_append, q3]; rfl⟩
  · obtain ⟨q1, q2, q3⟩ := hst
    rw [rng_len] at q3
    refine sat_nx ?_
    refine sat_bind (one_s q1 (List.cons_ne_nil _ _) (by show 3 < 100; decide)) fun t1 ⟨v1, m1⟩ => ?_
    simp only [List.mem_cons, List.not_mem_nil, or_false] at m1
    refine sat_bind (next_s v1 (by decide) (by decide)) fun t2 ⟨v2, u2, w2⟩ => ?_
    refine sat_bind (one_s v2 (List.cons_ne_nil _ _) (by show 3 < 100; decide)) fun t3 ⟨v3, m3⟩ => ?_
    simp only [List.mem_cons, List.not_mem_nil, or_false] at m3
    refine sat_chk ⟨by omega, Nat.le_trans (show 1 * (t3.1).toNat ≤ 10 by omega) (by decide)⟩ ?_
    have l1 := len_rep t1.1 (t3.1).toNat
    refine sat_chk (Nat.le_trans (show st.2.length + (List.replicate (t3.1).toNat [t1.1]).flatten.length ≤ 100 by omega) (by decide)) ?_
    exact sat_some ⟨v3, by_app q2 (by_rep (by omega) _), by rw [List.length_append, l1]; omega⟩
theorem many_s {s : List Int} (hs : Src s) : Sat (M__law_many s) (fun r => Src r.2 ∧ By r.1 ∧ r.1.length ≤ 2000) := by
  unfold M__law_many
  refine sat_bind (next_s hs (by decide) (by decide)) fun r1 ⟨g1, a1, b1⟩ => ?_
  refine sat_bind (one_s g1 (List.cons_ne_nil _ _) (by show 4 < 100; decide)) fun r2 ⟨g2, m2⟩ => ?_
  simp only [List.mem_cons, List.not_mem_nil, or_false] at m2
  refine sat_bind (next_s g2 (by decide) (by decide)) fun r3 ⟨g3, a3, b3⟩ => ?_
  refine sat_chk ⟨by omega, Nat.le_trans (show 1 * ((100 : Int) + r3.1).toNat ≤ 2000 by omega) (by decide)⟩ (sat_let ?_)
  have l1 := len_rep r2.1 ((100 : Int) + r3.1).toNat
  refine sat_bind (bytes_s g3) fun r6 ⟨g6, p6, l6⟩ => ?_
  refine sat_chk (Nat.le_trans (show r6.1.length + (List.replicate ((100 : Int) + r3.1).toNat [r2.1]).flatten.length ≤ 2000 by omega) (by decide)) ?_
  refine sat_bind (bytes_s g6) fun r8 ⟨g8, p8, l8⟩ => ?_
  refine sat_chk (Nat.le_trans (show (r6.1 ++ (List.replicate ((100 : Int) + r3.1).toNat [r2.1]).flatten).length + r8.1.length ≤ 2000 by rw [List.length_append]; omega) (by decide)) ?_
  exact sat_some ⟨g8, by_app (by_app p6 (by_rep (by omega) _)) p8, by rw [List.length_append, List.length_append]; omega⟩
theorem machb_s {s : List Int} (hs : Src s) : Sat (M__law_machine s) (fun r => ∃ (W : Nat) (c : Int), r.1 = MS.fresh (W : Int) c ∧ 8 ≤ W ∧ W ≤ 30 ∧ Src r.2) := by
  unfold M__law_machine
  refine sat_bind (next_s hs (by decide) (by decide)) fun r1 ⟨g1, a1, b1⟩ => sat_let ?_
  refine sat_bind (next_s g1 (by decide) (by decide)) fun r3 ⟨g3, a3, b3⟩ => ?_
  refine sat_bind (next_s g3 (by decide) (by decide)) fun r4 ⟨g4, a4, b4⟩ => ?_
  refine sat_bind (one_s g4 (List.cons_ne_nil _ _) (by show 3 < 100; decide)) fun r5 ⟨g5, m5⟩ => ?_
  refine sat_bind (one_s g5 (List.cons_ne_nil _ _) (by show 7 < 100; decide)) fun r6 ⟨g6, m6⟩ => ?_
  simp only [List.mem_cons, List.not_mem_nil, or_false] at m5 m6
  obtain ⟨W, e⟩ := Int.eq_ofNat_of_zero_le (a := r6.1) (by omega)
  refine sat_chk (by omega) ?_
  exact sat_some ⟨W, r5.1, by dsimp only; rw [e], by omega, by omega, g6⟩
theorem law_right (ns : List Int) (h : ns.length ≤ 63) : M_law ns = some true := by
  refine sat_get ?_
  unfold M_law
  obtain ⟨z1, e1⟩ := cell_ok ns 0 h
  refine sat_eq e1 ?_
  have hc := cut_len ns (some (1 : Int)) (some 5)
  refine sat_chk (size_le (m := 64) (by show 1 + _ ≤ 64; omega) (by decide)) ?_
  refine sat_forA (fun _ => True) (fun x _ st _ => ?_) trivial fun s _ => sat_nx (sat_some rfl)
  refine sat_bind (src_s x) fun s0 g0 => ?_
  refine sat_bind (machb_s g0) fun r1 ⟨W, c, em, a1, b1, g1⟩ => ?_
  refine sat_chk (by decide) (sat_chk (by decide) (sat_chk (by decide) (sat_chk (by decide) (sat_let ?_))))
  refine sat_bind (many_s g1) fun r16 ⟨g16, p16, l16⟩ => ?_
  refine sat_chk (by show 12 ≤ sizeLine; decide) (sat_chk (by decide) (sat_chk (by decide) ?_))
  refine sat_bind (sat_lcS (γ := LF Int) Src (fun z => By z.l ∧ z.l.length ≤ 40) (fun i s hs => sat_bind (bytes_s hs) fun r ⟨g, p, q⟩ => sat_some ⟨_, rfl, ⟨p, q⟩, g⟩) _ _ g16) fun r23 ⟨l23, p23, g23⟩ => ?_
  refine sat_chk (by rw [l23]; show 36 ≤ sizeLine; decide) ?_
  rw [em]
  have small : ∀ l : List Int, (l.all fun x => decide (0 ≤ x) && decide (x < 256)) = true → By l := fun l hl x hx => by
    have := List.all_eq_true.mp hl x hx
    rw [Bool.and_eq_true, decide_eq_true_iff, decide_eq_true_iff] at this
    exact this
  refine sat_forA (fun s => s = MS.fresh (W : Int) c) (fun z hz s hs => ?_) rfl fun s _ => sat_nx (sat_end trivial)
  have hz2 : By z.l ∧ z.l.length ≤ 10000 := by
    rcases List.mem_append.mp hz with q | q
    · rcases List.mem_append.mp q with q | q
      · simp only [List.mem_cons, List.not_mem_nil, or_false] at q
        rcases q with q | q | q | q | q | q | q | q | q | q | q <;> rw [q] <;> exact ⟨small _ (by decide), by decide⟩
      · rw [List.mem_singleton.mp q]
        exact ⟨p16, by show r16.1.length ≤ _; omega⟩
    · obtain ⟨p, q⟩ := p23 z q
      exact ⟨p, by omega⟩
  rw [hs]
  refine sat_eq (lawr_ok a1 b1 hz2.1 hz2.2) ?_
  refine sat_chk rfl ?_
  refine sat_eq (lawr_ok a1 b1 hz2.1 hz2.2) ?_
  refine sat_chk rfl ?_
  exact sat_end rfl
end P

set_option Elab.async false
set_option linter.all false
set_option maxRecDepth 100000
set_option maxHeartbeats 0
namespace P
open PySem L2 VL

theorem Fun.ofD {K : PySem.W.Frag} {x qual : Str} {st : Stmt} {f : Addr} {fd : FuncData} (F : FunD K x qual (defArgs st) (defBody st) (defScope st) [] [] f fd) : Fun K x qual st f fd := by
  obtain ⟨oc, od, dV, kV, doc, pm, an, cdv, ct, osl, rfl, lk, hcd, hD, hK⟩ := F.ex
  rcases hD with ⟨_, rfl⟩ | ⟨e, _⟩
  · exact ⟨⟨oc, od, kV, doc, pm, an, cdv, ct, osl, rfl, lk, hcd⟩, F.kp⟩
  · exact absurd rfl e
theorem iclsB_ok {K : PySem.W.Frag} {C : Addr} (cl : Cls K C) (h : iclsB K C = true) : ICls K C := by
  obtain ⟨h1, h⟩ := He.ba h
  obtain ⟨h2, h⟩ := He.ba h
  obtain ⟨h3, h⟩ := He.ba h
  obtain ⟨h4, h5⟩ := He.ba h
  exact ⟨cl, He.eqO_ok h1, He.eqO_ok h2, of_decide_eq_true h3, of_decide_eq_true h4, of_decide_eq_true h5⟩
theorem hu_of {l : List (Addr × Str)} (nd : (l.map (·.1)).Nodup) {A : Addr} {q : Str} (hm : (A, q) ∈ l) : ∀ p ∈ l, p.1 = A → p.2 = q := by
  induction l with
  | nil => cases hm
  | cons a r ih =>
    obtain ⟨h1, h2⟩ := List.nodup_cons.mp (show (a.1 :: r.map (·.1)).Nodup from nd)
    intro p hp e
    rcases List.mem_cons.mp hm with m | m
    · rcases List.mem_cons.mp hp with z | z
      · rw [z, ← m]
      · exact absurd (List.mem_map.mpr ⟨p, z, by rw [e, ← m]⟩) h1
    · rcases List.mem_cons.mp hp with z | z
      · exact absurd (List.mem_map.mpr ⟨_, m, by rw [← e, z]⟩) h1
      · exact ih h2 m p z e
theorem gInt {K : PySem.W.Frag} {h : Heap} {mg : Str → Option Value} {x : Str} {i : Int} (X : K.In h) (G : h.Ns mainGlobals mg) (c : (He.Fa.int x i).ok K = true) : ∃ u, mg x = some u ∧ RelV (.int i) u := by
  obtain ⟨t, e⟩ := He.int_ok X G c
  exact ⟨_, e, t, rfl⟩
theorem gRef {K : PySem.W.Frag} {h : Heap} {mg : Str → Option Value} {x : Str} (X : K.In h) (G : h.Ns mainGlobals mg) (c : (He.Fa.glo x).ok K = true) : ∃ u, mg x = some u ∧ RelV (.ref (He.ga K x)) u := ⟨_, He.glo_ok X G c, rfl⟩
theorem facts {P : Program} {w : World} {K : PySem.W.Frag} {h : Heap} {mg : Str → Option Value} {f : Addr} (X : K.In h) (G : h.Ns mainGlobals mg) (hfa : mg ("law" : Str) = some (.ref f)) (c : He.SaysX fa fn [] [] exB w h K) :
    ∃ (T : TC) (fd : FuncData), T.K = K ∧ (∀ (s : Shared) (v : Value), BindsTo s fd ⟨[v], []⟩ [("_law_script", v)]) ∧ ∀ base : Heap, K.In base → base.Ns mainGlobals mg → FnOk P w K mg base CX0 25 f fd ["_law_script"] (mkSp (Pre_law T)) := by
  have cd : He.SaysD fa fn K := c.t.d
  obtain ⟨ex1, exr⟩ := He.ba c.more
  obtain ⟨ex2, exs⟩ := He.ba exr
  obtain ⟨ex3, ex4⟩ := He.ba exs
  let T : TC := ⟨K, fun i => match i with | 0 => He.ga K "Machine" | 1 => He.ga K "Big" | _ => He.ga K "Big"⟩
  refine ⟨T, ?_⟩
  obtain ⟨fd_law, G_law⟩ := cd.def_ 28 (d := d_law) rfl
  cases hfa.symm.trans (He.glo_ok X G (cd.fact 72 (f := .glo "law") rfl))
  refine ⟨fd_law, rfl, fun s v => (FunD.bindsA (ps := ["_law_script"]) G_law fun _ _ _ _ _ _ us hl => match us, hl with | [_], _ => rfl) s [v] rfl, fun base _ _ => ?_⟩
  have clM : Cls K (He.ga K "Machine") := He.cls_ok (cd.fact 0 (f := .cls "Machine") rfl)
  have mc : MCls T.K (T.C 0) := ⟨clM, (He.noat_ok (cd.fact 1 (f := .noat "Machine" "width") rfl)), (He.noat_ok (cd.fact 2 (f := .noat "Machine" "cutoff") rfl)), (He.noat_ok (cd.fact 3 (f := .noat "Machine" "counts") rfl)), (He.noat_ok (cd.fact 4 (f := .noat "Machine" "entered") rfl))⟩
  have icm : ICls T.K (T.C 0) := iclsB_ok clM ex2
  have clB : Cls K (He.ga K "Big") := He.cls_ok (cd.fact 5 (f := .cls "Big") rfl)
  have bc : BCls T.K (T.C 1) := ⟨clB, (He.noat_ok (cd.fact 6 (f := .noat "Big" "width") rfl)), (He.noat_ok (cd.fact 7 (f := .noat "Big" "side") rfl)), (He.noat_ok (cd.fact 8 (f := .noat "Big" "row") rfl)), (He.noat_ok (cd.fact 9 (f := .noat "Big" "value") rfl))⟩
  have icb : ICls T.K (T.C 1) := iclsB_ok clB ex3
  have hW : ∀ H, SqT T.K H (He.ga K "WORDS") (mwords.map V.str) := fun H => He.tupB_ok ex1 H
  obtain ⟨fd_is_integer, F_is_integer⟩ := cd.def_ 0 (d := d_is_integer) rfl
  have F_is_integer := Fun.ofD (st := s_is_integer) F_is_integer
  have c_is_integer : Cal P w K mg base 1 "is_integer" ["value"] (mkSp (Pre_is_integer T)) := ⟨⟨_, _, ok_is_integer (T := T) F_is_integer (He.free_ok X G (cd.fact 10 (f := .free "isinstance") rfl)) (He.free_ok X G (cd.fact 11 (f := .free "int") rfl)) (He.free_ok X G (cd.fact 12 (f := .free "bool") rfl)), He.glo_ok X G (cd.fact 13 (f := .glo "is_integer") rfl), F_is_integer.kp, (F_is_integer.binds (ps := ["value"]) fun _ _ _ _ _ _ us hl => match us, hl with | [_], _ => rfl)⟩⟩
  obtain ⟨fd_is_between, F_is_between⟩ := cd.def_ 1 (d := d_is_between) rfl
  have F_is_between := Fun.ofD (st := s_is_between) F_is_between
  have c_is_between : Cal P w K mg base 2 "is_between" ["value", "low", "high"] (mkSp (Pre_is_between T)) := ⟨⟨_, _, ok_is_between (T := T) F_is_between c_is_integer, He.glo_ok X G (cd.fact 14 (f := .glo "is_between") rfl), F_is_between.kp, (F_is_between.binds (ps := ["value", "low", "high"]) fun _ _ _ _ _ _ us hl => match us, hl with | [_, _, _], _ => rfl)⟩⟩
  obtain ⟨fd_Mach_step, F_Mach_step⟩ := cd.def_ 29 (d := d_Mach_step) rfl
  have F_Mach_step := Fun.ofD (st := s_Mach_step) F_Mach_step
  have c_Mach_step : CalM P w K mg base 1 (T.C 0) "step" ["self", "word", "many"] (mkSp (Pre_Mach_step T)) := ⟨⟨_, _, ok_Mach_step (T := T) F_Mach_step mc , He.meth_ok (cd.fact 15 (f := .meth "Machine" "step") rfl), (F_Mach_step.binds (ps := ["self", "word", "many"]) fun _ _ _ _ _ _ us hl => match us, hl with | [_, _, _], _ => rfl)⟩, clM⟩
  obtain ⟨fd_Mach_enter, F_Mach_enter⟩ := cd.def_ 30 (d := d_Mach_enter) rfl
  have F_Mach_enter := Fun.ofD (st := s_Mach_enter) F_Mach_enter
  have c_Mach_enter : CalM P w K mg base 1 (T.C 0) "enter" ["self", "word", "m", "n"] (mkSp (Pre_Mach_enter T)) := ⟨⟨_, _, ok_Mach_enter (T := T) F_Mach_enter mc (He.free_ok X G (cd.fact 16 (f := .free "len") rfl)) (gInt X G (cd.fact 17 (f := .int "LONGEST_WALK" 1000) rfl)), He.meth_ok (cd.fact 18 (f := .meth "Machine" "enter") rfl), (F_Mach_enter.binds (ps := ["self", "word", "m", "n"]) fun _ _ _ _ _ _ us hl => match us, hl with | [_, _, _, _], _ => rfl)⟩, clM⟩
  obtain ⟨fd_Mach_reset, F_Mach_reset⟩ := cd.def_ 31 (d := d_Mach_reset) rfl
  have F_Mach_reset := Fun.ofD (st := s_Mach_reset) F_Mach_reset
  have c_Mach_reset : CalM P w K mg base 1 (T.C 0) "reset" ["self"] (mkSp (Pre_Mach_reset T)) := ⟨⟨_, _, ok_Mach_reset (T := T) F_Mach_reset mc (gRef X G (cd.fact 19 (f := .glo "WORDS") rfl)) hW, He.meth_ok (cd.fact 20 (f := .meth "Machine" "reset") rfl), (F_Mach_reset.binds (ps := ["self"]) fun _ _ _ _ _ _ us hl => match us, hl with | [_], _ => rfl)⟩, clM⟩
  obtain ⟨fd_Mach_tally, F_Mach_tally⟩ := cd.def_ 32 (d := d_Mach_tally) rfl
  have F_Mach_tally := Fun.ofD (st := s_Mach_tally) F_Mach_tally
  have c_Mach_tally : CalM P w K mg base 1 (T.C 0) "tally" ["self"] (mkSp (Pre_Mach_tally T)) := ⟨⟨_, _, ok_Mach_tally (T := T) F_Mach_tally mc (gRef X G (cd.fact 19 (f := .glo "WORDS") rfl)) hW, He.meth_ok (cd.fact 21 (f := .meth "Machine" "tally") rfl), (F_Mach_tally.binds (ps := ["self"]) fun _ _ _ _ _ _ us hl => match us, hl with | [_], _ => rfl)⟩, clM⟩
  obtain ⟨fd_Mach_walk, F_Mach_walk⟩ := cd.def_ 33 (d := d_Mach_walk) rfl
  have F_Mach_walk := Fun.ofD (st := s_Mach_walk) F_Mach_walk
  have c_Mach_walk : CalM P w K mg base 1 (T.C 0) "walk" ["self"] (mkSp (Pre_Mach_walk T)) := ⟨⟨_, _, ok_Mach_walk (T := T) F_Mach_walk mc (He.free_ok X G (cd.fact 22 (f := .free "list") rfl)), He.meth_ok (cd.fact 23 (f := .meth "Machine" "walk") rfl), (F_Mach_walk.binds (ps := ["self"]) fun _ _ _ _ _ _ us hl => match us, hl with | [_], _ => rfl)⟩, clM⟩
  obtain ⟨fd_Mach_init, F_Mach_init⟩ := cd.def_ 34 (d := d_Mach_init) rfl
  have c_Machine2 : CalC P w K mg base 3 "Machine" (T.C 0) ["self", "bits", "cutoff"] [] (mkSp (Pre_Machine T)) := by
    obtain ⟨ds, hv, hb⟩ := FunD.binds1 (ps := ["self", "bits", "cutoff"]) F_Mach_init 3 2 (fun e => nomatch e) rfl fun _ _ _ _ _ _ _ us its hl hi => match us, its, hl, hi with | [_, _, _], [_, _], _, _ => ⟨_, rfl, rfl⟩
    exact ⟨⟨_, _, ds, ok_Mach_init (T := T) F_Mach_init mc (gRef X G (cd.fact 19 (f := .glo "WORDS") rfl)) hW c_is_between, He.glo_ok X G (cd.fact 24 (f := .glo "Machine") rfl), He.mkr_ok (cd.fact 25 (f := .mkr "Machine") rfl), hv, hb⟩⟩
  obtain ⟨fd_Big_eq, F_Big_eq⟩ := cd.def_ 36 (d := d_Big_eq) rfl
  have F_Big_eq := Fun.ofD (st := s_Big_eq) F_Big_eq
  have ceq : CalEq P w K mg base 1 (T.C 1) (mkSp (Pre_Big_eq T)) := ⟨⟨_, _, ok_Big_eq (T := T) F_Big_eq (He.free_ok X G (cd.fact 10 (f := .free "isinstance") rfl)) icb (gRef X G (cd.fact 26 (f := .glo "Big") rfl)) bc, ex4, He.meth_ok (cd.fact 27 (f := .meth "Big" "__eq__") rfl), (F_Big_eq.binds (ps := ["self", "other"]) fun _ _ _ _ _ _ us hl => match us, hl with | [_, _], _ => rfl)⟩⟩
  obtain ⟨fd_Big_digits, F_Big_digits⟩ := cd.def_ 37 (d := d_Big_digits) rfl
  have F_Big_digits := Fun.ofD (st := s_Big_digits) F_Big_digits
  have c_Big_digits : CalM P w K mg base 1 (T.C 1) "digits" ["self"] (mkSp (Pre_Big_digits T)) := ⟨⟨_, _, ok_Big_digits (T := T) F_Big_digits bc (He.free_ok X G (cd.fact 22 (f := .free "list") rfl)), He.meth_ok (cd.fact 28 (f := .meth "Big" "digits") rfl), (F_Big_digits.binds (ps := ["self"]) fun _ _ _ _ _ _ us hl => match us, hl with | [_], _ => rfl)⟩, clB⟩
  obtain ⟨fd_Big_sign, F_Big_sign⟩ := cd.def_ 38 (d := d_Big_sign) rfl
  have F_Big_sign := Fun.ofD (st := s_Big_sign) F_Big_sign
  have c_Big_sign : CalM P w K mg base 1 (T.C 1) "sign" ["self"] (mkSp (Pre_Big_sign T)) := ⟨⟨_, _, ok_Big_sign (T := T) F_Big_sign bc, He.meth_ok (cd.fact 29 (f := .meth "Big" "sign") rfl), (F_Big_sign.binds (ps := ["self"]) fun _ _ _ _ _ _ us hl => match us, hl with | [_], _ => rfl)⟩, clB⟩
  obtain ⟨fd_Big_bits, F_Big_bits⟩ := cd.def_ 39 (d := d_Big_bits) rfl
  have F_Big_bits := Fun.ofD (st := s_Big_bits) F_Big_bits
  have c_Big_bits : CalM P w K mg base 1 (T.C 1) "bits" ["self"] (mkSp (Pre_Big_bits T)) := ⟨⟨_, _, ok_Big_bits (T := T) F_Big_bits bc, He.meth_ok (cd.fact 30 (f := .meth "Big" "bits") rfl), (F_Big_bits.binds (ps := ["self"]) fun _ _ _ _ _ _ us hl => match us, hl with | [_], _ => rfl)⟩, clB⟩
  obtain ⟨fd_order_of, F_order_of⟩ := cd.def_ 2 (d := d_order_of) rfl
  have F_order_of := Fun.ofD (st := s_order_of) F_order_of
  have c_order_of : Cal P w K mg base 1 "order_of" ["a", "b"] (mkSp (Pre_order_of T)) := ⟨⟨_, _, ok_order_of (T := T) F_order_of , He.glo_ok X G (cd.fact 31 (f := .glo "order_of") rfl), F_order_of.kp, (F_order_of.binds (ps := ["a", "b"]) fun _ _ _ _ _ _ us hl => match us, hl with | [_, _], _ => rfl)⟩⟩
  obtain ⟨fd_Big_init, F_Big_init⟩ := cd.def_ 35 (d := d_Big_init) rfl
  have F_Big_init := Fun.ofD (st := s_Big_init) F_Big_init
  have c_Big : CalC P w K mg base 2 "Big" (T.C 1) ["self", "width", "value", "row"] [] (mkSp (Pre_Big T)) := ⟨⟨_, _, [], ok_Big_init (T := T) F_Big_init bc (He.free_ok X G (cd.fact 32 (f := .free "tuple") rfl)) c_order_of, He.glo_ok X G (cd.fact 26 (f := .glo "Big") rfl), He.mkr_ok (cd.fact 33 (f := .mkr "Big") rfl), .nil, (F_Big_init.binds (ps := ["self", "width", "value", "row"]) fun _ _ _ _ _ _ us hl => match us, hl with | [_, _, _, _], _ => rfl)⟩⟩
  obtain ⟨fd_check_machine, F_check_machine⟩ := cd.def_ 3 (d := d_check_machine) rfl
  have F_check_machine := Fun.ofD (st := s_check_machine) F_check_machine
  have c_check_machine : Cal P w K mg base 1 "check_machine" ["machine"] (mkSp (Pre_check_machine T)) := ⟨⟨_, _, ok_check_machine (T := T) F_check_machine (He.free_ok X G (cd.fact 10 (f := .free "isinstance") rfl)) icm (gRef X G (cd.fact 24 (f := .glo "Machine") rfl)), He.glo_ok X G (cd.fact 34 (f := .glo "check_machine") rfl), F_check_machine.kp, (F_check_machine.binds (ps := ["machine"]) fun _ _ _ _ _ _ us hl => match us, hl with | [_], _ => rfl)⟩⟩
  obtain ⟨fd_top_digit, F_top_digit⟩ := cd.def_ 4 (d := d_top_digit) rfl
  have F_top_digit := Fun.ofD (st := s_top_digit) F_top_digit
  have c_top_digit : Cal P w K mg base 1 "top_digit" ["width"] (mkSp (Pre_top_digit T)) := ⟨⟨_, _, ok_top_digit (T := T) F_top_digit , He.glo_ok X G (cd.fact 35 (f := .glo "top_digit") rfl), F_top_digit.kp, (F_top_digit.binds (ps := ["width"]) fun _ _ _ _ _ _ us hl => match us, hl with | [_], _ => rfl)⟩⟩
  obtain ⟨fd_size_of, F_size_of⟩ := cd.def_ 5 (d := d_size_of) rfl
  have F_size_of := Fun.ofD (st := s_size_of) F_size_of
  have c_size_of : Cal P w K mg base 2 "size_of" ["width", "n"] (mkSp (Pre_size_of T)) := ⟨⟨_, _, ok_size_of (T := T) F_size_of , He.glo_ok X G (cd.fact 36 (f := .glo "size_of") rfl), F_size_of.kp, (F_size_of.binds (ps := ["width", "n"]) fun _ _ _ _ _ _ us hl => match us, hl with | [_, _], _ => rfl)⟩⟩
  obtain ⟨fd_number_of, F_number_of⟩ := cd.def_ 6 (d := d_number_of) rfl
  have F_number_of := Fun.ofD (st := s_number_of) F_number_of
  have r_number_of : ∀ n : Nat, FnOk P w K mg base CX0 (1 + n) (He.ga K "number_of") fd_number_of ["width", "row"] (mkSp (Pre_number_of n T)) := by
    intro n
    induction n with
    | zero => exact ok0_number_of (T := T) F_number_of
    | succ n ih =>
      have i_number_of := ih
      have c_number_of : Cal P w K mg base (1 + n) "number_of" ["width", "row"] (mkSp (Pre_number_of n T)) := ⟨⟨_, _, i_number_of, He.glo_ok X G (cd.fact 37 (f := .glo "number_of") rfl), F_number_of.kp, (F_number_of.binds (ps := ["width", "row"]) fun _ _ _ _ _ _ us hl => match us, hl with | [_, _], _ => rfl)⟩⟩
      exact ok_number_of (T := T) n F_number_of (He.free_ok X G (cd.fact 16 (f := .free "len") rfl)) (gInt X G (cd.fact 38 (f := .int "LONGEST_LOOP" 32) rfl)) c_number_of (He.free_ok X G (cd.fact 39 (f := .free "reversed") rfl))
  have c_number_of : Cal P w K mg base 21 "number_of" ["width", "row"] (mkSp (Pre_number_of 20 T)) := ⟨⟨_, _, (r_number_of 20), He.glo_ok X G (cd.fact 37 (f := .glo "number_of") rfl), F_number_of.kp, (F_number_of.binds (ps := ["width", "row"]) fun _ _ _ _ _ _ us hl => match us, hl with | [_, _], _ => rfl)⟩⟩
  obtain ⟨fd_low_part, F_low_part⟩ := cd.def_ 7 (d := d_low_part) rfl
  have F_low_part := Fun.ofD (st := s_low_part) F_low_part
  have c_low_part : Cal P w K mg base 1 "low_part" ["width", "n", "size"] (mkSp (Pre_low_part T)) := ⟨⟨_, _, ok_low_part (T := T) F_low_part , He.glo_ok X G (cd.fact 40 (f := .glo "low_part") rfl), F_low_part.kp, (F_low_part.binds (ps := ["width", "n", "size"]) fun _ _ _ _ _ _ us hl => match us, hl with | [_, _, _], _ => rfl)⟩⟩
  obtain ⟨fd_row_of, F_row_of⟩ := cd.def_ 8 (d := d_row_of) rfl
  have F_row_of := Fun.ofD (st := s_row_of) F_row_of
  have r_row_of : ∀ n : Nat, FnOk P w K mg base CX0 (1 + n) (He.ga K "row_of") fd_row_of ["width", "n", "size"] (mkSp (Pre_row_of n T)) := by
    intro n
    induction n with
    | zero => exact ok0_row_of (T := T) F_row_of
    | succ n ih =>
      have i_row_of := ih
      have c_row_of : Cal P w K mg base (1 + n) "row_of" ["width", "n", "size"] (mkSp (Pre_row_of n T)) := ⟨⟨_, _, i_row_of, He.glo_ok X G (cd.fact 41 (f := .glo "row_of") rfl), F_row_of.kp, (F_row_of.binds (ps := ["width", "n", "size"]) fun _ _ _ _ _ _ us hl => match us, hl with | [_, _, _], _ => rfl)⟩⟩
      exact ok_row_of (T := T) n F_row_of (gInt X G (cd.fact 38 (f := .int "LONGEST_LOOP" 32) rfl)) c_low_part c_row_of c_top_digit (He.free_ok X G (cd.fact 42 (f := .free "range") rfl))
  have c_row_of : Cal P w K mg base 21 "row_of" ["width", "n", "size"] (mkSp (Pre_row_of 20 T)) := ⟨⟨_, _, (r_row_of 20), He.glo_ok X G (cd.fact 41 (f := .glo "row_of") rfl), F_row_of.kp, (F_row_of.binds (ps := ["width", "n", "size"]) fun _ _ _ _ _ _ us hl => match us, hl with | [_, _, _], _ => rfl)⟩⟩
  obtain ⟨fd_big_of, F_big_of⟩ := cd.def_ 9 (d := d_big_of) rfl
  have F_big_of := Fun.ofD (st := s_big_of) F_big_of
  have c_big_of : Cal P w K mg base 22 "big_of" ["machine", "value"] (mkSp (Pre_big_of T)) := ⟨⟨_, _, ok_big_of (T := T) F_big_of mc (He.free_ok X G (cd.fact 43 (f := .free "abs") rfl)) c_size_of c_row_of c_Big, He.glo_ok X G (cd.fact 44 (f := .glo "big_of") rfl), F_big_of.kp, (F_big_of.binds (ps := ["machine", "value"]) fun _ _ _ _ _ _ us hl => match us, hl with | [_, _], _ => rfl)⟩⟩
  obtain ⟨fd_big, F_big⟩ := cd.def_ 10 (d := d_big) rfl
  have F_big := Fun.ofD (st := s_big) F_big
  have c_big : Cal P w K mg base 23 "big" ["machine", "n"] (mkSp (Pre_big T)) := ⟨⟨_, _, ok_big (T := T) F_big c_check_machine c_is_integer c_big_of, He.glo_ok X G (cd.fact 45 (f := .glo "big") rfl), F_big.kp, (F_big.binds (ps := ["machine", "n"]) fun _ _ _ _ _ _ us hl => match us, hl with | [_, _], _ => rfl)⟩⟩
  obtain ⟨fd_check_order, F_check_order⟩ := cd.def_ 11 (d := d_check_order) rfl
  have F_check_order := Fun.ofD (st := s_check_order) F_check_order
  have c_check_order : Cal P w K mg base 1 "check_order" ["order"] (mkSp (Pre_check_order T)) := ⟨⟨_, _, ok_check_order (T := T) F_check_order (He.free_ok X G (cd.fact 10 (f := .free "isinstance") rfl)) (He.free_ok X G (cd.fact 46 (f := .free "str") rfl)), He.glo_ok X G (cd.fact 47 (f := .glo "check_order") rfl), F_check_order.kp, (F_check_order.binds (ps := ["order"]) fun _ _ _ _ _ _ us hl => match us, hl with | [_], _ => rfl)⟩⟩
  obtain ⟨fd_check_signed, F_check_signed⟩ := cd.def_ 12 (d := d_check_signed) rfl
  have F_check_signed := Fun.ofD (st := s_check_signed) F_check_signed
  have c_check_signed : Cal P w K mg base 1 "check_signed" ["signed"] (mkSp (Pre_check_signed T)) := ⟨⟨_, _, ok_check_signed (T := T) F_check_signed (He.free_ok X G (cd.fact 10 (f := .free "isinstance") rfl)) (He.free_ok X G (cd.fact 12 (f := .free "bool") rfl)), He.glo_ok X G (cd.fact 48 (f := .glo "check_signed") rfl), F_check_signed.kp, (F_check_signed.binds (ps := ["signed"]) fun _ _ _ _ _ _ us hl => match us, hl with | [_], _ => rfl)⟩⟩
  obtain ⟨fd_magnitude_of, F_magnitude_of⟩ := cd.def_ 13 (d := d_magnitude_of) rfl
  have F_magnitude_of := Fun.ofD (st := s_magnitude_of) F_magnitude_of
  have c_magnitude_of : Cal P w K mg base 1 "magnitude_of" ["value"] (mkSp (Pre_magnitude_of T)) := ⟨⟨_, _, ok_magnitude_of (T := T) F_magnitude_of , He.glo_ok X G (cd.fact 49 (f := .glo "magnitude_of") rfl), F_magnitude_of.kp, (F_magnitude_of.binds (ps := ["value"]) fun _ _ _ _ _ _ us hl => match us, hl with | [_], _ => rfl)⟩⟩
  obtain ⟨fd_count_reading, F_count_reading⟩ := cd.def_ 14 (d := d_count_reading) rfl
  have F_count_reading := Fun.ofD (st := s_count_reading) F_count_reading
  have c_count_reading : Cal P w K mg base 3 "count_reading" ["machine", "number", "size"] (mkSp (Pre_count_reading T)) := ⟨⟨_, _, ok_count_reading (T := T) F_count_reading (gInt X G (cd.fact 50 (f := .int "BYTE" 8) rfl)) c_magnitude_of c_size_of mc (He.free_ok X G (cd.fact 51 (f := .free "min") rfl)) c_Mach_step, He.glo_ok X G (cd.fact 52 (f := .glo "count_reading") rfl), F_count_reading.kp, (F_count_reading.binds (ps := ["machine", "number", "size"]) fun _ _ _ _ _ _ us hl => match us, hl with | [_, _, _], _ => rfl)⟩⟩
  obtain ⟨fd_from_bytes, F_from_bytes⟩ := cd.def_ 15 (d := d_from_bytes) rfl
  have ckd_from_bytes_0_signed_order_row_machine : CalKD P w K mg base 23 "from_bytes" ["machine", "row", "order", "signed"] 0 ["signed", "order", "row", "machine"] [V.str "big"] [4, 3, 2, 1] (mkSp (Pre_from_bytes T)) := by
    obtain ⟨its, mv, hb⟩ := FunD.kbinds (ps := ["machine", "row", "order", "signed"]) F_from_bytes 0 ["signed", "order", "row", "machine"] [] (fun us its mv ws => prm [4, 3, 2, 1] (us ++ (its ++ (mv ++ ws)))) (fun e => nomatch e) (fun e => nomatch e) (fun q h => by first | exact nomatch h | (simp only [List.mem_cons, List.not_mem_nil, or_false] at h ⊢; omega)) (fun r1 r2 r3 r4 => prm_rel _ (Vals.append r1 (Vals.append r2 (Vals.append r3 r4)))) (fun _ _ _ _ _ _ _ us its mv ws hl hi hm hw => match us, its, mv, ws, hl, hi, hm, hw with | [], [_], [], [_, _, _, _], _, _, _, _ => ⟨_, rfl, rfl⟩)
    exact ⟨⟨_, _, _, ok_from_bytes (T := T) F_from_bytes c_check_machine (He.free_ok X G (cd.fact 10 (f := .free "isinstance") rfl)) (He.free_ok X G (cd.fact 22 (f := .free "list") rfl)) (He.free_ok X G (cd.fact 16 (f := .free "len") rfl)) (gInt X G (cd.fact 53 (f := .int "LONGEST_ROW" 10000) rfl)) (gInt X G (cd.fact 54 (f := .int "GREATEST_BYTE" 255) rfl)) c_is_between (He.free_ok X G (cd.fact 55 (f := .free "all") rfl)) c_check_order c_check_signed c_big_of (gInt X G (cd.fact 50 (f := .int "BYTE" 8) rfl)) (He.free_ok X G (cd.fact 39 (f := .free "reversed") rfl)) c_number_of (gInt X G (cd.fact 56 (f := .int "SIGN_BYTE" 128) rfl)) mc c_Mach_enter c_count_reading, He.glo_ok X G (cd.fact 57 (f := .glo "from_bytes") rfl), F_from_bytes.kp, hb⟩⟩
  have cd_from_bytes_2 : CalD P w K mg base 23 "from_bytes" ["machine", "row", "order", "signed"] [V.str "big", V.bl false] (mkSp (Pre_from_bytes T)) := by
    obtain ⟨ds, hv, hb⟩ := FunD.binds (ps := ["machine", "row", "order", "signed"]) F_from_bytes 2 0 (fun e => nomatch e) rfl (fun _ _ _ _ _ _ _ us its ks hl hi hk => match us, its, ks, hl, hi, hk with | [_, _], [_], [_], _, _, _ => ⟨_, rfl, _, _, _, _, _, _, rfl, rfl, rfl⟩) (fun e => nomatch e)
    exact ⟨⟨_, _, ds, ok_from_bytes (T := T) F_from_bytes c_check_machine (He.free_ok X G (cd.fact 10 (f := .free "isinstance") rfl)) (He.free_ok X G (cd.fact 22 (f := .free "list") rfl)) (He.free_ok X G (cd.fact 16 (f := .free "len") rfl)) (gInt X G (cd.fact 53 (f := .int "LONGEST_ROW" 10000) rfl)) (gInt X G (cd.fact 54 (f := .int "GREATEST_BYTE" 255) rfl)) c_is_between (He.free_ok X G (cd.fact 55 (f := .free "all") rfl)) c_check_order c_check_signed c_big_of (gInt X G (cd.fact 50 (f := .int "BYTE" 8) rfl)) (He.free_ok X G (cd.fact 39 (f := .free "reversed") rfl)) c_number_of (gInt X G (cd.fact 56 (f := .int "SIGN_BYTE" 128) rfl)) mc c_Mach_enter c_count_reading, He.glo_ok X G (cd.fact 57 (f := .glo "from_bytes") rfl), F_from_bytes.kp, hv, hb⟩⟩
  have ckd_from_bytes_3_signed : CalKD P w K mg base 23 "from_bytes" ["machine", "row", "order", "signed"] 3 ["signed"] [V.str "big"] [0, 1, 2, 4] (mkSp (Pre_from_bytes T)) := by
    obtain ⟨its, mv, hb⟩ := FunD.kbinds (ps := ["machine", "row", "order", "signed"]) F_from_bytes 3 ["signed"] [] (fun us its mv ws => prm [0, 1, 2, 4] (us ++ (its ++ (mv ++ ws)))) (fun e => nomatch e) (fun e => nomatch e) (fun q h => by first | exact nomatch h | (simp only [List.mem_cons, List.not_mem_nil, or_false] at h ⊢; omega)) (fun r1 r2 r3 r4 => prm_rel _ (Vals.append r1 (Vals.append r2 (Vals.append r3 r4)))) (fun _ _ _ _ _ _ _ us its mv ws hl hi hm hw => match us, its, mv, ws, hl, hi, hm, hw with | [_, _, _], [_], [], [_], _, _, _, _ => ⟨_, rfl, rfl⟩)
    exact ⟨⟨_, _, _, ok_from_bytes (T := T) F_from_bytes c_check_machine (He.free_ok X G (cd.fact 10 (f := .free "isinstance") rfl)) (He.free_ok X G (cd.fact 22 (f := .free "list") rfl)) (He.free_ok X G (cd.fact 16 (f := .free "len") rfl)) (gInt X G (cd.fact 53 (f := .int "LONGEST_ROW" 10000) rfl)) (gInt X G (cd.fact 54 (f := .int "GREATEST_BYTE" 255) rfl)) c_is_between (He.free_ok X G (cd.fact 55 (f := .free "all") rfl)) c_check_order c_check_signed c_big_of (gInt X G (cd.fact 50 (f := .int "BYTE" 8) rfl)) (He.free_ok X G (cd.fact 39 (f := .free "reversed") rfl)) c_number_of (gInt X G (cd.fact 56 (f := .int "SIGN_BYTE" 128) rfl)) mc c_Mach_enter c_count_reading, He.glo_ok X G (cd.fact 57 (f := .glo "from_bytes") rfl), F_from_bytes.kp, hb⟩⟩
  obtain ⟨fd__law_source_of, F__law_source_of⟩ := cd.def_ 16 (d := d__law_source_of) rfl
  have F__law_source_of := Fun.ofD (st := s__law_source_of) F__law_source_of
  have c__law_source_of : Cal P w K mg base 1 "_law_source_of" ["_law_cell"] (mkSp (Pre__law_source_of T)) := ⟨⟨_, _, ok__law_source_of (T := T) F__law_source_of (He.free_ok X G (cd.fact 11 (f := .free "int") rfl)), He.glo_ok X G (cd.fact 58 (f := .glo "_law_source_of") rfl), F__law_source_of.kp, (F__law_source_of.binds (ps := ["_law_cell"]) fun _ _ _ _ _ _ us hl => match us, hl with | [_], _ => rfl)⟩⟩
  obtain ⟨fd__law_next, F__law_next⟩ := cd.def_ 17 (d := d__law_next) rfl
  have F__law_next := Fun.ofD (st := s__law_next) F__law_next
  have c__law_next : Cal P w K mg base 1 "_law_next" ["_law_source", "_law_times"] (mkSp (Pre__law_next T)) := ⟨⟨_, _, ok__law_next (T := T) F__law_next (He.free_ok X G (cd.fact 11 (f := .free "int") rfl)), He.glo_ok X G (cd.fact 59 (f := .glo "_law_next") rfl), F__law_next.kp, (F__law_next.binds (ps := ["_law_source", "_law_times"]) fun _ _ _ _ _ _ us hl => match us, hl with | [_, _], _ => rfl)⟩⟩
  obtain ⟨fd__law_one, F__law_one⟩ := cd.def_ 18 (d := d__law_one) rfl
  have F__law_one := Fun.ofD (st := s__law_one) F__law_one
  have c__law_one : Cal P w K mg base 2 "_law_one" ["_law_source", "_law_some"] (mkSp (Pre__law_one T)) := ⟨⟨_, _, ok__law_one (T := T) F__law_one (He.free_ok X G (cd.fact 16 (f := .free "len") rfl)) c__law_next, He.glo_ok X G (cd.fact 60 (f := .glo "_law_one") rfl), F__law_one.kp, (F__law_one.binds (ps := ["_law_source", "_law_some"]) fun _ _ _ _ _ _ us hl => match us, hl with | [_, _], _ => rfl)⟩⟩
  obtain ⟨fd__law_cell_at, F__law_cell_at⟩ := cd.def_ 19 (d := d__law_cell_at) rfl
  have F__law_cell_at := Fun.ofD (st := s__law_cell_at) F__law_cell_at
  have c__law_cell_at : Cal P w K mg base 1 "_law_cell_at" ["_law_script", "_law_index"] (mkSp (Pre__law_cell_at T)) := ⟨⟨_, _, ok__law_cell_at (T := T) F__law_cell_at , He.glo_ok X G (cd.fact 61 (f := .glo "_law_cell_at") rfl), F__law_cell_at.kp, (F__law_cell_at.binds (ps := ["_law_script", "_law_index"]) fun _ _ _ _ _ _ us hl => match us, hl with | [_, _], _ => rfl)⟩⟩
  obtain ⟨fd__law_power, F__law_power⟩ := cd.def_ 20 (d := d__law_power) rfl
  have F__law_power := Fun.ofD (st := s__law_power) F__law_power
  have c__law_power : Cal P w K mg base 1 "_law_power" ["_law_base", "_law_times"] (mkSp (Pre__law_power T)) := ⟨⟨_, _, ok__law_power (T := T) F__law_power (He.free_ok X G (cd.fact 42 (f := .free "range") rfl)), He.glo_ok X G (cd.fact 62 (f := .glo "_law_power") rfl), F__law_power.kp, (F__law_power.binds (ps := ["_law_base", "_law_times"]) fun _ _ _ _ _ _ us hl => match us, hl with | [_, _], _ => rfl)⟩⟩
  obtain ⟨fd__law_machine, F__law_machine⟩ := cd.def_ 21 (d := d__law_machine) rfl
  have F__law_machine := Fun.ofD (st := s__law_machine) F__law_machine
  have c__law_machine : Cal P w K mg base 5 "_law_machine" ["_law_source"] (mkSp (Pre__law_machine T)) := ⟨⟨_, _, ok__law_machine (T := T) F__law_machine c__law_next c__law_one c_Machine2, He.glo_ok X G (cd.fact 63 (f := .glo "_law_machine") rfl), F__law_machine.kp, (F__law_machine.binds (ps := ["_law_source"]) fun _ _ _ _ _ _ us hl => match us, hl with | [_], _ => rfl)⟩⟩
  obtain ⟨fd__law_counted, F__law_counted⟩ := cd.def_ 22 (d := d__law_counted) rfl
  have F__law_counted := Fun.ofD (st := s__law_counted) F__law_counted
  have c__law_counted : Cal P w K mg base 2 "_law_counted" ["_law_machine_here", "_law_got", "_law_entered"] (mkSp (Pre__law_counted T)) := ⟨⟨_, _, ok__law_counted (T := T) F__law_counted mc c_Mach_tally (He.free_ok X G (cd.fact 64 (f := .free "dict") rfl)) c_Mach_walk c_Mach_reset, He.glo_ok X G (cd.fact 65 (f := .glo "_law_counted") rfl), F__law_counted.kp, (F__law_counted.binds (ps := ["_law_machine_here", "_law_got", "_law_entered"]) fun _ _ _ _ _ _ us hl => match us, hl with | [_, _, _], _ => rfl)⟩⟩
  obtain ⟨fd__law_whole, F__law_whole⟩ := cd.def_ 23 (d := d__law_whole) rfl
  have F__law_whole := Fun.ofD (st := s__law_whole) F__law_whole
  have c__law_whole : Cal P w K mg base 2 "_law_whole" ["_law_some", "_law_is_signed"] (mkSp (Pre__law_whole T)) := ⟨⟨_, _, ok__law_whole (T := T) F__law_whole (He.free_ok X G (cd.fact 16 (f := .free "len") rfl)) c__law_power, He.glo_ok X G (cd.fact 66 (f := .glo "_law_whole") rfl), F__law_whole.kp, (F__law_whole.binds (ps := ["_law_some", "_law_is_signed"]) fun _ _ _ _ _ _ us hl => match us, hl with | [_, _], _ => rfl)⟩⟩
  obtain ⟨fd__law_steps, F__law_steps⟩ := cd.def_ 24 (d := d__law_steps) rfl
  have F__law_steps := Fun.ofD (st := s__law_steps) F__law_steps
  have c__law_steps : Cal P w K mg base 1 "_law_steps" ["_law_some", "_law_is_minus"] (mkSp (Pre__law_steps T)) := ⟨⟨_, _, ok__law_steps (T := T) F__law_steps (He.free_ok X G (cd.fact 67 (f := .free "enumerate") rfl)) (He.free_ok X G (cd.fact 11 (f := .free "int") rfl)) (He.free_ok X G (cd.fact 16 (f := .free "len") rfl)) (He.free_ok X G (cd.fact 51 (f := .free "min") rfl)), He.glo_ok X G (cd.fact 68 (f := .glo "_law_steps") rfl), F__law_steps.kp, (F__law_steps.binds (ps := ["_law_some", "_law_is_minus"]) fun _ _ _ _ _ _ us hl => match us, hl with | [_, _], _ => rfl)⟩⟩
  obtain ⟨fd__law_right, F__law_right⟩ := cd.def_ 25 (d := d__law_right) rfl
  have F__law_right := Fun.ofD (st := s__law_right) F__law_right
  have c__law_right : Cal P w K mg base 24 "_law_right" ["_law_machine_here", "_law_some", "_law_is_signed"] (mkSp (Pre__law_right T)) := ⟨⟨_, _, ok__law_right (T := T) F__law_right c__law_whole c_big (He.free_ok X G (cd.fact 22 (f := .free "list") rfl)) c__law_steps ckd_from_bytes_3_signed ceq c__law_counted ckd_from_bytes_0_signed_order_row_machine cd_from_bytes_2, He.glo_ok X G (cd.fact 69 (f := .glo "_law_right") rfl), F__law_right.kp, (F__law_right.binds (ps := ["_law_machine_here", "_law_some", "_law_is_signed"]) fun _ _ _ _ _ _ us hl => match us, hl with | [_, _, _], _ => rfl)⟩⟩
  obtain ⟨fd__law_bytes, F__law_bytes⟩ := cd.def_ 26 (d := d__law_bytes) rfl
  have F__law_bytes := Fun.ofD (st := s__law_bytes) F__law_bytes
  have c__law_bytes : Cal P w K mg base 3 "_law_bytes" ["_law_source"] (mkSp (Pre__law_bytes T)) := ⟨⟨_, _, ok__law_bytes (T := T) F__law_bytes c__law_next c__law_one (He.free_ok X G (cd.fact 42 (f := .free "range") rfl)), He.glo_ok X G (cd.fact 70 (f := .glo "_law_bytes") rfl), F__law_bytes.kp, (F__law_bytes.binds (ps := ["_law_source"]) fun _ _ _ _ _ _ us hl => match us, hl with | [_], _ => rfl)⟩⟩
  obtain ⟨fd__law_many, F__law_many⟩ := cd.def_ 27 (d := d__law_many) rfl
  have F__law_many := Fun.ofD (st := s__law_many) F__law_many
  have c__law_many : Cal P w K mg base 4 "_law_many" ["_law_source"] (mkSp (Pre__law_many T)) := ⟨⟨_, _, ok__law_many (T := T) F__law_many c__law_next c__law_one c__law_bytes, He.glo_ok X G (cd.fact 71 (f := .glo "_law_many") rfl), F__law_many.kp, (F__law_many.binds (ps := ["_law_source"]) fun _ _ _ _ _ _ us hl => match us, hl with | [_], _ => rfl)⟩⟩
  have F_law := Fun.ofD (st := s_law) G_law
  exact ok_law (T := T) F_law c__law_cell_at c__law_source_of c__law_machine c__law_many (He.free_ok X G (cd.fact 42 (f := .free "range") rfl)) c__law_bytes c__law_right
end P

open PySem PySem.W PySem.Calls PyProof.Rows in
theorem PySem.Challenge.cw_thirtybits_k73_bytes_read_holds : PySem.Challenge.rw_thirtybits_k73_bytes_read.Holds := by
  w_on; o_law
  refine HandSHeadRun.head_any (r := OpenLaw.row PySem.Challenge.rw_thirtybits_k73_bytes_read) (q := view (OpenLaw.row PySem.Challenge.rw_thirtybits_k73_bytes_read).prog [49]) (H := P.hk) (ob := P.ob) (M := 12000) (loose := P.loose) (d := HandSHeadRun.topDef (OpenLaw.row PySem.Challenge.rw_thirtybits_k73_bytes_read).prog 49) (kwd := []) P.ob_eq
    (by kernel_rfl) (fun s => by kernel_rfl) P.run (by kernel_rfl) (by kernel_rfl) (by kernel_rfl) (by rfl) (by first | assumption | decide +kernel) (by decide +kernel) ⟨rfl, rfl, rfl, rfl, rfl, by decide +kernel⟩ ?hw ?hc
  case hw => w_witness2
  case hc =>
    refine L2.walk_ofE (l := PySem.Challenge.rw_thirtybits_k73_bytes_read) (n := 63) (k := 25) (x := "_law_script") (CX := L2.CX0) rfl (by decide) (by kernel_rfl) ⟨rfl, by decide, by decide⟩ ?F (fun _ _ _ _ z => z)
    intro w mg fa h Y G hmg0
    obtain ⟨K, KX, c⟩ := Y
    have hmg : mg ("law" : PySem.Str) = some (.ref fa) := by
      have e : (HandSHeadRun.topDef (OpenLaw.row PySem.Challenge.rw_thirtybits_k73_bytes_read).prog 49).name = ("law" : PySem.Str) := by kernel_rfl
      rw [← e]
      exact hmg0
    obtain ⟨T, fd, eT, hb, hF⟩ := P.facts (P := (PySem.Challenge.rw_thirtybits_k73_bytes_read).prog) (w := w) KX G hmg c
    refine ⟨K, fd, VL.mkSp (P.Pre_law T), KX, hb, fun H a ns hl _ hS => ?_, fun base b1 b2 => hF base b1 b2⟩
    refine ⟨H, [], _, _, ⟨ns, true, rfl, P.law_right ns hl, rfl⟩, .cons ⟨a, ns.map L2.V.int, rfl, by rw [eT]; exact hS, VL.al_of_int⟩ .nil, VL.Holds.nil (L2.Same.refl H), fun F' v H' Ω' _ _ r => r.1⟩
