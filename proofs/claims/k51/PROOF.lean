import PyProof.Rows.All
import Wide.All
import OpenK.AllK
import Wide.FinOn
import KE.KStateDown
import HandS.Head0
import HandS.Head1
import HandS.Head2
import HandS.HeadEnd
import HandS.HeadHook1
import HandS.HeadHook2
import HandS.HeadHook3
import HandS.HeadHook4
import HandS.ForMost
import HandS.Wide
import HandS.Evl
import HandS.Rev
import HandS.Style
import HandS.IsInst
import HandS.Defaults
import HandS.DictComp
import HandS.WideBits
import KE.GoesEnum
import HandS.TupAny
import HandS.OwnEq
import PyProof.InstNe
import HandS.TryOnly
import HandS.DeepEq
import PyProof.NeKinds
import HandS.TupLe
import HandS.CallLocal
import HandS.Lambda
import HandS.Small
import HandS.Iter
import HandS.More
import KE.KDflt
import HandS.MakeKw
import HandS.MakeKwOnly
import PyProof.Rows.ChunkEnd
import HandS.RevRange
import PyProof.Rows.CountFlat
import HandS.Flow
import HandS.Conv
import HandS.Sort
import HandS.ForExc
import HandS.RaiseMore
import PyProof.ExcBaseAll.ArithmeticError
import HandS.ExcInit
import HandS.ExcField
import HandS.FStr
import KE.KExcInit
import HandS.TryMany
import KE.KExcIs
import HandS.Flt
import KE.OsArith
import HandS.Text
import KE.KBits
import KE.BitLaws
import HandS.HeadWalk
import PySem.Challenge.RW_thirtybits_k51_rows_of_windows
set_option Elab.async false
set_option linter.all false
set_option maxRecDepth 100000
set_option maxHeartbeats 0
set_option Elab.async false
set_option linter.all false
set_option maxRecDepth 100000
set_option maxHeartbeats 0
namespace VL
open PySem
/-! what is looked at behind the start: the things at places that are told, not those found by walking -/
def obsL (as0 : List Addr) (fa : List He.Fa) (fn : List He.DefD) (tf : List He.Defn) (ex : PySem.W.Frag → Bool) (g : Addr → Option Obj) : He.AlX := ((He.obsD fa fn (He.frT g as0), []), ex (He.frT g as0) && He.tabsB g tf (He.frT g as0))
theorem tabL {g : Addr → Option Obj} {K : PySem.W.Frag} {p : He.Defn} (h : (PySem.W.codeHdIn K (He.cT K p).1 (He.cT K p).2 && (match g (He.cT K p).2 with
    | some o => He.emptyTab o
    | none => false)) = true) : PySem.W.codeHdIn K (He.cT K p).1 (He.cT K p).2 = true ∧ ∃ o, g (He.cT K p).2 = some o ∧ He.emptyTab o = true := by
  rw [Bool.and_eq_true] at h
  refine ⟨h.1, ?_⟩
  revert h
  generalize g (He.cT K p).2 = u
  cases u with
  | none => exact fun h => nomatch h.2
  | some o => exact fun h => ⟨o, rfl, h.2⟩
theorem saysL {as0 : List Addr} {fa : List He.Fa} {fn : List He.DefD} {tf : List He.Defn} {ex : PySem.W.Frag → Bool} {w : World} {h : Heap} (e : obsL as0 fa fn tf ex h.get? = He.valX fn [] w) : He.SaysX fa fn [] tf ex w h (He.frT h.get? as0) := by
  obtain ⟨e1, e2⟩ := Prod.mk.inj e
  rw [Bool.and_eq_true] at e2
  have ts := List.all_eq_true.mp e2.2
  refine { t := e1, more := e2.1, hd := fun p m => (tabL (ts p m)).1, out := fun p m => ?_, empty := fun p m => ?_ }
  · obtain ⟨_, o, q, z⟩ := tabL (ts p m)
    exact He.frT_none q z
  · obtain ⟨_, o, q, z⟩ := tabL (ts p m)
    rw [q, He.emptyTab_eq z]
def hookL (as0 : List Addr) (fa : List He.Fa) (fn : List He.DefD) (tf : List He.Defn) (ex : PySem.W.Frag → Bool) : PySem.W.Hook :=
  ⟨He.AlX, fun s => obsL as0 fa fn tf ex s.heap.get?, fun w => He.valX fn [] w, fun w h => ∃ K : PySem.W.Frag, K.In h ∧ He.SaysX fa fn [] tf ex w h K,
   fun _ _ e => ⟨_, He.frT_in, saysL e⟩, fun _ _ _ ⟨K, i, c⟩ k => ⟨K, i.keeps k, c.t, c.more, c.hd, c.out, fun p m => k _ _ (c.empty p m)⟩⟩
theorem obsL_eq {as0 : List Addr} {fa : List He.Fa} {fn : List He.DefD} {tf : List He.Defn} {ex : PySem.W.Frag → Bool} {g : Addr → Option Obj} {s : PySem.Shared} (h : ∀ a, g a = s.heap.get? a) : obsL as0 fa fn tf ex g = (hookL as0 fa fn tf ex).obs s := by
  show _ = obsL as0 fa fn tf ex s.heap.get?
  rw [show g = s.heap.get? from funext h]
/-- from, how many -/
def addrs (a : Nat) : Nat → List Addr
  | 0 => []
  | n + 1 => a :: addrs (a + 1) n
end VL

namespace VL
open PySem L2 PyProof.Rows
def mwords : List Str := ["short", "sum", "product", "quotient", "corrected", "restored", "shifted", "combined", "complemented", "looked"]
def ownB (K : PySem.W.Frag) (C f : Addr) : Bool := match K.lookup C with
  | some ⟨.type t, _, .cls cd, sl⟩ => (match cd.mro, sl.toList with
    | [.ref C', .type b], [_, _, _, _, some (.builtin n), _] => decide (t = "type") && (decide (C' = C) && (decide (b = "object") && (!cd.hasDel && (PySem.W.nsOkIn K cd.ns && (He.eqO (PySem.W.nsIn K cd.ns "__ne__") (some none) && (He.eqO (PySem.W.nsIn K cd.ns "__eq__") (some (some (.ref f))) &&
        (match K.lookup f with
          | some ⟨.type u, _, _, _⟩ => decide (u = "function")
          | _ => false)))))))
    | _, _ => false)
  | _ => false
abbrev aeBase : List Value := [.type "ArithmeticError", .type "Exception", .type "BaseException", .type "object"]
def excB (K : PySem.W.Frag) (C : Addr) : Bool := PySem.W.excIn K C aeBase "ArithmeticError.__new__" && (PySem.W.keepIn K (.ref C) && (decide (PySem.W.subIn K (.ref C) (.type "BaseException") = some true) && (decide (PySem.W.typeIn K (.ref C) = some (.type "type")) && decide (PySem.W.exmOne K (.ref C) (.ref C) = some true))))
def tupA (K : PySem.W.Frag) (a : Addr) : Option (List Value) := match K.lookup a with
  | some ⟨.type c, _, .seq its _, _⟩ => if (decide (c = "tuple") && decide (its.size ≤ sizeLine)) = true then some its.toList else none
  | _ => none
def pairB (K : PySem.W.Frag) (v : Value) (x : Int × List Int) : Bool := match v with
  | .ref a => match tupA K a with
    | some [u, .ref b] => He.relB (.int x.1) u && (match tupA K b with
      | some zs => He.relAll (x.2.map V.int) zs
      | none => false)
    | _ => false
  | _ => false
def pairsB (K : PySem.W.Frag) : List Value → List (Int × List Int) → Bool
  | [], [] => true
  | v :: vs, x :: xs => pairB K v x && pairsB K vs xs
  | _, _ => false
def fewB (K : PySem.W.Frag) (x : Str) (l : List (Int × List Int)) : Bool := match tupA K (He.ga K x) with
  | some vs => pairsB K vs l
  | none => false
def isVal (o : Option PySem.W.CFound) (v : Value) : Bool := match o with | some (.val a) => decide (a = v) | _ => false
def ixB (K : PySem.W.Frag) (C B0 fI : Addr) (f : Str) : Bool :=
  PySem.W.excInitIn K C aeBase "ArithmeticError.__new__" && (PySem.W.excOver K C aeBase && (PySem.W.hasDictIn K C && (decide (PySem.W.takerIn K C f = some none) && (decide (PySem.W.findIn K (.ref C) "__init__" = some (some (.ref fI))) &&
  (decide (PySem.W.typeIn K (.ref fI) = some (.type "function")) && (decide (PySem.W.findIn K (.ref C) "__setattr__" = some (some (.builtin "object.__setattr__"))) && (decide (PySem.W.subIn K (.ref C) (.type "BaseException") = some true) &&
  (decide (PySem.W.typeIn K (.ref C) = some (.type "type")) && (PySem.W.keepIn K (.ref C) && (xfB K C && (decide (PySem.W.findIn K (.ref C) f = some none) && (decide (PySem.W.specialIn K (.ref B0) "__getattribute__" = some (some (.builtin "type.__getattribute__"))) &&
  (PySem.W.readsIn K B0 (.type "type") && (isVal (PySem.W.findCls K (.ref B0) (.type "type") "__init__") (.builtin "ArithmeticError.__init__") && PySem.W.keepIn K (.ref B0)))))))))))))))
def isV (o : Option (Option Value)) (v : Value) : Bool := match o with | some (some a) => decide (a = v) | _ => false
def isN (o : Option (Option Value)) : Bool := match o with | some none => true | _ => false
def exIB (K : PySem.W.Frag) (D : Addr) : Bool :=
  (PySem.W.clsIn K D).isSome && (isV (PySem.W.findIn K (.ref D) "__getattribute__") (.builtin "BaseException.__getattribute__") && (isN (PySem.W.findIn K (.ref D) "__getattr__") && (decide (PySem.W.subIn K (.ref D) (.type "BaseException") = some true) &&
    (isV (PySem.W.findIn K (.ref D) "__class__") (.builtin "object.__class__") && (isV (PySem.W.specialIn K (.builtin "object.__class__") "__get__") (.builtin "getset_descriptor.__get__") && (decide (PySem.W.takesIn K (.builtin "object.__class__") = some true) && decide (PySem.W.mroIn K D (.type "object") = some true)))))))
def entB : List DictEntry → List (Int × Int) → Bool
  | [], [] => true
  | e :: r, p :: q => (match e.key with | .int a _ => decide (a = p.1) | _ => false) && ((match e.val with | .int a _ => decide (a = p.2) | _ => false) && (decide (e.hash = hashInt p.1) && entB r q))
  | _, _ => false
def idcB (K : PySem.W.Frag) (d : Addr) (kvs : List (Int × Int)) : Bool := (!(d == sysModules)) && match K.lookup d with
  | some ⟨.type c, none, .dict es _, sl⟩ => decide (c = "dict") && (sl.isEmpty && entB es.toList kvs)
  | _ => false
end VL
namespace P
open PySem L2 VL
def topS (i : Nat) : Stmt := PySem.Challenge.pw_thirtybits_k51_rows_of_windows.main.body.getD i (.Pass ⟨0, 0, 0, 0⟩)
abbrev s_shown : Stmt := topS 3
abbrev s_ix_InvalidBound : Stmt := inClass (topS 2) 0
abbrev s_is_integer : Stmt := topS 5
abbrev s_is_between : Stmt := topS 6
abbrev s_check_row_number : Stmt := topS 12
abbrev s_rows_of : Stmt := topS 13
abbrev s_window_rows : Stmt := topS 10
abbrev s_cost_of : Stmt := topS 14
abbrev s_best_width : Stmt := topS 11
abbrev s__law_mixed : Stmt := topS 16
abbrev s__law_source : Stmt := topS 17
abbrev s__law_draw : Stmt := topS 18
abbrev s__law_one : Stmt := topS 19
abbrev s__law_exponent : Stmt := topS 20
abbrev s__law_due : Stmt := topS 21
abbrev s__law_cost : Stmt := topS 22
abbrev s__law_right : Stmt := topS 23
abbrev s__law_said : Stmt := topS 24
abbrev s__law_deep : Stmt := topS 25
abbrev s_is_integer__or3 : Stmt := topS 5
abbrev s_check_row_number__or2 : Stmt := topS 12
abbrev s_best_width__or1 : Stmt := topS 11
abbrev s_window_rows__or4 : Stmt := topS 10
abbrev s_is_between__or6 : Stmt := topS 6
abbrev s_window_rows__or5 : Stmt := topS 10
abbrev s_is_integer__or9 : Stmt := topS 5
abbrev s_check_row_number__or8 : Stmt := topS 12
abbrev s_best_width__or7 : Stmt := topS 11
abbrev s_window_rows__or10 : Stmt := topS 10
abbrev s_is_between__or12 : Stmt := topS 6
abbrev s_window_rows__or11 : Stmt := topS 10
abbrev s__law_refused_right : Stmt := topS 26
abbrev s_law : Stmt := topS 27
def iclsB (K : PySem.W.Frag) (C : Addr) : Bool := He.eqO (PySem.W.findIn K (.ref C) "__class__") (some (some (.builtin "object.__class__"))) && (He.eqO (PySem.W.specialIn K (.builtin "object.__class__") "__get__") (some (some (.builtin "getset_descriptor.__get__"))) &&
  (decide (PySem.W.takesIn K (.builtin "object.__class__") = some true) && (decide (PySem.W.mroIn K C (.type "object") = some true) && decide (PySem.W.kitOne K (.ref C) (.ref C) = some true))))
def tfs : List He.Defn := [("_law_refused_right", none)]
def d_shown : He.DefD := ⟨("shown", none), "shown", "shown", defArgs s_shown, defBody s_shown, defScope s_shown, [], []⟩
def d_is_integer : He.DefD := ⟨("is_integer", none), "is_integer", "is_integer", defArgs s_is_integer, defBody s_is_integer, defScope s_is_integer, [], []⟩
def d_is_between : He.DefD := ⟨("is_between", none), "is_between", "is_between", defArgs s_is_between, defBody s_is_between, defScope s_is_between, [], []⟩
def d_check_row_number : He.DefD := ⟨("check_row_number", none), "check_row_number", "check_row_number", defArgs s_check_row_number, defBody s_check_row_number, defScope s_check_row_number, [], []⟩
def d_rows_of : He.DefD := ⟨("rows_of", none), "rows_of", "rows_of", defArgs s_rows_of, defBody s_rows_of, defScope s_rows_of, [], []⟩
def d_window_rows : He.DefD := ⟨("window_rows", none), "window_rows", "window_rows", defArgs s_window_rows, defBody s_window_rows, defScope s_window_rows, [], []⟩
def d_cost_of : He.DefD := ⟨("cost_of", none), "cost_of", "cost_of", defArgs s_cost_of, defBody s_cost_of, defScope s_cost_of, [], []⟩
def d_best_width : He.DefD := ⟨("best_width", none), "best_width", "best_width", defArgs s_best_width, defBody s_best_width, defScope s_best_width, [], []⟩
def d__law_mixed : He.DefD := ⟨("_law_mixed", none), "_law_mixed", "_law_mixed", defArgs s__law_mixed, defBody s__law_mixed, defScope s__law_mixed, [], []⟩
def d__law_source : He.DefD := ⟨("_law_source", none), "_law_source", "_law_source", defArgs s__law_source, defBody s__law_source, defScope s__law_source, [], []⟩
def d__law_draw : He.DefD := ⟨("_law_draw", none), "_law_draw", "_law_draw", defArgs s__law_draw, defBody s__law_draw, defScope s__law_draw, [], []⟩
def d__law_one : He.DefD := ⟨("_law_one", none), "_law_one", "_law_one", defArgs s__law_one, defBody s__law_one, defScope s__law_one, [], []⟩
def d__law_exponent : He.DefD := ⟨("_law_exponent", none), "_law_exponent", "_law_exponent", defArgs s__law_exponent, defBody s__law_exponent, defScope s__law_exponent, [], []⟩
def d__law_due : He.DefD := ⟨("_law_due", none), "_law_due", "_law_due", defArgs s__law_due, defBody s__law_due, defScope s__law_due, [], []⟩
def d__law_cost : He.DefD := ⟨("_law_cost", none), "_law_cost", "_law_cost", defArgs s__law_cost, defBody s__law_cost, defScope s__law_cost, [], []⟩
def d__law_right : He.DefD := ⟨("_law_right", none), "_law_right", "_law_right", defArgs s__law_right, defBody s__law_right, defScope s__law_right, [], []⟩
def d__law_said : He.DefD := ⟨("_law_said", none), "_law_said", "_law_said", defArgs s__law_said, defBody s__law_said, defScope s__law_said, [], []⟩
def d__law_deep : He.DefD := ⟨("_law_deep", none), "_law_deep", "_law_deep", defArgs s__law_deep, defBody s__law_deep, defScope s__law_deep, [], []⟩
def d__law_refused_right : He.DefD := ⟨("_law_refused_right", none), "_law_refused_right", "_law_refused_right", defArgs s__law_refused_right, defBody s__law_refused_right, defScope s__law_refused_right, [], []⟩
def d_law : He.DefD := ⟨("law", none), "law", "law", defArgs s_law, defBody s_law, defScope s_law, [], []⟩
def d_ix_InvalidBound : He.DefD := ⟨("InvalidBound", some "__init__"), "__init__", "InvalidBound.__init__", defArgs s_ix_InvalidBound, defBody s_ix_InvalidBound, defScope s_ix_InvalidBound, [], []⟩
def fa0 : List He.Fa := [.free "isinstance", .free "str", .glo "shown", .glo "BitsError", .glo "InvalidBound", .free "int", .free "bool", .glo "is_integer", .glo "is_between", .int "LONGEST_EXPONENT" 4000, .glo "check_row_number", .free "max", .glo "rows_of", .int "WIDEST" 12, .glo "window_rows", .free "len", .glo "cost_of", .free "range", .free "min", .glo "best_width", .glo "_law_mixed", .glo "_law_source", .glo "_law_draw", .glo "_law_one", .glo "_law_exponent", .glo "_law_due", .glo "_law_cost", .free "list", .free "sum", .glo "_law_right"]
def fa1 : List He.Fa := [.glo "_law_said", .glo "_law_deep", .glo "_law_refused_right", .free "enumerate", .glo "law"]
def fa : List He.Fa := fa0 ++ fa1
def fn : List He.DefD := [d_shown, d_is_integer, d_is_between, d_check_row_number, d_rows_of, d_window_rows, d_cost_of, d_best_width, d__law_mixed, d__law_source, d__law_draw, d__law_one, d__law_exponent, d__law_due, d__law_cost, d__law_right, d__law_said, d__law_deep, d__law_refused_right, d_law, d_ix_InvalidBound]
def tabsApart (K : PySem.W.Frag) : Bool := decide (((tfs.map fun p => (He.cT K p).2)).Nodup)
def rxB (K : PySem.W.Frag) : Bool := decide (PySem.W.exmOne K (.ref (He.ga K "InvalidBound")) (.ref (He.ga K "InvalidBound")) = some true) && (xfB K (He.ga K "InvalidBound") && (decide (PySem.W.findIn K (.ref (He.ga K "InvalidBound")) "argument" = some none) && (ixB K (He.ga K "InvalidBound") (He.ga K "BitsError") (He.ma K (He.ga K "InvalidBound") "__init__") "argument")))
def exB (K : PySem.W.Frag) : Bool := true && tabsApart K && rxB K
def loose0 : List Str := ["BitsError", "InvalidBound", "shown", "is_integer", "is_between", "LONGEST_EXPONENT", "WIDEST", "window_rows", "best_width", "check_row_number", "rows_of", "cost_of", "_law_mixed", "_law_source", "_law_draw", "_law_one", "_law_exponent", "_law_due", "_law_cost", "_law_right", "_law_said", "_law_deep", "_law_refused_right"]
def loose : List Str := loose0
abbrev R : PySem.W.OpenRow := PySem.W.OpenLaw.row PySem.Challenge.rw_thirtybits_k51_rows_of_windows
abbrev hk : PySem.W.Hook := hookL (addrs 0 1200) fa fn tfs exB
def ob (s : PySem.W.SharedT) : He.AlX := obsL (addrs 0 1200) fa fn tfs exB (HandSHeadRun.getT s)
theorem ob_eq (s : PySem.W.SharedT) : ob s = hk.obs s.abs := obsL_eq (HandSHeadRun.getT_eq s)
theorem run (w : World) : HandSHeadRun.RunEq R (PySem.W.view R.prog [27]) hk ob 12000 loose w := by
  intro os
  kernel_rfl
end P
set_option maxHeartbeats 200000
set_option Elab.async false
set_option linter.all false
set_option maxRecDepth 100000
/-! What a body does, by values: Holds (the frozen part, the changing things, by place), Env (the slots), XG, XE, XT, XA, XS. -/
namespace VL
open PySem L2

/-! ### the frozen part and the changing things -/
structure VA where
  P : Hp → V → Prop
  mono : ∀ {F F' : Hp} {v : V}, Same F F' → P F v → P F' v
structure OA where
  P : Hp → Hp → Prop
  mono : ∀ {F F' t : Hp}, Same F F' → P F t → P F' t

def Holds (F : Hp) (Ω : List OA) (H : Hp) : Prop :=
  ∃ ts : Nat → Hp, (∀ (i : Nat) (o : OA), Ω[i]? = some o → o.P F (ts i)) ∧ Same F H ∧ (∀ i : Nat, i < Ω.length → Same (ts i) H) ∧
    (∀ (i : Nat) (b : Addr) (o : HO), i < Ω.length → ts i b = some o → F b = none) ∧
    ∀ (i j : Nat) (b : Addr) (o : HO), i < Ω.length → j < Ω.length → i ≠ j → ts i b = some o → ts j b = none

theorem getlt {α : Type} {l : List α} {i : Nat} {a : α} (h : l[i]? = some a) : i < l.length := (List.getElem?_eq_some_iff.mp h).1
theorem nn {F : Hp} {b : Addr} {o : HO} (h : F b = some o) (h' : F b = none) : False := by rw [h] at h'; cases h'
theorem same_upd {H : Hp} {p : Addr} {o : HO} (h : H p = none) : Same H (upd H p o) := fun b x e => by
  rw [upd_ne (ne_of_none e h)]; exact e

section
variable {F F' H H' : Hp} {Ω : List OA} {o o' : OA} {i j : Nat} {a p : Addr} {u u' : HO}
theorem Holds.same (h : Holds F Ω H) : Same F H := let ⟨_, _, q, _⟩ := h; q
theorem Holds.nil (h : Same F H) : Holds F [] H := ⟨fun _ _ => none, fun i o q => by simp at q, h, fun i q => absurd q (Nat.not_lt_zero _), fun i _ _ q => absurd q (Nat.not_lt_zero _), fun i _ _ _ q => absurd q (Nat.not_lt_zero _)⟩
theorem Holds.grow (h : Holds F Ω H) (e : Same H H') : Holds F Ω H' := by
  obtain ⟨ts, h1, h2, h3, h4, h5⟩ := h
  exact ⟨ts, h1, h2.trans e, fun i q => (h3 i q).trans e, h4, h5⟩
/-- a new frozen object -/
theorem Holds.newF (h : Holds F Ω H) (n : H p = none) : Holds (upd F p u) Ω (upd H p u) ∧ Same F (upd F p u) := by
  obtain ⟨ts, h1, h2, h3, h4, h5⟩ := h
  have nF : F p = none := h2.free n
  have sF : Same F (upd F p u) := same_upd nF
  have nt : ∀ i, i < Ω.length → ts i p = none := fun i q => (h3 i q).free n
  refine ⟨⟨ts, fun i o q => o.mono sF (h1 i o q), fun b x e => ?_, fun i q => (h3 i q).trans (same_upd n), fun i b x q e => ?_, h5⟩, sF⟩
  · by_cases hb : b = p
    · subst hb; rw [upd_same] at e ⊢; exact e
    · rw [upd_ne hb] at e ⊢; exact h2 b x e
  · have hb : b ≠ p := fun z => by subst z; exact nn e (nt i q)
    rw [upd_ne hb]; exact h4 i b x q e
theorem app_at {α : Type} {l : List α} {a : α} : (l ++ [a])[l.length]? = some a := by simp
theorem app_lt {α : Type} {l : List α} {a b : α} {i : Nat} (h : l[i]? = some b) : (l ++ [a])[i]? = some b := by
  rw [List.getElem?_append_left (getlt h)]; exact h
/-- a new changing thing, behind the others -/
theorem Holds.newO {t : Hp} (h : Holds F Ω H) (n : ∀ b x, t b = some x → H b = none) (e : Same H H') (et : Same t H') (ok : o.P F t) : Holds F (Ω ++ [o]) H' := by
  obtain ⟨ts, h1, h2, h3, h4, h5⟩ := h
  have len : (Ω ++ [o]).length = Ω.length + 1 := by simp
  refine ⟨fun k => if k = Ω.length then t else ts k, fun i x q => ?_, h2.trans e, fun i q => ?_, fun i b x q r => ?_, fun i j b x qi qj ne r => ?_⟩
  · show x.P F (if i = Ω.length then t else ts i)
    by_cases hi : i = Ω.length
    · subst hi; rw [app_at] at q; cases q; rw [if_pos rfl]; exact ok
    · rw [if_neg hi]
      have lt : i < Ω.length := by have := getlt q; omega
      rw [List.getElem?_append_left lt] at q
      exact h1 i x q
  · show Same (if i = Ω.length then t else ts i) H'
    by_cases hi : i = Ω.length
    · rw [if_pos hi]; exact et
    · rw [if_neg hi]; exact (h3 i (by omega)).trans e
  · have r : (if i = Ω.length then t else ts i) b = some x := r
    by_cases hi : i = Ω.length
    · rw [if_pos hi] at r; exact h2.free (n b x r)
    · rw [if_neg hi] at r; exact h4 i b x (by omega) r
  · have r : (if i = Ω.length then t else ts i) b = some x := r
    show (if j = Ω.length then t else ts j) b = none
    by_cases hi : i = Ω.length
    · rw [if_pos hi] at r
      rw [if_neg (fun z => ne (hi.trans z.symm))]
      exact (h3 j (by omega)).free (n b x r)
    · rw [if_neg hi] at r
      by_cases hj : j = Ω.length
      · rw [if_pos hj]
        cases q : t b with
        | none => rfl
        | some y => exact (nn (h3 i (by omega) b x r) (n b y q)).elim
      · rw [if_neg hj]; exact h5 i j b x (by omega) (by omega) ne r
theorem sng_some {b : Addr} {x : HO} (e : upd (fun _ => none) p u b = some x) : b = p := by
  by_cases h : b = p
  · exact h
  · rw [upd_ne h] at e; cases e
theorem Holds.newL (h : Holds F Ω H) (n : H p = none) (ok : o.P F (upd (fun _ => none) p u)) : Holds F (Ω ++ [o]) (upd H p u) :=
  h.newO (t := upd (fun _ => none) p u) (fun b x e => by rw [sng_some e]; exact n) (same_upd n) (fun b x e => by
    have hb := sng_some e
    subst hb; rw [upd_same] at e ⊢; exact e) ok
/-- the thing at i: its part of the heap; it may be changed there -/
theorem Holds.get (h : Holds F Ω H) (q : Ω[i]? = some o) : ∃ t, o.P F t ∧ Same t H ∧ (∀ b x, t b = some x → F b = none) ∧
    ∀ (o' : OA) (a : Addr) (u u' : HO), t a = some u → o'.P F (upd t a u') → Holds F (Ω.set i o') (upd H a u') := by
  obtain ⟨ts, h1, h2, h3, h4, h5⟩ := h
  have lt := getlt q
  refine ⟨ts i, h1 i o q, h3 i lt, fun b x e => h4 i b x lt e, fun o' a u u' ha ok => ?_⟩
  have nF : F a = none := h4 i a u lt ha
  have tj : ∀ j, j < Ω.length → j ≠ i → ts j a = none := fun j lj ne => h5 i j a u lt lj (fun z => ne z.symm) ha
  refine ⟨fun k => if k = i then upd (ts i) a u' else ts k, fun k x r => ?_, fun b x e => ?_, fun k lk b x e => ?_, fun k b x lk e => ?_, fun k m b x lk lm ne e => ?_⟩
  · show x.P F (if k = i then _ else ts k)
    by_cases hk : k = i
    · subst hk
      rw [List.getElem?_set_self lt] at r; cases r; rw [if_pos rfl]; exact ok
    · rw [if_neg hk]
      rw [List.getElem?_set_ne (fun z => hk z.symm)] at r
      exact h1 k x r
  · rw [upd_ne (ne_of_none e nF)]; exact h2 b x e
  · rw [List.length_set] at lk
    have e : (if k = i then upd (ts i) a u' else ts k) b = some x := e
    by_cases hk : k = i
    · rw [if_pos hk] at e
      by_cases hb : b = a
      · subst hb; rw [upd_same] at e ⊢; exact e
      · rw [upd_ne hb] at e ⊢; exact h3 i lt b x e
    · rw [if_neg hk] at e
      rw [upd_ne (ne_of_none e (tj k lk hk))]; exact h3 k lk b x e
  · rw [List.length_set] at lk
    have e : (if k = i then upd (ts i) a u' else ts k) b = some x := e
    by_cases hk : k = i
    · rw [if_pos hk] at e
      by_cases hb : b = a
      · subst hb; exact nF
      · rw [upd_ne hb] at e; exact h4 i b x lt e
    · rw [if_neg hk] at e; exact h4 k b x lk e
  · rw [List.length_set] at lk lm
    have e : (if k = i then upd (ts i) a u' else ts k) b = some x := e
    show (if m = i then upd (ts i) a u' else ts m) b = none
    by_cases hk : k = i
    · rw [if_pos hk] at e
      have hm : m ≠ i := fun z => ne (hk.trans z.symm)
      rw [if_neg hm]
      by_cases hb : b = a
      · subst hb; exact tj m lm hm
      · rw [upd_ne hb] at e; exact h5 i m b x lt lm (fun z => hm z.symm) e
    · rw [if_neg hk] at e
      by_cases hm : m = i
      · rw [if_pos hm]
        have hb : b ≠ a := ne_of_none e (tj k lk hk)
        rw [upd_ne hb]; exact h5 k i b x lk lt hk e
      · rw [if_neg hm]; exact h5 k m b x lk lm ne e
/-- the last thing is left -/
theorem Holds.drop (h : Holds F (Ω ++ [o]) H) : Holds F Ω H := by
  obtain ⟨ts, h1, h2, h3, h4, h5⟩ := h
  have len : (Ω ++ [o]).length = Ω.length + 1 := by simp
  exact ⟨ts, fun i x q => h1 i x (app_lt q), h2, fun i q => h3 i (by omega), fun i b x q => h4 i b x (by omega), fun i j b x qi qj => h5 i j b x (by omega) (by omega)⟩
/-- two maps with nothing in common -/
def cup (F t : Hp) : Hp := fun b => match F b with | some o => some o | none => t b
theorem cup_l {F t : Hp} : Same F (cup F t) := fun b x e => by show (match F b with | some o => some o | none => t b) = _; rw [e]
theorem cup_r {F t : Hp} (d : ∀ b x, t b = some x → F b = none) : Same t (cup F t) := fun b x e => by show (match F b with | some o => some o | none => t b) = _; rw [d b x e]; exact e
theorem cup_or {F t : Hp} {b : Addr} {x : HO} (e : cup F t b = some x) : F b = some x ∨ t b = some x := by
  have e : (match F b with | some o => some o | none => t b) = some x := e
  cases h : F b with
  | none => rw [h] at e; exact .inr e
  | some y => rw [h] at e; exact .inl e
/-- the last thing becomes frozen -/
theorem Holds.freeze (h : Holds F (Ω ++ [o]) H) : ∃ F' t, Same F F' ∧ Same t F' ∧ o.P F t ∧ Holds F' Ω H := by
  obtain ⟨ts, h1, h2, h3, h4, h5⟩ := h
  have len : (Ω ++ [o]).length = Ω.length + 1 := by simp
  have d : ∀ b x, ts Ω.length b = some x → F b = none := fun b x e => h4 Ω.length b x (by omega) e
  refine ⟨cup F (ts Ω.length), ts Ω.length, cup_l, cup_r d, h1 _ _ app_at, ts, fun i x q => x.mono cup_l (h1 i x (app_lt q)), fun b x e => ?_, fun i q => h3 i (by omega), fun i b x q e => ?_, fun i j b x qi qj => h5 i j b x (by omega) (by omega)⟩
  · rcases cup_or e with e | e
    · exact h2 b x e
    · exact h3 Ω.length (by omega) b x e
  · cases z : cup F (ts Ω.length) b with
    | none => rfl
    | some y =>
      rcases cup_or z with z | z
      · exact (nn z (h4 i b x (by omega) e)).elim
      · exact (nn z (h5 i Ω.length b x (by omega) (by omega) (by omega) e)).elim
end

/-! ### values by what they stand for -/
structure TC where
  K : PySem.W.Frag
  C : Nat → Addr
class Rp (α : Type) where
  rep : TC → Hp → V → α → Prop
  mono : ∀ {T : TC} {F F' : Hp} {v : V} {a : α}, Same F F' → rep T F v a → rep T F' v a
def va (T : TC) {α : Type} [Rp α] (a : α) : VA := ⟨fun F v => Rp.rep T F v a, Rp.mono⟩
def vr (p : Addr) : VA := ⟨fun _ v => v = .ref p, fun _ h => h⟩
def vx (v0 : V) : VA := ⟨fun _ v => v = v0, fun _ h => h⟩
instance : Rp Int := ⟨fun _ _ v n => v = .int n, fun _ h => h⟩
instance : Rp Bool := ⟨fun _ _ v n => v = .bl n, fun _ h => h⟩
instance : Rp Str := ⟨fun _ _ v n => v = .str n, fun _ h => h⟩
instance : Rp Unit := ⟨fun _ _ v _ => v = .non, fun _ h => h⟩
/-- a list that stays, a tuple of one kind, a pair, a triple -/
structure LF (α : Type) where
  l : List α
structure TF (α : Type) where
  l : List α
/-- the script -/
structure SF (α : Type) where
  l : List α
structure T3 (α β γ : Type) where
  a : α
  b : β
  c : γ
def Al {α : Type} [Rp α] (T : TC) (F : Hp) (vs : List V) (l : List α) : Prop := Paired (fun v a => Rp.rep T F v a) vs l
theorem Al.mono {α : Type} [Rp α] {T : TC} {F F' : Hp} (e : Same F F') : ∀ {vs : List V} {l : List α}, Al T F vs l → Al T F' vs l
  | _, _, .nil => .nil
  | _, _, .cons h t => .cons (Rp.mono e h) (Al.mono e t)
theorem Same.tup {K : PySem.W.Frag} {H H' : Hp} {a : Addr} {xs : List V} (e : Same H H') (h : SqT K H a xs) : SqT K H' a xs := by
  rcases h with (h | ⟨o, h⟩) | h
  · exact .inl (.inl (e _ _ h))
  · exact .inl (.inr ⟨o, e _ _ h⟩)
  · exact .inr h
instance {α : Type} [Rp α] : Rp (LF α) := ⟨fun T F v l => ∃ p vs, v = .ref p ∧ F p = some (.lst vs) ∧ Al T F vs l.l, fun e ⟨p, vs, h1, h2, h3⟩ => ⟨p, vs, h1, e _ _ h2, h3.mono e⟩⟩
instance {α : Type} [Rp α] : Rp (SF α) := ⟨fun T F v l => ∃ p vs, v = .ref p ∧ SqL T.K F p vs ∧ Al T F vs l.l, fun e ⟨p, vs, h1, h2, h3⟩ => ⟨p, vs, h1, e.seq h2, h3.mono e⟩⟩
instance {α : Type} [Rp α] : Rp (TF α) := ⟨fun T F v l => ∃ p vs, v = .ref p ∧ SqT T.K F p vs ∧ Al T F vs l.l, fun e ⟨p, vs, h1, h2, h3⟩ => ⟨p, vs, h1, Same.tup e h2, h3.mono e⟩⟩
instance {α β : Type} [Rp α] [Rp β] : Rp (α × β) := ⟨fun T F v l => ∃ p x y, v = .ref p ∧ SqT T.K F p [x, y] ∧ Rp.rep T F x l.1 ∧ Rp.rep T F y l.2, fun e ⟨p, x, y, h1, h2, h3, h4⟩ => ⟨p, x, y, h1, Same.tup e h2, Rp.mono e h3, Rp.mono e h4⟩⟩
instance {α β γ : Type} [Rp α] [Rp β] [Rp γ] : Rp (T3 α β γ) := ⟨fun T F v l => ∃ p x y z, v = .ref p ∧ SqT T.K F p [x, y, z] ∧ Rp.rep T F x l.a ∧ Rp.rep T F y l.b ∧ Rp.rep T F z l.c, fun e ⟨p, x, y, z, h1, h2, h3, h4, h5⟩ => ⟨p, x, y, z, h1, Same.tup e h2, Rp.mono e h3, Rp.mono e h4, Rp.mono e h5⟩⟩
theorem al_int {T : TC} {F : Hp} : ∀ {vs : List V} {l : List Int}, Al T F vs l → vs = l.map V.int
  | _, _, .nil => rfl
  | _, _, .cons h t => by rw [List.map_cons, ← al_int t, show _ = V.int _ from h]
theorem al_of_int {T : TC} {F : Hp} : ∀ {l : List Int}, Al T F (l.map V.int) l
  | [] => .nil
  | x :: r => .cons (show V.int x = V.int x from rfl) al_of_int
theorem al_len {α : Type} [Rp α] {T : TC} {F : Hp} : ∀ {vs : List V} {l : List α}, Al T F vs l → vs.length = l.length
  | _, _, .nil => rfl
  | _, _, .cons _ t => congrArg (· + 1) (al_len t)
theorem al_get {α : Type} [Rp α] {T : TC} {F : Hp} : ∀ {vs : List V} {l : List α} {i : Nat} {a : α}, Al T F vs l → l[i]? = some a → ∃ v, vs[i]? = some v ∧ Rp.rep T F v a
  | _, _, _, _, .nil, e => by simp at e
  | _, _, 0, _, .cons h _, e => by cases e; exact ⟨_, rfl, h⟩
  | _, _, i + 1, _, .cons _ t, e => al_get (i := i) t e
theorem al_set {α : Type} [Rp α] {T : TC} {F : Hp} {v : V} {a : α} (h : Rp.rep T F v a) : ∀ {vs : List V} {l : List α} (i : Nat), Al T F vs l → Al T F (vs.set i v) (l.set i a)
  | _, _, _, .nil => .nil
  | _, _, 0, .cons _ t => .cons h t
  | _, _, i + 1, .cons q t => .cons q (al_set h i t)
theorem al_app {α : Type} [Rp α] {T : TC} {F : Hp} : ∀ {vs ws : List V} {l m : List α}, Al T F vs l → Al T F ws m → Al T F (vs ++ ws) (l ++ m)
  | _, _, _, _, .nil, h => h
  | _, _, _, _, .cons q t, h => .cons q (al_app t h)
theorem al_take {α : Type} [Rp α] {T : TC} {F : Hp} : ∀ {vs : List V} {l : List α} (n : Nat), Al T F vs l → Al T F (vs.take n) (l.take n)
  | _, _, 0, _ => .nil
  | _, _, _ + 1, .nil => .nil
  | _, _, n + 1, .cons q t => .cons q (al_take n t)
theorem al_drop {α : Type} [Rp α] {T : TC} {F : Hp} : ∀ {vs : List V} {l : List α} (n : Nat), Al T F vs l → Al T F (vs.drop n) (l.drop n)
  | _, _, 0, h => h
  | _, _, _ + 1, .nil => .nil
  | _, _, n + 1, .cons _ t => al_drop n t
/-- a list that changes -/
def lstA (T : TC) {α : Type} [Rp α] (p : Addr) (l : List α) : OA := ⟨fun F t => ∃ vs, t p = some (.lst vs) ∧ Al T F vs l, fun e ⟨vs, h1, h2⟩ => ⟨vs, h1, h2.mono e⟩⟩

/-! ### slots -/
def Env (F : Hp) (σ : St) (Γ : List (Option VA)) : Prop := σ.length = Γ.length ∧ ∀ (i : Nat) (A : VA), Γ[i]? = some (some A) → ∃ v, σ[i]? = some (some v) ∧ A.P F v
theorem Env.mono {F F' : Hp} {σ : St} {Γ : List (Option VA)} (h : Env F σ Γ) (e : Same F F') : Env F' σ Γ := ⟨h.1, fun i A q => let ⟨v, h1, h2⟩ := h.2 i A q; ⟨v, h1, A.mono e h2⟩⟩
theorem Env.set {F : Hp} {σ : St} {Γ : List (Option VA)} {i : Nat} {v : V} {A : VA} (h : Env F σ Γ) (a : A.P F v) : Env F (σ.set i (some v)) (Γ.set i (some A)) := by
  refine ⟨by rw [List.length_set, List.length_set]; exact h.1, fun k B q => ?_⟩
  by_cases hk : i = k
  · subst hk
    have lt : i < Γ.length := by have := getlt q; rwa [List.length_set] at this
    rw [List.getElem?_set_self lt] at q
    cases q
    exact ⟨v, by rw [List.getElem?_set_self (by rw [h.1]; exact lt)], a⟩
  · rw [List.getElem?_set_ne hk] at q
    obtain ⟨w, h1, h2⟩ := h.2 k B q
    exact ⟨w, by rw [List.getElem?_set_ne hk]; exact h1, h2⟩
/-- what is known of slots is left -/
theorem Env.weak {F : Hp} {σ : St} {Γ Γ' : List (Option VA)} (h : Env F σ Γ) (hl : Γ'.length = Γ.length) (k : ∀ (i : Nat) A, Γ'[i]? = some (some A) → Γ[i]? = some (some A)) : Env F σ Γ' := ⟨h.1.trans hl.symm, fun i A q => h.2 i A (k i A q)⟩

/-! ### expressions -/
def XG (te : TE) (Γ : List (Option VA)) (Ω : List OA) (R : Hp → V → List OA → Prop) : Prop :=
  ∀ F σ H, Env F σ Γ → Holds F Ω H → ∀ Q : VK, (∀ F' v H' Ω', Same F F' → Holds F' Ω' H' → R F' v Ω' → Q v H') → te σ H Q
abbrev XE (te : TE) (Γ : List (Option VA)) (Ω : List OA) (A : VA) (Ω2 : List OA) : Prop := XG te Γ Ω fun F v Ω' => A.P F v ∧ Ω' = Ω2
def XT (t : TT) (Γ : List (Option VA)) (Ω : List OA) (b : Bool) (Ω2 : List OA) : Prop :=
  ∀ F σ H, Env F σ Γ → Holds F Ω H → ∀ Q : Bool → Hp → Prop, (∀ F' H', Same F F' → Holds F' Ω2 H' → Q b H') → t σ H Q
def AlA (F : Hp) (vs : List V) (As : List VA) : Prop := Paired (fun v (A : VA) => A.P F v) vs As
theorem AlA.mono {F F' : Hp} (e : Same F F') : ∀ {vs : List V} {As : List VA}, AlA F vs As → AlA F' vs As
  | _, _, .nil => .nil
  | _, _, .cons (b := A) h t => .cons (A.mono e h) (AlA.mono e t)
theorem AlA.len {F : Hp} : ∀ {vs : List V} {As : List VA}, AlA F vs As → vs.length = As.length
  | _, _, .nil => rfl
  | _, _, .cons _ t => congrArg (· + 1) (AlA.len t)
theorem AlA.app {F : Hp} : ∀ {vs ws : List V} {As Bs : List VA}, AlA F vs As → AlA F ws Bs → AlA F (vs ++ ws) (As ++ Bs)
  | _, _, _, _, .nil, h => h
  | _, _, _, _, .cons q t, h => .cons q (AlA.app t h)
def XA (t : TA) (Γ : List (Option VA)) (Ω : List OA) (As : List VA) (Ω2 : List OA) : Prop :=
  ∀ F σ H, Env F σ Γ → Holds F Ω H → ∀ Q : List V → Hp → Prop, (∀ F' vs H', Same F F' → Holds F' Ω2 H' → AlA F' vs As → Q vs H') → t σ H Q
/-- a one-place, two-place operation on values, a call on values -/
def RO (r : R2) (Ω : List OA) (A B C : VA) : Prop := ∀ F H x y, Holds F Ω H → A.P F x → B.P F y → ∀ Q : VK, (∀ F' v H', Same F F' → Holds F' Ω H' → C.P F' v → Q v H') → r x y H Q
def RU (r : V → Hp → VK → Prop) (Ω : List OA) (A C : VA) : Prop := ∀ F H x, Holds F Ω H → A.P F x → ∀ Q : VK, (∀ F' v H', Same F F' → Holds F' Ω H' → C.P F' v → Q v H') → r x H Q
def RC (r : List V → Hp → VK → Prop) (Ω : List OA) (As : List VA) (C : VA) : Prop := ∀ F H vs, Holds F Ω H → AlA F vs As → ∀ Q : VK, (∀ F' v H', Same F F' → Holds F' Ω H' → C.P F' v → Q v H') → r vs H Q

section
variable {T : TC} {Γ : List (Option VA)} {Ω Ω1 Ω2 : List OA} {A B C : VA} {ta tb te : TE} {t u : TT} {i j n m : Int} {b c : Bool}
theorem xe_var {i : Nat} (h : Γ[i]? = some (some A)) : XE (tVar i) Γ Ω A Ω := fun F σ H e hh Q q => by
  obtain ⟨v, h1, h2⟩ := e.2 i A h
  exact ⟨v, h1, q F v H Ω (Same.refl F) hh ⟨h2, rfl⟩⟩
theorem xe_c {v : V} (h : ∀ F, A.P F v) : XE (tC v) Γ Ω A Ω := fun F σ H e hh Q q => q F v H Ω (Same.refl F) hh ⟨h F, rfl⟩
theorem xe_int : XE (tC (.int n)) Γ Ω (va T n) Ω := xe_c fun _ => rfl
theorem xe_bl : XE (tC (.bl b)) Γ Ω (va T b) Ω := xe_c fun _ => rfl
theorem xe_str {s : Str} : XE (tC (.str s)) Γ Ω (va T s) Ω := xe_c fun _ => rfl
theorem xe_non : XE (tC .non) Γ Ω (va T ()) Ω := xe_c fun _ => rfl
theorem xe_op {r : R2} (ha : XE ta Γ Ω A Ω1) (hb : XE tb Γ Ω1 B Ω2) (hr : RO r Ω2 A B C) : XE (tOp r ta tb) Γ Ω C Ω2 := fun F σ H e hh Q q => by
  refine ha F σ H e hh _ fun F1 x H1 Ω' e1 hh1 ⟨a1, o1⟩ => ?_
  subst o1
  refine hb F1 σ H1 (e.mono e1) hh1 _ fun F2 y H2 Ω'' e2 hh2 ⟨a2, o2⟩ => ?_
  subst o2
  exact hr F2 H2 x y hh2 (A.mono e2 a1) a2 Q fun F3 v H3 e3 hh3 a3 => q F3 v H3 _ ((e1.trans e2).trans e3) hh3 ⟨a3, rfl⟩
theorem xe_un {r : V → Hp → VK → Prop} (ha : XE ta Γ Ω A Ω1) (hr : RU r Ω1 A C) : XE (tUn r ta) Γ Ω C Ω1 := fun F σ H e hh Q q => by
  refine ha F σ H e hh _ fun F1 x H1 Ω' e1 hh1 ⟨a1, o1⟩ => ?_
  subst o1
  exact hr F1 H1 x hh1 a1 Q fun F3 v H3 e3 hh3 a3 => q F3 v H3 _ (e1.trans e3) hh3 ⟨a3, rfl⟩
theorem xa_nil : XA tNil Γ Ω [] Ω := fun F σ H e hh Q q => q F [] H (Same.refl F) hh .nil
theorem xa_cons {tr : TA} {As : List VA} (ha : XE ta Γ Ω A Ω1) (hr : XA tr Γ Ω1 As Ω2) : XA (tCons ta tr) Γ Ω (A :: As) Ω2 := fun F σ H e hh Q q => by
  refine ha F σ H e hh _ fun F1 x H1 Ω' e1 hh1 ⟨a1, o1⟩ => ?_
  subst o1
  refine hr F1 σ H1 (e.mono e1) hh1 _ fun F2 xs H2 e2 hh2 a2 => ?_
  exact q F2 (x :: xs) H2 (e1.trans e2) hh2 (.cons (A.mono e2 a1) a2)
theorem xe_cb {r : List V → Hp → VK → Prop} {t : TA} {As : List VA} (ha : XA t Γ Ω As Ω1) (hr : RC r Ω1 As C) : XE (tCB r t) Γ Ω C Ω1 := fun F σ H e hh Q q => by
  refine ha F σ H e hh _ fun F1 xs H1 e1 hh1 a1 => ?_
  exact hr F1 H1 xs hh1 a1 Q fun F3 v H3 e3 hh3 a3 => q F3 v H3 _ (e1.trans e3) hh3 ⟨a3, rfl⟩
/-- the same with another word for it -/
theorem XG.imp {R R' : Hp → V → List OA → Prop} (h : XG te Γ Ω R) (k : ∀ F v Ω', R F v Ω' → R' F v Ω') : XG te Γ Ω R' := fun F σ H e hh Q q => h F σ H e hh Q fun F' v H' Ω' e' hh' r => q F' v H' Ω' e' hh' (k _ _ _ r)
theorem XE.to (h : XE te Γ Ω A Ω1) (k : ∀ F v, A.P F v → B.P F v) : XE te Γ Ω B Ω1 := h.imp fun F v Ω' ⟨a, o⟩ => ⟨k F v a, o⟩
theorem xe_eq {α : Type} [Rp α] {a a' : α} (h : XE te Γ Ω (va T a) Ω1) (e : a = a') : XE te Γ Ω (va T a') Ω1 := e ▸ h

/-! ints -/
theorem ro_I0 {g : Int → Int → V} (h : ∀ F, C.P F (g i j)) : RO (rI0 g) Ω (va T i) (va T j) C := fun F H x y hh a1 a2 Q q => ⟨i, j, a1, a2, q F _ H (Same.refl F) hh (h F)⟩
theorem ro_I {D : Int → Int → Prop} {g : Int → Int → V} (hd : D i j) (h : ∀ F, C.P F (g i j)) : RO (rI D g) Ω (va T i) (va T j) C := fun F H x y hh a1 a2 Q q => ⟨i, j, a1, a2, hd, q F _ H (Same.refl F) hh (h F)⟩
theorem ro_int {g : Int → Int → Int} : RO (rI0 fun i j => .int (g i j)) Ω (va T i) (va T j) (va T (g i j)) := ro_I0 fun _ => rfl
theorem ro_intD {D : Int → Int → Prop} {g : Int → Int → Int} (hd : D i j) : RO (rI D fun i j => .int (g i j)) Ω (va T i) (va T j) (va T (g i j)) := ro_I hd fun _ => rfl
theorem ro_bl {g : Int → Int → Bool} : RO (rI0 fun i j => .bl (g i j)) Ω (va T i) (va T j) (va T (g i j)) := ro_I0 fun _ => rfl
theorem ru_int {g : Int → Int} : RU (rU fun i => .int (g i)) Ω (va T i) (va T (g i)) := fun F H x hh a1 Q q => ⟨i, a1, q F _ H (Same.refl F) hh rfl⟩
theorem ro_eqI : RO rEq Ω (va T i) (va T j) (va T (decide (i = j))) := fun F H x y hh a1 a2 Q q => by
  have a1 : x = .int i := a1
  have a2 : y = .int j := a2
  subst a1 a2
  refine ⟨rfl, q F _ H (Same.refl F) hh ?_⟩
  show V.bl _ = V.bl _
  congr 1
  exact decide_eq_decide.mpr ⟨V.int.inj, fun h => by rw [h]⟩
theorem ro_neI : RO rNe Ω (va T i) (va T j) (va T (!decide (i = j))) := fun F H x y hh a1 a2 Q q => by
  have a1 : x = .int i := a1
  have a2 : y = .int j := a2
  subst a1 a2
  refine ⟨rfl, q F _ H (Same.refl F) hh ?_⟩
  show V.bl _ = V.bl _
  congr 2
  exact decide_eq_decide.mpr ⟨V.int.inj, fun h => by rw [h]⟩
/-! tests -/
theorem xt_test (h : XE te Γ Ω (va T b) Ω1) : XT (tTest te) Γ Ω b Ω1 := fun F σ H e hh Q q => by
  refine h F σ H e hh _ fun F1 x H1 Ω' e1 hh1 ⟨a1, o1⟩ => ?_
  subst o1
  exact ⟨b, a1, q F1 H1 e1 hh1⟩
theorem xt_tB (h : XE te Γ Ω (va T b) Ω1) : XT (tB te) Γ Ω b Ω1 := xt_test (T := T) h
theorem xt_or (h1 : XT t Γ Ω b Ω1) (h2 : b = false → XT u Γ Ω1 c Ω2) (h3 : b = true → Ω1 = Ω2) : XT (tOr t u) Γ Ω (b || c) Ω2 := fun F σ H e hh Q q => by
  refine h1 F σ H e hh _ fun F1 H1 e1 hh1 => ?_
  cases b with
  | false => rw [if_neg Bool.false_ne_true]; exact h2 rfl F1 σ H1 (e.mono e1) hh1 Q fun F2 H2 e2 hh2 => q F2 H2 (e1.trans e2) hh2
  | true => rw [if_pos rfl]; exact q F1 H1 e1 (h3 rfl ▸ hh1)
theorem xt_not (h1 : XT t Γ Ω b Ω1) : XT (tNot t) Γ Ω (!b) Ω1 := fun F σ H e hh Q q => h1 F σ H e hh _ q
theorem xt_eq (h : XT t Γ Ω b Ω1) (e : b = c) : XT t Γ Ω c Ω1 := e ▸ h
theorem xe_if (h : XT t Γ Ω b Ω1) (h1 : b = true → XE ta Γ Ω1 A Ω2) (h2 : b = false → XE tb Γ Ω1 A Ω2) : XE (tIf t ta tb) Γ Ω A Ω2 := fun F σ H e hh Q q => by
  refine h F σ H e hh _ fun F1 H1 e1 hh1 => ?_
  cases b with
  | true => rw [if_pos rfl]; exact h1 rfl F1 σ H1 (e.mono e1) hh1 Q fun F2 v H2 Ω' e2 hh2 r => q F2 v H2 Ω' (e1.trans e2) hh2 r
  | false => rw [if_neg Bool.false_ne_true]; exact h2 rfl F1 σ H1 (e.mono e1) hh1 Q fun F2 v H2 Ω' e2 hh2 r => q F2 v H2 Ω' (e1.trans e2) hh2 r
theorem xe_andV (h1 : XE ta Γ Ω (va T b) Ω) (h2 : b = true → XE tb Γ Ω (va T c) Ω) : XE (tAndV ta tb) Γ Ω (va T (b && c)) Ω := fun F σ H e hh Q q => by
  refine h1 F σ H e hh _ fun F1 x H1 Ω' e1 hh1 ⟨a1, o1⟩ => ?_
  subst o1
  refine ⟨b, a1, ?_⟩
  cases b with
  | true => rw [if_pos rfl]; exact h2 rfl F1 σ H1 (e.mono e1) hh1 Q fun F2 v H2 Ω'' e2 hh2 r => q F2 v H2 Ω'' (e1.trans e2) hh2 r
  | false => rw [if_neg Bool.false_ne_true]; exact q F1 _ H1 _ e1 hh1 ⟨rfl, rfl⟩
theorem xe_notV (h1 : XE ta Γ Ω (va T b) Ω1) : XE (tNotV ta) Γ Ω (va T (!b)) Ω1 := fun F σ H e hh Q q => by
  refine h1 F σ H e hh _ fun F1 x H1 Ω' e1 hh1 ⟨a1, o1⟩ => ?_
  exact ⟨b, a1, q F1 _ H1 _ e1 hh1 ⟨rfl, o1⟩⟩
theorem xe_chain {r r' : R2} {D : VA} {tc : TE} (ha : XE ta Γ Ω A Ω) (hb : XE tb Γ Ω B Ω) (hr : RO r Ω A B (va T b)) (hc : b = true → XE tc Γ Ω D Ω) (hr' : b = true → RO r' Ω B D (va T c)) : XE (tChain r r' ta tb tc) Γ Ω (va T (b && c)) Ω := fun F σ H e hh Q q => by
  refine ha F σ H e hh _ fun F1 x H1 Ω' e1 hh1 ⟨a1, o1⟩ => ?_
  subst o1
  refine hb F1 σ H1 (e.mono e1) hh1 _ fun F2 y H2 Ω'' e2 hh2 ⟨a2, o2⟩ => ?_
  subst o2
  refine hr F2 H2 x y hh2 (A.mono e2 a1) a2 _ fun F3 v H3 e3 hh3 a3 => ⟨b, a3, ?_⟩
  cases b with
  | true =>
    rw [if_pos rfl]
    refine hc rfl F3 σ H3 (e.mono ((e1.trans e2).trans e3)) hh3 _ fun F4 z H4 Ω3 e4 hh4 ⟨a4, o4⟩ => ?_
    subst o4
    exact hr' rfl F4 H4 y z hh4 (B.mono (e3.trans e4) a2) a4 Q fun F5 w H5 e5 hh5 a5 => q F5 w H5 _ ((((e1.trans e2).trans e3).trans e4).trans e5) hh5 ⟨a5, rfl⟩
  | false => rw [if_neg Bool.false_ne_true]; exact q F3 _ H3 _ ((e1.trans e2).trans e3) hh3 ⟨rfl, rfl⟩
end
end VL

set_option Elab.async false
set_option linter.all false
set_option maxRecDepth 100000
/-! lists, fields, calls, statements -/
namespace VL
open PySem L2

/-! ### defs' promises -/
/-- a promise: of the arguments As in the state Ω, what comes of it -/
abbrev PreT := List VA → List OA → (Hp → V → List OA → Prop) → Prop
def mkSp (Pre : PreT) : Sp := fun vs H Q _ => ∃ F Ω As R, Pre As Ω R ∧ AlA F vs As ∧ Holds F Ω H ∧ ∀ F' v H' Ω', Same F F' → Holds F' Ω' H' → R F' v Ω' → Q v H'
/-- hands back a, leaves Ω2 -/
abbrev RV (A : VA) (Ω2 : List OA) : Hp → V → List OA → Prop := fun F v Ω' => A.P F v ∧ Ω' = Ω2
/-- hands back a new changing thing -/
abbrev RN (Ω2 : List OA) (o : Addr → OA) : Hp → V → List OA → Prop := fun F v Ω' => ∃ p, v = .ref p ∧ Ω' = Ω2 ++ [o p]

/-! ### the changing things by place: those of the caller at the places ks, then a def's own -/
def apk (Ω : List OA) : List (Nat × OA) → List OA
  | [] => Ω
  | p :: r => (apk Ω r).set p.1 p.2
def stt (Ω : List OA) (ks : List (Nat × OA)) (L : List OA) : List OA := apk Ω ks ++ L
theorem apk_len {Ω : List OA} : ∀ ks : List (Nat × OA), (apk Ω ks).length = Ω.length
  | [] => rfl
  | p :: r => by unfold apk; rw [List.length_set, apk_len r]
/-- the places differ and are there -/
structure Okk (Ω : List OA) (keys : List Nat) : Prop where
  nd : keys.Nodup
  lt : ∀ k ∈ keys, k < Ω.length
theorem apk_get {Ω : List OA} : ∀ {ks : List (Nat × OA)} {i : Nat} {k : Nat} {o : OA}, (ks.map (·.1)).Nodup → k < Ω.length → ks[i]? = some (k, o) → (apk Ω ks)[k]? = some o
  | [], _, _, _, _, _, h => by simp at h
  | p :: r, 0, k, o, _, lt, h => by
    cases h
    unfold apk
    rw [List.getElem?_set_self (by rw [apk_len]; exact lt)]
  | p :: r, i + 1, k, o, nd, lt, h => by
    have h : r[i]? = some (k, o) := h
    unfold apk
    obtain ⟨h1, h2⟩ := List.nodup_cons.mp (show (p.1 :: r.map (·.1)).Nodup from nd)
    have ne : p.1 ≠ k := fun e => h1 (List.mem_map.mpr ⟨(k, o), List.mem_of_getElem? h, e.symm⟩)
    rw [List.getElem?_set_ne ne]
    exact apk_get h2 lt h
theorem apk_set {Ω : List OA} : ∀ {ks : List (Nat × OA)} {i : Nat} {k : Nat} {o o' : OA}, (ks.map (·.1)).Nodup → ks[i]? = some (k, o) → (apk Ω ks).set k o' = apk Ω (ks.set i (k, o'))
  | [], _, _, _, _, _, h => by simp at h
  | p :: r, 0, k, o, o', _, h => by
    cases h
    show ((apk Ω r).set k o).set k o' = (apk Ω r).set k o'
    rw [List.set_set]
  | p :: r, i + 1, k, o, o', nd, h => by
    have h : r[i]? = some (k, o) := h
    obtain ⟨h1, h2⟩ := List.nodup_cons.mp (show (p.1 :: r.map (·.1)).Nodup from nd)
    have ne : p.1 ≠ k := fun e => h1 (List.mem_map.mpr ⟨(k, o), List.mem_of_getElem? h, e.symm⟩)
    show ((apk Ω r).set p.1 p.2).set k o' = (apk Ω (r.set i (k, o'))).set p.1 p.2
    rw [List.set_comm _ _ ne, apk_set h2 h]
theorem apk_self {Ω : List OA} : ∀ {ks : List (Nat × OA)}, (∀ p ∈ ks, Ω[p.1]? = some p.2) → apk Ω ks = Ω
  | [], _ => rfl
  | p :: r, h => by
    unfold apk
    rw [apk_self fun q hq => h q (List.mem_cons_of_mem _ hq)]
    apply List.ext_getElem?
    intro k
    have hp := h p List.mem_cons_self
    by_cases e : p.1 = k
    · subst e; rw [List.getElem?_set_self (getlt hp), hp]
    · rw [List.getElem?_set_ne e]
section
variable {Ω : List OA} {keys : List Nat} {ks : List (Nat × OA)} {L : List OA} {i j k : Nat} {o o' : OA}
theorem stt_get (ok : Okk Ω keys) (h : ks[i]? = some (k, o)) (hk : ks.map (·.1) = keys := by rfl) : (stt Ω ks L)[k]? = some o := by
  subst hk
  have hm : k ∈ ks.map (·.1) := List.mem_map.mpr ⟨(k, o), List.mem_of_getElem? h, rfl⟩
  have lt := ok.lt k hm
  unfold stt
  rw [List.getElem?_append_left (by rw [apk_len]; exact lt)]
  exact apk_get ok.nd lt h
theorem stt_set (ok : Okk Ω keys) (h : ks[i]? = some (k, o)) (hk : ks.map (·.1) = keys := by rfl) : (stt Ω ks L).set k o' = stt Ω (ks.set i (k, o')) L := by
  subst hk
  have hm : k ∈ ks.map (·.1) := List.mem_map.mpr ⟨(k, o), List.mem_of_getElem? h, rfl⟩
  have lt := ok.lt k hm
  unfold stt
  rw [List.set_append_left _ _ (by rw [apk_len]; exact lt), apk_set ok.nd h]
theorem stt_getL (h : L[j]? = some o) : (stt Ω ks L)[Ω.length + j]? = some o := by
  unfold stt
  rw [List.getElem?_append_right (by rw [apk_len]; omega), apk_len, Nat.add_sub_cancel_left]
  exact h
theorem stt_setL : (stt Ω ks L).set (Ω.length + j) o' = stt Ω ks (L.set j o') := by
  unfold stt
  rw [List.set_append_right _ _ (by rw [apk_len]; omega), apk_len, Nat.add_sub_cancel_left]
theorem stt_app : stt Ω ks L ++ [o] = stt Ω ks (L ++ [o]) := List.append_assoc _ _ _
theorem stt_self (h : ∀ p ∈ ks, Ω[p.1]? = some p.2) : stt Ω ks [] = Ω := by
  unfold stt
  rw [apk_self h, List.append_nil]
theorem stt_nil : stt Ω ks [] = apk Ω ks := List.append_nil _
theorem apk_out {Ω : List OA} : ∀ {ks : List (Nat × OA)}, k ∉ ks.map (·.1) → (apk Ω ks)[k]? = Ω[k]?
  | [], _ => rfl
  | p :: r, h => by
    unfold apk
    have h : k ∉ p.1 :: r.map (·.1) := h
    rw [List.getElem?_set_ne (fun e => h (by rw [e]; exact List.mem_cons_self))]
    exact apk_out fun m => h (List.mem_cons_of_mem _ m)
theorem stt_getU (h : Ω[k]? = some o) (hn : k ∉ ks.map (·.1) := by simp) : (stt Ω ks L)[k]? = some o := by
  unfold stt
  rw [List.getElem?_append_left (by rw [apk_len]; exact getlt h), apk_out hn]
  exact h
theorem cal0 : stt (stt Ω ks L) [] [] = stt Ω ks L := List.append_nil _
theorem stt_one {Ω : List OA} : stt Ω [(k, o)] [] = Ω.set k o := List.append_nil _
theorem cal1 (ok : Okk Ω keys) (h : ks[i]? = some (k, o)) (hk : ks.map (·.1) = keys := by rfl) : stt (stt Ω ks L) [(k, o')] [] = stt Ω (ks.set i (k, o')) L := stt_one.trans (stt_set ok h hk)
theorem cal1L : stt (stt Ω ks L) [(Ω.length + j, o')] [] = stt Ω ks (L.set j o') := stt_one.trans stt_setL
theorem okk0 : Okk Ω [] := ⟨by simp, fun k h => by cases h⟩
theorem okk1 (h : Ω[k]? = some o) : Okk Ω [k] := ⟨by simp, fun m hm => by rw [List.mem_singleton.mp hm]; exact getlt h⟩
end
section
variable {T : TC} {Γ : List (Option VA)} {Ω Ω1 Ω2 : List OA} {A B C : VA} {As : List VA} {ta tb te : TE} {t u : TT} {i j n m : Int} {b c : Bool}
theorem xg_call {Pre : PreT} {E : XK} {t : TA} {R : Hp → V → List OA → Prop} (ha : XA t Γ Ω As Ω1) (hp : Pre As Ω1 R) : XG (tCall (mkSp Pre) [] E t) Γ Ω R := fun F σ H e hh Q q => by
  refine ha F σ H e hh _ fun F1 xs H1 e1 hh1 a1 => ?_
  refine ⟨F1, Ω1, As, R, hp, by rw [List.append_nil]; exact a1, hh1, fun F' v H' Ω' e' hh' r => q F' v H' Ω' (e1.trans e') hh' r⟩
/-! ### the state ahead of a statement -/
def NX (F0 : Hp) (Γ : List (Option VA)) (Ω : List OA) : St → Hp → Prop := fun σ H => ∃ F, Same F0 F ∧ Env F σ Γ ∧ Holds F Ω H
def RT (F0 : Hp) (R : Hp → V → List OA → Prop) : VK → Prop := fun Q => ∀ F v H Ω, Same F0 F → Holds F Ω H → R F v Ω → Q v H
def XS (t : TS) (D : Ends) (F0 : Hp) (Γ : List (Option VA)) (Ω : List OA) : Prop := ∀ σ H, NX F0 Γ Ω σ H → t D σ H
theorem RT.mono {F0 F1 : Hp} {R : Hp → V → List OA → Prop} {Q : VK} (k : RT F0 R Q) (e : Same F0 F1) : RT F1 R Q := fun F v H Ω f hh r => k F v H Ω (e.trans f) hh r
variable {D : Ends} {F0 : Hp} {t1 t2 ts : TS} {R : Hp → V → List OA → Prop}
theorem xs_set {k : Nat} (h : XE te Γ Ω A Ω1) (q : XS ts D F0 (Γ.set k (some A)) Ω1) : XS (tSeq (tAsg te (gName k)) ts) D F0 Γ Ω := fun σ H ⟨F, f0, e, hh⟩ =>
  h F σ H e hh _ fun F1 v H1 Ω' e1 hh1 ⟨a1, o1⟩ => q _ H1 ⟨F1, f0.trans e1, (e.mono e1).set a1, o1 ▸ hh1⟩
theorem xs_setN {k : Nat} {o : Addr → OA} (h : XG te Γ Ω (RN Ω1 o)) (q : ∀ p, XS ts D F0 (Γ.set k (some (vr p))) (Ω1 ++ [o p])) : XS (tSeq (tAsg te (gName k)) ts) D F0 Γ Ω := fun σ H ⟨F, f0, e, hh⟩ =>
  h F σ H e hh _ fun F1 v H1 Ω' e1 hh1 ⟨p, a1, o1⟩ => q p _ H1 ⟨F1, f0.trans e1, (e.mono e1).set (A := vr p) a1, o1 ▸ hh1⟩
theorem xs_drop (h : XE te Γ Ω A Ω1) (q : XS ts D F0 Γ Ω1) : XS (tSeq (tDrop te) ts) D F0 Γ Ω := fun σ H ⟨F, f0, e, hh⟩ =>
  h F σ H e hh _ fun F1 v H1 Ω' e1 hh1 ⟨_, o1⟩ => q σ H1 ⟨F1, f0.trans e1, e.mono e1, o1 ▸ hh1⟩
/-- the same as the block's last statement -/
theorem xs_set1 {k : Nat} (h : XE te Γ Ω A Ω1) (q : ∀ σ H, NX F0 (Γ.set k (some A)) Ω1 σ H → D.nx σ H) : XS (tAsg te (gName k)) D F0 Γ Ω := fun σ H ⟨F, f0, e, hh⟩ =>
  h F σ H e hh _ fun F1 v H1 Ω' e1 hh1 ⟨a1, o1⟩ => q _ H1 ⟨F1, f0.trans e1, (e.mono e1).set a1, o1 ▸ hh1⟩
theorem xs_drop1 (h : XE te Γ Ω A Ω1) (q : ∀ σ H, NX F0 Γ Ω1 σ H → D.nx σ H) : XS (tDrop te) D F0 Γ Ω := fun σ H ⟨F, f0, e, hh⟩ =>
  h F σ H e hh _ fun F1 v H1 Ω' e1 hh1 ⟨_, o1⟩ => q σ H1 ⟨F1, f0.trans e1, e.mono e1, o1 ▸ hh1⟩
theorem xs_ret (h : XG te Γ Ω R) (q : RT F0 R D.rt) : XS (tRet te) D F0 Γ Ω := fun σ H ⟨F, f0, e, hh⟩ =>
  h F σ H e hh _ fun F1 v H1 Ω' e1 hh1 r => q F1 v H1 Ω' (f0.trans e1) hh1 r
/-- what is made in a def and not told is left -/
theorem RT.drop {Q : VK} {A : VA} {o : OA} (k : RT F0 (RV A Ω) Q) : RT F0 (RV A (Ω ++ [o])) Q := fun F v H Ω' f hh ⟨a, e⟩ => by
  subst e
  exact k F v H Ω f hh.drop ⟨a, rfl⟩
theorem xs_ifT (h : XT t Γ Ω true Ω1) (q : XS t1 { D with nx := ts D } F0 Γ Ω1) : XS (tSeq (tIfS t t1 t2) ts) D F0 Γ Ω := fun σ H ⟨F, f0, e, hh⟩ =>
  h F σ H e hh _ fun F1 H1 e1 hh1 => by rw [if_pos rfl]; exact q σ H1 ⟨F1, f0.trans e1, e.mono e1, hh1⟩
theorem xs_ifF (h : XT t Γ Ω false Ω1) (q : XS t2 { D with nx := ts D } F0 Γ Ω1) : XS (tSeq (tIfS t t1 t2) ts) D F0 Γ Ω := fun σ H ⟨F, f0, e, hh⟩ =>
  h F σ H e hh _ fun F1 H1 e1 hh1 => by rw [if_neg Bool.false_ne_true]; exact q σ H1 ⟨F1, f0.trans e1, e.mono e1, hh1⟩
theorem xs_ifT1 (h : XT t Γ Ω true Ω1) (q : XS t1 D F0 Γ Ω1) : XS (tIfS t t1 t2) D F0 Γ Ω := fun σ H ⟨F, f0, e, hh⟩ =>
  h F σ H e hh _ fun F1 H1 e1 hh1 => by rw [if_pos rfl]; exact q σ H1 ⟨F1, f0.trans e1, e.mono e1, hh1⟩
theorem xs_ifF1 (h : XT t Γ Ω false Ω1) (q : XS t2 D F0 Γ Ω1) : XS (tIfS t t1 t2) D F0 Γ Ω := fun σ H ⟨F, f0, e, hh⟩ =>
  h F σ H e hh _ fun F1 H1 e1 hh1 => by rw [if_neg Bool.false_ne_true]; exact q σ H1 ⟨F1, f0.trans e1, e.mono e1, hh1⟩
/-- a statement, a word between, the rest -/
theorem xs_cut {Γ' : List (Option VA)} {Ω' : List OA} (h : XS t1 { D with nx := NX F0 Γ' Ω' } F0 Γ Ω) (k : XS ts D F0 Γ' Ω') : XS (Evl.tCut t1 ts) D F0 Γ Ω := fun σ H n => ⟨NX F0 Γ' Ω', h σ H n, fun σ' H' m => k σ' H' m⟩
/-- what is known is left -/
theorem NX.weak {Γ' : List (Option VA)} {σ : St} {H : Hp} (h : NX F0 Γ Ω σ H) (hl : Γ'.length = Γ.length) (k : ∀ (i : Nat) A, Γ'[i]? = some (some A) → Γ[i]? = some (some A)) : NX F0 Γ' Ω σ H :=
  let ⟨F, f0, e, hh⟩ := h
  ⟨F, f0, e.weak hl k, hh⟩
theorem NX.drop {o : OA} {σ : St} {H : Hp} (h : NX F0 Γ (Ω ++ [o]) σ H) : NX F0 Γ Ω σ H := let ⟨F, f0, e, hh⟩ := h; ⟨F, f0, e, hh.drop⟩
/-- what an expression makes anew becomes frozen -/
theorem xe_fz {α : Type} [Rp α] {l : List α} (h : XG te Γ Ω (RN Ω1 fun p => lstA T p l)) : XE te Γ Ω (va T (LF.mk l)) Ω1 := fun F σ H e hh Q q =>
  h F σ H e hh Q fun F1 v H1 Ω' e1 hh1 ⟨p, hv, o1⟩ => by
    subst o1
    obtain ⟨F', t, s1, s2, ⟨vs, ht, al⟩, hh'⟩ := hh1.freeze
    exact q F' v H1 _ (e1.trans s1) hh' ⟨⟨p, vs, hv, s2 _ _ ht, al.mono s1⟩, rfl⟩
theorem xs_seq (h : XS t1 { D with nx := ts D } F0 Γ Ω) : XS (tSeq t1 ts) D F0 Γ Ω := h
theorem xt_orO {mb : Option Bool} {v : Bool} (h1 : XT t Γ Ω b Ω) (hm : (if b = true then some true else mb) = some v) (h2 : ∀ v, mb = some v → XT u Γ Ω v Ω) : XT (tOr t u) Γ Ω v Ω := fun F σ H e hh Q q => by
  refine h1 F σ H e hh _ fun F1 H1 e1 hh1 => ?_
  cases b with
  | false =>
    rw [if_neg Bool.false_ne_true] at hm ⊢
    exact h2 v hm F1 σ H1 (e.mono e1) hh1 Q fun F2 H2 e2 hh2 => q F2 H2 (e1.trans e2) hh2
  | true =>
    rw [if_pos rfl] at hm ⊢
    cases hm
    exact q F1 H1 e1 hh1
/-- a known way through a test -/
theorem xt_orF (h1 : XT t Γ Ω false Ω1) (h2 : XT u Γ Ω1 false Ω2) : XT (tOr t u) Γ Ω false Ω2 := xt_or (b := false) (c := false) h1 (fun _ => h2) (fun h => nomatch h)
theorem xe_andT (h1 : XE ta Γ Ω (va T true) Ω1) (h2 : XE tb Γ Ω1 (va T b) Ω2) : XE (tAndV ta tb) Γ Ω (va T b) Ω2 := fun F σ H e hh Q q => by
  refine h1 F σ H e hh _ fun F1 x H1 Ω' e1 hh1 ⟨a1, o1⟩ => ?_
  subst o1
  refine ⟨true, a1, ?_⟩
  rw [if_pos rfl]
  exact h2 F1 σ H1 (e.mono e1) hh1 Q fun F2 v H2 Ω'' e2 hh2 r => q F2 v H2 Ω'' (e1.trans e2) hh2 r
theorem xt_notF (h1 : XT t Γ Ω true Ω1) : XT (tNot t) Γ Ω false Ω1 := xt_not h1
theorem xt_notT (h1 : XT t Γ Ω false Ω1) : XT (tNot t) Γ Ω true Ω1 := xt_not h1
/-- what an expression's value must be to go on -/
def chk (b : Bool) : Option Unit := if b = true then some () else none
theorem xs_setO {k : Nat} {ks : List (Nat × OA)} {L : List OA} {o : Addr → OA} {Ω0 : List OA} (h : XG te Γ Ω0 (RN (stt Ω ks L) o)) (q : ∀ p, XS ts D F0 (Γ.set k (some (vr p))) (stt Ω ks (L ++ [o p]))) : XS (tSeq (tAsg te (gName k)) ts) D F0 Γ Ω0 :=
  xs_setN h fun p => by rw [stt_app]; exact q p
theorem xe_call {Pre : PreT} {E : XK} {t : TA} {Ω' : List OA} (ha : XA t Γ Ω As Ω1) (hp : Pre As Ω1 (RV A Ω')) (he : Ω' = Ω2) : XE (tCall (mkSp Pre) [] E t) Γ Ω A Ω2 := he ▸ xg_call ha hp
theorem xn_call {Pre : PreT} {E : XK} {t : TA} {Ω' : List OA} {o : Addr → OA} (ha : XA t Γ Ω As Ω1) (hp : Pre As Ω1 (RN Ω' o)) (he : Ω' = Ω2) : XG (tCall (mkSp Pre) [] E t) Γ Ω (RN Ω2 o) := he ▸ xg_call ha hp
theorem NX.forget {σ : L2.St} {H : Hp} (h : NX F0 Γ Ω σ H) (k : Nat) : NX F0 (Γ.set k none) Ω σ H := h.weak (by rw [List.length_set]) fun i A q => by
  by_cases e : k = i
  · subst e
    have lt : k < Γ.length := by have := getlt q; rwa [List.length_set] at this
    rw [List.getElem?_set_self lt] at q
    cases q
  · rwa [List.getElem?_set_ne e] at q
/-- nothing -/
def nilA : OA := ⟨fun _ _ => True, fun _ _ => trivial⟩
theorem Holds.freezeAt {F H : Hp} {Ω : List OA} {o : OA} {i : Nat} (h : Holds F Ω H) (q : Ω[i]? = some o) : ∃ F' t, Same F F' ∧ Same t F' ∧ o.P F t ∧ Holds F' (Ω.set i nilA) H := by
  obtain ⟨ts, h1, h2, h3, h4, h5⟩ := h
  have lt := getlt q
  have d : ∀ b x, ts i b = some x → F b = none := fun b x e => h4 i b x lt e
  refine ⟨cup F (ts i), ts i, cup_l, cup_r d, h1 _ _ q, fun k => if k = i then (fun _ => none) else ts k, fun k x r => ?_, fun b x e => ?_, fun k r b x e => ?_, fun k b x r e => ?_, fun k m b x r r2 ne e => ?_⟩
  · show x.P _ (if k = i then (fun _ => none) else ts k)
    by_cases hk : k = i
    · subst hk
      rw [List.getElem?_set_self lt] at r
      cases r
      exact trivial
    · rw [if_neg hk]
      rw [List.getElem?_set_ne (fun z => hk z.symm)] at r
      exact x.mono cup_l (h1 k x r)
  · rcases cup_or e with e | e
    · exact h2 b x e
    · exact h3 i lt b x e
  · rw [List.length_set] at r
    have e : (if k = i then (fun _ => none) else ts k) b = some x := e
    by_cases hk : k = i
    · rw [if_pos hk] at e; cases e
    · rw [if_neg hk] at e; exact h3 k r b x e
  · rw [List.length_set] at r
    have e : (if k = i then (fun _ => none) else ts k) b = some x := e
    by_cases hk : k = i
    · rw [if_pos hk] at e; cases e
    · rw [if_neg hk] at e
      cases z : cup F (ts i) b with
      | none => rfl
      | some y =>
        rcases cup_or z with z | z
        · exact (nn z (h4 k b x r e)).elim
        · exact (nn z (h5 k i b x r lt hk e)).elim
  · rw [List.length_set] at r r2
    have e : (if k = i then (fun _ => none) else ts k) b = some x := e
    show (if m = i then (fun _ => none) else ts m) b = none
    by_cases hm : m = i
    · rw [if_pos hm]
    · rw [if_neg hm]
      by_cases hk : k = i
      · rw [if_pos hk] at e; cases e
      · rw [if_neg hk] at e; exact h5 k m b x r r2 ne e
theorem NX.fzJ {α : Type} [Rp α] {l : List α} {p : Addr} {k j : Nat} {ks : List (Nat × OA)} {L : List OA} {σ : L2.St} {H : Hp} (h : NX F0 Γ (stt Ω ks L) σ H) (hk : Γ[k]? = some (some (vr p))) (hj : L[j]? = some (lstA T p l)) : NX F0 (Γ.set k (some (va T (LF.mk l)))) (stt Ω ks (L.set j nilA)) σ H := by
  obtain ⟨F, f0, e, hh⟩ := h
  obtain ⟨F', t, s1, s2, ⟨vs, ht, al⟩, hh'⟩ := hh.freezeAt (stt_getL hj)
  rw [stt_setL] at hh'
  obtain ⟨v, h1, h2⟩ := e.2 k _ hk
  have e2 := (e.mono s1).set (i := k) (v := v) (A := va T (LF.mk l)) ⟨p, vs, h2, s2 _ _ ht, al.mono s1⟩
  have es : σ.set k (some v) = σ := by
    apply List.ext_getElem?
    intro m
    by_cases hm : k = m
    · subst hm; rw [List.getElem?_set_self (getlt h1)]; exact h1.symm
    · rw [List.getElem?_set_ne hm]
  rw [es] at e2
  exact ⟨F', f0.trans s1, e2, hh'⟩
theorem xs_fzJ {α : Type} [Rp α] {l : List α} {p : Addr} {k j : Nat} {ks : List (Nat × OA)} {L : List OA} (hk : Γ[k]? = some (some (vr p))) (hj : L[j]? = some (lstA T p l)) (q : XS ts D F0 (Γ.set k (some (va T (LF.mk l)))) (stt Ω ks (L.set j nilA))) : XS ts D F0 Γ (stt Ω ks L) := fun σ H n => q σ H (n.fzJ hk hj)
/-- one of a def's own things stays, the others are left -/
theorem Holds.sel {F H : Hp} {Ω L : List OA} {o : OA} {j : Nat} (h : Holds F (Ω ++ L) H) (q : L[j]? = some o) : Holds F (Ω ++ [o]) H := by
  obtain ⟨ts, h1, h2, h3, h4, h5⟩ := h
  have lj := getlt q
  have len : (Ω ++ L).length = Ω.length + L.length := List.length_append
  have len1 : (Ω ++ [o]).length = Ω.length + 1 := by simp
  have ix : ∀ k, k < Ω.length + 1 → (if k = Ω.length then Ω.length + j else k) < (Ω ++ L).length := fun k hk => by
    split <;> omega
  have inj : ∀ k m, k < Ω.length + 1 → m < Ω.length + 1 → k ≠ m → (if k = Ω.length then Ω.length + j else k) ≠ (if m = Ω.length then Ω.length + j else m) := fun k m hk hm ne => by
    split <;> split <;> omega
  refine ⟨fun k => ts (if k = Ω.length then Ω.length + j else k), fun k x r => ?_, h2, fun k r => h3 _ (ix k (by omega)), fun k b x r e => h4 _ b x (ix k (by omega)) e, fun k m b x r r2 ne e => h5 _ _ b x (ix k (by omega)) (ix m (by omega)) (inj k m (by omega) (by omega) ne) e⟩
  by_cases hk : k = Ω.length
  · subst hk
    rw [app_at] at r
    cases r
    show o.P F (ts (if Ω.length = Ω.length then Ω.length + j else Ω.length))
    rw [if_pos rfl]
    refine h1 _ _ ?_
    rw [List.getElem?_append_right (by omega), Nat.add_sub_cancel_left]
    exact q
  · have lt : k < Ω.length := by have := getlt r; omega
    show x.P F (ts (if k = Ω.length then Ω.length + j else k))
    rw [if_neg hk]
    rw [List.getElem?_append_left lt] at r
    refine h1 _ _ ?_
    rw [List.getElem?_append_left lt]
    exact r
theorem Holds.all {F H : Hp} {Ω : List OA} {ks : List (Nat × OA)} {L : List OA} (h : Holds F (stt Ω ks L) H) : Holds F (stt Ω ks []) H := by
  obtain ⟨ts, h1, h2, h3, h4, h5⟩ := h
  have len : (stt Ω ks L).length = (apk Ω ks).length + L.length := List.length_append
  have e : stt Ω ks [] = apk Ω ks := stt_nil
  rw [e]
  exact ⟨ts, fun i o q => h1 i o (by unfold stt; rw [List.getElem?_append_left (getlt q)]; exact q), h2, fun i q => h3 i (by omega), fun i b x q => h4 i b x (by omega), fun i j b x qi qj => h5 i j b x (by omega) (by omega)⟩
theorem RT.all {Q : VK} {A : VA} {ks : List (Nat × OA)} {L : List OA} (k : RT F0 (RV A (stt Ω ks [])) Q) : RT F0 (RV A (stt Ω ks L)) Q := fun F v H Ω' f hh ⟨a, e⟩ => by
  subst e
  exact k F v H _ f hh.all ⟨a, rfl⟩
/-- the thing at j of a def's own is handed back -/
theorem RT.hand {Q : VK} {o : Addr → OA} {p : Addr} {j : Nat} {ks : List (Nat × OA)} {L : List OA} (k : RT F0 (RN (stt Ω ks []) o) Q) (hj : L[j]? = some (o p)) : RT F0 (RV (vr p) (stt Ω ks L)) Q := fun F v H Ω' f hh ⟨a, e⟩ => by
  subst e
  refine k F v H _ f (Holds.sel (Ω := apk Ω ks) hh hj) ⟨p, a, ?_⟩
  rw [stt_nil]
theorem RT.allN {Q : VK} {o : Addr → OA} {ks : List (Nat × OA)} {L : List OA} (k : RT F0 (RN (stt Ω ks []) o) Q) : RT F0 (RN (stt Ω ks L) o) Q := fun F v H Ω' f hh ⟨p, a, e⟩ => by
  subst e
  rw [stt_app] at hh
  refine k F v H _ f (Holds.sel (Ω := apk Ω ks) (o := o p) (j := L.length) hh app_at) ⟨p, a, ?_⟩
  rw [stt_nil]
/-! ### loops -/
inductive Stp (S ρ : Type) where
  | nx (s : S) | rt (r : ρ) | bk (s : S)
def whileM {S ρ : Type} (c : S → Option Bool) (b : S → Option (Stp S ρ)) : Nat → S → Option (Stp S ρ)
  | 0, _ => none
  | n + 1, s => (c s).bind fun v => if v = true then (b s).bind fun
      | .nx s' => whileM c b n s'
      | .rt r => some (.rt r)
      | .bk s' => some (.nx s')
    else some (.nx s)
def forM' {α S ρ : Type} (b : α → S → Option (Stp S ρ)) : List α → S → Option (Stp S ρ)
  | [], s => some (.nx s)
  | x :: r, s => (b x s).bind fun
      | .nx s' => forM' b r s'
      | .rt v => some (.rt v)
      | .bk s' => some (.nx s')
/-- what a loop hands on -/
def nxt {S ρ : Type} : Stp S ρ → Option S
  | .nx s => some s
  | _ => none
def aft {S ρ : Type} (st : Stp S ρ) (k : S → Option ρ) : Option ρ := match st with
  | .nx s => k s
  | .rt r => some r
  | .bk _ => none
/-- what a block's end must lead to: st by the block's own word -/
structure To {S ρ : Type} (D : Ends) (F0 : Hp) (st : Stp S ρ) (N B : S → St → Hp → Prop) (RR : ρ → Hp → V → List OA → Prop) : Prop where
  nx : ∀ s, st = .nx s → ∀ σ H, N s σ H → D.nx σ H
  ct : ∀ s, st = .nx s → ∀ σ H, N s σ H → D.ct σ H
  bk : ∀ s, st = .bk s → ∀ σ H, B s σ H → D.bk σ H
  rt : ∀ r, st = .rt r → RT F0 (RR r) D.rt
theorem bnd_some {α β : Type} {o : Option α} {f : α → Option β} {r : β} (h : o.bind f = some r) : ∃ a, o = some a ∧ f a = some r := by
  cases o with
  | none => cases h
  | some a => exact ⟨a, rfl, h⟩
theorem xs_while {S ρ : Type} {c : S → Option Bool} {bd : S → Option (Stp S ρ)} {fuel : Nat} {s0 : S} {st : Stp S ρ} {tc : TT} {tb : TS} (G : S → List (Option VA)) (O : S → List OA) (RR : ρ → Hp → V → List OA → Prop)
    (hm : whileM c bd fuel s0 = some st)
    (hc : ∀ s v, c s = some v → XT tc (G s) (O s) v (O s))
    (hb : ∀ s s', c s = some true → bd s = some s' → ∀ F1 D', Same F0 F1 → To D' F1 s' (fun s => NX F1 (G s) (O s)) (fun s => NX F1 (G s) (O s)) RR → XS tb D' F1 (G s) (O s))
    (hn : ∀ s, st = .nx s → ∀ σ H, NX F0 (G s) (O s) σ H → D.nx σ H) (hr : ∀ r, st = .rt r → RT F0 (RR r) D.rt) : XS (tWhile tc tb) D F0 (G s0) (O s0) := by
  intro σ H n0
  refine ⟨fun m σ H => ∃ s, whileM c bd m s = some st ∧ NX F0 (G s) (O s) σ H, ⟨fuel, s0, hm, n0⟩, ?_⟩
  rintro m σ H ⟨s, hs, F, f0, e, hh⟩
  cases m with
  | zero => cases hs
  | succ m =>
    obtain ⟨v, hv, hs⟩ := bnd_some hs
    refine hc s v hv F σ H e hh _ fun F1 H1 e1 hh1 => ?_
    cases v with
    | false =>
      rw [if_neg Bool.false_ne_true]
      rw [if_neg Bool.false_ne_true] at hs
      cases hs
      exact hn s rfl σ H1 ⟨F1, f0.trans e1, e.mono e1, hh1⟩
    | true =>
      rw [if_pos rfl] at hs ⊢
      obtain ⟨s', hs', hs⟩ := bnd_some hs
      have hN : ∀ σ' H', (∃ s2, s' = .nx s2 ∧ NX F0 (G s2) (O s2) σ' H') → ∃ m', m' < m + 1 ∧ ∃ s, whileM c bd m' s = some st ∧ NX F0 (G s) (O s) σ' H' := by
        rintro σ' H' ⟨s2, rfl, n2⟩
        exact ⟨m, Nat.lt_succ_self _, s2, hs, n2⟩
      refine ⟨fun σ' H' => ∃ s2, s' = .nx s2 ∧ NX F0 (G s2) (O s2) σ' H', hN, ?_⟩
      refine hb s s' hv hs' F0 { D with nx := fun σ' H' => ∃ s2, s' = .nx s2 ∧ NX F0 (G s2) (O s2) σ' H', ct := fun σ' H' => ∃ s2, s' = .nx s2 ∧ NX F0 (G s2) (O s2) σ' H', bk := D.nx } (Same.refl _) ⟨fun s2 z σ' H' n2 => ⟨s2, z, n2⟩, fun s2 z σ' H' n2 => ⟨s2, z, n2⟩, fun s2 z σ' H' n2 => ?_, fun r z => ?_⟩ σ H1 ⟨F1, f0.trans e1, e.mono e1, hh1⟩
      · subst z
        cases hs
        exact hn s2 rfl σ' H' n2
      · subst z
        cases hs
        exact hr r rfl
/-- what a for's target does with its item -/
def Tgt (g : TG) (A : VA) (f : List (Option VA) → List (Option VA)) (js : List Nat) : Prop := ∀ F σ Γ x H Ω, Env F σ Γ → Holds F Ω H → A.P F x → ∀ Q : L2.St → Hp → Prop,
  (∀ F' σ' H', Same F F' → Env F' σ' (f Γ) → Holds F' Ω H' → (∀ vs, (∀ j ∈ js, j ∈ vs) → wipe σ' vs = wipe σ vs) → Q σ' H') → g x σ H Q
theorem wipe_set {σ : L2.St} {j : Nat} {v : Option V} : ∀ {vs : List Nat}, j ∈ vs → wipe (σ.set j v) vs = wipe σ vs := by
  intro vs hj
  apply List.ext_getElem?
  intro k
  have len : (wipe (σ.set j v) vs).length = (wipe σ vs).length := by rw [wipe_length, wipe_length, List.length_set]
  by_cases hk : k ∈ vs
  · have : ∀ (τ : L2.St) (vs : List Nat), k ∈ vs → k < τ.length → (wipe τ vs)[k]? = some none := by
      intro τ vs
      induction vs with
      | nil => intro h; cases h
      | cons a r ih =>
        intro h lt
        unfold wipe
        by_cases ha : a = k
        · subst ha; rw [List.getElem?_set_self (by rw [wipe_length]; exact lt)]
        · rw [List.getElem?_set_ne ha]
          rcases List.mem_cons.mp h with z | z
          · exact absurd z.symm ha
          · exact ih z lt
    by_cases lt : k < σ.length
    · rw [this σ vs hk lt, this _ vs hk (by rw [List.length_set]; exact lt)]
    · rw [List.getElem?_eq_none (by rw [wipe_length, List.length_set]; omega), List.getElem?_eq_none (by rw [wipe_length]; omega)]
  · rw [wipe_out hk, wipe_out hk]
    have ne : j ≠ k := fun e => hk (e ▸ hj)
    rw [List.getElem?_set_ne ne]
theorem tgt_name {k : Nat} : Tgt (gName k) A (fun Γ => Γ.set k (some A)) [k] := fun F σ Γ x H Ω e hh a Q q => q F _ H (Same.refl F) (e.set a) hh fun vs h => wipe_set (h k List.mem_cons_self)
theorem tgt_pair {α β : Type} [Rp α] [Rp β] {x : α × β} {k l : Nat} : Tgt (gTup T.K 2 (gCons (gName k) (gCons (gName l) gNil))) (va T x) (fun Γ => (Γ.set k (some (va T x.1))).set l (some (va T x.2))) [k, l] := fun F σ Γ v H Ω e hh a Q q => by
  obtain ⟨p, y, z, rfl, ht, ry, rz⟩ := a
  refine ⟨p, [y, z], rfl, Same.tup hh.same ht, rfl, y, [z], rfl, z, [], rfl, rfl, ?_⟩
  exact q F _ H (Same.refl F) ((e.set (A := va T x.1) ry).set (A := va T x.2) rz) hh fun vs h => (wipe_set (h l (by simp))).trans (wipe_set (h k (by simp)))
structure Wk {α : Type} (J : It) (Sx : Hp → Prop) (xs : List α) (A : α → VA) : Prop where
  mono : ∀ F F', Same F F' → Sx F → Sx F'
  go : ∀ (i : Nat) F Ω H, Sx F → Holds F Ω H → i < xs.length → J.go i H
  stop : ∀ F Ω H, Sx F → Holds F Ω H → J.stop xs.length H
  yld : ∀ (i : Nat) a F Ω H x H', Sx F → Holds F Ω H → xs[i]? = some a → J.yld i H x H' → ∃ F', Same F F' ∧ Holds F' Ω H' ∧ (A a).P F' x
def XI {α : Type} (wi : TI) (Γ : List (Option VA)) (Ω : List OA) (xs : List α) (A : α → VA) (Ω2 : List OA) : Prop :=
  ∀ F σ H, Env F σ Γ → Holds F Ω H → ∀ R : It → Hp → Prop, (∀ F' J H' Sx, Same F F' → Holds F' Ω2 H' → Wk J Sx xs A → Sx F' → R J H') → wi σ H R
theorem xs_for {α S ρ : Type} {bd : α → S → Option (Stp S ρ)} {s0 : S} {st : Stp S ρ} {wi : TI} {tb : TS} {g : TG} {xs : List α} {A : α → VA} {f : α → List (Option VA) → List (Option VA)} (G : S → List (Option VA)) (O : S → List OA) (RR : ρ → Hp → V → List OA → Prop)
    (hm : forM' bd xs s0 = some st) (hi : XI wi (G s0) Ω xs A (O s0)) {js : List Nat} (ht : ∀ a, Tgt g (A a) (f a) js)
    (hb : ∀ a s s', a ∈ xs → bd a s = some s' → ∀ F1 D', Same F0 F1 → To D' F1 s' (fun s => NX F1 (G s) (O s)) (fun s => NX F1 (G s) (O s)) RR → XS tb D' F1 (f a (G s)) (O s))
    (hn : ∀ s, st = .nx s → ∀ σ H, NX F0 (G s) (O s) σ H → D.nx σ H) (hr : ∀ r, st = .rt r → RT F0 (RR r) D.rt) : XS (tFor wi g tb) D F0 (G s0) Ω := by
  rintro σ H ⟨F, f0, e, hh⟩
  refine hi F σ H e hh _ fun F1 J H1 Sx e1 hh1 W sx => ?_
  refine ⟨fun i m σ H => m = xs.length - i ∧ i ≤ xs.length ∧ ∃ s F, forM' bd (xs.drop i) s = some st ∧ Same F0 F ∧ Sx F ∧ Env F σ (G s) ∧ Holds F (O s) H, ⟨xs.length, by simp, Nat.zero_le _, s0, F1, by rw [List.drop_zero]; exact hm, f0.trans e1, sx, e.mono e1, hh1⟩, ?_⟩
  rintro i m σ H ⟨rfl, hi, s, F, hs, f0, sx, e, hh⟩
  by_cases hlt : i < xs.length
  · refine .inr ⟨W.go i F (O s) H sx hh hlt, ?_⟩
    have hx : xs[i]? = some xs[i] := List.getElem?_eq_getElem hlt
    rw [List.drop_eq_getElem_cons hlt] at hs
    obtain ⟨s', h1, hs⟩ := bnd_some hs
    refine ⟨fun σ' H' => ∃ s2, s' = .nx s2 ∧ ∃ F, Same F0 F ∧ Sx F ∧ Env F σ' (G s2) ∧ Holds F (O s2) H', ?_, fun x H' y => ?_⟩
    · rintro σ' H' ⟨s2, rfl, F', f0', sx', e', hh'⟩
      exact ⟨xs.length - (i + 1), by omega, rfl, hlt, s2, F', hs, f0', sx', e', hh'⟩
    · obtain ⟨F2, e2, hh2, a2⟩ := W.yld i _ F (O s) H x H' sx hh hx y
      refine ht xs[i] F2 σ (G s) x H' (O s) (e.mono e2) hh2 a2 _ fun F3 σ3 H3 e3 en3 hh3 _ => ?_
      have sx3 := W.mono _ _ (e2.trans e3) sx
      have f3 : Same F0 F3 := f0.trans (e2.trans e3)
      have gN : ∀ (s2 : S) (σ' : L2.St) (H' : Hp), NX F3 (G s2) (O s2) σ' H' → ∃ F, Same F0 F ∧ Sx F ∧ Env F σ' (G s2) ∧ Holds F (O s2) H' := fun s2 σ' H' ⟨F4, f4, e4, hh4⟩ => ⟨F4, f3.trans f4, W.mono _ _ f4 sx3, e4, hh4⟩
      have gW : ∀ (s2 : S) (σ' : L2.St) (H' : Hp), NX F3 (G s2) (O s2) σ' H' → NX F0 (G s2) (O s2) σ' H' := fun s2 σ' H' ⟨F4, f4, e4, hh4⟩ => ⟨F4, f3.trans f4, e4, hh4⟩
      refine hb xs[i] s s' (List.getElem_mem hlt) h1 F3 { D with nx := fun σ' H' => ∃ s2, s' = .nx s2 ∧ ∃ F, Same F0 F ∧ Sx F ∧ Env F σ' (G s2) ∧ Holds F (O s2) H', ct := fun σ' H' => ∃ s2, s' = .nx s2 ∧ ∃ F, Same F0 F ∧ Sx F ∧ Env F σ' (G s2) ∧ Holds F (O s2) H', bk := D.nx } f3 ⟨fun s2 z σ' H' n2 => ⟨s2, z, gN s2 σ' H' n2⟩, fun s2 z σ' H' n2 => ⟨s2, z, gN s2 σ' H' n2⟩, fun s2 z σ' H' n2 => ?_, fun r z => ?_⟩ σ3 H3 ⟨F3, Same.refl _, en3, hh3⟩
      · subst z
        cases hs
        exact hn s2 rfl σ' H' (gW s2 σ' H' n2)
      · subst z
        cases hs
        exact (hr r rfl).mono f3
  · have ei : i = xs.length := by omega
    subst ei
    refine .inl ⟨W.stop F (O s) H sx hh, ?_⟩
    rw [List.drop_length] at hs
    cases hs
    exact hn s rfl σ H ⟨F, f0, e, hh⟩
theorem xs_whileS {S ρ : Type} {c : S → Option Bool} {bd : S → Option (Stp S ρ)} {fuel : Nat} {s0 : S} {st : Stp S ρ} {tc : TT} {tb : TS} (G : S → List (Option VA)) (O : S → List OA) (RR : ρ → Hp → V → List OA → Prop)
    (hm : whileM c bd fuel s0 = some st)
    (hc : ∀ s v, c s = some v → XT tc (G s) (O s) v (O s))
    (hb : ∀ s s', c s = some true → bd s = some s' → ∀ F1 D', Same F0 F1 → To D' F1 s' (fun s => NX F1 (G s) (O s)) (fun s => NX F1 (G s) (O s)) RR → XS tb D' F1 (G s) (O s))
    (hn : ∀ s, st = .nx s → XS ts D F0 (G s) (O s)) (hr : ∀ r, st = .rt r → RT F0 (RR r) D.rt) : XS (tSeq (tWhile tc tb) ts) D F0 (G s0) (O s0) :=
  xs_seq (xs_while G O RR hm hc hb (fun s e σ H n => hn s e σ H n) hr)
theorem xs_forS {α S ρ : Type} {bd : α → S → Option (Stp S ρ)} {s0 : S} {st : Stp S ρ} {wi : TI} {tb : TS} {g : TG} {xs : List α} {A : α → VA} {f : α → List (Option VA) → List (Option VA)} (G : S → List (Option VA)) (O : S → List OA) (RR : ρ → Hp → V → List OA → Prop)
    (hm : forM' bd xs s0 = some st) (hi : XI wi (G s0) Ω xs A (O s0)) {js : List Nat} (ht : ∀ a, Tgt g (A a) (f a) js)
    (hb : ∀ a s s', a ∈ xs → bd a s = some s' → ∀ F1 D', Same F0 F1 → To D' F1 s' (fun s => NX F1 (G s) (O s)) (fun s => NX F1 (G s) (O s)) RR → XS tb D' F1 (f a (G s)) (O s))
    (hn : ∀ s, st = .nx s → XS ts D F0 (G s) (O s)) (hr : ∀ r, st = .rt r → RT F0 (RR r) D.rt) : XS (tSeq (tFor wi g tb) ts) D F0 (G s0) Ω :=
  xs_seq (xs_for G O RR hm hi ht hb (fun s e σ H n => hn s e σ H n) hr)
end
end VL

set_option Elab.async false
set_option linter.all false
set_option maxRecDepth 100000
/-! lists, fields, the machine, the numbers, defs -/
namespace VL
open PySem L2

theorem alA_map {α : Type} [Rp α] {T : TC} {F : Hp} : ∀ {vs : List V} {l : List α}, AlA F vs (l.map (va T)) → Al T F vs l
  | _, [], h => by cases h; exact .nil
  | _, a :: r, h => by cases h with | cons h t => exact .cons h (alA_map t)
def cut {α : Type} (l : List α) (lo hi : Option Int) : List α := (l.drop (HT.sIx l.length 0 lo)).take (HT.sIx l.length l.length hi - HT.sIx l.length 0 lo)
theorem al_cut {α : Type} [Rp α] {T : TC} {F : Hp} {vs : List V} {l : List α} (lo hi : Option Int) (h : Al T F vs l) : Al T F (cutV vs lo hi) (cut l lo hi) := by
  unfold cut cutV
  rw [al_len h]
  exact al_take _ (al_drop _ h)
theorem al_at {α : Type} [Rp α] {T : TC} {F : Hp} {vs : List V} {l : List α} {i : Int} {a : α} (h : Al T F vs l) (e : atI l i = some a) : ∃ v, atI vs i = some v ∧ Rp.rep T F v a := by
  unfold atI at e ⊢
  rw [al_len h]
  cases hx : ixN l.length i with
  | none => rw [hx] at e; cases e
  | some k =>
    rw [hx] at e
    exact al_get h e

section
variable {T : TC} {Γ : List (Option VA)} {Ω Ω1 Ω2 Ω3 : List OA} {A B C : VA} {As : List VA} {ta tb te : TE} {t u : TT} {i j n m : Int} {b c : Bool} {α : Type} [Rp α] {l l2 : List α} {F0 : Hp} {D : Ends} {ts : TS}

/-! ### what a list holds, whoever holds it -/
def IsL (T : TC) (Ω : List OA) (A : VA) (l : List α) : Prop := ∀ F H v, Holds F Ω H → A.P F v → ∃ p vs, v = .ref p ∧ SqL T.K H p vs ∧ Al T F vs l
def IsLs (T : TC) (Ω : List OA) (A : VA) (l : List α) : Prop := ∀ F H v, Holds F Ω H → A.P F v → ∃ p vs, v = .ref p ∧ H p = some (.lst vs) ∧ Al T F vs l
def IsT (T : TC) (Ω : List OA) (A : VA) (l : List α) : Prop := ∀ F H v, Holds F Ω H → A.P F v → ∃ p vs, v = .ref p ∧ SqT T.K H p vs ∧ Al T F vs l
theorem isLs_LF : IsLs T Ω (va T (LF.mk l)) l := fun F H v hh ⟨p, vs, h1, h2, h3⟩ => ⟨p, vs, h1, hh.same _ _ h2, h3⟩
theorem isL_LF : IsL T Ω (va T (LF.mk l)) l := fun F H v hh ⟨p, vs, h1, h2, h3⟩ => ⟨p, vs, h1, SqL.of (hh.same _ _ h2), h3⟩
theorem isLs_M {k : Nat} {p : Addr} (h : Ω[k]? = some (lstA T p l)) : IsLs T Ω (vr p) l := fun F H v hh e => by
  obtain ⟨t, ⟨vs, h1, h2⟩, st, _⟩ := hh.get h
  exact ⟨p, vs, e, st _ _ h1, h2⟩
theorem isL_M {k : Nat} {p : Addr} (h : Ω[k]? = some (lstA T p l)) : IsL T Ω (vr p) l := fun F H v hh e => by
  obtain ⟨t, ⟨vs, h1, h2⟩, st, _⟩ := hh.get h
  exact ⟨p, vs, e, SqL.of (st _ _ h1), h2⟩

def rLen (K : PySem.W.Frag) : List V → Hp → VK → Prop := fun xs H Q => ∃ p ys, xs = [.ref p] ∧ (SqL K H p ys ∨ SqT K H p ys) ∧ Q (.int ys.length) H
theorem cr_len {X : Cx} : CallR X (.builtin "len") (rLen X.K) := call_len_seq
theorem alA1 {F : Hp} {vs : List V} (h : AlA F vs [A]) : ∃ v, vs = [v] ∧ A.P F v := by
  cases h with
  | cons h t => cases t; exact ⟨_, rfl, h⟩
theorem alA2 {F : Hp} {vs : List V} (h : AlA F vs [A, B]) : ∃ v w, vs = [v, w] ∧ A.P F v ∧ B.P F w := by
  cases h with
  | cons h t => cases t with | cons h2 t => cases t; exact ⟨_, _, rfl, h, h2⟩
theorem rc_lenL (h : IsL T Ω A l) : RC (rLen T.K) Ω [A] (va T (l.length : Int)) := fun F H vs hh a Q q => by
  obtain ⟨v, rfl, a1⟩ := alA1 a
  obtain ⟨p, ws, e, hs, al⟩ := h F H v hh a1
  refine ⟨p, ws, by rw [e], .inl hs, q F _ H (Same.refl F) hh ?_⟩
  show V.int _ = V.int _
  rw [al_len al]
theorem xe_lenL (ha : XE te Γ Ω A Ω1) (h : IsL T Ω1 A l) : XE (tCB (rLen T.K) (tCons te tNil)) Γ Ω (va T (l.length : Int)) Ω1 := xe_cb (xa_cons ha xa_nil) (rc_lenL h)
theorem ro_ixL {a : α} (h : IsL T Ω A l) (e : atI l i = some a) : RO (rIx T.K) Ω A (va T i) (va T a) := fun F H x y hh a1 a2 Q q => by
  obtain ⟨p, ws, rfl, hs, al⟩ := h F H x hh a1
  obtain ⟨v, hv, rv⟩ := al_at al e
  exact .inl ⟨p, ws, i, v, rfl, a2, hs, hv, q F v H (Same.refl F) hh rv⟩
/-! new lists -/
theorem xe_lst {ta : TA} (h : XA ta Γ Ω (l.map (va T)) Ω1) (hz : l.length ≤ sizeLine) : XE (tLst ta) Γ Ω (va T (LF.mk l)) Ω1 := fun F σ H e hh Q q => by
  refine h F σ H e hh _ fun F1 xs H1 e1 hh1 a1 => ?_
  have al := alA_map a1
  refine ⟨by rw [al_len al]; exact hz, fun p hp => ?_⟩
  obtain ⟨hh2, e2⟩ := hh1.newF (u := .lst xs) hp
  exact q _ _ _ _ (e1.trans e2) hh2 ⟨⟨p, xs, rfl, upd_same, al.mono e2⟩, rfl⟩
theorem xn_lst {ta : TA} (h : XA ta Γ Ω (l.map (va T)) Ω1) (hz : l.length ≤ sizeLine) : XG (tLst ta) Γ Ω (RN Ω1 fun p => lstA T p l) := fun F σ H e hh Q q => by
  refine h F σ H e hh _ fun F1 xs H1 e1 hh1 a1 => ?_
  have al := alA_map a1
  refine ⟨by rw [al_len al]; exact hz, fun p hp => ?_⟩
  exact q F1 _ _ _ e1 (hh1.newL (o := lstA T p l) hp ⟨xs, upd_same, al⟩) ⟨p, rfl, rfl⟩
theorem xe_tup2 {β : Type} [Rp β] {a : α} {x : β} {ta : TA} (h : XA ta Γ Ω [va T a, va T x] Ω1) : XE (tTup ta) Γ Ω (va T (a, x)) Ω1 := fun F σ H e hh Q q => by
  refine h F σ H e hh _ fun F1 xs H1 e1 hh1 a1 => ?_
  obtain ⟨v, w, rfl, h1, h2⟩ := alA2 a1
  refine ⟨by show 2 ≤ sizeLine; decide, fun p hp => ?_⟩
  obtain ⟨hh2, e2⟩ := hh1.newF (u := .tup [v, w]) hp
  exact q _ _ _ _ (e1.trans e2) hh2 ⟨⟨p, v, w, rfl, SqT.of upd_same, Rp.mono e2 h1, Rp.mono e2 h2⟩, rfl⟩
theorem xe_tupF {ta : TA} (h : XA ta Γ Ω (l.map (va T)) Ω1) (hz : l.length ≤ sizeLine) : XE (tTup ta) Γ Ω (va T (TF.mk l)) Ω1 := fun F σ H e hh Q q => by
  refine h F σ H e hh _ fun F1 xs H1 e1 hh1 a1 => ?_
  have al := alA_map a1
  refine ⟨by rw [al_len al]; exact hz, fun p hp => ?_⟩
  obtain ⟨hh2, e2⟩ := hh1.newF (u := .tup xs) hp
  exact q _ _ _ _ (e1.trans e2) hh2 ⟨⟨p, xs, rfl, SqT.of upd_same, al.mono e2⟩, rfl⟩
/-- xs + ys -/
theorem ro_cat (h : IsLs T Ω A l) (h2 : IsLs T Ω B l2) (hz : l.length + l2.length ≤ sizeLine) : RO rCat Ω A B (va T (LF.mk (l ++ l2))) := fun F H x y hh a1 a2 Q q => by
  obtain ⟨p, vs, rfl, hp, al⟩ := h F H x hh a1
  obtain ⟨p2, vs2, rfl, hp2, al2⟩ := h2 F H y hh a2
  refine ⟨p, p2, vs, vs2, rfl, rfl, hp, hp2, by rw [al_len al, al_len al2]; exact hz, fun d hd => ?_⟩
  obtain ⟨hh2, e2⟩ := hh.newF (u := .lst (vs ++ vs2)) hd
  exact q _ _ _ e2 hh2 ⟨d, _, rfl, upd_same, (al_app al al2).mono e2⟩
theorem al_repF {vs : List V} {F : Hp} (h : Al T F vs l) : ∀ n : Nat, Al T F (List.replicate n vs).flatten (List.replicate n l).flatten
  | 0 => .nil
  | n + 1 => by rw [List.replicate_succ, List.flatten_cons, List.replicate_succ, List.flatten_cons]; exact al_app h (al_repF h n)
theorem ro_rep (h : IsLs T Ω A l) (h1 : -(2 ^ 63) ≤ i) (h2 : i < 2 ^ 63) (hz : l.length * i.toNat ≤ sizeLine) : RO rRep Ω A (va T i) (va T (LF.mk (List.replicate i.toNat l).flatten)) := fun F H x y hh a1 a2 Q q => by
  obtain ⟨p, vs, rfl, hp, al⟩ := h F H x hh a1
  refine ⟨p, i, vs, rfl, a2, hp, h1, h2, by rw [al_len al]; exact hz, fun d hd => ?_⟩
  obtain ⟨hh2, e2⟩ := hh.newF (u := .lst (List.replicate i.toNat vs).flatten) hd
  exact q _ _ _ e2 hh2 ⟨d, _, rfl, upd_same, (al_repF al _).mono e2⟩
/-- list(xs) -/
def rList (K : PySem.W.Frag) : List V → Hp → VK → Prop := fun xs H Q => ∃ p ys, xs = [.ref p] ∧ (SqL K H p ys ∨ SqT K H p ys) ∧ ∀ l, H l = none → Q (.ref l) (upd H l (.lst ys))
/-- tuple(xs): of a list, a new one; of a tuple, itself -/
def rTuple (K : PySem.W.Frag) : List V → Hp → VK → Prop := fun xs H Q => ∃ p ys, xs = [.ref p] ∧ ((SqL K H p ys ∧ ∀ l, H l = none → Q (.ref l) (upd H l (.tup ys))) ∨ (SqT K H p ys ∧ Q (.ref p) H))
/-! slices -/
def XO (to : TO) (Γ : List (Option VA)) (Ω : List OA) (o : Option Int) : Prop := ∀ F σ H, Env F σ Γ → Holds F Ω H → ∀ Q : Option Int → Hp → Prop, (∀ F' H', Same F F' → Holds F' Ω H' → Q o H') → to σ H Q
theorem xo_none : XO tNoPart Γ Ω none := fun F σ H e hh Q q => q F H (Same.refl F) hh
theorem xo_some (h : XE te Γ Ω (va T i) Ω) : XO (tPart te) Γ Ω (some i) := fun F σ H e hh Q q => by
  refine h F σ H e hh _ fun F1 x H1 Ω' e1 hh1 ⟨a1, o1⟩ => ?_
  subst o1
  exact ⟨i, a1, q F1 H1 e1 hh1⟩
theorem xe_sliceL {tl th : TO} {lo hi : Option Int} (ha : XE te Γ Ω A Ω1) (hl : XO tl Γ Ω1 lo) (hu : XO th Γ Ω1 hi) (h : IsL T Ω1 A l) : XE (tSl (rSlL T.K) te tl th) Γ Ω (va T (LF.mk (cut l lo hi))) Ω1 := fun F σ H e hh Q q => by
  refine ha F σ H e hh _ fun F1 x H1 Ω' e1 hh1 ⟨a1, o1⟩ => ?_
  subst o1
  refine hl F1 σ H1 (e.mono e1) hh1 _ fun F2 H2 e2 hh2 => ?_
  refine hu F2 σ H2 ((e.mono e1).mono e2) hh2 _ fun F3 H3 e3 hh3 => ?_
  obtain ⟨p, ws, rfl, hs, al⟩ := h F3 H3 x hh3 (A.mono (e2.trans e3) a1)
  refine ⟨p, ws, rfl, hs, fun d hd => ?_⟩
  obtain ⟨hh4, e4⟩ := hh3.newF (u := .lst (cutV ws lo hi)) hd
  exact q _ _ _ _ (((e1.trans e2).trans e3).trans e4) hh4 ⟨⟨d, _, rfl, upd_same, (al_cut lo hi al).mono e4⟩, rfl⟩
/-! lists that change -/
theorem xe_app {k : Nat} {p : Addr} {a : α} (h0 : Ω[k]? = some (lstA T p l2)) (hk : Ω1[k]? = some (lstA T p l)) (ha : XE ta Γ Ω (vr p) Ω) (hb : XE tb Γ Ω (va T a) Ω1) (hz : l.length < sizeLine) :
    XE (tBM T.K "list" rAppend ta (tCons tb tNil)) Γ Ω (va T ()) (Ω1.set k (lstA T p (l ++ [a]))) := fun F σ H e hh Q q => by
  refine ha F σ H e hh _ fun F1 x H1 Ω' e1 hh1 ⟨a1, o1⟩ => ?_
  subst o1
  obtain ⟨p0, vs0, e0, h00, _⟩ := isLs_M h0 F1 H1 x hh1 a1
  have a1 : x = .ref p := a1
  subst a1
  cases e0
  refine ⟨.inl ⟨rfl, _, SqL.of h00⟩, ?_⟩
  refine hb F1 σ H1 (e.mono e1) hh1 _ fun F2 y H2 Ω'' e2 hh2 ⟨a2, o2⟩ => ?_
  subst o2
  obtain ⟨t, ⟨vs, h1, al⟩, st, _, wr⟩ := hh2.get hk
  refine ⟨p, vs, y, rfl, rfl, st _ _ h1, by rw [al_len al]; exact hz, ?_⟩
  exact q F2 _ _ _ (e1.trans e2) (wr (lstA T p (l ++ [a])) p _ _ h1 ⟨_, upd_same, al_app al (.cons a2 .nil)⟩) ⟨rfl, rfl⟩
/-- xs[i] = e, xs a name's own list -/
theorem xs_setL {k : Nat} {p : Addr} {a : α} {to ti : TE} {jn : Nat} (hv : XE te Γ Ω (va T a) Ω1) (ho : XE to Γ Ω1 (vr p) Ω1) (hi : XE ti Γ Ω1 (va T i) Ω1) (hk : Ω1[k]? = some (lstA T p l)) (hj : ixN l.length i = some jn) (q : XS ts D F0 Γ (Ω1.set k (lstA T p (l.set jn a)))) :
    XS (tSeq (tAsg te (gSub to ti rSetL)) ts) D F0 Γ Ω := fun σ H ⟨F, f0, e, hh⟩ => by
  refine hv F σ H e hh _ fun F1 v H1 Ω' e1 hh1 ⟨a1, o1⟩ => ?_
  subst o1
  refine ho F1 σ H1 (e.mono e1) hh1 _ fun F2 o H2 Ω' e2 hh2 ⟨a2, o2⟩ => ?_
  subst o2
  refine hi F2 σ H2 ((e.mono e1).mono e2) hh2 _ fun F3 x H3 Ω' e3 hh3 ⟨a3, o3⟩ => ?_
  subst o3
  obtain ⟨t, ⟨vs, h1, al⟩, st, _, wr⟩ := hh3.get hk
  refine ⟨p, vs, i, jn, a2, a3, st _ _ h1, by rw [al_len al]; exact hj, ?_⟩
  exact q σ _ ⟨F3, f0.trans ((e1.trans e2).trans e3), ((e.mono e1).mono e2).mono e3, wr (lstA T p (l.set jn a)) p _ _ h1 ⟨_, upd_same, al_set (Rp.mono (e2.trans e3) a1) jn al⟩⟩
/-! walks -/
theorem wk_list {p : Addr} {vs : List V} : Wk (Itl T.K p) (fun F => SqL T.K F p vs ∧ Al T F vs l) l (fun a => va T a) where
  mono := fun F F' e ⟨h1, h2⟩ => ⟨e.seq h1, h2.mono e⟩
  go := fun i F Ω H ⟨h1, h2⟩ hh hi => ⟨vs, vs[i]'(by rw [al_len h2]; exact hi), hh.same.seq h1, List.getElem?_eq_getElem _⟩
  stop := fun F Ω H ⟨h1, h2⟩ hh => ⟨vs, hh.same.seq h1, by rw [al_len h2]; exact Nat.le_refl _⟩
  yld := fun i a F Ω H x H' ⟨h1, h2⟩ hh hx y => by
    obtain ⟨e, y⟩ := y
    subst e
    obtain ⟨v, hv, rv⟩ := al_get h2 hx
    have ev := y vs (hh.same.seq h1)
    rw [hv] at ev
    cases ev
    exact ⟨F, Same.refl F, hh, rv⟩
theorem wk_range {n : Nat} {lo : Int} : Wk (Itr lo n) (fun _ => True) ((List.range n).map fun (k : Nat) => lo + (k : Int)) (fun a => va T a) where
  mono := fun _ _ _ _ => trivial
  go := fun i F Ω H _ _ hi => by
    have hi : i < n := by simpa using hi
    exact hi
  stop := fun F Ω H _ _ => by show n ≤ _; simp
  yld := fun i a F Ω H x H' _ hh hx y => by
    obtain ⟨e, y⟩ := y
    subst e y
    refine ⟨F, Same.refl F, hh, ?_⟩
    show V.int _ = V.int a
    rw [List.getElem?_map] at hx
    cases hr : (List.range n)[i]? with
    | none => rw [hr] at hx; cases hx
    | some k =>
      rw [hr] at hx
      have hk : i = k := by
        obtain ⟨h1, h2⟩ := List.getElem?_eq_some_iff.mp hr
        rw [List.getElem_range] at h2
        exact h2
      subst hk
      cases hx
      rfl
theorem xi_list (ha : XE te Γ Ω A Ω1) (h : ∀ F v, A.P F v → ∃ p vs, v = .ref p ∧ SqL T.K F p vs ∧ Al T F vs l) : XI (iList T.K te) Γ Ω l (fun a => va T a) Ω1 := fun F σ H e hh R r => by
  refine ha F σ H e hh _ fun F1 x H1 Ω' e1 hh1 ⟨a1, o1⟩ => ?_
  subst o1
  obtain ⟨p, vs, rfl, h1, al⟩ := h F1 x a1
  exact ⟨p, rfl, ⟨vs, hh1.same.seq h1⟩, r F1 _ H1 _ e1 hh1 wk_list ⟨h1, al⟩⟩
theorem xi_LF (ha : XE te Γ Ω (va T (LF.mk l)) Ω1) : XI (iList T.K te) Γ Ω l (fun a => va T a) Ω1 := xi_list ha fun F v ⟨p, vs, h1, h2, h3⟩ => ⟨p, vs, h1, SqL.of h2, h3⟩
/-- the ints from lo on, so many -/
def rng (lo : Int) (n : Nat) : List Int := (List.range n).map fun (k : Nat) => lo + (k : Int)
theorem xi_range1 {ta : TA} (ha : XA ta Γ Ω [va T i] Ω1) (h1 : -(2 ^ 62) ≤ i) (h2 : i < 2 ^ 62) : XI (iRng1 ta) Γ Ω (rng 0 i.toNat) (fun a => va T a) Ω1 := fun F σ H e hh R r => by
  refine ha F σ H e hh _ fun F1 vs H1 e1 hh1 a1 => ?_
  obtain ⟨v, rfl, b1⟩ := alA1 a1
  have b1 : v = .int i := b1
  subst b1
  exact ⟨i, rfl, h1, h2, r F1 _ H1 _ e1 hh1 wk_range trivial⟩
theorem xi_range2 {ta : TA} (ha : XA ta Γ Ω [va T i, va T j] Ω1) (h1 : -(2 ^ 62) ≤ i ∧ i < 2 ^ 62 ∧ -(2 ^ 62) ≤ j ∧ j < 2 ^ 62) : XI (iRng2 ta) Γ Ω (rng i (j - i).toNat) (fun a => va T a) Ω1 := fun F σ H e hh R r => by
  refine ha F σ H e hh _ fun F1 vs H1 e1 hh1 a1 => ?_
  obtain ⟨v, w, rfl, a1, a2⟩ := alA2 a1
  have a1 : v = .int i := a1
  have a2 : w = .int j := a2
  subst a1 a2
  exact ⟨i, j, rfl, h1, r F1 _ H1 _ e1 hh1 wk_range trivial⟩
/-! ### a list comprehension -/
/-- b x s: whether the item is taken, its value, the state behind -/
def lcM {β γ S : Type} (b : β → S → Option (Option γ × S)) : List β → S → Option (List γ × S)
  | [], s => some ([], s)
  | x :: r, s => (b x s).bind fun (o, s') => (lcM b r s').bind fun (ys, s'') => some ((match o with | some y => y :: ys | none => ys), s'')
/-- what is known behind the wiping of the slots vs -/
def wip (Γ : List (Option VA)) : List Nat → List (Option VA)
  | [] => Γ
  | i :: r => (wip Γ r).set i none
theorem env_none {F : Hp} {σ : L2.St} {k : Nat} (h : Env F σ Γ) : Env F (σ.set k none) (Γ.set k none) := by
  refine ⟨by rw [List.length_set, List.length_set]; exact h.1, fun i A q => ?_⟩
  by_cases hk : k = i
  · subst hk
    have lt : k < Γ.length := by have := getlt q; rwa [List.length_set] at this
    rw [List.getElem?_set_self lt] at q
    cases q
  · rw [List.getElem?_set_ne hk] at q
    obtain ⟨w, h1, h2⟩ := h.2 i A q
    exact ⟨w, by rw [List.getElem?_set_ne hk]; exact h1, h2⟩
theorem wip_env {F : Hp} {σ : L2.St} (h : Env F σ Γ) : ∀ vs : List Nat, Env F (wipe σ vs) (wip Γ vs)
  | [] => h
  | i :: r => env_none (wip_env h r)
theorem wipe_wipe {σ : L2.St} (vs : List Nat) : wipe (wipe σ vs) vs = wipe σ vs := by
  have : ∀ (r : List Nat) (τ : L2.St), (∀ i ∈ r, i ∈ vs) → wipe (wipe τ r) vs = wipe τ vs := by
    intro r
    induction r with
    | nil => intro τ _; rfl
    | cons a r ih =>
      intro τ h
      show wipe ((wipe τ r).set a none) vs = _
      rw [wipe_set (h a List.mem_cons_self)]
      exact ih τ fun i hi => h i (List.mem_cons_of_mem _ hi)
  exact this vs σ fun _ h => h
theorem set_last {β : Type} {l : List β} {a b : β} : (l ++ [a]).set l.length b = l ++ [b] := by
  rw [List.set_append_right _ _ (Nat.le_refl _)]; simp
theorem xn_lc {β γ S : Type} [Rp γ] {b : β → S → Option (Option γ × S)} {xs : List β} {s0 s1 : S} {ys : List γ} {wi : TI} {g : TG} {tt : TT} {vs : List Nat} {A : β → VA} {f : β → List (Option VA) → List (Option VA)} {js : List Nat} (O : S → List OA)
    (hm : lcM b xs s0 = some (ys, s1)) (hi : XI wi Γ Ω xs A (O s0)) (ht : ∀ a, Tgt g (A a) (f a) js) (hj : ∀ j ∈ js, j ∈ vs) (hz : xs.length ≤ sizeLine)
    (hb : ∀ a s o s', a ∈ xs → b a s = some (o, s') → ∀ X : OA, (o = none → XT tt (f a (wip Γ vs)) (O s ++ [X]) false (O s' ++ [X])) ∧
      (∀ y, o = some y → XT tt (f a (wip Γ vs)) (O s ++ [X]) true (O s ++ [X]) ∧ XE te (f a (wip Γ vs)) (O s ++ [X]) (va T y) (O s' ++ [X]))) :
    XG (tLc wi g tt te vs) Γ Ω (RN (O s1) fun p => lstA T p ys) := by
  intro F σ H e hh Q q
  refine hi F σ H e hh _ fun F1 J H1 Sx e1 hh1 W sx => fun d hd => ?_
  refine ⟨fun i m H => m = xs.length - i ∧ i ≤ xs.length ∧ ∃ s F acc r, lcM b (xs.drop i) s = some (r, s1) ∧ acc ++ r = ys ∧ acc.length ≤ i ∧ Same F1 F ∧ Sx F ∧ Holds F (O s ++ [lstA T d acc]) H,
    ⟨xs.length, by simp, Nat.zero_le _, s0, F1, [], ys, by rw [List.drop_zero]; exact hm, rfl, Nat.zero_le _, Same.refl _, sx, hh1.newL (o := lstA T d ([] : List γ)) hd ⟨[], upd_same, .nil⟩⟩, ?_⟩
  rintro i m H ⟨rfl, hi, s, F, acc, r, hs, he, hl, f1, sx, hh⟩
  by_cases hlt : i < xs.length
  · refine .inr ⟨W.go i F _ H sx hh hlt, ?_⟩
    have hx : xs[i]? = some xs[i] := List.getElem?_eq_getElem hlt
    rw [List.drop_eq_getElem_cons hlt] at hs
    obtain ⟨⟨o, s'⟩, h1, hs⟩ := bnd_some hs
    obtain ⟨⟨r2, s2⟩, h2, hs⟩ := bnd_some hs
    cases hs
    refine ⟨fun H' => ∃ s F acc r, lcM b (xs.drop (i + 1)) s = some (r, s1) ∧ acc ++ r = ys ∧ acc.length ≤ i + 1 ∧ Same F1 F ∧ Sx F ∧ Holds F (O s ++ [lstA T d acc]) H', fun H' n => ⟨xs.length - (i + 1), by omega, rfl, hlt, n⟩, fun x H' y => ?_⟩
    obtain ⟨F2, e2, hh2, a2⟩ := W.yld i _ F _ H x H' sx hh hx y
    have en : Env F2 (wipe σ vs) (wip Γ vs) := wip_env ((e.mono e1).mono (f1.trans e2)) vs
    refine ht xs[i] F2 (wipe σ vs) (wip Γ vs) x H' _ en hh2 a2 _ fun F3 σ3 H3 e3 en3 hh3 hw => ⟨(hw vs hj).trans (wipe_wipe vs), ?_⟩
    obtain ⟨c1, c2⟩ := hb xs[i] s o s' (List.getElem_mem hlt) h1 (lstA T d acc)
    have f3 : Same F1 F3 := f1.trans (e2.trans e3)
    have sx3 := W.mono _ _ (e2.trans e3) sx
    cases o with
    | none =>
      refine c1 rfl F3 σ3 H3 en3 hh3 _ fun F4 H4 e4 hh4 => ?_
      rw [if_neg Bool.false_ne_true]
      exact ⟨s', F4, acc, r2, h2, he, by omega, f3.trans e4, W.mono _ _ e4 sx3, hh4⟩
    | some y =>
      obtain ⟨c3, c4⟩ := c2 y rfl
      refine c3 F3 σ3 H3 en3 hh3 _ fun F4 H4 e4 hh4 => ?_
      rw [if_pos rfl]
      refine c4 F4 σ3 H4 (en3.mono e4) hh4 _ fun F5 v H5 Ω5 e5 hh5 ⟨a5, o5⟩ => ?_
      subst o5
      have hk : (O s' ++ [lstA T d acc])[(O s').length]? = some (lstA T d acc) := app_at
      obtain ⟨t, ⟨ws, w1, al⟩, st, _, wr⟩ := hh5.get hk
      refine ⟨ws, st _ _ w1, by rw [al_len al]; omega, ?_⟩
      have hh6 := wr (lstA T d (acc ++ [y])) d _ (.lst (ws ++ [v])) w1 ⟨_, upd_same, al_app al (.cons a5 .nil)⟩
      rw [set_last] at hh6
      refine ⟨s', F5, acc ++ [y], r2, h2, by rw [List.append_assoc]; exact he, by rw [List.length_append]; simp; omega, f3.trans (e4.trans e5), W.mono _ _ (e4.trans e5) sx3, hh6⟩
  · have ei : i = xs.length := by omega
    subst ei
    refine .inl ⟨W.stop F _ H sx hh, ?_⟩
    rw [List.drop_length] at hs
    cases hs
    rw [List.append_nil] at he
    subst he
    exact q F (.ref d) H _ (e1.trans f1) hh ⟨d, rfl, rfl⟩
theorem xn_lcS {β γ S : Type} [Rp γ] {b : β → S → Option (Option γ × S)} {xs : List β} {s0 s1 : S} {ys : List γ} {wi : TI} {g : TG} {tt : TT} {vs : List Nat} {A : β → VA} {f : β → List (Option VA) → List (Option VA)} {js : List Nat} {Ω0 : List OA} (ks : S → List (Nat × OA)) (L : S → List OA)
    (hm : lcM b xs s0 = some (ys, s1)) (hi : XI wi Γ Ω0 xs A (stt Ω (ks s0) (L s0))) (ht : ∀ a, Tgt g (A a) (f a) js) (hj : ∀ j ∈ js, j ∈ vs) (hz : xs.length ≤ sizeLine)
    (hb : ∀ a s o s', a ∈ xs → b a s = some (o, s') → ∀ X : OA, (o = none → XT tt (f a (wip Γ vs)) (stt Ω (ks s) (L s ++ [X])) false (stt Ω (ks s') (L s' ++ [X]))) ∧
      (∀ y, o = some y → XT tt (f a (wip Γ vs)) (stt Ω (ks s) (L s ++ [X])) true (stt Ω (ks s) (L s ++ [X])) ∧ XE te (f a (wip Γ vs)) (stt Ω (ks s) (L s ++ [X])) (va T y) (stt Ω (ks s') (L s' ++ [X])))) :
    XG (tLc wi g tt te vs) Γ Ω0 (RN (stt Ω (ks s1) (L s1)) fun p => lstA T p ys) :=
  xn_lc (fun s => stt Ω (ks s) (L s)) hm hi ht hj hz fun a s o s' ha h X => by
    simp only [stt_app]
    exact hb a s o s' ha h X
/-- no test -/
theorem xt_yes : XT tYes Γ Ω true Ω := fun F σ H e hh Q q => q F H (Same.refl F) hh
end
end VL

set_option Elab.async false
set_option linter.all false
set_option maxRecDepth 100000
/-! defs, the machine, the numbers -/
namespace VL
open PySem L2
open PyProof.Rows (envOfC)

/-! ### a def by its body -/
/-- a body at a promise's arguments -/
def Bod (X : Cx) (body : List Stmt) (Γ : List (Option VA)) (Ω : List OA) (F0 : Hp) (R : Hp → V → List OA → Prop) : Prop :=
  ∃ t, PSs X body t ∧ ∀ D : Ends, RT F0 R D.rt → (∀ F σ H Ω', Same F0 F → Holds F Ω' H → R F .non Ω' → D.nx σ H) → XS t D F0 Γ Ω
theorem start_env {F : Hp} {N : List Str} {vs : List V} {As : List VA} (h : AlA F vs As) : Env F (L2.start N vs) (As.map some ++ List.replicate (N.length - As.length) none) := by
  have hl := h.len
  refine ⟨by unfold L2.start; simp [hl], fun i A q => ?_⟩
  by_cases hi : i < As.length
  · rw [List.getElem?_append_left (by simpa using hi), List.getElem?_map] at q
    have : ∀ {vs : List V} {As : List VA} {i : Nat}, AlA F vs As → (As[i]?).map some = some (some A) → ∃ v, vs[i]? = some v ∧ A.P F v := by
      intro vs As i h
      induction h generalizing i with
      | nil => intro q; simp at q
      | cons a t ih =>
        intro q
        cases i with
        | zero => simp at q; subst q; exact ⟨_, rfl, a⟩
        | succ i => simpa using ih (by simpa using q)
    obtain ⟨v, h1, h2⟩ := this h q
    refine ⟨v, ?_, h2⟩
    unfold L2.start
    rw [List.getElem?_append_left (by rw [List.length_map]; exact getlt h1), List.getElem?_map, h1]
    rfl
  · rw [List.getElem?_append_right (by simpa using hi), List.getElem?_replicate] at q
    split at q <;> cases q
section
variable {P : Program} {w : World} {K : PySem.W.Frag} {mg : Str → Option Value} {base : Heap}
theorem fn_ok {x qual : Str} {st : Stmt} {f : Addr} {fd : FuncData} {N ps : List Str} {k : Nat} {Pre : PreT} (F : Fun K x qual st f fd) (S : FnScope N ps (defScope st)) (hl : ∀ As Ω R, Pre As Ω R → As.length = ps.length)
    (hb : ∀ (cdv : Value) (A : Around) (outer : List PySem.Env) (s : Shared) (H : Hp) (E : XK), Room k (A.deeper (envOfC qual (defScope st) s.heap.objs.size f cdv)) → ∀ As Ω R F0, Pre As Ω R →
      Bod (cxOf CX0 P w K mg base N qual (defScope st) f cdv A outer s H E).nox (defBody st) (As.map some ++ List.replicate (N.length - As.length) none) Ω F0 R) : FnOk P w K mg base CX0 (k + 1) f fd ps (mkSp Pre) := by
  refine F.ok S (fun vs H Q E h => ?_) (fun cdv A outer s H vs Q E hr h => ?_)
  · obtain ⟨F, Ω, As, R, hp, ha, _⟩ := h
    rw [ha.len]; exact hl _ _ _ hp
  · obtain ⟨F0, Ω, As, R, hp, ha, hh, hq⟩ := h
    obtain ⟨t, h1, h2⟩ := hb cdv A outer s H E hr As Ω R F0 hp
    refine ⟨t, h1, h2 _ (fun F v H Ω' e hh r => hq F v H Ω' e hh r) (fun F σ H Ω' e hh r => hq F .non H Ω' e hh r) _ _ ⟨F0, Same.refl F0, start_env ha, hh⟩⟩

/-! ### a def that may be called -/
structure Cal (P : Program) (w : World) (K : PySem.W.Frag) (mg : Str → Option Value) (base : Heap) (k : Nat) (x : Str) (ps : List Str) (sp : Sp) : Prop where
  ex : ∃ f fd, FnOk P w K mg base CX0 k f fd ps sp ∧ mg x = some (.ref f) ∧ PySem.W.keepIn K (.ref f) = true ∧ Binds K fd ps []
theorem pe_cal {X : Cx} {k : Nat} {x : Str} {ps : List Str} {sp : Sp} {p pos : Pos} {e : Expr} {es : List Expr} {t : TA} (C : Cal X.prog X.w X.K X.mg X.base k x ps sp) (hr : Room k X.A) (hg : Gl X x) (ha : PA X (e :: es) t)
    (hdb : (x == ("__debug__" : Str)) = false := by decide) (he : starEach (e :: es) X.env = (false, eval e X.env) :: starEach es X.env := by rfl) (hpl : (backTo pos (starEach es X.env)).any (·.1) = false := by rfl) :
    PE X (.Call (.Name x p) (e :: es) [] pos) (tCall sp [] E0 t) := by
  obtain ⟨f, fd, F, hm, hk, hb⟩ := C.ex
  exact pe_call F hr hg hm hk hb .nil pass0 ha hdb he hpl
/-- a method -/
structure CalM (P : Program) (w : World) (K : PySem.W.Frag) (mg : Str → Option Value) (base : Heap) (k : Nat) (C : Addr) (m : Str) (ps : List Str) (sp : Sp) : Prop where
  ex : ∃ f fd, FnOk P w K mg base CX0 k f fd ps sp ∧ Meth K C m f ∧ Binds K fd ps []
  cl : Cls K C
end

/-! ### the machine -/
structure MS where
  w : Int
  c : Int
  cnt : Str → Int
  wk : List (T3 Str Int Int)
def mf (s : MS) (d e : Addr) : List (Str × V) := [("width", .int s.w), ("cutoff", .int s.c), ("counts", .ref d), ("entered", .ref e)]
def mkv (s : MS) : List (Key × V) := mwords.map fun w => (Sum.inr w, V.int (s.cnt w))
def MachAt (T : TC) (p dx d e : Addr) (ws : List V) (s : MS) (F t : Hp) : Prop := t p = some (.ins (T.C 0) dx (mf s d e)) ∧ t d = some (.dK (mkv s)) ∧ t e = some (.lst ws) ∧ Al T F ws s.wk
def machA (T : TC) (p : Addr) (s : MS) : OA := ⟨fun F t => ∃ dx d e ws, MachAt T p dx d e ws s F t, fun h ⟨dx, d, e, ws, h1, h2, h3, h4⟩ => ⟨dx, d, e, ws, h1, h2, h3, h4.mono h⟩⟩
section
variable {T : TC} {Γ : List (Option VA)} {Ω Ω1 Ω2 : List OA} {A B C : VA} {ta tb te : TE} {s : MS} {p : Addr} {k : Nat}
end

/-! ### the numbers -/
structure Bg where
  w : Int
  row : List Int
  v : Int
/-- the sign of a number -/
def sgn (v : Int) : Int := if v < 0 then -1 else if v = 0 then 0 else 1
instance : Rp Bg := ⟨fun T F v b => ∃ p dx r vs, v = .ref p ∧ F p = some (.ins (T.C 1) dx [("width", .int b.w), ("side", .int (sgn b.v)), ("row", .ref r), ("value", .int b.v)]) ∧ SqT T.K F r vs ∧ Al T F vs b.row,
  fun e ⟨p, dx, r, vs, h1, h2, h3, h4⟩ => ⟨p, dx, r, vs, h1, e _ _ h2, Same.tup e h3, h4.mono e⟩⟩
section
variable {T : TC} {Γ : List (Option VA)} {Ω Ω1 Ω2 : List OA} {A B C : VA} {ta tb te : TE} {x : Bg} {p : Addr} {k : Nat}
end
/-! ### things in the making -/
def rawA (t0 : Hp) : OA := ⟨fun _ t => Same t0 t, fun _ h => h⟩
section
variable {F F' H H' : Hp} {Ω : List OA} {o o' : OA} {i j : Nat} {a p : Addr} {u u' : HO}
end
/-- a new instance, nothing in it -/
def newA (C p : Addr) : OA := ⟨fun _ t => ∃ dx, t p = some (.ins C dx []), fun _ h => h⟩
section
variable {T : TC} {Γ : List (Option VA)} {Ω Ω1 Ω2 : List OA} {A B C : VA} {As Ds : List VA} {ta tb te : TE} {D : Ends} {F0 : Hp} {ts : TS}
def bigA (T : TC) (p : Addr) (b : Bg) : OA := ⟨fun F t => ∃ dx r vs, t p = some (.ins (T.C 1) dx [("width", .int b.w), ("side", .int (sgn b.v)), ("row", .ref r), ("value", .int b.v)]) ∧ SqT T.K F r vs ∧ Al T F vs b.row,
  fun e ⟨dx, r, vs, h2, h3, h4⟩ => ⟨dx, r, vs, h2, Same.tup e h3, h4.mono e⟩⟩
end
/-! ### what the machine's methods do -/
def MS.step (s : MS) (w : Str) (n : Int) : MS := { s with cnt := fun x => if x = w then s.cnt x + n else s.cnt x }
def MS.enter (s : MS) (w : Str) (m n : Int) : MS := { s with wk := if s.wk.length < 1000 then s.wk ++ [T3.mk w m n] else s.wk }
def MS.fresh (w c : Int) : MS := ⟨w, c, fun _ => 0, []⟩
def MS.reset (s : MS) : MS := MS.fresh s.w s.c
end VL

set_option Elab.async false
set_option linter.all false
set_option maxRecDepth 100000
/-! the machine's methods, the numbers' -/
namespace VL
open PySem L2
section
variable {T : TC} {Γ : List (Option VA)} {Ω Ω1 Ω2 : List OA} {A B C : VA} {As Ds : List VA} {ta tb te : TE} {D : Ends} {F0 : Hp} {ts : TS} {s : MS} {p : Addr} {k : Nat}
/-- what the machine's class must be -/
structure MCls (K : PySem.W.Frag) (C : Addr) : Prop where
  cl : Cls K C
  nw : NoAttr K C "width"
  nc : NoAttr K C "cutoff"
  nt : NoAttr K C "counts"
  ne : NoAttr K C "entered"
structure BCls (K : PySem.W.Frag) (C : Addr) : Prop where
  cl : Cls K C
  nw : NoAttr K C "width"
  ns : NoAttr K C "side"
  nr : NoAttr K C "row"
  nv : NoAttr K C "value"
def MS.tally (s : MS) : List (Str × Int) := mwords.map fun w => (w, s.cnt w)
end
end VL

set_option Elab.async false
set_option linter.all false
set_option maxRecDepth 100000
/-! what the printed texts lean on -/
namespace VL
open PySem L2
open PyProof.Rows (envOfC)
section
variable {P : Program} {w : World} {K : PySem.W.Frag} {mg : Str → Option Value} {base : Heap}
/-- a class that may be made: dvs fill up what is not written -/
structure CalC (P : Program) (w : World) (K : PySem.W.Frag) (mg : Str → Option Value) (base : Heap) (k : Nat) (x : Str) (C : Addr) (ps : List Str) (dvs : List V) (sp : Sp) : Prop where
  ex : ∃ f fd ds, FnOk P w K mg base CX0 k f fd ps sp ∧ mg x = some (.ref C) ∧ Mk K C f ∧ Vals dvs ds ∧ Binds K fd ps ds
section
variable {X : Cx} {k : Nat} {x m : Str} {C : Addr} {ps : List Str} {dvs : List V} {sp : Sp} {p pos apos : Pos} {e o : Expr} {es : List Expr} {t : TA} {ta : TE}
/-- a module's constant -/
theorem pe_gl {x : Str} {v : V} {pos : Pos} (hg : Gl X x) (hm : ∃ u, X.mg x = some u ∧ RelV v u) (hd : (x == ("__debug__" : Str)) = false := by decide) : PE X (.Name x pos) (tC v) := by
  obtain ⟨u, h1, h2⟩ := hm
  exact pe_glob hg h1 h2 hd
end
end
section
variable {X : Cx}
theorem op_mulG : OpR X (binaryOp .Mult) (rI IntMulOk fun i j => .int (i * j)) := L2.opI fun _ _ _ _ _ _ _ hc q => PyProof.Rows.mul_int q hc
/-- + of ints, of lists; * of ints, of a list and an int -/
def rAddQ : R2 := fun x y H Q => rI0 (fun i j => .int (i + j)) x y H Q ∨ rCat x y H Q
theorem op_addQ : OpR X (binaryOp .Add) rAddQ := op_add.or op_cat
def rMulQ : R2 := fun x y H Q => rI IntMulOk (fun i j => .int (i * j)) x y H Q ∨ rRep x y H Q
theorem op_mulQ : OpR X (binaryOp .Mult) rMulQ := op_mulG.or op_rep
/-- int(x) -/
def rInt : List V → Hp → VK → Prop := fun xs H Q => (∃ i, xs = [.int i] ∧ Q (.int i) H) ∨ ∃ k, xs = [.bl k] ∧ Q (.int (if k then 1 else 0)) H
theorem cr_int : CallR X (.type "int") rInt := call_int1
def rAbs : List V → Hp → VK → Prop := fun xs H Q => ∃ i, xs = [.int i] ∧ Q (.int (if i < 0 then -i else i)) H
def rMax2 : List V → Hp → VK → Prop := fun xs H Q => ∃ i j, xs = [.int i, .int j] ∧ Q (.int (if j > i then j else i)) H
theorem cr_max2 (hc : X.calm = true) : CallR X (.builtin "max") rMax2 := call_max2 hc
def rMin2 : List V → Hp → VK → Prop := fun xs H Q => ∃ i j, xs = [.int i, .int j] ∧ Q (.int (if j < i then j else i)) H
/-- x op= y by the operator's rule -/
theorem ip_of {op : Operator} {r : R2} (h : OpR X (inplaceOp op) r) : PIp X op r := h
end
section
variable {T : TC} {Γ : List (Option VA)} {Ω Ω1 Ω2 : List OA} {A B C : VA} {As Ds : List VA} {ta tb te : TE} {t u : TT} {D : Ends} {F0 : Hp} {ts : TS} {i j : Int} {b c : Bool} {α : Type} [Rp α] {l l2 : List α} {p : Addr} {k : Nat} {s : MS} {R : Hp → V → List OA → Prop}
theorem ro_or1 {r r' : R2} (h : RO r Ω A B C) : RO (fun x y H Q => r x y H Q ∨ r' x y H Q) Ω A B C := fun F H x y hh a1 a2 Q q => .inl (h F H x y hh a1 a2 Q q)
theorem ro_or2 {r r' : R2} (h : RO r' Ω A B C) : RO (fun x y H Q => r x y H Q ∨ r' x y H Q) Ω A B C := fun F H x y hh a1 a2 Q q => .inr (h F H x y hh a1 a2 Q q)
theorem xe_add (ha : XE ta Γ Ω (va T i) Ω1) (hb : XE tb Γ Ω1 (va T j) Ω2) : XE (tOp rAddQ ta tb) Γ Ω (va T (i + j)) Ω2 := xe_op ha hb (ro_or1 ro_int)
theorem xe_sub (ha : XE ta Γ Ω (va T i) Ω1) (hb : XE tb Γ Ω1 (va T j) Ω2) : XE (tOp (rI0 fun i j => .int (i - j)) ta tb) Γ Ω (va T (i - j)) Ω2 := xe_op ha hb ro_int
theorem xe_mul (h : IntMulOk i j) (ha : XE ta Γ Ω (va T i) Ω1) (hb : XE tb Γ Ω1 (va T j) Ω2) : XE (tOp rMulQ ta tb) Γ Ω (va T (i * j)) Ω2 := xe_op ha hb (ro_or1 (ro_intD h))
theorem xe_fdiv (h : CDivW i j) (ha : XE ta Γ Ω (va T i) Ω1) (hb : XE tb Γ Ω1 (va T j) Ω2) : XE (tOp (rI CDivW fun i j => .int (i / j)) ta tb) Γ Ω (va T (i / j)) Ω2 := xe_op ha hb (ro_intD h)
theorem xe_mod (h : 0 < j) (ha : XE ta Γ Ω (va T i) Ω1) (hb : XE tb Γ Ω1 (va T j) Ω2) : XE (tOp (rI (fun _ j => 0 < j) fun i j => .int (i % j)) ta tb) Γ Ω (va T (i % j)) Ω2 := xe_op ha hb (ro_intD (D := fun _ j => 0 < j) h)
theorem xe_shl (h : CShl i j) (ha : XE ta Γ Ω (va T i) Ω1) (hb : XE tb Γ Ω1 (va T j) Ω2) : XE (tOp (rI CShl fun i j => .int (i * 2 ^ j.toNat)) ta tb) Γ Ω (va T (i * 2 ^ j.toNat)) Ω2 := xe_op ha hb (ro_intD h)
theorem xe_shr (h : 0 ≤ j) (ha : XE ta Γ Ω (va T i) Ω1) (hb : XE tb Γ Ω1 (va T j) Ω2) : XE (tOp (rI (fun _ j => 0 ≤ j) fun i j => .int (i / 2 ^ j.toNat)) ta tb) Γ Ω (va T (i / 2 ^ j.toNat)) Ω2 := xe_op ha hb (ro_intD (D := fun _ j => 0 ≤ j) h)
theorem xe_pow (h : CPow i j) (ha : XE ta Γ Ω (va T i) Ω1) (hb : XE tb Γ Ω1 (va T j) Ω2) : XE (tOp (rI CPow fun i j => .int (i ^ j.toNat)) ta tb) Γ Ω (va T (i ^ j.toNat)) Ω2 := xe_op ha hb (ro_intD h)
theorem xe_band (ha : XE ta Γ Ω (va T i) Ω1) (hb : XE tb Γ Ω1 (va T j) Ω2) : XE (tOp (rI0 fun i j => .int (Builtin.bitAnd i j)) ta tb) Γ Ω (va T (Builtin.bitAnd i j)) Ω2 := xe_op ha hb ro_int
theorem xe_neg (ha : XE ta Γ Ω (va T i) Ω1) : XE (tUn (rU fun i => .int (-i)) ta) Γ Ω (va T (-i)) Ω1 := xe_un ha ru_int
theorem xe_cat {A B : VA} (ha : XE ta Γ Ω A Ω1) (hb : XE tb Γ Ω1 B Ω2) (h : IsLs T Ω2 A l) (h2 : IsLs T Ω2 B l2) (hz : l.length + l2.length ≤ sizeLine) : XE (tOp rAddQ ta tb) Γ Ω (va T (LF.mk (l ++ l2))) Ω2 := xe_op ha hb (ro_or2 (ro_cat h h2 hz))
theorem xe_rep {A : VA} (ha : XE ta Γ Ω A Ω1) (hb : XE tb Γ Ω1 (va T i) Ω2) (h : IsLs T Ω2 A l) (h1 : (-(2 ^ 63) ≤ i ∧ i < 2 ^ 63) ∧ l.length * i.toNat ≤ sizeLine) : XE (tOp rMulQ ta tb) Γ Ω (va T (LF.mk (List.replicate i.toNat l).flatten)) Ω2 := xe_op ha hb (ro_or2 (ro_rep h h1.1.1 h1.1.2 h1.2))
theorem xe_ix {A : VA} {a : α} (ha : XE ta Γ Ω A Ω1) (hb : XE tb Γ Ω1 (va T i) Ω2) (h : IsL T Ω2 A l) (e : atI l i = some a) : XE (tOp (rIx T.K) ta tb) Γ Ω (va T a) Ω2 := xe_op ha hb (ro_ixL h e)
theorem xe_int1 (ha : XE te Γ Ω (va T i) Ω1) : XE (tCB rInt (tCons te tNil)) Γ Ω (va T i) Ω1 := xe_cb (xa_cons ha xa_nil) fun F H vs hh a Q q => by
  obtain ⟨v, rfl, a1⟩ := alA1 a
  have a1 : v = .int i := a1
  subst a1
  exact .inl ⟨i, rfl, q F _ H (Same.refl F) hh rfl⟩
theorem xe_intb (ha : XE te Γ Ω (va T b) Ω1) : XE (tCB rInt (tCons te tNil)) Γ Ω (va T (if b = true then (1 : Int) else 0)) Ω1 := xe_cb (xa_cons ha xa_nil) fun F H vs hh a Q q => by
  obtain ⟨v, rfl, a1⟩ := alA1 a
  have a1 : v = .bl b := a1
  subst a1
  refine .inr ⟨b, rfl, q F _ H (Same.refl F) hh ?_⟩
  cases b <;> rfl
theorem xe_max2 (ha : XE ta Γ Ω (va T i) Ω1) (hb : XE tb Γ Ω1 (va T j) Ω2) : XE (tCB rMax2 (tCons ta (tCons tb tNil))) Γ Ω (va T (max i j)) Ω2 := xe_cb (xa_cons ha (xa_cons hb xa_nil)) fun F H vs hh a Q q => by
  obtain ⟨v, w, rfl, a1, a2⟩ := alA2 a
  have a1 : v = .int i := a1
  have a2 : w = .int j := a2
  subst a1 a2
  refine ⟨i, j, rfl, q F _ H (Same.refl F) hh ?_⟩
  show V.int _ = V.int _
  congr 1
  split <;> omega
theorem xe_sum {l : List Int} {A : VA} (ha : XE te Γ Ω A Ω1) (h : IsL T Ω1 A l) : XE (tCB (rSum T.K) (tCons te tNil)) Γ Ω (va T l.sum) Ω1 := xe_cb (xa_cons ha xa_nil) fun F H vs hh a Q q => by
  obtain ⟨v, rfl, a1⟩ := alA1 a
  obtain ⟨p, ws, e, hs, al⟩ := h F H v hh a1
  rw [al_int al] at hs
  exact ⟨p, l, by rw [e], hs, q F _ H (Same.refl F) hh rfl⟩
theorem xe_bits (ha : XE te Γ Ω (va T i) Ω1) : XE (tBits te) Γ Ω (va T ((Builtin.Int.intBits i : Nat) : Int)) Ω1 := fun F σ H e hh Q q => by
  refine ha F σ H e hh _ fun F1 x H1 Ω' e1 hh1 ⟨a1, o1⟩ => ?_
  subst o1
  exact ⟨i, a1, q F1 _ H1 _ e1 hh1 ⟨rfl, rfl⟩⟩
theorem xe_ite {a a' : α} (h : XT t Γ Ω b Ω1) (h1 : XE ta Γ Ω1 (va T a) Ω2) (h2 : XE tb Γ Ω1 (va T a') Ω2) : XE (tIf t ta tb) Γ Ω (va T (if b = true then a else a')) Ω2 :=
  xe_if h (fun e => xe_eq h1 (by rw [if_pos e])) (fun e => xe_eq h2 (by rw [if_neg (by rw [e]; exact Bool.false_ne_true)]))
theorem xe_lt (ha : XE ta Γ Ω (va T i) Ω1) (hb : XE tb Γ Ω1 (va T j) Ω2) : XE (tOp (rI0 fun i j => .bl (decide (i < j))) ta tb) Γ Ω (va T (decide (i < j))) Ω2 := (xe_op ha hb ro_bl)
theorem xe_gt (ha : XE ta Γ Ω (va T i) Ω1) (hb : XE tb Γ Ω1 (va T j) Ω2) : XE (tOp (rI0 fun i j => .bl (decide (j < i))) ta tb) Γ Ω (va T (decide (j < i))) Ω2 := (xe_op ha hb (ro_bl (g := fun i j => decide (j < i))))
theorem xe_ge (ha : XE ta Γ Ω (va T i) Ω1) (hb : XE tb Γ Ω1 (va T j) Ω2) : XE (tOp (rI0 fun i j => .bl (decide (j ≤ i))) ta tb) Γ Ω (va T (decide (j ≤ i))) Ω2 := (xe_op ha hb (ro_bl (g := fun i j => decide (j ≤ i))))
/-! == by values, by data -/
def rEqX (K : PySem.W.Frag) : R2 := fun x y H Q => rEq x y H Q ∨ rEqD K x y H Q
theorem op_eqX {X : Cx} (hu : X.A.units + 64 < cLine) : OpR X (compareOp .Eq) (rEqX X.K) := op_eq.or (op_eqD hu)
def rNeX (K : PySem.W.Frag) : R2 := fun x y H Q => rNe x y H Q ∨ rNeD K x y H Q
theorem op_neX {X : Cx} (hu : X.A.units + 64 < cLine) : OpR X (compareOp .NotEq) (rNeX X.K) := op_ne.or (op_neD hu)
theorem xe_eqI (ha : XE ta Γ Ω (va T i) Ω1) (hb : XE tb Γ Ω1 (va T j) Ω2) : XE (tOp (rEqX T.K) ta tb) Γ Ω (va T (decide (i = j))) Ω2 := xe_op ha hb (ro_or1 ro_eqI)
theorem xe_neI (ha : XE ta Γ Ω (va T i) Ω1) (hb : XE tb Γ Ω1 (va T j) Ω2) : XE (tOp (rNeX T.K) ta tb) Γ Ω (va T (!decide (i = j))) Ω2 := xe_op ha hb (ro_or1 ro_neI)
/-! statements, further -/
theorem xs_ifN {t1 : TS} (h : XT t Γ Ω false Ω1) (q : XS ts D F0 Γ Ω1) : XS (tSeq (tIfS t t1 tNext) ts) D F0 Γ Ω := xs_ifF h q
theorem nt {b : Bool} (h : ¬ b = true) : b = false := by cases b with
  | true => exact absurd rfl h
  | false => rfl
variable {n : Int}
theorem xs_augI {k : Nat} {g : Int → Int → Int} (hx : Γ[k]? = some (some (va T i))) (h : XE te Γ Ω (va T j) Ω1) (e : g i j = n) (q : XS ts D F0 (Γ.set k (some (va T n))) Ω1) : XS (tSeq (tAug k te (rI0 fun i j => .int (g i j))) ts) D F0 Γ Ω := fun σ H ⟨F, f0, en, hh⟩ => by
  subst e
  obtain ⟨x, h1, h2⟩ := en.2 k _ hx
  refine ⟨x, h1, ?_⟩
  refine h F σ H en hh _ fun F1 v H1 Ω' e1 hh1 ⟨a1, o1⟩ => ?_
  exact ⟨i, j, h2, a1, q _ H1 ⟨F1, f0.trans e1, (en.mono e1).set (A := va T (g i j)) rfl, o1 ▸ hh1⟩⟩
theorem xs_augI1 {k : Nat} {g : Int → Int → Int} (hx : Γ[k]? = some (some (va T i))) (h : XE te Γ Ω (va T j) Ω1) (e : g i j = n) (q : ∀ σ H, NX F0 (Γ.set k (some (va T n))) Ω1 σ H → D.nx σ H) : XS (tAug k te (rI0 fun i j => .int (g i j))) D F0 Γ Ω := fun σ H m => xs_augI (ts := tNext) hx h e q σ H m
theorem xs_augD {k : Nat} {Dd : Int → Int → Prop} {g : Int → Int → Int} (hx : Γ[k]? = some (some (va T i))) (hd : Dd i j) (h : XE te Γ Ω (va T j) Ω1) (e : g i j = n) (q : XS ts D F0 (Γ.set k (some (va T n))) Ω1) : XS (tSeq (tAug k te (rI Dd fun i j => .int (g i j))) ts) D F0 Γ Ω := fun σ H ⟨F, f0, en, hh⟩ => by
  subst e
  obtain ⟨x, h1, h2⟩ := en.2 k _ hx
  refine ⟨x, h1, ?_⟩
  refine h F σ H en hh _ fun F1 v H1 Ω' e1 hh1 ⟨a1, o1⟩ => ?_
  exact ⟨i, j, h2, a1, hd, q _ H1 ⟨F1, f0.trans e1, (en.mono e1).set (A := va T (g i j)) rfl, o1 ▸ hh1⟩⟩
theorem xs_asgG {g : TG} {f : List (Option VA) → List (Option VA)} {js : List Nat} (h : XE te Γ Ω A Ω1) (ht : Tgt g A f js) (q : XS ts D F0 (f Γ) Ω1) : XS (tSeq (tAsg te g) ts) D F0 Γ Ω := fun σ H ⟨F, f0, en, hh⟩ => by
  refine h F σ H en hh _ fun F1 v H1 Ω' e1 hh1 ⟨a1, o1⟩ => ?_
  subst o1
  exact ht F1 σ Γ v H1 _ (en.mono e1) hh1 a1 _ fun F2 σ2 H2 e2 en2 hh2 _ => q σ2 H2 ⟨F2, f0.trans (e1.trans e2), en2, hh2⟩
end
section
variable {T : TC} {Γ : List (Option VA)} {Ω Ω1 Ω2 : List OA} {A B C : VA} {ta tb te tc : TE} {i j : Int} {b : Bool}
def rIsi (K : PySem.W.Frag) : List V → Hp → VK → Prop := fun xs H Q => ∃ (x c : V) (t u : Value) (b : Bool), xs = [x, c] ∧ ClsV c u ∧ TyX K H x t ∧ PySem.W.kitOne K t u = some b ∧ Q (.bl b) H
theorem cr_isi {X : Cx} : CallR X (.builtin "isinstance") (rIsi X.K) := call_isi
/-- what a class must be that isinstance asks for -/
structure ICls (K : PySem.W.Frag) (C : Addr) : Prop where
  cl : Cls K C
  ha : PySem.W.findIn K (.ref C) "__class__" = some (some (.builtin "object.__class__"))
  hn : PySem.W.specialIn K (.builtin "object.__class__") "__get__" = some (some (.builtin "getset_descriptor.__get__"))
  htk : PySem.W.takesIn K (.builtin "object.__class__") = some true
  hm : PySem.W.mroIn K C (.type "object") = some true
  kit : PySem.W.kitOne K (.ref C) (.ref C) = some true
theorem xe_isi {c : V} {t u : Value} (ha : XE ta Γ Ω A Ω1) (hb : XE tc Γ Ω1 (vx c) Ω1) (hc : ClsV c u) (ht : ∀ F H v, Holds F Ω1 H → A.P F v → TyX T.K H v t) (hk : PySem.W.kitOne T.K t u = some b) :
    XE (tCB (rIsi T.K) (tCons ta (tCons tc tNil))) Γ Ω (va T b) Ω1 := xe_cb (xa_cons ha (xa_cons hb xa_nil)) fun F H vs hh a Q q => by
  obtain ⟨v, w, rfl, a1, a2⟩ := alA2 a
  have a2 : w = c := a2
  subst a2
  exact ⟨v, w, t, u, b, rfl, hc, ht F H v hh a1, hk, q F _ H (Same.refl F) hh rfl⟩
theorem xe_vx {c : V} : XE (tC c) Γ Ω (vx c) Ω := xe_c fun _ => rfl
theorem ty_int {F H : Hp} {v : V} (_ : Holds F Ω H) (a : (va T i).P F v) : TyX T.K H v (.type "int") := by
  have a : v = .int i := a
  subst a
  exact .base (.int i)
end
section
variable {X : Cx} {K : PySem.W.Frag} {e o tg l : Expr} {es : List Expr} {f m name : Str} {pos p1 p2 p3 apos cpos : Pos} {te ta tl : TE} {t : TA} {k : Nat} {id Tn : String} {r : V → List V → Hp → VK → Prop}
theorem cr_lenK (hK : X.K = K) : CallR X (.builtin "len") (rLen K) := hK ▸ cr_len
theorem cr_isiK (hK : X.K = K) : CallR X (.builtin "isinstance") (rIsi K) := hK ▸ cr_isi
theorem cr_sumK (hc : X.calm = true) (hK : X.K = K) : CallR X (.builtin "sum") (rSum K) := hK ▸ cr_sum hc
theorem ix_seqK (hK : X.K = K) : IxR X (rIx K) := hK ▸ ix_seq
theorem sl_listK (hK : X.K = K) : SlR X (rSlL K) := hK ▸ sl_list
theorem op_eqXK (hu : X.A.units + 64 < cLine) (hK : X.K = K) : OpR X (compareOp .Eq) (rEqX K) := hK ▸ op_eqX hu
theorem op_neXK (hu : X.A.units + 64 < cLine) (hK : X.K = K) : OpR X (compareOp .NotEq) (rNeX K) := hK ▸ op_neX hu
theorem pi_listK (hl : PE X l tl) (hK : X.K = K) : PI X tg l (iList K tl) := hK ▸ pi_list hl
theorem pg_tupK {es : List Expr} {k : Nat} {t : TGs} {n : Nat} (hK : X.K = K) (hc : X.calm = true) (h : PGs X es t)
    (hn : (assignEach es X.env).length = n := by rfl) (hst : (assignEach es X.env).findIdx? (·.1) = none := by rfl) : PG X (.Tuple es k pos) (gTup K n t) := hK ▸ pg_tup hc h hn hst
end
theorem neK_ {α : Type} [DecidableEq α] {a b : α} (h : a = b) : (!decide (a = b)) = false := by rw [decide_eq_true h]; rfl
/-! ### promises of the machine's and the numbers' methods -/
def Pre_Mach_step (T : TC) : PreT := fun As Ω R => ∃ (k : Nat) (p : Addr) (s : MS) (wd : Str) (n : Int), As = [vr p, va T wd, va T n] ∧ Ω[k]? = some (machA T p s) ∧ wd ∈ mwords ∧ R = RV (va T ()) (stt Ω [(k, machA T p (s.step wd n))] [])
def Pre_Mach_enter (T : TC) : PreT := fun As Ω R => ∃ (k : Nat) (p : Addr) (s : MS) (wd : Str) (m n : Int), As = [vr p, va T wd, va T m, va T n] ∧ Ω[k]? = some (machA T p s) ∧ R = RV (va T ()) (stt Ω [(k, machA T p (s.enter wd m n))] [])
def Pre_Mach_reset (T : TC) : PreT := fun As Ω R => ∃ (k : Nat) (p : Addr) (s : MS), As = [vr p] ∧ Ω[k]? = some (machA T p s) ∧ R = RV (va T ()) (stt Ω [(k, machA T p s.reset)] [])
def Pre_Mach_tally (T : TC) : PreT := fun As Ω R => ∃ (k : Nat) (p : Addr) (s : MS), As = [vr p] ∧ Ω[k]? = some (machA T p s) ∧ R = RV (va T (LF.mk s.tally)) Ω
def Pre_Mach_walk (T : TC) : PreT := fun As Ω R => ∃ (k : Nat) (p : Addr) (s : MS), As = [vr p] ∧ Ω[k]? = some (machA T p s) ∧ R = RV (va T (LF.mk s.wk)) Ω
def Pre_Mach_parts (T : TC) : PreT := fun As Ω R => ∃ (k : Nat) (p : Addr) (s : MS), As = [vr p] ∧ Ω[k]? = some (machA T p s) ∧ R = RV (va T (s.w, s.c)) Ω
def Pre_Machine (T : TC) : PreT := fun As Ω R => ∃ (Ω0 : List OA) (p : Addr) (w c : Int), As = [vr p, va T w, va T c] ∧ ((8 ≤ w ∧ w ≤ 30) ∧ 2 ≤ c ∧ c ≤ 1000) ∧ Ω = Ω0 ++ [newA (T.C 0) p] ∧ R = RV (va T ()) (Ω0 ++ [machA T p (MS.fresh w c)])
def Pre_Big (T : TC) : PreT := fun As Ω R => ∃ (Ω0 : List OA) (p : Addr) (w v : Int) (row : List Int) (B : VA), (B = va T (LF.mk row) ∨ B = va T (TF.mk row)) ∧ As = [vr p, va T w, va T v, B] ∧ Ω = Ω0 ++ [newA (T.C 1) p] ∧ R = RV (va T ()) (Ω0 ++ [bigA T p ⟨w, row, v⟩])
/-- what must hold to go on -/
noncomputable def chkP (p : Prop) : Option Unit := @ite _ p (Classical.propDecidable p) (some ()) none
theorem chkP_some {p : Prop} {r : Unit} (h : chkP p = some r) : p := by
  unfold chkP at h
  split at h
  · assumption
  · cases h
end VL

set_option Elab.async false
set_option linter.all false
set_option maxRecDepth 100000
/-! == of data; new things side by side -/
namespace VL
open PySem L2
class Dat (α : Type) [Rp α] where
  dat : α → PyData
  ok : α → Prop
  dep : Nat
  dp : ∀ {T : TC} {F H : Hp} {v : V} {a : α}, Same F H → Rp.rep T F v a → Dp T.K H v (dat a)
  lay : ∀ {a : α}, ok a → (dat a).canLay0 = true
  depth : ∀ {a : α}, (dat a).depth ≤ dep
  eqv : ∀ {a b : α}, PyData.eqv (dat a) (dat b) = true ↔ a = b
instance : Dat Int := ⟨.int, fun _ => True, 0, fun _ h => by
    rw [show _ = V.int _ from h]; exact .int _, fun _ => rfl, Nat.le_refl _, fun {a b} => by
    show (a == b) = true ↔ a = b
    exact beq_iff_eq⟩
instance : Dat Bool := ⟨.bool, fun _ => True, 0, fun _ h => by
    rw [show _ = V.bl _ from h]; exact .bl _, fun _ => rfl, Nat.le_refl _, fun {a b} => by
    show (a == b) = true ↔ a = b
    exact beq_iff_eq⟩
instance : Dat Str := ⟨.str, fun s => (PyData.str s).canLay0 = true, 0, fun _ h => by
    rw [show _ = V.str _ from h]; exact .str _, fun h => h, Nat.le_refl _, fun {a b} => by
    show (a == b) = true ↔ a = b
    exact beq_iff_eq⟩
section
variable {α : Type} [Rp α] [Dat α]
theorem dp_all {T : TC} {F H : Hp} (e : Same F H) : ∀ {vs : List V} {l : List α}, Al T F vs l → DpAll T.K H vs (l.map Dat.dat)
  | _, _, .nil => .nil
  | _, _, .cons h t => .cons (Dat.dp e h) (dp_all e t)
theorem lay_all : ∀ {l : List α}, (∀ x ∈ l, Dat.ok x) → PyData.canLayAll0 (l.map Dat.dat) = true
  | [], _ => rfl
  | x :: r, h => by
    show (PyData.canLay0 (Dat.dat x) && PyData.canLayAll0 (r.map Dat.dat)) = true
    rw [Dat.lay (h x List.mem_cons_self), lay_all fun y hy => h y (List.mem_cons_of_mem _ hy)]
    rfl
theorem dep_all : ∀ {l : List α}, PyData.depthAll (l.map Dat.dat) ≤ Dat.dep α
  | [] => Nat.zero_le _
  | x :: r => by
    show max (PyData.depth (Dat.dat x)) (PyData.depthAll (r.map Dat.dat)) ≤ _
    exact Nat.max_le.mpr ⟨Dat.depth, dep_all⟩
theorem eqv_all : ∀ {l m : List α}, PyData.eqvAll (l.map Dat.dat) (m.map Dat.dat) = true ↔ l = m
  | [], [] => by simp [PyData.eqvAll]
  | [], _ :: _ => by simp [PyData.eqvAll]
  | _ :: _, [] => by simp [PyData.eqvAll]
  | x :: r, y :: s => by
    simp only [List.map_cons, PyData.eqvAll, Bool.and_eq_true, Dat.eqv, eqv_all, List.cons.injEq]
end
theorem depth_list {ds : List PyData} : (PyData.list ds).depth = PyData.depthAll ds + 1 := by simp [PyData.depth]
theorem depth_tuple {ds : List PyData} : (PyData.tuple ds).depth = PyData.depthAll ds + 1 := by simp [PyData.depth]
instance {α : Type} [Rp α] [Dat α] : Dat (LF α) := ⟨fun l => .list (l.l.map Dat.dat), fun l => ∀ x ∈ l.l, Dat.ok x, Dat.dep α + 1, fun e ⟨p, vs, h1, h2, h3⟩ => by
    rw [h1]; exact .lst (SqL.of (e _ _ h2)) (dp_all e h3), fun h => by show PyData.canLayAll0 _ = true; exact lay_all h, fun {a} => by rw [depth_list]; exact Nat.succ_le_succ dep_all, fun {a b} => by
    show PyData.eqvAll _ _ = true ↔ a = b
    rw [eqv_all]
    cases a; cases b; simp⟩
instance {α : Type} [Rp α] [Dat α] : Dat (TF α) := ⟨fun l => .tuple (l.l.map Dat.dat), fun l => ∀ x ∈ l.l, Dat.ok x, Dat.dep α + 1, fun e ⟨p, vs, h1, h2, h3⟩ => by
    rw [h1]; exact .tup (Same.tup e h2) (dp_all e h3), fun h => by show PyData.canLayAll0 _ = true; exact lay_all h, fun {a} => by rw [depth_tuple]; exact Nat.succ_le_succ dep_all, fun {a b} => by
    show PyData.eqvAll _ _ = true ↔ a = b
    rw [eqv_all]
    cases a; cases b; simp⟩
instance {α β : Type} [Rp α] [Rp β] [Dat α] [Dat β] : Dat (α × β) := ⟨fun l => .tuple [Dat.dat l.1, Dat.dat l.2], fun l => Dat.ok l.1 ∧ Dat.ok l.2, max (Dat.dep α) (Dat.dep β) + 1, fun e ⟨p, x, y, h1, h2, h3, h4⟩ => by
    rw [h1]; exact .tup (Same.tup e h2) (.cons (Dat.dp e h3) (.cons (Dat.dp e h4) .nil)), fun h => by
    show (PyData.canLay0 (Dat.dat _) && (PyData.canLay0 (Dat.dat _) && true)) = true
    rw [Dat.lay h.1, Dat.lay h.2]; rfl, fun {a} => by
    rw [depth_tuple]
    refine Nat.succ_le_succ ?_
    show max (PyData.depth (Dat.dat a.1)) (max (PyData.depth (Dat.dat a.2)) 0) ≤ _
    have h1 := Dat.depth (a := a.1)
    have h2 := Dat.depth (a := a.2)
    omega, fun {a b} => by
    show (PyData.eqv (Dat.dat a.1) (Dat.dat b.1) && (PyData.eqv (Dat.dat a.2) (Dat.dat b.2) && true)) = true ↔ a = b
    rw [Bool.and_true, Bool.and_eq_true, Dat.eqv, Dat.eqv]
    exact Prod.ext_iff.symm⟩
instance {α β γ : Type} [Rp α] [Rp β] [Rp γ] [Dat α] [Dat β] [Dat γ] : Dat (T3 α β γ) := ⟨fun l => .tuple [Dat.dat l.a, Dat.dat l.b, Dat.dat l.c], fun l => Dat.ok l.a ∧ Dat.ok l.b ∧ Dat.ok l.c, max (Dat.dep α) (max (Dat.dep β) (Dat.dep γ)) + 1, fun e ⟨p, x, y, z, h1, h2, h3, h4, h5⟩ => by
    rw [h1]; exact .tup (Same.tup e h2) (.cons (Dat.dp e h3) (.cons (Dat.dp e h4) (.cons (Dat.dp e h5) .nil))), fun h => by
    show (PyData.canLay0 (Dat.dat _) && (PyData.canLay0 (Dat.dat _) && (PyData.canLay0 (Dat.dat _) && true))) = true
    rw [Dat.lay h.1, Dat.lay h.2.1, Dat.lay h.2.2]; rfl, fun {a} => by
    rw [depth_tuple]
    refine Nat.succ_le_succ ?_
    show max (PyData.depth (Dat.dat a.a)) (max (PyData.depth (Dat.dat a.b)) (max (PyData.depth (Dat.dat a.c)) 0)) ≤ _
    have h1 := Dat.depth (a := a.a)
    have h2 := Dat.depth (a := a.b)
    have h3 := Dat.depth (a := a.c)
    omega, fun {a b} => by
    show (PyData.eqv (Dat.dat a.a) (Dat.dat b.a) && (PyData.eqv (Dat.dat a.b) (Dat.dat b.b) && (PyData.eqv (Dat.dat a.c) (Dat.dat b.c) && true))) = true ↔ a = b
    rw [Bool.and_true, Bool.and_eq_true, Bool.and_eq_true, Dat.eqv, Dat.eqv, Dat.eqv]
    cases a; cases b; simp⟩
/-- == -/
def eqD {α : Type} [Rp α] [Dat α] (x y : α) : Bool := PyData.eqv (Dat.dat x) (Dat.dat y)
theorem eqD_iff {α : Type} [Rp α] [Dat α] {x y : α} : eqD x y = true ↔ x = y := Dat.eqv
/-- A is data d -/
def IsD (T : TC) (Ω : List OA) (A : VA) (d : PyData) : Prop := ∀ F H v, Holds F Ω H → A.P F v → Dp T.K H v d
section
variable {T : TC} {Γ : List (Option VA)} {Ω Ω1 Ω2 Ω3 : List OA} {A B C : VA} {ta tb te : TE} {D : Ends} {F0 : Hp} {ts : TS} {b : Bool} {α : Type} [Rp α] [Dat α] {x y : α} {l m : List α} {p : Addr} {k : Nat}
theorem isD_va : IsD T Ω (va T x) (Dat.dat x) := fun F H v hh a => Dat.dp hh.same a
theorem isD_M (h : Ω[k]? = some (lstA T p l)) : IsD T Ω (vr p) (Dat.dat (LF.mk l)) := fun F H v hh a => by
  have a : v = .ref p := a
  subst a
  obtain ⟨t, ⟨vs, h1, h2⟩, st, _⟩ := hh.get h
  exact .lst (SqL.of (st _ _ h1)) (dp_all hh.same h2)
theorem shp {x : α} (h : Dat.ok x) (hd : Dat.dep α ≤ 64) : SeqAt.shaped (Dat.dat x) = true := by
  unfold SeqAt.shaped
  rw [Dat.lay h, Bool.true_and]
  exact decide_eq_true (Nat.le_trans Dat.depth hd)
theorem ro_eqD {d e : PyData} (h1 : IsD T Ω A d) (h2 : IsD T Ω B e) (s1 : SeqAt.shaped d = true) (s2 : SeqAt.shaped e = true) : RO (rEqX T.K) Ω A B (va T (PyData.eqv d e)) := fun F H x y hh a1 a2 Q q =>
  .inr ⟨d, e, h1 F H x hh a1, h2 F H y hh a2, s1, s2, q F _ H (Same.refl F) hh rfl⟩
theorem ro_neD {d e : PyData} (h1 : IsD T Ω A d) (h2 : IsD T Ω B e) (s1 : SeqAt.shaped d = true) (s2 : SeqAt.shaped e = true) : RO (rNeX T.K) Ω A B (va T (!PyData.eqv d e)) := fun F H x y hh a1 a2 Q q =>
  .inr ⟨d, e, h1 F H x hh a1, h2 F H y hh a2, s1, s2, q F _ H (Same.refl F) hh rfl⟩
theorem xe_neK (h : x = y ∧ Dat.ok x) (hd : Dat.dep α ≤ 64) (ha : XE ta Γ Ω A Ω1) (hb : XE tb Γ Ω1 B Ω2) (i1 : IsD T Ω2 A (Dat.dat x)) (i2 : IsD T Ω2 B (Dat.dat y)) : XE (tOp (rNeX T.K) ta tb) Γ Ω (va T false) Ω2 := by
  obtain ⟨h, o⟩ := h
  subst h
  have := xe_op ha hb (ro_neD i1 i2 (shp o hd) (shp o hd))
  rw [Dat.eqv.mpr rfl] at this
  exact this
/-- == of data -/
theorem xe_eqD (h : Dat.ok x ∧ Dat.ok y) (hd : Dat.dep α ≤ 64) (ha : XE ta Γ Ω A Ω1) (hb : XE tb Γ Ω1 B Ω2) (i1 : IsD T Ω2 A (Dat.dat x)) (i2 : IsD T Ω2 B (Dat.dat y)) : XE (tOp (rEqX T.K) ta tb) Γ Ω (va T (eqD x y)) Ω2 := xe_op ha hb (ro_eqD i1 i2 (shp h.1 hd) (shp h.2 hd))
/-- things made in a turn are left -/
theorem Holds.cutL {F H : Hp} {Ω : List OA} {ks : List (Nat × OA)} {L M : List OA} (h : Holds F (stt Ω ks (L ++ M)) H) : Holds F (stt Ω ks L) H := by
  have e : stt Ω ks (L ++ M) = stt Ω ks L ++ M := (List.append_assoc _ _ _).symm
  rw [e] at h
  obtain ⟨ts, h1, h2, h3, h4, h5⟩ := h
  have len : (stt Ω ks L ++ M).length = (stt Ω ks L).length + M.length := List.length_append
  exact ⟨ts, fun i o q => h1 i o (by rw [List.getElem?_append_left (getlt q)]; exact q), h2, fun i q => h3 i (by omega), fun i b x q => h4 i b x (by omega), fun i j b x qi qj => h5 i j b x (by omega) (by omega)⟩
theorem NX.cutL {ks : List (Nat × OA)} {σ : L2.St} {H : Hp} {L' : List OA} (L M : List OA) (h : NX F0 Γ (stt Ω ks L') σ H) (e : L' = L ++ M := by rfl) : NX F0 Γ (stt Ω ks L) σ H := by
  subst e
  let ⟨F, f0, en, hh⟩ := h
  exact ⟨F, f0, en, hh.cutL⟩
end
/-! ### keyword arguments -/
/-- the parameters' values out of those that are written, by place -/
def prm {α : Type} (ix : List Nat) (l : List α) : List α := ix.filterMap fun i => l[i]?
theorem prm_rel {R : V → Value → Prop} : ∀ (ix : List Nat) {vs : List V} {us : List Value}, Paired R vs us → Paired R (prm ix vs) (prm ix us)
  | [], _, _, _ => .nil
  | i :: r, vs, us, h => by
    have hl := PySem.Paired.length h
    have ih := prm_rel r h
    have key : ∀ (vs : List V) (us : List Value), Paired R vs us → ∀ i : Nat, (vs[i]? = none ∧ us[i]? = none) ∨ ∃ v u, vs[i]? = some v ∧ us[i]? = some u ∧ R v u := by
      intro vs us h
      induction h with
      | nil => intro i; exact .inl ⟨by simp, by simp⟩
      | cons a t ih =>
        intro i
        cases i with
        | zero => exact .inr ⟨_, _, rfl, rfl, a⟩
        | succ i => simpa using ih i
    unfold prm
    rw [List.filterMap_cons, List.filterMap_cons]
    rcases key vs us h i with ⟨h1, h2⟩ | ⟨v, u, h1, h2, rr⟩
    · rw [h1, h2]; exact ih
    · rw [h1, h2]; exact .cons rr ih
theorem prm_relA {F : Hp} : ∀ (ix : List Nat) {vs : List V} {As : List VA}, AlA F vs As → AlA F (prm ix vs) (prm ix As)
  | [], _, _, _ => .nil
  | i :: r, vs, As, h => by
    have ih := prm_relA r h
    have key : ∀ (vs : List V) (As : List VA), AlA F vs As → ∀ i : Nat, (vs[i]? = none ∧ As[i]? = none) ∨ ∃ v A, vs[i]? = some v ∧ As[i]? = some A ∧ A.P F v := by
      intro vs As h
      induction h with
      | nil => intro i; exact .inl ⟨by simp, by simp⟩
      | cons a t ih =>
        intro i
        cases i with
        | zero => exact .inr ⟨_, _, rfl, rfl, a⟩
        | succ i => simpa using ih i
    unfold prm
    rw [List.filterMap_cons, List.filterMap_cons]
    rcases key vs As h i with ⟨h1, h2⟩ | ⟨v, u, h1, h2, rr⟩
    · rw [h1, h2]; exact ih
    · rw [h1, h2]; exact .cons rr ih
structure CalK (P : Program) (w : World) (K : PySem.W.Frag) (mg : Str → Option Value) (base : Heap) (k : Nat) (x : Str) (ps : List Str) (n : Nat) (ks : List Str) (ix : List Nat) (sp : Sp) : Prop where
  ex : ∃ f fd, FnOk P w K mg base CX0 k f fd ps sp ∧ mg x = some (.ref f) ∧ PySem.W.keepIn K (.ref f) = true ∧ KBn K fd ps n ks (fun us ws => prm ix (us ++ ws)) (fun vs zs => prm ix (vs ++ zs))
theorem kbn_of {K : PySem.W.Frag} {x qual : Str} {st : Stmt} {f : Addr} {fd : FuncData} {ps ks : List Str} {n : Nat} {ix : List Nat} (F : Fun K x qual st f fd)
    (h : ∀ (kV doc pm : Value) (an : Option Addr) (cdv ct : Value) (us ws : List Value), us.length = n → ws.length = ks.length → bindArgs (PySem.W.fnOf x qual (defArgs st) (defBody st) (defScope st) .none kV doc pm an cdv ct) ⟨us, ks.zip ws⟩ = pure (ps.zip (prm ix (us ++ ws)))) :
    KBn K fd ps n ks (fun us ws => prm ix (us ++ ws)) (fun vs zs => prm ix (vs ++ zs)) := by
  obtain ⟨oc, od, kV, doc, pm, an, cdv, ct, osl, rfl, lk, hcd⟩ := F.ex
  exact ⟨fun s us ws _ h1 h2 => .of_eq (h kV doc pm an cdv ct us ws h1 h2), fun r1 r2 => prm_rel ix (Vals.append r1 r2)⟩
section
variable {X : Cx} {k n : Nat} {x : Str} {ps ks : List Str} {ix : List Nat} {sp : Sp} {p pos : Pos} {e : Expr} {es : List Expr} {kws : List Keyword} {t tk : TA}
/-- keywords alone -/
theorem pe_calK0 (c : CalK X.prog X.w X.K X.mg X.base k x ps 0 ks ix sp) (hr : Room k X.A) (hg : Gl X x)
    (hkw : PK X kws tk) (hall : (backToKw pos (keywordEach kws X.env)).all (·.1.isSome) = true := by rfl) (hks : (backToKw pos (keywordEach kws X.env)).filterMap (·.1) = ks := by rfl)
    (hdb : (x == ("__debug__" : Str)) = false := by decide)
    (hpl : ((backTo pos (starEach [] X.env)).any (·.1) || (backToKw pos (keywordEach kws X.env)).any (·.1.isNone)) = false := by rfl) :
    PE X (.Call (.Name x p) [] kws pos) (tCallN 0 ks.length sp (fun vs zs => prm ix (vs ++ zs)) E0 tNil tk) := by
  obtain ⟨f, fd, F, hm, hk, hb⟩ := c.ex
  refine ⟨fun pins s σ H Q I h => ?_⟩
  refine PySem.wpAny_Call_Name_kw (ld_glob I hg hm ?_ hdb)
  refine PySem.W.callWith_KW0 (h₀ := X.base) I.ok.mod.kin hk hall ?_ hpl
  refine L2.thn (hkw.run pos pins s σ H _ I h) fun ws s2 ⟨zs, H2, I2, rz, l1, l2, q2⟩ => ⟨I2.kIn, ?_⟩
  rw [hks]
  exact run_fnN (us := []) (vs := []) F hr hb pass0 I2 .nil rz l1 l2 q2
end
section
variable {T : TC} {Γ : List (Option VA)} {Ω Ω1 Ω2 Ω3 : List OA} {A : VA} {As Ks : List VA}
theorem xe_callN {Pre : PreT} {E : XK} {t tk : TA} {ix : List Nat} {n m : Nat} {Ω' : List OA} (ha : XA t Γ Ω As Ω1) (hk : XA tk Γ Ω1 Ks Ω2) (hp : Pre (prm ix (As ++ Ks)) Ω2 (RV A Ω')) (he : Ω' = Ω3) (h1 : As.length = n := by rfl) (h2 : Ks.length = m := by rfl) :
    XE (tCallN n m (mkSp Pre) (fun vs zs => prm ix (vs ++ zs)) E t tk) Γ Ω A Ω3 := fun F σ H e hh Q q => by
  subst he
  refine ha F σ H e hh _ fun F1 xs H1 e1 hh1 a1 => ?_
  refine hk F1 σ H1 (e.mono e1) hh1 _ fun F2 zs H2 e2 hh2 a2 => ?_
  refine ⟨a1.len.trans h1, a2.len.trans h2, F2, Ω2, _, _, hp, prm_relA ix ((a1.mono e2).app a2), hh2, fun F' v H' Ω4 e' hh' r => q F' v H' Ω4 ((e1.trans e2).trans e') hh' r⟩
end
end VL

set_option Elab.async false
set_option linter.all false
set_option maxRecDepth 100000
/-! frozen dicts from texts to ints; zip; pairs by place -/
namespace VL
open PySem L2 PyProof.Rows
structure DF where
  l : List (Str × Int)
def dkv (l : List (Str × Int)) : List (Key × V) := l.map fun q => (Sum.inr q.1, V.int q.2)
instance : Rp DF := ⟨fun T F v d => ∃ p od, v = .ref p ∧ F p = some (.frz od (.dK (dkv d.l))), fun e ⟨p, od, h1, h2⟩ => ⟨p, od, h1, e _ _ h2⟩⟩
/-- what an expression makes is locked for good -/
def tFz (te : TE) : TE := fun σ H Q => te σ H fun v H1 => ∃ p kvs, v = .ref p ∧ H1 p = some (.dK kvs) ∧ ∀ od, Q v (upd H1 p (.frz od (.dK kvs)))
theorem pe_fz {X : Cx} {e : Expr} {te : TE} (he : PE X e te) : PE X e (tFz te) := by
  refine ⟨fun pins s σ H Q I hw => ?_⟩
  refine thn (he.run pins s σ H _ I hw) fun u s1 ⟨x, H1, I1, rx, p, kvs, ex, hp, q⟩ => ?_
  obtain ⟨od, I2⟩ := I1.lock hp trivial
  exact ⟨x, _, I2, rx, q od⟩
/-! ### a dict on its way -/
def rawD (p : Addr) (kvs : List (Key × V)) : OA := ⟨fun _ t => t p = some (.dK kvs), fun _ h => h⟩
section
variable {T : TC} {Γ : List (Option VA)} {Ω Ω1 Ω2 Ω3 : List OA} {A B C : VA} {ta tb te : TE} {D : Ends} {F0 : Hp} {ts : TS}
/-! ### a display -/
def XPs (trs : List (TE × TE)) (Γ : List (Option VA)) (Ω : List OA) (kvs : List (Str × Int)) : Prop :=
  ∀ F σ H, Env F σ Γ → Holds F Ω H → ∀ Q : List (V × V) → Hp → Prop, (∀ F' H', Same F F' → Holds F' Ω H' → Q (kvs.map fun q => (V.str q.1, V.int q.2)) H') → tPairs trs σ H Q
theorem xe_disp0 : XE (tFz tDNewK) Γ Ω (va T (DF.mk [])) Ω := fun F σ H e hh Q q => by
  intro p hp
  refine ⟨p, [], rfl, upd_same, fun od => ?_⟩
  have eu : upd (upd H p (.dK [])) p (.frz od (.dK [])) = upd H p (.frz od (.dK [])) := by
    funext b
    by_cases hb : b = p
    · subst hb; rw [upd_same, upd_same]
    · rw [upd_ne hb, upd_ne hb, upd_ne hb]
  rw [eu]
  obtain ⟨hh3, e3⟩ := hh.newF (u := .frz od (.dK [])) hp
  exact q _ _ _ _ e3 hh3 ⟨⟨p, od, rfl, upd_same⟩, rfl⟩

/-! ### dict(pairs) -/
def rDictP (K : PySem.W.Frag) : List V → Hp → VK → Prop := fun xs H Q => ∃ (a : Addr) (ps : List Addr) (kvs : List (Key × V)), xs = [.ref a] ∧ SqL K H a (ps.map V.ref) ∧ Paired (fun p kv => SqT K H p [kV kv.1, kv.2]) ps kvs ∧
    ∀ p, H p = none → Q (.ref p) (upd H p (.dK (mergeK [] kvs)))
/-! ### == where it is known to hold -/
def rEqF : R2 := fun x y H Q => ∃ a b oa ob ks ls, x = .ref a ∧ y = .ref b ∧ H a = some (.frz oa (.dK ks)) ∧ H b = some (.frz ob (.dK ls)) ∧ ks.length = ls.length ∧ (∀ p ∈ ks, valV ls p.1 = some p.2 ∧ flatB p.2 = true) ∧ Q (.bl true) H
/-- the same keys, the same numbers -/
def sameD (l m : List (Str × Int)) : Prop := l.length = m.length ∧ ∀ x ∈ l, m.lookup x.1 = some x.2
/-! ### a pair's part -/
theorem xe_fst {α β : Type} [Rp α] [Rp β] {z : α × β} (ha : XE te Γ Ω (va T z) Ω1) : XE (tOp (rIx T.K) te (tC (.int 0))) Γ Ω (va T z.1) Ω1 := xe_op ha (xe_int (T := T) (n := 0)) fun F H x y hh a1 a2 Q q => by
  obtain ⟨p, u, v, rfl, hs, r1, r2⟩ := a1
  exact .inr (.inl ⟨p, _, 0, u, rfl, a2, Same.tup hh.same hs, rfl, q F u H (Same.refl F) hh r1⟩)
def rSumT (K : PySem.W.Frag) : List V → Hp → VK → Prop := fun vs H Q => ∃ (a : Addr) (ns : List Int), vs = [V.ref a] ∧ SqT K H a (ns.map V.int) ∧ Q (.int ns.sum) H
end
end VL

set_option Elab.async false
set_option linter.all false
set_option maxRecDepth 100000
/-! enumerate over a tuple; a truth whose second part may have no value; slices of tuples -/
namespace VL
open PySem L2 PyProof.Rows
/-- the tuple at a, its items in new pairs with their places -/
def IteT (K : PySem.W.Frag) (a : Addr) : It :=
  ⟨fun i H => ∃ xs x, SqT K H a xs ∧ xs[i]? = some x, fun i H v H' => ∃ p x, v = .ref p ∧ H p = none ∧ H' = upd H p (.tup [.int (i : Nat), x]) ∧ ∀ xs, SqT K H a xs → xs[i]? = some x, fun i H => ∃ xs, SqT K H a xs ∧ xs.length = i⟩
def iEnumT (K : PySem.W.Frag) (ta : TA) : TI := fun σ H R => ta σ H fun vs H1 => ∃ a xs, vs = [.ref a] ∧ SqT K H1 a xs ∧ R (IteT K a) H1
section
variable {T : TC} {Γ : List (Option VA)} {Ω Ω1 Ω2 Ω3 : List OA} {A B C : VA} {ta tb te : TE} {b : Bool} {α : Type} [Rp α] {l : List α}
/-- the items with their places -/
def nums (l : List α) : List (Int × α) := (rng 0 l.length).zip l
theorem nums_get {l : List α} {i : Nat} {x : α} (h : l[i]? = some x) : (nums l)[i]? = some ((i : Int), x) := by
  unfold nums
  rw [List.getElem?_zip_eq_some]
  refine ⟨?_, h⟩
  unfold rng
  rw [List.getElem?_map, List.getElem?_range (getlt h)]
  show some ((0 : Int) + (i : Int)) = some (i : Int)
  rw [Int.zero_add]
theorem nums_len {l : List α} : (nums l).length = l.length := by
  unfold nums rng
  rw [List.length_zip, List.length_map, List.length_range, Nat.min_self]
/-! ### a pair of a new list and a value -/
def RNP (T : TC) (Ω2 : List OA) (o : Addr → OA) (B : VA) : Hp → V → List OA → Prop := fun F v Ω' => ∃ p t w, v = .ref t ∧ SqT T.K F t [.ref p, w] ∧ B.P F w ∧ Ω' = Ω2 ++ [o p]
def RNQ (T : TC) (Ω2 : List OA) (p : Addr) (B : VA) : Hp → V → List OA → Prop := fun F v Ω' => ∃ t w, v = .ref t ∧ SqT T.K F t [.ref p, w] ∧ B.P F w ∧ Ω' = Ω2
end
end VL

set_option Elab.async false
set_option linter.all false
set_option maxRecDepth 100000
/-! == and != by the text's own __eq__ -/
namespace VL
open PySem L2 PyProof.Rows
/-- x == y, x != y of two instances of the class at C: what its own __eq__ promises -/
def rOwnEq (C : Addr) (sp : Sp) : R2 := fun x y H Q => ∃ a b dx dy fs gs, x = .ref a ∧ y = .ref b ∧ H a = some (.ins C dx fs) ∧ H b = some (.ins C dy gs) ∧ sp [x, y] H (fun v H' => ∃ r, v = .bl r ∧ Q (.bl r) H') E0
def rOwnNe (C : Addr) (sp : Sp) : R2 := fun x y H Q => ∃ a b dx dy fs gs, x = .ref a ∧ y = .ref b ∧ H a = some (.ins C dx fs) ∧ H b = some (.ins C dy gs) ∧ sp [x, y] H (fun v H' => ∃ r, v = .bl r ∧ Q (.bl (!r)) H') E0
section
variable {X : Cx} {n : Nat} {C f : Addr} {fd : FuncData} {ps : List Str} {sp : Sp}
/-- the call of __eq__ at a place with room -/
theorem call_own {A : Around} (F : FnOk X.prog X.w X.K X.mg X.base CX0 n f fd ps sp) (hb : Binds X.K fd ps []) (room : Room n A) (fr : A.frames = X.A.frames) {pins : List (Addr × Obj)} {σ : L2.St} {H : Hp} {s : Shared} {x y : V} {u v : Value} {Q : VK} (I : Inv X pins σ H s) (r1 : RelV x u) (r2 : RelV y v) (q : sp [x, y] H Q E0) :
    wpAny (model X.prog X.w) A (call (.ref f) [u, v]) (EP X pins σ Q) X.xe s := by
  have e0 : Env0 X.prog X.w X.K X.mg X.base A X.stack s H := by
    have b := I.env0
    exact ⟨by rw [fr]; exact b.frames, b.mod, b.bs, b.bsz, b.funs, b.frf, b.hok, b.bare⟩
  have len := F.len _ _ _ _ q
  have two : Vals [x, y] [u, v] := .cons r1 (.cons r2 .nil)
  refine wpAny_call (codeAny_mono (F.run A X.stack s H ⟨[u, v], []⟩ [u, v] [x, y] Q E0 room e0 (by
    have z := hb s [u, v] I.kIn (by simpa using len)
    simpa using z) two q) fun res s' out => ?_)
  cases res with
  | error e => exact False.elim out
  | ok fl =>
    cases fl with
    | ret w => exact I.after out
    | next => exact False.elim out
    | brk => exact False.elim out
    | cont => exact False.elim out
end
section
variable {T : TC} {Γ : List (Option VA)} {Ω Ω1 Ω2 Ω3 : List OA} {A B C : VA} {ta tb te : TE} {x y : Bg} {r : Bool}
end
structure CalEq (P : Program) (w : World) (K : PySem.W.Frag) (mg : Str → Option Value) (base : Heap) (n : Nat) (C : Addr) (sp : Sp) : Prop where
  ex : ∃ f fd, FnOk P w K mg base CX0 n f fd ["self", "other"] sp ∧ ownB K C f = true ∧ Meth K C "__eq__" f ∧ Binds K fd ["self", "other"] []
section
variable {X : Cx} {n : Nat} {C : Addr} {sp : Sp}
end
end VL

set_option Elab.async false
set_option linter.all false
set_option maxRecDepth 100000
/-! bits joined; tuples of four -/
namespace VL
open PySem L2
structure T4 (α β γ δ : Type) where
  a : α
  b : β
  c : γ
  d : δ
instance {α β γ δ : Type} [Rp α] [Rp β] [Rp γ] [Rp δ] : Rp (T4 α β γ δ) := ⟨fun T F v l => ∃ p x y z u, v = .ref p ∧ SqT T.K F p [x, y, z, u] ∧ Rp.rep T F x l.a ∧ Rp.rep T F y l.b ∧ Rp.rep T F z l.c ∧ Rp.rep T F u l.d,
  fun e ⟨p, x, y, z, u, h1, h2, h3, h4, h5, h6⟩ => ⟨p, x, y, z, u, h1, Same.tup e h2, Rp.mono e h3, Rp.mono e h4, Rp.mono e h5, Rp.mono e h6⟩⟩
section
variable {T : TC} {Γ : List (Option VA)} {Ω Ω1 Ω2 Ω3 : List OA} {A B C : VA} {As : List VA} {ta tb te : TE} {t u : TT} {i j n m : Int} {b c : Bool}
theorem cal0' {Ω : List OA} : stt Ω [] [] = Ω := List.append_nil _
end
end VL

set_option Elab.async false
set_option linter.all false
set_option maxRecDepth 100000
/-! texts compared; items of a dict; enumerate over a list; lists unpacked; extend -/
namespace VL
open PySem L2
section
variable {T : TC} {Γ : List (Option VA)} {Ω Ω1 Ω2 Ω3 : List OA} {A B C : VA} {As : List VA} {ta tb te ti : TE} {t u : TT} {i j n m : Int} {b c : Bool} {x y : Str}
theorem ro_neS : RO rNe Ω (va T x) (va T y) (va T (!decide (x = y))) := fun F H v w hh a1 a2 Q q => by
  have a1 : v = .str x := a1
  have a2 : w = .str y := a2
  subst a1 a2
  refine ⟨rfl, q F _ H (Same.refl F) hh ?_⟩
  show V.bl _ = V.bl _
  congr 2
  exact decide_eq_decide.mpr ⟨V.str.inj, fun h => by rw [h]⟩
theorem xe_neS (ha : XE ta Γ Ω (va T x) Ω1) (hb : XE tb Γ Ω1 (va T y) Ω2) : XE (tOp (rNeX T.K) ta tb) Γ Ω (va T (!decide (x = y))) Ω2 := xe_op ha hb (ro_or1 ro_neS)
/-! isinstance of a list, a tuple, a truth -/
theorem ty_lst {α : Type} [Rp α] {l : List α} {F H : Hp} {v : V} (hh : Holds F Ω H) (a : (va T (LF.mk l)).P F v) : TyX T.K H v (.type "list") := by
  obtain ⟨p, vs, rfl, h, _⟩ := a
  exact .base (.lst (hh.same _ _ h))
theorem ty_bool {F H : Hp} {v : V} (_ : Holds F Ω H) (a : (va T b).P F v) : TyX T.K H v (.type "bool") := by
  have a : v = .bl b := a
  subst a
  exact .base (.bl b)
def un2 {α : Type} : List α → Option (α × α)
  | [a, b] => some (a, b)
  | _ => none
/-! enumerate over a list -/
theorem wk_enumL {α : Type} [Rp α] {l : List α} {a : Addr} {vs : List V} : Wk (Ite T.K a) (fun F => SqL T.K F a vs ∧ Al T F vs l) (nums l) (fun z => va T z) where
  mono := fun F F' e ⟨h1, h2⟩ => ⟨e.seq h1, h2.mono e⟩
  go := fun i F Ω H ⟨h1, h2⟩ hh hi => ⟨vs, vs[i]'(by rw [al_len h2, ← nums_len (l := l)]; exact hi), hh.same.seq h1, List.getElem?_eq_getElem _⟩
  stop := fun F Ω H ⟨h1, h2⟩ hh => ⟨vs, hh.same.seq h1, by rw [al_len h2, nums_len]; exact Nat.le_refl _⟩
  yld := fun i z F Ω H v H' ⟨h1, h2⟩ hh hz y => by
    obtain ⟨p, x, ev, hp, eH, k⟩ := y
    subst ev eH
    have lt : i < l.length := by have := getlt hz; rwa [nums_len] at this
    have hl : l[i]? = some l[i] := List.getElem?_eq_getElem lt
    rw [nums_get hl] at hz
    have ez := Option.some.inj hz
    subst ez
    obtain ⟨u, hu, ru⟩ := al_get h2 hl
    have ex := k vs (hh.same.seq h1)
    rw [hu] at ex
    cases ex
    obtain ⟨hh2, e2⟩ := hh.newF (u := .tup [.int (i : Nat), x]) hp
    exact ⟨_, e2, hh2, p, _, x, rfl, SqT.of upd_same, rfl, Rp.mono e2 ru⟩
theorem xi_enumL {α : Type} [Rp α] {l : List α} (ha : XE te Γ Ω (va T (LF.mk l)) Ω1) : XI (iEnum T.K (tCons te tNil)) Γ Ω (nums l) (fun z => va T z) Ω1 := fun F σ H e hh R r => by
  refine xa_cons ha xa_nil F σ H e hh _ fun F1 vs H1 e1 hh1 a1 => ?_
  obtain ⟨v, rfl, b1⟩ := alA1 a1
  obtain ⟨p, xs, rfl, h1, al⟩ := b1
  have s1 : SqL T.K F1 p xs := SqL.of h1
  exact ⟨p, xs, rfl, hh1.same.seq s1, r F1 _ H1 _ e1 hh1 wk_enumL ⟨s1, al⟩⟩
end
instance {α β γ δ : Type} [Rp α] [Rp β] [Rp γ] [Rp δ] [Dat α] [Dat β] [Dat γ] [Dat δ] : Dat (T4 α β γ δ) := ⟨fun l => .tuple [Dat.dat l.a, Dat.dat l.b, Dat.dat l.c, Dat.dat l.d], fun l => Dat.ok l.a ∧ Dat.ok l.b ∧ Dat.ok l.c ∧ Dat.ok l.d, max (Dat.dep α) (max (Dat.dep β) (max (Dat.dep γ) (Dat.dep δ))) + 1, fun e ⟨p, x, y, z, u, h1, h2, h3, h4, h5, h6⟩ => by
    rw [h1]; exact .tup (Same.tup e h2) (.cons (Dat.dp e h3) (.cons (Dat.dp e h4) (.cons (Dat.dp e h5) (.cons (Dat.dp e h6) .nil)))), fun h => by
    show (PyData.canLay0 (Dat.dat _) && (PyData.canLay0 (Dat.dat _) && (PyData.canLay0 (Dat.dat _) && (PyData.canLay0 (Dat.dat _) && true)))) = true
    rw [Dat.lay h.1, Dat.lay h.2.1, Dat.lay h.2.2.1, Dat.lay h.2.2.2]; rfl, fun {a} => by
    rw [depth_tuple]
    refine Nat.succ_le_succ ?_
    show max (PyData.depth (Dat.dat a.a)) (max (PyData.depth (Dat.dat a.b)) (max (PyData.depth (Dat.dat a.c)) (max (PyData.depth (Dat.dat a.d)) 0))) ≤ _
    have h1 := Dat.depth (a := a.a)
    have h2 := Dat.depth (a := a.b)
    have h3 := Dat.depth (a := a.c)
    have h4 := Dat.depth (a := a.d)
    omega, fun {a b} => by
    show (PyData.eqv (Dat.dat a.a) (Dat.dat b.a) && (PyData.eqv (Dat.dat a.b) (Dat.dat b.b) && (PyData.eqv (Dat.dat a.c) (Dat.dat b.c) && (PyData.eqv (Dat.dat a.d) (Dat.dat b.d) && true)))) = true ↔ a = b
    rw [Bool.and_true, Bool.and_eq_true, Bool.and_eq_true, Bool.and_eq_true, Dat.eqv, Dat.eqv, Dat.eqv, Dat.eqv]
    cases a; cases b; simp⟩
section
variable {X : Cx} {K : PySem.W.Frag} {e : Expr} {ta : TA} {p pos tpos : Pos} {elts : List Expr} {kk : Nat}
theorem pi_enumK (hK : X.K = K) (hg : Gl X "enumerate") (hm : X.mg "enumerate" = none) (ha : PA X [e] ta) (hs : starEach [e] X.env = [(false, eval e X.env)] := by rfl) :
    PI X (.Tuple elts kk tpos) (.Call (.Name "enumerate" p) [e] [] pos) (iEnum K ta) := hK ▸ pi_enum hg hm ha hs
end
end VL

set_option Elab.async false
set_option linter.all false
set_option maxRecDepth 100000
/-! != of tuples item by item; == and != of pairs (frozen dict, data) that are equal -/
namespace VNe
open PySem
end VNe
namespace VL
open PySem L2 PyProof.Rows
/-- two frozen dicts of the same keys and flat values -/
def FD (H : Hp) (x y : V) : Prop := ∃ a b oa ob ks ls, x = .ref a ∧ y = .ref b ∧ H a = some (.frz oa (.dK ks)) ∧ H b = some (.frz ob (.dK ls)) ∧ ks.length = ls.length ∧ ∀ p ∈ ks, valV ls p.1 = some p.2 ∧ flatB p.2 = true
/-- the same data -/
def FS (K : PySem.W.Frag) (H : Hp) (x y : V) : Prop := ∃ d, Dp K H x d ∧ Dp K H y d ∧ d.canLay0 = true ∧ d.depth ≤ 60 ∧ PyData.eqv d d = true
section
variable {X : Cx} {pins : List (Addr × Obj)} {σ : L2.St} {H : Hp} {s : Shared}
end
def PkE (K : PySem.W.Frag) (x y : V) (H : Hp) : Prop := ∃ a b x1 x2 y1 y2, x = .ref a ∧ y = .ref b ∧ SqT K H a [x1, x2] ∧ SqT K H b [y1, y2] ∧ FD H x1 y1 ∧ FS K H x2 y2
def rPkEq (K : PySem.W.Frag) : R2 := fun x y H Q => PkE K x y H ∧ Q (.bl true) H
def rPkNe (K : PySem.W.Frag) : R2 := fun x y H Q => PkE K x y H ∧ Q (.bl false) H
section
variable {X : Cx} {pins : List (Addr × Obj)} {σ : L2.St} {H : Hp} {s : Shared}
end
section
variable {T : TC} {Γ : List (Option VA)} {Ω Ω1 Ω2 : List OA} {ta tb : TE} {α : Type} [Rp α] [Dat α] {x y : DF × α}
end
section
variable {T : TC} {Γ : List (Option VA)} {Ω Ω1 Ω2 Ω3 : List OA} {ta tb tc : TE}
end
end VL

set_option Elab.async false
set_option linter.all false
set_option maxRecDepth 100000
/-! != of lists whose items have a text's own __eq__; a list unpacked into three -/
namespace VNe
open PySem PySem.SeqAt
end VNe
namespace VL
open PySem L2 PyProof.Rows
/-- pair by pair the own __eq__ says yes; both lists stay -/
def WL (C : Addr) (sp : Sp) (a b : Addr) (xs ys : List V) : List (V × V) → Hp → (Hp → Prop) → Prop
  | [], H, Q => Q H
  | z :: r, H, Q => ∃ p q dx dy fs gs, z.1 = .ref p ∧ z.2 = .ref q ∧ H p = some (.ins C dx fs) ∧ H q = some (.ins C dy gs) ∧ (p = q → WL C sp a b xs ys r H Q) ∧
    (p ≠ q → sp [z.1, z.2] H (fun v H' => v = .bl true ∧ H' a = some (.lst xs) ∧ H' b = some (.lst ys) ∧ WL C sp a b xs ys r H' Q) E0)
def rOwnL (C : Addr) (sp : Sp) (r : Bool) : R2 := fun x y H Q => ∃ a b xs ys, x = .ref a ∧ y = .ref b ∧ H a = some (.lst xs) ∧ H b = some (.lst ys) ∧ xs.length = ys.length ∧ WL C sp a b xs ys (xs.zip ys) H (fun H' => Q (.bl r) H')
section
variable {X : Cx} {n : Nat} {C f : Addr} {fd : FuncData} {ps : List Str} {sp : Sp}
/-- what the loop keeps -/
def LI (X : Cx) (pins : List (Addr × Obj)) (σ : L2.St) (C : Addr) (sp : Sp) (a b : Addr) (xs ys : List V) (Q : Hp → Prop) (i : Nat) (s : Shared) : Prop := ∃ H, Inv X pins σ H s ∧ H a = some (.lst xs) ∧ H b = some (.lst ys) ∧ WL C sp a b xs ys ((xs.zip ys).drop i) H Q
end
section
variable {T : TC} {Γ : List (Option VA)} {Ω Ω1 Ω2 Ω3 : List OA} {ta tb te : TE} {l m : List Bg}
def un3 {α : Type} : List α → Option (α × α × α)
  | [a, b, c] => some (a, b, c)
  | _ => none
end
end VL

set_option Elab.async false
set_option linter.all false
set_option maxRecDepth 100000
/-! None behind a list of numbers; a pair of a new list and a value, kept in a name -/
namespace VL
open PySem L2
inductive OI where
  | i (n : Int)
  | no
def OI.v : OI → V
  | .i n => .int n
  | .no => .non
def OI.d : OI → PyData
  | .i n => .int n
  | .no => .none
instance : Rp OI := ⟨fun _ _ v a => v = a.v, fun _ h => h⟩
instance : Dat OI := ⟨OI.d, fun _ => True, 0, fun {T F H v a} _ h => by
    rw [show v = a.v from h]
    cases a
    · exact .int _
    · exact .non, fun {a} _ => by cases a <;> rfl, fun {a} => by cases a <;> exact Nat.le_refl _, fun {a b} => by
    cases a <;> cases b
    · rename_i m n
      show (m == n) = true ↔ _
      rw [beq_iff_eq]
      exact ⟨fun e => by rw [e], fun e => by cases e; rfl⟩
    · exact ⟨(fun e => nomatch e), (fun e => nomatch e)⟩
    · exact ⟨(fun e => nomatch e), (fun e => nomatch e)⟩
    · exact ⟨fun _ => rfl, fun _ => rfl⟩⟩
/-- a pair of a list that changes, at p, and a value -/
def pvA (T : TC) (p : Addr) (B : VA) : VA := ⟨fun F v => ∃ t w, v = .ref t ∧ SqT T.K F t [.ref p, w] ∧ B.P F w, fun e ⟨t, w, a, b, c⟩ => ⟨t, w, a, Same.tup e b, B.mono e c⟩⟩
section
variable {T : TC} {Γ : List (Option VA)} {Ω Ω1 Ω2 Ω3 : List OA} {A B C : VA} {ta tb te : TE} {D : Ends} {F0 : Hp} {ts : TS} {p : Addr}
end
/-! ### walks over a list that may change, and doesn't -/
section
variable {T : TC} {Γ : List (Option VA)} {Ω Ω0 Ω1 Ω2 : List OA} {A B : VA} {te ta tb : TE} {D : Ends} {F0 : Hp} {ts : TS}
structure Wk2 (k : Nat) (o : OA) {α : Type} (J : It) (Sx : Hp → Prop) (xs : List α) (A : α → VA) : Prop where
  mono : ∀ F F', Same F F' → Sx F → Sx F'
  go : ∀ (i : Nat) F Ω H, Sx F → Holds F Ω H → Ω[k]? = some o → i < xs.length → J.go i H
  stop : ∀ F Ω H, Sx F → Holds F Ω H → Ω[k]? = some o → J.stop xs.length H
  yld : ∀ (i : Nat) a F Ω H x H', Sx F → Holds F Ω H → Ω[k]? = some o → xs[i]? = some a → J.yld i H x H' → ∃ F', Same F F' ∧ Holds F' Ω H' ∧ (A a).P F' x
def XI2 (k : Nat) (o : OA) {α : Type} (wi : TI) (Γ : List (Option VA)) (Ω : List OA) (xs : List α) (A : α → VA) (Ω2 : List OA) : Prop :=
  ∀ F σ H, Env F σ Γ → Holds F Ω H → ∀ R : It → Hp → Prop, (∀ F' J H' Sx, Same F F' → Holds F' Ω2 H' → Wk2 k o J Sx xs A → Sx F' → R J H') → wi σ H R
theorem xn_lc2 {k2 : Nat} {o2 : OA} {β γ S : Type} [Rp γ] {b : β → S → Option (Option γ × S)} {xs : List β} {s0 s1 : S} {ys : List γ} {wi : TI} {g : TG} {tt : TT} {vs : List Nat} {A : β → VA} {f : β → List (Option VA) → List (Option VA)} {js : List Nat} (O : S → List OA)
    (hm : lcM b xs s0 = some (ys, s1)) (hP : ∀ s X, (O s ++ [X])[k2]? = some o2) (hi : XI2 k2 o2 wi Γ Ω xs A (O s0)) (ht : ∀ a, Tgt g (A a) (f a) js) (hj : ∀ j ∈ js, j ∈ vs) (hz : xs.length ≤ sizeLine)
    (hb : ∀ a s o s', a ∈ xs → b a s = some (o, s') → ∀ X : OA, (o = none → XT tt (f a (wip Γ vs)) (O s ++ [X]) false (O s' ++ [X])) ∧
      (∀ y, o = some y → XT tt (f a (wip Γ vs)) (O s ++ [X]) true (O s ++ [X]) ∧ XE te (f a (wip Γ vs)) (O s ++ [X]) (va T y) (O s' ++ [X]))) :
    XG (tLc wi g tt te vs) Γ Ω (RN (O s1) fun p => lstA T p ys) := by
  intro F σ H e hh Q q
  refine hi F σ H e hh _ fun F1 J H1 Sx e1 hh1 W sx => fun d hd => ?_
  refine ⟨fun i m H => m = xs.length - i ∧ i ≤ xs.length ∧ ∃ s F acc r, lcM b (xs.drop i) s = some (r, s1) ∧ acc ++ r = ys ∧ acc.length ≤ i ∧ Same F1 F ∧ Sx F ∧ Holds F (O s ++ [lstA T d acc]) H,
    ⟨xs.length, by simp, Nat.zero_le _, s0, F1, [], ys, by rw [List.drop_zero]; exact hm, rfl, Nat.zero_le _, Same.refl _, sx, hh1.newL (o := lstA T d ([] : List γ)) hd ⟨[], upd_same, .nil⟩⟩, ?_⟩
  rintro i m H ⟨rfl, hi, s, F, acc, r, hs, he, hl, f1, sx, hh⟩
  by_cases hlt : i < xs.length
  · refine .inr ⟨W.go i F _ H sx hh (hP _ _) hlt, ?_⟩
    have hx : xs[i]? = some xs[i] := List.getElem?_eq_getElem hlt
    rw [List.drop_eq_getElem_cons hlt] at hs
    obtain ⟨⟨o, s'⟩, h1, hs⟩ := bnd_some hs
    obtain ⟨⟨r2, s2⟩, h2, hs⟩ := bnd_some hs
    cases hs
    refine ⟨fun H' => ∃ s F acc r, lcM b (xs.drop (i + 1)) s = some (r, s1) ∧ acc ++ r = ys ∧ acc.length ≤ i + 1 ∧ Same F1 F ∧ Sx F ∧ Holds F (O s ++ [lstA T d acc]) H', fun H' n => ⟨xs.length - (i + 1), by omega, rfl, hlt, n⟩, fun x H' y => ?_⟩
    obtain ⟨F2, e2, hh2, a2⟩ := W.yld i _ F _ H x H' sx hh (hP _ _) hx y
    have en : Env F2 (wipe σ vs) (wip Γ vs) := wip_env ((e.mono e1).mono (f1.trans e2)) vs
    refine ht xs[i] F2 (wipe σ vs) (wip Γ vs) x H' _ en hh2 a2 _ fun F3 σ3 H3 e3 en3 hh3 hw => ⟨(hw vs hj).trans (wipe_wipe vs), ?_⟩
    obtain ⟨c1, c2⟩ := hb xs[i] s o s' (List.getElem_mem hlt) h1 (lstA T d acc)
    have f3 : Same F1 F3 := f1.trans (e2.trans e3)
    have sx3 := W.mono _ _ (e2.trans e3) sx
    cases o with
    | none =>
      refine c1 rfl F3 σ3 H3 en3 hh3 _ fun F4 H4 e4 hh4 => ?_
      rw [if_neg Bool.false_ne_true]
      exact ⟨s', F4, acc, r2, h2, he, by omega, f3.trans e4, W.mono _ _ e4 sx3, hh4⟩
    | some y =>
      obtain ⟨c3, c4⟩ := c2 y rfl
      refine c3 F3 σ3 H3 en3 hh3 _ fun F4 H4 e4 hh4 => ?_
      rw [if_pos rfl]
      refine c4 F4 σ3 H4 (en3.mono e4) hh4 _ fun F5 v H5 Ω5 e5 hh5 ⟨a5, o5⟩ => ?_
      subst o5
      have hk : (O s' ++ [lstA T d acc])[(O s').length]? = some (lstA T d acc) := app_at
      obtain ⟨t, ⟨ws, w1, al⟩, st, _, wr⟩ := hh5.get hk
      refine ⟨ws, st _ _ w1, by rw [al_len al]; omega, ?_⟩
      have hh6 := wr (lstA T d (acc ++ [y])) d _ (.lst (ws ++ [v])) w1 ⟨_, upd_same, al_app al (.cons a5 .nil)⟩
      rw [set_last] at hh6
      refine ⟨s', F5, acc ++ [y], r2, h2, by rw [List.append_assoc]; exact he, by rw [List.length_append]; simp; omega, f3.trans (e4.trans e5), W.mono _ _ (e4.trans e5) sx3, hh6⟩
  · have ei : i = xs.length := by omega
    subst ei
    refine .inl ⟨W.stop F _ H sx hh (hP _ _), ?_⟩
    rw [List.drop_length] at hs
    cases hs
    rw [List.append_nil] at he
    subst he
    exact q F (.ref d) H _ (e1.trans f1) hh ⟨d, rfl, rfl⟩
theorem xn_lcS2 {k2 : Nat} {o2 : OA} {β γ S : Type} [Rp γ] {b : β → S → Option (Option γ × S)} {xs : List β} {s0 s1 : S} {ys : List γ} {wi : TI} {g : TG} {tt : TT} {vs : List Nat} {A : β → VA} {f : β → List (Option VA) → List (Option VA)} {js : List Nat} {Ω0 : List OA} (ks : S → List (Nat × OA)) (L : S → List OA)
    (hm : lcM b xs s0 = some (ys, s1)) (hP : ∀ s X, (stt Ω (ks s) (L s ++ [X]))[k2]? = some o2) (hi : XI2 k2 o2 wi Γ Ω0 xs A (stt Ω (ks s0) (L s0))) (ht : ∀ a, Tgt g (A a) (f a) js) (hj : ∀ j ∈ js, j ∈ vs) (hz : xs.length ≤ sizeLine)
    (hb : ∀ a s o s', a ∈ xs → b a s = some (o, s') → ∀ X : OA, (o = none → XT tt (f a (wip Γ vs)) (stt Ω (ks s) (L s ++ [X])) false (stt Ω (ks s') (L s' ++ [X]))) ∧
      (∀ y, o = some y → XT tt (f a (wip Γ vs)) (stt Ω (ks s) (L s ++ [X])) true (stt Ω (ks s) (L s ++ [X])) ∧ XE te (f a (wip Γ vs)) (stt Ω (ks s) (L s ++ [X])) (va T y) (stt Ω (ks s') (L s' ++ [X])))) :
    XG (tLc wi g tt te vs) Γ Ω0 (RN (stt Ω (ks s1) (L s1)) fun p => lstA T p ys) :=
  xn_lc2 (fun s => stt Ω (ks s) (L s)) hm (fun s X => by rw [stt_app]; exact hP s X) hi ht hj hz fun a s o s' ha h X => by
    simp only [stt_app]
    exact hb a s o s' ha h X
theorem own_at {α : Type} [Rp α] {F H : Hp} {k : Nat} {p : Addr} {l : List α} (hh : Holds F Ω H) (h : Ω[k]? = some (lstA T p l)) : ∃ vs, H p = some (.lst vs) ∧ Al T F vs l := by
  obtain ⟨t, ⟨vs, h1, h2⟩, st, _⟩ := hh.get h
  exact ⟨vs, st _ _ h1, h2⟩
theorem xi_own {α : Type} [Rp α] {k : Nat} {p : Addr} {l : List α} (hk : Ω1[k]? = some (lstA T p l)) (ha : XE te Γ Ω (vr p) Ω1) : XI2 k (lstA T p l) (iList T.K te) Γ Ω l (fun a => va T a) Ω1 := fun F σ H e hh R r => by
  refine ha F σ H e hh _ fun F1 x H1 Ω' e1 hh1 ⟨a1, o1⟩ => ?_
  subst o1
  have a1 : x = .ref p := a1
  subst a1
  obtain ⟨vs, h1, al⟩ := own_at hh1 hk
  refine ⟨p, rfl, ⟨vs, SqL.of h1⟩, r F1 _ H1 (fun _ => True) e1 hh1 ⟨fun _ _ _ h => h, fun i F Ω H _ hh hk hi => ?_, fun F Ω H _ hh hk => ?_, fun i a F Ω H x H' _ hh hk hx y => ?_⟩ trivial⟩
  · obtain ⟨vs, h1, al⟩ := own_at hh hk
    exact ⟨vs, _, SqL.of h1, List.getElem?_eq_getElem (by rw [al_len al]; exact hi)⟩
  · obtain ⟨vs, h1, al⟩ := own_at hh hk
    exact ⟨vs, SqL.of h1, by rw [al_len al]; exact Nat.le_refl _⟩
  · obtain ⟨vs, h1, al⟩ := own_at hh hk
    obtain ⟨e, y⟩ := y
    subst e
    obtain ⟨v, hv, rv⟩ := al_get al hx
    have ev := y vs (SqL.of h1)
    rw [hv] at ev
    cases ev
    exact ⟨F, Same.refl F, hh, rv⟩
theorem ty_own {α : Type} [Rp α] {F H : Hp} {v : V} {k : Nat} {p : Addr} {l : List α} (h : Ω[k]? = some (lstA T p l)) (hh : Holds F Ω H) (a : (vr p).P F v) : TyX T.K H v (.type "list") := by
  have a : v = .ref p := a
  subst a
  obtain ⟨vs, h1, _⟩ := own_at hh h
  exact .base (.lst h1)
end
end VL

set_option Elab.async false
set_option linter.all false
set_option maxRecDepth 100000
/-! the parts of a pair with a list that changes -/
namespace VL
open PySem L2
section
variable {T : TC} {Γ : List (Option VA)} {Ω Ω1 Ω2 : List OA} {B : VA} {te : TE} {p : Addr}
end
end VL

set_option Elab.async false
set_option linter.all false
set_option maxRecDepth 100000
/-! an own __eq__ beside a number or a list; is, of truths; a new list of a tuple; a new machine handed over at once -/
namespace VL
open PySem L2 PyProof.Rows
/-- neither an int nor a list comes ahead of the class at C, nor is one of it -/
def otherB (K : PySem.W.Frag) (C : Addr) : Bool := PySem.W.notFirst K C (.type "int") && (PySem.W.notFirst K C (.type "list") && (decide (PySem.W.kitOne K (.type "int") (.ref C) = some false) && decide (PySem.W.kitOne K (.type "list") (.ref C) = some false)))
/-- an int or a list -/
def IsO (H : Hp) (y : V) : Prop := (∃ i, y = .int i) ∨ ∃ b vs, y = .ref b ∧ H b = some (.lst vs)
def rOwnX (K : PySem.W.Frag) (C : Addr) (sp : Sp) : R2 := fun x y H Q => ∃ a dx fs, x = .ref a ∧ H a = some (.ins C dx fs) ∧ IsO H y ∧ sp [x, y] H (fun v H' => v = .bl false ∧ Q (.bl false) H') E0
section
variable {X : Cx} {n : Nat} {C f : Addr} {fd : FuncData} {ps : List Str} {sp : Sp}
structure CalEqX (P : Program) (w : World) (K : PySem.W.Frag) (mg : Str → Option Value) (base : Heap) (n : Nat) (C : Addr) (sp : Sp) : Prop where
  ex : ∃ f fd, FnOk P w K mg base CX0 n f fd ["self", "other"] sp ∧ otherB K C = true ∧ Meth K C "__eq__" f ∧ Binds K fd ["self", "other"] []
end
/-- what __eq__ tells of a number beside an int or a list -/
def PreX (T : TC) : PreT := fun As Ω R => ∃ (x0 : Bg) (A : VA), As = [va T x0, A] ∧ (∀ F H v, Holds F Ω H → A.P F v → IsO H v) ∧ R = RV (va T false) (stt Ω [] [])
section
variable {T : TC} {Γ : List (Option VA)} {Ω Ω0 Ω1 Ω2 : List OA} {A B : VA} {ta tb te : TE} {x : Bg} {b c : Bool}
def rIsB : R2 := fun x y H Q => ∃ a b, x = .bl a ∧ y = .bl b ∧ Q (.bl (decide (a = b))) H
end
end VL

set_option Elab.async false
set_option linter.all false
set_option maxRecDepth 100000
/-! VL18: a name that holds one of several defs; and/or whose second part changes things. -/
namespace VL
open PySem L2
/-- one of several defs, by its number -/
structure FT where
  i : Nat
instance : Rp FT := ⟨fun T _ v a => v = .ref (T.C (200 + a.i)), fun _ h => h⟩
structure HeldF (P : Program) (w : World) (K : PySem.W.Frag) (mg : Str → Option Value) (base : Heap) (k : Nat) (f : Addr) (sp : Sp) : Prop where
  ex : ∃ (fd : FuncData) (ps : List Str), FnOk P w K mg base CX0 k f fd ps sp ∧ PySem.W.keepIn K (.ref f) = true ∧ Binds K fd ps []
structure HeldFK (P : Program) (w : World) (K : PySem.W.Frag) (mg : Str → Option Value) (base : Heap) (k : Nat) (f : Addr) (n : Nat) (ks : List Str) (ix : List Nat) (sp : Sp) : Prop where
  ex : ∃ (fd : FuncData) (ps : List Str), FnOk P w K mg base CX0 k f fd ps sp ∧ PySem.W.keepIn K (.ref f) = true ∧ KBn K fd ps n ks (fun us ws => prm ix (us ++ ws)) (fun vs zs => prm ix (vs ++ zs))
def tCallFn (i : Nat) (S : Addr → Sp → Prop) (t : TA) : TE := fun σ H Q => ∃ f sp, σ[i]? = some (some (.ref f)) ∧ S f sp ∧ t σ H fun vs H1 => sp (vs ++ []) H1 Q E0
def tCallFnN (i : Nat) (S : Addr → Sp → Prop) (n m : Nat) (g : List V → List V → List V) (t tk : TA) : TE := fun σ H Q => ∃ f sp, σ[i]? = some (some (.ref f)) ∧ S f sp ∧ tCallN n m sp g E0 t tk σ H Q
section
variable {X : Cx} {k i n : Nat} {S : Addr → Sp → Prop} {x : Str} {ks : List Str} {ix : List Nat} {p pos : Pos} {e : Expr} {es : List Expr} {kws : List Keyword} {t tk : TA}
end
section
variable {T : TC} {Γ : List (Option VA)} {Ω Ω1 Ω2 Ω3 : List OA} {A : VA} {As Ks : List VA} {a : FT} {i : Nat} {S : Addr → Sp → Prop}
end
end VL

set_option Elab.async false
set_option linter.all false
set_option maxRecDepth 100000
set_option maxHeartbeats 2000000
/-! VL19: a lambda without parameters handed to a def that calls it: what it makes of the caller's machine. -/
namespace VL
open PySem PySem.Spec PyProof.Rows L2 LamX
/-- the table at P in t: its code objects stand in F -/
def TabF (F t : Hp) (P : Addr) (q : Str) : Prop := ∃ ps : Array Value, t P = some (.tbl ps) ∧ TriplesOk ps.toList ∧ ∀ (pos : Pos) (cv : Value), codeAmong pos ps.toList = some cv → ∃ c, cv = .ref c ∧ F c = some (CodeO c q)
theorem TabF.mono {F F' t : Hp} {P : Addr} {q : Str} (e : Same F F') : TabF F t P q → TabF F' t P q := fun ⟨ps, h1, h2, h3⟩ => ⟨ps, h1, h2, fun pos cv h => let ⟨c, a, b⟩ := h3 pos cv h; ⟨c, a, e _ _ b⟩⟩
/-- all the tables of a law -/
def tabA (l : List (Addr × Str)) : OA := ⟨fun F t => ∀ p ∈ l, TabF F t p.1 p.2, fun e h p hp => (h p hp).mono e⟩
/-- the table's part of the heap behind a lambda's making: H as it was, or a new code object at c' -/
def Grown (H : Hp) (P : Addr) (q : Str) (H1 : Hp) (c' : Addr) : Prop :=
  (H1 = H ∧ ∃ (ps : Array Value) (pos : Pos), H P = some (.tbl ps) ∧ codeAmong pos ps.toList = some (.ref c')) ∨
  ∃ (ps more : Array Value), H P = some (.tbl ps) ∧ H c' = none ∧ H1 = upd (upd H P (.tbl (ps ++ more))) c' (CodeO c' q) ∧ (TriplesOk ps.toList → TriplesOk (ps ++ more).toList) ∧
    ∀ (pos : Pos) (cv : Value), TriplesOk ps.toList → codeAmong pos (ps ++ more).toList = some cv → codeAmong pos ps.toList = some cv ∨ cv = .ref c'
theorem set_own {α : Type} {l : List α} {i : Nat} {a : α} (h : l[i]? = some a) : l.set i a = l := by
  apply List.ext_getElem?
  intro j
  by_cases e : i = j
  · subst e; rw [List.getElem?_set_self (getlt h), h]
  · rw [List.getElem?_set_ne e]
theorem grown_holds {F H H1 : Hp} {Ω : List OA} {l : List (Addr × Str)} {kt : Nat} {P c' : Addr} {q : Str} (hh : Holds F Ω H) (ht : Ω[kt]? = some (tabA l)) (hm : (P, q) ∈ l) (hu : ∀ p ∈ l, p.1 = P → p.2 = q) (g : Grown H P q H1 c') :
    ∃ F1, Same F F1 ∧ Holds F1 Ω H1 ∧ F1 c' = some (CodeO c' q) := by
  rcases g with ⟨rfl, ps, pos, e1, e2⟩ | ⟨ps, more, e1, e2, e3, e4, e5⟩
  · obtain ⟨t, h1, h2, _, _⟩ := hh.get ht
    obtain ⟨ps', a1, a2, a3⟩ := h1 _ hm
    have := (h2 _ _ a1).symm.trans e1
    cases this
    obtain ⟨c, b1, b2⟩ := a3 pos _ e2
    cases b1
    exact ⟨F, Same.refl F, hh, b2⟩
  · have nP : P ≠ c' := ne_of_none e1 e2
    obtain ⟨hh1, s1⟩ := hh.newF (u := CodeO c' q) e2
    obtain ⟨t, h1, h2, h3, h4⟩ := hh1.get ht
    have eP : t P = some (.tbl ps) := by
      obtain ⟨ps', a1, _⟩ := h1 _ hm
      have z := h2 _ _ a1
      rw [upd_ne nP, e1] at z
      cases z
      exact a1
    have key := h4 (tabA l) P (.tbl ps) (.tbl (ps ++ more)) eP fun p hp => by
      obtain ⟨ps', a1, a2, a3⟩ := h1 p hp
      by_cases hb : p.1 = P
      · have hq := hu p hp hb
        rw [hb] at a1 ⊢
        rw [hq] at a3 ⊢
        have := a1.symm.trans eP
        cases this
        refine ⟨_, upd_same, e4 a2, fun pos cv hc => ?_⟩
        rcases e5 pos cv a2 hc with z | z
        · exact a3 pos cv z
        · exact ⟨c', z, upd_same⟩
      · exact ⟨ps', by rw [upd_ne hb]; exact a1, a2, a3⟩
    rw [set_own ht] at key
    refine ⟨_, s1, ?_, upd_same⟩
    have e6 : H1 = upd (upd H c' (CodeO c' q)) P (.tbl (ps ++ more)) := by
      rw [e3]
      funext b
      by_cases b1 : b = P
      · subst b1
        rw [upd_ne nP, upd_same, upd_same]
      · by_cases b2 : b = c'
        · subst b2; rw [upd_same, upd_ne b1, upd_same]
        · rw [upd_ne b2, upd_ne b1, upd_ne b1, upd_ne b2]
    rw [e6]
    exact key
section
variable {X : Cx} {pins : List (Addr × Obj)} {σ : L2.St} {H : Hp} {s : Shared}
end
/-! ### a def that is handed a lambda -/
/-- what its name makes: act -/
def tAct (i : Nat) (f c' : Addr) (q : Str) (act : Hp → VK → Prop) : TE := fun σ H Q => σ[i]? = some (some (.ref f)) ∧ H c' = some (CodeO c' q) ∧ act H Q
/-- in each def's context that is entered at s: a call of the name that holds the lambda -/
def ActH (P : Program) (w : World) (K : PySem.W.Frag) (mg : Str → Option Value) (base : Heap) (k : Nat) (A : Around) (outer : List PySem.Env) (s : Shared) (H : Hp) (f c' : Addr) (q : Str) (act : Hp → VK → Prop) : Prop :=
  ∀ (Ng : List Str) (qg : Str) (sg : Scope) (g : Addr) (cdg : Value) (i : Nat) (a : Str) (p1 p2 : Pos), Room (k + 1) (A.deeper (envOfC qg sg s.heap.objs.size g cdg)) → Ng[i]? = some a → Vis sg a → (a == ("__debug__" : Str)) = false → (a == ("__classdict__" : Str)) = false →
    PE (cxOf CX0 P w K mg base Ng qg sg g cdg A outer s H E0).nox (.Call (.Name a p1) [] [] p2) (tAct i f c' q act)
abbrev PreLT := Addr → Addr → Str → (Hp → VK → Prop) → PreT
/-- that def: k, its depth; kl, that of the lambda's body -/
structure CalL (P : Program) (w : World) (K : PySem.W.Frag) (mg : Str → Option Value) (base : Heap) (kl k : Nat) (x : Str) (ps : List Str) (Pre : PreLT) : Prop where
  ex : ∃ g fd, mg x = some (.ref g) ∧ PySem.W.keepIn K (.ref g) = true ∧ Binds K fd ps [] ∧ (∀ f c' q act As Ω R, Pre f c' q act As Ω R → As.length = ps.length) ∧
    ∀ (A : Around) (outer : List PySem.Env) (s : Shared) (H : Hp) (us : List Value) (vs : List V) (Q : VK) (f c' : Addr) (q : Str) (act : Hp → VK → Prop), Room k A → Env0 P w K mg base A outer s H → BindsTo s fd ⟨us, []⟩ (ps.zip us) → Vals vs us →
      ActH P w K mg base kl A outer s H f c' q act → mkSp (Pre f c' q act) vs H Q E0 → codeAny (model P w) A (.call (.ref g) ⟨us, []⟩) (CR CX0 outer P w H s Q E0) s
section
variable {P : Program} {w : World} {K : PySem.W.Frag} {mg : Str → Option Value} {base : Heap}
end
/-! ### x(e, lambda: body) -/
def tLam (P : Addr) (q : Str) (Pre : PreLT) (ta tb : TE) : TE := fun σ H Q => ta σ H fun v H0 => (∃ ps : Array Value, H0 P = some (.tbl ps) ∧ TriplesOk ps.toList ∧ ∀ (pos : Pos) (cv : Value), codeAmong pos ps.toList = some cv → ∃ c, cv = .ref c ∧ H0 c = some (CodeO c q)) ∧
  ∀ f c' H1, Grown H0 P q H1 c' → mkSp (Pre f c' q fun H' Q' => tb σ H' Q') [v, .ref f] H1 Q E0
section
variable {X : Cx}
end
/-! ### what it makes of a machine -/
/-- the name's value: the lambda f, which takes the machine at k0 from m to r.2 and tells r.1 -/
def askA (T : TC) {α : Type} [Rp α] (f c' : Addr) (q : Str) (act : Hp → VK → Prop) (Ω : List OA) (k0 : Nat) (p0 : Addr) (M : MS → Option (α × MS)) : VA :=
  ⟨fun F v => v = .ref f ∧ F c' = some (CodeO c' q) ∧ ∀ m r, M m = some r → ∀ F1 H1, Same F F1 → Holds F1 (stt Ω [(k0, machA T p0 m)] []) H1 → ∀ Q : VK, (∀ F2 v H2, Same F1 F2 → Holds F2 (stt Ω [(k0, machA T p0 r.2)] []) H2 → (va T r.1).P F2 v → Q v H2) → act H1 Q,
   fun e ⟨h1, h2, h3⟩ => ⟨h1, e _ _ h2, fun m r hm F1 H1 e1 => h3 m r hm F1 H1 (e.trans e1)⟩⟩
section
variable {T : TC} {Γ : List (Option VA)} {Ω Ω1 : List OA} {α : Type} [Rp α]
end
section
variable {T : TC} {Γ : List (Option VA)} {Ω Ω1 Ω2 : List OA} {α : Type} [Rp α]
end
/-! ### a def whose code object is known -/
def CodeIs (K : PySem.W.Frag) (g c : Addr) : Prop := ∀ (oc : Value) (od : Option Addr) (x qual : Str) (ar : Arguments) (body : List Stmt) (sc : Scope) (dV kV doc pm : Value) (an : Option Addr) (cdv ct : Value) (osl : Array (Option Value)),
  K.lookup g = some ⟨oc, od, .func (PySem.W.fnOf x qual ar body sc dV kV doc pm an cdv ct), osl⟩ → PySem.W.codeIn K cdv qual = true → cdv = .ref c
section
variable {P : Program} {w : World} {K : PySem.W.Frag} {mg : Str → Option Value} {base : Heap}
theorem fn_okC {x qual : Str} {st : Stmt} {f c : Addr} {fd : FuncData} {N ps : List Str} {k : Nat} {Pre : PreT} (F : Fun K x qual st f fd) (hc : CodeIs K f c) (S : FnScope N ps (defScope st)) (hl : ∀ As Ω R, Pre As Ω R → As.length = ps.length)
    (hb : ∀ (A : Around) (outer : List PySem.Env) (s : Shared) (H : Hp) (E : XK), Room k (A.deeper (envOfC qual (defScope st) s.heap.objs.size f (.ref c))) → ∀ As Ω R F0, Pre As Ω R →
      Bod (cxOf CX0 P w K mg base N qual (defScope st) f (.ref c) A outer s H E).nox (defBody st) (As.map some ++ List.replicate (N.length - As.length) none) Ω F0 R) : FnOk P w K mg base CX0 (k + 1) f fd ps (mkSp Pre) := by
  obtain ⟨oc, od, kV, doc, pm, an, cdv, ct, osl, rfl, lk, hcd⟩ := F.ex
  obtain rfl := hc _ _ _ _ _ _ _ _ _ _ _ _ _ _ _ lk hcd
  refine fn_of lk hcd S (fun vs H Q E h => ?_) fun A outer s H vs Q E hr h => ?_
  · obtain ⟨F, Ω, As, R, hp, ha, _⟩ := h
    rw [ha.len]; exact hl _ _ _ hp
  · obtain ⟨F0, Ω, As, R, hp, ha, hh, hq⟩ := h
    obtain ⟨t, h1, h2⟩ := hb A outer s H E hr As Ω R F0 hp
    exact ⟨t, h1.nox, h2 _ (fun F v H Ω' e hh r => hq F v H Ω' e hh r) (fun F σ H Ω' e hh r => hq F .non H Ω' e hh r) _ _ ⟨F0, Same.refl F0, start_env ha, hh⟩⟩
end
/-- the law's start: the tables apart from all else -/
theorem tab_start {K : PySem.W.Frag} {H : Hp} {l : List (Addr × Str)} {a : Addr} {xs : List V} (hH : ∀ p ∈ l, H p.1 = some (.tbl #[])) (hS : SqL K H a xs) : ∃ F, SqL K F a xs ∧ Holds F [tabA l] H := by
  let inT : Addr → Prop := fun b => ∃ p ∈ l, p.1 = b
  have dec : ∀ b, Decidable (inT b) := fun b => Classical.propDecidable _
  let F : Hp := fun b => if inT b then none else H b
  let t : Hp := fun b => if inT b then some (.tbl #[]) else none
  have hHt : ∀ b, inT b → H b = some (.tbl #[]) := fun b ⟨p, hp, e⟩ => e ▸ hH p hp
  have sF : Same F H := fun b x e => by
    by_cases q : inT b
    · have e : (if inT b then none else H b) = some x := e
      rw [if_pos q] at e; cases e
    · have e : (if inT b then none else H b) = some x := e
      rw [if_neg q] at e; exact e
  have sT : Same t H := fun b x e => by
    by_cases q : inT b
    · have e : (if inT b then some (HO.tbl #[]) else none) = some x := e
      rw [if_pos q] at e; rw [← e]; exact hHt b q
    · have e : (if inT b then some (HO.tbl #[]) else none) = some x := e
      rw [if_neg q] at e; cases e
  have at_ : ∀ u, H a = some u → u ≠ .tbl #[] → F a = some u := fun u e n => by
    show (if inT a then none else H a) = some u
    rw [if_neg (fun q => n (Option.some.inj (e.symm.trans (hHt a q)))), e]
  refine ⟨F, ?_, fun _ => t, fun i o q => ?_, sF, fun i _ => sT, fun i b x _ e => ?_, fun i j b x hi hj ne _ => ?_⟩
  · rcases hS with (h | ⟨o, h⟩) | h
    · exact .inl (.inl (at_ _ h fun z => by cases z))
    · exact .inl (.inr ⟨o, at_ _ h fun z => by cases z⟩)
    · exact .inr h
  · cases i with
    | zero =>
      cases q
      intro p hp
      refine ⟨#[], ?_, True.intro, fun pos cv hc => ?_⟩
      · show (if inT p.1 then some (HO.tbl #[]) else none) = _
        exact if_pos ⟨p, hp, rfl⟩
      · have z : codeAmong pos [] = some cv := hc
        simp [codeAmong] at z
    | succ i => simp at q
  · have e : (if inT b then some (HO.tbl #[]) else none) = some x := e
    show (if inT b then none else H b) = none
    by_cases q : inT b
    · exact if_pos q
    · rw [if_neg q] at e; cases e
  · simp at hi hj
    omega
end VL

set_option Elab.async false
set_option linter.all false
set_option maxRecDepth 100000
/-! VL20: the script with a list behind it; divmod; tests whose parts change things. -/
namespace VL
open PySem PySem.Spec PyProof.Rows L2
def rCatS (K : PySem.W.Frag) : R2 := fun x y H Q => ∃ l b xs zs, x = .ref l ∧ y = .ref b ∧ SqL K H l xs ∧ H b = some (.lst zs) ∧ xs.length + zs.length ≤ sizeLine ∧ ∀ p, H p = none → Q (.ref p) (upd H p (.lst (xs ++ zs)))
theorem op_catS {X : Cx} : OpR X (binaryOp .Add) (rCatS X.K) := by
  intro pins s σ H x y v u Q I rx ry h
  obtain ⟨l, b, xs, zs, rfl, rfl, hH, hB, hz, q⟩ := h
  obtain rfl : v = Value.ref l := rx
  obtain rfl : u = Value.ref b := ry
  obtain ⟨its, r, ⟨⟨cls, dd, data, sl⟩, n, ho, hc, hdn, hd⟩, hlen⟩ := I.list hH
  have hc1 : cls = Value.type "list" := hc
  have hd1 : data = Data.seq its.toArray n := hd
  subst hc1 hd1
  have hl := r.length
  obtain ⟨z2, its2, n2, r2, hl2, e2⟩ := I.lstM hB
  have hsz : its.toArray.size + its2.toArray.size ≤ sizeLine := by rw [List.size_toArray, List.size_toArray]; omega
  refine concat_meets ⟨_, ho, rfl⟩ ⟨_, e2, rfl⟩ noFill_list_add seq_list_add PySem.F.slot_list_add PySem.F.entry_list_add (PySem.F.args_list_add_2 _ _) (list_addW l b its.toArray its2.toArray n n2 dd none sl #[] hsz) ⟨ho, e2, ?_⟩
  have ea : its.toArray ++ its2.toArray = (its ++ its2).toArray := by simp
  rw [ea]
  exact ⟨.ref _, _, I.lnew (t' := s.toks) (r.append r2) (by rw [List.length_append]; omega), rfl, q _ I.fresh⟩
theorem op_catSK {X : Cx} {K : PySem.W.Frag} (h : X.K = K) : OpR X (binaryOp .Add) (rCatS K) := h ▸ op_catS
/-- divmod by what is not 0 -/
def CDivF (_ j : Int) : Prop := j ≠ 0 ∧ j.natAbs.log2 < 9000
def rDivmod : List V → Hp → VK → Prop := fun xs H Q => ∃ i j, xs = [.int i, .int j] ∧ CDivF i j ∧ ∀ p, H p = none → Q (.ref p) (upd H p (.tup [.int (i.fdiv j), .int (i.fmod j)]))
section
variable {T : TC} {ts : TA} {Γ : List (Option VA)} {Ω Ω1 Ω2 : List OA} {A : VA} {ta tb : TE} {t u : TT} {i j : Int} {b : Bool}
theorem xe_catS {α : Type} [Rp α] {l m : List α} (ha : XE ta Γ Ω (va T (SF.mk l)) Ω1) (hb : XE tb Γ Ω1 A Ω2) (h : IsLs T Ω2 A m) (hz : l.length + m.length ≤ sizeLine) : XE (tOp (rCatS T.K) ta tb) Γ Ω (va T (LF.mk (l ++ m))) Ω2 := xe_op ha hb fun F H x y hh a1 a2 Q q => by
  obtain ⟨p, vs, rfl, h1, h2⟩ := a1
  obtain ⟨p2, vs2, rfl, h3, h4⟩ := h F H y hh a2
  refine ⟨p, p2, vs, vs2, rfl, rfl, hh.same.seq h1, h3, by rw [al_len h2, al_len h4]; exact hz, fun r hr => ?_⟩
  obtain ⟨hh', s'⟩ := hh.newF (u := .lst (vs ++ vs2)) hr
  exact q _ _ _ s' hh' ⟨r, vs ++ vs2, rfl, upd_same, al_app (h2.mono s') (h4.mono s')⟩
end
end VL

set_option Elab.async false
set_option linter.all false
set_option maxRecDepth 100000
/-! VL21: == and != of tuples whose items are numbers by their own __eq__, frozen dicts and data. -/
namespace VNe
open PySem PySem.SeqAt
end VNe
namespace VL
open PySem L2 PyProof.Rows
/-- pair by pair: equal dicts, equal data, or the own __eq__ says yes -/
def WT (K : PySem.W.Frag) (C : Addr) (sp : Sp) : List (V × V) → Hp → (Hp → Prop) → Prop
  | [], H, Q => Q H
  | z :: r, H, Q => (FD H z.1 z.2 ∧ WT K C sp r H Q) ∨ (FS K H z.1 z.2 ∧ WT K C sp r H Q) ∨
    ∃ p q dx dy fs gs, z.1 = .ref p ∧ z.2 = .ref q ∧ H p = some (.ins C dx fs) ∧ H q = some (.ins C dy gs) ∧ (p = q → WT K C sp r H Q) ∧ (p ≠ q → sp [z.1, z.2] H (fun v H' => v = .bl true ∧ WT K C sp r H' Q) E0)
def rOwnT (K : PySem.W.Frag) (C : Addr) (sp : Sp) (b : Bool) : R2 := fun x y H Q => ∃ a c xs ys, x = .ref a ∧ y = .ref c ∧ SqT K H a xs ∧ SqT K H c ys ∧ xs.length = ys.length ∧ WT K C sp (xs.zip ys) H (fun H' => Q (.bl b) H')
section
variable {X : Cx} {n : Nat} {C f : Addr} {fd : FuncData} {ps : List Str} {sp : Sp}
/-- what the walk keeps -/
def TI (X : Cx) (pins : List (Addr × Obj)) (σ : L2.St) (C : Addr) (sp : Sp) (Q : Hp → Prop) (zs : List (Value × Value)) (s : Shared) : Prop :=
  ∃ H, Inv X pins σ H s ∧ ∃ us : List (V × V), us.length = zs.length ∧ (∀ i (h : i < us.length) (h2 : i < zs.length), RelV us[i].1 zs[i].1 ∧ RelV us[i].2 zs[i].2) ∧ WT X.K C sp us H Q
end
section
variable {T : TC} {Γ : List (Option VA)} {Ω Ω1 Ω2 : List OA} {ta tb : TE} {Pre : PreT}
/-- two items that compare alike -/
def ItE (T : TC) (Ω : List OA) (sp : Sp) (A B : VA) : Prop := ∀ F H x y r k, Holds F Ω H → A.P F x → B.P F y → (∀ F' H', Same F F' → Holds F' Ω H' → WT T.K (T.C 1) sp r H' k) → WT T.K (T.C 1) sp ((x, y) :: r) H k
end
end VL

set_option Elab.async false
set_option linter.all false
set_option maxRecDepth 100000
/-! VL22: a dict that changes: made, written, read, locked where it is read as a value. -/
namespace VL
open PySem L2 PyProof.Rows
/-- a dict that is locked from now on, at its old place -/
def fzDA (p : Addr) (l : List (Str × Int)) : OA := ⟨fun F _ => ∃ od, F p = some (.frz od (.dK (dkv l))), fun e ⟨od, h⟩ => ⟨od, e _ _ h⟩⟩
/-- written in its place, or at the end -/
def dput (l : List (Str × Int)) (k : Str) (v : Int) : List (Str × Int) := if (l.any fun p => decide (p.1 = k)) = true then l.map (fun p => if p.1 = k then (p.1, v) else p) else l ++ [(k, v)]
section
variable {T : TC} {Γ : List (Option VA)} {Ω Ω1 Ω2 Ω3 : List OA} {A B C : VA} {ta tb te : TE} {D : Ends} {F0 : Hp} {ts : TS}
/-! written -/
/-- a target that writes a thing -/
def Tgo (g : TG) (A : VA) (Γ : List (Option VA)) (Ω Ω2 : List OA) : Prop := ∀ F σ v H, Env F σ Γ → Holds F Ω H → A.P F v → ∀ Q : L2.St → Hp → Prop, (∀ F' H', Same F F' → Holds F' Ω2 H' → Q σ H') → g v σ H Q
end
/-! != of two dicts, where they are known to be alike -/
def rNeF : R2 := fun x y H Q => ∃ a b oa ob ks ls, x = .ref a ∧ y = .ref b ∧ H a = some (.frz oa (.dK ks)) ∧ H b = some (.frz ob (.dK ls)) ∧ ks.length = ls.length ∧ (∀ p ∈ ks, valV ls p.1 = some p.2 ∧ flatB p.2 = true) ∧ Q (.bl false) H
end VL

set_option Elab.async false
set_option linter.all false
set_option maxRecDepth 100000
/-! VL23: range downwards, one by one; isinstance and len of pairs. -/
namespace VL
open PySem L2 PyProof.Rows
section
variable {T : TC} {Γ : List (Option VA)} {Ω Ω1 Ω2 : List OA} {A B C : VA} {ta tb te : TE}
/-- i, i - 1, .. (n of them) -/
def rngD (i : Int) (n : Nat) : List Int := (List.range n).map fun (k : Nat) => i + (k : Int) * (-1)
theorem wk_rangeD {n : Nat} {lo : Int} : Wk (Itc lo (-1) n) (fun _ => True) (rngD lo n) (fun a => va T a) where
  mono := fun _ _ _ _ => trivial
  go := fun i F Ω H _ _ hi => by
    have hi : i < n := by simpa [rngD] using hi
    exact hi
  stop := fun F Ω H _ _ => by show n ≤ _; simp [rngD]
  yld := fun i a F Ω H x H' _ hh hx y => by
    obtain ⟨e, y⟩ := y
    subst e y
    refine ⟨F, Same.refl F, hh, ?_⟩
    show V.int _ = V.int a
    unfold rngD at hx
    rw [List.getElem?_map] at hx
    cases hr : (List.range n)[i]? with
    | none => rw [hr] at hx; cases hx
    | some k =>
      rw [hr] at hx
      have hk : i = k := by
        obtain ⟨h1, h2⟩ := List.getElem?_eq_some_iff.mp hr
        rw [List.getElem_range] at h2
        exact h2
      subst hk
      cases hx
      rfl
theorem xi_range3 {i j : Int} {ta : TA} (ha : XA ta Γ Ω [va T i, va T j, va T (-1 : Int)] Ω1) (h1 : -(2 ^ 62) ≤ i ∧ i < 2 ^ 62 ∧ -(2 ^ 62) ≤ j ∧ j < 2 ^ 62) : XI (iRng3 ta) Γ Ω (rngD i (i - j).toNat) (fun a => va T a) Ω1 := fun F σ H e hh R r => by
  refine ha F σ H e hh _ fun F1 vs H1 e1 hh1 a1 => ?_
  cases a1 with
  | cons a1 t =>
    obtain ⟨v, w, rfl, a2, a3⟩ := alA2 t
    have a1 : _ = V.int i := a1
    have a2 : v = .int j := a2
    have a3 : w = .int (-1) := a3
    subst a1 a2 a3
    exact ⟨i, j, -1, (i - j).toNat, rfl, RgC.neg h1.1 h1.2.1 h1.2.2.1 h1.2.2.2, r F1 _ H1 _ e1 hh1 wk_rangeD trivial⟩
end
end VL

set_option Elab.async false
set_option linter.all false
set_option maxRecDepth 100000
/-! VL24: a pair of a dict and a list that both change: made, handed on, its parts; get of a dict that changes. -/
namespace VL
open PySem L2 PyProof.Rows
section
variable {T : TC} {Γ : List (Option VA)} {Ω Ω1 Ω2 Ω3 : List OA} {A B C : VA} {ta tb tc te : TE} {D : Ends} {F0 : Hp} {ts : TS}
/-- dict(d): a new one, from a locked one -/
def rDictD : List V → Hp → VK → Prop := fun xs H Q => ∃ (a : Addr) (kvs : List (Key × V)), xs = [.ref a] ∧ Rd H a (.dK kvs) ∧ ∀ p, H p = none → Q (.ref p) (upd H p (.dK kvs))
end
end VL

set_option Elab.async false
set_option linter.all false
set_option maxRecDepth 100000
set_option maxHeartbeats 2000000
/-! VL25: a lambda with one parameter that has an int for its default, handed to a def that calls it without arguments. -/
namespace VL
open PySem PySem.Spec PyProof.Rows L2 LamX
structure LamSD (N : List Str) (nm : Str) (sc scope : Scope) : Prop where
  kind : scope.kind = .function
  co : scope.isCoroutine = false
  gen : scope.isGenerator = false
  own : ∀ y ∈ scope.names, y.2 ≠ .cell ∧ (y.2 = .local → y.1 ∉ N)
  free : ∀ y ∈ scope.names, y.2 = .free → sc.names.lookup y.1 = some .cell ∨ sc.names.lookup y.1 = some .free
  par : scope.names.lookup nm = some .local
def lamSDB (N : List Str) (nm : Str) (sc scope : Scope) : Bool :=
  decide (scope.kind = .function) && !scope.isCoroutine && !scope.isGenerator && (scope.names.all fun y => !decide (y.2 = .cell) && (!decide (y.2 = .local) || !decide (y.1 ∈ N)) && (!decide (y.2 = .free) || decide (sc.names.lookup y.1 = some .cell) || decide (sc.names.lookup y.1 = some .free))) && decide (scope.names.lookup nm = some .local)
theorem lamSD_by {N : List Str} {nm : Str} {sc scope : Scope} (h : lamSDB N nm sc scope = true) : LamSD N nm sc scope := by
  unfold lamSDB at h
  simp only [Bool.and_eq_true, Bool.or_eq_true, Bool.not_eq_true', decide_eq_true_eq, decide_eq_false_iff_not, List.all_eq_true] at h
  obtain ⟨⟨⟨⟨h1, h2⟩, h3⟩, h4⟩, h5⟩ := h
  refine ⟨h1, h2, h3, fun y hy => ⟨(h4 y hy).1.1, fun e => ?_⟩, fun y hy e => ?_, h5⟩
  · rcases (h4 y hy).1.2 with z | z
    · exact absurd e z
    · exact z
  · rcases (h4 y hy).2 with (z | z) | z
    · exact absurd e z
    · exact .inl z
    · exact .inr z
theorem LamSD.has {X : Cx} {N : List Str} {nm : Str} {scope : Scope} (L : LamSD N nm X.env.scope scope) (ok : X.Ok) : ∀ y ∈ scope.names, y.2 = .free → ∃ c, X.env.cells.lookup y.1 = some c := fun y hy e => by
  rcases L.free y hy e with k | k
  · exact ok.has _ (.inl k)
  · exact ok.has _ (.inr k)
section
variable {X : Cx} {pins : List (Addr × Obj)} {σ : L2.St} {H : Hp} {s : Shared}
end
section
variable {X : Cx} {pins : List (Addr × Obj)} {σ : L2.St} {H HZ : Hp} {s s1 : Shared}
theorem lam_start2D {A : Around} {outer : List PySem.Env} {E : XK} {scope : Scope} {nm : Str} {f c' : Addr} {h₁ : Heap} {tk : Nat} {binds : List (Str × Value)} (I : Inv X pins σ H s) (L : LamSD X.N nm X.env.scope scope) (e0 : Env0 X.prog X.w X.K X.mg X.base A outer s1 HZ) (hd : A.handled = none)
    (un : Un (frs X.stack) [] H HZ s.heap s1.heap) (hns : h₁.Ns s1.heap.objs.size fun y => binds.reverse.lookup y) (kp : ∀ b o, s1.heap.get? b = some o → h₁.get? b = some o) :
    Inv (lamCx X A outer s1 HZ E scope f c') [] σ HZ { s1 with heap := h₁, toks := tk } := by
  have hfree := L.has I.ok
  have cm : ∀ {y c}, (cloFrom X.env.cells scope.names []).lookup y = some c → X.env.cells.lookup y = some c := fun {y c} e => by
    rcases cloFrom_mem (PySem.mem_of_lookup e) with hm | ⟨h1, h2⟩
    · cases hm
    · obtain ⟨c1, hc⟩ := hfree _ h1 rfl
      have hc : X.env.cells.lookup y = some c1 := hc
      have e2 : c = c1 := by
        rw [h2, hc] <;> rfl
      rw [e2]
      exact hc
  have look : ∀ {y}, scope.names.lookup y = some .free → ∃ c, (cloFrom X.env.cells scope.names []).lookup y = some c := fun {y} hl => by
    have hy : (y, NameKind.free) ∈ scope.names := PySem.mem_of_lookup hl
    exact mem_lookup (cloFrom_has (cells := X.env.cells) (acc := []) hy)
  have cellK : ∀ {c : Addr} {v : Option Value}, H c = none → s.heap.IsCell c v → h₁.IsCell c v := fun {c v} n ⟨o, ho, hd⟩ => by
    obtain ⟨sl, q⟩ := un.any ho n (by simp)
    exact ⟨_, kp _ _ q, hd⟩
  have noA : ∀ b : Addr, b ∉ (lamCx X A outer s1 HZ E scope f c').ex := fun b z => absurd (show b ∈ ([] : List Addr) from z) (by simp)
  refine ⟨⟨e0.mod, L.kind, rfl, rfl, Nat.le_refl _, fun y z c e1 e2 => I.ok.inj y z c (cm e1) (cm e2), fun y hy => ?_, fun y c z _ => ?_, fun _ => hd, Around.frames_deeper e0.frames, .inr ⟨rfl, rfl⟩, fun b z => absurd z (noA b), e0.bs, e0.bsz, fun b _ _ => noA b,
      fun b z => absurd z (noA b), e0.funs, e0.frf⟩,
    rfl, e0.bare, Un.kept kp, ⟨_, hns, fun i y v e1 e2 e3 => ?_⟩, fun y c e => ?_, e0.hok.fresh (Nat.le_refl _), fun y c e => ?_, fun q hq => absurd (show q ∈ ([] : List (Addr × Obj)) ++ [] from hq) (by simp), e0.hok.kept kp, I.len⟩
  · have hy : scope.names.lookup y = some .cell ∨ scope.names.lookup y = some .free := hy
    rcases hy with hy | hy
    · exact absurd rfl (L.own _ (PySem.mem_of_lookup hy)).1
    · exact look hy
  · have z : false = true := z
    cases z
  · have e3 : Vis scope y := e3
    rcases e3 with k | k | k
    · have hN : y ∈ X.N := List.mem_of_getElem? e1
      exact absurd hN ((L.own _ (PySem.mem_of_lookup k)).2 rfl)
    · exact absurd rfl (L.own _ (PySem.mem_of_lookup k)).1
    · obtain ⟨m, hn, hl⟩ := I.loc
      have hvis : Vis X.env.scope y := (L.free _ (PySem.mem_of_lookup k) rfl).elim (fun k => .inr (.inl k)) (fun k => .inr (.inr k))
      obtain ⟨w', r, q⟩ := hl i y v e1 e2 hvis
      obtain ⟨c2, h2⟩ := look k
      refine ⟨w', r, .inr ⟨.inr k, c2, h2, ?_⟩⟩
      have c1 := cm h2
      rcases q with ⟨k', _⟩ | ⟨_, c3, e', z⟩
      · have k' : X.env.scope.names.lookup y = some .local := k'
        rcases L.free _ (PySem.mem_of_lookup k) rfl with k2 | k2 <;> rw [show X.env.scope.names.lookup y = _ from k2] at k' <;> cases k'
      · rw [c1] at e'
        cases e'
        exact cellK (I.freeC y _ c1) z
  · obtain ⟨w', z⟩ := I.cell y c (cm e)
    exact ⟨w', cellK (I.freeC y c (cm e)) z⟩
  · obtain ⟨v, o, ho, hd⟩ := I.cell y c (cm e)
    exact un.free c o ho (I.freeC y c (cm e)) (by simp)
end
section
variable {X : Cx}
end
section
variable {X : Cx}
end
section
variable {T : TC} {Γ : List (Option VA)} {Ω Ω1 Ω2 : List OA} {ta tb : TE} {i j : Int}
end
end VL

set_option Elab.async false
set_option linter.all false
set_option maxRecDepth 100000
/-! VL26: the first and the last of four. -/
namespace VL
open PySem L2 PyProof.Rows
section
variable {T : TC} {Γ : List (Option VA)} {Ω Ω1 Ω2 : List OA} {te ti : TE}
end
end VL

set_option Elab.async false
set_option linter.all false
set_option maxRecDepth 100000
/-! VL27: == and != of tuples among whose items stand pairs of numbers with an own __eq__; a call with a new thing ahead of arguments that change things. -/
namespace VL
open PySem L2 PyProof.Rows
/-- pair by pair, as WT, or two tuples within -/
def WT2 (K : PySem.W.Frag) (C : Addr) (sp : Sp) : List (V × V) → Hp → (Hp → Prop) → Prop
  | [], H, Q => Q H
  | z :: r, H, Q => WT K C sp [z] H (fun H' => WT2 K C sp r H' Q) ∨
    ∃ p q xs ys, z.1 = .ref p ∧ z.2 = .ref q ∧ SqT K H p xs ∧ SqT K H q ys ∧ xs.length = ys.length ∧ (p = q → WT2 K C sp r H Q) ∧ (p ≠ q → WT K C sp (xs.zip ys) H (fun H' => WT2 K C sp r H' Q))
def rOwnT2 (K : PySem.W.Frag) (C : Addr) (sp : Sp) (b : Bool) : R2 := fun x y H Q => ∃ a c xs ys, x = .ref a ∧ y = .ref c ∧ SqT K H a xs ∧ SqT K H c ys ∧ xs.length = ys.length ∧ WT2 K C sp (xs.zip ys) H (fun H' => Q (.bl b) H')
section
variable {X : Cx} {n : Nat} {C f : Addr} {fd : FuncData} {ps : List Str} {sp : Sp}
def TI2 (X : Cx) (pins : List (Addr × Obj)) (σ : L2.St) (C : Addr) (sp : Sp) (Q : Hp → Prop) (zs : List (Value × Value)) (s : Shared) : Prop :=
  ∃ H, Inv X pins σ H s ∧ ∃ us : List (V × V), us.length = zs.length ∧ (∀ i (h : i < us.length) (h2 : i < zs.length), RelV us[i].1 zs[i].1 ∧ RelV us[i].2 zs[i].2) ∧ WT2 X.K C sp us H Q
end
section
variable {T : TC} {Γ : List (Option VA)} {Ω Ω1 Ω2 : List OA} {ta tb : TE} {Pre : PreT}
def ItE2 (T : TC) (Ω : List OA) (sp : Sp) (A B : VA) : Prop := ∀ F H x y r k, Holds F Ω H → A.P F x → B.P F y → (∀ F' H', Same F F' → Holds F' Ω H' → WT2 T.K (T.C 1) sp r H' k) → WT2 T.K (T.C 1) sp ((x, y) :: r) H k
end
end VL

set_option Elab.async false
set_option linter.all false
set_option maxRecDepth 100000
/-! VL28: a pair of a new list and a value out of one of several defs; such a pair handed on at once; a new list and two values in one assignment. -/
namespace VL
open PySem L2 PyProof.Rows
section
variable {T : TC} {Γ : List (Option VA)} {Ω Ω0 Ω1 Ω2 Ω3 : List OA} {A B C : VA} {As Ks : List VA} {a : FT} {i : Nat} {S : Addr → Sp → Prop} {ta tb te : TE} {D : Ends} {F0 : Hp} {ts : TS}
/-- arguments, among them a pair of a new list at p -/
def XAN (t : TA) (Γ : List (Option VA)) (Ω : List OA) (As : Addr → List VA) (Ω2 : Addr → List OA) : Prop :=
  ∀ F σ H, Env F σ Γ → Holds F Ω H → ∀ Q : List V → Hp → Prop, (∀ F' vs H' p, Same F F' → Holds F' (Ω2 p) H' → AlA F' vs (As p) → Q vs H') → t σ H Q
end
end VL

set_option Elab.async false
set_option linter.all false
set_option maxRecDepth 100000
/-! VL29: == and != of machines, with a new one, with a tuple; a machine made by keywords; in of a dict that changes; new lists told by a machine; a method of a new machine. -/
namespace VL
open PySem L2 PyProof.Rows
section
variable {T : TC} {Γ : List (Option VA)} {Ω Ω0 Ω1 Ω2 Ω3 : List OA} {A B C : VA} {As Ks : List VA} {ta tb te : TE} {D : Ends} {F0 : Hp} {ts : TS} {p p2 : Addr} {k k2 : Nat} {x y s : MS} {r : Bool}
end
/-! ### machine == a tuple -/
def otherT (K : PySem.W.Frag) (C : Addr) : Bool := PySem.W.notFirst K C (.type "tuple") && decide (PySem.W.kitOne K (.type "tuple") (.ref C) = some false)
def rOwnXT (K : PySem.W.Frag) (C : Addr) (sp : Sp) : R2 := fun x y H Q => ∃ a dx fs b xs, x = .ref a ∧ H a = some (.ins C dx fs) ∧ y = .ref b ∧ SqT K H b xs ∧ sp [x, y] H (fun v H' => v = .bl false ∧ Q (.bl false) H') E0
section
variable {X : Cx} {n : Nat} {C f : Addr} {fd : FuncData} {ps : List Str} {sp : Sp}
structure CalEqT (P : Program) (w : World) (K : PySem.W.Frag) (mg : Str → Option Value) (base : Heap) (n : Nat) (C : Addr) (sp : Sp) : Prop where
  ex : ∃ f fd, FnOk P w K mg base CX0 n f fd ["self", "other"] sp ∧ otherT K C = true ∧ Meth K C "__eq__" f ∧ Binds K fd ["self", "other"] []
end
/-- what __eq__ of a machine tells beside a tuple -/
def PreXT (T : TC) : PreT := fun As Ω R => ∃ (k0 : Nat) (p0 : Addr) (x0 : MS) (A : VA), As = [vr p0, A] ∧ Ω[k0]? = some (machA T p0 x0) ∧ (∀ F H v, Holds F Ω H → A.P F v → ∃ b xs, v = .ref b ∧ SqT T.K H b xs) ∧ R = RV (va T false) (stt Ω [] [])
section
variable {T : TC} {Γ : List (Option VA)} {Ω Ω0 Ω1 Ω2 Ω3 : List OA} {A B C : VA} {As Ks : List VA} {ta tb te : TE} {p : Addr} {k : Nat} {x s : MS} {r : Bool}
theorem ty_sqt {H : Hp} {b : Addr} {xs : List V} (h : SqT T.K H b xs) : TyX T.K H (.ref b) (.type "tuple") := by
  rcases h with (h | ⟨o, h⟩) | h
  · exact .base (.tup h)
  · exact .fTuple h
  · obtain ⟨o, _, _, e, c, _⟩ := h
    exact .kTuple e c
def rNoN : R2 := fun x y H Q => y = .non ∧ Q (.bl (!decide (x = .non))) H
/-! ### new lists that a machine tells -/
def Pre_Mach_tallyN (T : TC) : PreT := fun As Ω R => ∃ (k : Nat) (p : Addr) (s : MS), As = [vr p] ∧ Ω[k]? = some (machA T p s) ∧ R = RN Ω (fun q => lstA T q s.tally)
def Pre_Mach_walkN (T : TC) : PreT := fun As Ω R => ∃ (k : Nat) (p : Addr) (s : MS), As = [vr p] ∧ Ω[k]? = some (machA T p s) ∧ R = RN Ω (fun q => lstA T q s.wk)
theorem pe_cal0 {X : Cx} {k : Nat} {x : Str} {ps : List Str} {sp : Sp} {p pos : Pos} (C : Cal X.prog X.w X.K X.mg X.base k x ps sp) (hr : Room k X.A) (hg : Gl X x) (hdb : (x == ("__debug__" : Str)) = false := by decide) :
    PE X (.Call (.Name x p) [] [] pos) (tCall sp [] E0 tNil) := by
  obtain ⟨f, fd, F, hm, hk, hb⟩ := C.ex
  exact pe_call0 F hr hg hm hk hb .nil pass0 hdb
structure CalCK (P : Program) (w : World) (K : PySem.W.Frag) (mg : Str → Option Value) (base : Heap) (k : Nat) (x : Str) (C : Addr) (ps ks : List Str) (ix : List Nat) (sp : Sp) : Prop where
  ex : ∃ f fd g, FnOk P w K mg base CX0 k f fd ps sp ∧ mg x = some (.ref C) ∧ Mk K C f ∧ KBn K fd ps 1 ks g (fun vs zs => prm ix (vs ++ zs))
end
end VL

set_option Elab.async false
set_option linter.all false
set_option maxRecDepth 100000
/-! VL30: a dict with three numbers, a dict and a list that change (a law's own tally and walk): made, its parts; ways that are never taken; ranges by a step; max of a list. -/
namespace VL
open PySem L2 PyProof.Rows
def wkv (b c B : Int) (d e : Addr) : List (Key × V) := [(Sum.inr ("bits" : Str), .int b), (Sum.inr ("cutoff" : Str), .int c), (Sum.inr ("base" : Str), .int B), (Sum.inr ("counts" : Str), .ref d), (Sum.inr ("walk" : Str), .ref e)]
section
variable {b c B : Int} {d e : Addr}
end
section
variable {T : TC} {Γ : List (Option VA)} {Ω Ω0 Ω1 Ω2 Ω3 : List OA} {A B' C : VA} {ta tb te : TE} {D : Ends} {F0 : Hp} {ts : TS} {b c B : Int} {p : Addr} {k : Nat}
/-- such a dict, new -/
def RNW (T : TC) (Ω2 : List OA) (b c B : Int) : Hp → V → List OA → Prop := fun _ v Ω' => ∃ p d e, v = .ref p ∧ Ω' = Ω2 ++ [rawD p (wkv b c B d e), rawD d (dkv []), lstA T e ([] : List (T3 Str Int Int))]
/-! ### is None -/
def rIsNo : R2 := fun x y H Q => y = .non ∧ Q (.bl (decide (x = .non))) H
def tNo : TE := fun _ _ _ => False
/-! ### max of a list -/
def maxL : List Int → Int
  | [] => 0
  | [a] => a
  | a :: r => max a (maxL r)
theorem al_ints {F : Hp} {ws : List V} {l : List Int} (al : Al T F ws l) : ws = l.map V.int := by
  induction al with
  | nil => rfl
  | cons h _ ih => rw [List.map_cons, ← ih, show _ = V.int _ from h]
end
end VL
namespace VL
open PySem L2 PyProof.Rows
/-! ### range(0, j, c) -/
def rngS (c : Int) (n : Nat) : List Int := (List.range n).map fun (k : Nat) => 0 + (k : Int) * c
def CRg (j c : Int) : Prop := 0 < c ∧ c < 2 ^ 30 ∧ 0 ≤ j ∧ j < 2 ^ 30
section
variable {T : TC} {Γ : List (Option VA)} {Ω Ω1 Ω2 : List OA} {B' : VA} {As : List VA}
end
end VL

set_option Elab.async false
set_option linter.all false
set_option maxRecDepth 100000
/-! VL31: reversed(range(n)). -/
namespace VL
open PySem L2 PyProof.Rows
section
variable {T : TC} {Γ : List (Option VA)} {Ω Ω1 Ω2 : List OA} {A B C : VA} {ta tb te : TE}
end
end VL

set_option Elab.async false
set_option linter.all false
set_option maxRecDepth 100000
/-! VL32: defs with defaults and keyword-only parameters. -/
namespace VL
open PySem L2
open PyProof.Rows (envOfC)
section
variable {P : Program} {w : World} {K : PySem.W.Frag} {mg : Str → Option Value} {base : Heap}
/-- a def that may be called, what is not written filled up -/
structure CalD (P : Program) (w : World) (K : PySem.W.Frag) (mg : Str → Option Value) (base : Heap) (k : Nat) (x : Str) (ps : List Str) (dvs : List V) (sp : Sp) : Prop where
  ex : ∃ f fd ds, FnOk P w K mg base CX0 k f fd ps sp ∧ mg x = some (.ref f) ∧ PySem.W.keepIn K (.ref f) = true ∧ Vals dvs ds ∧ Binds K fd ps ds
structure CalKD (P : Program) (w : World) (K : PySem.W.Frag) (mg : Str → Option Value) (base : Heap) (k : Nat) (x : Str) (ps : List Str) (n : Nat) (ks : List Str) (dvs : List V) (ix : List Nat) (sp : Sp) : Prop where
  ex : ∃ f fd g, FnOk P w K mg base CX0 k f fd ps sp ∧ mg x = some (.ref f) ∧ PySem.W.keepIn K (.ref f) = true ∧ KBn K fd ps n ks g (fun vs zs => prm ix (vs ++ (dvs ++ zs)))
end
section
variable {X : Cx} {k n : Nat} {x : Str} {ps ks : List Str} {dvs : List V} {ix : List Nat} {sp : Sp} {p pos : Pos} {e : Expr} {es : List Expr} {kws : List Keyword} {t tk : TA}
end
section
variable {T : TC} {Γ : List (Option VA)} {Ω Ω1 Ω2 Ω3 : List OA} {A : VA} {As Ks Ds : List VA} {dvs : List V}
end
end VL

set_option Elab.async false
set_option linter.all false
set_option maxRecDepth 100000
/-! VL33: a list of two new machines. -/
namespace VL
open PySem L2
def rawLA (d : Addr) (vs : List V) : OA := ⟨fun _ t => t d = some (.lst vs), fun _ h => h⟩
/-- hands back a list of two new machines -/
abbrev RMM (T : TC) (Ω2 : List OA) (s1 s2 : MS) : Hp → V → List OA → Prop := fun F v Ω' => ∃ p q1 q2, v = .ref p ∧ F p = some (.lst [.ref q1, .ref q2]) ∧ Ω' = Ω2 ++ [machA T q1 s1, machA T q2 s2]
section
variable {T : TC} {Γ : List (Option VA)} {Ω Ω0 Ω1 Ω2 : List OA} {As : List VA} {ta tb te : TE}
variable {F0 : Hp}
end
end VL

set_option Elab.async false
set_option linter.all false
set_option maxRecDepth 100000
/-! VL34: count of a text in a list of texts. -/
namespace VL
open PySem L2
/-- how often -/
def cntStr (k : Str) (l : List Str) : Nat := l.countP (· == k)
def rCntS (K : PySem.W.Frag) : V → List V → Hp → VK → Prop := fun x xs H Q => ∃ (p : Addr) (l : List Str) (k : Str), x = .ref p ∧ xs = [.str k] ∧ SqL K H p (l.map V.str) ∧ Q (.int (cntStr k l : Nat)) H
section
variable {T : TC} {Ω Ω1 Ω2 : List OA}
end
end VL

set_option Elab.async false
set_option linter.all false
set_option maxRecDepth 100000
set_option maxHeartbeats 1000000
/-! VL35: list(reversed(l)) of a list. -/
namespace VLR
open PySem PySem.Spec PyProof.Rows RT
section
variable {prog : Program} {w : World} {A : Around} {E : Value → Shared → Prop} {s : Shared}
end
end VLR
namespace VL
open PySem PySem.Spec PyProof.Rows L2 _root_.RT
section
variable {X : Cx}
def tListRev (K : PySem.W.Frag) (te : TE) : TE := fun σ H Q => te σ H fun v H1 => ∃ (a : Addr) (xs : List V), v = .ref a ∧ SqL K H1 a xs ∧ ∀ q, H1 q = none → Q (.ref q) (upd H1 q (.lst xs.reverse))
end
section
variable {T : TC} {Ω Ω1 : List OA}
end
section
variable {T : TC} {Ω Ω1 Ω2 : List OA}
theorem ty_str {F H : Hp} {v : V} {x : Str} (_ : Holds F Ω H) (a : (va T x).P F v) : TyX T.K H v (.type "str") := by
  have a : v = .str x := a
  subst a
  exact .base (.str x)
/-- a text among texts -/
def inS (k : Str) (l : List Str) : Bool := l.any fun y => y == k
end
end VL

set_option Elab.async false
set_option linter.all false
set_option maxRecDepth 100000
/-! VL36: a tuple of one thing and a pair make a triple. -/
namespace VL
open PySem L2
section
variable {T : TC} {Ω Ω1 Ω2 : List OA}
end
end VL

set_option Elab.async false
set_option linter.all false
set_option maxRecDepth 100000
/-! VL37: a dict that changed, locked within a pair that is handed back; both things of a pair one by one. -/
namespace VL
open PySem L2 PyProof.Rows
/-- some dict is locked for good -/
def tFzA (te : TE) : TE := fun σ H Q => te σ H fun v H1 => ∃ p kvs, H1 p = some (.dK kvs) ∧ ∀ od, Q v (upd H1 p (.frz od (.dK kvs)))
section
variable {T : TC} {Γ : List (Option VA)} {Ω Ω1 Ω2 Ω3 : List OA} {A B C : VA} {ta tb te : TE} {D : Ends} {F0 : Hp} {ts : TS}
end
end VL

set_option Elab.async false
set_option linter.all false
set_option maxRecDepth 100000
set_option maxHeartbeats 2000000
/-! VL38: a lambda with one parameter, handed to a def that calls it with a machine. -/
namespace VL
open PySem PySem.Spec PyProof.Rows L2 LamX
/-- the context of the body of such a lambda: the caller's names and its own -/
def lamCx1 (X : Cx) (nm : Str) (A : Around) (outer : List PySem.Env) (s : Shared) (H : Hp) (E : XK) (scope : Scope) (f c' : Addr) : Cx := { lamCx X A outer s H E scope f c' with N := X.N ++ [nm] }
section
variable {X : Cx} {pins : List (Addr × Obj)} {σ : L2.St} {H HZ : Hp} {s s1 : Shared}
/-- what a call of the name with one value makes -/
def tAct1 (i : Nat) (f c' : Addr) (q : Str) (act : V → Hp → VK → Prop) (te : TE) : TE := fun σ H Q => σ[i]? = some (some (.ref f)) ∧ te σ H fun v H1 => H1 c' = some (CodeO c' q) ∧ act v H1 Q
end
/-! ### a def that is handed such a lambda -/
def ActH1 (P : Program) (w : World) (K : PySem.W.Frag) (mg : Str → Option Value) (base : Heap) (k : Nat) (A : Around) (outer : List PySem.Env) (s : Shared) (H : Hp) (f c' : Addr) (q : Str) (act : V → Hp → VK → Prop) : Prop :=
  ∀ (Ng : List Str) (qg : Str) (sg : Scope) (g : Addr) (cdg : Value) (i : Nat) (a : Str) (p1 p2 : Pos) (e : Expr) (te : TE), Room (k + 1) (A.deeper (envOfC qg sg s.heap.objs.size g cdg)) → Ng[i]? = some a → Vis sg a → (a == ("__debug__" : Str)) = false → (a == ("__classdict__" : Str)) = false →
    PE (cxOf CX0 P w K mg base Ng qg sg g cdg A outer s H E0).nox e te → starEach [e] (envOfC qg sg s.heap.objs.size g cdg) = (false, eval e (envOfC qg sg s.heap.objs.size g cdg)) :: starEach [] (envOfC qg sg s.heap.objs.size g cdg) →
    PE (cxOf CX0 P w K mg base Ng qg sg g cdg A outer s H E0).nox (.Call (.Name a p1) [e] [] p2) (tAct1 i f c' q act te)
abbrev PreLT1 := Addr → Addr → Str → (V → Hp → VK → Prop) → PreT
structure CalL1 (P : Program) (w : World) (K : PySem.W.Frag) (mg : Str → Option Value) (base : Heap) (kl k : Nat) (x : Str) (ps : List Str) (Pre : PreLT1) : Prop where
  ex : ∃ g fd, mg x = some (.ref g) ∧ PySem.W.keepIn K (.ref g) = true ∧ Binds K fd ps [] ∧ (∀ f c' q act As Ω R, Pre f c' q act As Ω R → As.length = ps.length) ∧
    ∀ (A : Around) (outer : List PySem.Env) (s : Shared) (H : Hp) (us : List Value) (vs : List V) (Q : VK) (f c' : Addr) (q : Str) (act : V → Hp → VK → Prop), Room k A → Env0 P w K mg base A outer s H → BindsTo s fd ⟨us, []⟩ (ps.zip us) → Vals vs us →
      ActH1 P w K mg base kl A outer s H f c' q act → mkSp (Pre f c' q act) vs H Q E0 → codeAny (model P w) A (.call (.ref g) ⟨us, []⟩) (CR CX0 outer P w H s Q E0) s
section
variable {P : Program} {w : World} {K : PySem.W.Frag} {mg : Str → Option Value} {base : Heap}
end
def tLam1 (P : Addr) (q : Str) (Pre : PreLT1) (ta tb : TE) : TE := fun σ H Q => ta σ H fun v H0 => (∃ ps : Array Value, H0 P = some (.tbl ps) ∧ TriplesOk ps.toList ∧ ∀ (pos : Pos) (cv : Value), codeAmong pos ps.toList = some cv → ∃ c, cv = .ref c ∧ H0 c = some (CodeO c q)) ∧
  ∀ f c' H1, Grown H0 P q H1 c' → mkSp (Pre f c' q fun u H' Q' => tb (σ ++ [some u]) H' Q') [v, .ref f] H1 Q E0
section
variable {X : Cx}
end
/-- the name's value: the lambda f, which takes the machine at k0, handed over, from m to r.2 and tells r.1 -/
def askA1 (T : TC) {α : Type} [Rp α] (f c' : Addr) (q : Str) (act : V → Hp → VK → Prop) (Ω : List OA) (k0 : Nat) (p0 : Addr) (M : MS → Option (α × MS)) : VA :=
  ⟨fun F v => v = .ref f ∧ F c' = some (CodeO c' q) ∧ ∀ m r, M m = some r → ∀ F1 H1, Same F F1 → Holds F1 (stt Ω [(k0, machA T p0 m)] []) H1 → ∀ Q : VK, (∀ F2 v H2, Same F1 F2 → Holds F2 (stt Ω [(k0, machA T p0 r.2)] []) H2 → (va T r.1).P F2 v → Q v H2) → act (.ref p0) H1 Q,
   fun e ⟨h1, h2, h3⟩ => ⟨h1, e _ _ h2, fun m r hm F1 H1 e1 => h3 m r hm F1 H1 (e.trans e1)⟩⟩
section
variable {T : TC} {Γ : List (Option VA)} {Ω Ω1 Ω2 : List OA} {α : Type} [Rp α]
end
/-! ### a dict with a machine, a list and a dict -/
def wev (m e d : Addr) : List (Key × V) := [(Sum.inr ("engine" : Str), .ref m), (Sum.inr ("walk" : Str), .ref e), (Sum.inr ("counts" : Str), .ref d)]
section
variable {m e d : Addr}
end
section
variable {T : TC} {Γ : List (Option VA)} {Ω Ω0 Ω1 Ω2 Ω3 : List OA} {A B' C : VA} {ta tb te : TE} {D : Ends} {F0 : Hp} {ts : TS} {p m : Addr} {k : Nat}
/-- such a dict, new, about the machine at m -/
def RNE (T : TC) (Ω2 : List OA) (m : Addr) : Hp → V → List OA → Prop := fun _ v Ω' => ∃ p e d, v = .ref p ∧ Ω' = Ω2 ++ [rawD p (wev m e d), lstA T e ([] : List (T3 Str Int Int)), rawD d (dkv [])]
end
end VL

set_option Elab.async false
set_option linter.all false
set_option maxRecDepth 100000
/-! VL39: a list of two machines by its name: kept, taken apart, handed over; a dict with a machine out of a def. -/
namespace VL
open PySem L2 PyProof.Rows
/-- a list of the things at q1 and q2, for good -/
def mmA (q1 q2 : Addr) : VA := ⟨fun F v => ∃ p, v = .ref p ∧ F p = some (.lst [.ref q1, .ref q2]), fun e ⟨p, a, b⟩ => ⟨p, a, e _ _ b⟩⟩
section
variable {T : TC} {Γ : List (Option VA)} {Ω Ω0 Ω1 Ω2 Ω3 : List OA} {A B C : VA} {As : List VA} {ta tb te : TE} {D : Ends} {F0 : Hp} {ts : TS} {p m q1 q2 : Addr}
end
end VL

set_option Elab.async false
set_option linter.all false
set_option maxRecDepth 100000
/-! VL40: x *= e; two names for one value; range(a, j, c). -/
namespace VL
open PySem L2 PyProof.Rows
section
variable {T : TC} {Γ : List (Option VA)} {Ω Ω0 Ω1 Ω2 : List OA} {A B' : VA} {As : List VA} {te : TE} {D : Ends} {F0 : Hp} {ts : TS}
def rngA (a c : Int) (n : Nat) : List Int := (List.range n).map fun (k : Nat) => a + (k : Int) * c
def CRgA (a j c : Int) : Prop := 0 < c ∧ c < 2 ^ 30 ∧ 0 ≤ a ∧ a ≤ j ∧ j < 2 ^ 30
end
end VL

set_option Elab.async false
set_option linter.all false
set_option maxRecDepth 100000
/-! VL41: list(range(a, j, c)); the first part of a triple. -/
namespace VL
open PySem PySem.Spec L2 PyProof.Rows
def rgVC (a c : Int) (n : Nat) : List V := (rngA a c n).map V.int
def tLstRgC (ta : TA) : TE := fun σ H Q => ta σ H fun vs H1 => ∃ (i j c : Int) (n : Nat), vs = [.int i, .int j, .int c] ∧ RgC i j c n ∧ n ≤ 2 ^ 24 ∧ ∀ q, H1 q = none → Q (.ref q) (upd H1 q (.lst (rgVC i c n)))
section
variable {X : Cx}
end
section
variable {T : TC} {Γ : List (Option VA)} {Ω Ω1 : List OA} {te : TE}
end
end VL

set_option Elab.async false
set_option linter.all false
set_option maxRecDepth 100000
/-! VL42: three things that change; a list of two new machines handed to a def; w, x, y, z = values and a new list. -/
namespace VL
open PySem L2 PyProof.Rows
section
variable {T : TC} {Γ : List (Option VA)} {Ω Ω0 Ω1 : List OA} {A B C : VA} {As : List VA} {ta tb tc td : TE} {D : Ends} {F0 : Hp} {ts : TS}
end
end VL

set_option Elab.async false
set_option linter.all false
set_option maxRecDepth 100000
/-! VL43: a pair turned about, p[::-1]; d.get(k) of a key that is there. -/
namespace VL
open PySem PySem.Spec PySem.Calls L2 PyProof.Rows
section
variable {prog : Program} {w : World} {A : Around} {E : Value → Shared → Prop} {s : Shared}
end
def tRevP (K : PySem.W.Frag) (te : TE) : TE := fun σ H Q => te σ H fun x H1 => ∃ a u v, x = .ref a ∧ SqT K H1 a [u, v] ∧ ∀ p, H1 p = none → Q (.ref p) (upd H1 p (.tup [v, u]))
section
variable {X : Cx}
end
section
variable {T : TC} {Γ : List (Option VA)} {Ω Ω1 Ω2 : List OA} {te ta tb : TE}
end
section
variable {T : TC} {Γ : List (Option VA)} {Ω Ω1 Ω2 : List OA} {ta tb : TE}
/-- a number among numbers -/
def inI (k : Int) (l : List Int) : Bool := l.any fun y => y == k
end
end VL

set_option Elab.async false
set_option linter.all false
set_option maxRecDepth 100000
/-! VL44: sum(d.values()). -/
namespace VL
open PySem PySem.Spec PySem.Calls PySem.W L2 PyProof PyProof.Rows
def tSumVals (td : TE) : TE := fun σ H Q => td σ H fun x H1 => ∃ (a : Addr) (kvs : List (Key × V)) (is : List Int), x = V.ref a ∧ Rd H1 a (.dK kvs) ∧ kvs.map (·.2) = is.map V.int ∧ Q (.int (preSum (fun i => is.getD i 0) is.length)) H1
section
variable {X : Cx} {o : Expr} {p pos apos mpos : Pos} {td : TE}
end
section
variable {T : TC} {Γ : List (Option VA)} {Ω Ω1 : List OA} {te : TE}
end
end VL

set_option Elab.async false
set_option linter.all false
set_option maxRecDepth 100000
/-! VL45: defs that raise an own exception without arguments; try .. except X around one statement. -/
namespace VL
open PySem L2
open PyProof.Rows (envOfC)
/-- a promise to raise: of the arguments As in the state Ω -/
abbrev PreXX := List VA → List OA → (Hp → Value → Option Addr → List OA → Prop) → Prop
def mkSpX (Pre : PreXX) : Sp := fun vs H _ E => ∃ F Ω As R, Pre As Ω R ∧ AlA F vs As ∧ Holds F Ω H ∧ ∀ F' c d H' Ω', Same F F' → Holds F' Ω' H' → R F' c d Ω' → E c d H'
/-- an exception of the class at C, the state Ω2 -/
abbrev RX (C : Addr) (Ω2 : List OA) : Hp → Value → Option Addr → List OA → Prop := fun _ c _ Ω' => c = .ref C ∧ Ω' = Ω2
/-- it returns, or it raises -/
def sp2 (Pre : PreT) (PreX : PreXX) : Sp := fun vs H Q E => mkSp Pre vs H Q E ∨ mkSpX PreX vs H Q E
def RTX (F0 : Hp) (R : Hp → Value → Option Addr → List OA → Prop) : XK → Prop := fun E => ∀ F c d H Ω, Same F0 F → Holds F Ω H → R F c d Ω → E c d H
def BodX (X : Cx) (body : List Stmt) (Γ : List (Option VA)) (Ω : List OA) (F0 : Hp) : Prop := ∃ t, PSs X body t ∧ ∀ D : Ends, XS t D F0 Γ Ω
abbrev WXE (E : XK) : WX := fun c d _ H => E c d H
section
variable {P : Program} {w : World} {K : PySem.W.Frag} {mg : Str → Option Value} {base : Heap}
theorem fn_okX {x qual : Str} {st : Stmt} {f : Addr} {fd : FuncData} {N ps : List Str} {k : Nat} {Pre : PreXX} (F : Fun K x qual st f fd) (S : FnScope N ps (defScope st)) (hl : ∀ As Ω R, Pre As Ω R → As.length = ps.length)
    (hb : ∀ (cdv : Value) (A : Around) (outer : List PySem.Env) (s : Shared) (H : Hp) (E : XK), Room k (A.deeper (envOfC qual (defScope st) s.heap.objs.size f cdv)) → ∀ As Ω R F0, Pre As Ω R → RTX F0 R E →
      Takes (cxOf (L2.CX P w) P w K mg base N qual (defScope st) f cdv A outer s H E) (WXE E) →
      BodX (cxOf (L2.CX P w) P w K mg base N qual (defScope st) f cdv A outer s H E) (defBody st) (As.map some ++ List.replicate (N.length - As.length) none) Ω F0) : FnOk P w K mg base (L2.CX P w) (k + 1) f fd ps (mkSpX Pre) := by
  refine F.okX S (fun vs H Q E h => ?_) (fun cdv A outer s H vs Q E hr h => ?_)
  · obtain ⟨F, Ω, As, R, hp, ha, _⟩ := h
    rw [ha.len]; exact hl _ _ _ hp
  · obtain ⟨F0, Ω, As, R, hp, ha, hh, hq⟩ := h
    obtain ⟨t, h1, h2⟩ := hb cdv A outer s H E hr As Ω R F0 hp (fun F c d H Ω e hh r => hq F c d H Ω e hh r) (takes_of rfl rfl rfl rfl)
    exact ⟨t, h1, h2 _ _ _ ⟨F0, Same.refl F0, start_env ha, hh⟩⟩
/-- what never raises may stand where something may be let out -/
theorem FnOk.up {k : Nat} {f : Addr} {fd : FuncData} {ps : List Str} {sp : Sp} (F : FnOk P w K mg base CX0 k f fd ps sp) : FnOk P w K mg base (L2.CX P w) k f fd ps sp :=
  ⟨F.len, fun A outer s H args us vs Q E hr he hb hv hs => codeAny_mono (F.run A outer s H args us vs Q E hr he hb hv hs) fun r s' q => by
    cases r with
    | error e => exact False.elim q
    | ok fl => cases fl <;> exact q⟩
theorem FnOk.or {k : Nat} {f : Addr} {fd : FuncData} {ps : List Str} {Pre : PreT} {PreX : PreXX} (F : FnOk P w K mg base CX0 k f fd ps (mkSp Pre)) (G : FnOk P w K mg base (L2.CX P w) k f fd ps (mkSpX PreX)) : FnOk P w K mg base (L2.CX P w) k f fd ps (sp2 Pre PreX) :=
  ⟨fun vs H Q E h => h.elim (F.len vs H Q E) (G.len vs H Q E), fun A outer s H args us vs Q E hr he hb hv hs => hs.elim (fun h => (FnOk.up F).run A outer s H args us vs Q E hr he hb hv h) (fun h => G.run A outer s H args us vs Q E hr he hb hv h)⟩
/-- a def that may be called, and may raise -/
structure CalX (P : Program) (w : World) (K : PySem.W.Frag) (mg : Str → Option Value) (base : Heap) (k : Nat) (x : Str) (ps : List Str) (sp : Sp) : Prop where
  ex : ∃ f fd, FnOk P w K mg base (L2.CX P w) k f fd ps sp ∧ mg x = some (.ref f) ∧ PySem.W.keepIn K (.ref f) = true ∧ Binds K fd ps []
end
/-! ### an own exception -/
structure ExcC (K : PySem.W.Frag) (mg : Str → Option Value) (x : Str) (C : Addr) : Prop where
  q : PySem.W.excIn K C aeBase "ArithmeticError.__new__" = true
  k : PySem.W.keepIn K (.ref C) = true
  s : PySem.W.subIn K (.ref C) (.type "BaseException") = some true
  t : PySem.W.typeIn K (.ref C) = some (.type "type")
  g : mg x = some (.ref C)
section
variable {X : Cx} {C : Addr} {x : Str} {p pos : Pos} {W : WX}
/-- raise X() -/
def tRz (c : Value) (W : WX) : TS := fun _ σ H => W c none σ H
/-- f(..), f may raise -/
theorem pe_calX {k : Nat} {f : Str} {ps : List Str} {sp : Sp} {e : Expr} {es : List Expr} {t : TA} (c : CalX X.prog X.w X.K X.mg X.base k f ps sp) (hr : Room k X.A) (hg : Gl X f) (tk : Takes X W) (ha : PA X (e :: es) t)
    (hdb : (f == ("__debug__" : Str)) = false := by decide) (he : starEach (e :: es) X.env = (false, eval e X.env) :: starEach es X.env := by rfl) (hpl : (backTo pos (starEach es X.env)).any (·.1) = false := by rfl) :
    PE X (.Call (.Name f p) (e :: es) [] pos) (tCallS sp (WE W) t) := by
  obtain ⟨g, fd, F, hm, hk, hb⟩ := c.ex
  exact pe_callS F hr hg hm hk hb (passAt tk) ha hdb he hpl
end
section
variable {T : TC} {Γ Γ' : List (Option VA)} {Ω Ω' Ω1 Ω2 : List OA} {A : VA} {As : List VA} {te : TE} {t : TA} {D : Ends} {F0 : Hp} {W : WX} {C : Addr} {Pre : PreT} {PreX : PreXX} {E : XK} {R : Hp → Value → Option Addr → List OA → Prop}
/-- the wish W takes an exception of the class at C at such slots in such a state -/
def WTk (W : WX) (C : Addr) (F0 : Hp) (Γ : List (Option VA)) (Ω : List OA) : Prop := ∀ d σ H, NX F0 Γ Ω σ H → W (.ref C) d σ H
/-- an expression that raises -/
def XR (te : TE) (F0 : Hp) (Γ : List (Option VA)) (Ω : List OA) : Prop := ∀ σ H, NX F0 Γ Ω σ H → ∀ Q : VK, te σ H Q
theorem xg_callS {R : Hp → V → List OA → Prop} {E : St → XK} (ha : XA t Γ Ω As Ω1) (hp : Pre As Ω1 R) : XG (tCallS (sp2 Pre PreX) E t) Γ Ω R := fun F σ H e hh Q q =>
  ha F σ H e hh _ fun F1 xs H1 e1 hh1 a1 => .inl ⟨F1, Ω1, As, R, hp, a1, hh1, fun F' v H' Ω' e' hh' r => q F' v H' Ω' (e1.trans e') hh' r⟩
theorem xe_callS {E : St → XK} {Ω' : List OA} (ha : XA t Γ Ω As Ω1) (hp : Pre As Ω1 (RV A Ω')) (he : Ω' = Ω2) : XE (tCallS (sp2 Pre PreX) E t) Γ Ω A Ω2 := he ▸ xg_callS ha hp
theorem xs_dropX (h : XR te F0 Γ Ω) : XS (tDrop te) D F0 Γ Ω := fun σ H n => h σ H n _
/-! try: .. except x: .. -/
def tTry (K : PySem.W.Frag) (c : Value) (ts : Addr → Value → Option Addr → TS) (tb : WX → TS) (Wout : WX) : TS := fun D σ H => tb (wOnly K c ts Wout D) D σ H
end
section
variable {X : Cx} {x : Str} {C : Addr} {np pos pos' : Pos} {body suite : List Stmt} {b₀ : Stmt} {tb : WX → TS} {ts : Addr → Value → Option Addr → TS}
theorem takesF : Takes X (fun _ _ _ _ => False) := fun _ _ ⟨_, _, _, _, _, _, _, _, _, _, _, _, _, _, _, _, w⟩ => w.elim
end
/-- a call's way: it raises (the class told by a number), or it returns -/
def onX {β : Type} (o : Option Nat) (s : Nat → Option β) (n : Option β) : Option β := match o with | some k => s k | none => n
end VL
namespace VL
open PySem L2
section
variable {T : TC} {Γ Γ' : List (Option VA)} {Ω Ω' Ω1 Ω2 : List OA} {A : VA} {D : Ends} {F0 : Hp} {C : Addr} {E : XK} {K : PySem.W.Frag} {c : Value} {us : Addr → Value → Option Addr → TS} {te : WX → TE} {Wo : WX} {ts : TS} {R : Hp → V → List OA → Prop}
theorem xs_nxI (h : XS ts D F0 Γ Ω) : ∀ σ H, NX F0 Γ Ω σ H → Ends.nx { D with nx := ts D } σ H := h
end
/-! a value or None, a value or a text -/
inductive EN (α : Type) where
  | ok (a : α)
  | no
inductive ES (α : Type) where
  | ok (a : α)
  | s (t : Str)
instance {α : Type} [Rp α] : Rp (EN α) := ⟨fun T F v x => match x with | .ok a => Rp.rep T F v a | .no => v = .non, fun {T F F' v a} e h => by
  cases a with
  | ok a => exact Rp.mono e h
  | no => exact h⟩
instance {α : Type} [Rp α] : Rp (ES α) := ⟨fun T F v x => match x with | .ok a => Rp.rep T F v a | .s t => v = .str t, fun {T F F' v a} e h => by
  cases a with
  | ok a => exact Rp.mono e h
  | s t => exact h⟩
def EN.get {α : Type} : EN α → Option α
  | .ok a => some a
  | .no => none
def EN.isN {α : Type} : EN α → Bool
  | .ok _ => false
  | .no => true
def ES.get {α : Type} : ES α → Option α
  | .ok a => some a
  | .s _ => none
/-- data that is neither None nor a text -/
class Tupl (α : Type) [Rp α] [Dat α] where
  n1 : ∀ a : α, PyData.eqv (Dat.dat a) .none = false
  n2 : ∀ a : α, PyData.eqv .none (Dat.dat a) = false
  s1 : ∀ (a : α) (t : Str), PyData.eqv (Dat.dat a) (.str t) = false
  s2 : ∀ (a : α) (t : Str), PyData.eqv (.str t) (Dat.dat a) = false
  nn : ∀ {T : TC} {F : Hp} {v : V} {a : α}, Rp.rep T F v a → v ≠ .non
end VL
namespace VL
open PySem L2
instance {α β : Type} [Rp α] [Rp β] [Dat α] [Dat β] : Tupl (α × β) := ⟨fun _ => rfl, fun _ => rfl, fun _ _ => rfl, fun _ _ => rfl, fun ⟨p, _, _, h, _⟩ e => by rw [h] at e; cases e⟩
instance {α β γ : Type} [Rp α] [Rp β] [Rp γ] [Dat α] [Dat β] [Dat γ] : Tupl (T3 α β γ) := ⟨fun _ => rfl, fun _ => rfl, fun _ _ => rfl, fun _ _ => rfl, fun ⟨p, _, _, _, h, _⟩ e => by rw [h] at e; cases e⟩
instance {α : Type} [Rp α] [Dat α] [Tupl α] : Dat (EN α) := ⟨fun x => match x with | .ok a => Dat.dat a | .no => .none, fun x => match x with | .ok a => Dat.ok a | .no => True, Dat.dep α, fun {T F H v a} e h => by
    cases a with
    | ok a => exact Dat.dp e h
    | no => rw [show v = V.non from h]; exact .non, fun {a} h => by
    cases a with
    | ok a => exact Dat.lay h
    | no => rfl, fun {a} => by
    cases a with
    | ok a => exact Dat.depth
    | no => exact Nat.zero_le _, fun {a b} => by
    cases a <;> cases b
    · exact Dat.eqv.trans ⟨fun h => by rw [h], fun h => EN.ok.inj h⟩
    · exact ⟨fun h => (Bool.false_ne_true ((Tupl.n1 _).symm.trans h)).elim, fun h => by cases h⟩
    · exact ⟨fun h => (Bool.false_ne_true ((Tupl.n2 _).symm.trans h)).elim, fun h => by cases h⟩
    · exact ⟨fun _ => rfl, fun _ => rfl⟩⟩
instance {α : Type} [Rp α] [Dat α] [Tupl α] : Dat (ES α) := ⟨fun x => match x with | .ok a => Dat.dat a | .s t => .str t, fun x => match x with | .ok a => Dat.ok a | .s t => Dat.ok t, Dat.dep α, fun {T F H v a} e h => by
    cases a with
    | ok a => exact Dat.dp e h
    | s t => rw [show v = V.str t from h]; exact .str _, fun {a} h => by
    cases a with
    | ok a => exact Dat.lay h
    | s t => exact h, fun {a} => by
    cases a with
    | ok a => exact Dat.depth
    | s t => exact Nat.zero_le _, fun {a b} => by
    cases a <;> cases b
    · exact Dat.eqv.trans ⟨fun h => by rw [h], fun h => ES.ok.inj h⟩
    · exact ⟨fun h => (Bool.false_ne_true ((Tupl.s1 _ _).symm.trans h)).elim, fun h => by cases h⟩
    · exact ⟨fun h => (Bool.false_ne_true ((Tupl.s2 _ _).symm.trans h)).elim, fun h => by cases h⟩
    · exact (Dat.eqv (α := Str)).trans ⟨fun h => by rw [h], fun h => ES.s.inj h⟩⟩
section
variable {T : TC} {Γ : List (Option VA)} {Ω Ω1 Ω2 : List OA} {A B : VA} {ta tb te : TE} {α : Type} [Rp α]
end
end VL
namespace VL
open PySem L2
section
variable {T : TC} {Γ : List (Option VA)} {Ω Ω0 Ω1 Ω2 : List OA} {A : VA} {As Ks : List VA} {ta te : TE}
/-- arguments, the last of which is a new thing -/
def XANw (t : TA) (Γ : List (Option VA)) (Ω : List OA) (As : List VA) (Ω2 : List OA) (o : Addr → OA) : Prop :=
  ∀ F σ H, Env F σ Γ → Holds F Ω H → ∀ Q : List V → Hp → Prop, (∀ F' vs H' q, Same F F' → Holds F' (Ω2 ++ [o q]) H' → AlA F' vs (As ++ [vr q]) → Q vs H') → t σ H Q
end
end VL

namespace VL
open PySem PySem.Spec PyProof.Rows L2
section
variable {T : TC} {Γ : List (Option VA)} {Ω Ω1 Ω2 : List OA} {ta tb : TE} {i j : Int}
end
end VL

set_option Elab.async false
set_option linter.all false
set_option maxRecDepth 100000
/-! VL46: a triple of a value, a new thing and a value. -/
namespace VL
open PySem L2
section
variable {T : TC} {Γ : List (Option VA)} {Ω Ω1 Ω2 : List OA} {A B : VA} {te t0 td tl : TE}
def RNT (T : TC) (Ω2 : List OA) (o : Addr → OA) (A B : VA) : Hp → V → List OA → Prop := fun F v Ω' => ∃ p t x w, v = .ref t ∧ SqT T.K F t [x, .ref p, w] ∧ A.P F x ∧ B.P F w ∧ Ω' = Ω2 ++ [o p]
def RNTQ (T : TC) (Ω2 : List OA) (p : Addr) (A B : VA) : Hp → V → List OA → Prop := fun F v Ω' => ∃ t x w, v = .ref t ∧ SqT T.K F t [x, .ref p, w] ∧ A.P F x ∧ B.P F w ∧ Ω' = Ω2
end
end VL

set_option Elab.async false
set_option linter.all false
set_option maxRecDepth 100000
/-! VL47: a dict by numbers; a list made longer by += ; a constant that is a tuple of pairs. -/
namespace VL
open PySem L2 PyProof.Rows
section
variable {T : TC} {α : Type} [Rp α] {F F' : Hp} {r : List (Key × V)} {l : List (Int × α)}
/-- keys that are numbers, values told -/
inductive AlK (T : TC) (F : Hp) : List (Key × V) → List (Int × α) → Prop
  | nil : AlK T F [] []
  | cons {v : V} {i : Int} {a : α} {r : List (Key × V)} {l : List (Int × α)} (h : Rp.rep T F v a) (t : AlK T F r l) : AlK T F ((Sum.inl i, v) :: r) ((i, a) :: l)
theorem AlK.mono (e : Same F F') : ∀ {r : List (Key × V)} {l : List (Int × α)}, AlK T F r l → AlK T F' r l
  | _, _, .nil => .nil
  | _, _, .cons h t => .cons (Rp.mono e h) (AlK.mono e t)
theorem AlK.len : ∀ {r : List (Key × V)} {l : List (Int × α)}, AlK T F r l → r.length = l.length
  | _, _, .nil => rfl
  | _, _, .cons _ t => by rw [List.length_cons, List.length_cons, AlK.len t]
theorem AlK.get {i : Int} {a : α} : ∀ {r : List (Key × V)} {l : List (Int × α)}, AlK T F r l → l.lookup i = some a → ∃ v, valV r (Sum.inl i : Key) = some v ∧ Rp.rep T F v a
  | _, _, .nil, e => by cases e
  | _, _, .cons (i := j) (a := b) h t, e => by
    rw [List.lookup_cons] at e
    by_cases c : i = j
    · subst c
      rw [beq_self_eq_true] at e
      cases e
      exact ⟨_, valV_pos rfl, h⟩
    · rw [show (i == j) = false from by simpa using c] at e
      obtain ⟨v, h1, h2⟩ := AlK.get t e
      exact ⟨v, (valV_neg (fun z => c (Sum.inl.inj z).symm)).trans h1, h2⟩
/-- written in its place, or at the end -/
def iput (l : List (Int × α)) (k : Int) (v : α) : List (Int × α) := if (l.any fun p => decide (p.1 = k)) = true then l.map (fun p => if p.1 = k then (p.1, v) else p) else l ++ [(k, v)]
theorem AlK.any {i : Int} : ∀ {r : List (Key × V)} {l : List (Int × α)}, AlK T F r l → (r.any fun kv => decide (kv.1 = (Sum.inl i : Key))) = (l.any fun p => decide (p.1 = i))
  | _, _, .nil => rfl
  | _, _, .cons (i := j) h t => by
    rw [List.any_cons, List.any_cons, AlK.any t]
    congr 1
    exact decide_eq_decide.mpr ⟨fun z => Sum.inl.inj z, fun z => congrArg Sum.inl z⟩
theorem AlK.sub {i : Int} {v : V} {a : α} (hv : Rp.rep T F v a) : ∀ {r : List (Key × V)} {l : List (Int × α)}, AlK T F r l → AlK T F (r.map fun kv => if kv.1 = (Sum.inl i : Key) then (kv.1, v) else kv) (l.map fun p => if p.1 = i then (p.1, a) else p)
  | _, _, .nil => .nil
  | _, _, .cons (v := w) (i := j) (a := b) h t => by
    rw [List.map_cons, List.map_cons]
    by_cases c : j = i
    · subst c
      rw [if_pos rfl, if_pos rfl]
      exact .cons hv (AlK.sub hv t)
    · rw [if_neg (fun z => c (Sum.inl.inj z)), if_neg c]
      exact .cons h (AlK.sub hv t)
theorem AlK.snoc {i : Int} {v : V} {a : α} (hv : Rp.rep T F v a) : ∀ {r : List (Key × V)} {l : List (Int × α)}, AlK T F r l → AlK T F (r ++ [(Sum.inl i, v)]) (l ++ [(i, a)])
  | _, _, .nil => .cons hv .nil
  | _, _, .cons h t => .cons h (AlK.snoc hv t)
theorem AlK.put {i : Int} {v : V} {a : α} (h : AlK T F r l) (hv : Rp.rep T F v a) : AlK T F (putK r (Sum.inl i : Key) v) (iput l i a) := by
  unfold putK iput
  rw [h.any (i := i)]
  split
  · exact h.sub hv
  · exact h.snoc hv
/-- a dict by numbers that changes -/
def intD (T : TC) {α : Type} [Rp α] (p : Addr) (l : List (Int × α)) : OA := ⟨fun F t => ∃ kvs, t p = some (.dK kvs) ∧ AlK T F kvs l, fun e ⟨kvs, h1, h2⟩ => ⟨kvs, h1, h2.mono e⟩⟩
end
section
variable {T : TC} {Γ : List (Option VA)} {Ω Ω1 Ω2 Ω3 : List OA} {A B C : VA} {ta tb te tk tv : TE} {D : Ends} {F0 : Hp} {ts : TS} {α : Type} [Rp α]
end
section
variable {T : TC} {Γ : List (Option VA)} {Ω Ω1 Ω2 : List OA} {ta tb : TE}
end
end VL

set_option Elab.async false
set_option linter.all false
set_option maxRecDepth 100000
/-! VL48: and, or with a first part that changes a thing. -/
namespace VL
open PySem L2
section
variable {T : TC} {Γ : List (Option VA)} {Ω Ω1 Ω2 : List OA} {ta tb : TE} {b c : Bool}
end
end VL

set_option Elab.async false
set_option linter.all false
set_option maxRecDepth 100000
/-! VL49: the second and the third thing of a triple; the triple without its first thing. -/
namespace VL
open PySem L2
section
variable {T : TC} {Γ : List (Option VA)} {Ω Ω1 Ω2 : List OA} {te ta tb : TE} {α β γ : Type} [Rp α] [Rp β] [Rp γ]
end
end VL

set_option Elab.async false
set_option linter.all false
set_option maxRecDepth 100000
/-! VL50: for over a list of two machines; a test whose first part is known to fail. -/
namespace VL
open PySem L2 PyProof.Rows
section
variable {T : TC} {Γ : List (Option VA)} {Ω Ω1 Ω2 : List OA} {te ta tb : TE} {t u : TT} {q1 q2 : Addr}
/-- the two things, one behind the other -/
def oneOf (q1 q2 : Addr) (b : Bool) : VA := vr (cond b q2 q1)
def tNoT : TT := fun _ _ _ => False
theorem pt_noX {X : Cx} {e : Expr} : PT X e tNoT := ⟨fun _ _ _ _ _ _ h => h.elim⟩
end
end VL

set_option Elab.async false
set_option linter.all false
set_option maxRecDepth 100000
set_option maxHeartbeats 2000000
/-! VL51: the program's own exceptions over ArithmeticError that have an __init__ of their own: C(text), its field read in a clause. -/
namespace VL
open PySem PySem.Spec PyProof.Rows L2
/-- C: the class at C, its __init__ at fI, its field f; the class above it at B0 -/
structure IxC (K : PySem.W.Frag) (C B0 fI : Addr) (f : Str) : Prop where
  ini : PySem.W.excInitIn K C aeBase "ArithmeticError.__new__" = true
  ovr : PySem.W.excOver K C aeBase = true
  hdC : PySem.W.hasDictIn K C = true
  tkr : PySem.W.takerIn K C f = some none
  iC : PySem.W.findIn K (.ref C) "__init__" = some (some (.ref fI))
  tI : PySem.W.typeIn K (.ref fI) = some (.type "function")
  sa : PySem.W.findIn K (.ref C) "__setattr__" = some (some (.builtin "object.__setattr__"))
  exC : PySem.W.subIn K (.ref C) (.type "BaseException") = some true
  tyC : PySem.W.typeIn K (.ref C) = some (.type "type")
  kC : PySem.W.keepIn K (.ref C) = true
  xf : xfB K C = true
  no : PySem.W.findIn K (.ref C) f = some none
  b1 : PySem.W.specialIn K (.ref B0) "__getattribute__" = some (some (.builtin "type.__getattribute__"))
  b2 : PySem.W.readsIn K B0 (.type "type") = true
  b3 : PySem.W.findCls K (.ref B0) (.type "type") "__init__" = some (.val (.builtin "ArithmeticError.__init__"))
  k0 : PySem.W.keepIn K (.ref B0) = true
section
variable {X : Cx} {pins : List (Addr × Obj)} {σ : L2.St} {H : Hp} {s : Shared} {a C B0 fI : Addr} {f : Str} {y : V} {u : Value} {A : Around} {EE : Value → Shared → Prop}
/-- self.f = y on one that has no dict as yet -/
theorem ix_store {Q : Unit → Shared → Prop} (T : IxC X.K C B0 fI f) (I : Inv X pins σ H s) (e : H a = some (exo a C none)) (ry : RelV y u)
    (h : ∀ dx s', H dx = none → dx ≠ a → Inv X pins σ (upd (upd H dx (exd dx [(f, y)])) a (exo a C (some dx))) s' → Q () s') : wpAny (model X.prog X.w) A (setAttr (.ref a) f u) Q EE s := by
  obtain ⟨t1, ho⟩ := exo_at I.hok e
  have hK := I.kIn
  obtain ⟨hp, gg, dd, tt, os⟩ := s
  have hi : PySem.W.InstAt hp a { cls := .ref C, dict := none, data := .fields #[.ref t1, .none, .none, .none, .bool false, .none] } C none := ⟨ho, rfl, rfl, trivial⟩
  refine PySem.W.set_plain hK hi T.sa (PySem.W.osa_openX PySem.F.store_ArithmeticError hK hi T.ovr T.tkr fun b => ?_)
  obtain ⟨cd, hc, hd'⟩ := PySem.W.any_some T.hdC
  have hlt : a < hp.objs.size := Heap.lt_size ho
  have hne : a ≠ hp.objs.size := Nat.ne_of_lt hlt
  refine wpAny_bind (wpAny_pure (wpAny_bind (PySem.W.instanceDict_exc (c2 := .none) ho (PySem.W.looks_clsIn hK hc) hd' ?_)))
  show wpAny _ _ (Builtin.ObjectAttr.storeInDict hp.objs.size (.str f tt) f u) _ _ _
  refine HandSPX.store_in_new ?_ fun h' tk' hn' hs => ?_
  · exact ⟨_, #[], 0, (Heap.get?_update_ne _ _ _ _ hne.symm).trans (Heap.get?_push_at rfl rfl), rfl, fun e he => absurd he (by simp), fun _ => rfl⟩
  have kp : ∀ b o, b ≠ a → hp.get? b = some o → h'.get? b = some o := fun b o hb q =>
    (hs.2 b (Nat.ne_of_lt (Heap.lt_size q))).trans ((Heap.get?_update_ne _ _ _ _ hb).trans (Heap.get?_push_of_some _ q))
  have hx' : h'.get? a = some { cls := .ref C, dict := some hp.objs.size, data := .fields #[.ref t1, .none, .none, .none, .bool false, .none] } :=
    (hs.2 a hne).trans (Heap.get?_update_self _ (Heap.get?_push_of_some _ ho) rfl)
  have dn : H hp.objs.size = none := I.hok.fresh (Nat.le_refl _)
  have da : hp.objs.size ≠ a := hne.symm
  have nd : ∀ {b : Addr} {o : Obj}, hp.get? b = some o → b ≠ hp.objs.size := fun {b o} q => Nat.ne_of_lt (Heap.lt_size q)
  have na : ∀ {b : Addr}, H b = none → b ≠ a := fun {b} n z => by
    subst z
    cases n.symm.trans e
  have un : Un X.fs [] H (upd (upd H hp.objs.size (exd hp.objs.size [(f, y)])) a (exo a C (some hp.objs.size))) hp h' :=
    { keep := fun b o q n _ _ => kp b o (na n) q, slot := fun b o q n _ _ => ⟨o.slots, kp b o (na n) q⟩,
      free := fun b o q n _ => by rw [upd_ne (na n), upd_ne (nd q), n],
      there := fun b o q _ => (Decidable.em (b = a)).elim (fun z => ⟨_, z ▸ hx'⟩) (fun z => ⟨o, kp b o z q⟩),
      tups := fun b xs q => by rw [upd_ne (at_ne e q exo_tup), upd_ne (ne_of_none q dn), q],
      frzs := fun b o v q => by rw [upd_ne (at_ne e q exo_frz), upd_ne (ne_of_none q dn), q],
      tbls := fun b ps q => ⟨#[], by rw [upd_ne (at_ne e q exo_tbl), upd_ne (ne_of_none q dn), q, Array.append_empty]⟩ }
  refine h _ _ dn da (I.un (t' := tk') un fun b o q => ?_)
  by_cases hb : b = a
  · subst hb
    cases upd_same.symm.trans q
    exact exo_ok hx'
  rw [upd_ne hb] at q
  by_cases hd : b = hp.objs.size
  · subst hd
    cases upd_same.symm.trans q
    exact exd_ok hn' (relO_put (fs := []) ry fun _ => True.intro)
  rw [upd_ne hd] at q
  refine (I.hok b o q).stay (fun c v hc z => kp c v (hc.elim (fun z => z ▸ hb) fun z => at_ne e z exo_own) z) (fun c hc => ?_) fun c xs hc => ?_
  · rw [upd_ne (at_ne e hc exo_own), upd_ne (ne_of_none hc dn), hc]
  · rw [upd_ne (at_ne e hc exo_tup), upd_ne (ne_of_none hc dn), hc]
/-- the class above: its __init__, of which nothing is told -/
theorem ix_above {us : List Value} {Q : Value → Shared → Prop} (T : IxC X.K C B0 fI f) (I : Inv X pins σ H s) (e : H a = some (exo a C none)) (hl : us.length ≤ sizeLine) (h : ∀ s', Inv X pins σ H s' → Q .none s') :
    wpAny (model X.prog X.w) A (call (.builtin "ArithmeticError.__init__") (.ref a :: us)) Q EE s := by
  obtain ⟨t1, ho⟩ := exo_at I.hok e
  have hK := I.kIn
  obtain ⟨hp, gg, dd, tt, os⟩ := s
  obtain ⟨nm, N', qn, bs, bm, hdct, sn, sub, ab, col, dd', k0, k1, k2, k3, k5, hC, hT⟩ := PySem.W.excInit_of hK T.ini
  refine wpAny_call (HandSPX.init_base PySem.F.excBase_ArithmeticError hT hC ho hl fun h' t2 kp hx => h _ ?_)
  have J := I.write (t' := tt) (x := a) (e := a) (o := exo a C none) (by rw [e]; exact True.intro) (.inl rfl) kp ⟨_, hx⟩ (exo_ok hx)
  rw [show upd H a (exo a C none) = H from funext fun b => (Decidable.em (b = a)).elim (fun z => by rw [z, upd_same, e]) fun z => upd_ne z] at J
  exact J
end
section
variable {X : Cx} {C B0 fI : Addr} {f xb : Str} {o e : Expr} {es : List Expr} {to te : TE} {ta : TA} {p p' p1 p2 pos : Pos}
/-- B.__init__(self, ..) -/
def tIxI (ta : TA) (C : Addr) : TE := fun σ H Q => ta σ H fun vs H1 => ∃ (a : Addr) (ws : List V), vs = .ref a :: ws ∧ ws.length ≤ 1000 ∧ H1 a = some (exo a C none) ∧ Q .non H1
theorem pe_ixI {pl : Sem Bool} (T : IxC X.K C B0 fI f) (hg : Gl X xb) (hm : X.mg xb = some (.ref B0)) (ha : PA X (e :: es) ta) (hdb : (xb == ("__debug__" : Str)) = false := by decide)
    (hc : eval (.Call (.Attribute (.Name xb p1) "__init__" p2) (e :: es) [] pos) X.env = (do
      let ov ← eval (.Name xb p1) X.env
      standAt p2.atName
      let (fv, first) ← holding [ov] (getMethod ov "__init__" pl)
      callWith pos fv first (backTo pos (starEach (e :: es) X.env)) (backToKw pos (keywordEach [] X.env))) := by rfl)
    (he : starEach (e :: es) X.env = (false, eval e X.env) :: starEach es X.env := by rfl) (hpl : (backTo pos (starEach es X.env)).any (·.1) = false := by rfl) :
    PE X (.Call (.Attribute (.Name xb p1) "__init__" p2) (e :: es) [] pos) (tIxI ta C) := by
  refine ⟨fun pins s σ H Q I h => PySem.W.methodCall_KW (ld_glob I hg hm ?_ hdb) hc⟩
  refine PySem.W.method_cls I.kIn T.b1 (PySem.W.cls_value I.kIn T.b2 T.b3 (by decide +kernel) ?_)
  show wpAny _ _ (callWith pos (Value.builtin "ArithmeticError.__init__") [] (backTo pos (starEach (e :: es) X.env)) []) _ _ _
  refine PyProof.Rows.callWith_method1 (thn (ha.run pos pins _ σ H _ (I.tok _) h) fun us s1 hq => ?_) he hpl
  obtain ⟨vs, H1, I1, r1, a, ws, ev, hl, ea, q⟩ := hq
  subst ev
  cases r1 with
  | @cons _ v0 _ vr ra rw' =>
    obtain rfl : v0 = Value.ref a := ra
    refine ix_above T I1 ea ?_ fun s' J => ⟨.non, H1, J, rfl, q⟩
    rw [← Paired.length rw', sizeLine_eq]
    omega
/-- self.f = e -/
def tIxS (f : Str) (C : Addr) (to te : TE) : TS := fun D σ H => te σ H fun y H1 => to σ H1 fun x H2 => ∃ a : Addr, x = .ref a ∧ H2 a = some (exo a C none) ∧ ∀ dx, H2 dx = none → dx ≠ a → D.nx σ (upd (upd H2 dx (exd dx [(f, y)])) a (exo a C (some dx)))
theorem ps_ixS (T : IxC X.K C B0 fI f) (ho : PE X o to) (he : PE X e te) (hs : swapsWith e (some (.Attribute o f p')) pos.line X.env = pure false := by rfl) : PS X (.Assign [.Attribute o f p'] e pos) (tIxS f C to te) := by
  refine ⟨fun pins s σ H D I h => plainObj_wpAny_Assign_Attribute (thn (he.run pins s σ H _ I h) fun v s1 hv => ?_) hs⟩
  obtain ⟨y, H1, I1, r1, q1⟩ := hv
  refine thn (ho.run pins s1 σ H1 _ I1 q1) fun u s2 hu => ?_
  obtain ⟨x, H2, I2, r2, a, ex, ea, q⟩ := hu
  subst ex
  obtain rfl : u = Value.ref a := r2
  exact ix_store T I2 ea r1 fun dx s' n ne J => ⟨σ, _, J, q dx n ne⟩
/-- what __init__ makes -/
def spIx (C : Addr) (f : Str) : Sp := fun vs H Q _ => ∃ (a : Addr) (x : Str), vs = [.ref a, .str x] ∧ x.length ≤ 100 ∧ H a = some (exo a C none) ∧ ∀ H1 d, Same H H1 → H d = none → d ≠ a → Q .non (upd (upd H1 d (exd d [(f, .str x)])) a (exo a C (some d)))
/-- C(e) -/
def tMkX (C : Addr) (f : Str) (ta : TA) : L2.St → Hp → XK → Prop := fun σ H Q => ta σ H fun vs H1 => ∃ x : Str, vs = [.str x] ∧ x.length ≤ 100 ∧ ∀ H3 d, Same H1 H3 → H1 d = none → H3 d = some (.xd [(f, .str x)]) → Q (.ref C) (some d) H3
theorem pmk_ix {x : Str} {k : Nat} {fd : FuncData} (T : IxC X.K C B0 fI f) (F1 : FnOk X.prog X.w X.K X.mg X.base CX0 k fI fd ["self", f] (spIx C f)) (hr : Room (k + 1) X.A) (hb : Binds X.K fd ["self", f] []) (hg : Gl X x) (hm : X.mg x = some (.ref C)) (ha : PA X [e] ta)
    (hdb : (x == ("__debug__" : Str)) = false := by decide) (hst : starEach [e] X.env = (false, eval e X.env) :: starEach [] X.env := by rfl) : PMk X (.Call (.Name x p) [e] [] pos) (tMkX C f ta) := by
  intro pins s σ H Q I h
  refine wpAny_Call_Name_kw (ld_glob I hg hm ?_ hdb)
  refine PySem.W.callWith_K (h₀ := X.base) I.ok.mod.kin T.kC (thn (ha.run pos pins s σ H _ I h) fun us s1 hq => ?_) hst (by rfl)
  obtain ⟨vs, H1, I1, r1, y, ev, hy, q⟩ := hq
  subst ev
  refine ⟨I1.kIn, ?_⟩
  obtain ⟨v, rfl, rv⟩ : ∃ v, us = [v] ∧ RelV (.str y) v := by
    cases r1 with
    | cons h t => cases t; exact ⟨_, rfl, h⟩
  show wpAny _ _ (call (.ref C) [v]) _ _ _
  obtain ⟨hp, gs, dr, tk, os⟩ := s1
  obtain ⟨nm, N', qn, bs, bm, hdct, sn, sub, ab, col, dd', k0, k1, k2, k3, k5, hC, hT⟩ := PySem.W.excInit_of I1.kIn T.ini
  have hsz : hp.objs.size ≤ hp.objs.size + 1 := Nat.le_succ _
  have hn : H1 (hp.objs.size + 1) = none := I1.hok.fresh hsz
  have kp : ∀ b o, hp.get? b = some o → ((hp.push (PySem.W.kdv_tup [v])).push (HandSPX.excO C hp.objs.size)).get? b = some o := fun b o q => Heap.get?_push_of_some _ (Heap.get?_push_of_some _ q)
  have I2 := I1.laid (t' := tk) (a := hp.objs.size + 1) (o := exo (hp.objs.size + 1) C none) (h' := (hp.push (PySem.W.kdv_tup [v])).push (HandSPX.excO C hp.objs.size)) kp hsz (exo_ok (t1 := hp.objs.size) (by heap_get))
  have hl : (Value.ref (hp.objs.size + 1) :: [v]).length = (["self", f] : List Str).length := rfl
  refine wpAny_call (HandSPX.call_own PySem.F.excBase_ArithmeticError hT hC (PySem.W.looks_findIn I1.kIn T.iC) (fun self => PySem.W.bind_fn I1.kIn self T.tI) (by rw [sizeLine_eq]; exact Nat.le_of_ble_eq_true rfl)
    (codeAny_mono (F1.run _ X.stack _ _ ⟨Value.ref (hp.objs.size + 1) :: [v], []⟩ (Value.ref (hp.objs.size + 1) :: [v]) _ (fun w2 H2 => w2 = .non ∧ ∃ d, H1 d = none ∧ H2 (hp.objs.size + 1) = some (exo (hp.objs.size + 1) C (some d)) ∧ H2 d = some (exd d [(f, .str y)]) ∧ ∃ H3, Same (upd H1 (hp.objs.size + 1) (exo (hp.objs.size + 1) C none)) H3 ∧ H2 = upd (upd H3 d (exd d [(f, .str y)])) (hp.objs.size + 1) (exo (hp.objs.size + 1) C (some d))) (fun _ _ _ => False) (hr.make C [v] []) (I2.env0.make C [v] []) (hb _ _ I2.kIn hl) (.cons (show RelV (.ref (hp.objs.size + 1)) (.ref (hp.objs.size + 1)) from rfl) (.cons rv .nil)) ?_) fun r s' hq' => ?_))
  · refine ⟨hp.objs.size + 1, y, rfl, hy, upd_same, fun H3 d sm dn da => ⟨rfl, d, ?_, upd_same, ?_, H3, sm, rfl⟩⟩
    · rwa [upd_ne da] at dn
    · rw [upd_ne da, upd_same]
  cases r with
  | error er => exact hq'.elim
  | ok fl =>
    cases fl with
    | ret u =>
      obtain ⟨v2, H2, os2, bare2, un2, hok2, rv2, ev, d, hd1, ea, ed, H3, sm, eH⟩ := hq'
      subst ev
      obtain ⟨h2', g2, d2, t2, os'⟩ := s'
      refine ⟨rv2, mk_end (raises_own T.exC T.tyC) I1 hsz kp un2 hok2 os2 bare2 ea ed hd1 (q _ _ (fun b o ho => ?_) hd1 upd_same)⟩
      have hb : b ≠ hp.objs.size + 1 := ne_of_none ho hn
      have hb2 : b ≠ d := ne_of_none ho hd1
      rw [upd_ne hb2, del_ne hb, eH, upd_ne hb, upd_ne hb2]
      exact sm _ _ (by rw [upd_ne hb]; exact ho)
    | next => exact hq'.elim
    | brk => exact hq'.elim
    | cont => exact hq'.elim
end
end VL

set_option Elab.async false
set_option linter.all false
set_option maxRecDepth 100000
set_option maxHeartbeats 2000000
/-! VL52: several except clauses, with and without a name; defs that raise exceptions with a field. -/
namespace VL
open PySem PySem.Spec PyProof.Rows L2
/-- the ends of a suite whose name stands in slot i -/
def Ends.un (D : Ends) : Option Nat → Ends
  | none => D
  | some i => { nx := fun σ' H' => D.nx (σ'.set i none) H', rt := D.rt, bk := fun σ' H' => D.bk (σ'.set i none) H', ct := fun σ' H' => D.ct (σ'.set i none) H' }
def sSet (σ : L2.St) (a : Addr) : Option Nat → L2.St
  | none => σ
  | some i => σ.set i (some (.ref a))
/-- a clause: its class, its name's slot, its suite -/
structure Cla where
  c : Value
  o : Option Nat
  ts : Addr → Value → Option Addr → TS
def wCl (K : PySem.W.Frag) (Wo : WX) (D : Ends) : List Cla → WX
  | [] => Wo
  | k :: r => fun cls d σ H => ∃ b, PySem.W.exmOne K cls k.c = some b ∧ (b = true → ∀ a, H a = none → k.ts a cls d (Ends.un D k.o) (sSet σ a k.o) H) ∧ (b = false → wCl K Wo D r cls d σ H)
/-- the clauses' derivations -/
inductive ClOk (X : Cx) : List ExceptHandler → List Cla → Prop
  | nil : ClOk X [] []
  | plain {x : Str} {k : Value} {ts : Addr → Value → Option Addr → TS} {st : Stmt} {su : List Stmt} {np pp : Pos} {hs : List ExceptHandler} {l : List Cla} (hk : Names X x k)
      (hb : ∀ (a : Addr) (oe : Obj) (cls : Value) (d : Option Addr) (pn : List (Addr × Obj)), Zc cls d oe → (∃ vs, oe.data = .fields vs) → PSs (X.suite a ((a, oe) :: pn)) (st :: su) (ts a cls d)) (r : ClOk X hs l) :
      ClOk X (.ExceptHandler (some (.Name x np)) none (st :: su) pp :: hs) (⟨k, none, ts⟩ :: l)
  | named {x n : Str} {k : Value} {i : Nat} {ts : Addr → Value → Option Addr → TS} {st : Stmt} {su : List Stmt} {np pp : Pos} {hs : List ExceptHandler} {l : List Cla} (hN : X.N.Nodup) (hi : X.N[i]? = some n) (hl : X.env.kindOf n = some .local) (hk : Names X x k)
      (hb : ∀ (a : Addr) (oe : Obj) (cls : Value) (d : Option Addr) (pn : List (Addr × Obj)), Zc cls d oe → (∃ vs, oe.data = .fields vs) → PSs (X.suite a ((a, oe) :: pn)) (st :: su) (ts a cls d)) (r : ClOk X hs l) :
      ClOk X (.ExceptHandler (some (.Name x np)) (some n) (st :: su) pp :: hs) (⟨k, some i, ts⟩ :: l)
section
variable {X : Cx} {body : List Stmt} {g0 : ExceptHandler} {gs : List ExceptHandler} {l : List Cla} {pos : Pos} {tb : WX → TS} {Wo : WX}
theorem ps_tryC (estk : X.stack = X.env :: X.outer) (efr : X.env.frame = some X.env.locals) (tko : Takes X Wo)
    (dbody : ∀ (W : WX) (pn : List (Addr × Obj)) (xe : Value → Shared → Prop), Takes (X.tr pn xe) W → PassesOwn (model X.prog X.w) X.A X.env xe → PSs (X.tr pn xe) body (tb W))
    (dcl : ClOk X (g0 :: gs) l) : PS X (.Try body (g0 :: gs) [] [] pos) (fun D σ H => tb (wCl X.K Wo D l) D σ H) := by
  refine ⟨fun pins s σ H D I hgo => wpAny_Try_except ?_⟩
  have okX := I.ok
  have hfr : X.A.frames = some (X.env :: X.outer) := estk ▸ okX.frames
  let cat : Value → Shared → Prop := fun e s₁ => wpAny (model X.prog X.w) X.A (noteFrame e X.env) (fun _ s₂ => wpAny (model X.prog X.w) X.A (setFlight e none) (fun _ s₃ => wpAny (model X.prog X.w) X.A (handleBy e X.env (g0 :: gs)) (SP X pins D) X.xe s₃) X.xe s₂) X.xe s₁
  refine wpAny_mono ((dbody (wCl X.K Wo D l) (X.pn ++ pins) cat (fun u s' xx => ?caught) PassesOwn.looking).run [] s σ H D (I.toTry _) hgo) (fun fl s1 hsp => ?calm) fun _ _ he => he
  case calm =>
    cases fl with
    | next => obtain ⟨σ', H', J', q⟩ := hsp; exact wpAny_execs_nil ⟨σ', H', J'.ofTry okX, q⟩
    | brk => obtain ⟨σ', H', J', q⟩ := hsp; exact ⟨σ', H', J'.ofTry okX, q⟩
    | cont => obtain ⟨σ', H', J', q⟩ := hsp; exact ⟨σ', H', J'.ofTry okX, q⟩
    | ret u => obtain ⟨v, σ', H', J', rv, q⟩ := hsp; exact ⟨v, σ', H', J'.ofTry okX, rv, q⟩
  obtain ⟨a, B, sI, pins', σ', H', cls, d, rfl, J', nb, up, sky, na, os, ag, wi⟩ := xx
  have J : Inv X pins σ' H' sI := J'.ofTry okX
  have skyE : Sky B (X.env :: X.outer) a (Zc cls d) X.env.locals s'.heap := estk ▸ sky
  show wpAny (model X.prog X.w) X.A (noteFrame (.ref a) X.env) _ _ _
  refine Sky.land Zc.steady hfr efr skyE fun hA flA upA => ?_
  have JA : Inv X pins σ' H' { s' with heap := hA } := J.landed nb flA.1 (up.trans upA) os ag
  obtain ⟨oA, vsA, geA, zcA, dtA⟩ := flA.there
  have out : a ∉ frs (X.env :: X.outer) := fun hm => by
    obtain ⟨_, o', e', hnf⟩ := flA.2.2.1.mem hm
    rw [geA] at e'
    exact hnf vsA (Option.some.inj e' ▸ dtA)
  have aL : a ≠ X.env.locals := fun z => out (List.mem_filterMap.mpr ⟨X.env, .head _, by rw [efr, z]⟩)
  have aF : a ∉ X.fs := fun hm => by
    obtain ⟨en, hen, q⟩ := List.mem_filterMap.mp hm
    exact out (List.mem_filterMap.mpr ⟨en, .tail _ hen, q⟩)
  have SA := JA.suite geA dtA na aL aF
  have LT : PySem.W.Looks (model X.prog X.w) hA (typeOf (.ref a)) cls := fun _ _ _ _ k q => wpAny_typeOf_ref (k _ _ geA) (zcA.1.symm ▸ q)
  suffices go : ∀ {hs : List ExceptHandler} {l' : List Cla}, ClOk X hs l' → wCl X.K Wo D l' cls d σ' H' → wpAny (model X.prog X.w) X.A (handleBy (.ref a) X.env hs) (SP X pins D) X.xe { s' with heap := hA } from go dcl wi
  intro hs l' hk
  induction hk with
  | nil =>
    intro w
    refine wpAny_handleBy_nil ?_
    obtain ⟨_, _, _, oe, vs, Tb, oT, ts', he, _, hd, h1, _⟩ := id flA
    unfold PySem.passOn
    refine wpAny_bind (wpAny_field he hd h1 ?_)
    rw [if_neg (show ¬ ((Value.ref Tb == Value.none) = true) from by simp)]
    have fin : wpAny (model X.prog X.w) X.A (setFlight (.ref a) X.env.frame) (fun _ s4 => wpAny (model X.prog X.w) X.A (throw (.ref a) : Sem Flow) (SP X pins D) X.xe s4) X.xe { s' with heap := hA } :=
      efr ▸ HandSPX.setFlight_upZ flA fun hB fB upB => wpAny_throw (tko _ _ ⟨a, B, sI, pins, σ', H', cls, d, rfl, J, nb, (up.trans upA).trans upB, .inr (.inr (estk.symm ▸ fB)), na, os, ag, w⟩)
    first
      | exact wpAny_bind (wpAny_pure (wpAny_bind fin))
      | exact wpAny_bind fin
  | @plain x c ts st su np pp hs2 l2 hc hb r ih =>
    intro ⟨b, eb, yes, no⟩
    refine wpAny_handleBy_cons (codeAny_handlers_test ?_) fun q => nomatch q
    have test : ∀ {Q E : Value → Shared → Prop}, Q c { s' with heap := hA } → wpAny (model X.prog X.w) (X.A.mark (some (.ref a))) (eval (.Name x np) X.env) Q E { s' with heap := hA } := fun q =>
      hc.2.2.elim (fun hm => ld_glob (X := X.suite a ((a, oA) :: (X.pn ++ pins))) SA hc.1 hm q hc.2.1) fun z => ld_blt (X := X.suite a ((a, oA) :: (X.pn ++ pins))) SA hc.1 z.1 z.2.1 q z.2.2 hc.2.1
    refine test ((PySem.W.exm_one (M := model X.prog X.w) JA.kIn LT eb).here ?_)
    cases b with
    | false => exact ih (no rfl)
    | true =>
      refine codeAny_handlers_suite (HandSPX.lands_againZ flA fun hB fB upB => ?_)
      have JB : Inv X pins σ' H' { s' with heap := hB } := J.landed nb fB.1 ((up.trans upA).trans upB) os ag
      obtain ⟨oB, vsB, geB, zcB, dtB⟩ := fB.there
      have SB := JB.suite geB dtB na aL aF
      refine wpAny_mono ((hb a oB cls d (X.pn ++ pins) zcB ⟨_, dtB⟩).run [] _ _ H' _ SB (yes rfl a na)) (fun fl s6 hsp => ?_) fun _ _ z => z.elim
      cases fl with
      | next => obtain ⟨σ6, H6, S6, q6⟩ := hsp; exact ⟨_, _, S6.unsuite okX, q6⟩
      | brk => obtain ⟨σ6, H6, S6, q6⟩ := hsp; exact ⟨_, _, S6.unsuite okX, q6⟩
      | cont => obtain ⟨σ6, H6, S6, q6⟩ := hsp; exact ⟨_, _, S6.unsuite okX, q6⟩
      | ret u => obtain ⟨v6, σ6, H6, S6, r6, q6⟩ := hsp; exact ⟨_, _, _, S6.unsuite okX, r6, q6⟩
  | @named x n c i ts st su np pp hs2 l2 hN hi hl hc hb r ih =>
    intro ⟨b, eb, yes, no⟩
    refine wpAny_handleBy_cons (codeAny_handlers_test ?_) fun q => nomatch q
    have test : ∀ {Q E : Value → Shared → Prop}, Q c { s' with heap := hA } → wpAny (model X.prog X.w) (X.A.mark (some (.ref a))) (eval (.Name x np) X.env) Q E { s' with heap := hA } := fun q =>
      hc.2.2.elim (fun hm => ld_glob (X := X.suite a ((a, oA) :: (X.pn ++ pins))) SA hc.1 hm q hc.2.1) fun z => ld_blt (X := X.suite a ((a, oA) :: (X.pn ++ pins))) SA hc.1 z.1 z.2.1 q z.2.2 hc.2.1
    refine test ((PySem.W.exm_one (M := model X.prog X.w) JA.kIn LT eb).here ?_)
    cases b with
    | false => exact ih (no rfl)
    | true =>
      refine codeAny_handlers_suite_as (HandSPX.lands_againZ flA fun hB fB upB => ?_)
      have JB : Inv X pins σ' H' { s' with heap := hB } := J.landed nb fB.1 ((up.trans upA).trans upB) os ag
      obtain ⟨oB, vsB, geB, zcB, dtB⟩ := fB.there
      have SB := JB.suite geB dtB na aL aF
      refine store_ok (X := X.suite a ((a, oB) :: (X.pn ++ pins))) (v := .ref a) SB hN hi (Or.inl hl) rfl (fun s5 S5 => ?_) (.inr hl)
      refine wpAny_mono ((hb a oB cls d (X.pn ++ pins) zcB ⟨_, dtB⟩).run [] s5 _ H' _ S5 (yes rfl a na)) (fun fl s6 hsp => ?_) fun _ _ z => z.elim
      have away : ∀ {σ6 : L2.St} {H6 : Hp} {Q : Shared → Prop}, Inv (X.suite a ((a, oB) :: (X.pn ++ pins))) [] σ6 H6 s6 → (∀ s7, Inv X pins (σ6.set i none) H6 s7 → Q s7) →
          wpAny (model X.prog X.w) X.A (do bindName X.env n .none; unbindBehindTheSuite X.env n pp) (fun _ s7 => Q s7) X.xe s6 := fun S6 hq => gone_ok (S6.unsuite okX) hN hi hl hq
      cases fl with
      | next => obtain ⟨σ6, H6, S6, q6⟩ := hsp; exact away S6 fun s7 J7 => ⟨_, _, J7, q6⟩
      | brk => obtain ⟨σ6, H6, S6, q6⟩ := hsp; exact away S6 fun s7 J7 => ⟨_, _, J7, q6⟩
      | cont => obtain ⟨σ6, H6, S6, q6⟩ := hsp; exact away S6 fun s7 J7 => ⟨_, _, J7, q6⟩
      | ret u => obtain ⟨v6, σ6, H6, S6, r6, q6⟩ := hsp; exact away S6 fun s7 J7 => ⟨_, _, _, J7, r6, q6⟩
end
end VL

set_option Elab.async false
set_option linter.all false
set_option maxRecDepth 100000
set_option maxHeartbeats 2000000
/-! VL53: which exception is raised, with its field's text; f-strings of texts; an exception's __init__. -/
namespace VL
open PySem PySem.Spec PyProof.Rows L2
/-- an exception: the class's number, and the field with its text -/
inductive XC where
  | z (k : Nat)
  | f (k : Nat) (fl x : Str)
def XC.k : XC → Nat
  | .z k => k
  | .f k _ _ => k
def RCf (T : TC) (r : XC) (F : Hp) (c : Value) (d : Option Addr) : Prop := c = .ref (T.C (300 + r.k)) ∧ match r with | .z _ => True | .f _ fl x => ∃ a, d = some a ∧ F a = some (.xd [(fl, .str x)])
theorem RCf.mono {T : TC} {r : XC} {F F' : Hp} {c : Value} {d : Option Addr} (e : Same F F') (h : RCf T r F c d) : RCf T r F' c d := by
  cases r with
  | z k => exact h
  | f k fl x => obtain ⟨h1, a, h2, h3⟩ := h; exact ⟨h1, a, h2, e _ _ h3⟩
abbrev RQ (T : TC) (r : XC) (Ω2 : List OA) : Hp → Value → Option Addr → List OA → Prop := fun F c d Ω' => RCf T r F c d ∧ Ω' = Ω2
/-- the wish W takes such an exception at such slots in such a state -/
def WTC (W : WX) (T : TC) (r : XC) (F0 : Hp) (Γ : List (Option VA)) (Ω : List OA) : Prop := ∀ F c d σ H, Same F0 F → Env F σ Γ → Holds F Ω H → RCf T r F c d → W c d σ H
section
variable {T : TC} {Γ Γ' : List (Option VA)} {Ω Ω' Ω1 Ω2 : List OA} {A : VA} {As : List VA} {te : TE} {t ta : TA} {D : Ends} {F0 F1 : Hp} {W Wo : WX} {Pre : PreT} {PreX : PreXX} {E : XK} {r : XC} {K : PySem.W.Frag} {l : List Cla}
theorem WTC.up (e : Same F0 F1) (h : WTC W T r F0 Γ Ω) : WTC W T r F1 Γ Ω := fun F c d σ H f => h F c d σ H (e.trans f)
theorem wtc_EL {L : List OA} (q : RTX F0 (RQ T r Ω) E) : WTC (WXE E) T r F0 Γ (stt Ω [] L) := fun F c d σ H f _ hh hr => q F c d H _ f hh.all ⟨hr, List.append_nil _⟩
theorem xr_callC (ha : XA t Γ Ω As Ω1) (hp : PreX As Ω1 (RQ T r Ω1)) (hw : WTC W T r F0 Γ Ω1) : XR (tCallS (sp2 Pre PreX) (WE W) t) F0 Γ Ω := fun σ H ⟨F, f0, e, hh⟩ Q =>
  ha F σ H e hh _ fun F1 vs H1 e1 hh1 a1 => .inr ⟨F1, Ω1, As, _, hp, a1, hh1, fun F' c d H' Ω' e' hh' ⟨h1, h2⟩ => by
    subst h2
    exact hw F' c d σ H' ((f0.trans e1).trans e') (e.mono (e1.trans e')) hh' h1⟩
/-- a def that always raises -/
theorem xr_callO (ha : XA t Γ Ω As Ω1) (hp : PreX As Ω1 (RQ T r Ω1)) (hw : WTC W T r F0 Γ Ω1) : XR (tCallS (mkSpX PreX) (WE W) t) F0 Γ Ω := fun σ H ⟨F, f0, e, hh⟩ Q =>
  ha F σ H e hh _ fun F1 vs H1 e1 hh1 a1 => ⟨F1, Ω1, As, _, hp, a1, hh1, fun F' c d H' Ω' e' hh' ⟨h1, h2⟩ => by
    subst h2
    exact hw F' c d σ H' ((f0.trans e1).trans e') (e.mono (e1.trans e')) hh' h1⟩
/-! raise C(text) -/
def tRx (C : Addr) (f : Str) (ta : TA) (W : WX) : TS := fun _ σ H => tMkX C f ta σ H fun cls d H' => W cls d σ H'
theorem xs_rzX {k : Nat} {fl x : Str} (ha : XA ta Γ Ω [va T x] Ω) (hx : x.length ≤ 100) (hw : WTC W T (.f k fl x) F0 Γ Ω) : XS (tRx (T.C (300 + k)) fl ta W) D F0 Γ Ω := fun σ H ⟨F, f0, e, hh⟩ =>
  ha F σ H e hh _ fun F1 vs H1 e1 hh1 a1 => by
    obtain ⟨v, rfl, b1⟩ := alA1 a1
    have b1 : v = .str x := b1
    subst b1
    refine ⟨x, rfl, hx, fun H3 d sm dn hd => ?_⟩
    obtain ⟨hh2, e2⟩ := hh1.newF (u := .xd [(fl, .str x)]) dn
    have hh3 : Holds (upd F1 d (.xd [(fl, .str x)])) Ω H3 := hh2.grow fun b u hb => by
      by_cases z : b = d
      · subst z; rw [upd_same] at hb; rw [hd, hb]
      · rw [upd_ne z] at hb; exact sm _ _ hb
    exact hw _ _ _ _ _ ((f0.trans e1).trans e2) (e.mono (e1.trans e2)) hh3 ⟨rfl, d, rfl, upd_same⟩
/-- a caught exception with its field -/
def excA (a dd : Addr) (fl x : Str) : VA := ⟨fun F v => v = .ref a ∧ F dd = some (.xd [(fl, .str x)]), fun e h => ⟨h.1, e _ _ h.2⟩⟩
theorem cl_yesF {c : Value} {i k : Nat} {fl x : Str} {ts : Addr → Value → Option Addr → TS} (hm : PySem.W.exmOne K (.ref (T.C (300 + k))) c = some true)
    (h : ∀ a dd, XS (ts a (.ref (T.C (300 + k))) (some dd)) (Ends.un D (some i)) F0 (Γ.set i (some (excA a dd fl x))) Ω) : WTC (wCl K Wo D (⟨c, some i, ts⟩ :: l)) T (.f k fl x) F0 Γ Ω := fun F c' d σ H f e hh hr => by
  obtain ⟨h1, dd, h2, h3⟩ := hr
  subst h1 h2
  exact ⟨true, hm, fun _ a _ => h a dd _ H ⟨F, f, e.set (A := excA a dd fl x) ⟨rfl, h3⟩, hh⟩, fun z => (Bool.false_ne_true z.symm).elim⟩
/-- try: .. several clauses -/
def tTryC (K : PySem.W.Frag) (l : List Cla) (tb : WX → TS) (Wo : WX) : TS := fun D σ H => tb (wCl K Wo D l) D σ H
theorem xs_tryC {tb : WX → TS} (h : ∀ W, XS (tb W) D F0 Γ Ω) : XS (tTryC K l tb Wo) D F0 Γ Ω := fun σ H n => h _ σ H n
theorem xs_tryCX {tb : WX → TS} (h : ∀ W, WTC W T r F0 Γ' Ω' → XS (tb W) D F0 Γ Ω) (hc : WTC (wCl K Wo D l) T r F0 Γ' Ω') : XS (tTryC K l tb Wo) D F0 Γ Ω := fun σ H n => h _ hc σ H n
/-- e.f -/
theorem xe_xf {a dd C : Addr} {fl x : Str} {te : TE} (h : XE te Γ Ω (excA a dd fl x) Ω) : XE (tXf a (.ref C) (some dd) C fl te) Γ Ω (va T x) Ω := fun F σ H e hh Q q =>
  h F σ H e hh _ fun F1 v H1 Ω' e1 hh1 ⟨⟨a1, a2⟩, o1⟩ => by
    subst o1
    exact ⟨a1, rfl, dd, [(fl, .str x)], .str x, rfl, hh1.same _ _ a2, (lookup_put fl fl _ []).trans (if_pos rfl), q F1 _ H1 _ e1 hh1 ⟨rfl, rfl⟩⟩
/-! f-strings -/
theorem xe_fmtS {x : Str} (h : XE te Γ Ω (va T x) Ω1) (hx : x.length ≤ 100) : XE (tFmt te) Γ Ω (va T x) Ω1 := fun F σ H e hh Q q =>
  h F σ H e hh _ fun F1 v H1 Ω' e1 hh1 ⟨a1, o1⟩ => by
    subst o1
    have a1 : v = .str x := a1
    exact .inl ⟨x, a1, by rw [sizeLine_eq]; omega, q F1 _ H1 _ e1 hh1 ⟨rfl, rfl⟩⟩
theorem str_len (a b : Str) : (a ++ b).length = a.length + b.length := Array.size_append
theorem xe_js2 {t1 t2 : TE} {x y : Str} (h1 : XE t1 Γ Ω (va T x) Ω1) (h2 : XE t2 Γ Ω1 (va T y) Ω2) (hx : x.length ≤ 100) (hy : y.length ≤ 100) : XE (fun σ H Q => tJs [t1, t2] Str.empty σ H fun out H1 => Q (.str out) H1) Γ Ω (va T (Str.empty ++ x ++ y)) Ω2 := fun F σ H e hh Q q => by
  have l0 : (Str.empty ++ x).length ≤ 100 := by rw [str_len, show Str.empty.length = 0 from rfl]; omega
  refine h1 F σ H e hh _ fun F1 v H1 Ω' e1 hh1 ⟨a1, o1⟩ => ?_
  subst o1
  refine ⟨x, a1, by rw [sizeLine_eq]; omega, h2 F1 σ H1 (e.mono e1) hh1 _ fun F2 v2 H2 Ω' e2 hh2 ⟨a2, o2⟩ => ?_⟩
  subst o2
  refine ⟨y, a2, ?_, q F2 _ H2 _ (e1.trans e2) hh2 ⟨rfl, rfl⟩⟩
  rw [str_len, sizeLine_eq]; omega
/-! an exception's __init__: the class above is told a text, the field is stored -/
/-- at a: an exception without a dict -/
def exoA (a C : Addr) : VA := ⟨fun F v => v = .ref a ∧ F a = some (exo a C none), fun e h => ⟨h.1, e _ _ h.2⟩⟩
theorem ix_run {T : TC} {N : List Str} {te : TE} {C : Addr} {f : Str} {vs : List V} {H : Hp} {Q : VK} {E' : XK} (hN : N.length = 2) (h2 : ∀ (a : Addr) (x : Str), x.length ≤ 100 → ∃ B : VA, XE te [some (exoA a C), some (va T x)] [] B []) (hs : spIx C f vs H Q E') :
    tSeq (tDrop (tIxI (tCons (tVar 0) (tCons te tNil)) C)) (tIxS f C (tVar 0) (tVar 1)) { nx := fun _ H' => Q .non H', rt := Q } (L2.start N vs) H := by
  obtain ⟨a, x, rfl, hx, ha, q⟩ := hs
  have st : L2.start N [V.ref a, V.str x] = [some (.ref a), some (.str x)] := by
    unfold L2.start
    rw [hN]
    rfl
  rw [st]
  have e0 : Env H [some (V.ref a), some (V.str x)] [some (exoA a C), some (va T x)] := ⟨rfl, fun i A hA => by
    match i, hA with
    | 0, hA => cases hA; exact ⟨_, rfl, rfl, ha⟩
    | 1, hA => cases hA; exact ⟨_, rfl, rfl⟩⟩
  unfold tSeq tDrop tIxI
  obtain ⟨B, hB⟩ := h2 a x hx
  refine (xa_cons (xe_var (i := 0) rfl) (xa_cons hB xa_nil)) H _ H e0 (.nil (Same.refl H)) _ fun F1 ws H1 e1 hh1 a1 => ?_
  have sm : Same H H1 := e1.trans hh1.same
  obtain ⟨w, ws', rfl, aw⟩ : ∃ w ws', ws = .ref a :: w :: ws' ∧ ws'.length = 0 := by
    cases a1 with
    | cons h1 t => cases t with
      | cons h2 t => cases t; exact ⟨_, [], by rw [h1.1], rfl⟩
  refine ⟨a, w :: ws', rfl, by rw [List.length_cons, aw]; decide, sm _ _ ha, ?_⟩
  refine ⟨.str x, rfl, .ref a, rfl, a, rfl, sm _ _ ha, fun dx hd hda => q H1 dx sm ?_ hda⟩
  exact sm.free hd
end
end VL

set_option Elab.async false
set_option linter.all false
set_option maxRecDepth 100000
set_option maxHeartbeats 2000000
/-! VL54: a lambda as a value; a def that is handed one and calls it within a try. -/
namespace VL
open PySem PySem.Spec PyProof.Rows L2 LamX
/-- an object that stands as it is -/
def LamO (f : Addr) (o : Obj) : HO := .ext fun h => h.get? f = some o
theorem lamO_ok {P : Program} {w : World} {H : Hp} {h : Heap} {f : Addr} {o : Obj} (e : h.get? f = some o) : ObjOk P w H h f (LamO f o) := ⟨e, ⟨_, e⟩, fun h1 h2 z k => k _ z⟩
theorem lamO_at {P : Program} {w : World} {H : Hp} {h : Heap} {f : Addr} {o : Obj} (hok : HOk P w H h) (e : H f = some (LamO f o)) : h.get? f = some o := by
  have x : ObjOk P w H h f (.ext fun h => h.get? f = some o) := hok f _ e
  exact x.1
/-- at f: the lambda with such a body, made in X -/
inductive LamIs (X : Cx) (params : Arguments) (body : Expr) (scope : Scope) (c' f : Addr) (H : Hp) : Prop
  | plain {pm ctv : Value} (h : H f = some (LamO f (PySem.W.kla_obj "<lambda>" (X.env.qual ++ "<lambda>") params body scope (cloFrom X.env.cells scope.names []) pm c' ctv)))
      (L : LamS X.env.scope scope) (hb : ∀ (q : Str) (cl : List (Str × Addr)) (pm cv ctv : Value), bindArgs (PySem.W.kla_fn "<lambda>" q params body scope cl pm cv ctv) ⟨[], []⟩ = pure [])
  | dflt {nm : Str} {T0 : Addr} {doc pm ctv : Value} {iv : Int} {t : Tok} (h : H f = some (LamO f (PySem.W.kdv_obj "<lambda>" (X.env.qual ++ "<lambda>") params (.expr body) scope (cloFrom X.env.cells scope.names []) (.ref T0) doc pm c' ctv)))
      (hT : H T0 = some (LamO T0 (PySem.W.kdv_tup [.int iv t]))) (L : LamSD X.N nm X.env.scope scope)
      (hb : ∀ (q : Str) (cl : List (Str × Addr)) (T0 : Addr) (doc pm cv ctv : Value) (t : Tok) (s : Shared), s.heap.get? T0 = some (PySem.W.kdv_tup [.int iv t]) → BindsTo s (PySem.W.kdv_fn "<lambda>" q params (.expr body) scope cl (.ref T0) doc pm cv ctv) ⟨[], []⟩ [(nm, .int iv t)])
theorem LamIs.mono {X : Cx} {params : Arguments} {body : Expr} {scope : Scope} {c' f : Addr} {H H' : Hp} (e : Same H H') (h : LamIs X params body scope c' f H) : LamIs X params body scope c' f H' := by
  cases h with
  | plain h L hb => exact .plain (e _ _ h) L hb
  | dflt h hT L hb => exact .dflt (e _ _ h) (e _ _ hT) L hb
/-- a lambda's text and reading -/
structure LamPk (X : Cx) (kl : Nat) where
  params : Arguments
  body : Expr
  scope : Scope
  tb : XK → TE
  hbody : ∀ (E : XK) (A : Around) (outer : List PySem.Env) (s : Shared) (H : Hp) (f c' : Addr), Room kl (A.deeper (lamEnv X scope s.heap.objs.size f c')) → PE (lamCx X A outer s H E scope f c') body (tb E)
abbrev lamQ (X : Cx) : Str := X.env.qual ++ "<lambda>"
def LamPk.at {X : Cx} {kl : Nat} (L : LamPk X kl) (c' f : Addr) (H : Hp) : Prop := LamIs X L.params L.body L.scope c' f H ∧ H c' = some (CodeO c' (lamQ X))
/-- what a call makes, at the slots σ of the frame that made the lambda -/
def LamPk.act {X : Cx} {kl : Nat} (L : LamPk X kl) (c' f : Addr) (σ : L2.St) : XK → Hp → VK → Prop := fun E H Q => L.at c' f H ∧ L.tb E σ H Q
def tActX (i : Nat) (f : Addr) (act : XK → Hp → VK → Prop) (W : WX) : TE := fun σ H Q => σ[i]? = some (some (.ref f)) ∧ act (WE W σ) H Q
section
variable {X : Cx} {pins : List (Addr × Obj)} {σ : L2.St} {H : Hp} {s : Shared}
theorem pe_actX {kl : Nat} (Lm : LamPk X kl) {CXg : CXT} {Eg : XK} {Ng : List Str} {qg : Str} {sg : Scope} {g f c' : Addr} {cdg : Value} {i : Nat} {a : Str} {pn : List (Addr × Obj)} {xe : Value → Shared → Prop} {W : WX} {p1 p2 : Pos}
    (I : Inv X pins σ H s) (tk : Takes ((cxOf CXg X.prog X.w X.K X.mg X.base Ng qg sg g cdg X.A X.stack s H Eg).tr pn xe) W) (hr : Room (kl + 1) (X.A.deeper (envOfC qg sg s.heap.objs.size g cdg)))
    (hN : Ng[i]? = some a) (hv : Vis sg a) (hd : (a == ("__debug__" : Str)) = false := by decide) (hcd : (a == ("__classdict__" : Str)) = false := by decide) :
    PE ((cxOf CXg X.prog X.w X.K X.mg X.base Ng qg sg g cdg X.A X.stack s H Eg).tr pn xe) (.Call (.Name a p1) [] [] p2) (tActX i f (Lm.act c' f σ) W) := by
  refine ⟨fun pinsZ sZ σZ HZ Q IZ hz => ?_⟩
  obtain ⟨hs, ⟨hlam, hc⟩, ht⟩ := hz
  refine wpAny_Call_Name_kw (thn ((pe_var (pos := p1) (i := i) hN hv hd hcd).run pinsZ sZ σZ HZ (fun v H1 => v = .ref f ∧ H1 = HZ) IZ ⟨.ref f, hs, rfl, rfl⟩) fun u s1 hu => ?_)
  obtain ⟨_, H1, I1, r1, ev, eH⟩ := hu
  subst ev
  subst eH
  obtain rfl : u = Value.ref f := r1
  have un : Un (frs X.stack) [] H H1 s.heap s1.heap := I1.base
  obtain ⟨⟨oc, cvs, ct, hoc, hdc, hvc⟩, _, _⟩ := I1.hok c' _ hc
  suffices rc : (∃ e1 e2 e3 e4, s1.heap.get? f = some ⟨e1, e2, .func e3, e4⟩) ∧ codeAny (model X.prog X.w) (X.A.deeper (envOfC qg sg s.heap.objs.size g cdg)) (.call (.ref f) ⟨[], []⟩) (CR (L2.CX X.prog X.w) (envOfC qg sg s.heap.objs.size g cdg :: X.stack) X.prog X.w H1 s1 Q (WE W σZ)) s1 by
    refine PySem.W.callWith_F0 rc.1 (wpAny_call (codeAny_mono rc.2 fun r s' hq => ?_))
    cases r with
    | error e => exact passAt tk σZ pinsZ H1 s1 e s' I1 hq
    | ok fl =>
      cases fl with
      | ret u => exact I1.after hq
      | next => exact hq.elim
      | brk => exact hq.elim
      | cont => exact hq.elim
  cases hlam with
  | plain h L hb =>
    have of1 := lamO_at I1.hok h
    refine ⟨⟨_, _, _, _, of1⟩, PySem.W.kla_callFunE hr.depth of1 rfl L.co L.gen rfl ⟨c', oc, cvs, ct, rfl, hoc, hdc, hvc⟩ ?_⟩
    rw [hb]
    refine wpAny_pure (wpAny_newFunctionEnv (fun y hy => (L.own y hy).2) (fun y hy => nomatch hy) (fun hF hns hsb => ⟨I1.nolimit.fresh _ hsb, ?_⟩) L.kind)
    show codeAny _ _ (.expr Lm.body (lamEnv X Lm.scope s1.heap.objs.size f c')) _ _
    have kp : ∀ b o, s1.heap.get? b = some o → hF.get? b = some o := fun b o q => hsb.extBut b o (Nat.ne_of_lt (Heap.lt_size q)) (Heap.get?_push_of_some _ q)
    have J := lam_start2 (A := X.A.deeper (envOfC qg sg s.heap.objs.size g cdg)) (outer := envOfC qg sg s.heap.objs.size g cdg :: X.stack) (E := WE W σZ) (f := f) (c' := c') (tk := s1.toks + ([] : List (Str × Value)).length) I L I1.env0 hr.hd un hns kp
    refine PySem.W.kla_codeExpr (wpAny_mono ((Lm.hbody _ _ _ s1 H1 f c' (hr.deeper _)).run [] _ _ H1 Q J ht) (fun v s' hq => ?_) fun e s' hq => hq)
    obtain ⟨w', H', J', rv, q⟩ := hq
    exact ⟨w', H', J'.os, J'.bare, J'.base, J'.hok, rv, q⟩
  | @dflt nm T0 doc pm ctv iv t h hT L hb =>
    have of1 := lamO_at I1.hok h
    refine ⟨⟨_, _, _, _, of1⟩, PySem.W.kla_callFunE hr.depth of1 rfl L.co L.gen rfl ⟨c', oc, cvs, ct, rfl, hoc, hdc, hvc⟩ ?_⟩
    refine hb _ _ _ _ _ _ _ _ s1 (lamO_at I1.hok hT) _ _ _ _ ?_
    refine wpAny_newFunctionEnv (fun y hy => (L.own y hy).1) (fun y hy => List.mem_singleton.mp hy ▸ L.par) (fun hF hns hsb => ⟨I1.nolimit.fresh _ hsb, ?_⟩) L.kind
    show codeAny _ _ (.expr Lm.body (lamEnv X Lm.scope s1.heap.objs.size f c')) _ _
    have kp : ∀ b o, s1.heap.get? b = some o → hF.get? b = some o := fun b o q => hsb.extBut b o (Nat.ne_of_lt (Heap.lt_size q)) (Heap.get?_push_of_some _ q)
    have J := lam_start2D (A := X.A.deeper (envOfC qg sg s.heap.objs.size g cdg)) (outer := envOfC qg sg s.heap.objs.size g cdg :: X.stack) (E := WE W σZ) (f := f) (c' := c') (tk := s1.toks + ([(nm, .int iv t)] : List (Str × Value)).length) I L I1.env0 hr.hd un hns kp
    refine PySem.W.kla_codeExpr (wpAny_mono ((Lm.hbody _ _ _ s1 H1 f c' (hr.deeper _)).run [] _ _ H1 Q J ht) (fun v s' hq => ?_) fun e s' hq => hq)
    obtain ⟨w', H', J', rv, q⟩ := hq
    exact ⟨w', H', J'.os, J'.bare, J'.base, J'.hok, rv, q⟩
end
/-! ### a def that is handed a lambda, and calls it within a try -/
def ActHX (P : Program) (w : World) (K : PySem.W.Frag) (mg : Str → Option Value) (base : Heap) (k : Nat) (A : Around) (outer : List PySem.Env) (s : Shared) (H : Hp) (f : Addr) (act : XK → Hp → VK → Prop) : Prop :=
  ∀ (Ng : List Str) (qg : Str) (sg : Scope) (g : Addr) (cdg : Value) (i : Nat) (a : Str) (p1 p2 : Pos) (pn : List (Addr × Obj)) (xe : Value → Shared → Prop) (W : WX), Room (k + 1) (A.deeper (envOfC qg sg s.heap.objs.size g cdg)) → Ng[i]? = some a → Vis sg a → (a == ("__debug__" : Str)) = false → (a == ("__classdict__" : Str)) = false →
    Takes ((cxOf CX0 P w K mg base Ng qg sg g cdg A outer s H E0).tr pn xe) W → PE ((cxOf CX0 P w K mg base Ng qg sg g cdg A outer s H E0).tr pn xe) (.Call (.Name a p1) [] [] p2) (tActX i f act W)
abbrev PreLX := Addr → (XK → Hp → VK → Prop) → PreT
structure CalLX (P : Program) (w : World) (K : PySem.W.Frag) (mg : Str → Option Value) (base : Heap) (kl k : Nat) (x : Str) (ps : List Str) (Pre : PreLX) : Prop where
  ex : ∃ g fd, mg x = some (.ref g) ∧ PySem.W.keepIn K (.ref g) = true ∧ Binds K fd ps [] ∧ (∀ f act As Ω R, Pre f act As Ω R → As.length = ps.length) ∧
    ∀ (A : Around) (outer : List PySem.Env) (s : Shared) (H : Hp) (us : List Value) (vs : List V) (Q : VK) (f : Addr) (act : XK → Hp → VK → Prop), Room k A → Env0 P w K mg base A outer s H → BindsTo s fd ⟨us, []⟩ (ps.zip us) → Vals vs us →
      ActHX P w K mg base kl A outer s H f act → mkSp (Pre f act) vs H Q E0 → codeAny (model P w) A (.call (.ref g) ⟨us, []⟩) (CR CX0 outer P w H s Q E0) s
section
variable {P : Program} {w : World} {K : PySem.W.Frag} {mg : Str → Option Value} {base : Heap}
theorem fnLX_ok {x qual : Str} {st : Stmt} {g : Addr} {fd : FuncData} {N ps : List Str} {k kl : Nat} {Pre : PreLX} (F : Fun K x qual st g fd) (S : FnScope N ps (defScope st)) (hl : ∀ f act As Ω R, Pre f act As Ω R → As.length = ps.length) (hk : kl + 1 ≤ k)
    (hb : ∀ (cdv : Value) (A : Around) (outer : List PySem.Env) (s : Shared) (H : Hp) (f : Addr) (act : XK → Hp → VK → Prop), Room k (A.deeper (envOfC qual (defScope st) s.heap.objs.size g cdv)) →
      (∀ (i : Nat) (a : Str) (p1 p2 : Pos) (pn : List (Addr × Obj)) (xe : Value → Shared → Prop) (W : WX), N[i]? = some a → Vis (defScope st) a → (a == ("__debug__" : Str)) = false → (a == ("__classdict__" : Str)) = false →
        Takes ((cxOf CX0 P w K mg base N qual (defScope st) g cdv A outer s H E0).nox.tr pn xe) W → PE ((cxOf CX0 P w K mg base N qual (defScope st) g cdv A outer s H E0).nox.tr pn xe) (.Call (.Name a p1) [] [] p2) (tActX i f act W)) →
      ∀ As Ω R F0, Pre f act As Ω R → Bod (cxOf CX0 P w K mg base N qual (defScope st) g cdv A outer s H E0).nox (defBody st) (As.map some ++ List.replicate (N.length - As.length) none) Ω F0 R)
    (hm : mg x = some (.ref g)) (hbd : Binds K fd ps []) : CalLX P w K mg base kl (k + 1) x ps Pre := by
  refine ⟨g, fd, hm, F.kp, hbd, hl, fun A outer s H us vs Q f act hr e0 hbt rv hact h => ?_⟩
  obtain ⟨F0, Ω, As, R, hp, ha, hh, hq⟩ := h
  obtain ⟨oc, od, kV, doc, pm, an, cdv, ct, osl, rfl, lk, hcd⟩ := F.ex
  refine run_ofS (N := N) (vs := vs) lk hcd S hr e0 hbt rv (by rw [ha.len]; exact hl _ _ _ _ _ hp) fun hr' => ?_
  obtain ⟨t, h1, h2⟩ := hb cdv A outer s H f act hr' (fun i a p1 p2 pn xe W hN hv hd hcd tk => hact N qual (defScope st) g cdv i a p1 p2 pn xe W (hr'.mono hk) hN hv hd hcd tk) As Ω R F0 hp
  exact ⟨t, h1.nox, h2 _ (fun F v H Ω' e hh r => hq F v H Ω' e hh r) (fun F σ H Ω' e hh r => hq F .non H Ω' e hh r) _ _ ⟨F0, Same.refl F0, start_env ha, hh⟩⟩
end
/-- x(e), e's value a lambda of this frame -/
def tCallLX (X : Cx) (kl : Nat) (Pre : PreLX) (ta : TA) : TE := fun σ H Q => ta σ H fun vs H1 => ∃ (Lm : LamPk X kl) (f c' : Addr), vs = [.ref f] ∧ Lm.at c' f H1 ∧ mkSp (Pre f (Lm.act c' f σ)) [.ref f] H1 Q E0
section
variable {X : Cx}
theorem pe_callLX {k kl : Nat} {x : Str} {ps : List Str} {Pre : PreLX} {e : Expr} {ta : TA} {p pos : Pos} (C : CalLX X.prog X.w X.K X.mg X.base kl k x ps Pre) (hr : Room k X.A) (hg : Gl X x) (ha : PA X [e] ta)
    (hdb : (x == ("__debug__" : Str)) = false := by decide) (hst : starEach [e] X.env = (false, eval e X.env) :: starEach [] X.env := by rfl) :
    PE X (.Call (.Name x p) [e] [] pos) (tCallLX X kl Pre ta) := by
  obtain ⟨g, fd, hm, hk, hb, hlen, hrun⟩ := C.ex
  refine ⟨fun pins s σ H Q I h => wpAny_Call_Name_kw (ld_glob I hg hm ?_ hdb)⟩
  refine PySem.W.callWith_K (h₀ := X.base) I.ok.mod.kin hk (thn (ha.run pos pins s σ H _ I h) fun us s1 hq => ?_) hst (by rfl)
  obtain ⟨vs, H1, I1, r1, Lm, f, c', ev, hat, sp⟩ := hq
  subst ev
  refine ⟨I1.kIn, ?_⟩
  obtain ⟨v, rfl, rv⟩ : ∃ v, us = [v] ∧ RelV (.ref f) v := by
    cases r1 with
    | cons h t => cases t; exact ⟨_, rfl, h⟩
  have rc : codeAny (model X.prog X.w) X.A (.call (.ref g) ⟨[v], []⟩) (CR CX0 X.stack X.prog X.w H1 s1 Q E0) s1 := by
    have hls : ps.length = 1 := by
      obtain ⟨F0, Ω, As, R, hp, ha, _⟩ := sp
      rw [← hlen _ _ _ _ _ hp, ← ha.len]; rfl
    refine hrun X.A X.stack s1 H1 [v] [.ref f] Q f _ hr I1.env0 ?_ (.cons rv .nil) (fun Ng qg sg gg cdg i a q1 q2 pn xe W hr' hN hv hd hcd tk => pe_actX Lm I1 tk hr' hN hv hd hcd) sp
    have := hb s1 [v] I1.kIn (by rw [hls]; rfl)
    rwa [List.append_nil] at this
  refine wpAny_call (codeAny_mono rc fun r s2 hq => ?_)
  cases r with
  | error e => exact (show False from hq).elim
  | ok fl =>
    cases fl with
    | ret u => exact I1.after hq
    | next => exact hq.elim
    | brk => exact hq.elim
    | cont => exact hq.elim
end
end VL

set_option Elab.async false
set_option linter.all false
set_option maxRecDepth 100000
set_option maxHeartbeats 2000000
/-! VL55: a lambda's making; what a call of it makes, told by the exception it raises; raise C(text). -/
namespace VL
open PySem PySem.Spec PyProof.Rows L2 LamX
/-- a lambda of X -/
def lamV (X : Cx) {kl : Nat} (Lm : LamPk X kl) : VA := ⟨fun F v => ∃ f c', v = .ref f ∧ Lm.at c' f F, fun e ⟨f, c', h1, h2, h3⟩ => ⟨f, c', h1, h2.mono e, e _ _ h3⟩⟩
/-- a lambda expression: the table at P -/
def tLamV (X : Cx) {kl : Nat} (Lm : LamPk X kl) (P : Addr) : TE := fun σ H Q => (∃ ps : Array Value, H P = some (.tbl ps) ∧ TriplesOk ps.toList ∧ ∀ (pos : Pos) (cv : Value), codeAmong pos ps.toList = some cv → ∃ c, cv = .ref c ∧ H c = some (CodeO c (lamQ X))) ∧
  ∀ (f c' : Addr) (H2 : Hp), (∀ (F : Hp) (Ω : List OA) (l : List (Addr × Str)) (kt : Nat), Holds F Ω H → Ω[kt]? = some (tabA l) → (P, lamQ X) ∈ l → (∀ p ∈ l, p.1 = P → p.2 = lamQ X) → ∃ F2, Same F F2 ∧ Holds F2 Ω H2 ∧ Lm.at c' f F2) → Q (.ref f) H2
section
variable {X : Cx} {kl : Nat}
/-- lambda: .. -/
theorem pe_lamV {c P : Addr} {params : Arguments} {body : Expr} {scope : Scope} {pos : Pos} {tb : XK → TE} (TB : TabB X.base X.mg c P) (hcode : X.env.code = .ref c) (L : LamS X.env.scope scope)
    (hbody : ∀ (E : XK) (A : Around) (outer : List PySem.Env) (s : Shared) (H : Hp) (f c' : Addr), Room kl (A.deeper (lamEnv X scope s.heap.objs.size f c')) → PE (lamCx X A outer s H E scope f c') body (tb E))
    (hdef : defaultsOf params X.env = ([], []) := by rfl)
    (hbind : ∀ (q : Str) (cl : List (Str × Addr)) (pm cv ctv : Value), bindArgs (PySem.W.kla_fn "<lambda>" q params body scope cl pm cv ctv) ⟨[], []⟩ = pure [] := by intros; rfl) :
    PE X (.Lambda params body scope pos) (tLamV X ⟨params, body, scope, tb, hbody⟩ P) := by
  refine ⟨fun pins s σ H Q I hz => PySem.W.kla_eval hdef ?_⟩
  obtain ⟨⟨ps, hP, ht, ha⟩, hq⟩ := hz
  have hfree := L.has I.ok
  have bP : s.heap.BuiltinsAt X.mg P := TB.bm.keeps I.bk
  have oP : s.heap.get? P = some { cls := .none, data := .fields ps } := I.hok P _ hP
  -- the end: the function lies at the heap's end
  have fin : ∀ (c' : Addr) (pm ctv : Value) (h' : Heap) (tk : Nat) (H1 : Hp), Inv X pins σ H1 { s with heap := h', toks := tk } → Grown H P (lamQ X) H1 c' →
      EP X pins σ Q (.ref h'.objs.size) { s with heap := h'.push (PySem.W.kla_obj "<lambda>" (X.env.qual ++ "<lambda>") params body scope (cloFrom X.env.cells scope.names []) pm c' ctv), toks := tk } := fun c' pm ctv h' tk H1 I1 gr => by
    have n1 : H1 h'.objs.size = none := I1.hok.fresh (Nat.le_refl _)
    have I2 := I1.laid (t' := tk) (a := h'.objs.size) (o := LamO h'.objs.size (PySem.W.kla_obj "<lambda>" (X.env.qual ++ "<lambda>") params body scope (cloFrom X.env.cells scope.names []) pm c' ctv)) (h' := h'.push (PySem.W.kla_obj "<lambda>" (X.env.qual ++ "<lambda>") params body scope (cloFrom X.env.cells scope.names []) pm c' ctv))
      (fun b o e => Heap.get?_push_of_some _ e) (Nat.le_refl _) (lamO_ok (Heap.get?_push_size _ rfl))
    refine ⟨.ref h'.objs.size, _, I2, rfl, hq _ c' _ fun F Ω l kt hh hkt hm hu => ?_⟩
    obtain ⟨F1, e1, hh1, hc⟩ := grown_holds hh hkt hm hu gr
    obtain ⟨hh2, e2⟩ := hh1.newF n1
    exact ⟨_, e1.trans e2, hh2, .plain upd_same L hbind, e2 _ _ hc⟩
  cases hc : codeAmong pos ps.toList with
  | some cv =>
    obtain ⟨c', e, hco⟩ := ha pos cv hc
    subst e
    refine PySem.W.kla_makeFunctionHit (mg := X.mg) (c := c) (P := P) (ps := ps) (closure_ok hfree) I.ok.glob (I.mod.glob.keeps I.bk) hcode (TB.code.keeps I.bk) oP ht hc bP fun ctv h' tk hx hsz => ?_
    exact fin c' _ ctv h' tk H (I.kept (t' := tk) (h' := h') hx) (.inl ⟨rfl, ps, pos, hP, hc⟩)
  | none =>
    refine PySem.W.kla_makeFunction (mg := X.mg) (c := c) (P := P) (ps := ps) (closure_ok hfree) I.ok.glob (I.mod.glob.keeps I.bk) hcode (TB.code.keeps I.bk) oP ht hc TB.gP bP fun c' ctv h' tk hx hge hlt hrec htb => ?_
    obtain ⟨c2, oc, vs, t, e2, hoc, hd, hv⟩ := hrec
    cases e2
    have nC : H c' = none := I.hok.fresh hge
    refine fin c' _ ctv h' tk _ (inv_table (t' := tk) (more := #[rawInt pos.line, rawInt pos.col, .ref c']) (h' := h') I hP hx htb hge ⟨oc, vs, t, hoc, hd, hv⟩) (.inr ⟨ps, #[rawInt pos.line, rawInt pos.col, .ref c'], hP, nC, rfl, fun z => ?_, fun pos2 cv z hcv => ?_⟩)
    · rw [Array.toList_append]; exact PySem.TriplesOk_snoc _ _ _ _ z
    · rw [Array.toList_append] at hcv
      exact among_app _ z hcv
end
section
variable {X : Cx} {kl : Nat} {T : TC} {Γ : List (Option VA)} {Ω Ω1 Ω2 Ω' : List OA} {A : VA} {F0 : Hp} {D : Ends} {W : WX}
theorem xe_lamV {Lm : LamPk X kl} {P : Addr} {l : List (Addr × Str)} {kt : Nat} (ht : Ω[kt]? = some (tabA l)) (hm : (P, lamQ X) ∈ l) (hu : ∀ p ∈ l, p.1 = P → p.2 = lamQ X) : XE (tLamV X Lm P) Γ Ω (lamV X Lm) Ω := fun F σ H e hh Q q => by
  obtain ⟨t, h1, h2, _, _⟩ := hh.get ht
  obtain ⟨ps, b1, b2, b3⟩ := h1 _ hm
  refine ⟨⟨ps, h2 _ _ b1, b2, fun pos cv hc => ?_⟩, fun f c' H2 h => ?_⟩
  · obtain ⟨c, d1, d2⟩ := b3 pos cv hc
    exact ⟨c, d1, hh.same _ _ d2⟩
  · obtain ⟨F2, e2, hh2, hat⟩ := h F Ω l kt hh ht hm hu
    exact q F2 _ H2 _ e2 hh2 ⟨⟨f, c', rfl, hat⟩, rfl⟩
/-- the parameter's value: a lambda that raises r, or returns in Ω' -/
def askX (T : TC) (f : Addr) (act : XK → Hp → VK → Prop) (Ω Ω' : List OA) (o : Option XC) : VA :=
  ⟨fun F v => v = .ref f ∧ ∀ F1 H1, Same F F1 → Holds F1 Ω H1 → ∀ (E : XK) (Q : VK),
      (∀ r, o = some r → ∀ F2 c d H2, Same F1 F2 → Holds F2 Ω H2 → RCf T r F2 c d → E c d H2) → (o = none → ∀ F2 v H2, Same F1 F2 → Holds F2 Ω' H2 → Q v H2) → act E H1 Q,
   fun e ⟨h1, h2⟩ => ⟨h1, fun F1 H1 e1 => h2 F1 H1 (e.trans e1)⟩⟩
def anyA : VA := ⟨fun _ _ => True, fun _ _ => True.intro⟩
theorem xe_askX {i : Nat} {f : Addr} {act : XK → Hp → VK → Prop} (h : Γ[i]? = some (some (askX T f act Ω Ω' none))) : XE (tActX i f act W) Γ Ω anyA Ω' := fun F σ H e hh Q q => by
  obtain ⟨v, h1, rfl, h3⟩ := e.2 i _ h
  exact ⟨h1, h3 F H (Same.refl F) hh _ Q (fun _ z => nomatch z) fun _ F2 v H2 e2 hh2 => q F2 v H2 _ e2 hh2 ⟨True.intro, rfl⟩⟩
theorem xr_askX {i : Nat} {f : Addr} {act : XK → Hp → VK → Prop} {r : XC} (h : Γ[i]? = some (some (askX T f act Ω Ω' (some r)))) (hw : WTC W T r F0 Γ Ω) : XR (tActX i f act W) F0 Γ Ω := fun σ H ⟨F, f0, e, hh⟩ Q => by
  obtain ⟨v, h1, rfl, h3⟩ := e.2 i _ h
  refine ⟨h1, h3 F H (Same.refl F) hh _ Q (fun r' z F2 c d H2 e2 hh2 hr => ?_) fun z => nomatch z⟩
  cases z
  exact hw F2 c d σ H2 (f0.trans e2) (e.mono e2) hh2 hr
/-- what a call of the lambda makes -/
def Outc (T : TC) (Γ : List (Option VA)) (Ω Ω' : List OA) (tb : XK → TE) (o : Option XC) : Prop :=
  match o with
  | some r => ∀ (E : XK) (F1 : Hp), (∀ F2 c d H2, Same F1 F2 → Holds F2 Ω H2 → RCf T r F2 c d → E c d H2) → XR (tb E) F1 Γ Ω
  | none => ∀ E : XK, ∃ B : VA, XE (tb E) Γ Ω B Ω'
theorem outc_r {r : XC} {tb : XK → TE} (h : ∀ (E : XK) (F1 : Hp), WTC (WXE E) T r F1 Γ Ω → XR (tb E) F1 Γ Ω) : Outc T Γ Ω Ω' tb (some r) := fun E F1 hE => h E F1 fun F c d σ H f _ hh hr => hE F c d H f hh hr
theorem xg_callLX {Lm : LamPk X kl} {Pre : PreLX} {ta : TA} {o : Option XC} {R : Hp → V → List OA → Prop} (ha : XA ta Γ Ω [lamV X Lm] Ω) (ho : Outc T Γ Ω Ω' Lm.tb o) (hp : ∀ f act, Pre f act [askX T f act (stt Ω [] []) (stt Ω' [] []) o] Ω R) : XG (tCallLX X kl Pre ta) Γ Ω R := fun F σ H e hh Q q => by
  have hp : ∀ f act, Pre f act [askX T f act Ω Ω' o] Ω R := fun f act => by have := hp f act; rwa [cal0', cal0'] at this
  refine ha F σ H e hh _ fun F1 vs H1 e1 hh1 a1 => ?_
  obtain ⟨v, rfl, f, c', rfl, hat⟩ := alA1 a1
  refine ⟨Lm, f, c', rfl, ⟨hat.1.mono hh1.same, hh1.same _ _ hat.2⟩, F1, Ω, _, R, hp f _, .cons ⟨rfl, fun F2 H2 e2 hh2 E Q' hE hQ => ?_⟩ .nil, hh1, fun F' v H' Ω' e' hh' r => q F' v H' Ω' (e1.trans e') hh' r⟩
  refine ⟨⟨hat.1.mono (e2.trans hh2.same), (e2.trans hh2.same) _ _ hat.2⟩, ?_⟩
  have e3 := e.mono (e1.trans e2)
  cases o with
  | some r => exact ho E F2 (hE r rfl) σ H2 ⟨F2, Same.refl F2, e3, hh2⟩ Q'
  | none =>
    obtain ⟨B, hB⟩ := ho E
    exact hB F2 σ H2 e3 hh2 Q' fun F4 v4 H4 Ω4 e4 hh4 ⟨_, o4⟩ => hQ rfl F4 v4 H4 e4 (o4 ▸ hh4)
theorem xe_callLX {Lm : LamPk X kl} {Pre : PreLX} {ta : TA} {o : Option XC} {Ω3 : List OA} (ha : XA ta Γ Ω [lamV X Lm] Ω) (ho : Outc T Γ Ω Ω' Lm.tb o) (hp : ∀ f act, Pre f act [askX T f act (stt Ω [] []) (stt Ω' [] []) o] Ω (RV A Ω3)) (he : Ω3 = Ω2) : XE (tCallLX X kl Pre ta) Γ Ω A Ω2 := he ▸ xg_callLX ha ho hp
end
/-! ### raise C(text) -/
/-- C(text) may be made -/
structure MkC (P : Program) (w : World) (K : PySem.W.Frag) (mg : Str → Option Value) (base : Heap) (k : Nat) (x : Str) (C : Addr) (f : Str) : Prop where
  ex : ∃ B0 fI fd, IxC K C B0 fI f ∧ FnOk P w K mg base CX0 k fI fd ["self", f] (spIx C f) ∧ Binds K fd ["self", f] [] ∧ mg x = some (.ref C)
section
variable {X : Cx} {W : WX}
theorem ps_raiseX {k : Nat} {x f : Str} {C : Addr} {e : Expr} {ta : TA} {p pos pos2 : Pos} (hc : X.calm = true) (tk : Takes X W) (M : MkC X.prog X.w X.K X.mg X.base k x C f) (hr : Room (k + 1) X.A) (hg : Gl X x) (ha : PA X [e] ta)
    (hdb : (x == ("__debug__" : Str)) = false := by decide) (hst : starEach [e] X.env = (false, eval e X.env) :: starEach [] X.env := by rfl) :
    PS X (.Raise (some (.Call (.Name x p) [e] [] pos)) none pos2) (tRx C f ta W) := by
  obtain ⟨B0, fI, fd, T, F1, hb, hm⟩ := M.ex
  exact ps_raise hc tk (pmk_ix T F1 hr hb hg hm ha hdb hst)
end
end VL

set_option Elab.async false
set_option linter.all false
set_option maxRecDepth 100000
set_option maxHeartbeats 2000000
/-! VL56: values of any kind, told by what they are not; lists of them; deep lists. -/
namespace VL
open PySem PySem.Spec PyProof.Rows L2
/-- A's values have the type t -/
def TyA (T : TC) (Ω : List OA) (A : VA) (t : Value) : Prop := ∀ F H v, Holds F Ω H → A.P F v → TyX T.K H v t
/-- A's values are none of the class u -/
def NoC (T : TC) (Ω : List OA) (A : VA) (u : Value) : Prop := ∀ F H v, Holds F Ω H → A.P F v → ∃ t, TyX T.K H v t ∧ PySem.W.kitOne T.K t u = some false
section
variable {T : TC} {Γ : List (Option VA)} {Ω Ω1 Ω2 : List OA} {A B : VA} {u t : Value} {ta tc te : TE}
theorem noC_st {L : List OA} (h : NoC T Ω A u) : NoC T (stt Ω [] L) A u := fun F H v hh a => h F H v (by have := hh.all; rwa [show stt Ω [] [] = Ω from List.append_nil Ω] at this) a
theorem xe_noC {c : V} (ha : XE ta Γ Ω A Ω1) (hb : XE tc Γ Ω1 (vx c) Ω1) (hc : ClsV c u) (h : NoC T Ω1 A u) : XE (tCB (rIsi T.K) (tCons ta (tCons tc tNil))) Γ Ω (va T false) Ω1 := xe_cb (xa_cons ha (xa_cons hb xa_nil)) fun F H vs hh a Q q => by
  obtain ⟨v, w, rfl, a1, a2⟩ := alA2 a
  have a2 : w = c := a2
  subst a2
  obtain ⟨t, h1, h2⟩ := h F H v hh a1
  exact ⟨v, w, t, u, false, rfl, hc, h1, h2, q F _ H (Same.refl F) hh rfl⟩
theorem noC_of (h : TyA T Ω A t) (hk : PySem.W.kitOne T.K t u = some false) : NoC T Ω A u := fun F H v hh a => ⟨t, h F H v hh a, hk⟩
theorem tya_int {i : Int} : TyA T Ω (va T i) (.type "int") := fun _ _ _ hh a => ty_int hh a
theorem tya_str {x : Str} : TyA T Ω (va T x) (.type "str") := fun _ _ _ hh a => ty_str hh a
theorem tya_non : TyA T Ω (va T ()) (.type "NoneType") := fun _ _ v _ a => by
  have a : v = .non := a
  subst a
  exact .base .non
theorem tya_lst {α : Type} [Rp α] {l : List α} : TyA T Ω (va T (LF.mk l)) (.type "list") := fun _ _ _ hh a => ty_lst hh a
theorem tya_tup {α : Type} [Rp α] {l : List α} : TyA T Ω (va T (TF.mk l)) (.type "tuple") := fun F H v hh ⟨p, vs, h1, h2, _⟩ => h1 ▸ ty_sqt (Same.tup hh.same h2)
/-! lists of any values -/
def lsA (As : List VA) : VA := ⟨fun F v => ∃ p vs, v = .ref p ∧ F p = some (.lst vs) ∧ AlA F vs As, fun e ⟨p, vs, h1, h2, h3⟩ => ⟨p, vs, h1, e _ _ h2, h3.mono e⟩⟩
theorem xe_lsA {ts : TA} {As : List VA} (h : XA ts Γ Ω As Ω1) (hz : As.length ≤ sizeLine) : XE (tLst ts) Γ Ω (lsA As) Ω1 := fun F σ H e hh Q q =>
  h F σ H e hh _ fun F1 xs H1 e1 hh1 a1 => ⟨by rw [a1.len]; exact hz, fun p hp => by
    obtain ⟨hh2, e2⟩ := hh1.newF (u := .lst xs) hp
    exact q _ _ _ _ (e1.trans e2) hh2 ⟨⟨p, xs, rfl, upd_same, a1.mono e2⟩, rfl⟩⟩
theorem alA_get : ∀ {F : Hp} {vs : List V} {As : List VA} {i : Nat} {A : VA}, AlA F vs As → As[i]? = some A → ∃ v, vs[i]? = some v ∧ A.P F v
  | _, _, _, 0, _, .cons h _, e => by cases e; exact ⟨_, rfl, h⟩
  | _, _, _, i + 1, _, .cons _ t, e => alA_get (i := i) t e
theorem wk_lsA {p : Addr} {vs : List V} {As : List VA} : Wk (Itl T.K p) (fun F => SqL T.K F p vs ∧ AlA F vs As) As (fun A => A) where
  mono := fun F F' e ⟨h1, h2⟩ => ⟨e.seq h1, h2.mono e⟩
  go := fun i F Ω H ⟨h1, h2⟩ hh hi => ⟨vs, vs[i]'(by rw [h2.len]; exact hi), hh.same.seq h1, List.getElem?_eq_getElem _⟩
  stop := fun F Ω H ⟨h1, h2⟩ hh => ⟨vs, hh.same.seq h1, Nat.le_of_eq h2.len⟩
  yld := fun i a F Ω H x H' ⟨h1, h2⟩ hh hx y => by
    obtain ⟨e, y⟩ := y
    subst e
    obtain ⟨v, hv, rv⟩ := alA_get h2 hx
    cases hv.symm.trans (y vs (hh.same.seq h1))
    exact ⟨F, Same.refl F, hh, rv⟩
theorem xi_lsA {As : List VA} (ha : XE te Γ Ω (lsA As) Ω1) : XI (iList T.K te) Γ Ω As (fun A => A) Ω1 := fun F σ H e hh R r => by
  refine ha F σ H e hh _ fun F1 x H1 Ω' e1 hh1 ⟨⟨p, vs, a1, a2, a3⟩, o1⟩ => ?_
  subst o1 a1
  have s1 : SqL T.K F1 p vs := SqL.of a2
  exact ⟨p, rfl, ⟨vs, hh1.same.seq s1⟩, r F1 _ H1 _ e1 hh1 wk_lsA ⟨s1, a3⟩⟩
end
/-- a list of one thing that is not looked at -/
inductive DP where
  | mk
instance : Rp DP := ⟨fun _ F v _ => ∃ p x, v = .ref p ∧ F p = some (.lst [x]), fun e ⟨p, x, h1, h2⟩ => ⟨p, x, h1, e _ _ h2⟩⟩
section
variable {T : TC} {Γ : List (Option VA)} {Ω Ω1 : List OA} {A : VA} {ta : TE}
end
/-- all are done -/
def allN {α β : Type} (b : α → Option β) : List α → Option Unit
  | [] => some ()
  | a :: l => (b a).bind fun _ => allN b l
theorem allN_mem {α β : Type} {b : α → Option β} : ∀ {l : List α} {u : Unit}, allN b l = some u → ∀ a ∈ l, ∃ s, b a = some s
  | [], _, _ => fun a h => nomatch h
  | x :: l, u, h => fun a ha => by
    obtain ⟨s, hs, h⟩ := bnd_some h
    rcases List.mem_cons.mp ha with rfl | ha
    · exact ⟨s, hs⟩
    · exact allN_mem h a ha
theorem allN_of {α β : Type} {b : α → Option β} : ∀ {l : List α}, (∀ a ∈ l, ∃ s, b a = some s) → allN b l = some ()
  | [], _ => rfl
  | x :: l, h => by
    obtain ⟨s, hs⟩ := h x (.head _)
    show (b x).bind _ = _
    rw [hs]
    exact allN_of fun a ha => h a (.tail _ ha)
theorem forM'_nx {α ρ : Type} : ∀ (l : List α), forM' (ρ := ρ) (fun (_ : α) (_ : Unit) => some (Stp.nx ())) l () = some (Stp.nx ())
  | [] => rfl
  | _ :: l => forM'_nx l
theorem allA_nil {P : VA → Prop} : ∀ a ∈ ([] : List VA), P a := fun _ h => nomatch h
theorem allA_cons {P : VA → Prop} {a : VA} {l : List VA} (h : P a) (t : ∀ x ∈ l, P x) : ∀ x ∈ a :: l, P x := fun x hx => by
  rcases List.mem_cons.mp hx with rfl | hx
  · exact h
  · exact t x hx
section
variable {T : TC} {Γ : List (Option VA)} {Ω O : List OA} {D : Ends} {F0 : Hp} {wi : L2.TI} {tb ts : TS} {k : Nat} {As : List VA} {G : List (Option VA)}
/-- what a turn may rely on -/
abbrev Turn (F1 : Hp) (D' : Ends) (G : List (Option VA)) (O : List OA) : Prop := To D' F1 (Stp.nx () : Stp Unit Unit) (fun _ => NX F1 G O) (fun _ => NX F1 G O) (fun _ _ _ _ => False)
/-- an element: of any kind, or an int, a truth, a number -/
def Kin (T : TC) (P : VA → Prop) (QI : Int → Prop) (QB : Bool → Prop) (QG : Bg → Prop) (a : VA) : Prop := P a ∨ (∃ i : Int, a = va T i ∧ QI i) ∨ (∃ b : Bool, a = va T b ∧ QB b) ∨ ∃ x : Bg, a = va T x ∧ QG x
theorem xs_forA {P : VA → Prop} {QI : Int → Prop} {QB : Bool → Prop} {QG : Bg → Prop} (hi : XI wi G Ω As (fun A => A) O) (hall : ∀ a ∈ As, Kin T P QI QB QG a)
    (hA : ∀ A, P A → ∀ F1 D', Same F0 F1 → Turn F1 D' G O → XS tb D' F1 (G.set k (some A)) O) (hI : ∀ i : Int, QI i → ∀ F1 D', Same F0 F1 → Turn F1 D' G O → XS tb D' F1 (G.set k (some (va T i))) O)
    (hB : ∀ b : Bool, QB b → ∀ F1 D', Same F0 F1 → Turn F1 D' G O → XS tb D' F1 (G.set k (some (va T b))) O) (hG : ∀ x : Bg, QG x → ∀ F1 D', Same F0 F1 → Turn F1 D' G O → XS tb D' F1 (G.set k (some (va T x))) O)
    (hn : ∀ σ H, NX F0 G O σ H → D.nx σ H) : XS (tFor wi (gName k) tb) D F0 G Ω :=
  xs_for (bd := fun (_ : VA) (_ : Unit) => some (Stp.nx () : Stp Unit Unit)) (s0 := ()) (st := .nx ()) (f := fun A Γ => Γ.set k (some A)) (fun _ => G) (fun _ => O) (fun _ _ _ _ => False) (forM'_nx As) hi (fun _ => tgt_name)
    (fun a s s' ha hm F1 D' f1 hD => by
      cases Option.some.inj hm
      rcases hall a ha with h | ⟨i, rfl, h⟩ | ⟨b, rfl, h⟩ | ⟨x, rfl, h⟩
      · exact hA a h F1 D' f1 hD
      · exact hI i h F1 D' f1 hD
      · exact hB b h F1 D' f1 hD
      · exact hG x h F1 D' f1 hD) (fun s _ σ H n => hn σ H n) (fun r z => nomatch z)
theorem xs_forAS {P : VA → Prop} {QI : Int → Prop} {QB : Bool → Prop} {QG : Bg → Prop} (hi : XI wi G Ω As (fun A => A) O) (hall : ∀ a ∈ As, Kin T P QI QB QG a)
    (hA : ∀ A, P A → ∀ F1 D', Same F0 F1 → Turn F1 D' G O → XS tb D' F1 (G.set k (some A)) O) (hI : ∀ i : Int, QI i → ∀ F1 D', Same F0 F1 → Turn F1 D' G O → XS tb D' F1 (G.set k (some (va T i))) O)
    (hB : ∀ b : Bool, QB b → ∀ F1 D', Same F0 F1 → Turn F1 D' G O → XS tb D' F1 (G.set k (some (va T b))) O) (hG : ∀ x : Bg, QG x → ∀ F1 D', Same F0 F1 → Turn F1 D' G O → XS tb D' F1 (G.set k (some (va T x))) O)
    (hn : XS ts D F0 G O) : XS (tSeq (tFor wi (gName k) tb) ts) D F0 G Ω := xs_seq (xs_forA hi hall hA hI hB hG hn)
end
end VL

set_option Elab.async false
set_option linter.all false
set_option maxRecDepth 100000
set_option maxHeartbeats 2000000
/-! VL57: which exception, asked in a mirror; a def with several promises; tests known by their first part. -/
namespace VL
open PySem PySem.Spec PyProof.Rows L2
instance : Dat (EN Str) := ⟨fun x => match x with | .ok a => .str a | .no => .none, fun x => match x with | .ok a => (PyData.str a).canLay0 = true | .no => True, 0, fun {T F H v a} e h => by
    cases a with
    | ok a => rw [show v = V.str a from h]; exact .str _
    | no => rw [show v = V.non from h]; exact .non, fun {a} h => by
    cases a with
    | ok a => exact h
    | no => rfl, fun {a} => by
    cases a with
    | ok a => exact Nat.le_refl _
    | no => exact Nat.le_refl _, fun {a b} => by
    cases a <;> cases b
    · exact (Dat.eqv (α := Str)).trans ⟨fun h => by rw [h], fun h => EN.ok.inj h⟩
    · exact ⟨fun h => (Bool.false_ne_true (show false = true from h)).elim, fun h => nomatch h⟩
    · exact ⟨fun h => (Bool.false_ne_true (show false = true from h)).elim, fun h => nomatch h⟩
    · exact ⟨fun _ => rfl, fun _ => rfl⟩⟩
def onC {β : Type} (o : Option XC) (s : XC → Option β) (n : Option β) : Option β := match o with | some r => s r | none => n
theorem onC_s {β : Type} {o : Option XC} {r : XC} {s : XC → Option β} {n : Option β} (h : o = some r) : onC o s n = s r := by rw [h]; rfl
theorem onC_n {β : Type} {o : Option XC} {s : XC → Option β} {n : Option β} (h : o = none) : onC o s n = n := by rw [h]; rfl
/-- the field's text, of an exception of the class c with the field fl -/
def XC.isF (c : Nat) (fl : Str) : XC → Option Str
  | .f k g x => if k = c ∧ g = fl then some x else none
  | .z _ => none
def XC.isZ (c : Nat) : XC → Bool
  | .f _ _ _ => false
  | .z k => k == c
theorem isF_some {c : Nat} {fl x : Str} {r : XC} (h : r.isF c fl = some x) : r = .f c fl x := by
  cases r with
  | z k => cases h
  | f k g y =>
    unfold XC.isF at h
    by_cases z : k = c ∧ g = fl
    · have h : (if k = c ∧ g = fl then some y else none) = some x := h
      rw [if_pos z] at h
      cases h
      rw [z.1, z.2]
    · have h : (if k = c ∧ g = fl then some y else none) = some x := h
      rw [if_neg z] at h
      cases h
def onF {β : Type} (o : Option Str) (s : Str → Option β) (n : Option β) : Option β := match o with | some x => s x | none => n
theorem onF_s {β : Type} {o : Option Str} {x : Str} {s : Str → Option β} {n : Option β} (h : o = some x) : onF o s n = s x := by rw [h]; rfl
theorem onF_n {β : Type} {o : Option Str} {s : Str → Option β} {n : Option β} (h : o = none) : onF o s n = n := by rw [h]; rfl
section
variable {T : TC} {Γ : List (Option VA)} {Ω Ω1 Ω2 : List OA} {A : VA} {As : List VA} {t : TA} {tu u : TT} {F0 : Hp} {W : WX} {Pre : PreT} {PreX : PreXX} {E : XK} {r : XC} {sp : Sp}
theorem xr_callU (hs : ∀ vs H Q E, mkSpX PreX vs H Q E → sp vs H Q E) (ha : XA t Γ Ω As Ω1) (hp : PreX As Ω1 (RQ T r Ω1)) (hw : WTC W T r F0 Γ Ω1) : XR (tCallS sp (WE W) t) F0 Γ Ω := fun σ H ⟨F, f0, e, hh⟩ Q =>
  ha F σ H e hh _ fun F1 vs H1 e1 hh1 a1 => hs _ _ _ _ ⟨F1, Ω1, As, _, hp, a1, hh1, fun F' c d H' Ω' e' hh' ⟨h1, h2⟩ => by
    subst h2
    exact hw F' c d σ H' ((f0.trans e1).trans e') (e.mono (e1.trans e')) hh' h1⟩
def tNeverE : TE := fun _ _ _ => False
theorem pe_neverX {X : Cx} {e : Expr} : PE X e tNeverE := ⟨fun _ _ _ _ _ _ h => h.elim⟩
theorem xt_orFst (h1 : XT tu Γ Ω true Ω1) : XT (tOr tu u) Γ Ω true Ω1 := xt_eq (xt_or (b := true) (c := true) h1 (fun z => nomatch z) (fun _ => rfl)) rfl
end
section
variable {P : Program} {w : World} {K : PySem.W.Frag} {mg : Str → Option Value} {base : Heap}
theorem FnOk.or2 {CX : CXT} {k : Nat} {f : Addr} {fd : FuncData} {ps : List Str} {s1 s2 : Sp} (F : FnOk P w K mg base CX k f fd ps s1) (G : FnOk P w K mg base CX k f fd ps s2) : FnOk P w K mg base CX k f fd ps (fun vs H Q E => s1 vs H Q E ∨ s2 vs H Q E) :=
  ⟨fun vs H Q E h => h.elim (F.len vs H Q E) (G.len vs H Q E), fun A outer s H args us vs Q E hr he hb hv hs => hs.elim (fun h => F.run A outer s H args us vs Q E hr he hb hv h) (fun h => G.run A outer s H args us vs Q E hr he hb hv h)⟩
end
section
variable {X : Cx} {body : List Stmt} {g0 : ExceptHandler} {gs : List ExceptHandler} {l : List Cla} {pos : Pos} {tb : WX → TS} {K : PySem.W.Frag}
theorem ps_tryK (hK : X.K = K) (estk : X.stack = X.env :: X.outer) (efr : X.env.frame = some X.env.locals)
    (dbody : ∀ (W : WX) (pn : List (Addr × Obj)) (xe : Value → Shared → Prop), Takes (X.tr pn xe) W → PassesOwn (model X.prog X.w) X.A X.env xe → PSs (X.tr pn xe) body (tb W))
    (dcl : ClOk X (g0 :: gs) l) : PS X (.Try body (g0 :: gs) [] [] pos) (tTryC K l tb (fun _ _ _ _ => False)) := hK ▸ ps_tryC estk efr takesF dbody dcl
end
end VL
namespace VL
open PySem PySem.Spec PyProof.Rows L2
section
variable {X : Cx} {kl : Nat}
/-- x(lambda: ..) -/
theorem pe_callLXl {k : Nat} {x : Str} {ps : List Str} {Pre : PreLX} {c P : Addr} {params : Arguments} {body : Expr} {scope : Scope} {p lpos pos : Pos} {tb : XK → TE} (C : CalLX X.prog X.w X.K X.mg X.base kl k x ps Pre) (hr : Room k X.A) (hg : Gl X x)
    (TB : LamX.TabB X.base X.mg c P) (hcode : X.env.code = .ref c) (L : LamX.LamS X.env.scope scope)
    (hbody : ∀ (E : XK) (A : Around) (outer : List PySem.Env) (s : Shared) (H : Hp) (f c' : Addr), Room kl (A.deeper (LamX.lamEnv X scope s.heap.objs.size f c')) → PE (LamX.lamCx X A outer s H E scope f c') body (tb E))
    (hdef : defaultsOf params X.env = ([], []) := by rfl)
    (hbind : ∀ (q : Str) (cl : List (Str × Addr)) (pm cv ctv : Value), bindArgs (PySem.W.kla_fn "<lambda>" q params body scope cl pm cv ctv) ⟨[], []⟩ = pure [] := by intros; rfl)
    (hdb : (x == ("__debug__" : Str)) = false := by decide) (hst : starEach [.Lambda params body scope lpos] X.env = (false, eval (.Lambda params body scope lpos) X.env) :: starEach [] X.env := by rfl) :
    PE X (.Call (.Name x p) [.Lambda params body scope lpos] [] pos) (tCallLX X kl Pre (tCons (tLamV X ⟨params, body, scope, tb, hbody⟩ P) tNil)) :=
  pe_callLX C hr hg (pa_cons (pe_lamV TB hcode L hbody hdef hbind) pa_nil hst) hdb hst
end
theorem isVal_ok {o : Option PySem.W.CFound} {v : Value} (h : isVal o v = true) : o = some (.val v) := by
  unfold isVal at h
  split at h
  · rw [of_decide_eq_true h]
  · cases h
/-- what the start says of such a class -/
theorem ixB_ok {K : PySem.W.Frag} {C B0 fI : Addr} {f : Str} (h : ixB K C B0 fI f = true) : IxC K C B0 fI f := by
  obtain ⟨h1, h⟩ := Bool.and_eq_true_iff.mp h
  obtain ⟨h2, h⟩ := Bool.and_eq_true_iff.mp h
  obtain ⟨h3, h⟩ := Bool.and_eq_true_iff.mp h
  obtain ⟨h4, h⟩ := Bool.and_eq_true_iff.mp h
  obtain ⟨h5, h⟩ := Bool.and_eq_true_iff.mp h
  obtain ⟨h6, h⟩ := Bool.and_eq_true_iff.mp h
  obtain ⟨h7, h⟩ := Bool.and_eq_true_iff.mp h
  obtain ⟨h8, h⟩ := Bool.and_eq_true_iff.mp h
  obtain ⟨h9, h⟩ := Bool.and_eq_true_iff.mp h
  obtain ⟨h10, h⟩ := Bool.and_eq_true_iff.mp h
  obtain ⟨h11, h⟩ := Bool.and_eq_true_iff.mp h
  obtain ⟨h12, h⟩ := Bool.and_eq_true_iff.mp h
  obtain ⟨h13, h⟩ := Bool.and_eq_true_iff.mp h
  obtain ⟨h14, h⟩ := Bool.and_eq_true_iff.mp h
  obtain ⟨h15, h16⟩ := Bool.and_eq_true_iff.mp h
  exact ⟨h1, h2, h3, of_decide_eq_true h4, of_decide_eq_true h5, of_decide_eq_true h6, of_decide_eq_true h7, of_decide_eq_true h8, of_decide_eq_true h9, h10, h11, of_decide_eq_true h12, of_decide_eq_true h13, h14, isVal_ok h15, h16⟩
end VL

set_option Elab.async false
set_option linter.all false
set_option maxRecDepth 100000
set_option maxHeartbeats 2000000
/-! VL58: a lambda may be called as long as the cells of its frame are kept, whatever runs in between. -/
namespace VL
open PySem PySem.Spec PyProof.Rows L2 LamX
/-- the cells that stood, untracked, stand as they did -/
def Cells (H0 H1 : Hp) (h0 h1 : Heap) : Prop := ∀ (c : Addr) (v : Option Value), H0 c = none → h0.IsCell c v → h1.IsCell c v ∧ H1 c = none
theorem Cells.trans {H0 H1 H2 : Hp} {h0 h1 h2 : Heap} (a : Cells H0 H1 h0 h1) (b : Cells H1 H2 h1 h2) : Cells H0 H2 h0 h2 := fun c v n i => let ⟨i1, n1⟩ := a c v n i; b c v n1 i1
theorem cells_un {fs ex : List Addr} {H H' : Hp} {h h' : Heap} (u : Un fs ex H H' h h') (he : ∀ b ∈ ex, ∀ v, ¬ h.IsCell b v) : Cells H H' h h' := fun c v n ⟨o, ho, hd⟩ => by
  have nx : c ∉ ex := fun z => he c z v ⟨o, ho, hd⟩
  obtain ⟨sl, q⟩ := u.any ho n nx
  exact ⟨⟨_, q, hd⟩, u.free c o ho n nx⟩
section
variable {X : Cx} {pins : List (Addr × Obj)} {σ : L2.St} {H0 HZ : Hp} {s0 s1 : Shared}
/-- the body's start -/
theorem lam_startK {A : Around} {outer : List PySem.Env} {E : XK} {scope : Scope} {f c' : Addr} {hF : Heap} {tk : Nat} {binds : List (Str × Value)} (I : Inv X pins σ H0 s0) (hk : scope.kind = .function) (hown : ∀ y ∈ scope.names, y.2 ≠ .cell ∧ (y.2 = .local → y.1 ∉ X.N))
    (hfree : ∀ y ∈ scope.names, y.2 = .free → X.env.scope.names.lookup y.1 = some .cell ∨ X.env.scope.names.lookup y.1 = some .free) (e0 : Env0 X.prog X.w X.K X.mg X.base A outer s1 HZ) (hd : A.handled = none)
    (kc : Cells H0 HZ s0.heap s1.heap) (hns : hF.Ns s1.heap.objs.size fun y => binds.reverse.lookup y) (kp : ∀ b o, s1.heap.get? b = some o → hF.get? b = some o) :
    Inv (lamCx X A outer s1 HZ E scope f c') [] σ HZ { s1 with heap := hF, toks := tk } := by
  have has : ∀ y ∈ scope.names, y.2 = .free → ∃ c, X.env.cells.lookup y.1 = some c := fun y hy e => (hfree y hy e).elim (fun k => I.ok.has _ (.inl k)) fun k => I.ok.has _ (.inr k)
  have up : ∀ {y c}, (cloFrom X.env.cells scope.names []).lookup y = some c → X.env.cells.lookup y = some c := fun {y c} e => by
    rcases cloFrom_mem (PySem.mem_of_lookup e) with q | ⟨q1, q2⟩
    · exact nomatch q
    · obtain ⟨c1, hc⟩ := has _ q1 rfl
      have hc : X.env.cells.lookup y = some c1 := hc
      rw [hc] at q2
      rw [hc, q2]; rfl
  have down : ∀ {y}, scope.names.lookup y = some .free → ∃ c, (cloFrom X.env.cells scope.names []).lookup y = some c := fun {y} q => mem_lookup (cloFrom_has (cells := X.env.cells) (acc := []) (PySem.mem_of_lookup q))
  have stay : ∀ {c : Addr} {v : Option Value}, H0 c = none → s0.heap.IsCell c v → hF.IsCell c v := fun n i => let ⟨⟨o, ho, hd⟩, _⟩ := kc _ _ n i; ⟨o, kp _ _ ho, hd⟩
  have noex : ∀ b : Addr, b ∉ (lamCx X A outer s1 HZ E scope f c').ex := fun b z => nomatch (show b ∈ ([] : List Addr) from z)
  constructor
  case ok =>
    constructor
    case mod => exact e0.mod
    case kind => exact hk
    case glob => rfl
    case blt => rfl
    case above => exact Nat.le_refl _
    case inj => exact fun y z c q1 q2 => I.ok.inj y z c (up q1) (up q2)
    case has =>
      intro y hy
      rcases (show scope.names.lookup y = some .cell ∨ scope.names.lookup y = some .free from hy) with q | q
      · exact absurd rfl (hown _ (PySem.mem_of_lookup q)).1
      · exact down q
    case cab => exact fun y c z _ => nomatch (show false = true from z)
    case hd => exact fun _ => hd
    case frames => exact Around.frames_deeper e0.frames
    case stk => exact .inr ⟨rfl, rfl⟩
    case exf => exact fun b z => absurd z (noex b)
    case bs => exact e0.bs
    case bsz => exact e0.bsz
    case noex => exact fun b _ _ => noex b
    case exfs => exact fun b z => absurd z (noex b)
    case funs => exact e0.funs
    case frf => exact e0.frf
  case os => rfl
  case bare => exact e0.bare
  case base => exact Un.kept kp
  case loc =>
    refine ⟨_, hns, fun i y v q1 q2 q3 => ?_⟩
    rcases (show Vis scope y from q3) with k | k | k
    · exact absurd (List.mem_of_getElem? (show X.N[i]? = some y from q1)) ((hown _ (PySem.mem_of_lookup k)).2 rfl)
    · exact absurd rfl (hown _ (PySem.mem_of_lookup k)).1
    · obtain ⟨m, hn, hl⟩ := I.loc
      have vis : Vis X.env.scope y := (hfree _ (PySem.mem_of_lookup k) rfl).elim (fun k => .inr (.inl k)) fun k => .inr (.inr k)
      obtain ⟨u, rv, q⟩ := hl i y v q1 q2 vis
      obtain ⟨c2, q4⟩ := down k
      refine ⟨u, rv, .inr ⟨.inr k, c2, q4, ?_⟩⟩
      rcases q with ⟨kl, _⟩ | ⟨_, c3, q5, ic⟩
      · rcases hfree _ (PySem.mem_of_lookup k) rfl with z | z <;> cases (show X.env.scope.names.lookup y = some .local from kl).symm.trans z
      · cases (up q4).symm.trans q5
        exact stay (I.freeC y _ q5) ic
  case cell => exact fun y c e => let ⟨v, ic⟩ := I.cell y c (up e); ⟨v, stay (I.freeC y c (up e)) ic⟩
  case free => exact e0.hok.fresh (Nat.le_refl _)
  case freeC => exact fun y c e => let ⟨v, ic⟩ := I.cell y c (up e); (kc c v (I.freeC y c (up e)) ic).2
  case pin => exact fun q hq => nomatch (show q ∈ ([] : List (Addr × Obj)) ++ [] from hq)
  case hok => exact e0.hok.kept kp
  case len => exact I.len
end
/-- f may be called in any later state that keeps the cells -/
def CanCall (P : Program) (w : World) (K : PySem.W.Frag) (mg : Str → Option Value) (base : Heap) (k : Nat) (H0 : Hp) (h0 : Heap) (f : Addr) (act : XK → Hp → VK → Prop) : Prop :=
  ∀ (A : Around) (outer : List PySem.Env) (s1 : Shared) (H1 : Hp) (E : XK) (Q : VK), Room (k + 1) A → Env0 P w K mg base A outer s1 H1 → Cells H0 H1 h0 s1.heap → act E H1 Q →
    (∃ e1 e2 e3 e4, s1.heap.get? f = some ⟨e1, e2, .func e3, e4⟩) ∧ codeAny (model P w) A (.call (.ref f) ⟨[], []⟩) (CR (L2.CX P w) outer P w H1 s1 Q E) s1
theorem CanCall.later {P : Program} {w : World} {K : PySem.W.Frag} {mg : Str → Option Value} {base : Heap} {k : Nat} {H0 H1 : Hp} {h0 h1 : Heap} {f : Addr} {act : XK → Hp → VK → Prop} (c : CanCall P w K mg base k H0 h0 f act) (kc : Cells H0 H1 h0 h1) : CanCall P w K mg base k H1 h1 f act :=
  fun A outer s1 H E Q hr e0 k2 ha => c A outer s1 H E Q hr e0 (kc.trans k2) ha
section
variable {X : Cx} {pins : List (Addr × Obj)} {σ : L2.St} {H : Hp} {s : Shared}
theorem can_lam {kl : Nat} (Lm : LamPk X kl) {c' f : Addr} (I : Inv X pins σ H s) : CanCall X.prog X.w X.K X.mg X.base kl H s.heap f (Lm.act c' f σ) := fun A outer s1 H1 E Q hr e0 kc ha => by
  obtain ⟨⟨hlam, hc⟩, ht⟩ := ha
  obtain ⟨⟨oc, cvs, ct, hoc, hdc, hvc⟩, _, _⟩ := e0.hok c' _ hc
  have lim : s1.heap.NoLimit := e0.mod.nolimit.keeps fun b o e => (e0.bs b o e).1
  cases hlam with
  | plain h L hb =>
    have of1 := lamO_at e0.hok h
    refine ⟨⟨_, _, _, _, of1⟩, PySem.W.kla_callFunE hr.depth of1 rfl L.co L.gen rfl ⟨c', oc, cvs, ct, rfl, hoc, hdc, hvc⟩ ?_⟩
    rw [hb]
    refine wpAny_pure (wpAny_newFunctionEnv (fun y hy => (L.own y hy).2) (fun y hy => nomatch hy) (fun hF hns hsb => ⟨lim.fresh _ hsb, ?_⟩) L.kind)
    show codeAny _ _ (.expr Lm.body (lamEnv X Lm.scope s1.heap.objs.size f c')) _ _
    have kp : ∀ b o, s1.heap.get? b = some o → hF.get? b = some o := fun b o q => hsb.extBut b o (Nat.ne_of_lt (Heap.lt_size q)) (Heap.get?_push_of_some _ q)
    have J := lam_startK (A := A) (outer := outer) (E := E) (f := f) (c' := c') (tk := s1.toks + ([] : List (Str × Value)).length) I L.kind (fun y hy => ⟨(L.own y hy).2, fun e => absurd e (L.own y hy).1⟩) L.free e0 hr.hd kc hns kp
    refine PySem.W.kla_codeExpr (wpAny_mono ((Lm.hbody _ _ _ s1 H1 f c' (hr.deeper _)).run [] _ _ H1 Q J ht) (fun v s' hq => ?_) fun e s' hq => hq)
    obtain ⟨w', H', J', rv, q⟩ := hq
    exact ⟨w', H', J'.os, J'.bare, J'.base, J'.hok, rv, q⟩
  | @dflt nm T0 doc pm ctv iv t h hT L hb =>
    have of1 := lamO_at e0.hok h
    refine ⟨⟨_, _, _, _, of1⟩, PySem.W.kla_callFunE hr.depth of1 rfl L.co L.gen rfl ⟨c', oc, cvs, ct, rfl, hoc, hdc, hvc⟩ ?_⟩
    refine hb _ _ _ _ _ _ _ _ s1 (lamO_at e0.hok hT) _ _ _ _ ?_
    refine wpAny_newFunctionEnv (fun y hy => (L.own y hy).1) (fun y hy => List.mem_singleton.mp hy ▸ L.par) (fun hF hns hsb => ⟨lim.fresh _ hsb, ?_⟩) L.kind
    show codeAny _ _ (.expr Lm.body (lamEnv X Lm.scope s1.heap.objs.size f c')) _ _
    have kp : ∀ b o, s1.heap.get? b = some o → hF.get? b = some o := fun b o q => hsb.extBut b o (Nat.ne_of_lt (Heap.lt_size q)) (Heap.get?_push_of_some _ q)
    have J := lam_startK (A := A) (outer := outer) (E := E) (f := f) (c' := c') (tk := s1.toks + ([(nm, .int iv t)] : List (Str × Value)).length) I L.kind L.own L.free e0 hr.hd kc hns kp
    refine PySem.W.kla_codeExpr (wpAny_mono ((Lm.hbody _ _ _ s1 H1 f c' (hr.deeper _)).run [] _ _ H1 Q J ht) (fun v s' hq => ?_) fun e s' hq => hq)
    obtain ⟨w', H', J', rv, q⟩ := hq
    exact ⟨w', H', J'.os, J'.bare, J'.base, J'.hok, rv, q⟩
end
/-- a name that holds such a lambda is called, in a def entered behind -/
theorem actHX_of {P : Program} {w : World} {K : PySem.W.Frag} {mg : Str → Option Value} {base : Heap} {k : Nat} {A : Around} {outer : List PySem.Env} {s : Shared} {H : Hp} {f : Addr} {act : XK → Hp → VK → Prop} (c : CanCall P w K mg base k H s.heap f act) : ActHX P w K mg base k A outer s H f act :=
  fun Ng qg sg g cdg i a p1 p2 pn xe W hr hN hv hd hcd tk => by
  refine ⟨fun pinsZ sZ σZ HZ Q IZ hz => ?_⟩
  obtain ⟨hs, ht⟩ := hz
  refine wpAny_Call_Name_kw (thn ((pe_var (pos := p1) (i := i) hN hv hd hcd).run pinsZ sZ σZ HZ (fun v H1 => v = .ref f ∧ H1 = HZ) IZ ⟨.ref f, hs, rfl, rfl⟩) fun u s1 hu => ?_)
  obtain ⟨_, H1, I1, r1, ev, eH⟩ := hu
  subst ev
  subst eH
  obtain rfl : u = Value.ref f := r1
  have un : Un (frs outer) [] H H1 s.heap s1.heap := I1.base
  have rc := c _ _ s1 H1 _ Q hr I1.env0 (cells_un un fun b hb => nomatch hb) ht
  refine PySem.W.callWith_F0 rc.1 (wpAny_call (codeAny_mono rc.2 fun r s' hq => ?_))
  cases r with
  | error e => exact passAt tk σZ pinsZ H1 s1 e s' I1 hq
  | ok fl =>
    cases fl with
    | ret u => exact I1.after hq
    | next => exact hq.elim
    | brk => exact hq.elim
    | cont => exact hq.elim
end VL

set_option Elab.async false
set_option linter.all false
set_option maxRecDepth 100000
set_option maxHeartbeats 2000000
/-! VL59: a list comprehension whose parts may rely on the state of the frame at its start: a lambda of that frame is called in it. -/
namespace VL
open PySem PySem.Spec PyProof.Rows L2 LamX
/-- where the block starts: the frame at s, the iterator's own objects at fp -/
def BlkAt (X : Cx) (σ : L2.St) (s : Shared) (H : Hp) (fp : List Addr) : Prop := (∃ pins, Inv X pins σ H s) ∧ ∀ b ∈ fp, ∀ v, ¬ s.heap.IsCell b v
/-- an expression at slots that agree with σ but for vs -/
def PEr (X : Cx) (vs : List Nat) (σ : L2.St) (e : Expr) (t : TE) : Prop := ∀ (pins : List (Addr × Obj)) (s : Shared) (τ : L2.St) (H : Hp) (Q : VK), wipe τ vs = wipe σ vs → Inv X pins τ H s → t τ H Q → wpAny (model X.prog X.w) X.A (eval e X.env) (EP X pins τ Q) X.xe s
def PTr (X : Cx) (vs : List Nat) (σ : L2.St) (ifs : List Expr) (t : TT) : Prop := ∀ (pins : List (Addr × Obj)) (s : Shared) (τ : L2.St) (H : Hp) (Q : Bool → Hp → Prop), wipe τ vs = wipe σ vs → Inv X pins τ H s → t τ H Q →
  wpAny (model X.prog X.w) X.A (forIn ifs true fun c r => if r = true then do let ok ← isTrue c X.env (eval c X.env); pure (ForInStep.yield ok) else pure (ForInStep.yield r)) (TP X pins τ Q) X.xe s
theorem PTr.of {X : Cx} {vs : List Nat} {σ : L2.St} {ifs : List Expr} {t : TT} (h : PTs X ifs t) : PTr X vs σ ifs t := fun pins s τ H Q _ I ht => h.run pins s τ H Q I ht
theorem PEr.of {X : Cx} {vs : List Nat} {σ : L2.St} {e : Expr} {t : TE} (h : PE X e t) : PEr X vs σ e t := fun pins s τ H Q _ I ht => h.run pins s τ H Q I ht
section
variable {X : Cx}
theorem lc_frame {pins : List (Addr × Obj)} {s : Shared} {σ : L2.St} {H : Hp} {Q : VK} {elt tg iter : Expr} {ifs : List Expr} {scope : Scope} {own : List (Str × Nat)} {pos pos' : Pos} {wi : L2.TI} {g : TG} {tt : TT} {te : TE} {use : Option (Value → Sem Unit)} {Qf : Value → Shared → Prop}
    (calm : X.calm = true) (nd : X.N.Nodup) (I0 : Inv X pins σ H s) (dit : PI X tg iter wi) (okb : BlkOk X.N X.env.scope scope own)
    (dg : ∀ (s : Shared) (H : Hp) (C : Addr) (cl : List (Str × Addr)) (fp : List Addr), PG (X.blk s H scope (compEnvC scope cl C X.env) fp) tg g)
    (dt : ∀ (s : Shared) (H : Hp) (C : Addr) (cl : List (Str × Addr)) (fp : List Addr), BlkAt X σ s H fp → PTr (X.blk s H scope (compEnvC scope cl C X.env) fp) (own.map (·.2)) σ ifs tt)
    (de : ∀ (s : Shared) (H : Hp) (C : Addr) (cl : List (Str × Addr)) (fp : List Addr), BlkAt X σ s H fp → PEr (X.blk s H scope (compEnvC scope cl C X.env) fp) (own.map (·.2)) σ elt te) (nf : ∀ x, foldedSetIterable iter X.env x = pure x)
    (hw : tLc wi g tt te (own.map (·.2)) σ H Q)
    (back : ∀ D C s' m H', Inv X pins σ H' s' → Q (.ref D) H' → s'.heap.Ns C m → FpOk X pins H' C → compPost (model X.prog X.w) X.A X.xe use Qf (.ref D) C (.ok .next) s') :
    wpAny (model X.prog X.w) X.A (comprehension (.ListComp elt [⟨tg, iter, ifs, 0⟩] scope pos) scope X.env pos' (newList []) false (eval iter X.env) use) Qf X.xe s := by
  have clo : ∀ y ∈ scope.names, y.2 = .free → ∃ c, X.env.cells.lookup y.1 = some c := fun y hy e => (okb.free y hy e).elim (fun k => I0.ok.has _ (.inl k)) fun k => I0.ok.has _ (.inr k)
  refine wpAny_comprehension_free (use := use) rfl nf (closure_ok clo) okb.kind (fun y hy e => by rw [okb.uniq y hy, e]) (thn (dit.run pins s σ H _ I0 hw) fun vx s1 q1 => thn q1 fun vi s2 q2 => ?_)
  obtain ⟨it, fp, tn, J, H2, e2, J2, Tn, now2, fp2, hq⟩ := q2
  subst e2
  refine wpAny_newObj_type (newEnv_comp ?_) (by show 0 ≤ sizeLine; decide)
  generalize hDe : s2.heap.objs.size = D
  have freshD : H2 D = none := J2.hok.fresh (Nat.le_of_eq hDe)
  obtain ⟨Wd, ⟨m0, start⟩, turn⟩ := hq D freshD
  generalize hS : ({ s2 with heap := s2.heap.push { cls := .type "list", data := .seq ([] : List Value).toArray } } : Shared) = s3
  have heapS : s3.heap = s2.heap.push { cls := .type "list", data := .seq ([] : List Value).toArray } := by rw [← hS]
  have J3 : Inv X pins σ (upd H2 D (.lst [])) s3 := hS ▸ J2.laid (t' := s2.toks) (fun b o q => Heap.get?_push_of_some _ q) (Nat.le_of_eq hDe) ⟨Nat.zero_le _, [], 0, .nil, hDe ▸ Heap.get?_push_size _ rfl⟩
  have below : ∀ b ∈ fp, b < s2.heap.objs.size := fun b hb => let ⟨_, q, _⟩ := Tn.obj _ _ now2 b hb; Heap.lt_size q
  have fp3 : ∀ b ∈ fp, FpOk X pins (upd H2 D (.lst [])) b ∧ b < s3.heap.objs.size := fun b hb =>
    ⟨⟨(upd_ne (hDe ▸ Nat.ne_of_lt (below b hb))).trans (fp2 b hb).1, (fp2 b hb).2⟩, by rw [heapS, Heap.size_push]; exact Nat.lt_succ_of_lt (below b hb)⟩
  have now3 : tn 0 s3.heap := Tn.keep _ _ _ now2 fun b _ o q => heapS ▸ Heap.get?_push_of_some _ q
  have at3 : BlkAt X σ s3 (upd H2 D (.lst [])) fp := ⟨⟨pins, J3⟩, fun b hb v ⟨o, ho, hd⟩ => by
    obtain ⟨o', ho', hn⟩ := Tn.obj _ _ now3 b hb
    cases ho.symm.trans ho'
    exact hn v hd⟩
  have J4 := block_start J3 okb nd fp3
  have ig := dg s3 (upd H2 D (.lst [])) s3.heap.objs.size (cellsFrom (s3.heap.objs.size + 1) scope.names (cloFrom X.env.cells scope.names [])) fp
  have itt := dt s3 (upd H2 D (.lst [])) s3.heap.objs.size (cellsFrom (s3.heap.objs.size + 1) scope.names (cloFrom X.env.cells scope.names [])) fp at3
  have ie := de s3 (upd H2 D (.lst [])) s3.heap.objs.size (cellsFrom (s3.heap.objs.size + 1) scope.names (cloFrom X.env.cells scope.names [])) fp at3
  show codeAny _ _ (.compStart (.ListComp elt [⟨tg, iter, ifs, 0⟩] scope pos) 0 (.ref it) (.ref D) (compEnvC scope (cellsFrom (s3.heap.objs.size + 1) scope.names (cloFrom X.env.cells scope.names [])) s3.heap.objs.size X.env))
    (compPost (model X.prog X.w) X.A X.xe use Qf (.ref D) s3.heap.objs.size) { s3 with heap := pushCells (s3.heap.push { cls := .type "dict", data := .dict #[] }) scope.names }
  have out3 : ∀ b ∈ fp, (upd H2 D (.lst [])) b = none := fun b hb => (fp3 b hb).1.1
  generalize hEnv : compEnvC scope (cellsFrom (s3.heap.objs.size + 1) scope.names (cloFrom X.env.cells scope.names [])) s3.heap.objs.size X.env = en at J4 ig itt ie ⊢
  have locE : en.locals = s3.heap.objs.size := hEnv ▸ rfl
  generalize hHm : upd H2 D (.lst []) = H3 at J3 J4 ig itt ie start out3 fp3
  generalize hS4 : ({ s3 with heap := pushCells (s3.heap.push { cls := .type "dict", data := .dict #[] }) scope.names } : Shared) = s4 at J4 ⊢
  have now4 : tn 0 s4.heap := Tn.keep _ _ _ now3 fun b _ o q => hS4 ▸ pushCells_keeps _ _ _ _ (Heap.get?_push_of_some _ q)
  have static : ∀ {τ : L2.St} {H' : Hp} {s' : Shared}, Inv (X.blk s3 H3 scope en fp) [] τ H' s' → (∀ b ∈ fp, H' b = none) → ∀ b ∈ fp, FpOk (X.blk s3 H3 scope en fp) [] H' b := fun {τ H' s'} J' hn b hb =>
    ⟨hn b hb, (J'.ok.exf b hb).1, J'.ok.exfs b hb, .inl hb, fun x c q => (J'.ok.exf b hb).2 x c q, fun p hp => nomatch (show p ∈ ([] : List (Addr × Obj)) ++ [] from hp)⟩
  suffices loop : codeAny (model X.prog X.w) X.A (.compLoop (.ListComp elt [⟨tg, iter, ifs, 0⟩] scope pos) 0 (.ref it) (.ref D) en) (compPost (model X.prog X.w) X.A X.xe use Qf (.ref D) s3.heap.objs.size) s4 from codeAny_compStart_list loop (Tn.self X.A 0 _ _ _ now4 loop)
  refine compLoop_any (fun n s' => ∃ i H', Inv (X.blk s3 H3 scope en fp) [] (wipe σ (own.map (·.2))) H' s' ∧ tn i s'.heap ∧ (∀ b ∈ fp, H' b = none) ∧ Wd i n H') (fun n s5 hinv => ?_) m0 ⟨0, H3, J4, now4, out3, start⟩
  obtain ⟨i, H5, J5, now5, out5, w5⟩ := hinv
  rcases turn i n H5 w5 with ⟨stop, fin⟩ | ⟨go, Nx, nxt', step⟩
  · refine thnF (Tn.done (X.blk s3 H3 scope en fp) rfl rfl rfl calm i [] s5 _ H5 (fun _ _ => False) J5 (static J5 out5) now5 stop) fun r s6 hr6 => ?_
    obtain ⟨hr, J6⟩ := hr6
    subst hr
    have J7 : Inv X pins σ H5 s6 := J3.call' (ch := fp) J6.os J6.base J6.hok J6.bare fun b hb => let z := (fp3 b hb).1; ⟨z.2.2.2.1, z.2.1, z.2.2.2.2.1, z.2.2.2.2.2⟩
    have outC : H5 s3.heap.objs.size = none := locE ▸ (show H5 en.locals = none from J6.free)
    obtain ⟨m, nsC, _⟩ := J6.loc
    have nsC : s6.heap.Ns s3.heap.objs.size m := locE ▸ (show s6.heap.Ns en.locals m from nsC)
    exact back D s3.heap.objs.size s6 m H5 J7 fin nsC (J3.fpOk (Nat.le_refl _) outC)
  · refine thnF (Tn.item (X.blk s3 H3 scope en fp) rfl rfl rfl calm i [] s5 _ H5 (fun _ _ => False) J5 (static J5 out5) now5 go) fun r s6 hr6 => ?_
    obtain ⟨u, hr, q6⟩ := hr6
    subst hr
    refine thnF q6 fun _ s7 h7 => ?_
    obtain ⟨x, H7, J7, rx, yx, now7, out7⟩ := h7
    refine thnF (ig.run _ s7 _ H7 x u _ (J7.pinned (static J7 out7) (Tn.obj _ _ now7)) rx (step x H7 yx)) fun _ s8 h8 => ?_
    obtain ⟨τ, H8, J8, same8, q8⟩ := h8
    refine thnF (itt _ s8 τ H8 _ same8 J8 q8) fun b s9 h9 => ?_
    obtain ⟨H9, J9, q9⟩ := h9
    have fin : ∀ {s' : Shared} {H' : Hp}, Inv (X.blk s3 H3 scope en fp) ([] ++ pinsAt fp s7.heap) τ H' s' → Nx H' → ∃ m, m < n ∧ ∃ i H', Inv (X.blk s3 H3 scope en fp) [] (wipe σ (own.map (·.2))) H' s' ∧ tn i s'.heap ∧ (∀ b ∈ fp, H' b = none) ∧ Wd i m H' := fun {s' H'} J' nx => by
      obtain ⟨m', lt', w'⟩ := nxt' H' nx
      have held : ∀ b ∈ fp, ∀ o, s7.heap.get? b = some o → s'.heap.get? b = some o ∧ H' b = none := fun b hb o q =>
        let z := J'.pin (b, o) (List.mem_append_right _ (List.mem_append_right _ (mem_pinsAt hb q))); ⟨z.1, z.2.1⟩
      refine ⟨m', lt', i + 1, H', (J'.unpinned (pins := [])).weak (by rw [← same8, wipe_length]) (fun j v q => (wipe_some (same8 ▸ q)).1), Tn.keep _ _ _ now7 fun b hb o q => (held b hb o q).1, fun b hb => ?_, w'⟩
      obtain ⟨o, q, _⟩ := Tn.obj _ _ now7 b hb
      exact (held b hb o q).2
    cases b with
    | false =>
      rw [if_neg Bool.false_ne_true] at q9
      simp only [Bool.false_eq_true, if_false]
      exact fin J9 q9
    | true =>
      rw [if_pos rfl] at q9
      simp only [if_true]
      refine thnF (ie _ s9 τ H9 _ same8 J9 q9) fun z s10 h10 => ?_
      obtain ⟨yv, H10, J10, r10, acc, hD10, hz10, nx⟩ := h10
      exact app_ok (X := X.blk s3 H3 scope en fp) J10 hD10 hz10 r10 fun s11 J11 => fin J11 nx
theorem pe_lcF {elt tg iter : Expr} {ifs : List Expr} {scope : Scope} {own : List (Str × Nat)} {pos : Pos} {wi : L2.TI} {g : TG} {tt : TT} {te : TE} (calm : X.calm = true) (nd : X.N.Nodup) (dit : PI X tg iter wi) (okb : BlkOk X.N X.env.scope scope own)
    (dg : ∀ (s : Shared) (H : Hp) (C : Addr) (cl : List (Str × Addr)) (fp : List Addr), PG (X.blk s H scope (compEnvC scope cl C X.env) fp) tg g)
    (dt : ∀ (σ : L2.St) (s : Shared) (H : Hp) (C : Addr) (cl : List (Str × Addr)) (fp : List Addr), BlkAt X σ s H fp → PTr (X.blk s H scope (compEnvC scope cl C X.env) fp) (own.map (·.2)) σ ifs tt)
    (de : ∀ (σ : L2.St) (s : Shared) (H : Hp) (C : Addr) (cl : List (Str × Addr)) (fp : List Addr), BlkAt X σ s H fp → PEr (X.blk s H scope (compEnvC scope cl C X.env) fp) (own.map (·.2)) σ elt te)
    (nf : ∀ x, foldedSetIterable iter X.env x = pure x := by intro _; rfl) : PE X (.ListComp elt [⟨tg, iter, ifs, 0⟩] scope pos) (tLc wi g tt te (own.map (·.2))) := by
  refine ⟨fun pins s σ H Q I h => ?_⟩
  rw [eval_ListComp]
  refine lc_frame calm nd I dit okb dg (dt σ) (de σ) nf h fun D C s' m H' I' q hn f => ⟨m, hn, fun h'' sb => ?_⟩
  obtain ⟨f0, f1, f2, f3, f4, f5⟩ := f
  exact ⟨.ref D, H', I'.turned (t' := s'.toks) (fun b o hb e => (sb.2 b hb).trans e) f0 f1 f3 f4 f5, rfl, q⟩
end
/-- f(x) in a block: x's value a lambda of the frame ahead -/
def tCallBX (X : Cx) (kl : Nat) (vs : List Nat) (Pre : PreLX) (i : Nat) : TE := fun τ H Q => ∃ (Lm : LamPk X kl) (f c' : Addr), τ[i]? = some (some (.ref f)) ∧ Lm.at c' f H ∧ mkSp (Pre f (Lm.act c' f (wipe τ vs))) [.ref f] H Q E0
section
variable {X : Cx}
theorem per_callBX {k kl : Nat} {x a : Str} {i : Nat} {ps : List Str} {Pre : PreLX} {p q pos : Pos} {s : Shared} {H : Hp} {scope : Scope} {cl : List (Str × Addr)} {C : Addr} {fp : List Addr} {own : List (Str × Nat)} {σ : L2.St} (CL : CalLX X.prog X.w X.K X.mg X.base kl k x ps Pre) (hr : Room k X.A) (hat : BlkAt X σ s H fp)
    (hg : Gl (X.blk s H scope (compEnvC scope cl C X.env) fp) x) (hN : X.N[i]? = some a) (hv : Vis (compEnvC scope cl C X.env).scope a) (hda : (a == ("__debug__" : Str)) = false := by decide) (hcd : (a == ("__classdict__" : Str)) = false := by decide) (hdb : (x == ("__debug__" : Str)) = false := by decide)
    (hst : starEach [.Name a q] (compEnvC scope cl C X.env) = (false, eval (.Name a q) (compEnvC scope cl C X.env)) :: starEach [] (compEnvC scope cl C X.env) := by rfl) :
    PEr (X.blk s H scope (compEnvC scope cl C X.env) fp) (own.map (·.2)) σ (.Call (.Name x p) [.Name a q] [] pos) (tCallBX X kl (own.map (·.2)) Pre i) := by
  obtain ⟨g, fd, hm, hk, hb, hlen, hrun⟩ := CL.ex
  intro pins s5 τ H5 Q same I5 ⟨Lm, f, c', hi, hlat, sp⟩
  refine wpAny_Call_Name_kw (ld_glob I5 hg hm ?_ hdb)
  have ha : PA (X.blk s H scope (compEnvC scope cl C X.env) fp) [.Name a q] (tCons (tVar i) tNil) := pa_cons (pe_var hN hv hda hcd) pa_nil hst
  refine PySem.W.callWith_K (h₀ := X.base) I5.ok.mod.kin hk (thn (ha.run pos pins s5 τ H5 (fun vs H1 => vs = [.ref f] ∧ H1 = H5) I5 ⟨.ref f, hi, rfl, rfl⟩) fun us s6 hq => ?_) hst (by rfl)
  obtain ⟨vs, H6, I6, r6, ev, eH⟩ := hq
  subst ev
  subst eH
  refine ⟨I6.kIn, ?_⟩
  obtain ⟨v, rfl, rv⟩ : ∃ v, us = [v] ∧ RelV (.ref f) v := by
    cases r6 with
    | cons h t => cases t; exact ⟨_, rfl, h⟩
  obtain ⟨⟨pins0, I0⟩, nocell⟩ := hat
  have I0' : Inv X pins0 (wipe τ (own.map (·.2))) H s := I0.weak (by rw [same, wipe_length]) fun j v e => (wipe_some (same ▸ e)).1
  have kc : Cells H H6 s.heap s6.heap := cells_un (show Un (frs X.stack) fp H H6 s.heap s6.heap from I6.base) nocell
  have can := (can_lam (c' := c') (f := f) Lm I0').later kc
  have rc : codeAny (model X.prog X.w) X.A (.call (.ref g) ⟨[v], []⟩) (CR CX0 X.stack X.prog X.w H6 s6 Q E0) s6 := by
    have hls : ps.length = 1 := by
      obtain ⟨F0, Ω, As, R, hp, ha, _⟩ := sp
      rw [← hlen _ _ _ _ _ hp, ← ha.len]; rfl
    refine hrun X.A X.stack s6 H6 [v] [.ref f] Q f _ hr I6.env0 ?_ (.cons rv .nil) (actHX_of can) sp
    have := hb s6 [v] I6.kIn (by rw [hls]; rfl)
    rwa [List.append_nil] at this
  refine wpAny_call (codeAny_mono rc fun r s2 hq => ?_)
  cases r with
  | error e => exact (show False from hq).elim
  | ok fl =>
    cases fl with
    | ret u => exact I6.after hq
    | next => exact hq.elim
    | brk => exact hq.elim
    | cont => exact hq.elim
end
end VL

set_option Elab.async false
set_option linter.all false
set_option maxRecDepth 100000
set_option maxHeartbeats 2000000
/-! VL60: a lambda with a default as a value; lists of lambdas, walked by a comprehension that tries each. -/
namespace VL
open PySem PySem.Spec PyProof.Rows L2 LamX
section
variable {X : Cx} {kl : Nat}
theorem pe_lamVD {nm : Str} {c P : Addr} {params : Arguments} {body : Expr} {scope : Scope} {pos : Pos} {tb : XK → TE} {iv : Int} {dk : Nat} {dpos : Pos} (TB : TabB X.base X.mg c P) (hcode : X.env.code = .ref c) (L : LamSD X.N nm X.env.scope scope)
    (hbody : ∀ (E : XK) (A : Around) (outer : List PySem.Env) (s : Shared) (H : Hp) (f c' : Addr), Room kl (A.deeper (lamEnv X scope s.heap.objs.size f c')) → PE (lamCx X A outer s H E scope f c') body (tb E))
    (hpd : params.defaults = [.Constant (.int iv) dk dpos] := by rfl) (hk0 : params.kw_defaults = [] := by rfl)
    (hbind : ∀ (q : Str) (cl : List (Str × Addr)) (T0 : Addr) (doc pm cv ctv : Value) (t : Tok) (s : Shared), s.heap.get? T0 = some (PySem.W.kdv_tup [.int iv t]) → BindsTo s (PySem.W.kdv_fn "<lambda>" q params (.expr body) scope cl (.ref T0) doc pm cv ctv) ⟨[], []⟩ [(nm, .int iv t)] := by
      intro q cl T0 doc pm cv ctv t s h
      exact BindsTo.of_defaults rfl h rfl (by rfl) (by rfl)) :
    PE X (.Lambda params body scope pos) (tLamV X ⟨params, body, scope, tb, hbody⟩ P) := by
  refine ⟨fun pins s σ H Q I hz => PySem.W.kdv_lam (by rw [hpd]; rfl) hk0 ?_⟩
  obtain ⟨⟨ps, hP, ht, ha⟩, hq⟩ := hz
  rw [hpd]
  refine PySem.W.kdv_all1 (thn ((pe_int (X := X) (i := iv) (j := dk) (pos := dpos)).run pins s σ H (fun v H1 => v = .int iv ∧ H1 = H) I ⟨rfl, rfl⟩) fun u s1 hu => ?_)
  obtain ⟨_, H1, I1, r1, ev, eH⟩ := hu
  subst ev
  subst eH
  obtain ⟨t, rfl⟩ := r1
  refine PySem.W.kdv_all0 ?_
  rw [makeFunction_eq]
  simp only [List.zip_nil_right, List.filterMap_nil, List.isEmpty_nil, if_true, pure_bind, (rfl : ([Value.int iv t] : List Value).isEmpty = false), Bool.false_eq_true, if_false]
  refine wpAny_bind (wpAny_newTextTuple ?_)
  have nT : H1 s1.heap.objs.size = none := I1.hok.fresh (Nat.le_refl _)
  have lP : P < s1.heap.objs.size := Heap.lt_size (I1.hok P _ hP)
  have I2 := I1.laid (t' := s1.toks) (a := s1.heap.objs.size) (o := LamO s1.heap.objs.size (PySem.W.kdv_tup [Value.int iv t])) (h' := s1.heap.push (PySem.W.kdv_tup [Value.int iv t])) (fun b o e => Heap.get?_push_of_some _ e) (Nat.le_refl _) (lamO_ok (Heap.get?_push_size _ rfl))
  show wpAny (model X.prog X.w) X.A (makeTail "<lambda>" (X.env.qual ++ "<lambda>") params (.expr body) scope X.env (.ref s1.heap.objs.size) .none none pos pos.line) _ X.xe { s1 with heap := s1.heap.push (PySem.W.kdv_tup [Value.int iv t]) }
  generalize hs2 : ({ s1 with heap := s1.heap.push (PySem.W.kdv_tup [Value.int iv t]) } : Shared) = s2 at *
  generalize s1.heap.objs.size = T0 at *
  generalize hH2 : upd H1 T0 (LamO T0 (PySem.W.kdv_tup [Value.int iv t])) = H2 at *
  have nPT : P ≠ T0 := Nat.ne_of_lt lP
  have hP2 : H2 P = some (.tbl ps) := by rw [← hH2, upd_ne nPT]; exact hP
  have hT2 : H2 T0 = some (LamO T0 (PySem.W.kdv_tup [Value.int iv t])) := by rw [← hH2]; exact upd_same
  have ha2 : ∀ (pos : Pos) (cv : Value), codeAmong pos ps.toList = some cv → ∃ c, cv = .ref c ∧ H2 c = some (CodeO c (lamQ X)) := fun pos cv h => by
    obtain ⟨c, e1, e2⟩ := ha pos cv h
    exact ⟨c, e1, by rw [← hH2, upd_ne (ne_of_none e2 nT)]; exact e2⟩
  have clo := L.has I2.ok
  have bP : s2.heap.BuiltinsAt X.mg P := TB.bm.keeps I2.bk
  have oP : s2.heap.get? P = some { cls := .none, data := .fields ps } := I2.hok P _ hP2
  have fin : ∀ (c' : Addr) (doc pm ctv : Value) (h' : Heap) (tk : Nat) (H3 : Hp), Inv X pins σ H3 { s2 with heap := h', toks := tk } → Grown H2 P (lamQ X) H3 c' → T0 < h'.objs.size →
      EP X pins σ Q (.ref h'.objs.size) { s2 with heap := h'.push (PySem.W.kdv_obj "<lambda>" (X.env.qual ++ "<lambda>") params (.expr body) scope (cloFrom X.env.cells scope.names []) (.ref T0) doc pm c' ctv), toks := tk } := fun c' doc pm ctv h' tk H3 I3 gr lT => by
    have n3 : H3 h'.objs.size = none := I3.hok.fresh (Nat.le_refl _)
    have I4 := I3.laid (t' := tk) (a := h'.objs.size) (o := LamO h'.objs.size (PySem.W.kdv_obj "<lambda>" (X.env.qual ++ "<lambda>") params (.expr body) scope (cloFrom X.env.cells scope.names []) (.ref T0) doc pm c' ctv)) (h' := h'.push (PySem.W.kdv_obj "<lambda>" (X.env.qual ++ "<lambda>") params (.expr body) scope (cloFrom X.env.cells scope.names []) (.ref T0) doc pm c' ctv))
      (fun b o e => Heap.get?_push_of_some _ e) (Nat.le_refl _) (lamO_ok (Heap.get?_push_size _ rfl))
    refine ⟨.ref h'.objs.size, _, I4, rfl, hq _ c' _ fun F Ω l kt hh hkt hm hu => ?_⟩
    obtain ⟨hh0, e0⟩ := hh.newF (u := LamO T0 (PySem.W.kdv_tup [Value.int iv t])) nT
    rw [hH2] at hh0
    obtain ⟨F1, e1, hh1, hc⟩ := grown_holds hh0 hkt hm hu gr
    obtain ⟨hh2, e2⟩ := hh1.newF (u := LamO h'.objs.size (PySem.W.kdv_obj "<lambda>" (X.env.qual ++ "<lambda>") params (.expr body) scope (cloFrom X.env.cells scope.names []) (.ref T0) doc pm c' ctv)) n3
    exact ⟨_, e0.trans (e1.trans e2), hh2, .dflt upd_same (e2 _ _ (e1 _ _ upd_same)) L hbind, e2 _ _ hc⟩
  cases hc : codeAmong pos ps.toList with
  | some cv =>
    obtain ⟨c', e, hco⟩ := ha2 pos cv hc
    subst e
    refine PySem.W.kdv_makeTailHit (mg := X.mg) (c := c) (P := P) (ps := ps) (closure_ok clo) I2.ok.glob (I2.mod.glob.keeps I2.bk) hcode (TB.code.keeps I2.bk) oP ht hc bP fun ctv doc h' tk hx hsz => ?_
    exact fin c' doc _ ctv h' tk H2 (I2.kept (t' := tk) (h' := h') hx) (.inl ⟨rfl, ps, pos, hP2, hc⟩) (Nat.lt_of_lt_of_le (Heap.lt_size (lamO_at I2.hok hT2)) hsz)
  | none =>
    refine PySem.W.kdv_makeTail (mg := X.mg) (c := c) (P := P) (ps := ps) (closure_ok clo) I2.ok.glob (I2.mod.glob.keeps I2.bk) hcode (TB.code.keeps I2.bk) oP ht hc TB.gP bP fun c' ctv doc h' tk hx hge hlt hrec htb => ?_
    obtain ⟨c2, oc, vs, t2, e2, hoc, hd, hv⟩ := hrec
    cases e2
    have nC : H2 c' = none := I2.hok.fresh hge
    refine fin c' doc _ ctv h' tk _ (inv_table (t' := tk) (more := #[rawInt pos.line, rawInt pos.col, .ref c']) (h' := h') I2 hP2 hx htb hge ⟨oc, vs, t2, hoc, hd, hv⟩) (.inr ⟨ps, #[rawInt pos.line, rawInt pos.col, .ref c'], hP2, nC, rfl, fun z => ?_, fun pos2 cv z hcv => ?_⟩) ?_
    · rw [Array.toList_append]; exact PySem.TriplesOk_snoc _ _ _ _ z
    · rw [Array.toList_append] at hcv
      exact among_app _ z hcv
    · exact Nat.lt_of_lt_of_le (Heap.lt_size (lamO_at I2.hok hT2)) (Nat.le_of_lt (Nat.lt_of_le_of_lt hge hlt))
end
/-! lists of any values: joined -/
section
variable {T : TC} {Γ : List (Option VA)} {Ω Ω1 Ω2 Ω0 Ω' : List OA} {A B : VA} {u : Value} {ta tb te : TE} {As Bs : List VA} {D : Ends} {F0 : Hp}
theorem noC_X {ks : List (Nat × OA)} {L : List OA} {X : OA} (h : NoC T (stt Ω ks L) A u) : NoC T (stt Ω ks (L ++ [X])) A u := fun F H v hh a => h F H v (by rw [← stt_app] at hh; exact hh.drop) a
/-- element by element -/
inductive Pw {γ : Type} (P : VA → γ → Prop) : List VA → List γ → Prop
  | nil : Pw P [] []
  | cons {A : VA} {y : γ} {As : List VA} {ys : List γ} (h : P A y) (t : Pw P As ys) : Pw P (A :: As) (y :: ys)
theorem Pw.len {γ : Type} {P : VA → γ → Prop} : ∀ {As : List VA} {ys : List γ}, Pw P As ys → As.length = ys.length
  | _, _, .nil => rfl
  | _, _, .cons _ t => by rw [List.length_cons, List.length_cons, t.len]
theorem Pw.zip {γ : Type} {P : VA → γ → Prop} : ∀ {As : List VA} {ys : List γ}, Pw P As ys → (As.zip ys).map (·.1) = As ∧ (As.zip ys).map (·.2) = ys ∧ ∀ z ∈ As.zip ys, P z.1 z.2
  | _, _, .nil => ⟨rfl, rfl, fun z h => nomatch h⟩
  | _, _, .cons h t => by
    obtain ⟨h1, h2, h3⟩ := t.zip
    refine ⟨by rw [List.zip_cons_cons, List.map_cons, h1], by rw [List.zip_cons_cons, List.map_cons, h2], fun z hz => ?_⟩
    rcases List.mem_cons.mp hz with rfl | hz
    · exact h
    · exact h3 z hz
theorem lcM_zip {γ : Type} : ∀ zs : List (VA × γ), lcM (fun (z : VA × γ) (_ : Unit) => some (some z.2, ())) zs () = some (zs.map (·.2), ())
  | [] => rfl
  | z :: zs => by
    show (lcM _ zs ()).bind _ = _
    rw [lcM_zip zs]; rfl
theorem xi_zip1 {γ : Type} {wi : L2.TI} {zs : List (VA × γ)} (h : XI wi Γ Ω (zs.map (·.1)) (fun A => A) Ω1) : XI wi Γ Ω zs (fun z => z.1) Ω1 := fun F σ H e hh R r =>
  h F σ H e hh R fun F' J H' Sx e' hh' W sx => r F' J H' Sx e' hh' ⟨W.mono, fun i F Ω H q hh hi => W.go i F Ω H q hh (by rw [List.length_map]; exact hi), fun F Ω H q hh => by have := W.stop F Ω H q hh; rwa [List.length_map] at this,
    fun i a F Ω H x H' q hh hx y => W.yld i a.1 F Ω H x H' q hh (by rw [List.getElem?_map, hx]; rfl) y⟩ sx
/-- [f(x) for x in a list of any values] -/
theorem xn_lcA {γ : Type} [Rp γ] {ys : List γ} {wi : L2.TI} {i : Nat} {vs : List Nat} {ks : List (Nat × OA)} {L : List OA} (hi : XI wi Γ Ω0 As (fun A => A) (stt Ω ks L)) (hj : i ∈ vs) (hz : As.length ≤ sizeLine)
    (hb : ∀ X : OA, Pw (fun A y => XE te ((wip Γ vs).set i (some A)) (stt Ω ks (L ++ [X])) (va T y) (stt Ω ks (L ++ [X]))) As ys) : XG (tLc wi (gName i) tYes te vs) Γ Ω0 (RN (stt Ω ks L) fun p => lstA T p ys) := by
  obtain ⟨z1, z2, _⟩ := (hb (lstA T 0 ys)).zip
  have hm := lcM_zip (As.zip ys)
  rw [z2] at hm
  refine xn_lcS (f := fun (z : VA × γ) Γ => Γ.set i (some z.1)) (js := [i]) (fun _ : Unit => ks) (fun _ => L) hm (xi_zip1 (by rw [z1]; exact hi)) (fun a => tgt_name) (fun j hj' => by rw [List.mem_singleton.mp hj']; exact hj) (by rw [← List.length_map (f := Prod.fst), z1]; exact hz) fun a s o s' ha h X => ?_
  obtain ⟨rfl, rfl⟩ := Prod.mk.inj (Option.some.inj h)
  refine ⟨(fun z => nomatch z), fun y e => ?_⟩
  cases e
  exact ⟨xt_yes, (hb X).zip.2.2 a ha⟩
end
section
variable {X : Cx} {kl : Nat} {T : TC} {Γ : List (Option VA)} {Ω Ω2 Ω' : List OA} {A : VA}
/-- f(x), x's value a lambda of the frame ahead; Γ the slots with the block's own ones wiped -/
theorem xe_callBX {Lm : LamPk X kl} {Pre : PreLX} {o : Option XC} {i : Nat} {vs : List Nat} {Ω3 : List OA} (hi : i < Γ.length) (hv : wip Γ vs = Γ) (hv2 : i ∈ vs) (ho : Outc T Γ Ω Ω' Lm.tb o) (hp : ∀ f act, Pre f act [askX T f act (stt Ω [] []) (stt Ω' [] []) o] Ω (RV A Ω3)) (he : Ω3 = Ω2) :
    XE (tCallBX X kl vs Pre i) (Γ.set i (some (lamV X Lm))) Ω A Ω2 := fun F σ H e hh Q q => by
  have hp : ∀ f act, Pre f act [askX T f act Ω Ω' o] Ω (RV A Ω3) := fun f act => by have := hp f act; rwa [cal0', cal0'] at this
  subst he
  obtain ⟨v, hv1, f, c', rfl, hat⟩ := e.2 i _ (List.getElem?_set_self hi)
  have eW : Env F (wipe σ vs) Γ := by
    have lw : ∀ (σ : L2.St) (vs : List Nat), (wipe σ vs).length = σ.length := wipe_length
    refine ⟨by rw [lw, e.1, List.length_set], fun j B hB => ?_⟩
    have nj : j ∉ vs := fun hj => by
      have wn : ∀ (vs : List Nat) (Γ : List (Option VA)), j ∈ vs → (wip Γ vs)[j]? ≠ some (some B) := fun vs => by
        induction vs with
        | nil => intro Γ hj; exact nomatch hj
        | cons a r ih =>
          intro Γ hj hc
          have hc : ((wip Γ r).set a none)[j]? = some (some B) := hc
          by_cases z : a = j
          · subst z
            by_cases lt : a < (wip Γ r).length
            · rw [List.getElem?_set_self lt] at hc; cases hc
            · rw [List.getElem?_eq_none (by rw [List.length_set]; omega)] at hc; cases hc
          · rw [List.getElem?_set_ne z] at hc
            rcases List.mem_cons.mp hj with h | h
            · exact z h.symm
            · exact ih Γ h hc
      exact wn vs Γ hj (by rw [hv]; exact hB)
    have ji : i ≠ j := fun z => nj (z ▸ hv2)
    obtain ⟨w, h1, h2⟩ := e.2 j B (by rw [List.getElem?_set_ne ji]; exact hB)
    refine ⟨w, ?_, h2⟩
    have keep : ∀ (vs : List Nat) (σ : L2.St), j ∉ vs → (wipe σ vs)[j]? = σ[j]? := fun vs => by
      induction vs with
      | nil => intro σ _; rfl
      | cons a r ih =>
        intro σ hn
        show ((wipe σ r).set a none)[j]? = _
        rw [List.getElem?_set_ne (fun z => hn (by rw [z]; exact .head _)), ih σ fun z => hn (.tail _ z)]
    rw [keep vs σ nj]; exact h1
  refine ⟨Lm, f, c', hv1, ⟨hat.1.mono hh.same, hh.same _ _ hat.2⟩, F, Ω, _, _, hp f _, .cons ⟨rfl, fun F2 H2 e2 hh2 E Q' hE hQ => ?_⟩ .nil, hh, fun F' v H' Ω4 e' hh' r => q F' v H' Ω4 e' hh' r⟩
  refine ⟨⟨hat.1.mono (e2.trans hh2.same), (e2.trans hh2.same) _ _ hat.2⟩, ?_⟩
  have e3 := eW.mono e2
  cases o with
  | some r => exact ho E F2 (hE r rfl) _ H2 ⟨F2, Same.refl F2, e3, hh2⟩ Q'
  | none =>
    obtain ⟨B, hB⟩ := ho E
    exact hB F2 _ H2 e3 hh2 Q' fun F4 v4 H4 Ω4 e4 hh4 ⟨_, o4⟩ => hQ rfl F4 v4 H4 e4 (o4 ▸ hh4)
end
end VL

set_option Elab.async false
set_option linter.all false
set_option maxRecDepth 100000
set_option maxHeartbeats 2000000
/-! VL61: tuples of any values; deep lists or tuples; lists of a value or None. -/
namespace VL
open PySem PySem.Spec PyProof.Rows L2 LamX
section
variable {T : TC} {Γ : List (Option VA)} {Ω Ω1 Ω2 : List OA} {A B : VA} {u t : Value} {ta : TA} {te : TE}
def tpA (T : TC) (As : List VA) : VA := ⟨fun F v => ∃ p vs, v = .ref p ∧ SqT T.K F p vs ∧ AlA F vs As, fun e ⟨p, vs, h1, h2, h3⟩ => ⟨p, vs, h1, Same.tup e h2, h3.mono e⟩⟩
theorem xe_tpA {As : List VA} (h : XA ta Γ Ω As Ω1) (hz : As.length ≤ sizeLine) : XE (tTup ta) Γ Ω (tpA T As) Ω1 := fun F σ H e hh Q q =>
  h F σ H e hh _ fun F1 xs H1 e1 hh1 a1 => ⟨by rw [a1.len]; exact hz, fun p hp => by
    obtain ⟨hh2, e2⟩ := hh1.newF (u := .tup xs) hp
    exact q _ _ _ _ (e1.trans e2) hh2 ⟨⟨p, xs, rfl, SqT.of upd_same, a1.mono e2⟩, rfl⟩⟩
theorem tya_dct {d : DF} : TyA T Ω (va T d) (.type "dict") := fun F H v hh ⟨p, od, h1, h2⟩ => h1 ▸ .fDict (hh.same _ _ h2)
end
/-- a list or a tuple of things that are not looked at -/
inductive DX where
  | mk
instance : Rp DX := ⟨fun T F v _ => ∃ p vs, v = .ref p ∧ (F p = some (.lst vs) ∨ SqT T.K F p vs), fun e ⟨p, vs, h1, h2⟩ => ⟨p, vs, h1, h2.elim (fun h => .inl (e _ _ h)) fun h => .inr (Same.tup e h)⟩⟩
section
variable {T : TC} {Γ : List (Option VA)} {Ω Ω1 : List OA} {A : VA} {u : Value} {ta : TA} {te : TE}
theorem xe_dxL {As : List VA} (ha : XA ta Γ Ω As Ω1) (hz : As.length ≤ sizeLine) : XE (tLst ta) Γ Ω (va T DX.mk) Ω1 := fun F σ H e hh Q q =>
  xe_lsA ha hz F σ H e hh _ fun F1 v H1 Ω' e1 hh1 ⟨⟨p, vs, h1, h2, _⟩, o1⟩ => q F1 v H1 Ω' e1 hh1 ⟨⟨p, vs, h1, .inl h2⟩, o1⟩
theorem xe_dxT {As : List VA} (ha : XA ta Γ Ω As Ω1) (hz : As.length ≤ sizeLine) : XE (tTup ta) Γ Ω (va T DX.mk) Ω1 := fun F σ H e hh Q q =>
  xe_tpA (T := T) ha hz F σ H e hh _ fun F1 v H1 Ω' e1 hh1 ⟨⟨p, vs, h1, h2, _⟩, o1⟩ => q F1 v H1 Ω' e1 hh1 ⟨⟨p, vs, h1, .inr h2⟩, o1⟩
theorem noC_dx (h1 : PySem.W.kitOne T.K (.type "list") u = some false) (h2 : PySem.W.kitOne T.K (.type "tuple") u = some false) : NoC T Ω (va T DX.mk) u := fun F H v hh ⟨p, vs, e, h⟩ =>
  h.elim (fun h => ⟨_, e ▸ .base (.lst (hh.same _ _ h)), h1⟩) fun h => ⟨_, e ▸ ty_sqt (Same.tup hh.same h), h2⟩
end
section
variable {T : TC} {Γ : List (Option VA)} {Ω Ω1 : List OA} {te : TE} {α : Type} [Rp α]
end
section
variable {T : TC} {Γ : List (Option VA)} {Ω Ω1 Ω2 : List OA} {A : VA} {As : List VA} {t : TA} {sp : Sp} {Pre : PreT}
end
end VL

set_option Elab.async false
set_option linter.all false
set_option maxRecDepth 100000
set_option maxHeartbeats 2000000
/-! VL62: isinstance of a caught exception, with or without a dict; a raising call with a new machine ahead. -/
namespace VL
open PySem PySem.Spec PyProof.Rows L2 LamX
/-- what the class D of an exception must be -/
structure ExI (K : PySem.W.Frag) (D : Addr) : Prop where
  hc : (PySem.W.clsIn K D).isSome = true
  hg : PySem.W.findIn K (.ref D) "__getattribute__" = some (some (.builtin "BaseException.__getattribute__"))
  hk : PySem.W.findIn K (.ref D) "__getattr__" = some none
  hs : PySem.W.subIn K (.ref D) (.type "BaseException") = some true
  ha : PySem.W.findIn K (.ref D) "__class__" = some (some (.builtin "object.__class__"))
  hn : PySem.W.specialIn K (.builtin "object.__class__") "__get__" = some (some (.builtin "getset_descriptor.__get__"))
  ht : PySem.W.takesIn K (.builtin "object.__class__") = some true
  hm : PySem.W.mroIn K D (.type "object") = some true
/-- isinstance(e, c), e the exception caught: its class and its dict told by the wish -/
def rIsX (K : PySem.W.Frag) (cls : Value) (d : Option Addr) (a : Addr) : List V → Hp → VK → Prop := fun xs H Q =>
  ∃ (D : Addr) (c : V) (cv : Value) (b : Bool), cls = .ref D ∧ ExI K D ∧ xs = [.ref a, c] ∧ (∀ u, RelV c u → u = cv) ∧ PySem.W.kitOne K (.ref D) cv = some b ∧ (∀ dd, d = some dd → ∃ fs, H dd = some (.xd fs)) ∧ Q (.bl b) H
section
variable {X : Cx}
end
section
variable {T : TC} {Γ : List (Option VA)} {Ω Ω1 : List OA} {te tc : TE}
end
/-! a raising call with a new machine ahead -/
section
variable {T : TC} {Γ : List (Option VA)} {Ω Ω0 Ω1 : List OA} {sp : Sp} {PreX : PreXX} {t : TA} {ta : TE} {W : WX} {As : List VA} {r : XC} {F0 : Hp}
end
end VL

set_option Elab.async false
set_option linter.all false
set_option maxRecDepth 100000
set_option maxHeartbeats 2000000
/-! VL63: a dict of the program by numbers, read only. -/
namespace VL
open PySem PySem.Spec PyProof.Rows L2 LamX
/-- the written dict at d: these numbers, each with its value -/
structure IDict (K : PySem.W.Frag) (d : Addr) (kvs : List (Int × Int)) : Prop where
  ex : ∃ es n, K.lookup d = some ⟨.type "dict", none, .dict es n, #[]⟩ ∧ entB es.toList kvs = true
  low : (d == sysModules) = false
theorem ent_keys (P : Program) (w : World) : ∀ {l : List DictEntry} {kvs : List (Int × Int)}, entB l kvs = true → ∀ e ∈ l, ∃ k, (intKind P w).is k e.key = true ∧ e.hash = (intKind P w).hash k
  | [], _, _, _, m => nomatch m
  | e :: r, [], h, _, _ => nomatch h
  | e :: r, p :: q, h, x, m => by
    obtain ⟨h1, h⟩ := Bool.and_eq_true_iff.mp h
    obtain ⟨h2, h⟩ := Bool.and_eq_true_iff.mp h
    obtain ⟨h3, h4⟩ := Bool.and_eq_true_iff.mp h
    rcases List.mem_cons.mp m with rfl | m
    · obtain ⟨hash, key, val⟩ := x
      cases key with
      | int a t =>
        obtain rfl := of_decide_eq_true h1
        exact ⟨p.1, intKind_is P w p.1 t, of_decide_eq_true h3⟩
      | _ => cases h1
    · exact ent_keys P w h4 x m
def GetsI (o : Option Value) : Option Int → Prop
  | some v => ∃ t, o = some (.int v t)
  | none => o = none
theorem ent_find : ∀ {l : List DictEntry} {kvs : List (Int × Int)} (k : Int), entB l kvs = true → GetsI ((l.find? fun e => Value.isInt k e.key).map (·.val)) (kvs.lookup k)
  | [], [], k, _ => rfl
  | [], _ :: _, _, h => nomatch h
  | e :: r, [], _, h => nomatch h
  | e :: r, p :: q, k, h => by
    obtain ⟨h1, h⟩ := Bool.and_eq_true_iff.mp h
    obtain ⟨h2, h⟩ := Bool.and_eq_true_iff.mp h
    obtain ⟨h3, h4⟩ := Bool.and_eq_true_iff.mp h
    obtain ⟨hash, key, val⟩ := e
    obtain ⟨pk, pv⟩ := p
    cases key with
    | int a t =>
      obtain rfl : a = pk := of_decide_eq_true h1
      cases val with
      | int b u =>
        obtain rfl : b = pv := of_decide_eq_true h2
        by_cases z : k = a
        · subst z
          rw [List.lookup_cons, show (k == k) = true from beq_self_eq_true k]
          refine ⟨u, ?_⟩
          rw [List.find?_cons_of_pos (by simp [Value.isInt])]
          rfl
        · rw [List.lookup_cons, show (k == a) = false from beq_false_of_ne z]
          rw [List.find?_cons_of_neg (by simp [Value.isInt]; exact fun e => z e.symm)]
          exact ent_find k h4
      | _ => cases h2
    | _ => cases h1
section
variable {X : Cx} {d : Addr} {kvs : List (Int × Int)}
theorem IDict.map (D : IDict X.K d kvs) {h : Heap} (I : X.K.In h) : ∃ f, h.MapOf (intKind X.prog X.w) d f ∧ ∀ k, GetsI (f k) (kvs.lookup k) := by
  obtain ⟨es, n, hl, he⟩ := D.ex
  refine ⟨fun k => findBy Value.isInt es k, ⟨_, es, n, I _ _ hl, ⟨rfl, rfl, rfl⟩, rfl, fun e m => ent_keys _ _ he e (Array.mem_toList_iff.mpr m), fun _ => rfl⟩, fun k => ?_⟩
  have := ent_find k he
  obtain ⟨l⟩ := es
  show GetsI (findBy Value.isInt ⟨l⟩ k) _
  unfold findBy
  rw [List.find?_toArray]
  exact this
def rInID (d : Addr) (kvs : List (Int × Int)) (g : Bool → Bool) : R2 := fun x y H Q => ∃ i : Int, x = .int i ∧ y = .ref d ∧ Q (.bl (g (kvs.lookup i).isSome)) H
end
section
variable {T : TC} {Γ : List (Option VA)} {Ω Ω1 Ω2 : List OA} {te tc : TE} {i : Int} {d : Addr} {kvs : List (Int × Int)} {g : Bool → Bool}
end
end VL

set_option Elab.async false
set_option linter.all false
set_option maxRecDepth 100000
set_option maxHeartbeats 2000000
/-! VL64: one of several values, not known which; a lambda that asks with it raises the same for each. -/
namespace VL
open PySem PySem.Spec PyProof.Rows L2 LamX
def orA (As : List VA) : VA := ⟨fun F v => ∃ A ∈ As, A.P F v, fun e ⟨A, h, p⟩ => ⟨A, h, A.mono e p⟩⟩
section
variable {T : TC} {Γ : List (Option VA)} {Ω Ω' Ω1 Ω2 : List OA} {As : List VA} {A B : VA} {u : Value} {i : Nat} {tb : XK → TE} {r : XC}
end
/-- all tell the same -/
def allX {α : Type} (f : α → Option XC) (l : List α) (r : XC) : Prop := ∀ a ∈ l, f a = some r
end VL

set_option Elab.async false
set_option linter.all false
set_option maxRecDepth 100000
set_option maxHeartbeats 2000000
/-! VL65: a list of any values that grows by append, then stands. -/
namespace VL
open PySem PySem.Spec PyProof.Rows L2 LamX
def lstV (p : Addr) (As : List VA) : OA := ⟨fun F t => ∃ vs, t p = some (.lst vs) ∧ AlA F vs As, fun e ⟨vs, h1, h2⟩ => ⟨vs, h1, h2.mono e⟩⟩
section
variable {T : TC} {Γ : List (Option VA)} {Ω Ω1 Ω2 : List OA} {As : List VA} {A : VA} {ta tb : TE} {t : TA} {D : Ends} {F0 : Hp} {ts : TS} {p : Addr}
end
end VL

set_option Elab.async false
set_option linter.all false
set_option maxRecDepth 100000
set_option maxHeartbeats 2000000
/-! VL66: a, b = x, y of any values. -/
namespace VL
open PySem PySem.Spec PyProof.Rows L2 LamX
section
variable {T : TC} {A B : VA} {k l : Nat} {Γ : List (Option VA)} {Ω Ω1 : List OA} {ta : TA} {ts : TS} {D : Ends} {F0 : Hp}
end
end VL

set_option Elab.async false
set_option linter.all false
set_option maxRecDepth 100000
set_option maxHeartbeats 2000000
/-! VL67: a call by keywords that raises. -/
namespace VL
open PySem PySem.Spec PyProof.Rows L2 LamX
/-- f(.., k = v, ..), its errors at the slots -/
def tCallNS (n m : Nat) (sp : Sp) (gV : List V → List V → List V) (E : L2.St → XK) (t tk : TA) : TE := fun σ H Q => t σ H fun vs H1 => tk σ H1 fun zs H2 => vs.length = n ∧ zs.length = m ∧ sp (gV vs zs) H2 Q (E σ)
structure CalXK (P : Program) (w : World) (K : PySem.W.Frag) (mg : Str → Option Value) (base : Heap) (k : Nat) (x : Str) (ps : List Str) (n : Nat) (ks : List Str) (dvs : List V) (ix : List Nat) (sp : Sp) : Prop where
  ex : ∃ f fd g, FnOk P w K mg base (L2.CX P w) k f fd ps sp ∧ mg x = some (.ref f) ∧ PySem.W.keepIn K (.ref f) = true ∧ KBn K fd ps n ks g (fun vs zs => prm ix (vs ++ (dvs ++ zs)))
section
variable {X : Cx} {k n : Nat} {x : Str} {ps ks : List Str} {dvs : List V} {ix : List Nat} {sp : Sp} {p pos : Pos} {e : Expr} {es : List Expr} {kws : List Keyword} {t tk : TA} {W : WX}
end
section
variable {T : TC} {Γ : List (Option VA)} {Ω Ω1 Ω2 : List OA} {sp : Sp} {PreX : PreXX} {t tk : TA} {W : WX} {As Ks Ds : List VA} {dvs : List V} {ix : List Nat} {r : XC} {F0 : Hp} {n m : Nat}
end
end VL

set_option Elab.async false
set_option linter.all false
set_option maxRecDepth 100000
/-! VL68: a name for a pair of a new list and a value; for over four. -/
namespace VL
open PySem L2 PyProof.Rows
section
variable {T : TC} {Γ : List (Option VA)} {Ω Ω0 Ω1 Ω2 : List OA} {B : VA} {te : TE} {D : Ends} {F0 : Hp} {ts : TS}
end
end VL
namespace VL
open PySem PySem.Spec L2 PyProof.Rows
/-- some dict, locked for good -/
def dicA : VA := ⟨fun F v => ∃ p od kvs, v = .ref p ∧ F p = some (.frz od (.dK kvs)), fun e ⟨p, od, kvs, h1, h2⟩ => ⟨p, od, kvs, h1, e _ _ h2⟩⟩
def rawFz (p : Addr) (u : HO) : OA := ⟨fun _ t => t p = some u, fun _ h => h⟩
section
variable {T : TC} {Γ : List (Option VA)} {Ω Ω0 Ω1 Ω2 : List OA} {te : TE}
end
end VL

set_option Elab.async false
set_option linter.all false
set_option maxRecDepth 100000
set_option maxHeartbeats 2000000
/-! VL69: defs with keyword-only parameters that raise; a pick that tells which; None and values of any kind. -/
namespace VL
open PySem PySem.Spec PyProof.Rows L2 LamX
section
variable {P : Program} {w : World} {K : PySem.W.Frag} {mg : Str → Option Value} {base : Heap}
end
section
variable {T : TC} {Γ : List (Option VA)} {Ω Ω1 Ω2 : List OA} {A : VA} {As : List VA} {ta tb te : TE} {i : Int}
/-- one of some values, the i-th -/
def pkA (As : List VA) (i : Int) : VA := ⟨fun F v => ∃ A, As[i.toNat]? = some A ∧ A.P F v, fun e ⟨A, h, p⟩ => ⟨A, h, A.mono e p⟩⟩
theorem xe_appER {α : Type} [Rp α] {k : Nat} {p : Addr} {a : α} {l l2 : List α} {Ω2 : List OA} (h0 : Ω[k]? = some (lstA T p l2)) (hk : Ω1[k]? = some (lstA T p l)) (ha : XE ta Γ Ω (vr p) Ω) (hb : XE tb Γ Ω (va T a) Ω1) (hz : l.length < sizeLine) (he : Ω1.set k (lstA T p (l ++ [a])) = Ω2) :
    XE (tBM T.K "list" rAppend ta (tCons tb tNil)) Γ Ω (va T ()) Ω2 := he ▸ xe_app h0 hk ha hb hz
end
end VL

set_option Elab.async false
set_option linter.all false
set_option maxRecDepth 100000
set_option maxHeartbeats 2000000
/-! VL70: a target of two pairs; dict(pairs) whose keys come several times. -/
namespace VL
open PySem PySem.Spec PyProof.Rows L2
section
variable {T : TC} {Γ : List (Option VA)} {Ω Ω1 Ω2 : List OA} {A : VA} {te : TE}
/-- max of three ints -/
def rMax3 : List V → Hp → VK → Prop := L2.rNuC3 L2.nuMax3
/-- a dict of pairs, one behind another -/
def mrgS (l : List (Str × Int)) : List (Str × Int) := l.foldl (fun d q => dput d q.1 q.2) []
end
end VL

set_option Elab.async false
set_option linter.all false
set_option maxRecDepth 100000
set_option maxHeartbeats 2000000
/-! VL71: min and index of a list; a list behind which None is put, all but the last of it. -/
namespace VL
open PySem PySem.Spec PyProof.Rows L2
def minL : List Int → Int
  | [] => 0
  | [a] => a
  | a :: r => min a (minL r)
theorem minL_mem : ∀ {l : List Int}, l ≠ [] → minL l ∈ l
  | [], h => absurd rfl h
  | [a], _ => List.mem_cons_self
  | a :: b :: r, _ => by
    show min a (minL (b :: r)) ∈ _
    rcases Int.le_total a (minL (b :: r)) with h | h
    · rw [Int.min_eq_left h]; exact List.mem_cons_self
    · rw [Int.min_eq_right h]; exact List.mem_cons_of_mem _ (minL_mem (List.cons_ne_nil _ _))
theorem minL_le : ∀ {l : List Int} {y : Int}, y ∈ l → minL l ≤ y
  | [], y, h => by cases h
  | [a], y, h => by rw [List.mem_singleton.mp h]; exact Int.le_refl _
  | a :: b :: r, y, h => by
    show min a (minL (b :: r)) ≤ y
    rcases List.mem_cons.mp h with e | h'
    · subst e; omega
    · have := minL_le h'; omega
theorem minL_is {l : List Int} {m : Int} (h : m ∈ l) (k : ∀ y, y ∈ l → m ≤ y) : m = minL l :=
  Int.le_antisymm (k _ (minL_mem (List.ne_nil_of_mem h))) (minL_le h)
theorem cr_minK {X : Cx} {K : PySem.W.Frag} (h : X.K = K) (hc : X.calm = true) : CallR X (.builtin "min") (L2.rMin K) := h ▸ L2.cr_min hc
theorem mt_indexK {X : Cx} {K : PySem.W.Frag} (h : X.K = K) : MtR X "list.index" (rIndex K) := h ▸ mt_index
section
variable {T : TC} {Γ : List (Option VA)} {Ω Ω1 Ω2 : List OA} {A : VA} {te ta tb : TE} {p : Addr}
theorem xe_minL {l : List Int} (ha : XE te Γ Ω A Ω1) (hl : IsLs T Ω1 A l) (h0 : 0 < l.length) : XE (tCB (L2.rMin T.K) (tCons te tNil)) Γ Ω (va T (minL l)) Ω1 := xe_cb (xa_cons ha xa_nil) fun F H vs hh a Q q => by
  obtain ⟨v, rfl, a1⟩ := alA1 a
  obtain ⟨p, ws, rfl, hs, al⟩ := hl F H v hh a1
  refine ⟨p, l, rfl, ?_, h0, fun m h1 h2 => ?_⟩
  · rw [← al_ints al]
    exact SqL.of hs
  · rw [minL_is h1 h2]
    exact q F _ H (Same.refl F) hh rfl
theorem idx_at {l : List Int} {x : Int} (h : x ∈ l) : l[l.idxOf x]? = some x ∧ ∀ m, m < l.idxOf x → l[m]? ≠ some x := by
  induction l with
  | nil => cases h
  | cons a r ih =>
    by_cases e : a = x
    · subst e
      rw [List.idxOf_cons_self]
      exact ⟨rfl, fun m hm => absurd hm (Nat.not_lt_zero m)⟩
    · have hr : x ∈ r := (List.mem_cons.mp h).resolve_left fun z => e z.symm
      obtain ⟨i1, i2⟩ := ih hr
      have e2 : (a :: r).idxOf x = r.idxOf x + 1 := by rw [List.idxOf_cons, show (a == x) = false from by simpa using e]; rfl
      rw [e2]
      refine ⟨i1, fun m hm => ?_⟩
      cases m with
      | zero => intro z; exact e (Option.some.inj z)
      | succ m => exact i2 m (by omega)
theorem xe_index {l : List Int} {x : Int} (ha : XE te Γ Ω A Ω1) (hb : XE ta Γ Ω1 (va T x) Ω2) (hl : IsLs T Ω1 A l) (hl2 : IsLs T Ω2 A l) (hx : x ∈ l) : XE (tBM T.K "list" (rIndex T.K) te (tCons ta tNil)) Γ Ω (va T ((l.idxOf x : Nat) : Int)) Ω2 := fun F σ H e hh Q q => by
  refine ha F σ H e hh _ fun F1 v H1 Ω' e1 hh1 ⟨a1, o1⟩ => ?_
  subst o1
  obtain ⟨p, vs, ex, hp, al⟩ := hl F1 H1 v hh1 a1
  subst ex
  refine ⟨.inl ⟨rfl, vs, SqL.of hp⟩, ?_⟩
  refine hb F1 σ H1 (e.mono e1) hh1 _ fun F2 y H2 Ω' e2 hh2 ⟨a2, o2⟩ => ?_
  subst o2
  have a2 : y = V.int x := a2
  subst a2
  obtain ⟨p', ws, ex, hp', al'⟩ := hl2 F2 H2 _ hh2 (A.mono e2 a1)
  cases ex
  rw [al_ints al'] at hp'
  obtain ⟨i1, i2⟩ := idx_at hx
  refine ⟨p, l.map V.int, .int x, l.idxOf x, .int x, rfl, rfl, SqL.of hp', rfl, ?_, ?_, ?_, fun m z' hm hz => ?_, q F2 _ H2 _ (e1.trans e2) hh2 ⟨rfl, rfl⟩⟩
  · rw [List.all_eq_true]
    intro y hy
    obtain ⟨n, _, rfl⟩ := List.mem_map.mp hy
    rfl
  · rw [List.getElem?_map, i1]; rfl
  · show (x == x) = true
    exact beq_self_eq_true x
  · rw [List.getElem?_map] at hz
    cases hq : l[m]? with
    | none => rw [hq] at hz; cases hz
    | some n =>
      rw [hq] at hz
      cases hz
      show (n == x) = false
      rw [beq_eq_false_iff_ne]
      intro z
      subst z
      exact i2 m hm hq
/-- a list behind which None stands -/
def lnA (T : TC) {α : Type} [Rp α] (p : Addr) (l : List α) : OA := ⟨fun F t => ∃ vs, t p = some (.lst (vs ++ [.non])) ∧ Al T F vs l, fun e ⟨vs, h1, h2⟩ => ⟨vs, h1, h2.mono e⟩⟩
theorem xe_appN {α : Type} [Rp α] {k : Nat} {l : List α} (hk : Ω[k]? = some (lstA T p l)) (ha : XE ta Γ Ω (vr p) Ω) (hb : XE tb Γ Ω (va T ()) Ω) (hz : l.length < sizeLine) (he : Ω.set k (lnA T p l) = Ω2) :
    XE (tBM T.K "list" rAppend ta (tCons tb tNil)) Γ Ω (va T ()) Ω2 := fun F σ H e hh Q q => by
  subst he
  refine ha F σ H e hh _ fun F1 x H1 Ω' e1 hh1 ⟨a1, o1⟩ => ?_
  subst o1
  obtain ⟨p0, vs0, e0, h00, _⟩ := isLs_M hk F1 H1 x hh1 a1
  have a1 : x = .ref p := a1
  subst a1
  cases e0
  refine ⟨.inl ⟨rfl, _, SqL.of h00⟩, ?_⟩
  refine hb F1 σ H1 (e.mono e1) hh1 _ fun F2 y H2 Ω'' e2 hh2 ⟨a2, o2⟩ => ?_
  subst o2
  obtain ⟨t, ⟨vs, h1, al⟩, st, _, wr⟩ := hh2.get hk
  have a2 : y = .non := a2
  subst a2
  refine ⟨p, vs, .non, rfl, rfl, st _ _ h1, by rw [al_len al]; exact hz, ?_⟩
  exact q F2 _ _ _ (e1.trans e2) (wr (lnA T p l) p _ _ h1 ⟨_, upd_same, al⟩) ⟨rfl, rfl⟩
theorem cutV_init {l : List V} {d : V} : cutV (l ++ [d]) none (some (-1)) = l := by
  have h1 : HT.sIx (l ++ [d]).length 0 none = 0 := rfl
  have h2 : HT.sIx (l ++ [d]).length (l ++ [d]).length (some (-1)) = l.length := by
    show (if (-1 : Int) < 0 then (-1 + ((l ++ [d]).length : Int)).toNat else min (-1 : Int).toNat (l ++ [d]).length) = l.length
    rw [if_pos (by decide), List.length_append]
    show (-1 + ((l.length + 1 : Nat) : Int)).toNat = _
    omega
  unfold cutV
  rw [h1, h2, List.drop_zero, Nat.sub_zero, List.take_left' rfl]
theorem xe_cutN {α : Type} [Rp α] {k : Nat} {l : List α} {tl th : TO} (hk : Ω[k]? = some (lnA T p l)) (ha : XE ta Γ Ω (vr p) Ω) (hl : XO tl Γ Ω none) (hu : XO th Γ Ω (some (-1))) : XE (tSl (rSlL T.K) ta tl th) Γ Ω (va T (LF.mk l)) Ω := fun F σ H e hh Q q => by
  refine ha F σ H e hh _ fun F1 x H1 Ω' e1 hh1 ⟨a1, o1⟩ => ?_
  subst o1
  have a1 : x = .ref p := a1
  subst a1
  refine hl F1 σ H1 (e.mono e1) hh1 _ fun F2 H2 e2 hh2 => ?_
  refine hu F2 σ H2 ((e.mono e1).mono e2) hh2 _ fun F3 H3 e3 hh3 => ?_
  obtain ⟨t, ⟨vs, h1, al⟩, st, _, wr⟩ := hh3.get hk
  refine ⟨p, vs ++ [.non], rfl, SqL.of (st _ _ h1), fun d hd => ?_⟩
  rw [cutV_init]
  obtain ⟨hh4, e4⟩ := hh3.newF (u := .lst vs) hd
  exact q _ _ _ _ (((e1.trans e2).trans e3).trans e4) hh4 ⟨⟨d, _, rfl, upd_same, al.mono e4⟩, rfl⟩
theorem xn_callNK {Pre : PreT} {E : XK} {t tk : TA} {As Ks : List VA} {ix : List Nat} {n m : Nat} {Ω' Ω3 : List OA} {o : Addr → OA} (ha : XA t Γ Ω As Ω1) (hk : XA tk Γ Ω1 Ks Ω2) (hp : Pre (prm ix (As ++ Ks)) Ω2 (RN Ω' o)) (he : Ω' = Ω3) (h1 : As.length = n := by rfl) (h2 : Ks.length = m := by rfl) :
    XG (tCallN n m (mkSp Pre) (fun vs zs => prm ix (vs ++ zs)) E t tk) Γ Ω (RN Ω3 o) := fun F σ H e hh Q q => by
  subst he
  refine ha F σ H e hh _ fun F1 xs H1 e1 hh1 a1 => ?_
  refine hk F1 σ H1 (e.mono e1) hh1 _ fun F2 zs H2 e2 hh2 a2 => ?_
  refine ⟨a1.len.trans h1, a2.len.trans h2, F2, Ω2, _, _, hp, prm_relA ix ((a1.mono e2).app a2), hh2, fun F' v H' Ω4 e' hh' r => q F' v H' Ω4 ((e1.trans e2).trans e') hh' r⟩
end
end VL

set_option Elab.async false
set_option linter.all false
/-! the mathematics: loops by invariants, digits, bits -/
namespace VL
open PySem L2
theorem chkP_eq {p : Prop} (h : p) : chkP p = some () := by unfold chkP; exact if_pos h
theorem bnd_of {α β : Type} {o : Option α} {a : α} {f : α → Option β} {r : Option β} (h : o = some a) (k : f a = r) : o.bind f = r := by rw [h]; exact k
/-! ### loops -/
section
variable {α S ρ : Type} {b : α → S → Option (Stp S ρ)}
theorem forM_cons {x : α} {r : List α} {s s' : S} (h : b x s = some (.nx s')) : forM' b (x :: r) s = forM' b r s' := by
  show (b x s).bind _ = _
  rw [h]
  rfl
theorem forM_ind (I : Nat → S → Prop) : ∀ (xs : List α) (k : Nat) (s : S), (∀ i x s, xs[i]? = some x → I (k + i) s → ∃ s', b x s = some (.nx s') ∧ I (k + i + 1) s') → I k s → ∃ s', forM' b xs s = some (.nx s') ∧ I (k + xs.length) s'
  | [], k, s, _, h => ⟨s, rfl, h⟩
  | x :: r, k, s, hs, h => by
    obtain ⟨s1, e1, i1⟩ := hs 0 x s rfl h
    obtain ⟨s2, e2, i2⟩ := forM_ind I r (k + 1) s1 (fun i y t hy ht => by
      obtain ⟨t', e, q⟩ := hs (i + 1) y t hy (by rw [show k + (i + 1) = k + 1 + i from by omega]; exact ht)
      exact ⟨t', e, by rw [show k + 1 + i + 1 = k + (i + 1) + 1 from by omega]; exact q⟩) i1
    exact ⟨s2, by rw [forM_cons e1, e2], by rw [List.length_cons, show k + (r.length + 1) = k + 1 + r.length from by omega]; exact i2⟩
theorem whileM_f {c : S → Option Bool} {bd : S → Option (Stp S ρ)} {n : Nat} {s : S} (h : c s = some false) : whileM c bd (n + 1) s = some (.nx s) := by
  show (c s).bind _ = _
  rw [h]
  rfl
theorem whileM_t {c : S → Option Bool} {bd : S → Option (Stp S ρ)} {n : Nat} {s s' : S} (h : c s = some true) (h2 : bd s = some (.nx s')) : whileM c bd (n + 1) s = whileM c bd n s' := by
  show (c s).bind _ = _
  rw [h]
  show (bd s).bind _ = _
  rw [h2]
  rfl
end
theorem lcM_mapU {β γ : Type} {b : β → Unit → Option (Option γ × Unit)} {f : β → γ} : ∀ {xs : List β}, (∀ x ∈ xs, b x () = some (some (f x), ())) → lcM b xs () = some (xs.map f, ())
  | [], _ => rfl
  | x :: r, h => by
    show (b x ()).bind _ = _
    rw [h x List.mem_cons_self]
    show (lcM b r ()).bind _ = _
    rw [lcM_mapU fun y hy => h y (List.mem_cons_of_mem _ hy)]
    rfl
theorem lcM_noneU {β γ : Type} {b : β → Unit → Option (Option γ × Unit)} : ∀ {xs : List β}, (∀ x ∈ xs, b x () = some (none, ())) → lcM b xs () = some ([], ())
  | [], _ => rfl
  | x :: r, h => by
    show (b x ()).bind _ = _
    rw [h x List.mem_cons_self]
    show (lcM b r ()).bind _ = _
    rw [lcM_noneU fun y hy => h y (List.mem_cons_of_mem _ hy)]
    rfl
/-! ### bits -/
def bl (a : Nat) : Nat := if a = 0 then 0 else a.log2 + 1
theorem intBits_nat (a : Nat) : Builtin.Int.intBits (a : Int) = bl a := by
  unfold Builtin.Int.intBits bl
  by_cases h : a = 0
  · subst h; rfl
  · rw [if_neg h, if_neg (by simpa using h), Int.natAbs_natCast]
def pc (a : Nat) : Nat := if h : a = 0 then 0 else a % 2 + pc (a / 2)
termination_by a
decreasing_by omega
/-! ### digits -/
def dg (w a : Nat) : List Int := if h : a = 0 ∨ w = 0 then [] else ((a % 2 ^ w : Nat) : Int) :: dg w (a / 2 ^ w)
termination_by a
decreasing_by
  have h1 : a ≠ 0 := fun e => h (.inl e)
  have h2 : w ≠ 0 := fun e => h (.inr e)
  exact Nat.div_lt_self (by omega) (Nat.one_lt_two_pow h2)
section
variable {w : Nat} (hw : w ≠ 0)
include hw
end
/-! ### rows from the last digit on, compared -/
def vm (B : Int) : List Int → Int
  | [] => 0
  | d :: r => d * B ^ r.length + vm B r
def cp : List Int → List Int → Nat
  | x :: r, y :: t => if x = y then cp r t + 1 else 0
  | _, _ => 0
end VL

set_option Elab.async false
set_option linter.all false
/-! rows from the first digit on; masks of any number -/
namespace VL
open PySem L2
theorem mod_neg (t : Nat) {M : Nat} (hM : 0 < M) : (-(t : Int) - 1) % (M : Int) = (M : Int) - 1 - ((t % M : Nat) : Int) := by
  have h := Nat.div_add_mod t M
  have lt := Nat.mod_lt t hM
  have e : (-(t : Int) - 1) = ((M : Int) - 1 - ((t % M : Nat) : Int)) + (M : Int) * (-((t / M : Nat) : Int) - 1) := by
    have q : (t : Int) = ((M * (t / M) + t % M : Nat) : Int) := by rw [h]
    rw [q, Int.mul_sub, Int.mul_neg, Int.mul_one]
    push_cast
    omega
  rw [e, Int.add_mul_emod_self_left, Int.emod_eq_of_lt (by omega) (by omega)]
theorem and_low (x : Int) (W : Nat) : Builtin.bitAnd x ((2 ^ W - 1 : Nat) : Int) = x % 2 ^ W := by
  have hp : 0 < 2 ^ W := Nat.two_pow_pos W
  have e2 : ((2 : Int) ^ W) = ((2 ^ W : Nat) : Int) := by rw [Int.natCast_pow]; rfl
  rw [e2]
  by_cases h : 0 ≤ x
  · obtain ⟨a, rfl⟩ := Int.eq_ofNat_of_zero_le h
    rw [PySem.W.os_band, Nat.and_two_pow_sub_one_eq_mod]
    exact Int.natCast_emod _ _
  · obtain ⟨t, ht⟩ := Int.eq_ofNat_of_zero_le (a := -x - 1) (by omega)
    have ex : x = -(t : Int) - 1 := by omega
    have en : Builtin.bitNot x = (t : Int) := by show -x - 1 = (t : Int); exact ht
    unfold Builtin.bitAnd
    rw [decide_eq_false h, decide_eq_true (show (0 : Int) ≤ ((2 ^ W - 1 : Nat) : Int) from by omega)]
    show ((2 ^ W - 1 : Nat) : Int) - (((((2 ^ W - 1 : Nat) : Int)).toNat &&& (Builtin.bitNot x).toNat : Nat) : Int) = _
    rw [en, Int.toNat_natCast, Int.toNat_natCast, Nat.and_comm, Nat.and_two_pow_sub_one_eq_mod, ex, mod_neg t hp]
    omega
def lv (B : Int) : List Int → Int
  | [] => 0
  | d :: r => d + B * lv B r
end VL

set_option Elab.async false
set_option linter.all false
/-! sizes; rows of so many digits; differences -/
namespace VL
open PySem L2
theorem intBits_abs (n : Int) : Builtin.Int.intBits n = bl n.natAbs := by
  rw [← intBits_nat]
  unfold Builtin.Int.intBits
  rw [Int.natAbs_natCast]
  by_cases h : n = 0
  · subst h; rfl
  · rw [if_neg (by simpa using h), if_neg (by simpa using h)]
theorem bl_lt (a : Nat) : a < 2 ^ bl a := by
  unfold bl
  by_cases h : a = 0
  · subst h; decide
  · rw [if_neg h]; exact Nat.lt_log2_self
theorem bl_le {a k : Nat} : bl a ≤ k ↔ a < 2 ^ k := by
  constructor
  · intro h
    exact Nat.lt_of_lt_of_le (bl_lt a) (Nat.pow_le_pow_right (by decide) h)
  · intro h
    unfold bl
    by_cases e : a = 0
    · rw [if_pos e]; exact Nat.zero_le _
    · rw [if_neg e]
      have := (Nat.log2_lt e).mpr h
      omega
/-- how many digits -/
def sz (W a : Nat) : Nat := (bl a + W - 1) / W
/-! rows of so many digits -/
def rw_ (W : Nat) (n : Int) : Nat → List Int
  | 0 => []
  | k + 1 => (n % 2 ^ W) :: rw_ W (n / 2 ^ W) k
theorem pp (W k : Nat) : (2 : Int) ^ (W * k) = ((2 ^ (W * k) : Nat) : Int) := by rw [Int.natCast_pow]; rfl
theorem p2 (k : Nat) : (2 : Int) ^ k = ((2 ^ k : Nat) : Int) := by rw [Int.natCast_pow]; rfl
theorem ppos (k : Nat) : (0 : Int) < 2 ^ k := Int.pow_pos (by decide)
theorem shl_ok {n i : Int} {k : Nat} (h : n.natAbs < 2 ^ k) (h0 : 0 ≤ i) (h2 : (k : Int) + i ≤ 2 ^ 27) : CShl n i := ⟨h0, by
  rw [intBits_abs]
  have := bl_le.mpr h
  omega⟩
end VL
/-! ### a value that is there, and of which something holds -/
namespace VL
open PySem L2
def Sat {α : Type} (o : Option α) (P : α → Prop) : Prop := ∃ r, o = some r ∧ P r
section
variable {α β S ρ : Type} {o : Option α} {P : α → Prop} {Q : β → Prop} {f : α → Option β} {a : α}
theorem sat_bind (h : Sat o P) (k : ∀ r, P r → Sat (f r) Q) : Sat (o.bind f) Q := by
  obtain ⟨r, e, p⟩ := h
  rw [e]
  exact k r p
theorem sat_eq (h : o = some a) (k : Sat (f a) Q) : Sat (o.bind f) Q := by rw [h]; exact k
theorem sat_let (k : Sat (f a) Q) : Sat ((some a).bind f) Q := k
theorem sat_chk {p : Prop} {f : Unit → Option β} (h : p) (k : Sat (f ()) Q) : Sat ((chkP p).bind f) Q := by rw [chkP_eq h]; exact k
theorem sat_some {a : β} (h : Q a) : Sat (some a) Q := ⟨a, rfl, h⟩
theorem sat_ite {c : Bool} {x y : Option β} (h1 : c = true → Sat x Q) (h2 : c = false → Sat y Q) : Sat (if c = true then x else y) Q := by
  cases c with
  | true => rw [if_pos rfl]; exact h1 rfl
  | false => rw [if_neg Bool.false_ne_true]; exact h2 rfl
theorem sat_get (h : Sat o (fun r => r = a)) : o = some a := by
  obtain ⟨r, e, p⟩ := h
  rw [e, p]
variable {γ : Type}
theorem sat_for {b : γ → S → Option (Stp S ρ)} {xs : List γ} {s0 : S} {g : Stp S ρ → Option β} (I : Nat → S → Prop)
    (h : ∀ i x s, xs[i]? = some x → I i s → Sat (b x s) (fun st => ∃ s', st = .nx s' ∧ I (i + 1) s')) (h0 : I 0 s0) (k : ∀ s, I xs.length s → Sat (g (.nx s)) Q) : Sat ((forM' b xs s0).bind g) Q := by
  obtain ⟨s', e, i⟩ := forM_ind (b := b) I xs 0 s0 (fun i x s hx hi => by
    rw [Nat.zero_add] at hi
    obtain ⟨st, e, s', e2, q⟩ := h i x s hx hi
    exact ⟨s', by rw [e, e2], by rw [Nat.zero_add]; exact q⟩) h0
  rw [e]
  rw [Nat.zero_add] at i
  exact k s' i
theorem sat_forA {b : γ → S → Option (Stp S ρ)} {xs : List γ} {s0 : S} {g : Stp S ρ → Option β} (I : S → Prop)
    (h : ∀ x ∈ xs, ∀ s, I s → Sat (b x s) (fun st => ∃ s', st = .nx s' ∧ I s')) (h0 : I s0) (k : ∀ s, I s → Sat (g (.nx s)) Q) : Sat ((forM' b xs s0).bind g) Q :=
  sat_for (fun _ => I) (fun i x s hx hi => h x (List.mem_of_getElem? hx) s hi) h0 fun s hi => k s hi
theorem sat_nx {s : S} {g : S → Option β} (k : Sat (g s) Q) : Sat ((nxt (Stp.nx (ρ := ρ) s)).bind g) Q := k
theorem sat_end {s : S} {I : S → Prop} (h : I s) : Sat (some (Stp.nx (ρ := ρ) s)) (fun st => ∃ s', st = .nx s' ∧ I s') := ⟨_, rfl, s, rfl, h⟩
end
theorem rng_len (lo : Int) (n : Nat) : (rng lo n).length = n := by unfold rng; rw [List.length_map, List.length_range]
theorem rng_get {lo : Int} {n i : Nat} {x : Int} (h : (rng lo n)[i]? = some x) : i < n ∧ x = lo + (i : Int) := by
  have lt := getlt h
  rw [rng_len] at lt
  unfold rng at h
  rw [List.getElem?_map, List.getElem?_range lt] at h
  exact ⟨lt, (Option.some.inj h).symm⟩
theorem sat_atI {α β : Type} {Q : β → Prop} {l : List α} {i : Int} {f : α → Option β} (h0 : 0 ≤ i) (h : i < (l.length : Int)) (k : ∀ x ∈ l, Sat (f x) Q) : Sat ((atI l i).bind f) Q := by
  obtain ⟨n, rfl⟩ := Int.eq_ofNat_of_zero_le h0
  have lt : n < l.length := by omega
  rw [atI_nat (List.getElem?_eq_getElem lt)]
  exact k _ (List.getElem_mem lt)
theorem size_lt {n m : Nat} (h : n ≤ m) (hm : m < 16777216) : n < sizeLine := Nat.lt_of_le_of_lt h (by show m < 2 ^ 24; exact hm)
theorem size_le {n m : Nat} (h : n ≤ m) (hm : m ≤ 16777216) : n ≤ sizeLine := Nat.le_trans h (by show m ≤ 2 ^ 24; exact hm)
/-- the words with numbers above 0 -/
def posL (l : List (Str × Int)) : List (Str × Int) := l.filter fun p => decide (0 < p.2)
theorem mem_lookup {l : List (Str × Int)} {k : Str} {v : Int} (h : l.lookup k = some v) : (k, v) ∈ l := by
  induction l with
  | nil => cases h
  | cons a r ih =>
    rw [show (a :: r) = ((a.1, a.2) :: r) from rfl, List.lookup_cons] at h
    cases q : k == a.1 with
    | true =>
      rw [q] at h
      have h := Option.some.inj h
      rw [beq_iff_eq.mp q, ← h]
      exact List.mem_cons_self
    | false => rw [q] at h; exact List.mem_cons_of_mem _ (ih h)
/-- the same above 0 -/
def Cnt (S : MS) (l : List (Str × Int)) : Prop := (l.map (·.1)).Nodup ∧ (∀ x ∈ l, x.1 ∈ mwords) ∧ ∀ w ∈ mwords, (∀ n, l.lookup w = some n → 0 < n → S.cnt w = n) ∧ (0 < S.cnt w → l.lookup w = some (S.cnt w))
end VL
namespace VL
open PySem L2
end VL
namespace VL
open PySem L2
end VL
namespace VL
open PySem L2
def WkOk (l : List (T3 Str Int Int)) : Prop := ∀ x ∈ l, (PyData.str x.a).canLay0 = true
end VL
namespace VL
open PySem L2
end VL

set_option Elab.async false
set_option linter.all false
/-! bits of any integers -/
namespace VL
open PySem L2 PyProof.Rows
abbrev band := Builtin.bitAnd
theorem half (x y : Int) : band x y = 2 * band (x / 2) (y / 2) + (if x % 2 = 1 ∧ y % 2 = 1 then 1 else 0) := PySem.W.kbt_halves x y
theorem bnot_eq (x : Int) : Builtin.bitNot x = -x - 1 := rfl
/-! one bit -/
def bit (x : Int) (i : Nat) : Int := x / 2 ^ i % 2
end VL

set_option Elab.async false
set_option linter.all false
set_option maxRecDepth 100000
/-! VD: long division digit by digit, by numbers: the guess, how often it is corrected, what each place finds. -/
namespace VL
open PySem L2
section
variable {B E b r : Nat}
variable {h v1 v2 : Nat}
end
/-! ### the steps, by the two numbers that are divided: b has all its digits, E stands behind its last two -/
/-- what is divided at place i: the rest so far and the next digit -/
def dvR (B A b i : Nat) : Nat := A / B ^ (i + 1) % b * B + A / B ^ i % B
def dvS (B E A b i : Nat) : T4 Int Int Bool Int :=
  ⟨((dvR B A b i / E / B / (b / E / B) : Nat) : Int), ((dvR B A b i / E / B / (b / E / B) : Nat) : Int) - ((dvR B A b i / E / (b / E) : Nat) : Int), decide (dvR B A b i / b < dvR B A b i / E / (b / E)), ((dvR B A b i / b : Nat) : Int)⟩
/-- the steps of k places, from the top -/
def dvSteps (B E A b : Nat) : Nat → List (T4 Int Int Bool Int)
  | 0 => []
  | k + 1 => dvS B E A b k :: dvSteps B E A b k
end VL

set_option Elab.async false
set_option linter.all false
set_option maxRecDepth 100000
set_option maxHeartbeats 4000000
namespace P
open PySem L2 VL
section
variable {P : Program} {w : World} {mg : Str → Option Value} {base : Heap} {T : TC}

abbrev qual__law_refused_right : Str := (("_law_refused_right" : Str) ++ ".<locals>.") ++ "<lambda>"
def tbs (T : TC) : List (Addr × Str) := [(T.C 100, qual__law_refused_right)]
theorem mem__law_refused_right (T : TC) : (T.C 100, qual__law_refused_right) ∈ tbs T := by simp [tbs]
noncomputable def M_shown (x0 : Str) : Option Str :=
  some x0
def Pre_shown (T : TC) : PreT := fun As Ω R => ∃ (x0 : Str) (r : Str), As = [va T x0] ∧ M_shown x0 = some r ∧ R = RV (va T r) (stt Ω [] [])
theorem sc_shown : FnScope ["field"] ["field"] (defScope s_shown) := ⟨rfl, rfl, rfl, by decide +kernel, rfl, by decide +kernel, by decide +kernel⟩
theorem ok_shown {f : Addr} {fd : FuncData} (F : Fun T.K "shown" "shown" s_shown f fd) (z_isinstance : mg "isinstance" = none) (z_str : mg "str" = none) : FnOk P w T.K mg base CX0 2 f fd ["field"] (mkSp (Pre_shown T)) := by
  refine fn_ok F sc_shown (fun As Ω R h => ?_) (fun cdv A outer s H E hr As Ω R F0 h => ?_)
  · obtain ⟨x0, r, rfl, _⟩ := h
    rfl
  obtain ⟨x0, r, rfl, hm, rfl⟩ := h
  refine ⟨_, (pss_cons (ps_if (pt_val (pe_callB (cr_isiK (K := T.K) rfl) (by rfl) z_isinstance (by decide +kernel) (pa_cons (pv 0) (pa_cons (pe_bltn (v := .ty "str") (by rfl) z_str (by decide +kernel) rfl) pa_nil)))) (pss_one (ps_ret (pv 0))) pss_never) pss_never), fun D hrt hnx => ?_⟩
  have ok : Okk Ω [] := okk0
  suffices hx : XS _ D F0 [some (va T x0)] (stt Ω [] []) by
    rw [show (stt Ω [] []) = Ω from stt_self (by simp)] at hx
    exact hx
  unfold M_shown at hm
  refine xs_ifT (xt_tB (T := T) (xe_isi (xe_var (i := 0) rfl) xe_vx (.ty _) (fun F H v hh a => ty_str hh a) (kit_ty (by decide +kernel)))) ?_
  obtain rfl := Option.some.inj hm
  refine xs_ret (xe_var (i := 0) rfl) hrt.all
theorem sc_ix_InvalidBound : FnScope ["self", "argument"] ["self", "argument"] (defScope s_ix_InvalidBound) := ⟨rfl, rfl, rfl, by decide +kernel, rfl, by decide +kernel, by decide +kernel⟩
theorem ok_ix_InvalidBound {f : Addr} {fd : FuncData} {fI : Addr} (F : Fun T.K "__init__" "InvalidBound.__init__" s_ix_InvalidBound f fd) (T0 : IxC T.K (T.C 300) (T.C 301) fI "argument") (g0 : mg "BitsError" = some (.ref (T.C 301))) (c_shown : Cal P w T.K mg base 2 "shown" ["field"] (mkSp (Pre_shown T))) : FnOk P w T.K mg base CX0 3 f fd ["self", "argument"] (spIx (T.C 300) "argument") := by
  refine F.ok sc_ix_InvalidBound (fun vs H Q E h => ?_) (fun cdv A outer s H vs Q E hr h => ⟨_, (pss_cons (ps_expr (pe_ixI T0 (by rfl) g0 (pa_cons (pv 0) (pa_cons (pe_joined (.cons pe_str (.cons (pe_fmt (pe_cal c_shown (hr.mono (by decide)) (by rfl) (pa_cons (pv 1) pa_nil))) .nil))) pa_nil)))) (pss_one (ps_ixS T0 (pv 0) (pv 1)))), ?_⟩)
  · obtain ⟨a, x, rfl, _⟩ := h
    rfl
  · refine ix_run (T := T) rfl (fun a x hx => ⟨va T (Str.empty ++ ("wrong argument: " : Str) ++ x), ?_⟩) h
    refine xe_js2 (T := T) (x := "wrong argument: ") (y := x) xe_str (xe_fmtS (x := x) ?_ hx) (by decide) hx
    exact xe_call (xa_cons (xe_var (i := 1) rfl) xa_nil) ⟨x, x, rfl, (by rfl : M_shown x = some x), rfl⟩ cal0'
noncomputable def M_is_integer (x0 : Int) : Option Bool :=
  some (true && (!false))
def Pre_is_integer (T : TC) : PreT := fun As Ω R => ∃ (x0 : Int) (r : Bool), As = [va T x0] ∧ M_is_integer x0 = some r ∧ R = RV (va T r) (stt Ω [] [])
theorem sc_is_integer : FnScope ["value"] ["value"] (defScope s_is_integer) := ⟨rfl, rfl, rfl, by decide +kernel, rfl, by decide +kernel, by decide +kernel⟩
theorem ok_is_integer {f : Addr} {fd : FuncData} (F : Fun T.K "is_integer" "is_integer" s_is_integer f fd) (z_isinstance : mg "isinstance" = none) (z_int : mg "int" = none) (z_bool : mg "bool" = none) : FnOk P w T.K mg base CX0 1 f fd ["value"] (mkSp (Pre_is_integer T)) := by
  refine fn_ok F sc_is_integer (fun As Ω R h => ?_) (fun cdv A outer s H E hr As Ω R F0 h => ?_)
  · obtain ⟨x0, r, rfl, _⟩ := h
    rfl
  obtain ⟨x0, r, rfl, hm, rfl⟩ := h
  refine ⟨_, (pss_one (ps_ret (pe_and (pe_callB (cr_isiK (K := T.K) rfl) (by rfl) z_isinstance (by decide +kernel) (pa_cons (pv 0) (pa_cons (pe_bltn (v := .ty "int") (by rfl) z_int (by decide +kernel) rfl) pa_nil))) (pe_one (pe_not (pe_callB (cr_isiK (K := T.K) rfl) (by rfl) z_isinstance (by decide +kernel) (pa_cons (pv 0) (pa_cons (pe_bltn (v := .ty "bool") (by rfl) z_bool (by decide +kernel) rfl) pa_nil)))))))), fun D hrt hnx => ?_⟩
  have ok : Okk Ω [] := okk0
  suffices hx : XS _ D F0 [some (va T x0)] (stt Ω [] []) by
    rw [show (stt Ω [] []) = Ω from stt_self (by simp)] at hx
    exact hx
  unfold M_is_integer at hm
  obtain rfl := Option.some.inj hm
  refine xs_ret (xe_andV (xe_isi (xe_var (i := 0) rfl) xe_vx (.ty _) (fun F H v hh a => ty_int hh a) (kit_ty (by decide +kernel))) (fun _ => (xe_notV (xe_noC (xe_var (i := 0) rfl) xe_vx (.ty _) (noC_of tya_int (kit_ty (by decide +kernel))))))) hrt.all
noncomputable def M_is_between (x0 : Int) (x1 : Int) (x2 : Int) : Option Bool :=
  (M_is_integer x0).bind fun z1 => some (z1 && (decide (x1 ≤ x0) && decide (x0 ≤ x2)))
def Pre_is_between (T : TC) : PreT := fun As Ω R => ∃ (x0 : Int) (x1 : Int) (x2 : Int) (r : Bool), As = [va T x0, va T x1, va T x2] ∧ M_is_between x0 x1 x2 = some r ∧ R = RV (va T r) (stt Ω [] [])
theorem sc_is_between : FnScope ["value", "low", "high"] ["value", "low", "high"] (defScope s_is_between) := ⟨rfl, rfl, rfl, by decide +kernel, rfl, by decide +kernel, by decide +kernel⟩
theorem ok_is_between {f : Addr} {fd : FuncData} (F : Fun T.K "is_between" "is_between" s_is_between f fd) (c_is_integer : Cal P w T.K mg base 1 "is_integer" ["value"] (mkSp (Pre_is_integer T))) : FnOk P w T.K mg base CX0 2 f fd ["value", "low", "high"] (mkSp (Pre_is_between T)) := by
  refine fn_ok F sc_is_between (fun As Ω R h => ?_) (fun cdv A outer s H E hr As Ω R F0 h => ?_)
  · obtain ⟨x0, x1, x2, r, rfl, _⟩ := h
    rfl
  obtain ⟨x0, x1, x2, r, rfl, hm, rfl⟩ := h
  refine ⟨_, (pss_one (ps_ret (pe_and (pe_cal c_is_integer (hr.mono (by decide)) (by rfl) (pa_cons (pv 0) pa_nil)) (pe_one (pe_chain op_le op_le (pv 1) (pv 0) (pv 2)))))), fun D hrt hnx => ?_⟩
  have ok : Okk Ω [] := okk0
  suffices hx : XS _ D F0 [some (va T x0), some (va T x1), some (va T x2)] (stt Ω [] []) by
    rw [show (stt Ω [] []) = Ω from stt_self (by simp)] at hx
    exact hx
  unfold M_is_between at hm
  obtain ⟨z1, hz1, hm⟩ := bnd_some hm
  obtain rfl := Option.some.inj hm
  refine xs_ret (xe_andV (xe_call (xa_cons (xe_var (i := 0) rfl) xa_nil) ⟨x0, z1, rfl, hz1, rfl⟩ cal0) (fun _ => (xe_chain (xe_var (i := 1) rfl) (xe_var (i := 0) rfl) ro_bl (fun _ => (xe_var (i := 2) rfl)) (fun _ => ro_bl)))) hrt.all
noncomputable def M_check_row_number (x0 : Int) : Option Unit :=
  (M_is_integer x0).bind fun z1 => (chkP (z1 = true)).bind fun z2 => (chkP ((decide (x0 < (1 : Int))) = false)).bind fun z3 => (chkP ((decide ((4000 : Int) < ((Builtin.Int.intBits x0 : Nat) : Int))) = false)).bind fun z4 => some ()
def Pre_check_row_number (T : TC) : PreT := fun As Ω R => ∃ (x0 : Int) (r : Unit), As = [va T x0] ∧ M_check_row_number x0 = some r ∧ R = RV (va T r) (stt Ω [] [])
theorem sc_check_row_number : FnScope ["y"] ["y"] (defScope s_check_row_number) := ⟨rfl, rfl, rfl, by decide +kernel, rfl, by decide +kernel, by decide +kernel⟩
theorem ok_check_row_number {f : Addr} {fd : FuncData} (F : Fun T.K "check_row_number" "check_row_number" s_check_row_number f fd) (c_is_integer : Cal P w T.K mg base 1 "is_integer" ["value"] (mkSp (Pre_is_integer T))) (g_LONGEST_EXPONENT : ∃ u, mg "LONGEST_EXPONENT" = some u ∧ RelV (.int 4000) u) : FnOk P w T.K mg base CX0 5 f fd ["y"] (mkSp (Pre_check_row_number T)) := by
  refine fn_ok F sc_check_row_number (fun As Ω R h => ?_) (fun cdv A outer s H E hr As Ω R F0 h => ?_)
  · obtain ⟨x0, r, rfl, _⟩ := h
    rfl
  obtain ⟨x0, r, rfl, hm, rfl⟩ := h
  refine ⟨_, (pss_one (ps_if (PW.pt (pw_or (pt_not (pt_val (pe_cal c_is_integer (hr.mono (by decide)) (by rfl) (pa_cons (pv 0) pa_nil)))) (pw_or (pt_cmpR op_lt (pv 0) pe_int (nomark _)) (pw_or1 (pt_cmpR op_gt (pe_bits (pv 0)) (pe_gl rfl g_LONGEST_EXPONENT) (nomark _)))))) pss_never pss_nil)), fun D hrt hnx => ?_⟩
  have ok : Okk Ω [] := okk0
  suffices hx : XS _ D F0 [some (va T x0)] (stt Ω [] []) by
    rw [show (stt Ω [] []) = Ω from stt_self (by simp)] at hx
    exact hx
  unfold M_check_row_number at hm
  obtain ⟨z1, hz1, hm⟩ := bnd_some hm
  obtain ⟨z2, hz2, hm⟩ := bnd_some hm
  obtain ⟨z3, hz3, hm⟩ := bnd_some hm
  obtain ⟨z4, hz4, hm⟩ := bnd_some hm
  refine xs_ifF1 (xt_orF (xt_notF (xt_eq (xt_tB (T := T) (xe_call (xa_cons (xe_var (i := 0) rfl) xa_nil) ⟨x0, z1, rfl, hz1, rfl⟩ cal0)) (chkP_some hz2))) (xt_orF (xt_eq (xt_test (T := T) (xe_lt (xe_var (i := 0) rfl) xe_int)) (chkP_some hz3)) (xt_eq (xt_test (T := T) (xe_gt (xe_bits (xe_var (i := 0) rfl)) xe_int)) (chkP_some hz4)))) ?_
  obtain rfl := Option.some.inj hm
  exact fun σ H ⟨F, f0, e, hh⟩ => hnx F σ H _ f0 hh.all ⟨rfl, rfl⟩
noncomputable def M_rows_of (x0 : Int) (x1 : Int) : Option (List (Int × Int)) :=
  (some ([] : List (Int × Int))).bind fun y1 => (whileM (ρ := Unit) (fun (s4 : Int × (List (Int × Int))) => some (decide ((0 : Int) < s4.1))) (fun (s4 : Int × (List (Int × Int))) => (some (max (((Builtin.Int.intBits s4.1 : Nat) : Int) - x1) (0 : Int))).bind fun y5 => (chkP (0 ≤ y5)).bind fun z6 => (some (s4.1 / 2 ^ (y5).toNat)).bind fun y7 => (whileM (ρ := Unit) (fun (s8 : Int × Int) => some (decide ((Builtin.bitAnd s8.1 (1 : Int)) = (0 : Int)))) (fun (s8 : Int × Int) => (chkP (0 ≤ (1 : Int))).bind fun z9 => (some (s8.1 / 2 ^ ((1 : Int)).toNat)).bind fun y10 => (some (s8.2 + (1 : Int))).bind fun y11 => some (Stp.nx (y10, y11))) ((y7).natAbs + 1) (y7, y5)).bind fun z12 => (nxt z12).bind fun s13 => (chkP (s4.2.length < sizeLine)).bind fun z14 => (chkP (CShl (1 : Int) s13.2)).bind fun z15 => (some (Builtin.bitAnd s4.1 (((1 : Int) * 2 ^ (s13.2).toNat) - (1 : Int)))).bind fun y16 => some (Stp.nx (y16, (s4.2 ++ [(s13.2, s13.1)])))) ((x0).natAbs + 1) (x0, y1)).bind fun z17 => (nxt z17).bind fun s18 => some s18.2
def Pre_rows_of (T : TC) : PreT := fun As Ω R => ∃ (x0 : Int) (x1 : Int) (r : List (Int × Int)), As = [va T x0, va T x1] ∧ M_rows_of x0 x1 = some r ∧ R = RN (stt Ω [] []) (fun q => lstA T q r)
theorem sc_rows_of : FnScope ["y", "width", "rows", "place", "number"] ["y", "width"] (defScope s_rows_of) := ⟨rfl, rfl, rfl, by decide +kernel, rfl, by decide +kernel, by decide +kernel⟩
theorem ok_rows_of {f : Addr} {fd : FuncData} (F : Fun T.K "rows_of" "rows_of" s_rows_of f fd) (z_max : mg "max" = none) : FnOk P w T.K mg base CX0 2 f fd ["y", "width"] (mkSp (Pre_rows_of T)) := by
  refine fn_ok F sc_rows_of (fun As Ω R h => ?_) (fun cdv A outer s H E hr As Ω R F0 h => ?_)
  · obtain ⟨x0, x1, r, rfl, _⟩ := h
    rfl
  obtain ⟨x0, x1, r, rfl, hm, rfl⟩ := h
  refine ⟨_, (pss_cons (ps_set (i := 2) sc_rows_of.nd rfl (.inl rfl) (pe_lst pa_nil)) (pss_cons (ps_while PassesOwn.never (pt_cmpR op_gt (pv 0) pe_int (nomark _)) (pss_cons (ps_set (i := 3) sc_rows_of.nd rfl (.inl rfl) (pe_callB (cr_max2 rfl) (by rfl) z_max (by decide +kernel) (pa_cons (pe_op op_sub (pe_bits (pv 0)) (pv 1)) (pa_cons pe_int pa_nil)))) (pss_cons (ps_set (i := 4) sc_rows_of.nd rfl (.inl rfl) (pe_op op_shr (pv 0) (pv 3))) (pss_cons (ps_while PassesOwn.never (pt_cmpR (op_eqXK (K := T.K) (by exact hr.units) rfl) (pe_op op_and (pv 4) pe_int) pe_int (nomark _)) (pss_cons (ps_aug (i := 4) sc_rows_of.nd rfl (.inl rfl) pe_int (ip_of iop_shr)) (pss_one (ps_aug (i := 3) sc_rows_of.nd rfl (.inl rfl) pe_int (ip_of iop_add))))) (pss_cons (ps_expr (pe_bm PySem.F.plainAttrs_list PySem.F.slot_list_append PySem.F.type_list_append mt_append (pv 2) (pa_cons (pe_tup (pa_cons (pv 3) (pa_cons (pv 4) pa_nil))) pa_nil))) (pss_one (ps_aug (i := 0) sc_rows_of.nd rfl (.inl rfl) (pe_op op_sub (pe_op op_shlW pe_int (pv 3)) pe_int) (ip_of iop_and)))))))) (pss_one (ps_ret (pv 2))))), fun D hrt hnx => ?_⟩
  have ok : Okk Ω [] := okk0
  suffices hx : XS _ D F0 [some (va T x0), some (va T x1), none, none, none] (stt Ω [] []) by
    rw [show (stt Ω [] []) = Ω from stt_self (by simp)] at hx
    exact hx
  unfold M_rows_of at hm
  obtain ⟨y1, hy1, hm⟩ := bnd_some hm
  obtain rfl := Option.some.inj hy1
  refine xs_setO ((xn_lst (T := T) (l := ([] : List (Int × Int))) xa_nil (Nat.zero_le _))) (fun pp2 => ?_)
  show XS (tSeq _ _) _ _ [some (va T x0), some (va T x1), some (vr pp2), none, none] (stt Ω [] [lstA T pp2 (([] : List (Int × Int)) : List (Int × Int))])
  obtain ⟨z17, hz17, hm⟩ := bnd_some hm
  refine xs_whileS (fun (s4 : Int × (List (Int × Int))) => [some (va T s4.1), some (va T x1), some (vr pp2), none, none]) (fun (s4 : Int × (List (Int × Int))) => (stt Ω [] [lstA T pp2 (s4.2 : List (Int × Int))])) (fun (_ : Unit) _ _ _ => False) hz17 (fun s4 v hc => ?_) (fun s4 s' hc0 hm F1 D1 e1 hD => ?_) (fun s18 es => ?_) (fun r1 es => ?_)
  · clear hm
    have hm := hc
    obtain rfl := Option.some.inj hm
    refine (xt_test (T := T) (xe_gt (xe_var (i := 0) rfl) xe_int))
  · clear hc0
    show XS (tSeq _ _) _ _ [some (va T s4.1), some (va T x1), some (vr pp2), none, none] (stt Ω [] [lstA T pp2 (s4.2 : List (Int × Int))])
    obtain ⟨y5, hy5, hm⟩ := bnd_some hm
    refine xs_set (A := va T y5) (xe_eq (xe_max2 (xe_sub (xe_bits (xe_var (i := 0) rfl)) (xe_var (i := 1) rfl)) xe_int) (Option.some.inj hy5)) ?_
    show XS (tSeq _ _) _ _ [some (va T s4.1), some (va T x1), some (vr pp2), some (va T y5), none] (stt Ω [] [lstA T pp2 (s4.2 : List (Int × Int))])
    obtain ⟨z6, hz6, hm⟩ := bnd_some hm
    obtain ⟨y7, hy7, hm⟩ := bnd_some hm
    refine xs_set (A := va T y7) (xe_eq (xe_shr (chkP_some hz6) (xe_var (i := 0) rfl) (xe_var (i := 3) rfl)) (Option.some.inj hy7)) ?_
    show XS (tSeq _ _) _ _ [some (va T s4.1), some (va T x1), some (vr pp2), some (va T y5), some (va T y7)] (stt Ω [] [lstA T pp2 (s4.2 : List (Int × Int))])
    obtain ⟨z12, hz12, hm⟩ := bnd_some hm
    refine xs_whileS (fun (s8 : Int × Int) => [some (va T s4.1), some (va T x1), some (vr pp2), some (va T s8.2), some (va T s8.1)]) (fun (s8 : Int × Int) => (stt Ω [] [lstA T pp2 (s4.2 : List (Int × Int))])) (fun (_ : Unit) _ _ _ => False) hz12 (fun s8 v hc => ?_) (fun s8 s' hc0 hm F1 D1 e1 hD => ?_) (fun s13 es => ?_) (fun r1 es => ?_)
    · clear hm
      have hm := hc
      obtain rfl := Option.some.inj hm
      refine (xt_test (T := T) (xe_eqI (xe_band (xe_var (i := 4) rfl) xe_int) xe_int))
    · clear hc0
      show XS (tSeq _ _) _ _ [some (va T s4.1), some (va T x1), some (vr pp2), some (va T s8.2), some (va T s8.1)] (stt Ω [] [lstA T pp2 (s4.2 : List (Int × Int))])
      obtain ⟨z9, hz9, hm⟩ := bnd_some hm
      obtain ⟨y10, hy10, hm⟩ := bnd_some hm
      refine xs_augD (T := T) rfl (chkP_some hz9) xe_int (Option.some.inj hy10) ?_
      show XS (tAug _ _ _) _ _ [some (va T s4.1), some (va T x1), some (vr pp2), some (va T s8.2), some (va T y10)] (stt Ω [] [lstA T pp2 (s4.2 : List (Int × Int))])
      obtain ⟨y11, hy11, hm⟩ := bnd_some hm
      refine xs_augI1 (T := T) rfl xe_int (Option.some.inj hy11) ?_
      obtain rfl := Option.some.inj hm
      exact fun σ H n => hD.nx _ rfl σ H n
    · subst es
      obtain ⟨s2, hs2, hm⟩ := bnd_some hm
      cases hs2
      show XS (tSeq _ _) _ _ [some (va T s4.1), some (va T x1), some (vr pp2), some (va T s13.2), some (va T s13.1)] (stt Ω [] [lstA T pp2 (s4.2 : List (Int × Int))])
      obtain ⟨z14, hz14, hm⟩ := bnd_some hm
      refine xs_drop (xe_appER (stt_getL (j := 0) rfl) (stt_getL (j := 0) rfl) (xe_var (i := 2) rfl) (xe_tup2 (xa_cons (xe_var (i := 3) rfl) (xa_cons (xe_var (i := 4) rfl) xa_nil))) (chkP_some hz14) (stt_setL (j := 0))) ?_
      show XS (tAug _ _ _) _ _ [some (va T s4.1), some (va T x1), some (vr pp2), some (va T s13.2), some (va T s13.1)] (stt Ω [] [lstA T pp2 ((s4.2 ++ [(s13.2, s13.1)]) : List (Int × Int))])
      obtain ⟨z15, hz15, hm⟩ := bnd_some hm
      obtain ⟨y16, hy16, hm⟩ := bnd_some hm
      refine xs_augI1 (T := T) rfl (xe_sub (xe_shl (chkP_some hz15) xe_int (xe_var (i := 3) rfl)) xe_int) (Option.some.inj hy16) ?_
      obtain rfl := Option.some.inj hm
      exact fun σ H n => hD.nx _ rfl σ H ((n.forget 3).forget 4)
    · subst es
      cases hm
  · subst es
    obtain ⟨s2, hs2, hm⟩ := bnd_some hm
    cases hs2
    show XS (tRet _) _ _ [some (va T s18.1), some (va T x1), some (vr pp2), none, none] (stt Ω [] [lstA T pp2 (s18.2 : List (Int × Int))])
    obtain rfl := Option.some.inj hm
    exact xs_ret (xe_var (i := 2) rfl) (RT.hand hrt (j := 0) rfl)
  · subst es
    cases hm
noncomputable def M_window_rows (x0 : Int) (x1 : Int) : Option (List (Int × Int)) :=
  (M_check_row_number x0).bind fun z1 => (M_is_between x1 (1 : Int) (12 : Int)).bind fun z2 => (chkP (z2 = true)).bind fun z3 => (M_rows_of x0 x1).bind fun z4 => some z4
def Pre_window_rows (T : TC) : PreT := fun As Ω R => ∃ (x0 : Int) (x1 : Int) (r : List (Int × Int)), As = [va T x0, va T x1] ∧ M_window_rows x0 x1 = some r ∧ R = RN (stt Ω [] []) (fun q => lstA T q r)
theorem sc_window_rows : FnScope ["y", "width"] ["y", "width"] (defScope s_window_rows) := ⟨rfl, rfl, rfl, by decide +kernel, rfl, by decide +kernel, by decide +kernel⟩
theorem ok_window_rows {f : Addr} {fd : FuncData} (F : Fun T.K "window_rows" "window_rows" s_window_rows f fd) (c_check_row_number : Cal P w T.K mg base 5 "check_row_number" ["y"] (mkSp (Pre_check_row_number T))) (g_WIDEST : ∃ u, mg "WIDEST" = some u ∧ RelV (.int 12) u) (c_is_between : Cal P w T.K mg base 2 "is_between" ["value", "low", "high"] (mkSp (Pre_is_between T))) (c_rows_of : Cal P w T.K mg base 2 "rows_of" ["y", "width"] (mkSp (Pre_rows_of T))) : FnOk P w T.K mg base CX0 6 f fd ["y", "width"] (mkSp (Pre_window_rows T)) := by
  refine fn_ok F sc_window_rows (fun As Ω R h => ?_) (fun cdv A outer s H E hr As Ω R F0 h => ?_)
  · obtain ⟨x0, x1, r, rfl, _⟩ := h
    rfl
  obtain ⟨x0, x1, r, rfl, hm, rfl⟩ := h
  refine ⟨_, (pss_cons (ps_expr (pe_cal c_check_row_number (hr.mono (by decide)) (by rfl) (pa_cons (pv 0) pa_nil))) (pss_cons (ps_if (pt_not (pt_val (pe_cal c_is_between (hr.mono (by decide)) (by rfl) (pa_cons (pv 1) (pa_cons pe_int (pa_cons (pe_gl rfl g_WIDEST) pa_nil)))))) pss_never pss_nil) (pss_one (ps_ret (pe_cal c_rows_of (hr.mono (by decide)) (by rfl) (pa_cons (pv 0) (pa_cons (pv 1) pa_nil))))))), fun D hrt hnx => ?_⟩
  have ok : Okk Ω [] := okk0
  suffices hx : XS _ D F0 [some (va T x0), some (va T x1)] (stt Ω [] []) by
    rw [show (stt Ω [] []) = Ω from stt_self (by simp)] at hx
    exact hx
  unfold M_window_rows at hm
  obtain ⟨z1, hz1, hm⟩ := bnd_some hm
  refine xs_drop (xe_call (xa_cons (xe_var (i := 0) rfl) xa_nil) ⟨x0, z1, rfl, hz1, rfl⟩ cal0) ?_
  show XS (tSeq _ _) _ _ [some (va T x0), some (va T x1)] (stt Ω [] [])
  obtain ⟨z2, hz2, hm⟩ := bnd_some hm
  obtain ⟨z3, hz3, hm⟩ := bnd_some hm
  refine xs_ifN (xt_notF (xt_eq (xt_tB (T := T) (xe_call (xa_cons (xe_var (i := 1) rfl) (xa_cons xe_int (xa_cons xe_int xa_nil))) ⟨x1, (1 : Int), (12 : Int), z2, rfl, hz2, rfl⟩ cal0)) (chkP_some hz3))) ?_
  show XS (tRet _) _ _ [some (va T x0), some (va T x1)] (stt Ω [] [])
  obtain ⟨z4, hz4, hm⟩ := bnd_some hm
  obtain rfl := Option.some.inj hm
  refine xs_ret (xn_call (xa_cons (xe_var (i := 0) rfl) (xa_cons (xe_var (i := 1) rfl) xa_nil)) ⟨x0, x1, z4, rfl, hz4, rfl⟩ cal0) (RT.allN hrt)
noncomputable def M_cost_of (x0 : Int) (x1 : Int) : Option Int :=
  (M_rows_of x0 x1).bind fun z1 => (atI z1 (0 : Int)).bind fun z2 => (chkP (CShl (1 : Int) (x1 - (1 : Int)))).bind fun z3 => (some ((((1 : Int) * 2 ^ ((x1 - (1 : Int))).toNat) - (1 : Int)) + (if (decide ((1 : Int) < x1)) = true then (1 : Int) else (0 : Int)))).bind fun y4 => some (((y4 + (z1.length : Int)) - (1 : Int)) + z2.1)
def Pre_cost_of (T : TC) : PreT := fun As Ω R => ∃ (x0 : Int) (x1 : Int) (r : Int), As = [va T x0, va T x1] ∧ M_cost_of x0 x1 = some r ∧ R = RV (va T r) (stt Ω [] [])
theorem sc_cost_of : FnScope ["y", "width", "rows", "first_place", "first_number", "table"] ["y", "width"] (defScope s_cost_of) := ⟨rfl, rfl, rfl, by decide +kernel, rfl, by decide +kernel, by decide +kernel⟩
theorem ok_cost_of {f : Addr} {fd : FuncData} (F : Fun T.K "cost_of" "cost_of" s_cost_of f fd) (c_rows_of : Cal P w T.K mg base 2 "rows_of" ["y", "width"] (mkSp (Pre_rows_of T))) (z_len : mg "len" = none) : FnOk P w T.K mg base CX0 3 f fd ["y", "width"] (mkSp (Pre_cost_of T)) := by
  refine fn_ok F sc_cost_of (fun As Ω R h => ?_) (fun cdv A outer s H E hr As Ω R F0 h => ?_)
  · obtain ⟨x0, x1, r, rfl, _⟩ := h
    rfl
  obtain ⟨x0, x1, r, rfl, hm, rfl⟩ := h
  refine ⟨_, (pss_cons (ps_set (i := 2) sc_cost_of.nd rfl (.inl rfl) (pe_cal c_rows_of (hr.mono (by decide)) (by rfl) (pa_cons (pv 0) (pa_cons (pv 1) pa_nil)))) (pss_cons (ps_asg (pe_ix (ix_seqK (K := T.K) rfl) (pv 2) pe_int (by intro _ _; rfl)) (pg_tupK (K := T.K) (n := 2) rfl rfl (pgs_cons (pg_name (i := 3) sc_cost_of.nd rfl (.inl rfl)) (pgs_cons (pg_name (i := 4) sc_cost_of.nd rfl (.inl rfl)) pgs_nil)))) (pss_cons (ps_set (i := 5) sc_cost_of.nd rfl (.inl rfl) (pe_op op_addQ (pe_op op_sub (pe_op op_shlW pe_int (pe_op op_sub (pv 1) pe_int)) pe_int) (pe_ifExp (pt_cmpR op_gt (pv 1) pe_int (nomark _)) pe_int pe_int))) (pss_one (ps_ret (pe_op op_addQ (pe_op op_sub (pe_op op_addQ (pv 5) (pe_callB (cr_lenK (K := T.K) rfl) (by rfl) z_len PySem.boot_len (pa_cons (pv 2) pa_nil))) pe_int) (pv 3))))))), fun D hrt hnx => ?_⟩
  have ok : Okk Ω [] := okk0
  suffices hx : XS _ D F0 [some (va T x0), some (va T x1), none, none, none, none] (stt Ω [] []) by
    rw [show (stt Ω [] []) = Ω from stt_self (by simp)] at hx
    exact hx
  unfold M_cost_of at hm
  obtain ⟨z1, hz1, hm⟩ := bnd_some hm
  refine xs_set (A := va T (LF.mk z1)) (xe_fz (xn_call (xa_cons (xe_var (i := 0) rfl) (xa_cons (xe_var (i := 1) rfl) xa_nil)) ⟨x0, x1, z1, rfl, hz1, rfl⟩ cal0)) ?_
  show XS (tSeq _ _) _ _ [some (va T x0), some (va T x1), some (va T (LF.mk z1)), none, none, none] (stt Ω [] [])
  obtain ⟨z2, hz2, hm⟩ := bnd_some hm
  refine xs_asgG (xe_ix (xe_var (i := 2) rfl) xe_int isL_LF hz2) tgt_pair ?_
  show XS (tSeq _ _) _ _ [some (va T x0), some (va T x1), some (va T (LF.mk z1)), some (va T z2.1), some (va T z2.2), none] (stt Ω [] [])
  obtain ⟨z3, hz3, hm⟩ := bnd_some hm
  obtain ⟨y4, hy4, hm⟩ := bnd_some hm
  refine xs_set (A := va T y4) (xe_eq (xe_add (xe_sub (xe_shl (chkP_some hz3) xe_int (xe_sub (xe_var (i := 1) rfl) xe_int)) xe_int) (xe_ite (xt_test (T := T) (xe_gt (xe_var (i := 1) rfl) xe_int)) xe_int xe_int)) (Option.some.inj hy4)) ?_
  show XS (tRet _) _ _ [some (va T x0), some (va T x1), some (va T (LF.mk z1)), some (va T z2.1), some (va T z2.2), some (va T y4)] (stt Ω [] [])
  obtain rfl := Option.some.inj hm
  refine xs_ret (xe_add (xe_sub (xe_add (xe_var (i := 5) rfl) (xe_lenL (xe_var (i := 2) rfl) isL_LF)) xe_int) (xe_var (i := 3) rfl)) hrt.all
noncomputable def M_best_width (x0 : Int) : Option Int :=
  (M_check_row_number x0).bind fun z1 => (chkP (-(2 ^ 62) ≤ (1 : Int) ∧ (1 : Int) < 2 ^ 62 ∧ -(2 ^ 62) ≤ ((12 : Int) + (1 : Int)) ∧ ((12 : Int) + (1 : Int)) < 2 ^ 62)).bind fun z2 => (chkP ((rng (1 : Int) (((12 : Int) + (1 : Int)) - (1 : Int)).toNat).length ≤ sizeLine)).bind fun z3 => (lcM (fun (a5 : Int) (s4 : Unit) => (M_cost_of x0 a5).bind fun z6 => some (some z6, ())) (rng (1 : Int) (((12 : Int) + (1 : Int)) - (1 : Int)).toNat) ()).bind fun z7 => (chkP (0 < z7.1.length)).bind fun z9 => (chkP ((minL z7.1) ∈ z7.1)).bind fun z10 => some ((1 : Int) + ((List.idxOf (minL z7.1) z7.1 : Nat) : Int))
def Pre_best_width (T : TC) : PreT := fun As Ω R => ∃ (x0 : Int) (r : Int), As = [va T x0] ∧ M_best_width x0 = some r ∧ R = RV (va T r) (stt Ω [] [])
theorem sc_best_width : FnScope ["y", "costs", "width"] ["y"] (defScope s_best_width) := ⟨rfl, rfl, rfl, by decide +kernel, rfl, by decide +kernel, by decide +kernel⟩
theorem ok_best_width {f : Addr} {fd : FuncData} (F : Fun T.K "best_width" "best_width" s_best_width f fd) (c_check_row_number : Cal P w T.K mg base 5 "check_row_number" ["y"] (mkSp (Pre_check_row_number T))) (g_WIDEST : ∃ u, mg "WIDEST" = some u ∧ RelV (.int 12) u) (z_range : mg "range" = none) (c_cost_of : Cal P w T.K mg base 3 "cost_of" ["y", "width"] (mkSp (Pre_cost_of T))) (z_min : mg "min" = none) : FnOk P w T.K mg base CX0 6 f fd ["y"] (mkSp (Pre_best_width T)) := by
  refine fn_ok F sc_best_width (fun As Ω R h => ?_) (fun cdv A outer s H E hr As Ω R F0 h => ?_)
  · obtain ⟨x0, r, rfl, _⟩ := h
    rfl
  obtain ⟨x0, r, rfl, hm, rfl⟩ := h
  refine ⟨_, (pss_cons (ps_expr (pe_cal c_check_row_number (hr.mono (by decide)) (by rfl) (pa_cons (pv 0) pa_nil))) (pss_cons (ps_setLc (i := 1) (own := [("width", 2)]) rfl sc_best_width.nd rfl rfl (sw_true rfl rfl rfl (by decide +kernel)) (pi_range2 rfl z_range (pa_cons pe_int (pa_cons (pe_op op_addQ (pe_gl rfl g_WIDEST) pe_int) pa_nil))) (blkOk_by (N := ["y", "costs", "width"]) (sc := defScope s_best_width) (by decide +kernel)) (fun _ _ _ _ _ => (pg_name (i := 2) sc_best_width.nd rfl (.inl rfl))) (fun _ _ _ _ _ => pts_nil) (fun _ _ _ _ _ => (pe_cal c_cost_of (hr.mono (by decide)) (by rfl) (pa_cons (pv 0) (pa_cons (pv 2) pa_nil))))) (pss_one (ps_ret (pe_op op_addQ pe_int (pe_bm PySem.F.plainAttrs_list PySem.F.slot_list_index PySem.F.type_list_index (mt_indexK (K := T.K) rfl) (pv 1) (pa_cons (pe_callB (cr_minK (K := T.K) rfl rfl) (by rfl) z_min (by decide +kernel) (pa_cons (pv 1) pa_nil)) pa_nil))))))), fun D hrt hnx => ?_⟩
  have ok : Okk Ω [] := okk0
  suffices hx : XS _ D F0 [some (va T x0), none, none] (stt Ω [] []) by
    rw [show (stt Ω [] []) = Ω from stt_self (by simp)] at hx
    exact hx
  unfold M_best_width at hm
  obtain ⟨z1, hz1, hm⟩ := bnd_some hm
  refine xs_drop (xe_call (xa_cons (xe_var (i := 0) rfl) xa_nil) ⟨x0, z1, rfl, hz1, rfl⟩ cal0) ?_
  show XS (tSeq _ _) _ _ [some (va T x0), none, none] (stt Ω [] [])
  obtain ⟨z2, hz2, hm⟩ := bnd_some hm
  obtain ⟨z3, hz3, hm⟩ := bnd_some hm
  obtain ⟨z7, hz7, hm⟩ := bnd_some hm
  refine xs_set (A := va T (LF.mk z7.1)) (xe_fz (xn_lcS (T := T) (fun (s4 : Unit) => []) (fun (s4 : Unit) => []) hz7 (xi_range2 (T := T) (xa_cons xe_int (xa_cons (xe_add xe_int xe_int) xa_nil)) (chkP_some hz2)) (fun _ => tgt_name) (by simp) (chkP_some hz3) ?q8)) ?_
  case q8 =>
    exact (fun a5 s4 o s2 ha hm X => by
      obtain ⟨z6, hz6, hm⟩ := bnd_some hm
      obtain ⟨rfl, rfl⟩ := Prod.mk.inj (Option.some.inj hm)
      refine ⟨(fun e => nomatch e), fun y e => ?_⟩
      obtain rfl := Option.some.inj e
      refine ⟨xt_yes, (xe_call (xa_cons (xe_var (i := 0) rfl) (xa_cons (xe_var (i := 2) rfl) xa_nil)) ⟨x0, a5, z6, rfl, hz6, rfl⟩ cal0)⟩)
  show XS (tRet _) _ _ [some (va T x0), some (va T (LF.mk z7.1)), none] (stt Ω [] [])
  obtain ⟨z9, hz9, hm⟩ := bnd_some hm
  obtain ⟨z10, hz10, hm⟩ := bnd_some hm
  obtain rfl := Option.some.inj hm
  refine xs_ret (xe_add xe_int (xe_index (xe_var (i := 1) rfl) (xe_minL (xe_var (i := 1) rfl) isLs_LF (chkP_some hz9)) isLs_LF isLs_LF (chkP_some hz10))) hrt.all
noncomputable def M__law_mixed (x0 : Int) (x1 : Int) : Option Int :=
  (chkP (0 < (2147483629 : Int))).bind fun z1 => (chkP (IntMulOk x1 (7919 : Int))).bind fun z2 => (chkP (IntMulOk ((x0 % (2147483629 : Int)) + (1 : Int)) ((x1 * (7919 : Int)) + (104729 : Int)))).bind fun z3 => (chkP (0 < (2147483647 : Int))).bind fun z4 => (some ((((x0 % (2147483629 : Int)) + (1 : Int)) * ((x1 * (7919 : Int)) + (104729 : Int))) % (2147483647 : Int))).bind fun y5 => (chkP (CDivW x0 (2147483629 : Int))).bind fun z6 => (chkP (0 < (1000003 : Int))).bind fun z7 => (chkP (IntMulOk ((x0 / (2147483629 : Int)) % (1000003 : Int)) (x1 + (31 : Int)))).bind fun z8 => (chkP (IntMulOk (y5 + (((x0 / (2147483629 : Int)) % (1000003 : Int)) * (x1 + (31 : Int)))) (48271 : Int))).bind fun z9 => (chkP (0 < (2147483629 : Int))).bind fun z10 => (some (((y5 + (((x0 / (2147483629 : Int)) % (1000003 : Int)) * (x1 + (31 : Int)))) * (48271 : Int)) % (2147483629 : Int))).bind fun y11 => (chkP (CDivW y11 (1013 : Int))).bind fun z12 => (chkP (IntMulOk y11 (((y11 / (1013 : Int)) + (69621 : Int)) + x1))).bind fun z13 => (chkP (0 < (2147483587 : Int))).bind fun z14 => (some ((y11 * (((y11 / (1013 : Int)) + (69621 : Int)) + x1)) % (2147483587 : Int))).bind fun y15 => (chkP (CDivW y15 (2003 : Int))).bind fun z16 => (chkP (IntMulOk y15 ((y15 / (2003 : Int)) + (40692 : Int)))).bind fun z17 => (chkP (0 < (2147483563 : Int))).bind fun z18 => some ((y15 * ((y15 / (2003 : Int)) + (40692 : Int))) % (2147483563 : Int))
def Pre__law_mixed (T : TC) : PreT := fun As Ω R => ∃ (x0 : Int) (x1 : Int) (r : Int), As = [va T x0, va T x1] ∧ M__law_mixed x0 x1 = some r ∧ R = RV (va T r) (stt Ω [] [])
theorem sc__law_mixed : FnScope ["_law_cell", "_law_turn", "_law_figure"] ["_law_cell", "_law_turn"] (defScope s__law_mixed) := ⟨rfl, rfl, rfl, by decide +kernel, rfl, by decide +kernel, by decide +kernel⟩
theorem ok__law_mixed {f : Addr} {fd : FuncData} (F : Fun T.K "_law_mixed" "_law_mixed" s__law_mixed f fd) (z_int : mg "int" = none) : FnOk P w T.K mg base CX0 1 f fd ["_law_cell", "_law_turn"] (mkSp (Pre__law_mixed T)) := by
  refine fn_ok F sc__law_mixed (fun As Ω R h => ?_) (fun cdv A outer s H E hr As Ω R F0 h => ?_)
  · obtain ⟨x0, x1, r, rfl, _⟩ := h
    rfl
  obtain ⟨x0, x1, r, rfl, hm, rfl⟩ := h
  refine ⟨_, (pss_cons (ps_set (i := 2) sc__law_mixed.nd rfl (.inl rfl) (pe_op op_mod (pe_callTy cr_int (by rfl) z_int (by decide +kernel) (pa_cons (pe_op op_mulQ (pe_op op_addQ (pe_op op_mod (pe_callTy cr_int (by rfl) z_int (by decide +kernel) (pa_cons (pv 0) pa_nil)) pe_int) pe_int) (pe_op op_addQ (pe_op op_mulQ (pv 1) pe_int) pe_int)) pa_nil)) pe_int)) (pss_cons (ps_set (i := 2) sc__law_mixed.nd rfl (.inl rfl) (pe_op op_mod (pe_callTy cr_int (by rfl) z_int (by decide +kernel) (pa_cons (pe_op op_mulQ (pe_op op_addQ (pv 2) (pe_op op_mulQ (pe_op op_mod (pe_callTy cr_int (by rfl) z_int (by decide +kernel) (pa_cons (pe_op op_fdivW (pv 0) pe_int) pa_nil)) pe_int) (pe_op op_addQ (pv 1) pe_int))) pe_int) pa_nil)) pe_int)) (pss_cons (ps_set (i := 2) sc__law_mixed.nd rfl (.inl rfl) (pe_op op_mod (pe_callTy cr_int (by rfl) z_int (by decide +kernel) (pa_cons (pe_op op_mulQ (pv 2) (pe_op op_addQ (pe_op op_addQ (pe_op op_fdivW (pv 2) pe_int) pe_int) (pv 1))) pa_nil)) pe_int)) (pss_one (ps_ret (pe_op op_mod (pe_callTy cr_int (by rfl) z_int (by decide +kernel) (pa_cons (pe_op op_mulQ (pv 2) (pe_op op_addQ (pe_op op_fdivW (pv 2) pe_int) pe_int)) pa_nil)) pe_int)))))), fun D hrt hnx => ?_⟩
  have ok : Okk Ω [] := okk0
  suffices hx : XS _ D F0 [some (va T x0), some (va T x1), none] (stt Ω [] []) by
    rw [show (stt Ω [] []) = Ω from stt_self (by simp)] at hx
    exact hx
  unfold M__law_mixed at hm
  obtain ⟨z1, hz1, hm⟩ := bnd_some hm
  obtain ⟨z2, hz2, hm⟩ := bnd_some hm
  obtain ⟨z3, hz3, hm⟩ := bnd_some hm
  obtain ⟨z4, hz4, hm⟩ := bnd_some hm
  obtain ⟨y5, hy5, hm⟩ := bnd_some hm
  refine xs_set (A := va T y5) (xe_eq (xe_mod (chkP_some hz4) (xe_int1 (xe_mul (chkP_some hz3) (xe_add (xe_mod (chkP_some hz1) (xe_int1 (xe_var (i := 0) rfl)) xe_int) xe_int) (xe_add (xe_mul (chkP_some hz2) (xe_var (i := 1) rfl) xe_int) xe_int))) xe_int) (Option.some.inj hy5)) ?_
  show XS (tSeq _ _) _ _ [some (va T x0), some (va T x1), some (va T y5)] (stt Ω [] [])
  obtain ⟨z6, hz6, hm⟩ := bnd_some hm
  obtain ⟨z7, hz7, hm⟩ := bnd_some hm
  obtain ⟨z8, hz8, hm⟩ := bnd_some hm
  obtain ⟨z9, hz9, hm⟩ := bnd_some hm
  obtain ⟨z10, hz10, hm⟩ := bnd_some hm
  obtain ⟨y11, hy11, hm⟩ := bnd_some hm
  refine xs_set (A := va T y11) (xe_eq (xe_mod (chkP_some hz10) (xe_int1 (xe_mul (chkP_some hz9) (xe_add (xe_var (i := 2) rfl) (xe_mul (chkP_some hz8) (xe_mod (chkP_some hz7) (xe_int1 (xe_fdiv (chkP_some hz6) (xe_var (i := 0) rfl) xe_int)) xe_int) (xe_add (xe_var (i := 1) rfl) xe_int))) xe_int)) xe_int) (Option.some.inj hy11)) ?_
  show XS (tSeq _ _) _ _ [some (va T x0), some (va T x1), some (va T y11)] (stt Ω [] [])
  obtain ⟨z12, hz12, hm⟩ := bnd_some hm
  obtain ⟨z13, hz13, hm⟩ := bnd_some hm
  obtain ⟨z14, hz14, hm⟩ := bnd_some hm
  obtain ⟨y15, hy15, hm⟩ := bnd_some hm
  refine xs_set (A := va T y15) (xe_eq (xe_mod (chkP_some hz14) (xe_int1 (xe_mul (chkP_some hz13) (xe_var (i := 2) rfl) (xe_add (xe_add (xe_fdiv (chkP_some hz12) (xe_var (i := 2) rfl) xe_int) xe_int) (xe_var (i := 1) rfl)))) xe_int) (Option.some.inj hy15)) ?_
  show XS (tRet _) _ _ [some (va T x0), some (va T x1), some (va T y15)] (stt Ω [] [])
  obtain ⟨z16, hz16, hm⟩ := bnd_some hm
  obtain ⟨z17, hz17, hm⟩ := bnd_some hm
  obtain ⟨z18, hz18, hm⟩ := bnd_some hm
  obtain rfl := Option.some.inj hm
  refine xs_ret (xe_mod (chkP_some hz18) (xe_int1 (xe_mul (chkP_some hz17) (xe_var (i := 2) rfl) (xe_add (xe_fdiv (chkP_some hz16) (xe_var (i := 2) rfl) xe_int) xe_int))) xe_int) hrt.all
noncomputable def M__law_source (x0 : Int) : Option (List Int) :=
  (chkP (CPow (10 : Int) (18 : Int))).bind fun z1 => (chkP (IntMulOk x0 (if (decide (((10 : Int) ^ ((18 : Int)).toNat) ≤ x0)) = true then (1 : Int) else 0))).bind fun z2 => some ([(x0 * (if (decide (((10 : Int) ^ ((18 : Int)).toNat) ≤ x0)) = true then (1 : Int) else 0)), x0, (0 : Int)] : List Int)
def Pre__law_source (T : TC) : PreT := fun As Ω R => ∃ (x0 : Int) (r : List Int), As = [va T x0] ∧ M__law_source x0 = some r ∧ R = RN (stt Ω [] []) (fun q => lstA T q r)
theorem sc__law_source : FnScope ["_law_cell"] ["_law_cell"] (defScope s__law_source) := ⟨rfl, rfl, rfl, by decide +kernel, rfl, by decide +kernel, by decide +kernel⟩
theorem ok__law_source {f : Addr} {fd : FuncData} (F : Fun T.K "_law_source" "_law_source" s__law_source f fd) (z_int : mg "int" = none) : FnOk P w T.K mg base CX0 1 f fd ["_law_cell"] (mkSp (Pre__law_source T)) := by
  refine fn_ok F sc__law_source (fun As Ω R h => ?_) (fun cdv A outer s H E hr As Ω R F0 h => ?_)
  · obtain ⟨x0, r, rfl, _⟩ := h
    rfl
  obtain ⟨x0, r, rfl, hm, rfl⟩ := h
  refine ⟨_, (pss_one (ps_ret (pe_lst (pa_cons (pe_op op_mulQ (pv 0) (pe_callTy cr_int (by rfl) z_int (by decide +kernel) (pa_cons (pe_cmpR op_ge (pv 0) (pe_op op_pow pe_int pe_int) (nomark _)) pa_nil))) (pa_cons (pv 0) (pa_cons pe_int pa_nil)))))), fun D hrt hnx => ?_⟩
  have ok : Okk Ω [] := okk0
  suffices hx : XS _ D F0 [some (va T x0)] (stt Ω [] []) by
    rw [show (stt Ω [] []) = Ω from stt_self (by simp)] at hx
    exact hx
  unfold M__law_source at hm
  obtain ⟨z1, hz1, hm⟩ := bnd_some hm
  obtain ⟨z2, hz2, hm⟩ := bnd_some hm
  obtain rfl := Option.some.inj hm
  refine xs_ret (xn_lst (T := T) (l := [(x0 * (if (decide (((10 : Int) ^ ((18 : Int)).toNat) ≤ x0)) = true then (1 : Int) else 0)), x0, (0 : Int)]) (xa_cons (xe_mul (chkP_some hz2) (xe_var (i := 0) rfl) (xe_intb (xe_ge (xe_var (i := 0) rfl) (xe_pow (chkP_some hz1) xe_int xe_int)))) (xa_cons (xe_var (i := 0) rfl) (xa_cons xe_int xa_nil))) (by show 3 ≤ sizeLine; decide)) (RT.allN hrt)
noncomputable def M__law_draw (x0 : List Int) (x1 : Int) : Option (Int × List Int) :=
  (atI x0 (0 : Int)).bind fun z1 => if (decide ((0 : Int) < z1)) = true then (atI x0 (0 : Int)).bind fun z2 => (chkP (0 < x1)).bind fun z3 => (some (z2 % x1)).bind fun y4 => (atI x0 (0 : Int)).bind fun z5 => (chkP (CDivW z5 x1)).bind fun z6 => (some (z5 / x1)).bind fun y7 => (ixN x0.length (0 : Int)).bind fun z8 => some (y4, (x0.set z8 y7)) else (atI x0 (2 : Int)).bind fun z9 => (some (z9 + (1 : Int))).bind fun y10 => (ixN x0.length (2 : Int)).bind fun z11 => (atI (x0.set z11 y10) (1 : Int)).bind fun z12 => (atI (x0.set z11 y10) (2 : Int)).bind fun z13 => (M__law_mixed z12 z13).bind fun z14 => (chkP (0 < x1)).bind fun z15 => some ((z14 % x1), (x0.set z11 y10))
def Pre__law_draw (T : TC) : PreT := fun As Ω R => ∃ (k0 : Nat) (p0 : Addr) (x0 : List Int) (x1 : Int) (r : Int × List Int), As = [vr p0, va T x1] ∧ Ω[k0]? = some (lstA T p0 x0) ∧ M__law_draw x0 x1 = some r ∧ R = RV (va T r.1) (stt Ω [(k0, lstA T p0 r.2)] [])
theorem sc__law_draw : FnScope ["_law_source_here", "_law_bound", "_law_drawn"] ["_law_source_here", "_law_bound"] (defScope s__law_draw) := ⟨rfl, rfl, rfl, by decide +kernel, rfl, by decide +kernel, by decide +kernel⟩
theorem ok__law_draw {f : Addr} {fd : FuncData} (F : Fun T.K "_law_draw" "_law_draw" s__law_draw f fd) (z_int : mg "int" = none) (c__law_mixed : Cal P w T.K mg base 1 "_law_mixed" ["_law_cell", "_law_turn"] (mkSp (Pre__law_mixed T))) : FnOk P w T.K mg base CX0 2 f fd ["_law_source_here", "_law_bound"] (mkSp (Pre__law_draw T)) := by
  refine fn_ok F sc__law_draw (fun As Ω R h => ?_) (fun cdv A outer s H E hr As Ω R F0 h => ?_)
  · obtain ⟨k0, p0, x0, x1, r, rfl, _⟩ := h
    rfl
  obtain ⟨k0, p0, x0, x1, r, rfl, hk0, hm, rfl⟩ := h
  refine ⟨_, (pss_cons (ps_if (pt_cmpR op_gt (pe_ix (ix_seqK (K := T.K) rfl) (pv 0) pe_int (by intro _ _; rfl)) pe_int (nomark _)) (pss_cons (ps_set (i := 2) sc__law_draw.nd rfl (.inl rfl) (pe_op op_mod (pe_callTy cr_int (by rfl) z_int (by decide +kernel) (pa_cons (pe_ix (ix_seqK (K := T.K) rfl) (pv 0) pe_int (by intro _ _; rfl)) pa_nil)) (pv 1))) (pss_cons (ps_asg (pe_op op_fdivW (pe_ix (ix_seqK (K := T.K) rfl) (pv 0) pe_int (by intro _ _; rfl)) (pv 1)) (pg_sub (pv 0) pe_int set_list)) (pss_one (ps_ret (pv 2))))) pss_nil) (pss_cons (ps_asg (pe_op op_addQ (pe_ix (ix_seqK (K := T.K) rfl) (pv 0) pe_int (by intro _ _; rfl)) pe_int) (pg_sub (pv 0) pe_int set_list)) (pss_one (ps_ret (pe_op op_mod (pe_callTy cr_int (by rfl) z_int (by decide +kernel) (pa_cons (pe_cal c__law_mixed (hr.mono (by decide)) (by rfl) (pa_cons (pe_ix (ix_seqK (K := T.K) rfl) (pv 0) pe_int (by intro _ _; rfl)) (pa_cons (pe_ix (ix_seqK (K := T.K) rfl) (pv 0) pe_int (by intro _ _; rfl)) pa_nil))) pa_nil)) (pv 1)))))), fun D hrt hnx => ?_⟩
  have ok := okk1 hk0
  suffices hx : XS _ D F0 [some (vr p0), some (va T x1), none] (stt Ω [(k0, lstA T p0 (x0 : List Int))] []) by
    rw [show (stt Ω [(k0, lstA T p0 (x0 : List Int))] []) = Ω from stt_self (by simp [hk0])] at hx
    exact hx
  unfold M__law_draw at hm
  obtain ⟨z1, hz1, hm⟩ := bnd_some hm
  by_cases hc : (decide ((0 : Int) < z1)) = true
  · rw [if_pos hc] at hm
    refine xs_ifT (xt_eq (xt_test (T := T) (xe_gt (xe_ix (xe_var (i := 0) rfl) xe_int (isL_M (stt_get ok (i := 0) rfl)) hz1) xe_int)) hc) ?_
    obtain ⟨z2, hz2, hm⟩ := bnd_some hm
    obtain ⟨z3, hz3, hm⟩ := bnd_some hm
    obtain ⟨y4, hy4, hm⟩ := bnd_some hm
    refine xs_set (A := va T y4) (xe_eq (xe_mod (chkP_some hz3) (xe_int1 (xe_ix (xe_var (i := 0) rfl) xe_int (isL_M (stt_get ok (i := 0) rfl)) hz2)) (xe_var (i := 1) rfl)) (Option.some.inj hy4)) ?_
    show XS (tSeq _ _) _ _ [some (vr p0), some (va T x1), some (va T y4)] (stt Ω [(k0, lstA T p0 (x0 : List Int))] [])
    obtain ⟨z5, hz5, hm⟩ := bnd_some hm
    obtain ⟨z6, hz6, hm⟩ := bnd_some hm
    obtain ⟨y7, hy7, hm⟩ := bnd_some hm
    obtain ⟨z8, hz8, hm⟩ := bnd_some hm
    refine xs_setL (xe_eq (xe_fdiv (chkP_some hz6) (xe_ix (xe_var (i := 0) rfl) xe_int (isL_M (stt_get ok (i := 0) rfl)) hz5) (xe_var (i := 1) rfl)) (Option.some.inj hy7)) (xe_var (i := 0) rfl) xe_int (stt_get ok (i := 0) rfl) hz8 ?_
    rw [(stt_set ok (i := 0) rfl)]
    show XS (tRet _) _ _ [some (vr p0), some (va T x1), some (va T y4)] (stt Ω [(k0, lstA T p0 ((x0.set z8 y7) : List Int))] [])
    obtain rfl := Option.some.inj hm
    refine xs_ret (xe_var (i := 2) rfl) hrt.all
  · rw [if_neg hc] at hm
    refine xs_ifN (xt_eq (xt_test (T := T) (xe_gt (xe_ix (xe_var (i := 0) rfl) xe_int (isL_M (stt_get ok (i := 0) rfl)) hz1) xe_int)) (nt hc)) ?_
    show XS (tSeq _ _) _ _ [some (vr p0), some (va T x1), none] (stt Ω [(k0, lstA T p0 (x0 : List Int))] [])
    obtain ⟨z9, hz9, hm⟩ := bnd_some hm
    obtain ⟨y10, hy10, hm⟩ := bnd_some hm
    obtain ⟨z11, hz11, hm⟩ := bnd_some hm
    refine xs_setL (xe_eq (xe_add (xe_ix (xe_var (i := 0) rfl) xe_int (isL_M (stt_get ok (i := 0) rfl)) hz9) xe_int) (Option.some.inj hy10)) (xe_var (i := 0) rfl) xe_int (stt_get ok (i := 0) rfl) hz11 ?_
    rw [(stt_set ok (i := 0) rfl)]
    show XS (tRet _) _ _ [some (vr p0), some (va T x1), none] (stt Ω [(k0, lstA T p0 ((x0.set z11 y10) : List Int))] [])
    obtain ⟨z12, hz12, hm⟩ := bnd_some hm
    obtain ⟨z13, hz13, hm⟩ := bnd_some hm
    obtain ⟨z14, hz14, hm⟩ := bnd_some hm
    obtain ⟨z15, hz15, hm⟩ := bnd_some hm
    obtain rfl := Option.some.inj hm
    refine xs_ret (xe_mod (chkP_some hz15) (xe_int1 (xe_call (xa_cons (xe_ix (xe_var (i := 0) rfl) xe_int (isL_M (stt_get ok (i := 0) rfl)) hz12) (xa_cons (xe_ix (xe_var (i := 0) rfl) xe_int (isL_M (stt_get ok (i := 0) rfl)) hz13) xa_nil)) ⟨z12, z13, z14, rfl, hz14, rfl⟩ cal0)) (xe_var (i := 1) rfl)) hrt.all
noncomputable def M__law_one (x0 : List Int) (x1 : List Int) : Option (Int × List Int) :=
  (M__law_draw x0 (x1.length : Int)).bind fun z1 => (atI x1 z1.1).bind fun z2 => some (z2, z1.2)
def Pre__law_one (T : TC) : PreT := fun As Ω R => ∃ (k0 : Nat) (p0 : Addr) (x0 : List Int) (x1 : List Int) (r : Int × List Int), As = [vr p0, va T (LF.mk x1)] ∧ Ω[k0]? = some (lstA T p0 x0) ∧ M__law_one x0 x1 = some r ∧ R = RV (va T r.1) (stt Ω [(k0, lstA T p0 r.2)] [])
theorem sc__law_one : FnScope ["_law_source_here", "_law_some"] ["_law_source_here", "_law_some"] (defScope s__law_one) := ⟨rfl, rfl, rfl, by decide +kernel, rfl, by decide +kernel, by decide +kernel⟩
theorem ok__law_one {f : Addr} {fd : FuncData} (F : Fun T.K "_law_one" "_law_one" s__law_one f fd) (z_len : mg "len" = none) (c__law_draw : Cal P w T.K mg base 2 "_law_draw" ["_law_source_here", "_law_bound"] (mkSp (Pre__law_draw T))) : FnOk P w T.K mg base CX0 3 f fd ["_law_source_here", "_law_some"] (mkSp (Pre__law_one T)) := by
  refine fn_ok F sc__law_one (fun As Ω R h => ?_) (fun cdv A outer s H E hr As Ω R F0 h => ?_)
  · obtain ⟨k0, p0, x0, x1, r, rfl, _⟩ := h
    rfl
  obtain ⟨k0, p0, x0, x1, r, rfl, hk0, hm, rfl⟩ := h
  refine ⟨_, (pss_one (ps_ret (pe_ix (ix_seqK (K := T.K) rfl) (pv 1) (pe_cal c__law_draw (hr.mono (by decide)) (by rfl) (pa_cons (pv 0) (pa_cons (pe_callB (cr_lenK (K := T.K) rfl) (by rfl) z_len PySem.boot_len (pa_cons (pv 1) pa_nil)) pa_nil))) (by intro _ _; rfl)))), fun D hrt hnx => ?_⟩
  have ok := okk1 hk0
  suffices hx : XS _ D F0 [some (vr p0), some (va T (LF.mk x1))] (stt Ω [(k0, lstA T p0 (x0 : List Int))] []) by
    rw [show (stt Ω [(k0, lstA T p0 (x0 : List Int))] []) = Ω from stt_self (by simp [hk0])] at hx
    exact hx
  unfold M__law_one at hm
  obtain ⟨z1, hz1, hm⟩ := bnd_some hm
  obtain ⟨z2, hz2, hm⟩ := bnd_some hm
  obtain rfl := Option.some.inj hm
  refine xs_ret (xe_ix (xe_var (i := 1) rfl) (xe_call (xa_cons (xe_var (i := 0) rfl) (xa_cons (xe_lenL (xe_var (i := 1) rfl) isL_LF) xa_nil)) ⟨k0, p0, x0, (x1.length : Int), z1, rfl, (stt_get ok (i := 0) rfl), hz1, rfl⟩ (cal1 ok (i := 0) rfl)) isL_LF hz2) hrt.all
noncomputable def M__law_exponent (x0 : List Int) (x1 : Int) : Option (Int × List Int) :=
  (M__law_draw x0 x1).bind fun z1 => (chkP (-(2 ^ 62) ≤ ((1 : Int) + z1.1) ∧ ((1 : Int) + z1.1) < 2 ^ 62)).bind fun z2 => (forM' (ρ := Unit) (fun (a4 : Int) (s3 : Int × (List Int)) => (M__law_draw s3.2 (40 : Int)).bind fun z5 => (some ((1 : Int) + z5.1)).bind fun y6 => (chkP (CShl (1 : Int) (30 : Int))).bind fun z7 => (M__law_draw z5.2 ((1 : Int) * 2 ^ ((30 : Int)).toNat)).bind fun z8 => (chkP (0 ≤ (max (0 : Int) ((30 : Int) - y6)))).bind fun z9 => (some (z8.1 / 2 ^ ((max (0 : Int) ((30 : Int) - y6))).toNat)).bind fun y10 => (chkP (CShl s3.1 y6)).bind fun z11 => (chkP (CShl (1 : Int) y6)).bind fun z12 => (M__law_one z8.2 ([(0 : Int), (0 : Int), (((1 : Int) * 2 ^ (y6).toNat) - (1 : Int)), y10] : List Int)).bind fun z13 => (some ((s3.1 * 2 ^ (y6).toNat) + z13.1)).bind fun y14 => some (Stp.nx (y14, z13.2))) (rng 0 (((1 : Int) + z1.1)).toNat) ((1 : Int), z1.2)).bind fun z15 => (nxt z15).bind fun s16 => some (s16.1, s16.2)
def Pre__law_exponent (T : TC) : PreT := fun As Ω R => ∃ (k0 : Nat) (p0 : Addr) (x0 : List Int) (x1 : Int) (r : Int × List Int), As = [vr p0, va T x1] ∧ Ω[k0]? = some (lstA T p0 x0) ∧ M__law_exponent x0 x1 = some r ∧ R = RV (va T r.1) (stt Ω [(k0, lstA T p0 r.2)] [])
theorem sc__law_exponent : FnScope ["_law_source_here", "_law_most", "_law_found", "_law_turn", "_law_size", "_law_any_so"] ["_law_source_here", "_law_most"] (defScope s__law_exponent) := ⟨rfl, rfl, rfl, by decide +kernel, rfl, by decide +kernel, by decide +kernel⟩
theorem ok__law_exponent {f : Addr} {fd : FuncData} (F : Fun T.K "_law_exponent" "_law_exponent" s__law_exponent f fd) (c__law_draw : Cal P w T.K mg base 2 "_law_draw" ["_law_source_here", "_law_bound"] (mkSp (Pre__law_draw T))) (z_range : mg "range" = none) (z_max : mg "max" = none) (c__law_one : Cal P w T.K mg base 3 "_law_one" ["_law_source_here", "_law_some"] (mkSp (Pre__law_one T))) : FnOk P w T.K mg base CX0 4 f fd ["_law_source_here", "_law_most"] (mkSp (Pre__law_exponent T)) := by
  refine fn_ok F sc__law_exponent (fun As Ω R h => ?_) (fun cdv A outer s H E hr As Ω R F0 h => ?_)
  · obtain ⟨k0, p0, x0, x1, r, rfl, _⟩ := h
    rfl
  obtain ⟨k0, p0, x0, x1, r, rfl, hk0, hm, rfl⟩ := h
  refine ⟨_, (pss_cons (ps_set (i := 2) sc__law_exponent.nd rfl (.inl rfl) pe_int) (pss_cons (ps_for PassesOwn.never rfl (pi_range1 rfl z_range (pa_cons (pe_op op_addQ pe_int (pe_cal c__law_draw (hr.mono (by decide)) (by rfl) (pa_cons (pv 0) (pa_cons (pv 1) pa_nil)))) pa_nil)) (pg_name (i := 3) sc__law_exponent.nd rfl (.inl rfl)) (pss_cons (ps_set (i := 4) sc__law_exponent.nd rfl (.inl rfl) (pe_op op_addQ pe_int (pe_cal c__law_draw (hr.mono (by decide)) (by rfl) (pa_cons (pv 0) (pa_cons pe_int pa_nil))))) (pss_cons (ps_set (i := 5) sc__law_exponent.nd rfl (.inl rfl) (pe_op op_shr (pe_cal c__law_draw (hr.mono (by decide)) (by rfl) (pa_cons (pv 0) (pa_cons (pe_op op_shlW pe_int pe_int) pa_nil))) (pe_callB (cr_max2 rfl) (by rfl) z_max (by decide +kernel) (pa_cons pe_int (pa_cons (pe_op op_sub pe_int (pv 4)) pa_nil))))) (pss_one (ps_set (i := 2) sc__law_exponent.nd rfl (.inl rfl) (pe_op op_addQ (pe_op op_shlW (pv 2) (pv 4)) (pe_cal c__law_one (hr.mono (by decide)) (by rfl) (pa_cons (pv 0) (pa_cons (pe_lst (pa_cons pe_int (pa_cons pe_int (pa_cons (pe_op op_sub (pe_op op_shlW pe_int (pv 4)) pe_int) (pa_cons (pv 5) pa_nil))))) pa_nil))))))))) (pss_one (ps_ret (pv 2))))), fun D hrt hnx => ?_⟩
  have ok := okk1 hk0
  suffices hx : XS _ D F0 [some (vr p0), some (va T x1), none, none, none, none] (stt Ω [(k0, lstA T p0 (x0 : List Int))] []) by
    rw [show (stt Ω [(k0, lstA T p0 (x0 : List Int))] []) = Ω from stt_self (by simp [hk0])] at hx
    exact hx
  unfold M__law_exponent at hm
  refine xs_set (A := va T (1 : Int)) xe_int ?_
  show XS (tSeq _ _) _ _ [some (vr p0), some (va T x1), some (va T (1 : Int)), none, none, none] (stt Ω [(k0, lstA T p0 (x0 : List Int))] [])
  obtain ⟨z1, hz1, hm⟩ := bnd_some hm
  obtain ⟨z2, hz2, hm⟩ := bnd_some hm
  obtain ⟨z15, hz15, hm⟩ := bnd_some hm
  refine xs_forS (fun (s3 : Int × (List Int)) => [some (vr p0), some (va T x1), some (va T s3.1), none, none, none]) (fun (s3 : Int × (List Int)) => (stt Ω [(k0, lstA T p0 (s3.2 : List Int))] [])) (fun (_ : Unit) _ _ _ => False) hz15 (xi_range1 (T := T) (xa_cons (xe_add xe_int (xe_call (xa_cons (xe_var (i := 0) rfl) (xa_cons (xe_var (i := 1) rfl) xa_nil)) ⟨k0, p0, x0, x1, z1, rfl, (stt_get ok (i := 0) rfl), hz1, rfl⟩ (cal1 ok (i := 0) rfl))) xa_nil) (chkP_some hz2).1 (chkP_some hz2).2) (fun _ => tgt_name) (fun a4 s3 s' ha hm F1 D1 e1 hD => ?_) (fun s16 es => ?_) (fun r1 es => ?_)
  · show XS (tSeq _ _) _ _ [some (vr p0), some (va T x1), some (va T s3.1), some (va T a4), none, none] (stt Ω [(k0, lstA T p0 (s3.2 : List Int))] [])
    obtain ⟨z5, hz5, hm⟩ := bnd_some hm
    obtain ⟨y6, hy6, hm⟩ := bnd_some hm
    refine xs_set (A := va T y6) (xe_eq (xe_add xe_int (xe_call (xa_cons (xe_var (i := 0) rfl) (xa_cons xe_int xa_nil)) ⟨k0, p0, s3.2, (40 : Int), z5, rfl, (stt_get ok (i := 0) rfl), hz5, rfl⟩ (cal1 ok (i := 0) rfl))) (Option.some.inj hy6)) ?_
    show XS (tSeq _ _) _ _ [some (vr p0), some (va T x1), some (va T s3.1), some (va T a4), some (va T y6), none] (stt Ω [(k0, lstA T p0 (z5.2 : List Int))] [])
    obtain ⟨z7, hz7, hm⟩ := bnd_some hm
    obtain ⟨z8, hz8, hm⟩ := bnd_some hm
    obtain ⟨z9, hz9, hm⟩ := bnd_some hm
    obtain ⟨y10, hy10, hm⟩ := bnd_some hm
    refine xs_set (A := va T y10) (xe_eq (xe_shr (chkP_some hz9) (xe_call (xa_cons (xe_var (i := 0) rfl) (xa_cons (xe_shl (chkP_some hz7) xe_int xe_int) xa_nil)) ⟨k0, p0, z5.2, ((1 : Int) * 2 ^ ((30 : Int)).toNat), z8, rfl, (stt_get ok (i := 0) rfl), hz8, rfl⟩ (cal1 ok (i := 0) rfl)) (xe_max2 xe_int (xe_sub xe_int (xe_var (i := 4) rfl)))) (Option.some.inj hy10)) ?_
    show XS (tAsg _ _) _ _ [some (vr p0), some (va T x1), some (va T s3.1), some (va T a4), some (va T y6), some (va T y10)] (stt Ω [(k0, lstA T p0 (z8.2 : List Int))] [])
    obtain ⟨z11, hz11, hm⟩ := bnd_some hm
    obtain ⟨z12, hz12, hm⟩ := bnd_some hm
    obtain ⟨z13, hz13, hm⟩ := bnd_some hm
    obtain ⟨y14, hy14, hm⟩ := bnd_some hm
    refine xs_set1 (A := va T y14) (xe_eq (xe_add (xe_shl (chkP_some hz11) (xe_var (i := 2) rfl) (xe_var (i := 4) rfl)) (xe_call (xa_cons (xe_var (i := 0) rfl) (xa_cons (xe_lst (l := [(0 : Int), (0 : Int), (((1 : Int) * 2 ^ (y6).toNat) - (1 : Int)), y10]) (xa_cons xe_int (xa_cons xe_int (xa_cons (xe_sub (xe_shl (chkP_some hz12) xe_int (xe_var (i := 4) rfl)) xe_int) (xa_cons (xe_var (i := 5) rfl) xa_nil)))) (by show 4 ≤ sizeLine; decide)) xa_nil)) ⟨k0, p0, z8.2, ([(0 : Int), (0 : Int), (((1 : Int) * 2 ^ (y6).toNat) - (1 : Int)), y10] : List Int), z13, rfl, (stt_get ok (i := 0) rfl), hz13, rfl⟩ (cal1 ok (i := 0) rfl))) (Option.some.inj hy14)) ?_
    obtain rfl := Option.some.inj hm
    exact fun σ H n => hD.nx _ rfl σ H (((n.forget 4).forget 5).forget 3)
  · subst es
    obtain ⟨s2, hs2, hm⟩ := bnd_some hm
    cases hs2
    show XS (tRet _) _ _ [some (vr p0), some (va T x1), some (va T s16.1), none, none, none] (stt Ω [(k0, lstA T p0 (s16.2 : List Int))] [])
    obtain rfl := Option.some.inj hm
    refine xs_ret (xe_var (i := 2) rfl) hrt.all
  · subst es
    cases hm
noncomputable def M__law_due (x0 : Int) (x1 : Int) : Option (List (Int × Int)) :=
  (some ([] : List (Int × Int))).bind fun y1 => (chkP (-(2 ^ 62) ≤ ((Builtin.Int.intBits x0 : Nat) : Int) ∧ ((Builtin.Int.intBits x0 : Nat) : Int) < 2 ^ 62)).bind fun z4 => (forM' (ρ := List (Int × Int)) (fun (a6 : Int) (s5 : Int × (List (Int × Int))) => if (decide (s5.1 = (0 : Int))) = true then some (Stp.rt s5.2) else (some ((Builtin.Int.intBits s5.1 : Nat) : Int)).bind fun y7 => (some (max (0 : Int) (y7 - x1))).bind fun y8 => (chkP (0 ≤ y8)).bind fun z9 => (some (s5.1 / 2 ^ (y8).toNat)).bind fun y10 => (some (((Builtin.Int.intBits (Builtin.bitAnd y10 ((0 : Int) - y10)) : Nat) : Int) - (1 : Int))).bind fun y11 => (chkP (0 ≤ y11)).bind fun z12 => (chkP (s5.2.length < sizeLine)).bind fun z13 => (chkP (CShl y10 y8)).bind fun z14 => (some (s5.1 - (y10 * 2 ^ (y8).toNat))).bind fun y15 => some (Stp.nx (y15, (s5.2 ++ [((y8 + y11), (y10 / 2 ^ (y11).toNat))])))) (rng 0 (((Builtin.Int.intBits x0 : Nat) : Int)).toNat) (x0, y1)).bind fun z16 => aft z16 fun s17 => some s17.2
def Pre__law_due (T : TC) : PreT := fun As Ω R => ∃ (x0 : Int) (x1 : Int) (r : List (Int × Int)), As = [va T x0, va T x1] ∧ M__law_due x0 x1 = some r ∧ R = RV (va T (LF.mk r)) (stt Ω [] [])
theorem sc__law_due : FnScope ["_law_yy", "_law_span", "_law_found", "_law_turn", "_law_size", "_law_place", "_law_number", "_law_zeros"] ["_law_yy", "_law_span"] (defScope s__law_due) := ⟨rfl, rfl, rfl, by decide +kernel, rfl, by decide +kernel, by decide +kernel⟩
theorem ok__law_due {f : Addr} {fd : FuncData} (F : Fun T.K "_law_due" "_law_due" s__law_due f fd) (z_range : mg "range" = none) (z_max : mg "max" = none) : FnOk P w T.K mg base CX0 2 f fd ["_law_yy", "_law_span"] (mkSp (Pre__law_due T)) := by
  refine fn_ok F sc__law_due (fun As Ω R h => ?_) (fun cdv A outer s H E hr As Ω R F0 h => ?_)
  · obtain ⟨x0, x1, r, rfl, _⟩ := h
    rfl
  obtain ⟨x0, x1, r, rfl, hm, rfl⟩ := h
  refine ⟨_, (pss_cons (ps_set (i := 2) sc__law_due.nd rfl (.inl rfl) (pe_lst pa_nil)) (pss_cons (ps_for PassesOwn.never rfl (pi_range1 rfl z_range (pa_cons (pe_bits (pv 0)) pa_nil)) (pg_name (i := 3) sc__law_due.nd rfl (.inl rfl)) (pss_cons (ps_if (pt_cmpR (op_eqXK (K := T.K) (by exact hr.units) rfl) (pv 0) pe_int (nomark _)) (pss_one (ps_ret (pv 2))) pss_nil) (pss_cons (ps_set (i := 4) sc__law_due.nd rfl (.inl rfl) (pe_bits (pv 0))) (pss_cons (ps_set (i := 5) sc__law_due.nd rfl (.inl rfl) (pe_callB (cr_max2 rfl) (by rfl) z_max (by decide +kernel) (pa_cons pe_int (pa_cons (pe_op op_sub (pv 4) (pv 1)) pa_nil)))) (pss_cons (ps_set (i := 6) sc__law_due.nd rfl (.inl rfl) (pe_op op_shr (pv 0) (pv 5))) (pss_cons (ps_set (i := 7) sc__law_due.nd rfl (.inl rfl) (pe_op op_sub (pe_bits (pe_op op_and (pv 6) (pe_op op_sub pe_int (pv 6)))) pe_int)) (pss_cons (ps_expr (pe_bm PySem.F.plainAttrs_list PySem.F.slot_list_append PySem.F.type_list_append mt_append (pv 2) (pa_cons (pe_tup (pa_cons (pe_op op_addQ (pv 5) (pv 7)) (pa_cons (pe_op op_shr (pv 6) (pv 7)) pa_nil))) pa_nil))) (pss_one (ps_set (i := 0) sc__law_due.nd rfl (.inl rfl) (pe_op op_sub (pv 0) (pe_op op_shlW (pv 6) (pv 5)))))))))))) (pss_one (ps_ret (pv 2))))), fun D hrt hnx => ?_⟩
  have ok : Okk Ω [] := okk0
  suffices hx : XS _ D F0 [some (va T x0), some (va T x1), none, none, none, none, none, none] (stt Ω [] []) by
    rw [show (stt Ω [] []) = Ω from stt_self (by simp)] at hx
    exact hx
  unfold M__law_due at hm
  obtain ⟨y1, hy1, hm⟩ := bnd_some hm
  obtain rfl := Option.some.inj hy1
  refine xs_setO ((xn_lst (T := T) (l := ([] : List (Int × Int))) xa_nil (Nat.zero_le _))) (fun pp2 => ?_)
  show XS (tSeq _ _) _ _ [some (va T x0), some (va T x1), some (vr pp2), none, none, none, none, none] (stt Ω [] [lstA T pp2 (([] : List (Int × Int)) : List (Int × Int))])
  obtain ⟨z4, hz4, hm⟩ := bnd_some hm
  obtain ⟨z16, hz16, hm⟩ := bnd_some hm
  refine xs_forS (fun (s5 : Int × (List (Int × Int))) => [some (va T s5.1), some (va T x1), some (vr pp2), none, none, none, none, none]) (fun (s5 : Int × (List (Int × Int))) => (stt Ω [] [lstA T pp2 (s5.2 : List (Int × Int))])) (fun r => RV (va T (LF.mk r)) (stt Ω [] [])) hz16 (xi_range1 (T := T) (xa_cons (xe_bits (xe_var (i := 0) rfl)) xa_nil) (chkP_some hz4).1 (chkP_some hz4).2) (fun _ => tgt_name) (fun a6 s5 s' ha hm F1 D1 e1 hD => ?_) (fun s17 es => ?_) (fun r1 es => ?_)
  · show XS (tSeq _ _) _ _ [some (va T s5.1), some (va T x1), some (vr pp2), some (va T a6), none, none, none, none] (stt Ω [] [lstA T pp2 (s5.2 : List (Int × Int))])
    by_cases hc : (decide (s5.1 = (0 : Int))) = true
    · rw [if_pos hc] at hm
      refine xs_ifT (xt_eq (xt_test (T := T) (xe_eqI (xe_var (i := 0) rfl) xe_int)) hc) ?_
      obtain rfl := Option.some.inj hm
      refine xs_fzJ (k := 2) (j := 0) rfl rfl ?_
      show XS _ _ _ [some (va T s5.1), some (va T x1), some (va T (LF.mk s5.2)), some (va T a6), none, none, none, none] (stt Ω [] [nilA])
      exact xs_ret (xe_var (i := 2) rfl) ((hD.rt _ rfl).all)
    · rw [if_neg hc] at hm
      refine xs_ifN (xt_eq (xt_test (T := T) (xe_eqI (xe_var (i := 0) rfl) xe_int)) (nt hc)) ?_
      show XS (tSeq _ _) _ _ [some (va T s5.1), some (va T x1), some (vr pp2), some (va T a6), none, none, none, none] (stt Ω [] [lstA T pp2 (s5.2 : List (Int × Int))])
      obtain ⟨y7, hy7, hm⟩ := bnd_some hm
      refine xs_set (A := va T y7) (xe_eq (xe_bits (xe_var (i := 0) rfl)) (Option.some.inj hy7)) ?_
      show XS (tSeq _ _) _ _ [some (va T s5.1), some (va T x1), some (vr pp2), some (va T a6), some (va T y7), none, none, none] (stt Ω [] [lstA T pp2 (s5.2 : List (Int × Int))])
      obtain ⟨y8, hy8, hm⟩ := bnd_some hm
      refine xs_set (A := va T y8) (xe_eq (xe_max2 xe_int (xe_sub (xe_var (i := 4) rfl) (xe_var (i := 1) rfl))) (Option.some.inj hy8)) ?_
      show XS (tSeq _ _) _ _ [some (va T s5.1), some (va T x1), some (vr pp2), some (va T a6), some (va T y7), some (va T y8), none, none] (stt Ω [] [lstA T pp2 (s5.2 : List (Int × Int))])
      obtain ⟨z9, hz9, hm⟩ := bnd_some hm
      obtain ⟨y10, hy10, hm⟩ := bnd_some hm
      refine xs_set (A := va T y10) (xe_eq (xe_shr (chkP_some hz9) (xe_var (i := 0) rfl) (xe_var (i := 5) rfl)) (Option.some.inj hy10)) ?_
      show XS (tSeq _ _) _ _ [some (va T s5.1), some (va T x1), some (vr pp2), some (va T a6), some (va T y7), some (va T y8), some (va T y10), none] (stt Ω [] [lstA T pp2 (s5.2 : List (Int × Int))])
      obtain ⟨y11, hy11, hm⟩ := bnd_some hm
      refine xs_set (A := va T y11) (xe_eq (xe_sub (xe_bits (xe_band (xe_var (i := 6) rfl) (xe_sub xe_int (xe_var (i := 6) rfl)))) xe_int) (Option.some.inj hy11)) ?_
      show XS (tSeq _ _) _ _ [some (va T s5.1), some (va T x1), some (vr pp2), some (va T a6), some (va T y7), some (va T y8), some (va T y10), some (va T y11)] (stt Ω [] [lstA T pp2 (s5.2 : List (Int × Int))])
      obtain ⟨z12, hz12, hm⟩ := bnd_some hm
      obtain ⟨z13, hz13, hm⟩ := bnd_some hm
      refine xs_drop (xe_appER (stt_getL (j := 0) rfl) (stt_getL (j := 0) rfl) (xe_var (i := 2) rfl) (xe_tup2 (xa_cons (xe_add (xe_var (i := 5) rfl) (xe_var (i := 7) rfl)) (xa_cons (xe_shr (chkP_some hz12) (xe_var (i := 6) rfl) (xe_var (i := 7) rfl)) xa_nil))) (chkP_some hz13) (stt_setL (j := 0))) ?_
      show XS (tAsg _ _) _ _ [some (va T s5.1), some (va T x1), some (vr pp2), some (va T a6), some (va T y7), some (va T y8), some (va T y10), some (va T y11)] (stt Ω [] [lstA T pp2 ((s5.2 ++ [((y8 + y11), (y10 / 2 ^ (y11).toNat))]) : List (Int × Int))])
      obtain ⟨z14, hz14, hm⟩ := bnd_some hm
      obtain ⟨y15, hy15, hm⟩ := bnd_some hm
      refine xs_set1 (A := va T y15) (xe_eq (xe_sub (xe_var (i := 0) rfl) (xe_shl (chkP_some hz14) (xe_var (i := 6) rfl) (xe_var (i := 5) rfl))) (Option.some.inj hy15)) ?_
      obtain rfl := Option.some.inj hm
      exact fun σ H n => hD.nx _ rfl σ H (((((n.forget 4).forget 5).forget 6).forget 7).forget 3)
  · subst es
    have hm := hm
    show XS (tRet _) _ _ [some (va T s17.1), some (va T x1), some (vr pp2), none, none, none, none, none] (stt Ω [] [lstA T pp2 (s17.2 : List (Int × Int))])
    obtain rfl := Option.some.inj hm
    refine xs_fzJ (k := 2) (j := 0) rfl rfl ?_
    show XS _ _ _ [some (va T s17.1), some (va T x1), some (va T (LF.mk s17.2)), none, none, none, none, none] (stt Ω [] [nilA])
    exact xs_ret (xe_var (i := 2) rfl) hrt.all
  · subst es
    obtain rfl := Option.some.inj hm
    exact hrt
noncomputable def M__law_cost (x0 : Int) (x1 : Int) : Option Int :=
  (M__law_due x0 x1).bind fun z1 => (chkP (CShl (1 : Int) (x1 - (1 : Int)))).bind fun z2 => (atI z1 (0 : Int)).bind fun z3 => some (((((((1 : Int) * 2 ^ ((x1 - (1 : Int))).toNat) - (1 : Int)) + (if (decide ((1 : Int) < x1)) = true then (1 : Int) else 0)) + (z1.length : Int)) - (1 : Int)) + z3.1)
def Pre__law_cost (T : TC) : PreT := fun As Ω R => ∃ (x0 : Int) (x1 : Int) (r : Int), As = [va T x0, va T x1] ∧ M__law_cost x0 x1 = some r ∧ R = RV (va T r) (stt Ω [] [])
theorem sc__law_cost : FnScope ["_law_yy", "_law_span", "_law_rows"] ["_law_yy", "_law_span"] (defScope s__law_cost) := ⟨rfl, rfl, rfl, by decide +kernel, rfl, by decide +kernel, by decide +kernel⟩
theorem ok__law_cost {f : Addr} {fd : FuncData} (F : Fun T.K "_law_cost" "_law_cost" s__law_cost f fd) (c__law_due : Cal P w T.K mg base 2 "_law_due" ["_law_yy", "_law_span"] (mkSp (Pre__law_due T))) (z_int : mg "int" = none) (z_len : mg "len" = none) : FnOk P w T.K mg base CX0 3 f fd ["_law_yy", "_law_span"] (mkSp (Pre__law_cost T)) := by
  refine fn_ok F sc__law_cost (fun As Ω R h => ?_) (fun cdv A outer s H E hr As Ω R F0 h => ?_)
  · obtain ⟨x0, x1, r, rfl, _⟩ := h
    rfl
  obtain ⟨x0, x1, r, rfl, hm, rfl⟩ := h
  refine ⟨_, (pss_cons (ps_set (i := 2) sc__law_cost.nd rfl (.inl rfl) (pe_cal c__law_due (hr.mono (by decide)) (by rfl) (pa_cons (pv 0) (pa_cons (pv 1) pa_nil)))) (pss_one (ps_ret (pe_op op_addQ (pe_op op_sub (pe_op op_addQ (pe_op op_addQ (pe_op op_sub (pe_op op_shlW pe_int (pe_op op_sub (pv 1) pe_int)) pe_int) (pe_callTy cr_int (by rfl) z_int (by decide +kernel) (pa_cons (pe_cmpR op_gt (pv 1) pe_int (nomark _)) pa_nil))) (pe_callB (cr_lenK (K := T.K) rfl) (by rfl) z_len PySem.boot_len (pa_cons (pv 2) pa_nil))) pe_int) (pe_ix (ix_seqK (K := T.K) rfl) (pe_ix (ix_seqK (K := T.K) rfl) (pv 2) pe_int (by intro _ _; rfl)) pe_int (by intro _ _; rfl)))))), fun D hrt hnx => ?_⟩
  have ok : Okk Ω [] := okk0
  suffices hx : XS _ D F0 [some (va T x0), some (va T x1), none] (stt Ω [] []) by
    rw [show (stt Ω [] []) = Ω from stt_self (by simp)] at hx
    exact hx
  unfold M__law_cost at hm
  obtain ⟨z1, hz1, hm⟩ := bnd_some hm
  refine xs_set (A := va T (LF.mk z1)) (xe_call (xa_cons (xe_var (i := 0) rfl) (xa_cons (xe_var (i := 1) rfl) xa_nil)) ⟨x0, x1, z1, rfl, hz1, rfl⟩ cal0) ?_
  show XS (tRet _) _ _ [some (va T x0), some (va T x1), some (va T (LF.mk z1))] (stt Ω [] [])
  obtain ⟨z2, hz2, hm⟩ := bnd_some hm
  obtain ⟨z3, hz3, hm⟩ := bnd_some hm
  obtain rfl := Option.some.inj hm
  refine xs_ret (xe_add (xe_sub (xe_add (xe_add (xe_sub (xe_shl (chkP_some hz2) xe_int (xe_sub (xe_var (i := 1) rfl) xe_int)) xe_int) (xe_intb (xe_gt (xe_var (i := 1) rfl) xe_int))) (xe_lenL (xe_var (i := 2) rfl) isL_LF)) xe_int) (xe_fst (xe_ix (xe_var (i := 2) rfl) xe_int isL_LF hz3))) hrt.all
noncomputable def M__law_right (x0 : Int) : Option Bool :=
  (some ([] : List Int)).bind fun y1 => (chkP (-(2 ^ 62) ≤ (1 : Int) ∧ (1 : Int) < 2 ^ 62 ∧ -(2 ^ 62) ≤ (13 : Int) ∧ (13 : Int) < 2 ^ 62)).bind fun z4 => (forM' (ρ := Unit) (fun (a6 : Int) (s5 : (List Int)) => (M_window_rows x0 a6).bind fun z7 => (M__law_due x0 a6).bind fun z10 => (chkP ((LF.mk z7) = (LF.mk z10) ∧ Dat.ok (LF.mk z7))).bind fun z11 => (chkP (true = true)).bind fun z12 => (chkP (z7.length ≤ sizeLine)).bind fun z13 => (lcM (fun (a15 : (Int × Int)) (s14 : Unit) => (chkP (CShl a15.2 a15.1)).bind fun z16 => some (some (a15.2 * 2 ^ (a15.1).toNat), ())) z7 ()).bind fun z17 => (chkP (z17.1.sum = x0)).bind fun z19 => (chkP (z7.length ≤ sizeLine)).bind fun z20 => (lcM (fun (a22 : (Int × Int)) (s21 : Unit) => (if (decide ((Builtin.bitAnd a22.2 (1 : Int)) = (0 : Int))) = true then some true else (chkP (0 ≤ a6)).bind fun z23 => some (decide ((0 : Int) < (a22.2 / 2 ^ (a6).toNat)))).bind fun z24 => if z24 = true then some (some (1 : Int), ()) else some (none, ())) z7 ()).bind fun z26 => (chkP ((LF.mk z26.1) = (LF.mk ([] : List Int)) ∧ Dat.ok (LF.mk z26.1))).bind fun z28 => (M__law_cost x0 a6).bind fun z29 => (chkP (s5.length < sizeLine)).bind fun z30 => (chkP (z7.length < sizeLine)).bind fun z31 => (M_window_rows x0 a6).bind fun z32 => (chkP ((LF.mk z32) = (LF.mk z7) ∧ Dat.ok (LF.mk z32))).bind fun z33 => some (Stp.nx (s5 ++ [z29]))) (rng (1 : Int) ((13 : Int) - (1 : Int)).toNat) y1).bind fun z34 => (nxt z34).bind fun s35 => (M_best_width x0).bind fun z36 => (chkP (0 < s35.length)).bind fun z37 => (chkP ((minL s35) ∈ s35)).bind fun z38 => (chkP ((decide (z36 = ((1 : Int) + ((List.idxOf (minL s35) s35 : Nat) : Int)))) = true)).bind fun z39 => (M_best_width x0).bind fun z40 => (M_best_width x0).bind fun z41 => (chkP ((decide (z40 = z41)) = true)).bind fun z42 => some true
def Pre__law_right (T : TC) : PreT := fun As Ω R => ∃ (x0 : Int) (r : Bool), As = [va T x0] ∧ M__law_right x0 = some r ∧ R = RV (va T r) (stt Ω [] [])
theorem sc__law_right : FnScope ["_law_yy", "_law_costs", "_law_span", "_law_held", "_law_place", "_law_number"] ["_law_yy"] (defScope s__law_right) := ⟨rfl, rfl, rfl, by decide +kernel, rfl, by decide +kernel, by decide +kernel⟩
theorem ok__law_right {f : Addr} {fd : FuncData} (F : Fun T.K "_law_right" "_law_right" s__law_right f fd) (z_range : mg "range" = none) (c_window_rows : Cal P w T.K mg base 6 "window_rows" ["y", "width"] (mkSp (Pre_window_rows T))) (c__law_due : Cal P w T.K mg base 2 "_law_due" ["_law_yy", "_law_span"] (mkSp (Pre__law_due T))) (z_isinstance : mg "isinstance" = none) (z_list : mg "list" = none) (z_sum : mg "sum" = none) (c__law_cost : Cal P w T.K mg base 3 "_law_cost" ["_law_yy", "_law_span"] (mkSp (Pre__law_cost T))) (ck_window_rows_0_width_y : CalK P w T.K mg base 6 "window_rows" ["y", "width"] 0 ["width", "y"] [1, 0] (mkSp (Pre_window_rows T))) (c_best_width : Cal P w T.K mg base 6 "best_width" ["y"] (mkSp (Pre_best_width T))) (z_min : mg "min" = none) (ck_best_width_0_y : CalK P w T.K mg base 6 "best_width" ["y"] 0 ["y"] [0] (mkSp (Pre_best_width T))) : FnOk P w T.K mg base CX0 7 f fd ["_law_yy"] (mkSp (Pre__law_right T)) := by
  refine fn_ok F sc__law_right (fun As Ω R h => ?_) (fun cdv A outer s H E hr As Ω R F0 h => ?_)
  · obtain ⟨x0, r, rfl, _⟩ := h
    rfl
  obtain ⟨x0, r, rfl, hm, rfl⟩ := h
  refine ⟨_, (pss_cons (ps_set (i := 1) sc__law_right.nd rfl (.inl rfl) (pe_lst pa_nil)) (pss_cons (ps_for PassesOwn.never rfl (pi_range2 rfl z_range (pa_cons pe_int (pa_cons pe_int pa_nil))) (pg_name (i := 2) sc__law_right.nd rfl (.inr rfl)) (pss_cons (ps_set (i := 3) sc__law_right.nd rfl (.inl rfl) (pe_cal c_window_rows (hr.mono (by decide)) (by rfl) (pa_cons (pv 0) (pa_cons (pv 2) pa_nil)))) (pss_cons (ps_if (PW.pt (pw_or (pt_cmpR (op_neXK (K := T.K) (by exact hr.units) rfl) (pv 3) (pe_cal c__law_due (hr.mono (by decide)) (by rfl) (pa_cons (pv 0) (pa_cons (pv 2) pa_nil))) (nomark _)) (pw_or1 (pt_not (pt_val (pe_callB (cr_isiK (K := T.K) rfl) (by rfl) z_isinstance (by decide +kernel) (pa_cons (pv 3) (pa_cons (pe_bltn (v := .ty "list") (by rfl) z_list (by decide +kernel) rfl) pa_nil)))))))) pss_never pss_nil) (pss_cons (ps_if (pt_cmpR (op_neXK (K := T.K) (by exact hr.units) rfl) (pe_callB (cr_sumK (K := T.K) rfl rfl) (by rfl) z_sum (by decide +kernel) (pa_cons (pe_lc (own := [("_law_place", 4), ("_law_number", 5)]) rfl sc__law_right.nd (pi_listK (K := T.K) (pv 3) rfl) (blkOk_by (N := ["_law_yy", "_law_costs", "_law_span", "_law_held", "_law_place", "_law_number"]) (sc := defScope s__law_right) (by decide +kernel)) (fun _ _ _ _ _ => (pg_tupK (K := T.K) (n := 2) rfl rfl (pgs_cons (pg_name (i := 4) sc__law_right.nd rfl (.inl rfl)) (pgs_cons (pg_name (i := 5) sc__law_right.nd rfl (.inl rfl)) pgs_nil)))) (fun _ _ _ _ _ => pts_nil) (fun _ _ _ _ _ => (pe_op op_shlW (pv 5) (pv 4)))) pa_nil)) (pv 0) (nomark _)) pss_never pss_nil) (pss_cons (ps_if (pt_cmpR (op_neXK (K := T.K) (by exact hr.units) rfl) (pe_lc (own := [("_law_place", 4), ("_law_number", 5)]) rfl sc__law_right.nd (pi_listK (K := T.K) (pv 3) rfl) (blkOk_by (N := ["_law_yy", "_law_costs", "_law_span", "_law_held", "_law_place", "_law_number"]) (sc := defScope s__law_right) (by decide +kernel)) (fun _ _ _ _ _ => (pg_tupK (K := T.K) (n := 2) rfl rfl (pgs_cons (pg_name (i := 4) sc__law_right.nd rfl (.inl rfl)) (pgs_cons (pg_name (i := 5) sc__law_right.nd rfl (.inl rfl)) pgs_nil)))) (fun _ _ _ _ _ => (pts_one (PW.pt (pw_or (pt_cmpR (op_eqXK (K := T.K) (by exact hr.units) rfl) (pe_op op_and (pv 5) pe_int) pe_int (nomark _)) (pw_or1 (pt_cmpR op_gt (pe_op op_shr (pv 5) (pv 2)) pe_int (nomark _))))))) (fun _ _ _ _ _ => pe_int)) (pe_lst pa_nil) (nomark _)) pss_never pss_nil) (pss_cons (ps_expr (pe_bm PySem.F.plainAttrs_list PySem.F.slot_list_append PySem.F.type_list_append mt_append (pv 1) (pa_cons (pe_cal c__law_cost (hr.mono (by decide)) (by rfl) (pa_cons (pv 0) (pa_cons (pv 2) pa_nil))) pa_nil))) (pss_cons (ps_expr (pe_bm PySem.F.plainAttrs_list PySem.F.slot_list_append PySem.F.type_list_append mt_append (pv 3) (pa_cons pe_non pa_nil))) (pss_one (ps_if (pt_cmpR (op_neXK (K := T.K) (by exact hr.units) rfl) (pe_calK0 ck_window_rows_0_width_y (hr.mono (by decide)) (by rfl) (pk_cons (pv 2) (pk_cons (pv 0) pk_nil))) (pe_slice (sl_listK (K := T.K) rfl) (pv 3) po_none (po_some (pe_un un_neg pe_int))) (nomark _)) pss_never pss_nil))))))))) (pss_one (ps_ret (pe_and (pe_cmpR (op_eqXK (K := T.K) (by exact hr.units) rfl) (pe_cal c_best_width (hr.mono (by decide)) (by rfl) (pa_cons (pv 0) pa_nil)) (pe_op op_addQ pe_int (pe_bm PySem.F.plainAttrs_list PySem.F.slot_list_index PySem.F.type_list_index (mt_indexK (K := T.K) rfl) (pv 1) (pa_cons (pe_callB (cr_minK (K := T.K) rfl rfl) (by rfl) z_min (by decide +kernel) (pa_cons (pv 1) pa_nil)) pa_nil))) (nomark _)) (pe_one (pe_cmpR (op_eqXK (K := T.K) (by exact hr.units) rfl) (pe_calK0 ck_best_width_0_y (hr.mono (by decide)) (by rfl) (pk_cons (pv 0) pk_nil)) (pe_cal c_best_width (hr.mono (by decide)) (by rfl) (pa_cons (pv 0) pa_nil)) (nomark _)))))))), fun D hrt hnx => ?_⟩
  have ok : Okk Ω [] := okk0
  suffices hx : XS _ D F0 [some (va T x0), none, none, none, none, none] (stt Ω [] []) by
    rw [show (stt Ω [] []) = Ω from stt_self (by simp)] at hx
    exact hx
  unfold M__law_right at hm
  obtain ⟨y1, hy1, hm⟩ := bnd_some hm
  obtain rfl := Option.some.inj hy1
  refine xs_setO ((xn_lst (T := T) (l := ([] : List Int)) xa_nil (Nat.zero_le _))) (fun pp2 => ?_)
  show XS (tSeq _ _) _ _ [some (va T x0), some (vr pp2), none, none, none, none] (stt Ω [] [lstA T pp2 (([] : List Int) : List Int)])
  obtain ⟨z4, hz4, hm⟩ := bnd_some hm
  obtain ⟨z34, hz34, hm⟩ := bnd_some hm
  refine xs_forS (fun (s5 : (List Int)) => [some (va T x0), some (vr pp2), none, none, none, none]) (fun (s5 : (List Int)) => (stt Ω [] [lstA T pp2 (s5 : List Int)])) (fun (_ : Unit) _ _ _ => False) hz34 (xi_range2 (T := T) (xa_cons xe_int (xa_cons xe_int xa_nil)) (chkP_some hz4)) (fun _ => tgt_name) (fun a6 s5 s' ha hm F1 D1 e1 hD => ?_) (fun s35 es => ?_) (fun r1 es => ?_)
  · show XS (tSeq _ _) _ _ [some (va T x0), some (vr pp2), some (va T a6), none, none, none] (stt Ω [] [lstA T pp2 (s5 : List Int)])
    obtain ⟨z7, hz7, hm⟩ := bnd_some hm
    refine xs_setO (xn_call (xa_cons (xe_var (i := 0) rfl) (xa_cons (xe_var (i := 2) rfl) xa_nil)) ⟨x0, a6, z7, rfl, hz7, rfl⟩ cal0) (fun pp8 => ?_)
    show XS (tSeq _ _) _ _ [some (va T x0), some (vr pp2), some (va T a6), some (vr pp8), none, none] (stt Ω [] [lstA T pp2 (s5 : List Int), lstA T pp8 (z7 : List (Int × Int))])
    obtain ⟨z10, hz10, hm⟩ := bnd_some hm
    obtain ⟨z11, hz11, hm⟩ := bnd_some hm
    obtain ⟨z12, hz12, hm⟩ := bnd_some hm
    refine xs_ifN (xt_orF (xt_test (T := T) (xe_neK (chkP_some hz11) (by decide) (xe_var (i := 3) rfl) (xe_call (xa_cons (xe_var (i := 0) rfl) (xa_cons (xe_var (i := 2) rfl) xa_nil)) ⟨x0, a6, z10, rfl, hz10, rfl⟩ cal0) (isD_M (stt_getL (j := 1) rfl)) isD_va)) (xt_notF (xt_eq (xt_tB (T := T) (xe_isi (xe_var (i := 3) rfl) xe_vx (.ty _) (fun F H v hh a => ty_own (stt_getL (j := 1) rfl) hh a) (kit_ty (by decide +kernel)))) (chkP_some hz12)))) ?_
    show XS (tSeq _ _) _ _ [some (va T x0), some (vr pp2), some (va T a6), some (vr pp8), none, none] (stt Ω [] [lstA T pp2 (s5 : List Int), lstA T pp8 (z7 : List (Int × Int))])
    obtain ⟨z13, hz13, hm⟩ := bnd_some hm
    obtain ⟨z17, hz17, hm⟩ := bnd_some hm
    obtain ⟨z19, hz19, hm⟩ := bnd_some hm
    refine xs_ifN (xt_test (T := T) (xe_eq (xe_neI (xe_sum (xe_fz (xn_lcS2 (T := T) (fun (s14 : Unit) => []) (fun (s14 : Unit) => [lstA T pp2 (s5 : List Int), lstA T pp8 (z7 : List (Int × Int))]) hz17 (fun _ _ => (stt_getL (j := 1) rfl)) (xi_own (stt_getL (j := 1) rfl) (xe_var (i := 3) rfl)) (fun _ => tgt_pair) (by simp) (chkP_some hz13) ?q18)) isL_LF) (xe_var (i := 0) rfl)) (neK_ (chkP_some hz19)))) ?_
    case q18 =>
      exact (fun a15 s14 o s2 ha hm X => by
        obtain ⟨z16, hz16, hm⟩ := bnd_some hm
        obtain ⟨rfl, rfl⟩ := Prod.mk.inj (Option.some.inj hm)
        refine ⟨(fun e => nomatch e), fun y e => ?_⟩
        obtain rfl := Option.some.inj e
        refine ⟨xt_yes, (xe_shl (chkP_some hz16) (xe_var (i := 5) rfl) (xe_var (i := 4) rfl))⟩)
    show XS (tSeq _ _) _ _ [some (va T x0), some (vr pp2), some (va T a6), some (vr pp8), none, none] (stt Ω [] [lstA T pp2 (s5 : List Int), lstA T pp8 (z7 : List (Int × Int))])
    obtain ⟨z20, hz20, hm⟩ := bnd_some hm
    obtain ⟨z26, hz26, hm⟩ := bnd_some hm
    obtain ⟨z28, hz28, hm⟩ := bnd_some hm
    refine xs_ifN (xt_test (T := T) (xe_neK (chkP_some hz28) (by decide) (xe_fz (xn_lcS2 (T := T) (fun (s21 : Unit) => []) (fun (s21 : Unit) => [lstA T pp2 (s5 : List Int), lstA T pp8 (z7 : List (Int × Int))]) hz26 (fun _ _ => (stt_getL (j := 1) rfl)) (xi_own (stt_getL (j := 1) rfl) (xe_var (i := 3) rfl)) (fun _ => tgt_pair) (by simp) (chkP_some hz20) ?q27)) (xe_lst (T := T) (l := ([] : List Int)) xa_nil (Nat.zero_le _)) isD_va isD_va)) ?_
    case q27 =>
      exact (fun a22 s21 o s2 ha hm X => by
        obtain ⟨z24, hz24, hm⟩ := bnd_some hm
        by_cases hc : z24 = true
        · rw [if_pos hc] at hm
          obtain ⟨rfl, rfl⟩ := Prod.mk.inj (Option.some.inj hm)
          refine ⟨(fun e => nomatch e), fun y e => ?_⟩
          obtain rfl := Option.some.inj e
          refine ⟨xt_eq (xt_orO (xt_test (T := T) (xe_eqI (xe_band (xe_var (i := 5) rfl) xe_int) xe_int)) hz24 ?q25) hc, xe_int⟩
          case q25 =>
            exact (fun v hm => by
              obtain ⟨z23, hz23, hm⟩ := bnd_some hm
              obtain rfl := Option.some.inj hm
              exact (xt_test (T := T) (xe_gt (xe_shr (chkP_some hz23) (xe_var (i := 5) rfl) (xe_var (i := 2) rfl)) xe_int)))
        · rw [if_neg hc] at hm
          obtain ⟨rfl, rfl⟩ := Prod.mk.inj (Option.some.inj hm)
          refine ⟨fun _ => xt_eq (xt_orO (xt_test (T := T) (xe_eqI (xe_band (xe_var (i := 5) rfl) xe_int) xe_int)) hz24 ?q25) (nt hc), fun y e => nomatch e⟩
          case q25 =>
            exact (fun v hm => by
              obtain ⟨z23, hz23, hm⟩ := bnd_some hm
              obtain rfl := Option.some.inj hm
              exact (xt_test (T := T) (xe_gt (xe_shr (chkP_some hz23) (xe_var (i := 5) rfl) (xe_var (i := 2) rfl)) xe_int))))
    show XS (tSeq _ _) _ _ [some (va T x0), some (vr pp2), some (va T a6), some (vr pp8), none, none] (stt Ω [] [lstA T pp2 (s5 : List Int), lstA T pp8 (z7 : List (Int × Int))])
    obtain ⟨z29, hz29, hm⟩ := bnd_some hm
    obtain ⟨z30, hz30, hm⟩ := bnd_some hm
    refine xs_drop (xe_appER (stt_getL (j := 0) rfl) (stt_getL (j := 0) rfl) (xe_var (i := 1) rfl) (xe_call (xa_cons (xe_var (i := 0) rfl) (xa_cons (xe_var (i := 2) rfl) xa_nil)) ⟨x0, a6, z29, rfl, hz29, rfl⟩ cal0) (chkP_some hz30) (stt_setL (j := 0))) ?_
    show XS (tSeq _ _) _ _ [some (va T x0), some (vr pp2), some (va T a6), some (vr pp8), none, none] (stt Ω [] [lstA T pp2 ((s5 ++ [z29]) : List Int), lstA T pp8 (z7 : List (Int × Int))])
    obtain ⟨z31, hz31, hm⟩ := bnd_some hm
    refine xs_drop (xe_appN (stt_getL (j := 1) rfl) (xe_var (i := 3) rfl) xe_non (chkP_some hz31) (stt_setL (j := 1))) ?_
    show XS (tIfS _ _ _) _ _ [some (va T x0), some (vr pp2), some (va T a6), some (vr pp8), none, none] (stt Ω [] [lstA T pp2 ((s5 ++ [z29]) : List Int), lnA T pp8 (z7 : List (Int × Int))])
    obtain ⟨z32, hz32, hm⟩ := bnd_some hm
    obtain ⟨z33, hz33, hm⟩ := bnd_some hm
    refine xs_ifF1 (xt_test (T := T) (xe_neK (chkP_some hz33) (by decide) (xe_fz (xn_callNK xa_nil (xa_cons (xe_var (i := 2) rfl) (xa_cons (xe_var (i := 0) rfl) xa_nil)) ⟨x0, a6, z32, rfl, hz32, rfl⟩ cal0)) (xe_cutN (stt_getL (j := 1) rfl) (xe_var (i := 3) rfl) xo_none (xo_some (T := T) (xe_neg xe_int))) isD_va isD_va)) ?_
    obtain rfl := Option.some.inj hm
    exact fun σ H n => hD.nx _ rfl σ H (NX.cutL [lstA T pp2 ((s5 ++ [z29]) : List Int)] [lnA T pp8 (z7 : List (Int × Int))] ((n.forget 3).forget 2))
  · subst es
    obtain ⟨s2, hs2, hm⟩ := bnd_some hm
    cases hs2
    show XS (tRet _) _ _ [some (va T x0), some (vr pp2), none, none, none, none] (stt Ω [] [lstA T pp2 (s35 : List Int)])
    refine xs_fzJ (k := 1) (j := 0) rfl rfl ?_
    show XS _ _ _ [some (va T x0), some (va T (LF.mk s35)), none, none, none, none] (stt Ω [] [nilA])
    obtain ⟨z36, hz36, hm⟩ := bnd_some hm
    obtain ⟨z37, hz37, hm⟩ := bnd_some hm
    obtain ⟨z38, hz38, hm⟩ := bnd_some hm
    obtain ⟨z39, hz39, hm⟩ := bnd_some hm
    obtain ⟨z40, hz40, hm⟩ := bnd_some hm
    obtain ⟨z41, hz41, hm⟩ := bnd_some hm
    obtain ⟨z42, hz42, hm⟩ := bnd_some hm
    obtain rfl := Option.some.inj hm
    refine xs_ret (xe_andT (xe_eq (xe_eqI (xe_call (xa_cons (xe_var (i := 0) rfl) xa_nil) ⟨x0, z36, rfl, hz36, rfl⟩ cal0) (xe_add xe_int (xe_index (xe_var (i := 1) rfl) (xe_minL (xe_var (i := 1) rfl) isLs_LF (chkP_some hz37)) isLs_LF isLs_LF (chkP_some hz38)))) (chkP_some hz39)) (xe_eq (xe_eqI (xe_callN xa_nil (xa_cons (xe_var (i := 0) rfl) xa_nil) ⟨x0, z40, rfl, hz40, rfl⟩ cal0) (xe_call (xa_cons (xe_var (i := 0) rfl) xa_nil) ⟨x0, z41, rfl, hz41, rfl⟩ cal0)) (chkP_some hz42))) hrt.all
  · subst es
    cases hm
noncomputable def M__law_said (x0 : (Option XC)) : Option Str :=
  onC x0 (fun r => onF (XC.isF 0 "argument" r) (fun xx => some xx) (none)) (some ("nothing" : Str))
def Pre__law_said (T : TC) : PreLX := fun fL actL As Ω R => ∃ (x0 : Option XC) (r : Str), As = [askX T fL actL (stt Ω [] []) (stt Ω [] []) x0] ∧ M__law_said x0 = some r ∧ R = RV (va T r) (stt Ω [] [])
theorem sc__law_said : FnScope ["_law_ask", "e"] ["_law_ask"] (defScope s__law_said) := ⟨rfl, rfl, rfl, by decide +kernel, rfl, by decide +kernel, by decide +kernel⟩
theorem ok__law_said {f : Addr} {fd : FuncData} (F : Fun T.K "_law_said" "_law_said" s__law_said f fd) (gx_InvalidBound : mg "InvalidBound" = some (.ref (T.C 300))) (gx_BitsError : mg "BitsError" = some (.ref (T.C 301))) (mx_InvalidBound_InvalidBound : PySem.W.exmOne T.K (.ref (T.C 300)) (.ref (T.C 300)) = some true) (xf_InvalidBound : XfC T.K (T.C 300)) (no_InvalidBound : PySem.W.findIn T.K (.ref (T.C 300)) "argument" = some none) (hmg : mg "_law_said" = some (.ref f)) (hbd : Binds T.K fd ["_law_ask"] []) : CalLX P w T.K mg base 7 9 "_law_said" ["_law_ask"] (Pre__law_said T) := by
  refine fnLX_ok F sc__law_said (fun fL actL As Ω R h => ?_) (by decide) (fun cdv A outer s H fL actL hr hact As Ω R F0 h => ?_) hmg hbd
  · obtain ⟨x0, r, rfl, _⟩ := h
    rfl
  obtain ⟨x0, r, rfl, hm, rfl⟩ := h
  refine ⟨_, (pss_cons (ps_tryK (K := T.K) rfl rfl rfl (fun W pn xe tk hp => (pss_one (ps_expr (hact 0 "_law_ask" _ _ pn xe W rfl (.inl rfl) (by decide) (by decide) tk)))) (.named (i := 1) sc__law_said.nd rfl rfl ⟨by rfl, by decide, .inl gx_InvalidBound⟩ (fun a oe cls d pn hz hf => (pss_one (ps_ret (pe_xf xf_InvalidBound no_InvalidBound hz hf (pv 1))))) (.plain ⟨by rfl, by decide, .inl gx_BitsError⟩ (fun a oe cls d pn hz hf => pss_never) .nil))) (pss_one (ps_ret pe_str))), fun D hrt hnx => ?_⟩
  have ok : Okk Ω [] := okk0
  suffices hx : XS _ D F0 [some (askX T fL actL (stt Ω [] []) (stt Ω [] []) x0), none] (stt Ω [] []) by
    exact Eq.mp (congrArg (fun W => XS _ D F0 [some (askX T fL actL (stt Ω [] []) (stt Ω [] []) x0), none] W) (show (stt Ω [] []) = Ω from stt_self (by simp))) hx
  unfold M__law_said at hm
  cases x0 with
  | none =>
    rw [onC_n rfl] at hm
    refine xs_seq (xs_tryC fun W => ?_)
    refine xs_drop1 (xe_askX (i := 0) rfl) ?_
    refine xs_nxI ?_
    show XS (tRet _) _ _ [some (askX T fL actL (stt Ω [] []) (stt Ω [] []) none), none] (stt Ω [] [])
    obtain rfl := Option.some.inj hm
    refine xs_ret xe_str hrt.all
  | some r =>
    rw [onC_s rfl] at hm
    refine xs_seq (xs_tryCX (r := r) (Γ' := [some (askX T fL actL (stt Ω [] []) (stt Ω [] []) (some r)), none]) (Ω' := (stt Ω [] [])) (fun W hw => xs_dropX (xr_askX (i := 0) rfl hw)) ?_)
    cases hF : XC.isF 0 "argument" r with
    | some xx =>
      rw [onF_s hF] at hm
      have hmq := hm
      obtain rfl := isF_some hF
      have hm := hmq
      refine cl_yesF mx_InvalidBound_InvalidBound (fun a dd => ?_)
      obtain rfl := Option.some.inj hm
      refine xs_ret (xe_xf (xe_var (i := 1) rfl)) hrt.all
    | none =>
      rw [onF_n hF] at hm
      cases hm
noncomputable def M__law_deep (x0 : Bool) : Option DX :=
  (chkP (-(2 ^ 62) ≤ (1998 : Int) ∧ (1998 : Int) < 2 ^ 62)).bind fun z1 => (forM' (ρ := Unit) (fun (a3 : Int) (s2 : DX) => (some (if x0 = true then DX.mk else DX.mk)).bind fun y4 => some (Stp.nx y4)) (rng 0 ((1998 : Int)).toNat) DX.mk).bind fun z5 => (nxt z5).bind fun s6 => some s6
def Pre__law_deep (T : TC) : PreT := fun As Ω R => ∃ (x0 : Bool) (r : DX), As = [va T x0] ∧ M__law_deep x0 = some r ∧ R = RV (va T r) (stt Ω [] [])
theorem sc__law_deep : FnScope ["_law_is_list", "_law_found", "_law_turn"] ["_law_is_list"] (defScope s__law_deep) := ⟨rfl, rfl, rfl, by decide +kernel, rfl, by decide +kernel, by decide +kernel⟩
theorem ok__law_deep {f : Addr} {fd : FuncData} (F : Fun T.K "_law_deep" "_law_deep" s__law_deep f fd) (z_range : mg "range" = none) : FnOk P w T.K mg base CX0 1 f fd ["_law_is_list"] (mkSp (Pre__law_deep T)) := by
  refine fn_ok F sc__law_deep (fun As Ω R h => ?_) (fun cdv A outer s H E hr As Ω R F0 h => ?_)
  · obtain ⟨x0, r, rfl, _⟩ := h
    rfl
  obtain ⟨x0, r, rfl, hm, rfl⟩ := h
  refine ⟨_, (pss_cons (ps_set (i := 1) sc__law_deep.nd rfl (.inl rfl) (pe_tup pa_nil)) (pss_cons (ps_for PassesOwn.never rfl (pi_range1 rfl z_range (pa_cons pe_int pa_nil)) (pg_name (i := 2) sc__law_deep.nd rfl (.inl rfl)) (pss_one (ps_set (i := 1) sc__law_deep.nd rfl (.inl rfl) (pe_ifExp (pt_val (pv 0)) (pe_lst (pa_cons (pv 1) pa_nil)) (pe_tup (pa_cons (pv 1) pa_nil)))))) (pss_one (ps_ret (pv 1))))), fun D hrt hnx => ?_⟩
  have ok : Okk Ω [] := okk0
  suffices hx : XS _ D F0 [some (va T x0), none, none] (stt Ω [] []) by
    rw [show (stt Ω [] []) = Ω from stt_self (by simp)] at hx
    exact hx
  unfold M__law_deep at hm
  refine xs_set (A := va T DX.mk) (xe_dxT xa_nil (by rw [sizeLine_eq]; exact Nat.le_of_ble_eq_true rfl)) ?_
  show XS (tSeq _ _) _ _ [some (va T x0), some (va T DX.mk), none] (stt Ω [] [])
  obtain ⟨z1, hz1, hm⟩ := bnd_some hm
  obtain ⟨z5, hz5, hm⟩ := bnd_some hm
  refine xs_forS (fun (s2 : DX) => [some (va T x0), some (va T s2), none]) (fun (s2 : DX) => (stt Ω [] [])) (fun (_ : Unit) _ _ _ => False) hz5 (xi_range1 (T := T) (xa_cons xe_int xa_nil) (chkP_some hz1).1 (chkP_some hz1).2) (fun _ => tgt_name) (fun a3 s2 s' ha hm F1 D1 e1 hD => ?_) (fun s6 es => ?_) (fun r1 es => ?_)
  · show XS (tAsg _ _) _ _ [some (va T x0), some (va T s2), some (va T a3)] (stt Ω [] [])
    obtain ⟨y4, hy4, hm⟩ := bnd_some hm
    refine xs_set1 (A := va T y4) (xe_eq (xe_ite (xt_tB (T := T) (xe_var (i := 0) rfl)) (xe_dxL (xa_cons (A := (va T s2)) (xe_var (i := 1) rfl) xa_nil) (by rw [sizeLine_eq]; exact Nat.le_of_ble_eq_true rfl)) (xe_dxT (xa_cons (A := (va T s2)) (xe_var (i := 1) rfl) xa_nil) (by rw [sizeLine_eq]; exact Nat.le_of_ble_eq_true rfl))) (Option.some.inj hy4)) ?_
    obtain rfl := Option.some.inj hm
    exact fun σ H n => hD.nx _ rfl σ H (n.forget 2)
  · subst es
    obtain ⟨s2, hs2, hm⟩ := bnd_some hm
    cases hs2
    show XS (tRet _) _ _ [some (va T x0), some (va T s6), none] (stt Ω [] [])
    obtain rfl := Option.some.inj hm
    refine xs_ret (xe_var (i := 1) rfl) hrt.all
  · subst es
    cases hm
noncomputable def M_is_integer__or3  : Option Bool :=
  some false
def Pre_is_integer__or3 (T : TC) : PreT := fun As Ω R => ∃ (A0 : VA) (r : Bool), As = [A0] ∧ NoC T Ω A0 (.type "int") ∧ M_is_integer__or3  = some r ∧ R = RV (va T r) (stt Ω [] [])
theorem sc_is_integer__or3 : FnScope ["value"] ["value"] (defScope s_is_integer__or3) := ⟨rfl, rfl, rfl, by decide +kernel, rfl, by decide +kernel, by decide +kernel⟩
theorem ok_is_integer__or3 {f : Addr} {fd : FuncData} (F : Fun T.K "is_integer" "is_integer" s_is_integer__or3 f fd) (z_isinstance : mg "isinstance" = none) (z_int : mg "int" = none) : FnOk P w T.K mg base CX0 1 f fd ["value"] (mkSp (Pre_is_integer__or3 T)) := by
  refine fn_ok F sc_is_integer__or3 (fun As Ω R h => ?_) (fun cdv A outer s H E hr As Ω R F0 h => ?_)
  · obtain ⟨A0, r, rfl, _⟩ := h
    rfl
  obtain ⟨A0, r, rfl, hA0I, hm, rfl⟩ := h
  refine ⟨_, (pss_one (ps_ret (pe_and (pe_callB (cr_isiK (K := T.K) rfl) (by rfl) z_isinstance (by decide +kernel) (pa_cons (pv 0) (pa_cons (pe_bltn (v := .ty "int") (by rfl) z_int (by decide +kernel) rfl) pa_nil))) (pe_one pe_neverX)))), fun D hrt hnx => ?_⟩
  have ok : Okk Ω [] := okk0
  suffices hx : XS _ D F0 [some A0] (stt Ω [] []) by
    rw [show (stt Ω [] []) = Ω from stt_self (by simp)] at hx
    exact hx
  unfold M_is_integer__or3 at hm
  obtain rfl := Option.some.inj hm
  refine xs_ret (xe_andV (b := false) (c := false) (xe_noC (xe_var (i := 0) rfl) xe_vx (.ty _) (noC_st hA0I)) (fun h => nomatch h)) hrt.all
noncomputable def X_check_row_number__or2 : Option XC :=
  (chkP (Str.length ("y" : Str) ≤ 100)).bind fun z3 => some (.f 0 "argument" ("y" : Str))
def PreX_check_row_number__or2 (T : TC) : PreXX := fun As Ω R => ∃ (A0 : VA) (r : XC), As = [A0] ∧ NoC T Ω A0 (.type "int") ∧ X_check_row_number__or2  = some r ∧ R = RQ T r Ω
theorem sc_check_row_number__or2 : FnScope ["y"] ["y"] (defScope s_check_row_number__or2) := ⟨rfl, rfl, rfl, by decide +kernel, rfl, by decide +kernel, by decide +kernel⟩
theorem okx_check_row_number__or2 {f : Addr} {fd : FuncData} (F : Fun T.K "check_row_number" "check_row_number" s_check_row_number__or2 f fd) (c_is_integer__or3 : Cal P w T.K mg base 1 "is_integer" ["value"] (mkSp (Pre_is_integer__or3 T))) (e_InvalidBound : MkC P w T.K mg base 3 "InvalidBound" (T.C 300) "argument") : FnOk P w T.K mg base (L2.CX P w) 5 f fd ["y"] (mkSpX (PreX_check_row_number__or2 T)) := by
  refine fn_okX F sc_check_row_number__or2 (fun As Ω R h => ?_) (fun cdv A outer s H E hr As Ω R F0 h hx tk => ?_)
  · obtain ⟨A0, r, rfl, _⟩ := h
    rfl
  obtain ⟨A0, r, rfl, hA0I, hm, rfl⟩ := h
  refine ⟨_, (pss_one (ps_if (PW.pt (pw_or (pt_not (pt_val (pe_cal c_is_integer__or3 (hr.mono (by decide)) (by rfl) (pa_cons (pv 0) pa_nil)))) (pw_or pt_noX (pw_or1 pt_noX)))) (pss_one (ps_raiseX rfl tk e_InvalidBound (hr.mono (by decide)) (by rfl) (pa_cons pe_str pa_nil))) pss_never)), fun D => ?_⟩
  suffices hy : XS _ D F0 [some A0] (stt Ω [] []) by
    rw [show (stt Ω [] []) = Ω from stt_self (by simp)] at hy
    exact hy
  unfold X_check_row_number__or2 at hm
  refine xs_ifT1 (xt_orFst (xt_notT (xt_tB (T := T) (xe_call (xa_cons (xe_var (i := 0) rfl) xa_nil) ⟨A0, false, rfl, (noC_st hA0I), rfl, rfl⟩ cal0)))) ?_
  obtain ⟨z3, hz3, hm⟩ := bnd_some hm
  obtain rfl := Option.some.inj hm
  exact xs_rzX (xa_cons xe_str xa_nil) (chkP_some hz3) (wtc_EL hx)
noncomputable def X_best_width__or1 : Option XC :=
  X_check_row_number__or2
def PreX_best_width__or1 (T : TC) : PreXX := fun As Ω R => ∃ (A0 : VA) (r : XC), As = [A0] ∧ NoC T Ω A0 (.type "int") ∧ X_best_width__or1  = some r ∧ R = RQ T r Ω
theorem sc_best_width__or1 : FnScope ["y", "costs", "width"] ["y"] (defScope s_best_width__or1) := ⟨rfl, rfl, rfl, by decide +kernel, rfl, by decide +kernel, by decide +kernel⟩
theorem okx_best_width__or1 {f : Addr} {fd : FuncData} (F : Fun T.K "best_width" "best_width" s_best_width__or1 f fd) (cx_check_row_number__or2 : CalX P w T.K mg base 5 "check_row_number" ["y"] (mkSpX (PreX_check_row_number__or2 T))) : FnOk P w T.K mg base (L2.CX P w) 6 f fd ["y"] (mkSpX (PreX_best_width__or1 T)) := by
  refine fn_okX F sc_best_width__or1 (fun As Ω R h => ?_) (fun cdv A outer s H E hr As Ω R F0 h hx tk => ?_)
  · obtain ⟨A0, r, rfl, _⟩ := h
    rfl
  obtain ⟨A0, r, rfl, hA0I, hm, rfl⟩ := h
  refine ⟨_, (pss_cons (ps_expr (pe_calX cx_check_row_number__or2 (hr.mono (by decide)) (by rfl) tk (pa_cons (pv 0) pa_nil))) pss_never), fun D => ?_⟩
  suffices hy : XS _ D F0 [some A0, none, none] (stt Ω [] []) by
    rw [show (stt Ω [] []) = Ω from stt_self (by simp)] at hy
    exact hy
  unfold X_best_width__or1 at hm
  have hX := hm
  exact xs_seq (xs_dropX (xr_callO (xa_cons (xe_var (i := 0) rfl) xa_nil) ⟨A0, _, rfl, (noC_st hA0I), hX, rfl⟩ (wtc_EL hx)))
noncomputable def X_window_rows__or4 : Option XC :=
  X_check_row_number__or2
def PreX_window_rows__or4 (T : TC) : PreXX := fun As Ω R => ∃ (A0 : VA) (A1 : VA) (r : XC), As = [A0, A1] ∧ NoC T Ω A0 (.type "int") ∧ X_window_rows__or4  = some r ∧ R = RQ T r Ω
theorem sc_window_rows__or4 : FnScope ["y", "width"] ["y", "width"] (defScope s_window_rows__or4) := ⟨rfl, rfl, rfl, by decide +kernel, rfl, by decide +kernel, by decide +kernel⟩
theorem okx_window_rows__or4 {f : Addr} {fd : FuncData} (F : Fun T.K "window_rows" "window_rows" s_window_rows__or4 f fd) (cx_check_row_number__or2 : CalX P w T.K mg base 5 "check_row_number" ["y"] (mkSpX (PreX_check_row_number__or2 T))) : FnOk P w T.K mg base (L2.CX P w) 6 f fd ["y", "width"] (mkSpX (PreX_window_rows__or4 T)) := by
  refine fn_okX F sc_window_rows__or4 (fun As Ω R h => ?_) (fun cdv A outer s H E hr As Ω R F0 h hx tk => ?_)
  · obtain ⟨A0, A1, r, rfl, _⟩ := h
    rfl
  obtain ⟨A0, A1, r, rfl, hA0I, hm, rfl⟩ := h
  refine ⟨_, (pss_cons (ps_expr (pe_calX cx_check_row_number__or2 (hr.mono (by decide)) (by rfl) tk (pa_cons (pv 0) pa_nil))) pss_never), fun D => ?_⟩
  suffices hy : XS _ D F0 [some A0, some A1] (stt Ω [] []) by
    rw [show (stt Ω [] []) = Ω from stt_self (by simp)] at hy
    exact hy
  unfold X_window_rows__or4 at hm
  have hX := hm
  exact xs_seq (xs_dropX (xr_callO (xa_cons (xe_var (i := 0) rfl) xa_nil) ⟨A0, _, rfl, (noC_st hA0I), hX, rfl⟩ (wtc_EL hx)))
noncomputable def X_check_row_number (x0 : Int) : Option XC :=
  (M_is_integer x0).bind fun z1 => if ((!z1) || ((decide (x0 < (1 : Int))) || (decide ((4000 : Int) < ((Builtin.Int.intBits x0 : Nat) : Int))))) = true then (chkP (Str.length ("y" : Str) ≤ 100)).bind fun z2 => some (.f 0 "argument" ("y" : Str)) else none
def PreX_check_row_number (T : TC) : PreXX := fun As Ω R => ∃ (x0 : Int) (r : XC), As = [va T x0] ∧ X_check_row_number x0 = some r ∧ R = RQ T r Ω
theorem okx_check_row_number {f : Addr} {fd : FuncData} (F : Fun T.K "check_row_number" "check_row_number" s_check_row_number f fd) (c_is_integer : Cal P w T.K mg base 1 "is_integer" ["value"] (mkSp (Pre_is_integer T))) (g_LONGEST_EXPONENT : ∃ u, mg "LONGEST_EXPONENT" = some u ∧ RelV (.int 4000) u) (e_InvalidBound : MkC P w T.K mg base 3 "InvalidBound" (T.C 300) "argument") : FnOk P w T.K mg base (L2.CX P w) 5 f fd ["y"] (mkSpX (PreX_check_row_number T)) := by
  refine fn_okX F sc_check_row_number (fun As Ω R h => ?_) (fun cdv A outer s H E hr As Ω R F0 h hx tk => ?_)
  · obtain ⟨x0, r, rfl, _⟩ := h
    rfl
  obtain ⟨x0, r, rfl, hm, rfl⟩ := h
  refine ⟨_, (pss_one (ps_if (PW.pt (pw_or (pt_not (pt_val (pe_cal c_is_integer (hr.mono (by decide)) (by rfl) (pa_cons (pv 0) pa_nil)))) (pw_or (pt_cmpR op_lt (pv 0) pe_int (nomark _)) (pw_or1 (pt_cmpR op_gt (pe_bits (pv 0)) (pe_gl rfl g_LONGEST_EXPONENT) (nomark _)))))) (pss_one (ps_raiseX rfl tk e_InvalidBound (hr.mono (by decide)) (by rfl) (pa_cons pe_str pa_nil))) pss_nil)), fun D => ?_⟩
  suffices hy : XS _ D F0 [some (va T x0)] (stt Ω [] []) by
    rw [show (stt Ω [] []) = Ω from stt_self (by simp)] at hy
    exact hy
  unfold X_check_row_number at hm
  obtain ⟨z1, hz1, hm⟩ := bnd_some hm
  by_cases hc : ((!z1) || ((decide (x0 < (1 : Int))) || (decide ((4000 : Int) < ((Builtin.Int.intBits x0 : Nat) : Int))))) = true
  · rw [if_pos hc] at hm
    refine xs_ifT1 (xt_eq (xt_or (xt_not (xt_tB (T := T) (xe_call (xa_cons (xe_var (i := 0) rfl) xa_nil) ⟨x0, z1, rfl, hz1, rfl⟩ cal0))) (fun _ => (xt_or (xt_test (T := T) (xe_lt (xe_var (i := 0) rfl) xe_int)) (fun _ => (xt_test (T := T) (xe_gt (xe_bits (xe_var (i := 0) rfl)) xe_int))) (fun _ => rfl))) (fun _ => rfl)) hc) ?_
    obtain ⟨z2, hz2, hm⟩ := bnd_some hm
    obtain rfl := Option.some.inj hm
    exact xs_rzX (xa_cons xe_str xa_nil) (chkP_some hz2) (wtc_EL hx)
  · rw [if_neg hc] at hm
    cases hm
noncomputable def X_best_width (x0 : Int) : Option XC :=
  onC (X_check_row_number x0) (fun k => some k) none
def PreX_best_width (T : TC) : PreXX := fun As Ω R => ∃ (x0 : Int) (r : XC), As = [va T x0] ∧ X_best_width x0 = some r ∧ R = RQ T r Ω
theorem okx_best_width {f : Addr} {fd : FuncData} (F : Fun T.K "best_width" "best_width" s_best_width f fd) (cx_check_row_number : CalX P w T.K mg base 5 "check_row_number" ["y"] (sp2 (Pre_check_row_number T) (PreX_check_row_number T))) : FnOk P w T.K mg base (L2.CX P w) 6 f fd ["y"] (mkSpX (PreX_best_width T)) := by
  refine fn_okX F sc_best_width (fun As Ω R h => ?_) (fun cdv A outer s H E hr As Ω R F0 h hx tk => ?_)
  · obtain ⟨x0, r, rfl, _⟩ := h
    rfl
  obtain ⟨x0, r, rfl, hm, rfl⟩ := h
  refine ⟨_, (pss_cons (ps_expr (pe_calX cx_check_row_number (hr.mono (by decide)) (by rfl) tk (pa_cons (pv 0) pa_nil))) pss_never), fun D => ?_⟩
  suffices hy : XS _ D F0 [some (va T x0), none, none] (stt Ω [] []) by
    rw [show (stt Ω [] []) = Ω from stt_self (by simp)] at hy
    exact hy
  unfold X_best_width at hm
  cases hX : X_check_row_number x0 with
  | some kk =>
    rw [onC_s hX] at hm
    obtain rfl := Option.some.inj hm
    exact xs_seq (xs_dropX (xr_callC (xa_cons (xe_var (i := 0) rfl) xa_nil) ⟨x0, kk, rfl, hX, rfl⟩ (wtc_EL hx)))
  | none =>
    rw [onC_n hX] at hm
    cases hm
noncomputable def M_is_between__or6 (x1 : Int) (x2 : Int) : Option Bool :=
  some false
def Pre_is_between__or6 (T : TC) : PreT := fun As Ω R => ∃ (A0 : VA) (x1 : Int) (x2 : Int) (r : Bool), As = [A0, va T x1, va T x2] ∧ NoC T Ω A0 (.type "int") ∧ M_is_between__or6 x1 x2 = some r ∧ R = RV (va T r) (stt Ω [] [])
theorem sc_is_between__or6 : FnScope ["value", "low", "high"] ["value", "low", "high"] (defScope s_is_between__or6) := ⟨rfl, rfl, rfl, by decide +kernel, rfl, by decide +kernel, by decide +kernel⟩
theorem ok_is_between__or6 {f : Addr} {fd : FuncData} (F : Fun T.K "is_between" "is_between" s_is_between__or6 f fd) (c_is_integer__or3 : Cal P w T.K mg base 1 "is_integer" ["value"] (mkSp (Pre_is_integer__or3 T))) : FnOk P w T.K mg base CX0 2 f fd ["value", "low", "high"] (mkSp (Pre_is_between__or6 T)) := by
  refine fn_ok F sc_is_between__or6 (fun As Ω R h => ?_) (fun cdv A outer s H E hr As Ω R F0 h => ?_)
  · obtain ⟨A0, x1, x2, r, rfl, _⟩ := h
    rfl
  obtain ⟨A0, x1, x2, r, rfl, hA0I, hm, rfl⟩ := h
  refine ⟨_, (pss_one (ps_ret (pe_and (pe_cal c_is_integer__or3 (hr.mono (by decide)) (by rfl) (pa_cons (pv 0) pa_nil)) (pe_one pe_neverX)))), fun D hrt hnx => ?_⟩
  have ok : Okk Ω [] := okk0
  suffices hx : XS _ D F0 [some A0, some (va T x1), some (va T x2)] (stt Ω [] []) by
    rw [show (stt Ω [] []) = Ω from stt_self (by simp)] at hx
    exact hx
  unfold M_is_between__or6 at hm
  obtain rfl := Option.some.inj hm
  refine xs_ret (xe_andV (b := false) (c := false) (xe_call (xa_cons (xe_var (i := 0) rfl) xa_nil) ⟨A0, false, rfl, (noC_st hA0I), rfl, rfl⟩ cal0) (fun h => nomatch h)) hrt.all
noncomputable def X_window_rows__or5 (x0 : Int) : Option XC :=
  onC (X_check_row_number x0) (fun k => some k) ((M_check_row_number x0).bind fun z1 => (chkP (Str.length ("width" : Str) ≤ 100)).bind fun z4 => some (.f 0 "argument" ("width" : Str)))
def PreX_window_rows__or5 (T : TC) : PreXX := fun As Ω R => ∃ (x0 : Int) (A1 : VA) (r : XC), As = [va T x0, A1] ∧ NoC T Ω A1 (.type "int") ∧ X_window_rows__or5 x0 = some r ∧ R = RQ T r Ω
theorem sc_window_rows__or5 : FnScope ["y", "width"] ["y", "width"] (defScope s_window_rows__or5) := ⟨rfl, rfl, rfl, by decide +kernel, rfl, by decide +kernel, by decide +kernel⟩
theorem okx_window_rows__or5 {f : Addr} {fd : FuncData} (F : Fun T.K "window_rows" "window_rows" s_window_rows__or5 f fd) (cx_check_row_number : CalX P w T.K mg base 5 "check_row_number" ["y"] (sp2 (Pre_check_row_number T) (PreX_check_row_number T))) (g_WIDEST : ∃ u, mg "WIDEST" = some u ∧ RelV (.int 12) u) (c_is_between__or6 : Cal P w T.K mg base 2 "is_between" ["value", "low", "high"] (mkSp (Pre_is_between__or6 T))) (e_InvalidBound : MkC P w T.K mg base 3 "InvalidBound" (T.C 300) "argument") : FnOk P w T.K mg base (L2.CX P w) 6 f fd ["y", "width"] (mkSpX (PreX_window_rows__or5 T)) := by
  refine fn_okX F sc_window_rows__or5 (fun As Ω R h => ?_) (fun cdv A outer s H E hr As Ω R F0 h hx tk => ?_)
  · obtain ⟨x0, A1, r, rfl, _⟩ := h
    rfl
  obtain ⟨x0, A1, r, rfl, hA1I, hm, rfl⟩ := h
  refine ⟨_, (pss_cons (ps_expr (pe_calX cx_check_row_number (hr.mono (by decide)) (by rfl) tk (pa_cons (pv 0) pa_nil))) (pss_cons (ps_if (pt_not (pt_val (pe_cal c_is_between__or6 (hr.mono (by decide)) (by rfl) (pa_cons (pv 1) (pa_cons pe_int (pa_cons (pe_gl rfl g_WIDEST) pa_nil)))))) (pss_one (ps_raiseX rfl tk e_InvalidBound (hr.mono (by decide)) (by rfl) (pa_cons pe_str pa_nil))) pss_never) pss_never)), fun D => ?_⟩
  suffices hy : XS _ D F0 [some (va T x0), some A1] (stt Ω [] []) by
    rw [show (stt Ω [] []) = Ω from stt_self (by simp)] at hy
    exact hy
  unfold X_window_rows__or5 at hm
  cases hX : X_check_row_number x0 with
  | some kk =>
    rw [onC_s hX] at hm
    obtain rfl := Option.some.inj hm
    exact xs_seq (xs_dropX (xr_callC (xa_cons (xe_var (i := 0) rfl) xa_nil) ⟨x0, kk, rfl, hX, rfl⟩ (wtc_EL hx)))
  | none =>
    rw [onC_n hX] at hm
    obtain ⟨z1, hz1, hm⟩ := bnd_some hm
    refine xs_drop (xe_callS (xa_cons (xe_var (i := 0) rfl) xa_nil) ⟨x0, z1, rfl, hz1, rfl⟩ cal0) ?_
    show XS (tSeq _ _) _ _ [some (va T x0), some A1] (stt Ω [] [])
    refine xs_ifT (xt_notT (xt_tB (T := T) (xe_call (xa_cons (xe_var (i := 1) rfl) (xa_cons xe_int (xa_cons xe_int xa_nil))) ⟨A1, (1 : Int), (12 : Int), false, rfl, (noC_st hA1I), rfl, rfl⟩ cal0))) ?_
    obtain ⟨z4, hz4, hm⟩ := bnd_some hm
    obtain rfl := Option.some.inj hm
    exact xs_rzX (xa_cons xe_str xa_nil) (chkP_some hz4) (wtc_EL hx)
noncomputable def M_is_integer__or9 (x0 : Bool) : Option Bool :=
  some (true && (!true))
def Pre_is_integer__or9 (T : TC) : PreT := fun As Ω R => ∃ (x0 : Bool) (r : Bool), As = [va T x0] ∧ M_is_integer__or9 x0 = some r ∧ R = RV (va T r) (stt Ω [] [])
theorem sc_is_integer__or9 : FnScope ["value"] ["value"] (defScope s_is_integer__or9) := ⟨rfl, rfl, rfl, by decide +kernel, rfl, by decide +kernel, by decide +kernel⟩
theorem ok_is_integer__or9 {f : Addr} {fd : FuncData} (F : Fun T.K "is_integer" "is_integer" s_is_integer__or9 f fd) (z_isinstance : mg "isinstance" = none) (z_int : mg "int" = none) (z_bool : mg "bool" = none) : FnOk P w T.K mg base CX0 1 f fd ["value"] (mkSp (Pre_is_integer__or9 T)) := by
  refine fn_ok F sc_is_integer__or9 (fun As Ω R h => ?_) (fun cdv A outer s H E hr As Ω R F0 h => ?_)
  · obtain ⟨x0, r, rfl, _⟩ := h
    rfl
  obtain ⟨x0, r, rfl, hm, rfl⟩ := h
  refine ⟨_, (pss_one (ps_ret (pe_and (pe_callB (cr_isiK (K := T.K) rfl) (by rfl) z_isinstance (by decide +kernel) (pa_cons (pv 0) (pa_cons (pe_bltn (v := .ty "int") (by rfl) z_int (by decide +kernel) rfl) pa_nil))) (pe_one (pe_not (pe_callB (cr_isiK (K := T.K) rfl) (by rfl) z_isinstance (by decide +kernel) (pa_cons (pv 0) (pa_cons (pe_bltn (v := .ty "bool") (by rfl) z_bool (by decide +kernel) rfl) pa_nil)))))))), fun D hrt hnx => ?_⟩
  have ok : Okk Ω [] := okk0
  suffices hx : XS _ D F0 [some (va T x0)] (stt Ω [] []) by
    rw [show (stt Ω [] []) = Ω from stt_self (by simp)] at hx
    exact hx
  unfold M_is_integer__or9 at hm
  obtain rfl := Option.some.inj hm
  refine xs_ret (xe_andV (xe_isi (xe_var (i := 0) rfl) xe_vx (.ty _) (fun F H v hh a => ty_bool hh a) (kit_ty (by decide +kernel))) (fun _ => (xe_notV (xe_isi (xe_var (i := 0) rfl) xe_vx (.ty _) (fun F H v hh a => ty_bool hh a) (kit_ty (by decide +kernel)))))) hrt.all
noncomputable def X_check_row_number__or8 (x0 : Bool) : Option XC :=
  (chkP (Str.length ("y" : Str) ≤ 100)).bind fun z3 => some (.f 0 "argument" ("y" : Str))
def PreX_check_row_number__or8 (T : TC) : PreXX := fun As Ω R => ∃ (x0 : Bool) (r : XC), As = [va T x0] ∧ X_check_row_number__or8 x0 = some r ∧ R = RQ T r Ω
theorem sc_check_row_number__or8 : FnScope ["y"] ["y"] (defScope s_check_row_number__or8) := ⟨rfl, rfl, rfl, by decide +kernel, rfl, by decide +kernel, by decide +kernel⟩
theorem okx_check_row_number__or8 {f : Addr} {fd : FuncData} (F : Fun T.K "check_row_number" "check_row_number" s_check_row_number__or8 f fd) (c_is_integer__or9 : Cal P w T.K mg base 1 "is_integer" ["value"] (mkSp (Pre_is_integer__or9 T))) (e_InvalidBound : MkC P w T.K mg base 3 "InvalidBound" (T.C 300) "argument") : FnOk P w T.K mg base (L2.CX P w) 5 f fd ["y"] (mkSpX (PreX_check_row_number__or8 T)) := by
  refine fn_okX F sc_check_row_number__or8 (fun As Ω R h => ?_) (fun cdv A outer s H E hr As Ω R F0 h hx tk => ?_)
  · obtain ⟨x0, r, rfl, _⟩ := h
    rfl
  obtain ⟨x0, r, rfl, hm, rfl⟩ := h
  refine ⟨_, (pss_one (ps_if (PW.pt (pw_or (pt_not (pt_val (pe_cal c_is_integer__or9 (hr.mono (by decide)) (by rfl) (pa_cons (pv 0) pa_nil)))) (pw_or pt_noX (pw_or1 pt_noX)))) (pss_one (ps_raiseX rfl tk e_InvalidBound (hr.mono (by decide)) (by rfl) (pa_cons pe_str pa_nil))) pss_never)), fun D => ?_⟩
  suffices hy : XS _ D F0 [some (va T x0)] (stt Ω [] []) by
    rw [show (stt Ω [] []) = Ω from stt_self (by simp)] at hy
    exact hy
  unfold X_check_row_number__or8 at hm
  refine xs_ifT1 (xt_orFst (xt_notT (xt_tB (T := T) (xe_call (xa_cons (xe_var (i := 0) rfl) xa_nil) ⟨x0, false, rfl, rfl, rfl⟩ cal0)))) ?_
  obtain ⟨z3, hz3, hm⟩ := bnd_some hm
  obtain rfl := Option.some.inj hm
  exact xs_rzX (xa_cons xe_str xa_nil) (chkP_some hz3) (wtc_EL hx)
noncomputable def X_best_width__or7 (x0 : Bool) : Option XC :=
  X_check_row_number__or8 x0
def PreX_best_width__or7 (T : TC) : PreXX := fun As Ω R => ∃ (x0 : Bool) (r : XC), As = [va T x0] ∧ X_best_width__or7 x0 = some r ∧ R = RQ T r Ω
theorem sc_best_width__or7 : FnScope ["y", "costs", "width"] ["y"] (defScope s_best_width__or7) := ⟨rfl, rfl, rfl, by decide +kernel, rfl, by decide +kernel, by decide +kernel⟩
theorem okx_best_width__or7 {f : Addr} {fd : FuncData} (F : Fun T.K "best_width" "best_width" s_best_width__or7 f fd) (cx_check_row_number__or8 : CalX P w T.K mg base 5 "check_row_number" ["y"] (mkSpX (PreX_check_row_number__or8 T))) : FnOk P w T.K mg base (L2.CX P w) 6 f fd ["y"] (mkSpX (PreX_best_width__or7 T)) := by
  refine fn_okX F sc_best_width__or7 (fun As Ω R h => ?_) (fun cdv A outer s H E hr As Ω R F0 h hx tk => ?_)
  · obtain ⟨x0, r, rfl, _⟩ := h
    rfl
  obtain ⟨x0, r, rfl, hm, rfl⟩ := h
  refine ⟨_, (pss_cons (ps_expr (pe_calX cx_check_row_number__or8 (hr.mono (by decide)) (by rfl) tk (pa_cons (pv 0) pa_nil))) pss_never), fun D => ?_⟩
  suffices hy : XS _ D F0 [some (va T x0), none, none] (stt Ω [] []) by
    rw [show (stt Ω [] []) = Ω from stt_self (by simp)] at hy
    exact hy
  unfold X_best_width__or7 at hm
  have hX := hm
  exact xs_seq (xs_dropX (xr_callO (xa_cons (xe_var (i := 0) rfl) xa_nil) ⟨x0, _, rfl, hX, rfl⟩ (wtc_EL hx)))
noncomputable def X_window_rows__or10 (x0 : Bool) : Option XC :=
  X_check_row_number__or8 x0
def PreX_window_rows__or10 (T : TC) : PreXX := fun As Ω R => ∃ (x0 : Bool) (A1 : VA) (r : XC), As = [va T x0, A1] ∧ X_window_rows__or10 x0 = some r ∧ R = RQ T r Ω
theorem sc_window_rows__or10 : FnScope ["y", "width"] ["y", "width"] (defScope s_window_rows__or10) := ⟨rfl, rfl, rfl, by decide +kernel, rfl, by decide +kernel, by decide +kernel⟩
theorem okx_window_rows__or10 {f : Addr} {fd : FuncData} (F : Fun T.K "window_rows" "window_rows" s_window_rows__or10 f fd) (cx_check_row_number__or8 : CalX P w T.K mg base 5 "check_row_number" ["y"] (mkSpX (PreX_check_row_number__or8 T))) : FnOk P w T.K mg base (L2.CX P w) 6 f fd ["y", "width"] (mkSpX (PreX_window_rows__or10 T)) := by
  refine fn_okX F sc_window_rows__or10 (fun As Ω R h => ?_) (fun cdv A outer s H E hr As Ω R F0 h hx tk => ?_)
  · obtain ⟨x0, A1, r, rfl, _⟩ := h
    rfl
  obtain ⟨x0, A1, r, rfl, hm, rfl⟩ := h
  refine ⟨_, (pss_cons (ps_expr (pe_calX cx_check_row_number__or8 (hr.mono (by decide)) (by rfl) tk (pa_cons (pv 0) pa_nil))) pss_never), fun D => ?_⟩
  suffices hy : XS _ D F0 [some (va T x0), some A1] (stt Ω [] []) by
    rw [show (stt Ω [] []) = Ω from stt_self (by simp)] at hy
    exact hy
  unfold X_window_rows__or10 at hm
  have hX := hm
  exact xs_seq (xs_dropX (xr_callO (xa_cons (xe_var (i := 0) rfl) xa_nil) ⟨x0, _, rfl, hX, rfl⟩ (wtc_EL hx)))
noncomputable def X_window_rows (x0 : Int) (x1 : Int) : Option XC :=
  onC (X_check_row_number x0) (fun k => some k) ((M_check_row_number x0).bind fun z1 => (M_is_between x1 (1 : Int) (12 : Int)).bind fun z2 => if (!z2) = true then (chkP (Str.length ("width" : Str) ≤ 100)).bind fun z3 => some (.f 0 "argument" ("width" : Str)) else none)
def PreX_window_rows (T : TC) : PreXX := fun As Ω R => ∃ (x0 : Int) (x1 : Int) (r : XC), As = [va T x0, va T x1] ∧ X_window_rows x0 x1 = some r ∧ R = RQ T r Ω
theorem okx_window_rows {f : Addr} {fd : FuncData} (F : Fun T.K "window_rows" "window_rows" s_window_rows f fd) (cx_check_row_number : CalX P w T.K mg base 5 "check_row_number" ["y"] (sp2 (Pre_check_row_number T) (PreX_check_row_number T))) (g_WIDEST : ∃ u, mg "WIDEST" = some u ∧ RelV (.int 12) u) (c_is_between : Cal P w T.K mg base 2 "is_between" ["value", "low", "high"] (mkSp (Pre_is_between T))) (e_InvalidBound : MkC P w T.K mg base 3 "InvalidBound" (T.C 300) "argument") : FnOk P w T.K mg base (L2.CX P w) 6 f fd ["y", "width"] (mkSpX (PreX_window_rows T)) := by
  refine fn_okX F sc_window_rows (fun As Ω R h => ?_) (fun cdv A outer s H E hr As Ω R F0 h hx tk => ?_)
  · obtain ⟨x0, x1, r, rfl, _⟩ := h
    rfl
  obtain ⟨x0, x1, r, rfl, hm, rfl⟩ := h
  refine ⟨_, (pss_cons (ps_expr (pe_calX cx_check_row_number (hr.mono (by decide)) (by rfl) tk (pa_cons (pv 0) pa_nil))) (pss_cons (ps_if (pt_not (pt_val (pe_cal c_is_between (hr.mono (by decide)) (by rfl) (pa_cons (pv 1) (pa_cons pe_int (pa_cons (pe_gl rfl g_WIDEST) pa_nil)))))) (pss_one (ps_raiseX rfl tk e_InvalidBound (hr.mono (by decide)) (by rfl) (pa_cons pe_str pa_nil))) pss_nil) pss_never)), fun D => ?_⟩
  suffices hy : XS _ D F0 [some (va T x0), some (va T x1)] (stt Ω [] []) by
    rw [show (stt Ω [] []) = Ω from stt_self (by simp)] at hy
    exact hy
  unfold X_window_rows at hm
  cases hX : X_check_row_number x0 with
  | some kk =>
    rw [onC_s hX] at hm
    obtain rfl := Option.some.inj hm
    exact xs_seq (xs_dropX (xr_callC (xa_cons (xe_var (i := 0) rfl) xa_nil) ⟨x0, kk, rfl, hX, rfl⟩ (wtc_EL hx)))
  | none =>
    rw [onC_n hX] at hm
    obtain ⟨z1, hz1, hm⟩ := bnd_some hm
    refine xs_drop (xe_callS (xa_cons (xe_var (i := 0) rfl) xa_nil) ⟨x0, z1, rfl, hz1, rfl⟩ cal0) ?_
    show XS (tSeq _ _) _ _ [some (va T x0), some (va T x1)] (stt Ω [] [])
    obtain ⟨z2, hz2, hm⟩ := bnd_some hm
    by_cases hc : (!z2) = true
    · rw [if_pos hc] at hm
      refine xs_ifT (xt_eq (xt_not (xt_tB (T := T) (xe_call (xa_cons (xe_var (i := 1) rfl) (xa_cons xe_int (xa_cons xe_int xa_nil))) ⟨x1, (1 : Int), (12 : Int), z2, rfl, hz2, rfl⟩ cal0))) hc) ?_
      obtain ⟨z3, hz3, hm⟩ := bnd_some hm
      obtain rfl := Option.some.inj hm
      exact xs_rzX (xa_cons xe_str xa_nil) (chkP_some hz3) (wtc_EL hx)
    · rw [if_neg hc] at hm
      refine xs_ifN (xt_eq (xt_not (xt_tB (T := T) (xe_call (xa_cons (xe_var (i := 1) rfl) (xa_cons xe_int (xa_cons xe_int xa_nil))) ⟨x1, (1 : Int), (12 : Int), z2, rfl, hz2, rfl⟩ cal0))) (nt hc)) ?_
      show XS _ _ _ [some (va T x0), some (va T x1)] (stt Ω [] [])
      cases hm
noncomputable def M_is_between__or12 (x0 : Bool) (x1 : Int) (x2 : Int) : Option Bool :=
  some false
def Pre_is_between__or12 (T : TC) : PreT := fun As Ω R => ∃ (x0 : Bool) (x1 : Int) (x2 : Int) (r : Bool), As = [va T x0, va T x1, va T x2] ∧ M_is_between__or12 x0 x1 x2 = some r ∧ R = RV (va T r) (stt Ω [] [])
theorem sc_is_between__or12 : FnScope ["value", "low", "high"] ["value", "low", "high"] (defScope s_is_between__or12) := ⟨rfl, rfl, rfl, by decide +kernel, rfl, by decide +kernel, by decide +kernel⟩
theorem ok_is_between__or12 {f : Addr} {fd : FuncData} (F : Fun T.K "is_between" "is_between" s_is_between__or12 f fd) (c_is_integer__or9 : Cal P w T.K mg base 1 "is_integer" ["value"] (mkSp (Pre_is_integer__or9 T))) : FnOk P w T.K mg base CX0 2 f fd ["value", "low", "high"] (mkSp (Pre_is_between__or12 T)) := by
  refine fn_ok F sc_is_between__or12 (fun As Ω R h => ?_) (fun cdv A outer s H E hr As Ω R F0 h => ?_)
  · obtain ⟨x0, x1, x2, r, rfl, _⟩ := h
    rfl
  obtain ⟨x0, x1, x2, r, rfl, hm, rfl⟩ := h
  refine ⟨_, (pss_one (ps_ret (pe_and (pe_cal c_is_integer__or9 (hr.mono (by decide)) (by rfl) (pa_cons (pv 0) pa_nil)) (pe_one pe_neverX)))), fun D hrt hnx => ?_⟩
  have ok : Okk Ω [] := okk0
  suffices hx : XS _ D F0 [some (va T x0), some (va T x1), some (va T x2)] (stt Ω [] []) by
    rw [show (stt Ω [] []) = Ω from stt_self (by simp)] at hx
    exact hx
  unfold M_is_between__or12 at hm
  obtain rfl := Option.some.inj hm
  refine xs_ret (xe_andV (b := false) (c := false) (xe_call (xa_cons (xe_var (i := 0) rfl) xa_nil) ⟨x0, false, rfl, rfl, rfl⟩ cal0) (fun h => nomatch h)) hrt.all
noncomputable def X_window_rows__or11 (x0 : Int) (x1 : Bool) : Option XC :=
  onC (X_check_row_number x0) (fun k => some k) ((M_check_row_number x0).bind fun z1 => (chkP (Str.length ("width" : Str) ≤ 100)).bind fun z4 => some (.f 0 "argument" ("width" : Str)))
def PreX_window_rows__or11 (T : TC) : PreXX := fun As Ω R => ∃ (x0 : Int) (x1 : Bool) (r : XC), As = [va T x0, va T x1] ∧ X_window_rows__or11 x0 x1 = some r ∧ R = RQ T r Ω
theorem sc_window_rows__or11 : FnScope ["y", "width"] ["y", "width"] (defScope s_window_rows__or11) := ⟨rfl, rfl, rfl, by decide +kernel, rfl, by decide +kernel, by decide +kernel⟩
theorem okx_window_rows__or11 {f : Addr} {fd : FuncData} (F : Fun T.K "window_rows" "window_rows" s_window_rows__or11 f fd) (cx_check_row_number : CalX P w T.K mg base 5 "check_row_number" ["y"] (sp2 (Pre_check_row_number T) (PreX_check_row_number T))) (g_WIDEST : ∃ u, mg "WIDEST" = some u ∧ RelV (.int 12) u) (c_is_between__or12 : Cal P w T.K mg base 2 "is_between" ["value", "low", "high"] (mkSp (Pre_is_between__or12 T))) (e_InvalidBound : MkC P w T.K mg base 3 "InvalidBound" (T.C 300) "argument") : FnOk P w T.K mg base (L2.CX P w) 6 f fd ["y", "width"] (mkSpX (PreX_window_rows__or11 T)) := by
  refine fn_okX F sc_window_rows__or11 (fun As Ω R h => ?_) (fun cdv A outer s H E hr As Ω R F0 h hx tk => ?_)
  · obtain ⟨x0, x1, r, rfl, _⟩ := h
    rfl
  obtain ⟨x0, x1, r, rfl, hm, rfl⟩ := h
  refine ⟨_, (pss_cons (ps_expr (pe_calX cx_check_row_number (hr.mono (by decide)) (by rfl) tk (pa_cons (pv 0) pa_nil))) (pss_cons (ps_if (pt_not (pt_val (pe_cal c_is_between__or12 (hr.mono (by decide)) (by rfl) (pa_cons (pv 1) (pa_cons pe_int (pa_cons (pe_gl rfl g_WIDEST) pa_nil)))))) (pss_one (ps_raiseX rfl tk e_InvalidBound (hr.mono (by decide)) (by rfl) (pa_cons pe_str pa_nil))) pss_never) pss_never)), fun D => ?_⟩
  suffices hy : XS _ D F0 [some (va T x0), some (va T x1)] (stt Ω [] []) by
    rw [show (stt Ω [] []) = Ω from stt_self (by simp)] at hy
    exact hy
  unfold X_window_rows__or11 at hm
  cases hX : X_check_row_number x0 with
  | some kk =>
    rw [onC_s hX] at hm
    obtain rfl := Option.some.inj hm
    exact xs_seq (xs_dropX (xr_callC (xa_cons (xe_var (i := 0) rfl) xa_nil) ⟨x0, kk, rfl, hX, rfl⟩ (wtc_EL hx)))
  | none =>
    rw [onC_n hX] at hm
    obtain ⟨z1, hz1, hm⟩ := bnd_some hm
    refine xs_drop (xe_callS (xa_cons (xe_var (i := 0) rfl) xa_nil) ⟨x0, z1, rfl, hz1, rfl⟩ cal0) ?_
    show XS (tSeq _ _) _ _ [some (va T x0), some (va T x1)] (stt Ω [] [])
    refine xs_ifT (xt_notT (xt_tB (T := T) (xe_call (xa_cons (xe_var (i := 1) rfl) (xa_cons xe_int (xa_cons xe_int xa_nil))) ⟨x1, (1 : Int), (12 : Int), false, rfl, rfl, rfl⟩ cal0))) ?_
    obtain ⟨z4, hz4, hm⟩ := bnd_some hm
    obtain rfl := Option.some.inj hm
    exact xs_rzX (xa_cons xe_str xa_nil) (chkP_some hz4) (wtc_EL hx)
def SpU__law_refused_right_best_width (T : TC) : Sp := fun vs H Q E => mkSpX (PreX_best_width__or1 T) vs H Q E ∨ mkSpX (PreX_best_width T) vs H Q E ∨ mkSpX (PreX_best_width__or7 T) vs H Q E
theorem sub__law_refused_right_best_width_0 {T : TC} {vs : List V} {H : Hp} {Q : VK} {E : XK} (h : mkSpX (PreX_best_width__or1 T) vs H Q E) : SpU__law_refused_right_best_width T vs H Q E := .inl h
theorem sub__law_refused_right_best_width_1 {T : TC} {vs : List V} {H : Hp} {Q : VK} {E : XK} (h : mkSpX (PreX_best_width T) vs H Q E) : SpU__law_refused_right_best_width T vs H Q E := .inr (.inl h)
theorem sub__law_refused_right_best_width_2 {T : TC} {vs : List V} {H : Hp} {Q : VK} {E : XK} (h : mkSpX (PreX_best_width__or7 T) vs H Q E) : SpU__law_refused_right_best_width T vs H Q E := .inr (.inr (h))
def SpU__law_refused_right_window_rows (T : TC) : Sp := fun vs H Q E => mkSpX (PreX_window_rows__or4 T) vs H Q E ∨ mkSpX (PreX_window_rows__or5 T) vs H Q E ∨ mkSpX (PreX_window_rows__or10 T) vs H Q E ∨ mkSpX (PreX_window_rows T) vs H Q E ∨ mkSpX (PreX_window_rows__or11 T) vs H Q E
theorem sub__law_refused_right_window_rows_0 {T : TC} {vs : List V} {H : Hp} {Q : VK} {E : XK} (h : mkSpX (PreX_window_rows__or4 T) vs H Q E) : SpU__law_refused_right_window_rows T vs H Q E := .inl h
theorem sub__law_refused_right_window_rows_1 {T : TC} {vs : List V} {H : Hp} {Q : VK} {E : XK} (h : mkSpX (PreX_window_rows__or5 T) vs H Q E) : SpU__law_refused_right_window_rows T vs H Q E := .inr (.inl h)
theorem sub__law_refused_right_window_rows_2 {T : TC} {vs : List V} {H : Hp} {Q : VK} {E : XK} (h : mkSpX (PreX_window_rows__or10 T) vs H Q E) : SpU__law_refused_right_window_rows T vs H Q E := .inr (.inr (.inl h))
theorem sub__law_refused_right_window_rows_3 {T : TC} {vs : List V} {H : Hp} {Q : VK} {E : XK} (h : mkSpX (PreX_window_rows T) vs H Q E) : SpU__law_refused_right_window_rows T vs H Q E := .inr (.inr (.inr (.inl h)))
theorem sub__law_refused_right_window_rows_4 {T : TC} {vs : List V} {H : Hp} {Q : VK} {E : XK} (h : mkSpX (PreX_window_rows__or11 T) vs H Q E) : SpU__law_refused_right_window_rows T vs H Q E := .inr (.inr (.inr (.inr (h))))
noncomputable def M__law_refused_right  : Option Bool :=
  (chkP (CShl (1 : Int) (4000 : Int))).bind fun z1 => (M__law_deep true).bind fun z2 => (M__law_deep false).bind fun z3 => (((X_window_rows__or4).bind fun z5 => (M__law_said (some z5)).bind fun z6 => (X_best_width__or1).bind fun z7 => (M__law_said (some z7)).bind fun z8 => (chkP ((-(2 ^ 63) ≤ (2 : Int) ∧ (2 : Int) < 2 ^ 63) ∧ ([("y" : Str)] : List Str).length * ((2 : Int)).toNat ≤ sizeLine)).bind fun z9 => (chkP ((LF.mk ([z6, z8] : List Str)) = (LF.mk (List.replicate ((2 : Int)).toNat ([("y" : Str)] : List Str)).flatten) ∧ Dat.ok (LF.mk ([z6, z8] : List Str)))).bind fun z10 => some (Stp.nx ()) : Option (Stp Unit Unit))).bind fun z25 => (allN (fun (a11 : Int) => ((X_window_rows__or5 a11).bind fun z12 => (M__law_said (some z12)).bind fun z13 => (X_best_width a11).bind fun z14 => (M__law_said (some z14)).bind fun z15 => (chkP ((-(2 ^ 63) ≤ (2 : Int) ∧ (2 : Int) < 2 ^ 63) ∧ ([("y" : Str)] : List Str).length * ((2 : Int)).toNat ≤ sizeLine)).bind fun z16 => (chkP ((LF.mk ([z13, z15] : List Str)) = (LF.mk (List.replicate ((2 : Int)).toNat ([("y" : Str)] : List Str)).flatten) ∧ Dat.ok (LF.mk ([z13, z15] : List Str)))).bind fun z17 => some (Stp.nx ()) : Option (Stp Unit Unit))) ([(0 : Int), (-(1 : Int)), ((1 : Int) * 2 ^ ((4000 : Int)).toNat)] : List Int)).bind fun z26 => (allN (fun (a18 : Bool) => ((X_window_rows__or10 a18).bind fun z19 => (M__law_said (some z19)).bind fun z20 => (X_best_width__or7 a18).bind fun z21 => (M__law_said (some z21)).bind fun z22 => (chkP ((-(2 ^ 63) ≤ (2 : Int) ∧ (2 : Int) < 2 ^ 63) ∧ ([("y" : Str)] : List Str).length * ((2 : Int)).toNat ≤ sizeLine)).bind fun z23 => (chkP ((LF.mk ([z20, z22] : List Str)) = (LF.mk (List.replicate ((2 : Int)).toNat ([("y" : Str)] : List Str)).flatten) ∧ Dat.ok (LF.mk ([z20, z22] : List Str)))).bind fun z24 => some (Stp.nx ()) : Option (Stp Unit Unit))) ([true] : List Bool)).bind fun z27 => (M__law_deep true).bind fun z28 => (((X_window_rows__or5 (5 : Int)).bind fun z30 => (M__law_said (some z30)).bind fun z31 => (chkP (z31 = ("width" : Str))).bind fun z32 => some (Stp.nx ()) : Option (Stp Unit Unit))).bind fun z41 => (allN (fun (a33 : Int) => ((X_window_rows (5 : Int) a33).bind fun z34 => (M__law_said (some z34)).bind fun z35 => (chkP (z35 = ("width" : Str))).bind fun z36 => some (Stp.nx ()) : Option (Stp Unit Unit))) ([(0 : Int), (13 : Int), (-(1 : Int))] : List Int)).bind fun z42 => (allN (fun (a37 : Bool) => ((X_window_rows__or11 (5 : Int) a37).bind fun z38 => (M__law_said (some z38)).bind fun z39 => (chkP (z39 = ("width" : Str))).bind fun z40 => some (Stp.nx ()) : Option (Stp Unit Unit))) ([true] : List Bool)).bind fun z43 => (M_best_width (1 : Int)).bind fun z44 => (chkP ((decide (z44 = (1 : Int))) = true)).bind fun z45 => (M_window_rows (1000 : Int) (4 : Int)).bind fun z46 => (chkP (Dat.ok (LF.mk z46) ∧ Dat.ok (LF.mk ([((6 : Int), (15 : Int)), ((3 : Int), (5 : Int))] : List (Int × Int))))).bind fun z47 => (chkP ((eqD (LF.mk z46) (LF.mk ([((6 : Int), (15 : Int)), ((3 : Int), (5 : Int))] : List (Int × Int)))) = true)).bind fun z48 => some true
def Pre__law_refused_right (T : TC) : PreT := fun As Ω R => ∃ (kT : Nat) (r : Bool), As = [] ∧ Ω[kT]? = some (tabA (tbs T)) ∧ M__law_refused_right  = some r ∧ R = RV (va T r) (stt Ω [] [])
theorem sc__law_refused_right : FnScope ["_law_odd", "_law_ask"] [] (defScope s__law_refused_right) := ⟨rfl, rfl, rfl, by decide +kernel, rfl, by decide +kernel, by decide +kernel⟩
theorem ok__law_refused_right {f : Addr} {fd : FuncData} (F : Fun T.K "_law_refused_right" "_law_refused_right" s__law_refused_right f fd) (c__law_deep : Cal P w T.K mg base 1 "_law_deep" ["_law_is_list"] (mkSp (Pre__law_deep T))) (TB__law_refused_right : LamX.TabB base mg (T.C 150) (T.C 100)) (hu__law_refused_right : ∀ p ∈ tbs T, p.1 = T.C 100 → p.2 = qual__law_refused_right) (hcd__law_refused_right : CodeIs T.K f (T.C 150)) (cu__law_refused_right_best_width : CalX P w T.K mg base 6 "best_width" ["y"] (SpU__law_refused_right_best_width T)) (cu__law_refused_right_window_rows : CalX P w T.K mg base 6 "window_rows" ["y", "width"] (SpU__law_refused_right_window_rows T)) (c__law_said : CalLX P w T.K mg base 7 9 "_law_said" ["_law_ask"] (Pre__law_said T)) (c_best_width : Cal P w T.K mg base 6 "best_width" ["y"] (mkSp (Pre_best_width T))) (c_window_rows : Cal P w T.K mg base 6 "window_rows" ["y", "width"] (mkSp (Pre_window_rows T))) : FnOk P w T.K mg base CX0 10 f fd [] (mkSp (Pre__law_refused_right T)) := by
  refine fn_okC F hcd__law_refused_right sc__law_refused_right (fun As Ω R h => ?_) (fun A outer s H E hr As Ω R F0 h => ?_)
  · obtain ⟨kT, r, rfl, _⟩ := h
    rfl
  obtain ⟨kT, r, rfl, hkT, hm, rfl⟩ := h
  refine ⟨_, (pss_cons (ps_for PassesOwn.never rfl (pi_listK (K := T.K) (pe_lst (pa_cons pe_int (pa_cons (pe_un un_neg pe_int) (pa_cons pe_bl (pa_cons pe_non (pa_cons pe_str (pa_cons (pe_lst (pa_cons pe_int pa_nil)) (pa_cons (pe_tup (pa_cons pe_int pa_nil)) (pa_cons (pe_fz pe_dnewK) (pa_cons (pe_op op_shlW pe_int pe_int) (pa_cons (pe_cal c__law_deep (hr.mono (by decide)) (by rfl) (pa_cons pe_bl pa_nil)) (pa_cons (pe_cal c__law_deep (hr.mono (by decide)) (by rfl) (pa_cons pe_bl pa_nil)) pa_nil)))))))))))) rfl) (pg_name (i := 0) sc__law_refused_right.nd rfl (.inr rfl)) (pss_one (ps_if (pt_cmpR (op_neXK (K := T.K) (by exact hr.units) rfl) (pe_lcF (own := [("_law_ask", 1)]) rfl sc__law_refused_right.nd (pi_listK (K := T.K) (pe_lst (pa_cons (pe_lamV (kl := 7) TB__law_refused_right rfl (LamX.lamS_by (sc := defScope s__law_refused_right) (by decide +kernel)) (fun E A outer s H f c' hr => by exact (pe_calX cu__law_refused_right_window_rows (hr.mono (by decide)) (by rfl) (takes_of rfl rfl rfl rfl) (pa_cons (pv 0) (pa_cons pe_non pa_nil))))) (pa_cons (pe_lamVD (kl := 7) (nm := "_law_of") TB__law_refused_right rfl (lamSD_by (N := ["_law_odd", "_law_ask"]) (sc := defScope s__law_refused_right) (by decide +kernel)) (fun E A outer s H f c' hr => by exact (pe_calX cu__law_refused_right_best_width (hr.mono (by decide)) (by rfl) (takes_of rfl rfl rfl rfl) (pa_cons (pv 0) pa_nil)))) pa_nil))) rfl) (blkOk_by (N := ["_law_odd", "_law_ask"]) (sc := defScope s__law_refused_right) (by decide +kernel)) (fun _ _ _ _ _ => (pg_name (i := 1) sc__law_refused_right.nd rfl (.inl rfl))) (fun _ _ _ _ _ _ _ => PTr.of pts_nil) (fun σ s H C cl fp hat => per_callBX (i := 1) c__law_said (hr.mono (by decide)) hat (by rfl) rfl (.inl rfl))) (pe_op op_mulQ (pe_lst (pa_cons pe_str pa_nil)) pe_int) (nomark _)) pss_never pss_nil))) (pss_cons (ps_for PassesOwn.never rfl (pi_listK (K := T.K) (pe_lst (pa_cons pe_int (pa_cons pe_int (pa_cons (pe_un un_neg pe_int) (pa_cons pe_bl (pa_cons pe_non (pa_cons pe_str (pa_cons (pe_lst (pa_cons pe_int pa_nil)) (pa_cons (pe_fz pe_dnewK) (pa_cons (pe_cal c__law_deep (hr.mono (by decide)) (by rfl) (pa_cons pe_bl pa_nil)) pa_nil)))))))))) rfl) (pg_name (i := 0) sc__law_refused_right.nd rfl (.inr rfl)) (pss_one (ps_if (pt_cmpR (op_neXK (K := T.K) (by exact hr.units) rfl) (pe_callLXl c__law_said (hr.mono (by decide)) (by rfl) TB__law_refused_right rfl (LamX.lamS_by (sc := defScope s__law_refused_right) (by decide +kernel)) (fun E A outer s H f c' hr => by exact (pe_calX cu__law_refused_right_window_rows (hr.mono (by decide)) (by rfl) (takes_of rfl rfl rfl rfl) (pa_cons pe_int (pa_cons (pv 0) pa_nil))))) pe_str (nomark _)) pss_never pss_nil))) (pss_one (ps_ret (pe_and (pe_cmpR (op_eqXK (K := T.K) (by exact hr.units) rfl) (pe_cal c_best_width (hr.mono (by decide)) (by rfl) (pa_cons pe_int pa_nil)) pe_int (nomark _)) (pe_one (pe_cmpR (op_eqXK (K := T.K) (by exact hr.units) rfl) (pe_cal c_window_rows (hr.mono (by decide)) (by rfl) (pa_cons pe_int (pa_cons pe_int pa_nil))) (pe_lst (pa_cons (pe_tup (pa_cons pe_int (pa_cons pe_int pa_nil))) (pa_cons (pe_tup (pa_cons pe_int (pa_cons pe_int pa_nil))) pa_nil))) (nomark _)))))))), fun D hrt hnx => ?_⟩
  have ok : Okk Ω [] := okk0
  suffices hx : XS _ D F0 [none, none] (stt Ω [] []) by
    rw [show (stt Ω [] []) = Ω from stt_self (by simp)] at hx
    exact hx
  unfold M__law_refused_right at hm
  obtain ⟨z1, hz1, hm⟩ := bnd_some hm
  obtain ⟨z2, hz2, hm⟩ := bnd_some hm
  obtain ⟨z3, hz3, hm⟩ := bnd_some hm
  obtain ⟨z25, hz25, hm⟩ := bnd_some hm
  obtain ⟨z26, hz26, hm⟩ := bnd_some hm
  obtain ⟨z27, hz27, hm⟩ := bnd_some hm
  refine xs_forAS (T := T) (k := 0) (G := [none, none]) (P := (fun A => NoC T (stt Ω [] []) A (.type "int"))) (QI := (fun a11 => ∃ st : Stp Unit Unit, ((X_window_rows__or5 a11).bind fun z12 => (M__law_said (some z12)).bind fun z13 => (X_best_width a11).bind fun z14 => (M__law_said (some z14)).bind fun z15 => (chkP ((-(2 ^ 63) ≤ (2 : Int) ∧ (2 : Int) < 2 ^ 63) ∧ ([("y" : Str)] : List Str).length * ((2 : Int)).toNat ≤ sizeLine)).bind fun z16 => (chkP ((LF.mk ([z13, z15] : List Str)) = (LF.mk (List.replicate ((2 : Int)).toNat ([("y" : Str)] : List Str)).flatten) ∧ Dat.ok (LF.mk ([z13, z15] : List Str)))).bind fun z17 => some (Stp.nx ())) = some st)) (QB := (fun a18 => ∃ st : Stp Unit Unit, ((X_window_rows__or10 a18).bind fun z19 => (M__law_said (some z19)).bind fun z20 => (X_best_width__or7 a18).bind fun z21 => (M__law_said (some z21)).bind fun z22 => (chkP ((-(2 ^ 63) ≤ (2 : Int) ∧ (2 : Int) < 2 ^ 63) ∧ ([("y" : Str)] : List Str).length * ((2 : Int)).toNat ≤ sizeLine)).bind fun z23 => (chkP ((LF.mk ([z20, z22] : List Str)) = (LF.mk (List.replicate ((2 : Int)).toNat ([("y" : Str)] : List Str)).flatten) ∧ Dat.ok (LF.mk ([z20, z22] : List Str)))).bind fun z24 => some (Stp.nx ())) = some st)) (QG := (fun _ => False)) (xi_lsA (xe_lsA (xa_cons xe_int (xa_cons (xe_neg xe_int) (xa_cons xe_bl (xa_cons xe_non (xa_cons xe_str (xa_cons (xe_lst (l := [(5 : Int)]) (xa_cons xe_int xa_nil) (by show 1 ≤ sizeLine; decide)) (xa_cons (xe_tupF (l := [(5 : Int)]) (xa_cons xe_int xa_nil) (by show 1 ≤ sizeLine; decide)) (xa_cons xe_disp0 (xa_cons (xe_shl (chkP_some hz1) xe_int xe_int) (xa_cons (xe_call (xa_cons xe_bl xa_nil) ⟨true, z2, rfl, hz2, rfl⟩ cal0) (xa_cons (xe_call (xa_cons xe_bl xa_nil) ⟨false, z3, rfl, hz3, rfl⟩ cal0) xa_nil))))))))))) (by rw [sizeLine_eq]; exact Nat.le_of_ble_eq_true rfl))) (allA_cons (.inr (.inl ⟨_, rfl, allN_mem hz26 _ (.head _)⟩)) (allA_cons (.inr (.inl ⟨_, rfl, allN_mem hz26 _ (.tail _ (.head _))⟩)) (allA_cons (.inr (.inr (.inl ⟨_, rfl, allN_mem hz27 _ (.head _)⟩))) (allA_cons (.inl (noC_of tya_non (kit_ty (by decide +kernel)))) (allA_cons (.inl (noC_of tya_str (kit_ty (by decide +kernel)))) (allA_cons (.inl (noC_of tya_lst (kit_ty (by decide +kernel)))) (allA_cons (.inl (noC_of tya_tup (kit_ty (by decide +kernel)))) (allA_cons (.inl (noC_of tya_dct (kit_ty (by decide +kernel)))) (allA_cons (.inr (.inl ⟨_, rfl, allN_mem hz26 _ (.tail _ (.tail _ (.head _)))⟩)) (allA_cons (.inl (noC_dx (kit_ty (by decide +kernel)) (kit_ty (by decide +kernel)))) (allA_cons (.inl (noC_dx (kit_ty (by decide +kernel)) (kit_ty (by decide +kernel)))) allA_nil))))))))))) (fun A4 hP F1 D1 e1 hD => ?_) (fun aI hQ F1 D1 e1 hD => ?_) (fun aB hQ F1 D1 e1 hD => ?_) (fun aG hQ F1 D1 e1 hD => ?_) ?_
  · clear hm
    have hm := hz25
    have hA4I := hP
    show XS (tIfS _ _ _) _ _ [some A4, none] (stt Ω [] [])
    obtain ⟨z5, hz5, hm⟩ := bnd_some hm
    obtain ⟨z6, hz6, hm⟩ := bnd_some hm
    obtain ⟨z7, hz7, hm⟩ := bnd_some hm
    obtain ⟨z8, hz8, hm⟩ := bnd_some hm
    obtain ⟨z9, hz9, hm⟩ := bnd_some hm
    obtain ⟨z10, hz10, hm⟩ := bnd_some hm
    refine xs_ifF1 (xt_test (T := T) (xe_neK (chkP_some hz10) (by decide) (xe_fz (xn_lcA (ys := ([z6, z8] : List Str)) (xi_lsA (xe_lsA (xa_cons (xe_lamV (l := tbs T) (stt_getU hkT) (mem__law_refused_right T) hu__law_refused_right) (xa_cons (xe_lamV (l := tbs T) (stt_getU hkT) (mem__law_refused_right T) hu__law_refused_right) xa_nil)) (by rw [sizeLine_eq]; exact Nat.le_of_ble_eq_true rfl))) (by simp) (by rw [sizeLine_eq]; exact Nat.le_of_ble_eq_true rfl) (fun X => (.cons (xe_callBX (o := some z5) (Nat.le_of_ble_eq_true rfl) rfl (by simp) (outc_r fun E F1 hw => xr_callU (fun _ _ _ _ h => sub__law_refused_right_window_rows_0 h) (xa_cons (xe_var (i := 0) rfl) (xa_cons xe_non xa_nil)) ⟨A4, (va T ()), z5, rfl, (noC_X hA4I), hz5, rfl⟩ hw) (fun fL actL => ⟨some z5, z6, rfl, hz6, rfl⟩) cal0) (.cons (xe_callBX (o := some z7) (Nat.le_of_ble_eq_true rfl) rfl (by simp) (outc_r fun E F1 hw => xr_callU (fun _ _ _ _ h => sub__law_refused_right_best_width_0 h) (xa_cons (xe_var (i := 0) rfl) xa_nil) ⟨A4, z7, rfl, (noC_X hA4I), hz7, rfl⟩ hw) (fun fL actL => ⟨some z7, z8, rfl, hz8, rfl⟩) cal0) .nil))))) (xe_rep (xe_lst (l := [("y" : Str)]) (xa_cons xe_str xa_nil) (by show 1 ≤ sizeLine; decide)) xe_int isLs_LF (chkP_some hz9)) isD_va isD_va)) ?_
    obtain rfl := Option.some.inj hm
    exact fun σ H n => hD.nx _ rfl σ H (n.forget 0)
  · clear hm
    obtain ⟨st, hm⟩ := hQ
    show XS (tIfS _ _ _) _ _ [some (va T aI), none] (stt Ω [] [])
    obtain ⟨z12, hz12, hm⟩ := bnd_some hm
    obtain ⟨z13, hz13, hm⟩ := bnd_some hm
    obtain ⟨z14, hz14, hm⟩ := bnd_some hm
    obtain ⟨z15, hz15, hm⟩ := bnd_some hm
    obtain ⟨z16, hz16, hm⟩ := bnd_some hm
    obtain ⟨z17, hz17, hm⟩ := bnd_some hm
    refine xs_ifF1 (xt_test (T := T) (xe_neK (chkP_some hz17) (by decide) (xe_fz (xn_lcA (ys := ([z13, z15] : List Str)) (xi_lsA (xe_lsA (xa_cons (xe_lamV (l := tbs T) (stt_getU hkT) (mem__law_refused_right T) hu__law_refused_right) (xa_cons (xe_lamV (l := tbs T) (stt_getU hkT) (mem__law_refused_right T) hu__law_refused_right) xa_nil)) (by rw [sizeLine_eq]; exact Nat.le_of_ble_eq_true rfl))) (by simp) (by rw [sizeLine_eq]; exact Nat.le_of_ble_eq_true rfl) (fun X => (.cons (xe_callBX (o := some z12) (Nat.le_of_ble_eq_true rfl) rfl (by simp) (outc_r fun E F1 hw => xr_callU (fun _ _ _ _ h => sub__law_refused_right_window_rows_1 h) (xa_cons (xe_var (i := 0) rfl) (xa_cons xe_non xa_nil)) ⟨aI, (va T ()), z12, rfl, (noC_of tya_non (kit_ty (by decide +kernel))), hz12, rfl⟩ hw) (fun fL actL => ⟨some z12, z13, rfl, hz13, rfl⟩) cal0) (.cons (xe_callBX (o := some z14) (Nat.le_of_ble_eq_true rfl) rfl (by simp) (outc_r fun E F1 hw => xr_callU (fun _ _ _ _ h => sub__law_refused_right_best_width_1 h) (xa_cons (xe_var (i := 0) rfl) xa_nil) ⟨aI, z14, rfl, hz14, rfl⟩ hw) (fun fL actL => ⟨some z14, z15, rfl, hz15, rfl⟩) cal0) .nil))))) (xe_rep (xe_lst (l := [("y" : Str)]) (xa_cons xe_str xa_nil) (by show 1 ≤ sizeLine; decide)) xe_int isLs_LF (chkP_some hz16)) isD_va isD_va)) ?_
    obtain rfl := Option.some.inj hm
    exact fun σ H n => hD.nx _ rfl σ H (n.forget 0)
  · clear hm
    obtain ⟨st, hm⟩ := hQ
    show XS (tIfS _ _ _) _ _ [some (va T aB), none] (stt Ω [] [])
    obtain ⟨z19, hz19, hm⟩ := bnd_some hm
    obtain ⟨z20, hz20, hm⟩ := bnd_some hm
    obtain ⟨z21, hz21, hm⟩ := bnd_some hm
    obtain ⟨z22, hz22, hm⟩ := bnd_some hm
    obtain ⟨z23, hz23, hm⟩ := bnd_some hm
    obtain ⟨z24, hz24, hm⟩ := bnd_some hm
    refine xs_ifF1 (xt_test (T := T) (xe_neK (chkP_some hz24) (by decide) (xe_fz (xn_lcA (ys := ([z20, z22] : List Str)) (xi_lsA (xe_lsA (xa_cons (xe_lamV (l := tbs T) (stt_getU hkT) (mem__law_refused_right T) hu__law_refused_right) (xa_cons (xe_lamV (l := tbs T) (stt_getU hkT) (mem__law_refused_right T) hu__law_refused_right) xa_nil)) (by rw [sizeLine_eq]; exact Nat.le_of_ble_eq_true rfl))) (by simp) (by rw [sizeLine_eq]; exact Nat.le_of_ble_eq_true rfl) (fun X => (.cons (xe_callBX (o := some z19) (Nat.le_of_ble_eq_true rfl) rfl (by simp) (outc_r fun E F1 hw => xr_callU (fun _ _ _ _ h => sub__law_refused_right_window_rows_2 h) (xa_cons (xe_var (i := 0) rfl) (xa_cons xe_non xa_nil)) ⟨aB, (va T ()), z19, rfl, hz19, rfl⟩ hw) (fun fL actL => ⟨some z19, z20, rfl, hz20, rfl⟩) cal0) (.cons (xe_callBX (o := some z21) (Nat.le_of_ble_eq_true rfl) rfl (by simp) (outc_r fun E F1 hw => xr_callU (fun _ _ _ _ h => sub__law_refused_right_best_width_2 h) (xa_cons (xe_var (i := 0) rfl) xa_nil) ⟨aB, z21, rfl, hz21, rfl⟩ hw) (fun fL actL => ⟨some z21, z22, rfl, hz22, rfl⟩) cal0) .nil))))) (xe_rep (xe_lst (l := [("y" : Str)]) (xa_cons xe_str xa_nil) (by show 1 ≤ sizeLine; decide)) xe_int isLs_LF (chkP_some hz23)) isD_va isD_va)) ?_
    obtain rfl := Option.some.inj hm
    exact fun σ H n => hD.nx _ rfl σ H (n.forget 0)
  · exact hQ.elim
  · show XS (tSeq _ _) _ _ [none, none] (stt Ω [] [])
    obtain ⟨z28, hz28, hm⟩ := bnd_some hm
    obtain ⟨z41, hz41, hm⟩ := bnd_some hm
    obtain ⟨z42, hz42, hm⟩ := bnd_some hm
    obtain ⟨z43, hz43, hm⟩ := bnd_some hm
    refine xs_forAS (T := T) (k := 0) (G := [none, none]) (P := (fun A => NoC T (stt Ω [] []) A (.type "int"))) (QI := (fun a33 => ∃ st : Stp Unit Unit, ((X_window_rows (5 : Int) a33).bind fun z34 => (M__law_said (some z34)).bind fun z35 => (chkP (z35 = ("width" : Str))).bind fun z36 => some (Stp.nx ())) = some st)) (QB := (fun a37 => ∃ st : Stp Unit Unit, ((X_window_rows__or11 (5 : Int) a37).bind fun z38 => (M__law_said (some z38)).bind fun z39 => (chkP (z39 = ("width" : Str))).bind fun z40 => some (Stp.nx ())) = some st)) (QG := (fun _ => False)) (xi_lsA (xe_lsA (xa_cons xe_int (xa_cons xe_int (xa_cons (xe_neg xe_int) (xa_cons xe_bl (xa_cons xe_non (xa_cons xe_str (xa_cons (xe_lst (l := [(5 : Int)]) (xa_cons xe_int xa_nil) (by show 1 ≤ sizeLine; decide)) (xa_cons xe_disp0 (xa_cons (xe_call (xa_cons xe_bl xa_nil) ⟨true, z28, rfl, hz28, rfl⟩ cal0) xa_nil))))))))) (by rw [sizeLine_eq]; exact Nat.le_of_ble_eq_true rfl))) (allA_cons (.inr (.inl ⟨_, rfl, allN_mem hz42 _ (.head _)⟩)) (allA_cons (.inr (.inl ⟨_, rfl, allN_mem hz42 _ (.tail _ (.head _))⟩)) (allA_cons (.inr (.inl ⟨_, rfl, allN_mem hz42 _ (.tail _ (.tail _ (.head _)))⟩)) (allA_cons (.inr (.inr (.inl ⟨_, rfl, allN_mem hz43 _ (.head _)⟩))) (allA_cons (.inl (noC_of tya_non (kit_ty (by decide +kernel)))) (allA_cons (.inl (noC_of tya_str (kit_ty (by decide +kernel)))) (allA_cons (.inl (noC_of tya_lst (kit_ty (by decide +kernel)))) (allA_cons (.inl (noC_of tya_dct (kit_ty (by decide +kernel)))) (allA_cons (.inl (noC_dx (kit_ty (by decide +kernel)) (kit_ty (by decide +kernel)))) allA_nil))))))))) (fun A29 hP F1 D1 e1 hD => ?_) (fun aI hQ F1 D1 e1 hD => ?_) (fun aB hQ F1 D1 e1 hD => ?_) (fun aG hQ F1 D1 e1 hD => ?_) ?_
    · clear hm
      have hm := hz41
      have hA29I := hP
      show XS (tIfS _ _ _) _ _ [some A29, none] (stt Ω [] [])
      obtain ⟨z30, hz30, hm⟩ := bnd_some hm
      obtain ⟨z31, hz31, hm⟩ := bnd_some hm
      obtain ⟨z32, hz32, hm⟩ := bnd_some hm
      refine xs_ifF1 (xt_test (T := T) (xe_eq (xe_neS (xe_callLX (o := some z30) (xa_cons (xe_lamV (l := tbs T) (stt_getU hkT) (mem__law_refused_right T) hu__law_refused_right) xa_nil) (outc_r fun E F1 hw => xr_callU (fun _ _ _ _ h => sub__law_refused_right_window_rows_1 h) (xa_cons xe_int (xa_cons (xe_var (i := 0) rfl) xa_nil)) ⟨(5 : Int), A29, z30, rfl, hA29I, hz30, rfl⟩ hw) (fun fL actL => ⟨some z30, z31, rfl, hz31, rfl⟩) cal0) xe_str) (neK_ (chkP_some hz32)))) ?_
      obtain rfl := Option.some.inj hm
      exact fun σ H n => hD.nx _ rfl σ H (n.forget 0)
    · clear hm
      obtain ⟨st, hm⟩ := hQ
      show XS (tIfS _ _ _) _ _ [some (va T aI), none] (stt Ω [] [])
      obtain ⟨z34, hz34, hm⟩ := bnd_some hm
      obtain ⟨z35, hz35, hm⟩ := bnd_some hm
      obtain ⟨z36, hz36, hm⟩ := bnd_some hm
      refine xs_ifF1 (xt_test (T := T) (xe_eq (xe_neS (xe_callLX (o := some z34) (xa_cons (xe_lamV (l := tbs T) (stt_getU hkT) (mem__law_refused_right T) hu__law_refused_right) xa_nil) (outc_r fun E F1 hw => xr_callU (fun _ _ _ _ h => sub__law_refused_right_window_rows_3 h) (xa_cons xe_int (xa_cons (xe_var (i := 0) rfl) xa_nil)) ⟨(5 : Int), aI, z34, rfl, hz34, rfl⟩ hw) (fun fL actL => ⟨some z34, z35, rfl, hz35, rfl⟩) cal0) xe_str) (neK_ (chkP_some hz36)))) ?_
      obtain rfl := Option.some.inj hm
      exact fun σ H n => hD.nx _ rfl σ H (n.forget 0)
    · clear hm
      obtain ⟨st, hm⟩ := hQ
      show XS (tIfS _ _ _) _ _ [some (va T aB), none] (stt Ω [] [])
      obtain ⟨z38, hz38, hm⟩ := bnd_some hm
      obtain ⟨z39, hz39, hm⟩ := bnd_some hm
      obtain ⟨z40, hz40, hm⟩ := bnd_some hm
      refine xs_ifF1 (xt_test (T := T) (xe_eq (xe_neS (xe_callLX (o := some z38) (xa_cons (xe_lamV (l := tbs T) (stt_getU hkT) (mem__law_refused_right T) hu__law_refused_right) xa_nil) (outc_r fun E F1 hw => xr_callU (fun _ _ _ _ h => sub__law_refused_right_window_rows_4 h) (xa_cons xe_int (xa_cons (xe_var (i := 0) rfl) xa_nil)) ⟨(5 : Int), aB, z38, rfl, hz38, rfl⟩ hw) (fun fL actL => ⟨some z38, z39, rfl, hz39, rfl⟩) cal0) xe_str) (neK_ (chkP_some hz40)))) ?_
      obtain rfl := Option.some.inj hm
      exact fun σ H n => hD.nx _ rfl σ H (n.forget 0)
    · exact hQ.elim
    · show XS (tRet _) _ _ [none, none] (stt Ω [] [])
      obtain ⟨z44, hz44, hm⟩ := bnd_some hm
      obtain ⟨z45, hz45, hm⟩ := bnd_some hm
      obtain ⟨z46, hz46, hm⟩ := bnd_some hm
      obtain ⟨z47, hz47, hm⟩ := bnd_some hm
      obtain ⟨z48, hz48, hm⟩ := bnd_some hm
      obtain rfl := Option.some.inj hm
      refine xs_ret (xe_andT (xe_eq (xe_eqI (xe_call (xa_cons xe_int xa_nil) ⟨(1 : Int), z44, rfl, hz44, rfl⟩ cal0) xe_int) (chkP_some hz45)) (xe_eq (xe_eqD (chkP_some hz47) (by decide) (xe_fz (xn_call (xa_cons xe_int (xa_cons xe_int xa_nil)) ⟨(1000 : Int), (4 : Int), z46, rfl, hz46, rfl⟩ cal0)) (xe_lst (l := [((6 : Int), (15 : Int)), ((3 : Int), (5 : Int))]) (xa_cons (xe_tup2 (xa_cons xe_int (xa_cons xe_int xa_nil))) (xa_cons (xe_tup2 (xa_cons xe_int (xa_cons xe_int xa_nil))) xa_nil)) (by show 2 ≤ sizeLine; decide)) isD_va isD_va) (chkP_some hz48))) hrt.all
noncomputable def M_law (x0 : List Int) : Option Bool :=
  (chkP (x0.length + ([(0 : Int)] : List Int).length ≤ sizeLine)).bind fun z1 => (forM' (ρ := Unit) (fun (a3 : (Int × Int)) (s2 : Unit) => (M__law_source a3.2).bind fun z4 => (M__law_draw z4 (4000 : Int)).bind fun z7 => (some ((1 : Int) + z7.1)).bind fun y8 => (M__law_exponent z7.2 (12 : Int)).bind fun z9 => (M__law_exponent z9.2 (12 : Int)).bind fun z10 => (M__law_draw z10.2 (200 : Int)).bind fun z11 => (some ([z9.1, z10.1, ((1 : Int) + z11.1)] : List Int)).bind fun y12 => (if (decide (a3.1 = (0 : Int))) = true then (M__law_exponent z11.2 (95 : Int)).bind fun z13 => (chkP (CShl (1 : Int) y8)).bind fun z14 => (chkP (y12.length + ([z13.1, (((1 : Int) * 2 ^ (y8).toNat) - (1 : Int))] : List Int).length ≤ sizeLine)).bind fun z15 => (some (y12 ++ ([z13.1, (((1 : Int) * 2 ^ (y8).toNat) - (1 : Int))] : List Int))).bind fun y16 => some (y16, z13.2) else some (y12, z11.2)).bind fun z19 => (forM' (ρ := Unit) (fun (a21 : Int) (s20 : Unit) => (M__law_right a21).bind fun z22 => (chkP (z22 = true)).bind fun z23 => some (Stp.nx ())) z19.1 ()).bind fun z24 => (nxt z24).bind fun s25 => (chkP (CShl (1 : Int) y8)).bind fun z26 => (M_window_rows (((1 : Int) * 2 ^ (y8).toNat) - (1 : Int)) (1 : Int)).bind fun z27 => (chkP (-(2 ^ 62) ≤ (y8 - (1 : Int)) ∧ (y8 - (1 : Int)) < 2 ^ 62 ∧ -(2 ^ 62) ≤ (-(1 : Int)) ∧ (-(1 : Int)) < 2 ^ 62)).bind fun z28 => (chkP ((rngD (y8 - (1 : Int)) ((y8 - (1 : Int)) - (-(1 : Int))).toNat).length ≤ sizeLine)).bind fun z29 => (lcM (fun (a31 : Int) (s30 : Unit) => some (some (a31, (1 : Int)), ())) (rngD (y8 - (1 : Int)) ((y8 - (1 : Int)) - (-(1 : Int))).toNat) ()).bind fun z32 => (chkP ((LF.mk z27) = (LF.mk z32.1) ∧ Dat.ok (LF.mk z27))).bind fun z34 => (chkP (CShl (1 : Int) (y8 - (1 : Int)))).bind fun z35 => (M__law_draw z19.2 (12 : Int)).bind fun z36 => (M_window_rows ((1 : Int) * 2 ^ ((y8 - (1 : Int))).toNat) ((1 : Int) + z36.1)).bind fun z37 => (chkP ((LF.mk z37) = (LF.mk ([((y8 - (1 : Int)), (1 : Int))] : List (Int × Int))) ∧ Dat.ok (LF.mk z37))).bind fun z38 => some (Stp.nx ())) (nums (cut (x0 ++ ([(0 : Int)] : List Int)) none (some (5 : Int)))) ()).bind fun z39 => (nxt z39).bind fun s40 => (M__law_refused_right ).bind fun z41 => (chkP (z41 = true)).bind fun z42 => (chkP (CShl (1 : Int) (600 : Int))).bind fun z43 => (M__law_right (((1 : Int) * 2 ^ ((600 : Int)).toNat) - (1 : Int))).bind fun z44 => (chkP (z44 = true)).bind fun z45 => (chkP (CShl (1 : Int) (2000 : Int))).bind fun z46 => (M_best_width (((1 : Int) * 2 ^ ((2000 : Int)).toNat) - (1 : Int))).bind fun z47 => (chkP ((decide (z47 = (7 : Int))) = true)).bind fun z48 => some true
def Pre_law (T : TC) : PreT := fun As Ω R => ∃ (kT : Nat) (x0 : List Int) (r : Bool), As = [va T (SF.mk x0)] ∧ Ω[kT]? = some (tabA (tbs T)) ∧ M_law x0 = some r ∧ R = RV (va T r) (stt Ω [] [])
theorem sc_law : FnScope ["_law_script", "_law_spot", "_law_cell", "_law_source_here", "_law_size", "_law_some", "_law_yy", "_law_k"] ["_law_script"] (defScope s_law) := ⟨rfl, rfl, rfl, by decide +kernel, rfl, by decide +kernel, by decide +kernel⟩
theorem ok_law {f : Addr} {fd : FuncData} (F : Fun T.K "law" "law" s_law f fd) (z_enumerate : mg "enumerate" = none) (c__law_source : Cal P w T.K mg base 1 "_law_source" ["_law_cell"] (mkSp (Pre__law_source T))) (c__law_draw : Cal P w T.K mg base 2 "_law_draw" ["_law_source_here", "_law_bound"] (mkSp (Pre__law_draw T))) (c__law_exponent : Cal P w T.K mg base 4 "_law_exponent" ["_law_source_here", "_law_most"] (mkSp (Pre__law_exponent T))) (c__law_right : Cal P w T.K mg base 7 "_law_right" ["_law_yy"] (mkSp (Pre__law_right T))) (c_window_rows : Cal P w T.K mg base 6 "window_rows" ["y", "width"] (mkSp (Pre_window_rows T))) (z_range : mg "range" = none) (c__law_refused_right : Cal P w T.K mg base 10 "_law_refused_right" [] (mkSp (Pre__law_refused_right T))) (c_best_width : Cal P w T.K mg base 6 "best_width" ["y"] (mkSp (Pre_best_width T))) : FnOk P w T.K mg base CX0 11 f fd ["_law_script"] (mkSp (Pre_law T)) := by
  refine fn_ok F sc_law (fun As Ω R h => ?_) (fun cdv A outer s H E hr As Ω R F0 h => ?_)
  · obtain ⟨kT, x0, r, rfl, _⟩ := h
    rfl
  obtain ⟨kT, x0, r, rfl, hkT, hm, rfl⟩ := h
  refine ⟨_, (pss_cons (ps_for PassesOwn.never rfl (pi_enumK (K := T.K) rfl rfl z_enumerate (pa_cons (pe_slice (sl_listK (K := T.K) rfl) (pe_op (op_catSK (K := T.K) rfl) (pv 0) (pe_lst (pa_cons pe_int pa_nil))) po_none (po_some pe_int)) pa_nil)) (pg_tupK (K := T.K) (n := 2) rfl rfl (pgs_cons (pg_name (i := 1) sc_law.nd rfl (.inl rfl)) (pgs_cons (pg_name (i := 2) sc_law.nd rfl (.inl rfl)) pgs_nil))) (pss_cons (ps_set (i := 3) sc_law.nd rfl (.inl rfl) (pe_cal c__law_source (hr.mono (by decide)) (by rfl) (pa_cons (pv 2) pa_nil))) (pss_cons (ps_set (i := 4) sc_law.nd rfl (.inl rfl) (pe_op op_addQ pe_int (pe_cal c__law_draw (hr.mono (by decide)) (by rfl) (pa_cons (pv 3) (pa_cons pe_int pa_nil))))) (pss_cons (ps_set (i := 5) sc_law.nd rfl (.inl rfl) (pe_lst (pa_cons (pe_cal c__law_exponent (hr.mono (by decide)) (by rfl) (pa_cons (pv 3) (pa_cons pe_int pa_nil))) (pa_cons (pe_cal c__law_exponent (hr.mono (by decide)) (by rfl) (pa_cons (pv 3) (pa_cons pe_int pa_nil))) (pa_cons (pe_op op_addQ pe_int (pe_cal c__law_draw (hr.mono (by decide)) (by rfl) (pa_cons (pv 3) (pa_cons pe_int pa_nil)))) pa_nil))))) (Evl.pss_cut (ps_if (pt_cmpR (op_eqXK (K := T.K) (by exact hr.units) rfl) (pv 1) pe_int (nomark _)) (pss_one (ps_set (i := 5) sc_law.nd rfl (.inl rfl) (pe_op op_addQ (pv 5) (pe_lst (pa_cons (pe_cal c__law_exponent (hr.mono (by decide)) (by rfl) (pa_cons (pv 3) (pa_cons pe_int pa_nil))) (pa_cons (pe_op op_sub (pe_op op_shlW pe_int (pv 4)) pe_int) pa_nil)))))) pss_nil) (pss_cons (ps_for PassesOwn.never rfl (pi_listK (K := T.K) (pv 5) rfl) (pg_name (i := 6) sc_law.nd rfl (.inl rfl)) (pss_one (ps_if (pt_not (pt_val (pe_cal c__law_right (hr.mono (by decide)) (by rfl) (pa_cons (pv 6) pa_nil)))) pss_never pss_nil))) (pss_cons (ps_if (pt_cmpR (op_neXK (K := T.K) (by exact hr.units) rfl) (pe_cal c_window_rows (hr.mono (by decide)) (by rfl) (pa_cons (pe_op op_sub (pe_op op_shlW pe_int (pv 4)) pe_int) (pa_cons pe_int pa_nil))) (pe_lc (own := [("_law_k", 7)]) rfl sc_law.nd (pi_range3 rfl z_range (pa_cons (pe_op op_sub (pv 4) pe_int) (pa_cons (pe_un un_neg pe_int) (pa_cons (pe_un un_neg pe_int) pa_nil)))) (blkOk_by (N := ["_law_script", "_law_spot", "_law_cell", "_law_source_here", "_law_size", "_law_some", "_law_yy", "_law_k"]) (sc := defScope s_law) (by decide +kernel)) (fun _ _ _ _ _ => (pg_name (i := 7) sc_law.nd rfl (.inl rfl))) (fun _ _ _ _ _ => pts_nil) (fun _ _ _ _ _ => (pe_tup (pa_cons (pv 7) (pa_cons pe_int pa_nil))))) (nomark _)) pss_never pss_nil) (pss_one (ps_if (pt_cmpR (op_neXK (K := T.K) (by exact hr.units) rfl) (pe_cal c_window_rows (hr.mono (by decide)) (by rfl) (pa_cons (pe_op op_shlW pe_int (pe_op op_sub (pv 4) pe_int)) (pa_cons (pe_op op_addQ pe_int (pe_cal c__law_draw (hr.mono (by decide)) (by rfl) (pa_cons (pv 3) (pa_cons pe_int pa_nil)))) pa_nil))) (pe_lst (pa_cons (pe_tup (pa_cons (pe_op op_sub (pv 4) pe_int) (pa_cons pe_int pa_nil))) pa_nil)) (nomark _)) pss_never pss_nil))))))))) (pss_one (ps_ret (pe_and (pe_cal0 c__law_refused_right (hr.mono (by decide)) (by rfl)) (pe_and (pe_cal c__law_right (hr.mono (by decide)) (by rfl) (pa_cons (pe_op op_sub (pe_op op_shlW pe_int pe_int) pe_int) pa_nil)) (pe_one (pe_cmpR (op_eqXK (K := T.K) (by exact hr.units) rfl) (pe_cal c_best_width (hr.mono (by decide)) (by rfl) (pa_cons (pe_op op_sub (pe_op op_shlW pe_int pe_int) pe_int) pa_nil)) pe_int (nomark _)))))))), fun D hrt hnx => ?_⟩
  have ok : Okk Ω [] := okk0
  suffices hx : XS _ D F0 [some (va T (SF.mk x0)), none, none, none, none, none, none, none] (stt Ω [] []) by
    rw [show (stt Ω [] []) = Ω from stt_self (by simp)] at hx
    exact hx
  unfold M_law at hm
  obtain ⟨z1, hz1, hm⟩ := bnd_some hm
  obtain ⟨z39, hz39, hm⟩ := bnd_some hm
  refine xs_forS (fun (s2 : Unit) => [some (va T (SF.mk x0)), none, none, none, none, none, none, none]) (fun (s2 : Unit) => (stt Ω [] [])) (fun (_ : Unit) _ _ _ => False) hz39 (xi_enumL (xe_sliceL (xe_catS (xe_var (i := 0) rfl) (xe_lst (l := [(0 : Int)]) (xa_cons xe_int xa_nil) (by show 1 ≤ sizeLine; decide)) isLs_LF (chkP_some hz1)) xo_none (xo_some (T := T) xe_int) isL_LF)) (fun _ => tgt_pair) (fun a3 s2 s' ha hm F1 D1 e1 hD => ?_) (fun s40 es => ?_) (fun r1 es => ?_)
  · show XS (tSeq _ _) _ _ [some (va T (SF.mk x0)), some (va T a3.1), some (va T a3.2), none, none, none, none, none] (stt Ω [] [])
    obtain ⟨z4, hz4, hm⟩ := bnd_some hm
    refine xs_setO (xn_call (xa_cons (xe_var (i := 2) rfl) xa_nil) ⟨a3.2, z4, rfl, hz4, rfl⟩ cal0) (fun pp5 => ?_)
    show XS (tSeq _ _) _ _ [some (va T (SF.mk x0)), some (va T a3.1), some (va T a3.2), some (vr pp5), none, none, none, none] (stt Ω [] [lstA T pp5 (z4 : List Int)])
    obtain ⟨z7, hz7, hm⟩ := bnd_some hm
    obtain ⟨y8, hy8, hm⟩ := bnd_some hm
    refine xs_set (A := va T y8) (xe_eq (xe_add xe_int (xe_call (xa_cons (xe_var (i := 3) rfl) (xa_cons xe_int xa_nil)) ⟨(Ω.length + 0), pp5, z4, (4000 : Int), z7, rfl, (stt_getL (j := 0) rfl), hz7, rfl⟩ (cal1L (j := 0)))) (Option.some.inj hy8)) ?_
    show XS (tSeq _ _) _ _ [some (va T (SF.mk x0)), some (va T a3.1), some (va T a3.2), some (vr pp5), some (va T y8), none, none, none] (stt Ω [] [lstA T pp5 (z7.2 : List Int)])
    obtain ⟨z9, hz9, hm⟩ := bnd_some hm
    obtain ⟨z10, hz10, hm⟩ := bnd_some hm
    obtain ⟨z11, hz11, hm⟩ := bnd_some hm
    obtain ⟨y12, hy12, hm⟩ := bnd_some hm
    refine xs_set (A := va T (LF.mk y12)) (xe_eq (xe_lst (l := [z9.1, z10.1, ((1 : Int) + z11.1)]) (xa_cons (xe_call (xa_cons (xe_var (i := 3) rfl) (xa_cons xe_int xa_nil)) ⟨(Ω.length + 0), pp5, z7.2, (12 : Int), z9, rfl, (stt_getL (j := 0) rfl), hz9, rfl⟩ (cal1L (j := 0))) (xa_cons (xe_call (xa_cons (xe_var (i := 3) rfl) (xa_cons xe_int xa_nil)) ⟨(Ω.length + 0), pp5, z9.2, (12 : Int), z10, rfl, (stt_getL (j := 0) rfl), hz10, rfl⟩ (cal1L (j := 0))) (xa_cons (xe_add xe_int (xe_call (xa_cons (xe_var (i := 3) rfl) (xa_cons xe_int xa_nil)) ⟨(Ω.length + 0), pp5, z10.2, (200 : Int), z11, rfl, (stt_getL (j := 0) rfl), hz11, rfl⟩ (cal1L (j := 0)))) xa_nil))) (by show 3 ≤ sizeLine; decide)) (congrArg LF.mk (Option.some.inj hy12))) ?_
    show XS (Evl.tCut _ _) _ _ [some (va T (SF.mk x0)), some (va T a3.1), some (va T a3.2), some (vr pp5), some (va T y8), some (va T (LF.mk y12)), none, none] (stt Ω [] [lstA T pp5 (z11.2 : List Int)])
    obtain ⟨z19, hz19, hm⟩ := bnd_some hm
    refine xs_cut (Γ' := [some (va T (SF.mk x0)), some (va T a3.1), some (va T a3.2), some (vr pp5), some (va T y8), some (va T (LF.mk z19.1)), none, none]) (Ω' := (stt Ω [] [lstA T pp5 (z19.2 : List Int)])) ?_ ?_
    · clear hm
      have hm := hz19
      clear hz19
      by_cases hc : (decide (a3.1 = (0 : Int))) = true
      · rw [if_pos hc] at hm
        refine xs_ifT1 (xt_eq (xt_test (T := T) (xe_eqI (xe_var (i := 1) rfl) xe_int)) hc) ?_
        obtain ⟨z13, hz13, hm⟩ := bnd_some hm
        obtain ⟨z14, hz14, hm⟩ := bnd_some hm
        obtain ⟨z15, hz15, hm⟩ := bnd_some hm
        obtain ⟨y16, hy16, hm⟩ := bnd_some hm
        refine xs_set1 (A := va T (LF.mk y16)) (xe_eq (xe_cat (xe_var (i := 5) rfl) (xe_lst (l := [z13.1, (((1 : Int) * 2 ^ (y8).toNat) - (1 : Int))]) (xa_cons (xe_call (xa_cons (xe_var (i := 3) rfl) (xa_cons xe_int xa_nil)) ⟨(Ω.length + 0), pp5, z11.2, (95 : Int), z13, rfl, (stt_getL (j := 0) rfl), hz13, rfl⟩ (cal1L (j := 0))) (xa_cons (xe_sub (xe_shl (chkP_some hz14) xe_int (xe_var (i := 4) rfl)) xe_int) xa_nil)) (by show 2 ≤ sizeLine; decide)) isLs_LF isLs_LF (chkP_some hz15)) (congrArg LF.mk (Option.some.inj hy16))) ?_
        obtain rfl := Option.some.inj hm
        exact fun σ H n => n
      · rw [if_neg hc] at hm
        refine xs_ifF1 (xt_eq (xt_test (T := T) (xe_eqI (xe_var (i := 1) rfl) xe_int)) (nt hc)) ?_
        obtain rfl := Option.some.inj hm
        exact fun σ H n => n
    · obtain ⟨z24, hz24, hm⟩ := bnd_some hm
      refine xs_forS (fun (s20 : Unit) => [some (va T (SF.mk x0)), some (va T a3.1), some (va T a3.2), some (vr pp5), some (va T y8), some (va T (LF.mk z19.1)), none, none]) (fun (s20 : Unit) => (stt Ω [] [lstA T pp5 (z19.2 : List Int)])) (fun (_ : Unit) _ _ _ => False) hz24 (xi_LF (xe_var (i := 5) rfl)) (fun _ => tgt_name) (fun a21 s20 s' ha hm F1 D1 e1 hD => ?_) (fun s25 es => ?_) (fun r1 es => ?_)
      · show XS (tIfS _ _ _) _ _ [some (va T (SF.mk x0)), some (va T a3.1), some (va T a3.2), some (vr pp5), some (va T y8), some (va T (LF.mk z19.1)), some (va T a21), none] (stt Ω [] [lstA T pp5 (z19.2 : List Int)])
        obtain ⟨z22, hz22, hm⟩ := bnd_some hm
        obtain ⟨z23, hz23, hm⟩ := bnd_some hm
        refine xs_ifF1 (xt_notF (xt_eq (xt_tB (T := T) (xe_call (xa_cons (xe_var (i := 6) rfl) xa_nil) ⟨a21, z22, rfl, hz22, rfl⟩ cal0)) (chkP_some hz23))) ?_
        obtain rfl := Option.some.inj hm
        exact fun σ H n => hD.nx _ rfl σ H (n.forget 6)
      · subst es
        obtain ⟨s2, hs2, hm⟩ := bnd_some hm
        cases hs2
        show XS (tSeq _ _) _ _ [some (va T (SF.mk x0)), some (va T a3.1), some (va T a3.2), some (vr pp5), some (va T y8), some (va T (LF.mk z19.1)), none, none] (stt Ω [] [lstA T pp5 (z19.2 : List Int)])
        obtain ⟨z26, hz26, hm⟩ := bnd_some hm
        obtain ⟨z27, hz27, hm⟩ := bnd_some hm
        obtain ⟨z28, hz28, hm⟩ := bnd_some hm
        obtain ⟨z29, hz29, hm⟩ := bnd_some hm
        obtain ⟨z32, hz32, hm⟩ := bnd_some hm
        obtain ⟨z34, hz34, hm⟩ := bnd_some hm
        refine xs_ifN (xt_test (T := T) (xe_neK (chkP_some hz34) (by decide) (xe_fz (xn_call (xa_cons (xe_sub (xe_shl (chkP_some hz26) xe_int (xe_var (i := 4) rfl)) xe_int) (xa_cons xe_int xa_nil)) ⟨(((1 : Int) * 2 ^ (y8).toNat) - (1 : Int)), (1 : Int), z27, rfl, hz27, rfl⟩ cal0)) (xe_fz (xn_lcS (T := T) (fun (s30 : Unit) => []) (fun (s30 : Unit) => [lstA T pp5 (z19.2 : List Int)]) hz32 (xi_range3 (T := T) (xa_cons (xe_sub (xe_var (i := 4) rfl) xe_int) (xa_cons (xe_neg xe_int) (xa_cons (xe_neg xe_int) xa_nil))) (chkP_some hz28)) (fun _ => tgt_name) (by simp) (chkP_some hz29) ?q33)) isD_va isD_va)) ?_
        case q33 =>
          exact (fun a31 s30 o s2 ha hm X => by
            obtain ⟨rfl, rfl⟩ := Prod.mk.inj (Option.some.inj hm)
            refine ⟨(fun e => nomatch e), fun y e => ?_⟩
            obtain rfl := Option.some.inj e
            refine ⟨xt_yes, (xe_tup2 (xa_cons (xe_var (i := 7) rfl) (xa_cons xe_int xa_nil)))⟩)
        show XS (tIfS _ _ _) _ _ [some (va T (SF.mk x0)), some (va T a3.1), some (va T a3.2), some (vr pp5), some (va T y8), some (va T (LF.mk z19.1)), none, none] (stt Ω [] [lstA T pp5 (z19.2 : List Int)])
        obtain ⟨z35, hz35, hm⟩ := bnd_some hm
        obtain ⟨z36, hz36, hm⟩ := bnd_some hm
        obtain ⟨z37, hz37, hm⟩ := bnd_some hm
        obtain ⟨z38, hz38, hm⟩ := bnd_some hm
        refine xs_ifF1 (xt_test (T := T) (xe_neK (chkP_some hz38) (by decide) (xe_fz (xn_call (xa_cons (xe_shl (chkP_some hz35) xe_int (xe_sub (xe_var (i := 4) rfl) xe_int)) (xa_cons (xe_add xe_int (xe_call (xa_cons (xe_var (i := 3) rfl) (xa_cons xe_int xa_nil)) ⟨(Ω.length + 0), pp5, z19.2, (12 : Int), z36, rfl, (stt_getL (j := 0) rfl), hz36, rfl⟩ (cal1L (j := 0)))) xa_nil)) ⟨((1 : Int) * 2 ^ ((y8 - (1 : Int))).toNat), ((1 : Int) + z36.1), z37, rfl, hz37, rfl⟩ cal0)) (xe_lst (l := [((y8 - (1 : Int)), (1 : Int))]) (xa_cons (xe_tup2 (xa_cons (xe_sub (xe_var (i := 4) rfl) xe_int) (xa_cons xe_int xa_nil))) xa_nil) (by show 1 ≤ sizeLine; decide)) isD_va isD_va)) ?_
        obtain rfl := Option.some.inj hm
        exact fun σ H n => hD.nx _ rfl σ H (NX.cutL [] [lstA T pp5 (z36.2 : List Int)] (((((n.forget 3).forget 4).forget 5).forget 1).forget 2))
      · subst es
        cases hm
  · subst es
    obtain ⟨s2, hs2, hm⟩ := bnd_some hm
    cases hs2
    show XS (tRet _) _ _ [some (va T (SF.mk x0)), none, none, none, none, none, none, none] (stt Ω [] [])
    obtain ⟨z41, hz41, hm⟩ := bnd_some hm
    obtain ⟨z42, hz42, hm⟩ := bnd_some hm
    obtain ⟨z43, hz43, hm⟩ := bnd_some hm
    obtain ⟨z44, hz44, hm⟩ := bnd_some hm
    obtain ⟨z45, hz45, hm⟩ := bnd_some hm
    obtain ⟨z46, hz46, hm⟩ := bnd_some hm
    obtain ⟨z47, hz47, hm⟩ := bnd_some hm
    obtain ⟨z48, hz48, hm⟩ := bnd_some hm
    obtain rfl := Option.some.inj hm
    refine xs_ret (xe_andT (xe_eq (xe_call xa_nil ⟨kT, z41, rfl, (stt_getU hkT), hz41, rfl⟩ cal0) (chkP_some hz42)) (xe_andT (xe_eq (xe_call (xa_cons (xe_sub (xe_shl (chkP_some hz43) xe_int xe_int) xe_int) xa_nil) ⟨(((1 : Int) * 2 ^ ((600 : Int)).toNat) - (1 : Int)), z44, rfl, hz44, rfl⟩ cal0) (chkP_some hz45)) (xe_eq (xe_eqI (xe_call (xa_cons (xe_sub (xe_shl (chkP_some hz46) xe_int xe_int) xe_int) xa_nil) ⟨(((1 : Int) * 2 ^ ((2000 : Int)).toNat) - (1 : Int)), z47, rfl, hz47, rfl⟩ cal0) xe_int) (chkP_some hz48)))) hrt.all
  · subst es
    cases hm
end
end P

set_option Elab.async false
set_option linter.all false
set_option maxRecDepth 100000
set_option exponentiation.threshold 4000
namespace P
open PySem L2 VL
/-- a source: three numbers -/
def Src (s : List Int) : Prop := ∃ a b c : Int, s = [a, b, c]
theorem cdiv_log {i j : Int} (h : 0 < j) (h2 : j.natAbs.log2 < 9000) : CDivW i j := ⟨h, h2⟩
theorem cdiv_small {i j : Int} (h : 0 < j) (h2 : j < 2 ^ 64) : CDivW i j := ⟨h, by
  have : j.natAbs < 2 ^ 64 := by omega
  have h0 : j.natAbs ≠ 0 := by omega
  have := (Nat.log2_lt h0 (k := 64)).mpr this
  omega⟩
theorem mul_l {a b : Int} (h1 : -(2 ^ 64) < a) (h2 : a < 2 ^ 64) : IntMulOk a b := .of_left (intBits_le_64 h1 h2)
theorem mul_r {a b : Int} (h1 : -(2 ^ 64) < b) (h2 : b < 2 ^ 64) : IntMulOk a b := .of_right (intBits_le_64 h1 h2)
theorem mixed_ok (a b : Int) : Sat (M__law_mixed a b) (fun _ => True) := by
  unfold M__law_mixed
  simp only [Option.bind_some]
  generalize hm : a % (2147483629 : Int) + 1 = m
  have m0 : 0 ≤ m ∧ m ≤ 2147483629 := by omega
  generalize hq : a / (2147483629 : Int) % 1000003 = q
  have q0 : 0 ≤ q ∧ q < 1000003 := by omega
  generalize hy : (m * (b * 7919 + 104729)) % (2147483647 : Int) = y
  generalize hu : ((y + q * (b + 31)) * 48271) % (2147483629 : Int) = u
  have u0 : 0 ≤ u ∧ u < 2147483629 := by rw [← hu]; exact ⟨Int.emod_nonneg _ (by decide), Int.emod_lt_of_pos _ (by decide)⟩
  generalize hv : (u * (u / 1013 + 69621 + b)) % (2147483587 : Int) = v
  have v0 : 0 ≤ v ∧ v < 2147483587 := by rw [← hv]; exact ⟨Int.emod_nonneg _ (by decide), Int.emod_lt_of_pos _ (by decide)⟩
  refine sat_chk (by decide) ?_
  refine sat_chk (mul_r (by decide) (by decide)) ?_
  refine sat_chk (mul_l (by omega) (by omega)) ?_
  refine sat_chk (by decide) ?_
  refine sat_chk (cdiv_small (by decide) (by decide)) ?_
  refine sat_chk (by decide) ?_
  refine sat_chk (mul_l (by omega) (by omega)) ?_
  refine sat_chk (mul_r (by decide) (by decide)) ?_
  refine sat_chk (by decide) ?_
  refine sat_chk (cdiv_small (by decide) (by decide)) ?_
  refine sat_chk (mul_l (by omega) (by omega)) ?_
  refine sat_chk (by decide) ?_
  refine sat_chk (cdiv_small (by decide) (by decide)) ?_
  refine sat_chk (mul_l (by omega) (by omega)) ?_
  exact sat_chk (by decide) (sat_some trivial)
theorem draw_log {s : List Int} {m : Int} (hs : Src s) (h : 0 < m) (h2 : m.natAbs.log2 < 9000) : ∃ r s', M__law_draw s m = some (r, s') ∧ Src s' ∧ 0 ≤ r ∧ r < m := by
  obtain ⟨a, b, c, rfl⟩ := hs
  unfold M__law_draw
  rw [show atI [a, b, c] (0 : Int) = some a from rfl]
  simp only [Option.bind_some]
  by_cases ha : (0 : Int) < a
  · rw [if_pos (decide_eq_true ha), chkP_eq h, chkP_eq (cdiv_log h h2)]
    exact ⟨_, _, rfl, ⟨_, _, _, rfl⟩, Int.emod_nonneg _ (by omega), Int.emod_lt_of_pos _ h⟩
  · rw [if_neg (by simpa using ha)]
    rw [show atI [a, b, c] (2 : Int) = some c from rfl]
    simp only [Option.bind_some]
    rw [show ixN [a, b, c].length (2 : Int) = some 2 from rfl]
    simp only [Option.bind_some]
    rw [show [a, b, c].set 2 (c + 1) = [a, b, c + 1] from rfl, show atI [a, b, c + 1] (1 : Int) = some b from rfl, show atI [a, b, c + 1] (2 : Int) = some (c + 1) from rfl]
    simp only [Option.bind_some]
    obtain ⟨r, e, _⟩ := mixed_ok b (c + 1)
    rw [e]
    simp only [Option.bind_some]
    rw [chkP_eq h]
    exact ⟨_, _, rfl, ⟨_, _, _, rfl⟩, Int.emod_nonneg _ (by omega), Int.emod_lt_of_pos _ h⟩
theorem draw_s {s : List Int} {m : Int} (hs : Src s) (h : 0 < m) (h2 : m < 2 ^ 64) : Sat (M__law_draw s m) (fun r => Src r.2 ∧ 0 ≤ r.1 ∧ r.1 < m) := by
  obtain ⟨r, s', e, h1, h2, h3⟩ := draw_log hs h (cdiv_small (i := 0) h h2).2
  exact ⟨_, e, h1, h2, h3⟩
theorem one_s {s l : List Int} (hs : Src s) (h : l ≠ []) (h2 : l.length < 100) : Sat (M__law_one s l) (fun r => Src r.2 ∧ r.1 ∈ l) := by
  have hp : 0 < l.length := List.length_pos_iff.mpr h
  unfold M__law_one
  refine sat_bind (draw_s hs (by omega) (by omega)) fun r ⟨g, r0, r1⟩ => ?_
  exact sat_atI r0 r1 fun x hx => sat_some ⟨g, hx⟩
theorem src_s (x : Int) : Sat (M__law_source x) Src := by
  unfold M__law_source
  refine sat_chk (by unfold CPow; decide) ?_
  refine sat_chk (by split <;> exact mul_r (by decide) (by decide)) ?_
  exact sat_some ⟨_, _, _, rfl⟩
theorem bl_ge {a k : Nat} (h : k < bl a) : 2 ^ k ≤ a := Nat.le_of_not_lt fun z => by have := (bl_le (a := a) (k := k)).mpr z; omega
theorem div_nat (a b : Nat) : (a : Int) / (b : Int) = ((a / b : Nat) : Int) := rfl
theorem rngD_succ (j : Nat) : rngD ((j : Int)) (j + 1) = (j : Int) :: rngD ((j : Int) - 1) j := by
  unfold rngD
  rw [List.range_succ_eq_map, List.map_cons, List.map_map]
  refine List.cons_eq_cons.mpr ⟨by simp, List.map_congr_left fun k _ => ?_⟩
  show (j : Int) + ((k + 1 : Nat) : Int) * (-1) = (j : Int) - 1 + (k : Int) * (-1)
  omega
inductive RowsW (w : Nat) : Nat → List (Int × Int) → Prop
  | nil : RowsW w 0 []
  | cons (y p n k : Nat) (l : List (Int × Int)) (h1 : n = y / 2 ^ p) (h2 : n % 2 = 1) (h3 : n < 2 ^ w) (h4 : p = bl y - w + k) (h5 : n * 2 ^ k = y / 2 ^ (bl y - w)) (t : RowsW w (y % 2 ^ p) l) : RowsW w y (((p : Int), (n : Int)) :: l)
theorem RowsW.lt {y p n : Nat} (h1 : n = y / 2 ^ p) (h2 : n % 2 = 1) : y % 2 ^ p < y ∧ 2 ^ p ≤ y := by
  have hp := Nat.two_pow_pos p
  have h : 2 ^ p ≤ y := Nat.le_of_not_lt fun z => by rw [Nat.div_eq_of_lt z] at h1; omega
  exact ⟨Nat.lt_of_lt_of_le (Nat.mod_lt _ hp) h, h⟩
theorem odd_and1 (n : Nat) : Builtin.bitAnd (n : Int) 1 = ((n % 2 : Nat) : Int) := by
  have h := and_low (n : Int) 1
  rw [show (((2 ^ 1 - 1 : Nat) : Nat) : Int) = 1 from rfl] at h
  rw [h]
  rfl
theorem strip_loop : ∀ (f n p : Nat), n ≤ f → n ≠ 0 → ∃ k, whileM (ρ := Unit) (fun (s8 : Int × Int) => some (decide ((Builtin.bitAnd s8.1 (1 : Int)) = (0 : Int)))) (fun (s8 : Int × Int) => (chkP (0 ≤ (1 : Int))).bind fun z9 => (some (s8.1 / 2 ^ ((1 : Int)).toNat)).bind fun y10 => (some (s8.2 + (1 : Int))).bind fun y11 => some (Stp.nx (y10, y11))) (f + 1) ((n : Int), (p : Int)) = some (.nx (((n / 2 ^ k : Nat) : Int), ((p + k : Nat) : Int))) ∧ n / 2 ^ k % 2 = 1 ∧ n / 2 ^ k * 2 ^ k = n
  | 0, n, p, h, h0 => by omega
  | f + 1, n, p, h, h0 => by
    by_cases c : n % 2 = 1
    · refine ⟨0, ?_, by rwa [Nat.pow_zero, Nat.div_one], by rw [Nat.pow_zero, Nat.div_one, Nat.mul_one]⟩
      rw [Nat.pow_zero, Nat.div_one, Nat.add_zero]
      refine whileM_f ?_
      show some (decide (Builtin.bitAnd (n : Int) 1 = 0)) = _
      rw [odd_and1]
      exact congrArg some (decide_eq_false (by omega))
    · obtain ⟨k, h1, h2, h5⟩ := strip_loop f (n / 2) (p + 1) (by omega) (by omega)
      have e : n / 2 / 2 ^ k = n / 2 ^ (k + 1) := by rw [Nat.div_div_eq_div_mul, ← Nat.pow_succ']
      refine ⟨k + 1, ?_, by rwa [← e], by rw [← e, Nat.pow_succ, ← Nat.mul_assoc, h5]; omega⟩
      rw [whileM_t (s' := (((n / 2 : Nat) : Int), ((p + 1 : Nat) : Int))) ?_ ?_, h1, e, show p + 1 + k = p + (k + 1) by omega]
      · show some (decide (Builtin.bitAnd (n : Int) 1 = 0)) = _
        rw [odd_and1]
        exact congrArg some (decide_eq_true (by omega))
      · refine bnd_of (chkP_eq (by decide)) ?_
        rfl
theorem rowsw_loop {w : Nat} (hw : 1 ≤ w) : ∀ (f y : Nat) (acc : List (Int × Int)), y ≤ f → acc.length + bl y ≤ 60000 → bl y ≤ 20000 →
    ∃ l, whileM (ρ := Unit) (fun (s4 : Int × (List (Int × Int))) => some (decide ((0 : Int) < s4.1))) (fun (s4 : Int × (List (Int × Int))) => (some (max (((Builtin.Int.intBits s4.1 : Nat) : Int) - (w : Int)) (0 : Int))).bind fun y5 => (chkP (0 ≤ y5)).bind fun z6 => (some (s4.1 / 2 ^ (y5).toNat)).bind fun y7 => (whileM (ρ := Unit) (fun (s8 : Int × Int) => some (decide ((Builtin.bitAnd s8.1 (1 : Int)) = (0 : Int)))) (fun (s8 : Int × Int) => (chkP (0 ≤ (1 : Int))).bind fun z9 => (some (s8.1 / 2 ^ ((1 : Int)).toNat)).bind fun y10 => (some (s8.2 + (1 : Int))).bind fun y11 => some (Stp.nx (y10, y11))) ((y7).natAbs + 1) (y7, y5)).bind fun z12 => (nxt z12).bind fun s13 => (chkP (s4.2.length < sizeLine)).bind fun z14 => (chkP (CShl (1 : Int) s13.2)).bind fun z15 => (some (Builtin.bitAnd s4.1 (((1 : Int) * 2 ^ (s13.2).toNat) - (1 : Int)))).bind fun y16 => some (Stp.nx (y16, (s4.2 ++ [(s13.2, s13.1)])))) (f + 1) ((y : Int), acc) = some (.nx (0, acc ++ l)) ∧ RowsW w y l ∧ l.length ≤ bl y
  | 0, y, acc, h, _, _ => by
    have : y = 0 := by omega
    subst this
    refine ⟨[], ?_, .nil, Nat.zero_le _⟩
    rw [List.append_nil]
    exact whileM_f rfl
  | f + 1, y, acc, h, h2, h3 => by
    by_cases z : y = 0
    · subst z
      refine ⟨[], ?_, .nil, Nat.zero_le _⟩
      rw [List.append_nil]
      exact whileM_f rfl
    · have hb0 : 0 < bl y := Nat.lt_of_not_le fun q => z (by have := bl_le.mp q; rw [Nat.pow_zero] at this; exact Nat.lt_one_iff.mp this)
      have hlo := bl_ge (a := y) (k := bl y - 1) (by omega)
      have hhi := bl_lt y
      have nz : y / 2 ^ (bl y - w) ≠ 0 := by
        have := Nat.div_pos (a := y) (b := 2 ^ (bl y - w)) (Nat.le_trans (Nat.pow_le_pow_right (by decide) (by omega)) hlo) (Nat.two_pow_pos _)
        omega
      have n32 : y / 2 ^ (bl y - w) < 2 ^ w := by
        refine Nat.div_lt_of_lt_mul ?_
        rw [← Nat.pow_add]
        exact Nat.lt_of_lt_of_le hhi (Nat.pow_le_pow_right (by decide) (by omega))
      obtain ⟨k, k1, k2, k3⟩ := strip_loop (y / 2 ^ (bl y - w)) (y / 2 ^ (bl y - w)) (bl y - w) (Nat.le_refl _) nz
      have en : y / 2 ^ (bl y - w) / 2 ^ k = y / 2 ^ (bl y - w + k) := by rw [Nat.div_div_eq_div_mul, ← Nat.pow_add]
      rw [en] at k1 k2 k3
      generalize hp : bl y - w + k = p at k1 k2 k3 en ⊢
      obtain ⟨l1, l2⟩ := RowsW.lt rfl k2
      have hpb : p < bl y := (Nat.pow_lt_pow_iff_right (by decide)).mp (Nat.lt_of_le_of_lt l2 hhi)
      have hbm : bl (y % 2 ^ p) ≤ p := bl_le.mpr (Nat.mod_lt _ (Nat.two_pow_pos p))
      obtain ⟨l, r1, r2, r3⟩ := rowsw_loop hw f (y % 2 ^ p) (acc ++ [((p : Int), ((y / 2 ^ p : Nat) : Int))]) (by omega) (by
        have t : acc.length + 1 + bl (y % 2 ^ p) ≤ acc.length + bl y := by omega
        rw [List.length_append]
        exact Nat.le_trans t h2) (by omega)
      refine ⟨((p : Int), ((y / 2 ^ p : Nat) : Int)) :: l, ?_, .cons y p (y / 2 ^ p) k l rfl k2 ?_ hp.symm k3 r2, by rw [List.length_cons]; omega⟩
      · rw [whileM_t (s' := (((y % 2 ^ p : Nat) : Int), acc ++ [((p : Int), ((y / 2 ^ p : Nat) : Int))])) ?_ ?_, r1, List.append_assoc]
        · rfl
        · exact congrArg some (decide_eq_true (by omega))
        · refine bnd_of (a := ((bl y - w : Nat) : Int)) (by rw [intBits_nat]; congr 1; omega) ?_
          refine bnd_of (chkP_eq (by omega)) ?_
          refine bnd_of (a := ((y / 2 ^ (bl y - w) : Nat) : Int)) (by rw [Int.toNat_natCast, p2, div_nat]) ?_
          rw [Int.natAbs_natCast]
          refine bnd_of k1 ?_
          refine bnd_of rfl ?_
          refine bnd_of (chkP_eq (size_lt (m := 60000) (by show acc.length ≤ 60000; omega) (by decide))) ?_
          refine bnd_of (chkP_eq (shl_ok (k := 1) (by decide) (by omega) (by omega))) ?_
          refine bnd_of (a := ((y % 2 ^ p : Nat) : Int)) (by rw [Int.toNat_natCast, Int.one_mul, p2, ← Int.natCast_one, ← Int.ofNat_sub (Nat.two_pow_pos _), and_low, p2, ← Int.natCast_emod]) ?_
          rfl
      · rw [← en]
        exact Nat.lt_of_le_of_lt (Nat.div_le_self _ _) n32
theorem wrowsw_ok {y w : Nat} (hw : 1 ≤ w) (h : bl y ≤ 20000) : ∃ l, M_rows_of (y : Int) (w : Int) = some l ∧ RowsW w y l ∧ l.length ≤ bl y := by
  obtain ⟨l, h1, h2, h3⟩ := rowsw_loop hw y y [] (Nat.le_refl _) (by show 0 + _ ≤ _; omega) h
  refine ⟨l, ?_, h2, h3⟩
  unfold M_rows_of
  refine bnd_of rfl ?_
  rw [Int.natAbs_natCast]
  refine bnd_of h1 ?_
  rfl
theorem RowsW.uniq {w y : Nat} {l l' : List (Int × Int)} (h : RowsW w y l) (h' : RowsW w y l') : l = l' := by
  induction h generalizing l' with
  | nil =>
    cases h' with
    | nil => rfl
    | cons _ p n k l h1 h2 h3 h4 h5 t => rw [Nat.zero_div] at h1; omega
  | cons y p n k l h1 h2 h3 h4 h5 t ih =>
    cases h' with
    | nil => rw [Nat.zero_div] at h1; omega
    | cons _ p' n' k' l' h1' h2' h3' h4' h5' t' =>
      have e : k = k' ∧ n = n' := by
        rw [← h5] at h5'
        clear h1 h1' h4 h4' h5 ih t t' h3 h3'
        induction k generalizing k' with
        | zero =>
          cases k' with
          | zero => rw [Nat.pow_zero, Nat.mul_one, Nat.mul_one] at h5'; exact ⟨rfl, h5'.symm⟩
          | succ k' => rw [Nat.pow_zero, Nat.mul_one, Nat.pow_succ, ← Nat.mul_assoc] at h5'; omega
        | succ k ih =>
          cases k' with
          | zero => rw [Nat.pow_zero, Nat.mul_one, Nat.pow_succ, ← Nat.mul_assoc] at h5'; omega
          | succ k' =>
            rw [Nat.pow_succ, Nat.pow_succ, ← Nat.mul_assoc, ← Nat.mul_assoc] at h5'
            obtain ⟨u, v⟩ := ih k' (by omega)
            exact ⟨by omega, v⟩
      obtain ⟨rfl, rfl⟩ := e
      have : p = p' := by omega
      subst this
      rw [ih t']
theorem RowsW.sum {w y : Nat} {l : List (Int × Int)} (h : RowsW w y l) : (l.map fun a => a.2 * 2 ^ (a.1).toNat).sum = (y : Int) := by
  induction h with
  | nil => rfl
  | cons y p n k l h1 h2 h3 h4 h5 t ih =>
    rw [List.map_cons, List.sum_cons, ih]
    dsimp only
    rw [Int.toNat_natCast, p2, ← Int.natCast_mul, ← Int.natCast_add, h1, Nat.mul_comm, Nat.div_add_mod]
theorem RowsW.mem {w y : Nat} {l : List (Int × Int)} (h : RowsW w y l) : ∀ a ∈ l, ∃ p n : Nat, a = ((p : Int), (n : Int)) ∧ p ≤ bl y ∧ n % 2 = 1 ∧ n < 2 ^ w := by
  induction h with
  | nil => exact fun a h => nomatch h
  | cons y p n k l h1 h2 h3 h4 h5 t ih =>
    obtain ⟨l1, l2⟩ := RowsW.lt h1 h2
    have hpb : p < bl y := (Nat.pow_lt_pow_iff_right (by decide)).mp (Nat.lt_of_le_of_lt l2 (bl_lt y))
    have hbm : bl (y % 2 ^ p) ≤ p := bl_le.mpr (Nat.mod_lt _ (Nat.two_pow_pos p))
    intro a ha
    rcases List.mem_cons.mp ha with rfl | ha
    · exact ⟨p, n, rfl, by omega, h2, h3⟩
    · obtain ⟨p', n', e, u, v⟩ := ih a ha
      exact ⟨p', n', e, by omega, v⟩
theorem bl_pow (k : Nat) : bl (2 ^ k) = k + 1 := by
  have a : bl (2 ^ k) ≤ k + 1 := bl_le.mpr (by rw [Nat.pow_succ]; have := Nat.two_pow_pos k; omega)
  have b : ¬ bl (2 ^ k) ≤ k := fun z => Nat.lt_irrefl _ (bl_le.mp z)
  omega
theorem low_bit : ∀ (k n : Nat), n % 2 = 1 → Builtin.bitAnd ((n * 2 ^ k : Nat) : Int) (0 - ((n * 2 ^ k : Nat) : Int)) = ((2 ^ k : Nat) : Int)
  | 0, n, h => by
    rw [Nat.pow_zero, Nat.mul_one]
    have e := half (n : Int) (0 - (n : Int))
    have e2 : (0 - (n : Int)) / 2 = Builtin.bitNot ((n : Int) / 2) := by rw [bnot_eq]; omega
    have e3 : band ((n : Int) / 2) (Builtin.bitNot ((n : Int) / 2)) = 0 := by
      show Builtin.bitAnd _ _ = 0
      rw [PyProof.Rows.bitAnd_not, PyProof.Rows.bitAnd_self]; omega
    rw [e2, e3, if_pos ⟨by omega, by omega⟩] at e
    exact e
  | k + 1, n, h => by
    have ih := low_bit k n h
    rw [Nat.pow_succ, ← Nat.mul_assoc]
    generalize n * 2 ^ k = m at *
    generalize 2 ^ k = q at *
    have e := half ((m * 2 : Nat) : Int) (0 - ((m * 2 : Nat) : Int))
    rw [if_neg (fun z => by have := z.1; omega), show ((m * 2 : Nat) : Int) / 2 = (m : Int) by omega, show (0 - ((m * 2 : Nat) : Int)) / 2 = 0 - (m : Int) by omega] at e
    show band _ _ = _
    rw [e]
    show 2 * Builtin.bitAnd _ _ + 0 = _
    rw [ih]
    omega
theorem due_loop {w y : Nat} {l : List (Int × Int)} (h : RowsW w y l) : ∀ (xs : List Int) (acc : List (Int × Int)), l.length ≤ xs.length → acc.length + l.length ≤ 60000 → bl y ≤ 20000 →
    ∃ z, forM' (ρ := List (Int × Int)) (fun (a6 : Int) (s5 : Int × (List (Int × Int))) => if (decide (s5.1 = (0 : Int))) = true then some (Stp.rt s5.2) else (some ((Builtin.Int.intBits s5.1 : Nat) : Int)).bind fun y7 => (some (max (0 : Int) (y7 - (w : Int)))).bind fun y8 => (chkP (0 ≤ y8)).bind fun z9 => (some (s5.1 / 2 ^ (y8).toNat)).bind fun y10 => (some (((Builtin.Int.intBits (Builtin.bitAnd y10 ((0 : Int) - y10)) : Nat) : Int) - (1 : Int))).bind fun y11 => (chkP (0 ≤ y11)).bind fun z12 => (chkP (s5.2.length < sizeLine)).bind fun z13 => (chkP (CShl y10 y8)).bind fun z14 => (some (s5.1 - (y10 * 2 ^ (y8).toNat))).bind fun y15 => some (Stp.nx (y15, (s5.2 ++ [((y8 + y11), (y10 / 2 ^ (y11).toNat))])))) xs ((y : Int), acc) = some z ∧ aft z (fun s17 => some s17.2) = some (acc ++ l) := by
  induction h with
  | nil =>
    intro xs acc _ _ _
    rw [List.append_nil]
    cases xs with
    | nil => exact ⟨_, rfl, rfl⟩
    | cons x xs => exact ⟨Stp.rt acc, rfl, rfl⟩
  | cons y p n k l h1 h2 h3 h4 h5 t ih =>
    intro xs acc hx ha hb
    cases xs with
    | nil => rw [List.length_cons] at hx; exact absurd hx (by rw [List.length_nil]; omega)
    | cons x xs =>
      rw [List.length_cons] at hx ha
      obtain ⟨l1, l2⟩ := RowsW.lt h1 h2
      have hpb : p < bl y := (Nat.pow_lt_pow_iff_right (by decide)).mp (Nat.lt_of_le_of_lt l2 (bl_lt y))
      have hbm : bl (y % 2 ^ p) ≤ p := bl_le.mpr (Nat.mod_lt _ (Nat.two_pow_pos p))
      have y0 : 0 < y := by omega
      obtain ⟨z, z1, z2⟩ := ih xs (acc ++ [((p : Int), (n : Int))]) (by rw [List.length_cons] at hx; omega) (by rw [List.length_append]; show acc.length + 1 + l.length ≤ _; omega) (by omega)
      refine ⟨z, ?_, by rw [z2, List.append_assoc]; rfl⟩
      rw [forM_cons (s' := (((y % 2 ^ p : Nat) : Int), acc ++ [((p : Int), (n : Int))])) ?_, z1]
      dsimp only
      rw [if_neg (by rw [decide_eq_true_iff]; omega)]
      refine bnd_of (a := ((bl y : Nat) : Int)) (by rw [intBits_nat]) ?_
      refine bnd_of (a := ((bl y - w : Nat) : Int)) (by congr 1; omega) ?_
      refine bnd_of (chkP_eq (by omega)) ?_
      refine bnd_of (a := ((n * 2 ^ k : Nat) : Int)) (by rw [Int.toNat_natCast, p2, div_nat, h5]) ?_
      refine bnd_of (a := ((k : Nat) : Int)) (by rw [low_bit k n h2, intBits_nat, bl_pow]; congr 1; omega) ?_
      refine bnd_of (chkP_eq (by omega)) ?_
      refine bnd_of (chkP_eq (size_lt (m := 60000) (by omega) (by decide))) ?_
      refine bnd_of (chkP_eq (shl_ok (k := bl y) (by rw [Int.natAbs_natCast, h5]; exact Nat.lt_of_le_of_lt (Nat.div_le_self _ _) (bl_lt y)) (by omega) (by omega))) ?_
      refine bnd_of (a := ((y % 2 ^ p : Nat) : Int)) ?_ ?_
      · rw [Int.toNat_natCast, p2, ← Int.natCast_mul, h5]
        congr 1
        have e1 := Nat.div_add_mod y (2 ^ (bl y - w))
        have e2 : y % 2 ^ p = y % 2 ^ (bl y - w) := by
          rw [h4, Nat.pow_add, Nat.mod_mul, ← h5, Nat.mul_mod_left, Nat.mul_zero, Nat.add_zero]
        rw [e2, Nat.mul_comm]
        omega
      · rw [show ((bl y - w : Nat) : Int) + (k : Int) = (p : Int) by omega, Int.toNat_natCast, p2, div_nat, Nat.mul_div_cancel _ (Nat.two_pow_pos k)]
theorem due_ok {w y : Nat} {l : List (Int × Int)} (h : RowsW w y l) (hl : l.length ≤ bl y) (hb : bl y ≤ 20000) : M__law_due (y : Int) (w : Int) = some l := by
  unfold M__law_due
  rw [intBits_nat]
  refine bnd_of rfl ?_
  refine bnd_of (chkP_eq (by omega)) ?_
  obtain ⟨z, z1, z2⟩ := due_loop h (rng 0 (((bl y : Nat) : Int)).toNat) [] (by rw [rng_len, Int.toNat_natCast]; exact hl) (by show 0 + _ ≤ _; omega) hb
  exact bnd_of z1 z2
/-- what rows cost -/
def cst (w : Nat) (l : List (Int × Int)) (p : Int) : Int := ((((2 ^ (w - 1) : Nat) : Int) - 1) + (if 1 < w then (1 : Int) else 0)) + (l.length : Int) - 1 + p
theorem atI_hd {α : Type} {x : α} {l : List α} : atI (x :: l) (0 : Int) = some x := by
  have e : ixN (x :: l).length (0 : Int) = some 0 := by
    unfold ixN
    rw [if_pos (by decide), if_pos (by rw [List.length_cons]; omega)]
    rfl
  unfold atI
  rw [e]
  rfl
theorem RowsW.ne {w y : Nat} {l : List (Int × Int)} (h : RowsW w y l) (hy : 0 < y) : ∃ q r, l = q :: r := by
  cases h with
  | nil => omega
  | cons y p n k l h1 h2 h3 h4 h5 t => exact ⟨_, _, rfl⟩
theorem cost_ok {w y : Nat} {q : Int × Int} {r : List (Int × Int)} (h : M_rows_of (y : Int) (w : Int) = some (q :: r)) (h1 : 1 ≤ w) (h2 : w ≤ 12) : M_cost_of (y : Int) (w : Int) = some (cst w (q :: r) q.1) := by
  unfold M_cost_of
  refine bnd_of h (bnd_of atI_hd ?_)
  rw [show (w : Int) - 1 = ((w - 1 : Nat) : Int) by omega]
  refine bnd_of (chkP_eq (shl_ok (k := 1) (by decide) (by omega) (by omega))) ?_
  refine bnd_of rfl ?_
  rw [Int.toNat_natCast, Int.one_mul, p2]
  unfold cst
  congr 4
  by_cases c : 1 < w
  · rw [if_pos (decide_eq_true (by omega)), if_pos c]
  · rw [if_neg (by rw [decide_eq_true_iff]; omega), if_neg c]
theorem lcost_ok {w y : Nat} {q : Int × Int} {r : List (Int × Int)} (h : M__law_due (y : Int) (w : Int) = some (q :: r)) (h1 : 1 ≤ w) (h2 : w ≤ 12) : M__law_cost (y : Int) (w : Int) = some (cst w (q :: r) q.1) := by
  unfold M__law_cost
  refine bnd_of h ?_
  rw [show (w : Int) - 1 = ((w - 1 : Nat) : Int) by omega]
  refine bnd_of (chkP_eq (shl_ok (k := 1) (by decide) (by omega) (by omega))) ?_
  refine bnd_of atI_hd ?_
  rw [Int.toNat_natCast, Int.one_mul, p2]
  unfold cst
  congr 4
  by_cases c : 1 < w
  · rw [if_pos (decide_eq_true (by omega)), if_pos c]
  · rw [if_neg (by rw [decide_eq_true_iff]; omega), if_neg c]
section
variable {y : Nat} (hy : 0 < y) (hb : bl y ≤ 4000)
include hy hb
theorem all_rows {w : Nat} (h1 : 1 ≤ w) (h2 : w ≤ 12) : ∃ q r, M_rows_of (y : Int) (w : Int) = some (q :: r) ∧ RowsW w y (q :: r) ∧ (q :: r).length ≤ bl y ∧ M__law_due (y : Int) (w : Int) = some (q :: r) ∧ M_cost_of (y : Int) (w : Int) = some (cst w (q :: r) q.1) ∧ M__law_cost (y : Int) (w : Int) = some (cst w (q :: r) q.1) := by
  obtain ⟨l, a1, a2, a3⟩ := wrowsw_ok h1 (y := y) (by omega)
  obtain ⟨q, r, rfl⟩ := a2.ne hy
  have d := due_ok a2 a3 (by omega)
  exact ⟨q, r, a1, a2, a3, d, cost_ok a1 h1 h2, lcost_ok d h1 h2⟩
theorem check_ok : M_check_row_number (y : Int) = some () := by
  unfold M_check_row_number
  refine bnd_of rfl (bnd_of (chkP_eq rfl) ?_)
  refine bnd_of (chkP_eq (decide_eq_false (by omega))) ?_
  refine bnd_of (chkP_eq (decide_eq_false (by rw [intBits_nat]; omega))) rfl
theorem window_ok {w : Nat} (h1 : 1 ≤ w) (h2 : w ≤ 12) {l : List (Int × Int)} (h : M_rows_of (y : Int) (w : Int) = some l) : M_window_rows (y : Int) (w : Int) = some l := by
  unfold M_window_rows
  refine bnd_of (check_ok hy hb) ?_
  refine bnd_of (a := true) ?_ (bnd_of (chkP_eq rfl) (bnd_of h rfl))
  unfold M_is_between
  refine bnd_of (a := true) rfl ?_
  rw [decide_eq_true (by omega), decide_eq_true (by omega)]
  rfl
/-- the cost by a width -/
noncomputable def cstf (y : Nat) (x : Int) : Int := (M_cost_of (y : Int) x).getD 0
theorem cstf_ok {x : Int} (hx : x ∈ rng 1 12) : M_cost_of (y : Int) x = some (cstf y x) ∧ M__law_cost (y : Int) x = some (cstf y x) := by
  obtain ⟨i, hi⟩ := List.getElem?_of_mem hx
  obtain ⟨g1, g2⟩ := rng_get hi
  obtain ⟨q, r, a1, a2, a3, a4, a5, a6⟩ := all_rows hy hb (w := i + 1) (by omega) (by omega)
  rw [show x = ((i + 1 : Nat) : Int) by omega]
  have e : cstf y ((i + 1 : Nat) : Int) = cst (i + 1) (q :: r) q.1 := by unfold cstf; rw [a5]; rfl
  rw [e]
  exact ⟨a5, a6⟩
theorem best_ok : M_best_width (y : Int) = some (1 + ((List.idxOf (minL ((rng 1 12).map (cstf y))) ((rng 1 12).map (cstf y)) : Nat) : Int)) := by
  unfold M_best_width
  refine bnd_of (check_ok hy hb) ?_
  refine bnd_of (chkP_eq (by decide)) ?_
  rw [show (((12 : Int) + (1 : Int)) - (1 : Int)).toNat = 12 from rfl]
  refine bnd_of (chkP_eq (by rw [rng_len]; decide)) ?_
  refine bnd_of (lcM_mapU (f := cstf y) fun x hx => ?_) ?_
  · rw [(cstf_ok hy hb hx).1]; rfl
  have ne : (rng 1 12).map (cstf y) ≠ [] := fun z => by
    have := congrArg List.length z
    rw [List.length_map, rng_len] at this
    cases this
  refine bnd_of (chkP_eq (List.length_pos_iff.mpr ne)) ?_
  exact bnd_of (chkP_eq (minL_mem ne)) rfl
theorem lright_ok : M__law_right (y : Int) = some true := by
  refine sat_get ?_
  unfold M__law_right
  refine sat_let (sat_chk (by decide) ?_)
  rw [show ((13 : Int) - (1 : Int)).toNat = 12 from rfl]
  refine sat_for (fun j s => s = ((rng 1 12).take j).map (cstf y)) (fun i x s hi hs => ?_) rfl fun t et => ?_
  · show Sat _ _
    have hx : x ∈ rng 1 12 := List.mem_of_getElem? hi
    have sl : s.length ≤ 12 := by rw [hs, List.length_map, List.length_take, rng_len]; omega
    have st : s ++ [cstf y x] = ((rng 1 12).take (i + 1)).map (cstf y) := by rw [hs, List.take_succ, hi, List.map_append]; rfl
    refine ⟨_, ?_, s ++ [cstf y x], rfl, st⟩
    obtain ⟨g1, g2⟩ := rng_get hi
    have cx := (cstf_ok hy hb hx).2
    obtain ⟨q, r, a1, a2, a3, a4, a5, a6⟩ := all_rows hy hb (w := i + 1) (by omega) (by omega)
    have e : x = ((i + 1 : Nat) : Int) := by omega
    subst e
    have wk := window_ok hy hb (w := i + 1) (by omega) (by omega) a1
    have hl : (q :: r).length ≤ 4000 := by omega
    have dk : Dat.ok (LF.mk (q :: r)) := fun _ _ => ⟨trivial, trivial⟩
    refine bnd_of wk (bnd_of a4 (bnd_of (chkP_eq ⟨rfl, dk⟩) (bnd_of (chkP_eq rfl) ?_)))
    refine bnd_of (chkP_eq (size_le (m := 4000) hl (by decide))) ?_
    refine bnd_of (lcM_mapU (f := fun (a : Int × Int) => a.2 * 2 ^ (a.1).toNat) fun a ha => ?_) ?_
    · obtain ⟨p, n, rfl, p1, n1, n2⟩ := a2.mem a ha
      exact bnd_of (chkP_eq (shl_ok (k := i + 1) (by rw [Int.natAbs_natCast]; exact n2) (by omega) (by omega))) rfl
    refine bnd_of (chkP_eq a2.sum) ?_
    refine bnd_of (chkP_eq (size_le (m := 4000) hl (by decide))) ?_
    refine bnd_of (lcM_noneU fun a ha => ?_) ?_
    · obtain ⟨p, n, rfl, p1, n1, n2⟩ := a2.mem a ha
      refine bnd_of (a := false) ?_ rfl
      dsimp only
      rw [odd_and1, if_neg (by rw [decide_eq_true_iff]; omega)]
      refine bnd_of (chkP_eq (by omega)) ?_
      rw [Int.toNat_natCast, p2, div_nat, Nat.div_eq_of_lt n2]
      rfl
    refine bnd_of (chkP_eq ⟨rfl, fun _ _ => trivial⟩) ?_
    refine bnd_of cx ?_
    refine bnd_of (chkP_eq (size_lt (m := 12) sl (by decide))) ?_
    refine bnd_of (chkP_eq (size_lt (m := 4000) hl (by decide))) ?_
    exact bnd_of wk (bnd_of (chkP_eq ⟨rfl, dk⟩) rfl)
  rw [rng_len, List.take_of_length_le (by rw [rng_len]; omega)] at et
  subst et
  have bw := best_ok hy hb
  have ne : (rng 1 12).map (cstf y) ≠ [] := fun z => by
    have := congrArg List.length z
    rw [List.length_map, rng_len] at this
    cases this
  refine sat_nx (sat_eq bw (sat_chk (List.length_pos_iff.mpr ne) (sat_chk (minL_mem ne) (sat_chk (decide_eq_true rfl) ?_))))
  exact sat_eq bw (sat_eq bw (sat_chk (decide_eq_true rfl) (sat_some rfl)))
end
theorem ones_div {N p : Nat} (h : p ≤ N) : (2 ^ N - 1) / 2 ^ p = 2 ^ (N - p) - 1 ∧ (2 ^ N - 1) % 2 ^ p = 2 ^ p - 1 := by
  have e : 2 ^ N = 2 ^ (N - p) * 2 ^ p := by rw [← Nat.pow_add]; congr 1; omega
  have a := Nat.two_pow_pos (N - p)
  have b := Nat.two_pow_pos p
  have e2 : 2 ^ N - 1 = (2 ^ p - 1) + 2 ^ p * (2 ^ (N - p) - 1) := by
    rw [Nat.mul_sub, Nat.mul_one, Nat.mul_comm (2 ^ p) (2 ^ (N - p)), ← e]
    have : 2 ^ p ≤ 2 ^ N := Nat.pow_le_pow_right (by decide) h
    omega
  constructor
  · rw [e2, Nat.add_mul_div_left _ _ b, Nat.div_eq_of_lt (by omega), Nat.zero_add]
  · rw [e2, Nat.add_mul_mod_self_left, Nat.mod_eq_of_lt (by omega)]
theorem bl_ones : ∀ N : Nat, bl (2 ^ N - 1) = N
  | 0 => by decide +kernel
  | N + 1 => by
    have a : bl (2 ^ (N + 1) - 1) ≤ N + 1 := bl_le.mpr (by have := Nat.two_pow_pos (N + 1); omega)
    have b : ¬ bl (2 ^ (N + 1) - 1) ≤ N := fun z => by
      have := bl_le.mp z
      have p := Nat.two_pow_pos N
      rw [Nat.pow_succ] at this
      omega
    omega
theorem odd_ones {N : Nat} (h : 0 < N) : (2 ^ N - 1) % 2 = 1 := by
  obtain ⟨m, rfl⟩ : ∃ m, N = m + 1 := ⟨N - 1, by omega⟩
  have := Nat.two_pow_pos m
  rw [Nat.pow_succ]
  omega
theorem ones_R {w : Nat} (hw : 1 ≤ w) : ∀ (f N : Nat), N ≤ f → ∃ l, RowsW w (2 ^ N - 1) l ∧ l.length = (N + w - 1) / w ∧ ∀ q r, l = q :: r → q.1 = ((N - w : Nat) : Int)
  | 0, N, hN => by
    have : N = 0 := by omega
    subst this
    refine ⟨[], .nil, ?_, fun q r e => nomatch e⟩
    rw [Nat.zero_add, Nat.div_eq_of_lt (by omega)]; rfl
  | f + 1, N, hN => by
    by_cases z : N = 0
    · subst z
      refine ⟨[], .nil, ?_, fun q r e => nomatch e⟩
      rw [Nat.zero_add, Nat.div_eq_of_lt (by omega)]; rfl
    · obtain ⟨l, l1, l2, l3⟩ := ones_R hw f (N - w) (by omega)
      obtain ⟨d1, d2⟩ := ones_div (show N - w ≤ N by omega)
      refine ⟨((N - w : Nat) : Int) |> fun p => (p, ((2 ^ (N - (N - w)) - 1 : Nat) : Int)) :: l, ?_, ?_, fun q r e => ?_⟩
      · refine .cons _ (N - w) (2 ^ (N - (N - w)) - 1) 0 l d1.symm (odd_ones (by omega)) ?_ ?_ ?_ (by rw [d2]; exact l1)
        · have : 2 ^ (N - (N - w)) ≤ 2 ^ w := Nat.pow_le_pow_right (by decide) (by omega)
          have := Nat.two_pow_pos (N - (N - w))
          omega
        · rw [bl_ones]; rfl
        · rw [bl_ones, Nat.pow_zero, Nat.mul_one, d1]
      · show l.length + 1 = _
        rw [l2]
        rcases Nat.lt_or_ge N w with q | q
        · rw [show N - w = 0 by omega, Nat.zero_add, Nat.div_eq_of_lt (by omega)]
          exact (Nat.div_eq_of_lt_le (by omega) (by omega)).symm
        · rw [show N - w + w - 1 = N - 1 by omega, show N + w - 1 = N - 1 + w by omega, Nat.add_div_right _ (by omega)]
      · cases e; rfl
theorem ones_1 : ∀ N : Nat, RowsW 1 (2 ^ N - 1) ((rngD ((N : Int) - 1) N).map fun x => (x, (1 : Int)))
  | 0 => .nil
  | N + 1 => by
    obtain ⟨d1, d2⟩ := ones_div (show N ≤ N + 1 by omega)
    rw [show ((N + 1 : Nat) : Int) - 1 = (N : Int) by omega, rngD_succ, List.map_cons]
    refine .cons _ N 1 0 _ (by rw [d1, show N + 1 - N = 1 by omega]) rfl (by decide) (by rw [bl_ones]; rfl) ?_ (by rw [d2]; exact ones_1 N)
    rw [bl_ones, show N + 1 - 1 = N by omega, d1, show N + 1 - N = 1 by omega]
theorem one_R {w N : Nat} (hw : 1 ≤ w) : RowsW w (2 ^ N) [((N : Int), (1 : Int))] := by
  refine .cons _ N 1 (N - (N + 1 - w)) [] (by rw [Nat.div_self (Nat.two_pow_pos N)]) rfl (Nat.one_lt_two_pow (by omega)) (by rw [bl_pow]; omega) ?_ (by rw [Nat.mod_self]; exact .nil)
  rw [bl_pow, Nat.one_mul, Nat.pow_div (by omega) (by decide)]
theorem win_is {y w : Nat} {l : List (Int × Int)} (hy : 0 < y) (hb : bl y ≤ 4000) (h1 : 1 ≤ w) (h2 : w ≤ 12) (h : RowsW w y l) : M_window_rows (y : Int) (w : Int) = some l := by
  obtain ⟨q, r, a1, a2, _⟩ := all_rows hy hb h1 h2
  rw [h.uniq a2]
  exact window_ok hy hb h1 h2 a1
theorem best_ones {N : Nat} (h0 : 0 < N) (h1 : N ≤ 4000) : (rng 1 12).map (cstf (2 ^ N - 1)) = (rng 1 12).map fun x => ((((2 ^ (x.toNat - 1) : Nat) : Int) - 1) + (if 1 < x.toNat then (1 : Int) else 0)) + (((N + x.toNat - 1) / x.toNat : Nat) : Int) - 1 + ((N - x.toNat : Nat) : Int) := by
  have hy : 0 < 2 ^ N - 1 := by have := Nat.pow_le_pow_right (n := 2) (by decide) h0; omega
  have hb : bl (2 ^ N - 1) ≤ 4000 := by rw [bl_ones]; exact h1
  apply List.map_congr_left
  intro x hx
  obtain ⟨i, hi⟩ := List.getElem?_of_mem hx
  obtain ⟨g1, g2⟩ := rng_get hi
  obtain ⟨q, r, a1, a2, a3, a4, a5, a6⟩ := all_rows hy hb (w := i + 1) (by omega) (by omega)
  rw [show x = ((i + 1 : Nat) : Int) by omega]
  unfold cstf
  rw [a5]
  obtain ⟨l, l1, l2, l3⟩ := ones_R (show 1 ≤ i + 1 by omega) N N (Nat.le_refl _)
  have el := l1.uniq a2
  show cst (i + 1) (q :: r) q.1 = _
  unfold cst
  rw [← el, l2, l3 q r el, Int.toNat_natCast]
theorem best_2000 : M_best_width (((2 ^ 2000 - 1 : Nat)) : Int) = some 7 := by
  have hy : 0 < 2 ^ 2000 - 1 := by have := Nat.pow_le_pow_right (n := 2) (by decide) (show 1 ≤ 2000 by decide); omega
  rw [best_ok hy (by rw [bl_ones]; decide), best_ones (by decide) (by decide)]
  decide +kernel
theorem best_1 : M_best_width (1 : Int) = some 1 := by
  have e : M_best_width (((2 ^ 1 - 1 : Nat)) : Int) = some 1 := by
    rw [best_ok (by decide) (by rw [bl_ones]; decide), best_ones (by decide) (by decide)]
    decide +kernel
  exact e
theorem exp_s {s : List Int} {M : Int} (hs : Src s) (h1 : 0 < M) (h2 : M ≤ 95) : Sat (M__law_exponent s M) (fun r => Src r.2 ∧ 0 < r.1 ∧ r.1 < 2 ^ (40 * 95 + 1)) := by
  unfold M__law_exponent
  refine sat_bind (draw_s hs h1 (by omega)) fun r ⟨g, r0, r1⟩ => ?_
  obtain ⟨d, hd⟩ := Int.eq_ofNat_of_zero_le r0
  refine sat_chk (by omega) ?_
  refine sat_for (fun i st => Src st.2 ∧ 0 < st.1 ∧ st.1 < 2 ^ (40 * i + 1)) (fun i x st hi ⟨gs, s0, s1⟩ => ?_) ⟨g, Int.one_pos, show (1 : Int) < 2 ^ (40 * 0 + 1) by decide⟩ fun st ⟨gs, s0, s1⟩ => sat_nx (sat_some ⟨gs, s0, ?_⟩)
  · have hi := (rng_get hi).1
    refine sat_bind (draw_s gs (by decide) (by decide)) fun r2 ⟨g2, a2, b2⟩ => ?_
    obtain ⟨e, he⟩ := Int.eq_ofNat_of_zero_le a2
    obtain ⟨z, hz⟩ : ∃ z : Nat, z = 1 + e := ⟨_, rfl⟩
    rw [he, show (1 : Int) + (e : Int) = ((z : Nat) : Int) by omega]
    refine sat_let ?_
    refine sat_chk (shl_ok (k := 1) (by decide) (by decide) (by decide)) ?_
    refine sat_bind (draw_s g2 (by decide) (by decide)) fun r3 ⟨g3, a3, b3⟩ => ?_
    refine sat_chk (by omega) ?_
    have e30 : max (0 : Int) ((30 : Int) - ((z : Nat) : Int)) = ((30 - z : Nat) : Int) := by omega
    rw [e30, Int.toNat_natCast]
    refine sat_let ?_
    have zp := ppos z
    have y10 : 0 ≤ r3.1 / 2 ^ (30 - z) ∧ r3.1 / 2 ^ (30 - z) < 2 ^ z := by
      refine ⟨Int.ediv_nonneg a3 (Int.le_of_lt (ppos _)), Int.ediv_lt_of_lt_mul (ppos _) ?_⟩
      rw [← Int.pow_add]
      have b3 : r3.1 < 2 ^ 30 := b3
      exact Int.lt_of_lt_of_le b3 (by rw [p2, p2]; exact Int.ofNat_le.mpr (Nat.pow_le_pow_right (by decide) (by omega)))
    generalize r3.1 / 2 ^ (30 - z) = yy at *
    have sl : 2 ^ (40 * i + 1) ≤ (2 : Nat) ^ 4000 := Nat.pow_le_pow_right (by decide) (by omega)
    have sn : st.1.natAbs < 2 ^ (40 * i + 1) := by have := p2 (40 * i + 1); omega
    refine sat_chk (shl_ok (k := 40 * i + 1) sn (by omega) (by omega)) ?_
    refine sat_chk (shl_ok (k := 1) (by decide) (by omega) (by omega)) ?_
    rw [Int.toNat_natCast, Int.one_mul]
    refine sat_bind (one_s g3 (List.cons_ne_nil _ _) (by show 4 < 100; decide)) fun r4 ⟨g4, m4⟩ => ?_
    simp only [List.mem_cons, List.not_mem_nil, or_false] at m4
    have hr4 : 0 ≤ r4.1 ∧ r4.1 < 2 ^ z := by omega
    refine sat_let (sat_end ⟨g4, ?_, ?_⟩)
    · show 0 < st.1 * 2 ^ z + r4.1
      have := Int.mul_pos s0 zp
      omega
    · show st.1 * 2 ^ z + r4.1 < 2 ^ (40 * (i + 1) + 1)
      have h3 : (st.1 + 1) * 2 ^ z ≤ 2 ^ (40 * i + 1) * 2 ^ z := Int.mul_le_mul_of_nonneg_right (by omega) (Int.le_of_lt zp)
      rw [← Int.pow_add, Int.add_mul, Int.one_mul] at h3
      have h4 : (2 : Int) ^ (40 * i + 1 + z) ≤ 2 ^ (40 * (i + 1) + 1) := by rw [p2, p2]; exact Int.ofNat_le.mpr (Nat.pow_le_pow_right (by decide) (by omega))
      omega
  · rw [rng_len] at s1
    refine Int.lt_of_lt_of_le s1 ?_
    rw [p2, p2]
    exact Int.ofNat_le.mpr (Nat.pow_le_pow_right (by decide) (by omega))
/-! ### refusals -/
theorem isF_same {c : Nat} {fl x : Str} : XC.isF c fl (.f c fl x) = some x := by
  unfold XC.isF
  exact if_pos ⟨rfl, rfl⟩
theorem said_f (x : Str) : M__law_said (some (.f 0 "argument" x)) = some x := by
  unfold M__law_said
  rw [onC_s rfl, onF_s isF_same]
theorem ln_y : Str.length ("y" : Str) ≤ 100 := by decide +kernel
theorem ln_w : Str.length ("width" : Str) ≤ 100 := by decide +kernel
theorem ly_y : (PyData.str ("y" : Str)).canLay0 = true := by decide +kernel
theorem dx_loop {b : Bool} : ∀ (l : List Int) (s : DX), ∃ t, forM' (ρ := Unit) (fun (_ : Int) (_ : DX) => (some (if b = true then DX.mk else DX.mk)).bind fun y5 => some (Stp.nx y5)) l s = some (Stp.nx t)
  | [], s => ⟨s, rfl⟩
  | _ :: l, s => dx_loop l _
theorem deep_ok (b : Bool) : ∃ r, M__law_deep b = some r := by
  unfold M__law_deep
  obtain ⟨t, ht⟩ := dx_loop (b := b) (rng 0 ((1998 : Int)).toNat) DX.mk
  exact ⟨t, bnd_of (chkP_eq (by decide)) (bnd_of ht rfl)⟩
theorem rep2 (x : Str) : LF.mk ([x, x] : List Str) = LF.mk (List.replicate ((2 : Int)).toNat ([x] : List Str)).flatten := rfl
theorem lay2 {x : Str} (h : (PyData.str x).canLay0 = true) : Dat.ok (LF.mk ([x, x] : List Str)) := fun y hy => by
  simp only [List.mem_cons, List.not_mem_nil, or_false, or_self] at hy
  rw [hy]; exact h
theorem r2 (x : Str) : (-(2 ^ 63) ≤ (2 : Int) ∧ (2 : Int) < 2 ^ 63) ∧ ([x] : List Str).length * ((2 : Int)).toNat ≤ sizeLine := ⟨by decide, show 1 * 2 ≤ sizeLine by decide⟩
theorem xr2 : X_check_row_number__or2 = some (.f 0 "argument" "y") := bnd_of (chkP_eq ln_y) rfl
theorem xr8 (b : Bool) : X_check_row_number__or8 b = some (.f 0 "argument" "y") := bnd_of (chkP_eq ln_y) rfl
theorem xr_bad {x : Int} (h : x < 1 ∨ 4000 < bl x.natAbs) : X_check_row_number x = some (.f 0 "argument" "y") := by
  unfold X_check_row_number
  refine bnd_of (a := true) rfl ?_
  rw [if_pos (by
    rw [intBits_abs]
    rcases h with h | h
    · rw [decide_eq_true h]; rfl
    · rw [decide_eq_true (show (4000 : Int) < ((bl x.natAbs : Nat) : Int) by omega), Bool.or_true, Bool.or_true])]
  exact bnd_of (chkP_eq ln_y) rfl
theorem xr_5 : X_check_row_number 5 = none := by
  unfold X_check_row_number
  refine bnd_of (a := true) rfl ?_
  exact if_neg (by decide +kernel)
theorem bl5 : bl 5 ≤ 4000 := by decide +kernel
theorem ch_5 : M_check_row_number 5 = some () := check_ok (y := 5) (by decide) bl5
theorem xw_5 : X_window_rows__or5 5 = some (.f 0 "argument" "width") := by
  unfold X_window_rows__or5
  rw [xr_5, onC_n rfl]
  exact bnd_of ch_5 (bnd_of (chkP_eq ln_w) rfl)
theorem xw_5b (b : Bool) : X_window_rows__or11 5 b = some (.f 0 "argument" "width") := by
  unfold X_window_rows__or11
  rw [xr_5, onC_n rfl]
  exact bnd_of ch_5 (bnd_of (chkP_eq ln_w) rfl)
theorem xw_5i {w : Int} (h : w < 1 ∨ 12 < w) : X_window_rows 5 w = some (.f 0 "argument" "width") := by
  unfold X_window_rows
  rw [xr_5, onC_n rfl]
  refine bnd_of ch_5 (bnd_of (a := false) ?_ ?_)
  · unfold M_is_between
    refine bnd_of (a := true) rfl ?_
    rcases h with h | h
    · rw [decide_eq_false (show ¬ (1 : Int) ≤ w by omega)]; rfl
    · rw [decide_eq_false (show ¬ w ≤ (12 : Int) by omega), Bool.and_false]; rfl
  · exact (if_pos rfl).trans (bnd_of (chkP_eq ln_w) rfl)
theorem win_1000 : M_window_rows (1000 : Int) (4 : Int) = some [((6 : Int), (15 : Int)), ((3 : Int), (5 : Int))] := by
  refine win_is (y := 1000) (w := 4) (by decide) (by decide +kernel) (by decide) (by decide) ?_
  refine .cons 1000 6 15 0 _ (by decide) (by decide) (by decide) (by decide +kernel) (by decide +kernel) ?_
  refine .cons _ 3 5 1 _ (by decide) (by decide) (by decide) (by decide +kernel) (by decide +kernel) ?_
  exact .nil
theorem refused_ok : M__law_refused_right = some true := by
  unfold M__law_refused_right
  obtain ⟨d1, hd1⟩ := deep_ok true
  obtain ⟨d2, hd2⟩ := deep_ok false
  refine bnd_of (chkP_eq (shl_ok (k := 1) (by decide) (by decide) (by decide))) (bnd_of hd1 (bnd_of hd2 ?_))
  refine bnd_of (a := Stp.nx ()) ?_ ?_
  · refine bnd_of xr2 (bnd_of (said_f _) (bnd_of xr2 (bnd_of (said_f _) ?_)))
    exact bnd_of (chkP_eq (r2 _)) (bnd_of (chkP_eq ⟨rep2 _, lay2 ly_y⟩) rfl)
  refine bnd_of (allN_of fun x hx => ?_) ?_
  · have hb : x < 1 ∨ 4000 < bl x.natAbs := by
      simp only [List.mem_cons, List.not_mem_nil, or_false] at hx
      rcases hx with rfl | rfl | rfl
      · exact .inl (by decide)
      · exact .inl (by decide)
      · right
        rw [show (1 : Int) * 2 ^ ((4000 : Int)).toNat = ((2 ^ 4000 : Nat) : Int) by rw [Int.one_mul, show ((4000 : Int)).toNat = 4000 from rfl, p2], Int.natAbs_natCast, bl_pow]
        decide
    have e := xr_bad hb
    refine ⟨Stp.nx (), ?_⟩
    have e5 : X_window_rows__or5 x = some (.f 0 "argument" "y") := by unfold X_window_rows__or5; rw [e, onC_s rfl]
    have eb : X_best_width x = some (.f 0 "argument" "y") := by unfold X_best_width; rw [e, onC_s rfl]
    refine bnd_of e5 (bnd_of (said_f _) (bnd_of eb (bnd_of (said_f _) ?_)))
    exact bnd_of (chkP_eq (r2 _)) (bnd_of (chkP_eq ⟨rep2 _, lay2 ly_y⟩) rfl)
  refine bnd_of (allN_of fun x hx => ?_) ?_
  · refine ⟨Stp.nx (), ?_⟩
    refine bnd_of (xr8 x) (bnd_of (said_f _) (bnd_of (xr8 x) (bnd_of (said_f _) ?_)))
    exact bnd_of (chkP_eq (r2 _)) (bnd_of (chkP_eq ⟨rep2 _, lay2 ly_y⟩) rfl)
  refine bnd_of hd1 (bnd_of (a := Stp.nx ()) (bnd_of xw_5 (bnd_of (said_f _) (bnd_of (chkP_eq rfl) rfl))) ?_)
  refine bnd_of (allN_of fun x hx => ?_) ?_
  · have hb : x < 1 ∨ 12 < x := by
      simp only [List.mem_cons, List.not_mem_nil, or_false] at hx
      omega
    exact ⟨Stp.nx (), bnd_of (xw_5i hb) (bnd_of (said_f _) (bnd_of (chkP_eq rfl) rfl))⟩
  refine bnd_of (allN_of fun x hx => ⟨Stp.nx (), bnd_of (xw_5b x) (bnd_of (said_f _) (bnd_of (chkP_eq rfl) rfl))⟩) ?_
  refine bnd_of best_1 (bnd_of (chkP_eq (decide_eq_true rfl)) (bnd_of win_1000 ?_))
  refine bnd_of (chkP_eq ⟨fun _ _ => ⟨trivial, trivial⟩, fun _ _ => ⟨trivial, trivial⟩⟩) ?_
  exact bnd_of (chkP_eq (eqD_iff.mpr rfl)) rfl
theorem law_right (ns : List Int) (h : ns.length ≤ 63) : M_law ns = some true := by
  refine sat_get ?_
  unfold M_law
  refine sat_chk (size_le (m := 64) (by show _ + 1 ≤ 64; omega) (by decide)) ?_
  have rt : ∀ y : Int, 0 < y → y < 2 ^ 4000 → M__law_right y = some true := fun y y0 y1 => by
    obtain ⟨n, rfl⟩ := Int.eq_ofNat_of_zero_le (show 0 ≤ y by omega)
    exact lright_ok (by omega) (bl_le.mpr (by have := p2 4000; omega))
  have big : ∀ {k : Nat}, k ≤ 4000 → (2 : Int) ^ k ≤ 2 ^ 4000 := fun {k} hk => by
    rw [p2, p2]; exact Int.ofNat_le.mpr (Nat.pow_le_pow_right (by decide) hk)
  refine sat_forA (fun _ => True) (fun a ha st _ => ?_) trivial fun s _ => sat_nx ?_
  · refine sat_bind (src_s a.2) fun s0 g0 => ?_
    refine sat_bind (draw_s g0 (by decide) (by decide)) fun r1 ⟨g1, a1, b1⟩ => ?_
    obtain ⟨d, hd⟩ := Int.eq_ofNat_of_zero_le a1
    obtain ⟨z, hz⟩ : ∃ z : Nat, z = 1 + d := ⟨_, rfl⟩
    rw [hd, show (1 : Int) + (d : Int) = ((z : Nat) : Int) by omega]
    have z4 : z ≤ 4000 := by omega
    refine sat_let ?_
    refine sat_bind (exp_s g1 (by decide) (by decide)) fun r2 ⟨g2, a2, b2⟩ => ?_
    refine sat_bind (exp_s g2 (by decide) (by decide)) fun r3 ⟨g3, a3, b3⟩ => ?_
    refine sat_bind (draw_s g3 (by decide) (by decide)) fun r4 ⟨g4, a4, b4⟩ => ?_
    refine sat_let ?_
    have e38 : (2 : Int) ^ (40 * 95 + 1) ≤ 2 ^ 4000 := big (by decide)
    have e8 : (201 : Int) ≤ 2 ^ 4000 := Int.le_trans (by decide) (big (k := 8) (by decide))
    have sh : CShl (1 : Int) ((z : Nat) : Int) := shl_ok (k := 1) (by decide) (by omega) (by omega)
    have zp : (2 : Int) ^ z ≤ 2 ^ 4000 := big z4
    have z2 : (2 : Int) ^ 1 ≤ 2 ^ z := by rw [p2, p2]; exact Int.ofNat_le.mpr (Nat.pow_le_pow_right (by decide) (by omega))
    have ez : (1 : Int) * 2 ^ (((z : Nat) : Int)).toNat = 2 ^ z := by rw [Int.one_mul, Int.toNat_natCast]
    refine sat_bind (P := fun r => Src r.2 ∧ ∀ y ∈ r.1, 0 < y ∧ y < 2 ^ 4000) ?_ fun r5 ⟨g5, m5⟩ => ?_
    · refine sat_ite (fun _ => ?_) fun _ => ?_
      · refine sat_bind (exp_s g4 (by decide) (by decide)) fun r6 ⟨g6, a6, b6⟩ => ?_
        refine sat_chk sh ?_
        refine sat_chk (show 3 + 2 ≤ sizeLine by decide) ?_
        rw [ez]
        refine sat_let (sat_some ⟨g6, fun y hy => ?_⟩)
        have hy : y = r2.1 ∨ y = r3.1 ∨ y = 1 + r4.1 ∨ y = r6.1 ∨ y = 2 ^ z - 1 := by simpa using hy
        omega
      · refine sat_some ⟨g4, fun y hy => ?_⟩
        have hy : y = r2.1 ∨ y = r3.1 ∨ y = 1 + r4.1 := by simpa using hy
        omega
    refine sat_forA (fun _ => True) (fun y hy st _ => ?_) trivial fun s _ => sat_nx ?_
    · obtain ⟨y0, y1⟩ := m5 y hy
      exact sat_eq (rt y y0 y1) (sat_chk rfl (sat_end trivial))
    refine sat_chk sh ?_
    have o1 := ones_1 z
    have hon : 0 < 2 ^ z - 1 := by have := Nat.pow_le_pow_right (n := 2) (by decide) (show 1 ≤ z by omega); omega
    have eon : (1 : Int) * 2 ^ (((z : Nat) : Int)).toNat - 1 = ((2 ^ z - 1 : Nat) : Int) := by rw [ez, p2]; have := Nat.two_pow_pos z; omega
    rw [eon]
    refine sat_eq (win_is (w := 1) hon (by rw [bl_ones]; exact z4) (by decide) (by decide) o1) ?_
    have en : ((((z : Nat) : Int) - 1) - (-(1 : Int))).toNat = z := by omega
    rw [en]
    refine sat_chk (by omega) ?_
    refine sat_chk (by unfold rngD; rw [List.length_map, List.length_range]; exact size_le (m := 4000) z4 (by decide)) ?_
    refine sat_eq (lcM_mapU (f := fun x => (x, (1 : Int))) fun x _ => rfl) ?_
    refine sat_chk ⟨rfl, fun _ _ => ⟨trivial, trivial⟩⟩ ?_
    rw [show ((z : Nat) : Int) - 1 = ((z - 1 : Nat) : Int) by omega]
    refine sat_chk (shl_ok (k := 1) (by decide) (by omega) (by omega)) ?_
    refine sat_bind (draw_s g5 (by decide) (by decide)) fun r7 ⟨g7, a7, b7⟩ => ?_
    obtain ⟨v, hv⟩ := Int.eq_ofNat_of_zero_le a7
    rw [hv, show (1 : Int) + (v : Int) = ((1 + v : Nat) : Int) by omega, Int.one_mul, Int.toNat_natCast, p2]
    refine sat_eq (win_is (y := 2 ^ (z - 1)) (w := 1 + v) (Nat.two_pow_pos _) (by rw [bl_pow]; omega) (by omega) (by omega) (one_R (by omega))) ?_
    exact sat_chk ⟨rfl, fun _ _ => ⟨trivial, trivial⟩⟩ (sat_end trivial)
  · refine sat_eq refused_ok (sat_chk rfl ?_)
    refine sat_chk (shl_ok (k := 1) (by decide) (by decide) (by decide)) ?_
    have e6 : (1 : Int) * 2 ^ ((600 : Int)).toNat = 2 ^ 600 := by rw [Int.one_mul]; rfl
    have e2 : (1 : Int) * 2 ^ ((2000 : Int)).toNat - 1 = ((2 ^ 2000 - 1 : Nat) : Int) := by
      rw [Int.one_mul, show ((2000 : Int)).toNat = 2000 from rfl, p2]; have := Nat.two_pow_pos 2000; omega
    have p6 : (2 : Int) ^ 1 ≤ 2 ^ 600 := by rw [p2, p2]; exact Int.ofNat_le.mpr (Nat.pow_le_pow_right (by decide) (by decide))
    have q6 : (2 : Int) ^ 600 ≤ 2 ^ 4000 := big (by decide)
    rw [e6]
    refine sat_eq (rt _ (by omega) (by omega)) (sat_chk rfl ?_)
    refine sat_chk (shl_ok (k := 1) (by decide) (by decide) (by decide)) ?_
    rw [e2]
    exact sat_eq best_2000 (sat_chk (decide_eq_true rfl) (sat_some rfl))
end P

set_option Elab.async false
set_option linter.all false
set_option maxRecDepth 100000
set_option maxHeartbeats 0
namespace P
open PySem L2 VL

theorem Fun.ofD {K : PySem.W.Frag} {x qual : Str} {st : Stmt} {f : Addr} {fd : FuncData} (F : FunD K x qual (defArgs st) (defBody st) (defScope st) [] [] f fd) : Fun K x qual st f fd := by
  obtain ⟨oc, od, dV, kV, doc, pm, an, cdv, ct, osl, rfl, lk, hcd, hD, hK⟩ := F.ex
  rcases hD with ⟨_, rfl⟩ | ⟨e, _⟩
  · exact ⟨⟨oc, od, kV, doc, pm, an, cdv, ct, osl, rfl, lk, hcd⟩, F.kp⟩
  · exact absurd rfl e
theorem codeIs_of {K : PySem.W.Frag} {p : He.Defn} : CodeIs K (He.fAd K p) (He.codeOf K p) := fun oc od x qual ar body sc dV kV doc pm an cdv ct osl lk hc => by
  obtain ⟨c, rfl⟩ := He.codeIn_ref hc
  rw [He.codeOf_eq lk rfl]
theorem hu_of {l : List (Addr × Str)} (nd : (l.map (·.1)).Nodup) {A : Addr} {q : Str} (hm : (A, q) ∈ l) : ∀ p ∈ l, p.1 = A → p.2 = q := by
  induction l with
  | nil => cases hm
  | cons a r ih =>
    obtain ⟨h1, h2⟩ := List.nodup_cons.mp (show (a.1 :: r.map (·.1)).Nodup from nd)
    intro p hp e
    rcases List.mem_cons.mp hm with m | m
    · rcases List.mem_cons.mp hp with z | z
      · rw [z, ← m]
      · exact absurd (List.mem_map.mpr ⟨p, z, by rw [e, ← m]⟩) h1
    · rcases List.mem_cons.mp hp with z | z
      · exact absurd (List.mem_map.mpr ⟨_, m, by rw [← e, z]⟩) h1
      · exact ih h2 m p z e
theorem gInt {K : PySem.W.Frag} {h : Heap} {mg : Str → Option Value} {x : Str} {i : Int} (X : K.In h) (G : h.Ns mainGlobals mg) (c : (He.Fa.int x i).ok K = true) : ∃ u, mg x = some u ∧ RelV (.int i) u := by
  obtain ⟨t, e⟩ := He.int_ok X G c
  exact ⟨_, e, t, rfl⟩
theorem facts {P : Program} {w : World} {K : PySem.W.Frag} {h : Heap} {mg : Str → Option Value} {f : Addr} (X : K.In h) (G : h.Ns mainGlobals mg) (hfa : mg ("law" : Str) = some (.ref f)) (c : He.SaysX fa fn [] tfs exB w h K) :
    ∃ (T : TC) (fd : FuncData), T.K = K ∧ (∀ H : Hp, (∀ p ∈ tfs.map (He.cT K), H p.2 = some (.tbl #[])) → ∀ p ∈ tbs T, H p.1 = some (.tbl #[])) ∧ (∀ (s : Shared) (v : Value), BindsTo s fd ⟨[v], []⟩ [("_law_script", v)]) ∧ ∀ base : Heap, K.In base → base.Ns mainGlobals mg → (∀ p ∈ tfs.map (He.cT K), LamX.TabB base mg p.1 p.2) → FnOk P w K mg base CX0 11 f fd ["_law_script"] (mkSp (Pre_law T)) := by
  have cd : He.SaysD fa fn K := c.t.d
  obtain ⟨cmoreX, exR⟩ := He.ba c.more
  unfold rxB at exR
  obtain ⟨exQ, exR⟩ := He.ba exR
  have mx_InvalidBound_InvalidBound := of_decide_eq_true exQ
  obtain ⟨exQ, exR⟩ := He.ba exR
  have xf_InvalidBound := xfB_ok exQ
  obtain ⟨exQ, exR⟩ := He.ba exR
  have no_InvalidBound := of_decide_eq_true exQ
  have exI_InvalidBound := exR
  obtain ⟨cmore, exT⟩ := He.ba cmoreX
  let T : TC := ⟨K, fun i => match i with | 0 => He.ga K "Machine" | 1 => He.ga K "Big" | 300 => He.ga K "InvalidBound" | 301 => He.ga K "BitsError" | 100 => (He.cT K ("_law_refused_right", none)).2 | 150 => (He.cT K ("_law_refused_right", none)).1 | _ => He.ga K "Big"⟩
  refine ⟨T, ?_⟩
  obtain ⟨fd_law, G_law⟩ := cd.def_ 19 (d := d_law) rfl
  cases hfa.symm.trans (He.glo_ok X G (cd.fact 34 (f := .glo "law") rfl))
  have ndT : ((tbs T).map (·.1)).Nodup := of_decide_eq_true exT
  refine ⟨fd_law, rfl, (fun H hT p hp => by
    have hp : p ∈ [((He.cT K ("_law_refused_right", none)).2, qual__law_refused_right)] := hp
    simp only [List.mem_cons, List.not_mem_nil, or_false] at hp
    rw [hp]
    exact hT (He.cT K ("_law_refused_right", none)) (List.mem_map.mpr ⟨_, by simp [tfs], rfl⟩)), fun s v => (FunD.bindsA (ps := ["_law_script"]) G_law fun _ _ _ _ _ _ us hl => match us, hl with | [_], _ => rfl) s [v] rfl, fun base _ _ hTB => ?_⟩
  obtain ⟨fd_shown, F_shown⟩ := cd.def_ 0 (d := d_shown) rfl
  have F_shown := Fun.ofD (st := s_shown) F_shown
  have c_shown : Cal P w K mg base 2 "shown" ["field"] (mkSp (Pre_shown T)) := ⟨⟨_, _, ok_shown (T := T) F_shown (He.free_ok X G (cd.fact 0 (f := .free "isinstance") rfl)) (He.free_ok X G (cd.fact 1 (f := .free "str") rfl)), He.glo_ok X G (cd.fact 2 (f := .glo "shown") rfl), F_shown.kp, (F_shown.binds (ps := ["field"]) fun _ _ _ _ _ _ us hl => match us, hl with | [_], _ => rfl)⟩⟩
  obtain ⟨fd_ix_InvalidBound, F_ix_InvalidBound⟩ := cd.def_ 20 (d := d_ix_InvalidBound) rfl
  have F_ix_InvalidBound := Fun.ofD (st := s_ix_InvalidBound) F_ix_InvalidBound
  have t_ix_InvalidBound := ixB_ok exI_InvalidBound
  have e_InvalidBound : MkC P w K mg base 3 "InvalidBound" (T.C 300) "argument" := ⟨_, _, _, t_ix_InvalidBound, ok_ix_InvalidBound (T := T) F_ix_InvalidBound t_ix_InvalidBound (He.glo_ok X G (cd.fact 3 (f := .glo "BitsError") rfl)) c_shown, (F_ix_InvalidBound.binds (ps := ["self", "argument"]) fun _ _ _ _ _ _ us hl => match us, hl with | [_, _], _ => rfl), He.glo_ok X G (cd.fact 4 (f := .glo "InvalidBound") rfl)⟩
  obtain ⟨fd_is_integer, F_is_integer⟩ := cd.def_ 1 (d := d_is_integer) rfl
  have F_is_integer := Fun.ofD (st := s_is_integer) F_is_integer
  have c_is_integer : Cal P w K mg base 1 "is_integer" ["value"] (mkSp (Pre_is_integer T)) := ⟨⟨_, _, ok_is_integer (T := T) F_is_integer (He.free_ok X G (cd.fact 0 (f := .free "isinstance") rfl)) (He.free_ok X G (cd.fact 5 (f := .free "int") rfl)) (He.free_ok X G (cd.fact 6 (f := .free "bool") rfl)), He.glo_ok X G (cd.fact 7 (f := .glo "is_integer") rfl), F_is_integer.kp, (F_is_integer.binds (ps := ["value"]) fun _ _ _ _ _ _ us hl => match us, hl with | [_], _ => rfl)⟩⟩
  obtain ⟨fd_is_between, F_is_between⟩ := cd.def_ 2 (d := d_is_between) rfl
  have F_is_between := Fun.ofD (st := s_is_between) F_is_between
  have c_is_between : Cal P w K mg base 2 "is_between" ["value", "low", "high"] (mkSp (Pre_is_between T)) := ⟨⟨_, _, ok_is_between (T := T) F_is_between c_is_integer, He.glo_ok X G (cd.fact 8 (f := .glo "is_between") rfl), F_is_between.kp, (F_is_between.binds (ps := ["value", "low", "high"]) fun _ _ _ _ _ _ us hl => match us, hl with | [_, _, _], _ => rfl)⟩⟩
  obtain ⟨fd_check_row_number, F_check_row_number⟩ := cd.def_ 3 (d := d_check_row_number) rfl
  have F_check_row_number := Fun.ofD (st := s_check_row_number) F_check_row_number
  have c_check_row_number : Cal P w K mg base 5 "check_row_number" ["y"] (mkSp (Pre_check_row_number T)) := ⟨⟨_, _, ok_check_row_number (T := T) F_check_row_number c_is_integer (gInt X G (cd.fact 9 (f := .int "LONGEST_EXPONENT" 4000) rfl)), He.glo_ok X G (cd.fact 10 (f := .glo "check_row_number") rfl), F_check_row_number.kp, (F_check_row_number.binds (ps := ["y"]) fun _ _ _ _ _ _ us hl => match us, hl with | [_], _ => rfl)⟩⟩
  obtain ⟨fd_rows_of, F_rows_of⟩ := cd.def_ 4 (d := d_rows_of) rfl
  have F_rows_of := Fun.ofD (st := s_rows_of) F_rows_of
  have c_rows_of : Cal P w K mg base 2 "rows_of" ["y", "width"] (mkSp (Pre_rows_of T)) := ⟨⟨_, _, ok_rows_of (T := T) F_rows_of (He.free_ok X G (cd.fact 11 (f := .free "max") rfl)), He.glo_ok X G (cd.fact 12 (f := .glo "rows_of") rfl), F_rows_of.kp, (F_rows_of.binds (ps := ["y", "width"]) fun _ _ _ _ _ _ us hl => match us, hl with | [_, _], _ => rfl)⟩⟩
  obtain ⟨fd_window_rows, F_window_rows⟩ := cd.def_ 5 (d := d_window_rows) rfl
  have F_window_rows := Fun.ofD (st := s_window_rows) F_window_rows
  have c_window_rows : Cal P w K mg base 6 "window_rows" ["y", "width"] (mkSp (Pre_window_rows T)) := ⟨⟨_, _, ok_window_rows (T := T) F_window_rows c_check_row_number (gInt X G (cd.fact 13 (f := .int "WIDEST" 12) rfl)) c_is_between c_rows_of, He.glo_ok X G (cd.fact 14 (f := .glo "window_rows") rfl), F_window_rows.kp, (F_window_rows.binds (ps := ["y", "width"]) fun _ _ _ _ _ _ us hl => match us, hl with | [_, _], _ => rfl)⟩⟩
  have ck_window_rows_0_width_y : CalK P w K mg base 6 "window_rows" ["y", "width"] 0 ["width", "y"] [1, 0] (mkSp (Pre_window_rows T)) := ⟨⟨_, _, ok_window_rows (T := T) F_window_rows c_check_row_number (gInt X G (cd.fact 13 (f := .int "WIDEST" 12) rfl)) c_is_between c_rows_of, He.glo_ok X G (cd.fact 14 (f := .glo "window_rows") rfl), F_window_rows.kp, kbn_of F_window_rows fun _ _ _ _ _ _ us ws hl hk => match us, ws, hl, hk with | [], [_, _], _, _ => rfl⟩⟩
  obtain ⟨fd_cost_of, F_cost_of⟩ := cd.def_ 6 (d := d_cost_of) rfl
  have F_cost_of := Fun.ofD (st := s_cost_of) F_cost_of
  have c_cost_of : Cal P w K mg base 3 "cost_of" ["y", "width"] (mkSp (Pre_cost_of T)) := ⟨⟨_, _, ok_cost_of (T := T) F_cost_of c_rows_of (He.free_ok X G (cd.fact 15 (f := .free "len") rfl)), He.glo_ok X G (cd.fact 16 (f := .glo "cost_of") rfl), F_cost_of.kp, (F_cost_of.binds (ps := ["y", "width"]) fun _ _ _ _ _ _ us hl => match us, hl with | [_, _], _ => rfl)⟩⟩
  obtain ⟨fd_best_width, F_best_width⟩ := cd.def_ 7 (d := d_best_width) rfl
  have F_best_width := Fun.ofD (st := s_best_width) F_best_width
  have c_best_width : Cal P w K mg base 6 "best_width" ["y"] (mkSp (Pre_best_width T)) := ⟨⟨_, _, ok_best_width (T := T) F_best_width c_check_row_number (gInt X G (cd.fact 13 (f := .int "WIDEST" 12) rfl)) (He.free_ok X G (cd.fact 17 (f := .free "range") rfl)) c_cost_of (He.free_ok X G (cd.fact 18 (f := .free "min") rfl)), He.glo_ok X G (cd.fact 19 (f := .glo "best_width") rfl), F_best_width.kp, (F_best_width.binds (ps := ["y"]) fun _ _ _ _ _ _ us hl => match us, hl with | [_], _ => rfl)⟩⟩
  have ck_best_width_0_y : CalK P w K mg base 6 "best_width" ["y"] 0 ["y"] [0] (mkSp (Pre_best_width T)) := ⟨⟨_, _, ok_best_width (T := T) F_best_width c_check_row_number (gInt X G (cd.fact 13 (f := .int "WIDEST" 12) rfl)) (He.free_ok X G (cd.fact 17 (f := .free "range") rfl)) c_cost_of (He.free_ok X G (cd.fact 18 (f := .free "min") rfl)), He.glo_ok X G (cd.fact 19 (f := .glo "best_width") rfl), F_best_width.kp, kbn_of F_best_width fun _ _ _ _ _ _ us ws hl hk => match us, ws, hl, hk with | [], [_], _, _ => rfl⟩⟩
  obtain ⟨fd__law_mixed, F__law_mixed⟩ := cd.def_ 8 (d := d__law_mixed) rfl
  have F__law_mixed := Fun.ofD (st := s__law_mixed) F__law_mixed
  have c__law_mixed : Cal P w K mg base 1 "_law_mixed" ["_law_cell", "_law_turn"] (mkSp (Pre__law_mixed T)) := ⟨⟨_, _, ok__law_mixed (T := T) F__law_mixed (He.free_ok X G (cd.fact 5 (f := .free "int") rfl)), He.glo_ok X G (cd.fact 20 (f := .glo "_law_mixed") rfl), F__law_mixed.kp, (F__law_mixed.binds (ps := ["_law_cell", "_law_turn"]) fun _ _ _ _ _ _ us hl => match us, hl with | [_, _], _ => rfl)⟩⟩
  obtain ⟨fd__law_source, F__law_source⟩ := cd.def_ 9 (d := d__law_source) rfl
  have F__law_source := Fun.ofD (st := s__law_source) F__law_source
  have c__law_source : Cal P w K mg base 1 "_law_source" ["_law_cell"] (mkSp (Pre__law_source T)) := ⟨⟨_, _, ok__law_source (T := T) F__law_source (He.free_ok X G (cd.fact 5 (f := .free "int") rfl)), He.glo_ok X G (cd.fact 21 (f := .glo "_law_source") rfl), F__law_source.kp, (F__law_source.binds (ps := ["_law_cell"]) fun _ _ _ _ _ _ us hl => match us, hl with | [_], _ => rfl)⟩⟩
  obtain ⟨fd__law_draw, F__law_draw⟩ := cd.def_ 10 (d := d__law_draw) rfl
  have F__law_draw := Fun.ofD (st := s__law_draw) F__law_draw
  have c__law_draw : Cal P w K mg base 2 "_law_draw" ["_law_source_here", "_law_bound"] (mkSp (Pre__law_draw T)) := ⟨⟨_, _, ok__law_draw (T := T) F__law_draw (He.free_ok X G (cd.fact 5 (f := .free "int") rfl)) c__law_mixed, He.glo_ok X G (cd.fact 22 (f := .glo "_law_draw") rfl), F__law_draw.kp, (F__law_draw.binds (ps := ["_law_source_here", "_law_bound"]) fun _ _ _ _ _ _ us hl => match us, hl with | [_, _], _ => rfl)⟩⟩
  obtain ⟨fd__law_one, F__law_one⟩ := cd.def_ 11 (d := d__law_one) rfl
  have F__law_one := Fun.ofD (st := s__law_one) F__law_one
  have c__law_one : Cal P w K mg base 3 "_law_one" ["_law_source_here", "_law_some"] (mkSp (Pre__law_one T)) := ⟨⟨_, _, ok__law_one (T := T) F__law_one (He.free_ok X G (cd.fact 15 (f := .free "len") rfl)) c__law_draw, He.glo_ok X G (cd.fact 23 (f := .glo "_law_one") rfl), F__law_one.kp, (F__law_one.binds (ps := ["_law_source_here", "_law_some"]) fun _ _ _ _ _ _ us hl => match us, hl with | [_, _], _ => rfl)⟩⟩
  obtain ⟨fd__law_exponent, F__law_exponent⟩ := cd.def_ 12 (d := d__law_exponent) rfl
  have F__law_exponent := Fun.ofD (st := s__law_exponent) F__law_exponent
  have c__law_exponent : Cal P w K mg base 4 "_law_exponent" ["_law_source_here", "_law_most"] (mkSp (Pre__law_exponent T)) := ⟨⟨_, _, ok__law_exponent (T := T) F__law_exponent c__law_draw (He.free_ok X G (cd.fact 17 (f := .free "range") rfl)) (He.free_ok X G (cd.fact 11 (f := .free "max") rfl)) c__law_one, He.glo_ok X G (cd.fact 24 (f := .glo "_law_exponent") rfl), F__law_exponent.kp, (F__law_exponent.binds (ps := ["_law_source_here", "_law_most"]) fun _ _ _ _ _ _ us hl => match us, hl with | [_, _], _ => rfl)⟩⟩
  obtain ⟨fd__law_due, F__law_due⟩ := cd.def_ 13 (d := d__law_due) rfl
  have F__law_due := Fun.ofD (st := s__law_due) F__law_due
  have c__law_due : Cal P w K mg base 2 "_law_due" ["_law_yy", "_law_span"] (mkSp (Pre__law_due T)) := ⟨⟨_, _, ok__law_due (T := T) F__law_due (He.free_ok X G (cd.fact 17 (f := .free "range") rfl)) (He.free_ok X G (cd.fact 11 (f := .free "max") rfl)), He.glo_ok X G (cd.fact 25 (f := .glo "_law_due") rfl), F__law_due.kp, (F__law_due.binds (ps := ["_law_yy", "_law_span"]) fun _ _ _ _ _ _ us hl => match us, hl with | [_, _], _ => rfl)⟩⟩
  obtain ⟨fd__law_cost, F__law_cost⟩ := cd.def_ 14 (d := d__law_cost) rfl
  have F__law_cost := Fun.ofD (st := s__law_cost) F__law_cost
  have c__law_cost : Cal P w K mg base 3 "_law_cost" ["_law_yy", "_law_span"] (mkSp (Pre__law_cost T)) := ⟨⟨_, _, ok__law_cost (T := T) F__law_cost c__law_due (He.free_ok X G (cd.fact 5 (f := .free "int") rfl)) (He.free_ok X G (cd.fact 15 (f := .free "len") rfl)), He.glo_ok X G (cd.fact 26 (f := .glo "_law_cost") rfl), F__law_cost.kp, (F__law_cost.binds (ps := ["_law_yy", "_law_span"]) fun _ _ _ _ _ _ us hl => match us, hl with | [_, _], _ => rfl)⟩⟩
  obtain ⟨fd__law_right, F__law_right⟩ := cd.def_ 15 (d := d__law_right) rfl
  have F__law_right := Fun.ofD (st := s__law_right) F__law_right
  have c__law_right : Cal P w K mg base 7 "_law_right" ["_law_yy"] (mkSp (Pre__law_right T)) := ⟨⟨_, _, ok__law_right (T := T) F__law_right (He.free_ok X G (cd.fact 17 (f := .free "range") rfl)) c_window_rows c__law_due (He.free_ok X G (cd.fact 0 (f := .free "isinstance") rfl)) (He.free_ok X G (cd.fact 27 (f := .free "list") rfl)) (He.free_ok X G (cd.fact 28 (f := .free "sum") rfl)) c__law_cost ck_window_rows_0_width_y c_best_width (He.free_ok X G (cd.fact 18 (f := .free "min") rfl)) ck_best_width_0_y, He.glo_ok X G (cd.fact 29 (f := .glo "_law_right") rfl), F__law_right.kp, (F__law_right.binds (ps := ["_law_yy"]) fun _ _ _ _ _ _ us hl => match us, hl with | [_], _ => rfl)⟩⟩
  obtain ⟨fd__law_said, F__law_said⟩ := cd.def_ 16 (d := d__law_said) rfl
  have F__law_said := Fun.ofD (st := s__law_said) F__law_said
  have c__law_said : CalLX P w K mg base 7 9 "_law_said" ["_law_ask"] (Pre__law_said T) := ok__law_said (T := T) F__law_said (He.glo_ok X G (cd.fact 4 (f := .glo "InvalidBound") rfl)) (He.glo_ok X G (cd.fact 3 (f := .glo "BitsError") rfl)) mx_InvalidBound_InvalidBound xf_InvalidBound no_InvalidBound (He.glo_ok X G (cd.fact 30 (f := .glo "_law_said") rfl)) (F__law_said.binds (ps := ["_law_ask"]) fun _ _ _ _ _ _ us hl => match us, hl with | [_], _ => rfl)
  obtain ⟨fd__law_deep, F__law_deep⟩ := cd.def_ 17 (d := d__law_deep) rfl
  have F__law_deep := Fun.ofD (st := s__law_deep) F__law_deep
  have c__law_deep : Cal P w K mg base 1 "_law_deep" ["_law_is_list"] (mkSp (Pre__law_deep T)) := ⟨⟨_, _, ok__law_deep (T := T) F__law_deep (He.free_ok X G (cd.fact 17 (f := .free "range") rfl)), He.glo_ok X G (cd.fact 31 (f := .glo "_law_deep") rfl), F__law_deep.kp, (F__law_deep.binds (ps := ["_law_is_list"]) fun _ _ _ _ _ _ us hl => match us, hl with | [_], _ => rfl)⟩⟩
  have c_is_integer__or3 : Cal P w K mg base 1 "is_integer" ["value"] (mkSp (Pre_is_integer__or3 T)) := ⟨⟨_, _, ok_is_integer__or3 (T := T) F_is_integer (He.free_ok X G (cd.fact 0 (f := .free "isinstance") rfl)) (He.free_ok X G (cd.fact 5 (f := .free "int") rfl)), He.glo_ok X G (cd.fact 7 (f := .glo "is_integer") rfl), F_is_integer.kp, (F_is_integer.binds (ps := ["value"]) fun _ _ _ _ _ _ us hl => match us, hl with | [_], _ => rfl)⟩⟩
  have cx_check_row_number__or2 : CalX P w K mg base 5 "check_row_number" ["y"] (mkSpX (PreX_check_row_number__or2 T)) := ⟨⟨_, _, okx_check_row_number__or2 (T := T) F_check_row_number c_is_integer__or3 e_InvalidBound, He.glo_ok X G (cd.fact 10 (f := .glo "check_row_number") rfl), F_check_row_number.kp, (F_check_row_number.binds (ps := ["y"]) fun _ _ _ _ _ _ us hl => match us, hl with | [_], _ => rfl)⟩⟩
  have cx_best_width__or1 : CalX P w K mg base 6 "best_width" ["y"] (mkSpX (PreX_best_width__or1 T)) := ⟨⟨_, _, okx_best_width__or1 (T := T) F_best_width cx_check_row_number__or2, He.glo_ok X G (cd.fact 19 (f := .glo "best_width") rfl), F_best_width.kp, (F_best_width.binds (ps := ["y"]) fun _ _ _ _ _ _ us hl => match us, hl with | [_], _ => rfl)⟩⟩
  have cx_window_rows__or4 : CalX P w K mg base 6 "window_rows" ["y", "width"] (mkSpX (PreX_window_rows__or4 T)) := ⟨⟨_, _, okx_window_rows__or4 (T := T) F_window_rows cx_check_row_number__or2, He.glo_ok X G (cd.fact 14 (f := .glo "window_rows") rfl), F_window_rows.kp, (F_window_rows.binds (ps := ["y", "width"]) fun _ _ _ _ _ _ us hl => match us, hl with | [_, _], _ => rfl)⟩⟩
  have cx_check_row_number : CalX P w K mg base 5 "check_row_number" ["y"] (sp2 (Pre_check_row_number T) (PreX_check_row_number T)) := ⟨⟨_, _, FnOk.or (ok_check_row_number (T := T) F_check_row_number c_is_integer (gInt X G (cd.fact 9 (f := .int "LONGEST_EXPONENT" 4000) rfl))) (okx_check_row_number (T := T) F_check_row_number c_is_integer (gInt X G (cd.fact 9 (f := .int "LONGEST_EXPONENT" 4000) rfl)) e_InvalidBound), He.glo_ok X G (cd.fact 10 (f := .glo "check_row_number") rfl), F_check_row_number.kp, (F_check_row_number.binds (ps := ["y"]) fun _ _ _ _ _ _ us hl => match us, hl with | [_], _ => rfl)⟩⟩
  have cx_best_width : CalX P w K mg base 6 "best_width" ["y"] (sp2 (Pre_best_width T) (PreX_best_width T)) := ⟨⟨_, _, FnOk.or (ok_best_width (T := T) F_best_width c_check_row_number (gInt X G (cd.fact 13 (f := .int "WIDEST" 12) rfl)) (He.free_ok X G (cd.fact 17 (f := .free "range") rfl)) c_cost_of (He.free_ok X G (cd.fact 18 (f := .free "min") rfl))) (okx_best_width (T := T) F_best_width cx_check_row_number), He.glo_ok X G (cd.fact 19 (f := .glo "best_width") rfl), F_best_width.kp, (F_best_width.binds (ps := ["y"]) fun _ _ _ _ _ _ us hl => match us, hl with | [_], _ => rfl)⟩⟩
  have c_is_between__or6 : Cal P w K mg base 2 "is_between" ["value", "low", "high"] (mkSp (Pre_is_between__or6 T)) := ⟨⟨_, _, ok_is_between__or6 (T := T) F_is_between c_is_integer__or3, He.glo_ok X G (cd.fact 8 (f := .glo "is_between") rfl), F_is_between.kp, (F_is_between.binds (ps := ["value", "low", "high"]) fun _ _ _ _ _ _ us hl => match us, hl with | [_, _, _], _ => rfl)⟩⟩
  have cx_window_rows__or5 : CalX P w K mg base 6 "window_rows" ["y", "width"] (mkSpX (PreX_window_rows__or5 T)) := ⟨⟨_, _, okx_window_rows__or5 (T := T) F_window_rows cx_check_row_number (gInt X G (cd.fact 13 (f := .int "WIDEST" 12) rfl)) c_is_between__or6 e_InvalidBound, He.glo_ok X G (cd.fact 14 (f := .glo "window_rows") rfl), F_window_rows.kp, (F_window_rows.binds (ps := ["y", "width"]) fun _ _ _ _ _ _ us hl => match us, hl with | [_, _], _ => rfl)⟩⟩
  have c_is_integer__or9 : Cal P w K mg base 1 "is_integer" ["value"] (mkSp (Pre_is_integer__or9 T)) := ⟨⟨_, _, ok_is_integer__or9 (T := T) F_is_integer (He.free_ok X G (cd.fact 0 (f := .free "isinstance") rfl)) (He.free_ok X G (cd.fact 5 (f := .free "int") rfl)) (He.free_ok X G (cd.fact 6 (f := .free "bool") rfl)), He.glo_ok X G (cd.fact 7 (f := .glo "is_integer") rfl), F_is_integer.kp, (F_is_integer.binds (ps := ["value"]) fun _ _ _ _ _ _ us hl => match us, hl with | [_], _ => rfl)⟩⟩
  have cx_check_row_number__or8 : CalX P w K mg base 5 "check_row_number" ["y"] (mkSpX (PreX_check_row_number__or8 T)) := ⟨⟨_, _, okx_check_row_number__or8 (T := T) F_check_row_number c_is_integer__or9 e_InvalidBound, He.glo_ok X G (cd.fact 10 (f := .glo "check_row_number") rfl), F_check_row_number.kp, (F_check_row_number.binds (ps := ["y"]) fun _ _ _ _ _ _ us hl => match us, hl with | [_], _ => rfl)⟩⟩
  have cx_best_width__or7 : CalX P w K mg base 6 "best_width" ["y"] (mkSpX (PreX_best_width__or7 T)) := ⟨⟨_, _, okx_best_width__or7 (T := T) F_best_width cx_check_row_number__or8, He.glo_ok X G (cd.fact 19 (f := .glo "best_width") rfl), F_best_width.kp, (F_best_width.binds (ps := ["y"]) fun _ _ _ _ _ _ us hl => match us, hl with | [_], _ => rfl)⟩⟩
  have cx_window_rows__or10 : CalX P w K mg base 6 "window_rows" ["y", "width"] (mkSpX (PreX_window_rows__or10 T)) := ⟨⟨_, _, okx_window_rows__or10 (T := T) F_window_rows cx_check_row_number__or8, He.glo_ok X G (cd.fact 14 (f := .glo "window_rows") rfl), F_window_rows.kp, (F_window_rows.binds (ps := ["y", "width"]) fun _ _ _ _ _ _ us hl => match us, hl with | [_, _], _ => rfl)⟩⟩
  have cx_window_rows : CalX P w K mg base 6 "window_rows" ["y", "width"] (sp2 (Pre_window_rows T) (PreX_window_rows T)) := ⟨⟨_, _, FnOk.or (ok_window_rows (T := T) F_window_rows c_check_row_number (gInt X G (cd.fact 13 (f := .int "WIDEST" 12) rfl)) c_is_between c_rows_of) (okx_window_rows (T := T) F_window_rows cx_check_row_number (gInt X G (cd.fact 13 (f := .int "WIDEST" 12) rfl)) c_is_between e_InvalidBound), He.glo_ok X G (cd.fact 14 (f := .glo "window_rows") rfl), F_window_rows.kp, (F_window_rows.binds (ps := ["y", "width"]) fun _ _ _ _ _ _ us hl => match us, hl with | [_, _], _ => rfl)⟩⟩
  have c_is_between__or12 : Cal P w K mg base 2 "is_between" ["value", "low", "high"] (mkSp (Pre_is_between__or12 T)) := ⟨⟨_, _, ok_is_between__or12 (T := T) F_is_between c_is_integer__or9, He.glo_ok X G (cd.fact 8 (f := .glo "is_between") rfl), F_is_between.kp, (F_is_between.binds (ps := ["value", "low", "high"]) fun _ _ _ _ _ _ us hl => match us, hl with | [_, _, _], _ => rfl)⟩⟩
  have cx_window_rows__or11 : CalX P w K mg base 6 "window_rows" ["y", "width"] (mkSpX (PreX_window_rows__or11 T)) := ⟨⟨_, _, okx_window_rows__or11 (T := T) F_window_rows cx_check_row_number (gInt X G (cd.fact 13 (f := .int "WIDEST" 12) rfl)) c_is_between__or12 e_InvalidBound, He.glo_ok X G (cd.fact 14 (f := .glo "window_rows") rfl), F_window_rows.kp, (F_window_rows.binds (ps := ["y", "width"]) fun _ _ _ _ _ _ us hl => match us, hl with | [_, _], _ => rfl)⟩⟩
  have cu__law_refused_right_best_width : CalX P w K mg base 6 "best_width" ["y"] (SpU__law_refused_right_best_width T) := ⟨⟨_, _, FnOk.or2 (okx_best_width__or1 (T := T) F_best_width cx_check_row_number__or2) (FnOk.or2 (okx_best_width (T := T) F_best_width cx_check_row_number) (okx_best_width__or7 (T := T) F_best_width cx_check_row_number__or8)), He.glo_ok X G (cd.fact 19 (f := .glo "best_width") rfl), F_best_width.kp, (F_best_width.binds (ps := ["y"]) fun _ _ _ _ _ _ us hl => match us, hl with | [_], _ => rfl)⟩⟩
  have cu__law_refused_right_window_rows : CalX P w K mg base 6 "window_rows" ["y", "width"] (SpU__law_refused_right_window_rows T) := ⟨⟨_, _, FnOk.or2 (okx_window_rows__or4 (T := T) F_window_rows cx_check_row_number__or2) (FnOk.or2 (okx_window_rows__or5 (T := T) F_window_rows cx_check_row_number (gInt X G (cd.fact 13 (f := .int "WIDEST" 12) rfl)) c_is_between__or6 e_InvalidBound) (FnOk.or2 (okx_window_rows__or10 (T := T) F_window_rows cx_check_row_number__or8) (FnOk.or2 (okx_window_rows (T := T) F_window_rows cx_check_row_number (gInt X G (cd.fact 13 (f := .int "WIDEST" 12) rfl)) c_is_between e_InvalidBound) (okx_window_rows__or11 (T := T) F_window_rows cx_check_row_number (gInt X G (cd.fact 13 (f := .int "WIDEST" 12) rfl)) c_is_between__or12 e_InvalidBound)))), He.glo_ok X G (cd.fact 14 (f := .glo "window_rows") rfl), F_window_rows.kp, (F_window_rows.binds (ps := ["y", "width"]) fun _ _ _ _ _ _ us hl => match us, hl with | [_, _], _ => rfl)⟩⟩
  obtain ⟨fd__law_refused_right, F__law_refused_right⟩ := cd.def_ 18 (d := d__law_refused_right) rfl
  have F__law_refused_right := Fun.ofD (st := s__law_refused_right) F__law_refused_right
  have c__law_refused_right : Cal P w K mg base 10 "_law_refused_right" [] (mkSp (Pre__law_refused_right T)) := ⟨⟨_, _, ok__law_refused_right (T := T) F__law_refused_right c__law_deep (hTB (He.cT K ("_law_refused_right", none)) (List.mem_map.mpr ⟨_, by simp [tfs], rfl⟩)) (hu_of ndT (mem__law_refused_right T)) (codeIs_of (K := K) (p := ("_law_refused_right", none))) cu__law_refused_right_best_width cu__law_refused_right_window_rows c__law_said c_best_width c_window_rows, He.glo_ok X G (cd.fact 32 (f := .glo "_law_refused_right") rfl), F__law_refused_right.kp, (F__law_refused_right.binds (ps := []) fun _ _ _ _ _ _ us hl => match us, hl with | [], _ => rfl)⟩⟩
  have F_law := Fun.ofD (st := s_law) G_law
  exact ok_law (T := T) F_law (He.free_ok X G (cd.fact 33 (f := .free "enumerate") rfl)) c__law_source c__law_draw c__law_exponent c__law_right c_window_rows (He.free_ok X G (cd.fact 17 (f := .free "range") rfl)) c__law_refused_right c_best_width
end P

open PySem PySem.W PySem.Calls PyProof.Rows in
theorem PySem.Challenge.cw_thirtybits_k51_rows_of_windows_holds : PySem.Challenge.rw_thirtybits_k51_rows_of_windows.Holds := by
  w_on; o_law
  refine HandSHeadRun.head_any (r := OpenLaw.row PySem.Challenge.rw_thirtybits_k51_rows_of_windows) (q := view (OpenLaw.row PySem.Challenge.rw_thirtybits_k51_rows_of_windows).prog [27]) (H := P.hk) (ob := P.ob) (M := 12000) (loose := P.loose) (d := HandSHeadRun.topDef (OpenLaw.row PySem.Challenge.rw_thirtybits_k51_rows_of_windows).prog 27) (kwd := []) P.ob_eq
    (by kernel_rfl) (fun s => by kernel_rfl) P.run (by kernel_rfl) (by kernel_rfl) (by kernel_rfl) (by rfl) (by first | assumption | decide +kernel) (by decide +kernel) ⟨rfl, rfl, rfl, rfl, rfl, by decide +kernel⟩ ?hw ?hc
  case hw => w_witness2
  case hc =>
    refine LamX.walk_ofTsE (l := PySem.Challenge.rw_thirtybits_k51_rows_of_windows) (n := 63) (k := 11) (x := "_law_script") (CX := fun _ => L2.CX0) rfl (by decide) (by kernel_rfl) ⟨rfl, by decide, by decide⟩ ?F (fun _ _ _ _ _ z => z)
    intro w mg fa h Y G hmg0
    obtain ⟨K, KX, c⟩ := Y
    have hmg : mg ("law" : PySem.Str) = some (.ref fa) := by
      have e : (HandSHeadRun.topDef (OpenLaw.row PySem.Challenge.rw_thirtybits_k51_rows_of_windows).prog 27).name = ("law" : PySem.Str) := by kernel_rfl
      rw [← e]
      exact hmg0
    obtain ⟨T, fd, eT, hTH, hb, hF⟩ := P.facts (P := (PySem.Challenge.rw_thirtybits_k51_rows_of_windows).prog) (w := w) KX G hmg c
    refine ⟨K, KX, fd, P.tfs.map (He.cT K), VL.mkSp (P.Pre_law T), fun p hp => ?_, fun p hp => ?_, fun p hp => ?_, hb, fun H a ns hl _ hT hS => ?_, fun base b1 b2 b3 => hF base b1 b2 b3⟩
    · obtain ⟨d, hd, rfl⟩ := List.mem_map.mp hp
      exact c.empty d hd
    · obtain ⟨d, hd, rfl⟩ := List.mem_map.mp hp
      exact c.out d hd
    · obtain ⟨d, hd, rfl⟩ := List.mem_map.mp hp
      exact PySem.W.codeHd_of_K KX (c.hd d hd)
    · obtain ⟨F, f1, f2⟩ := VL.tab_start (hTH H hT) hS
      exact ⟨F, [VL.tabA (P.tbs T)], _, _, ⟨0, ns, true, rfl, rfl, P.law_right ns hl, rfl⟩, .cons ⟨a, ns.map L2.V.int, rfl, by rw [eT]; exact f1, VL.al_of_int⟩ .nil, f2, fun F' v H' Ω' _ _ r => r.1⟩
