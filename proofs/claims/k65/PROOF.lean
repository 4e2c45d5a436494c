import PyProof.Rows.All
import Wide.All
import OpenK.AllK
import Wide.FinOn
import KE.KStateDown
import HandS.Head0
import HandS.Head1
import HandS.Head2
import HandS.HeadEnd
import HandS.HeadHook1
import HandS.HeadHook2
import HandS.HeadHook3
import HandS.HeadHook4
import HandS.ForMost
import HandS.Wide
import HandS.Evl
import HandS.Rev
import HandS.Style
import HandS.IsInst
import HandS.Defaults
import HandS.DictComp
import HandS.WideBits
import KE.GoesEnum
import HandS.TupAny
import HandS.OwnEq
import PyProof.InstNe
import HandS.TryOnly
import HandS.DeepEq
import PyProof.NeKinds
import HandS.TupLe
import HandS.CallLocal
import HandS.Lambda
import HandS.Small
import HandS.Iter
import HandS.More
import KE.KDflt
import HandS.MakeKw
import HandS.MakeKwOnly
import PyProof.Rows.ChunkEnd
import HandS.RevRange
import PyProof.Rows.CountFlat
import HandS.Flow
import HandS.Conv
import HandS.Sort
import HandS.ForExc
import HandS.RaiseMore
import PyProof.ExcBaseAll.ArithmeticError
import HandS.ExcInit
import HandS.ExcField
import HandS.FStr
import KE.KExcInit
import HandS.TryMany
import KE.KExcIs
import HandS.Flt
import PyProof.FString3
import PyProof.StrOps2
import HandS.StrMore
import HandS.Codes
import HandS.Dict
import HandS.Steps
import KE.OsArith
import HandS.Text
import KE.KBits
import KE.BitLaws
import PySem.Challenge.RW_thirtybits_k65_texts_read
set_option Elab.async false
set_option linter.all false
set_option maxRecDepth 100000
set_option maxHeartbeats 0
set_option Elab.async false
set_option linter.all false
set_option maxRecDepth 100000
set_option maxHeartbeats 0
namespace VL
open PySem
/-! what is looked at behind the start: the things at places that are told, not those found by walking -/
def obsL (as0 : List Addr) (fa : List He.Fa) (fn : List He.DefD) (tf : List He.Defn) (ex : PySem.W.Frag → Bool) (g : Addr → Option Obj) : He.AlX := ((He.obsD fa fn (He.frT g as0), []), ex (He.frT g as0) && He.tabsB g tf (He.frT g as0))
theorem tabL {g : Addr → Option Obj} {K : PySem.W.Frag} {p : He.Defn} (h : (PySem.W.codeHdIn K (He.cT K p).1 (He.cT K p).2 && (match g (He.cT K p).2 with
    | some o => He.emptyTab o
    | none => false)) = true) : PySem.W.codeHdIn K (He.cT K p).1 (He.cT K p).2 = true ∧ ∃ o, g (He.cT K p).2 = some o ∧ He.emptyTab o = true := by
  rw [Bool.and_eq_true] at h
  refine ⟨h.1, ?_⟩
  revert h
  generalize g (He.cT K p).2 = u
  cases u with
  | none => exact fun h => nomatch h.2
  | some o => exact fun h => ⟨o, rfl, h.2⟩
theorem saysL {as0 : List Addr} {fa : List He.Fa} {fn : List He.DefD} {tf : List He.Defn} {ex : PySem.W.Frag → Bool} {w : World} {h : Heap} (e : obsL as0 fa fn tf ex h.get? = He.valX fn [] w) : He.SaysX fa fn [] tf ex w h (He.frT h.get? as0) := by
  obtain ⟨e1, e2⟩ := Prod.mk.inj e
  rw [Bool.and_eq_true] at e2
  have ts := List.all_eq_true.mp e2.2
  refine { t := e1, more := e2.1, hd := fun p m => (tabL (ts p m)).1, out := fun p m => ?_, empty := fun p m => ?_ }
  · obtain ⟨_, o, q, z⟩ := tabL (ts p m)
    exact He.frT_none q z
  · obtain ⟨_, o, q, z⟩ := tabL (ts p m)
    rw [q, He.emptyTab_eq z]
def hookL (as0 : List Addr) (fa : List He.Fa) (fn : List He.DefD) (tf : List He.Defn) (ex : PySem.W.Frag → Bool) : PySem.W.Hook :=
  ⟨He.AlX, fun s => obsL as0 fa fn tf ex s.heap.get?, fun w => He.valX fn [] w, fun w h => ∃ K : PySem.W.Frag, K.In h ∧ He.SaysX fa fn [] tf ex w h K,
   fun _ _ e => ⟨_, He.frT_in, saysL e⟩, fun _ _ _ ⟨K, i, c⟩ k => ⟨K, i.keeps k, c.t, c.more, c.hd, c.out, fun p m => k _ _ (c.empty p m)⟩⟩
/-! the same, with dicts of texts -/
def obsLT (as0 : List Addr) (fa : List He.Fa) (fn : List He.DefD) (ts : List He.Tab) (tf : List He.Defn) (ex : PySem.W.Frag → Bool) (g : Addr → Option Obj) : He.AlX := (He.obsT fa fn ts (He.frT g as0), ex (He.frT g as0) && He.tabsB g tf (He.frT g as0))
theorem saysLT {as0 : List Addr} {fa : List He.Fa} {fn : List He.DefD} {ts : List He.Tab} {tf : List He.Defn} {ex : PySem.W.Frag → Bool} {w : World} {h : Heap} (e : obsLT as0 fa fn ts tf ex h.get? = He.valX fn ts w) : He.SaysX fa fn ts tf ex w h (He.frT h.get? as0) := by
  obtain ⟨e1, e2⟩ := Prod.mk.inj e
  rw [Bool.and_eq_true] at e2
  have ts := List.all_eq_true.mp e2.2
  refine { t := e1, more := e2.1, hd := fun p m => (tabL (ts p m)).1, out := fun p m => ?_, empty := fun p m => ?_ }
  · obtain ⟨_, o, q, z⟩ := tabL (ts p m)
    exact He.frT_none q z
  · obtain ⟨_, o, q, z⟩ := tabL (ts p m)
    rw [q, He.emptyTab_eq z]
def hookLT (as0 : List Addr) (fa : List He.Fa) (fn : List He.DefD) (ts : List He.Tab) (tf : List He.Defn) (ex : PySem.W.Frag → Bool) : PySem.W.Hook :=
  ⟨He.AlX, fun s => obsLT as0 fa fn ts tf ex s.heap.get?, fun w => He.valX fn ts w, fun w h => ∃ K : PySem.W.Frag, K.In h ∧ He.SaysX fa fn ts tf ex w h K,
   fun _ _ e => ⟨_, He.frT_in, saysLT e⟩, fun _ _ _ ⟨K, i, c⟩ k => ⟨K, i.keeps k, c.t, c.more, c.hd, c.out, fun p m => k _ _ (c.empty p m)⟩⟩
theorem obsLT_eq {as0 : List Addr} {fa : List He.Fa} {fn : List He.DefD} {ts : List He.Tab} {tf : List He.Defn} {ex : PySem.W.Frag → Bool} {g : Addr → Option Obj} {s : PySem.Shared} (h : ∀ a, g a = s.heap.get? a) : obsLT as0 fa fn ts tf ex g = (hookLT as0 fa fn ts tf ex).obs s := by
  show _ = obsLT as0 fa fn ts tf ex s.heap.get?
  rw [show g = s.heap.get? from funext h]
/-- from, how many -/
def addrs (a : Nat) : Nat → List Addr
  | 0 => []
  | n + 1 => a :: addrs (a + 1) n
end VL

namespace VL
open PySem L2 PyProof.Rows
def mwords : List Str := ["short", "sum", "product", "quotient", "corrected", "restored", "shifted", "combined", "complemented", "looked"]
def ownB (K : PySem.W.Frag) (C f : Addr) : Bool := match K.lookup C with
  | some ⟨.type t, _, .cls cd, sl⟩ => (match cd.mro, sl.toList with
    | [.ref C', .type b], [_, _, _, _, some (.builtin n), _] => decide (t = "type") && (decide (C' = C) && (decide (b = "object") && (!cd.hasDel && (PySem.W.nsOkIn K cd.ns && (He.eqO (PySem.W.nsIn K cd.ns "__ne__") (some none) && (He.eqO (PySem.W.nsIn K cd.ns "__eq__") (some (some (.ref f))) &&
        (match K.lookup f with
          | some ⟨.type u, _, _, _⟩ => decide (u = "function")
          | _ => false)))))))
    | _, _ => false)
  | _ => false
abbrev aeBase : List Value := [.type "ArithmeticError", .type "Exception", .type "BaseException", .type "object"]
def excB (K : PySem.W.Frag) (C : Addr) : Bool := PySem.W.excIn K C aeBase "ArithmeticError.__new__" && (PySem.W.keepIn K (.ref C) && (decide (PySem.W.subIn K (.ref C) (.type "BaseException") = some true) && (decide (PySem.W.typeIn K (.ref C) = some (.type "type")) && decide (PySem.W.exmOne K (.ref C) (.ref C) = some true))))
def tupA (K : PySem.W.Frag) (a : Addr) : Option (List Value) := match K.lookup a with
  | some ⟨.type c, _, .seq its _, _⟩ => if (decide (c = "tuple") && decide (its.size ≤ sizeLine)) = true then some its.toList else none
  | _ => none
def pairB (K : PySem.W.Frag) (v : Value) (x : Int × List Int) : Bool := match v with
  | .ref a => match tupA K a with
    | some [u, .ref b] => He.relB (.int x.1) u && (match tupA K b with
      | some zs => He.relAll (x.2.map V.int) zs
      | none => false)
    | _ => false
  | _ => false
def pairsB (K : PySem.W.Frag) : List Value → List (Int × List Int) → Bool
  | [], [] => true
  | v :: vs, x :: xs => pairB K v x && pairsB K vs xs
  | _, _ => false
def fewB (K : PySem.W.Frag) (x : Str) (l : List (Int × List Int)) : Bool := match tupA K (He.ga K x) with
  | some vs => pairsB K vs l
  | none => false
def isVal (o : Option PySem.W.CFound) (v : Value) : Bool := match o with | some (.val a) => decide (a = v) | _ => false
def ixB (K : PySem.W.Frag) (C B0 fI : Addr) (f : Str) : Bool :=
  PySem.W.excInitIn K C aeBase "ArithmeticError.__new__" && (PySem.W.excOver K C aeBase && (PySem.W.hasDictIn K C && (decide (PySem.W.takerIn K C f = some none) && (decide (PySem.W.findIn K (.ref C) "__init__" = some (some (.ref fI))) &&
  (decide (PySem.W.typeIn K (.ref fI) = some (.type "function")) && (decide (PySem.W.findIn K (.ref C) "__setattr__" = some (some (.builtin "object.__setattr__"))) && (decide (PySem.W.subIn K (.ref C) (.type "BaseException") = some true) &&
  (decide (PySem.W.typeIn K (.ref C) = some (.type "type")) && (PySem.W.keepIn K (.ref C) && (xfB K C && (decide (PySem.W.findIn K (.ref C) f = some none) && (decide (PySem.W.specialIn K (.ref B0) "__getattribute__" = some (some (.builtin "type.__getattribute__"))) &&
  (PySem.W.readsIn K B0 (.type "type") && (isVal (PySem.W.findCls K (.ref B0) (.type "type") "__init__") (.builtin "ArithmeticError.__init__") && PySem.W.keepIn K (.ref B0)))))))))))))))
def isV (o : Option (Option Value)) (v : Value) : Bool := match o with | some (some a) => decide (a = v) | _ => false
def isN (o : Option (Option Value)) : Bool := match o with | some none => true | _ => false
def exIB (K : PySem.W.Frag) (D : Addr) : Bool :=
  (PySem.W.clsIn K D).isSome && (isV (PySem.W.findIn K (.ref D) "__getattribute__") (.builtin "BaseException.__getattribute__") && (isN (PySem.W.findIn K (.ref D) "__getattr__") && (decide (PySem.W.subIn K (.ref D) (.type "BaseException") = some true) &&
    (isV (PySem.W.findIn K (.ref D) "__class__") (.builtin "object.__class__") && (isV (PySem.W.specialIn K (.builtin "object.__class__") "__get__") (.builtin "getset_descriptor.__get__") && (decide (PySem.W.takesIn K (.builtin "object.__class__") = some true) && decide (PySem.W.mroIn K D (.type "object") = some true)))))))
def entB : List DictEntry → List (Int × Int) → Bool
  | [], [] => true
  | e :: r, p :: q => (match e.key with | .int a _ => decide (a = p.1) | _ => false) && ((match e.val with | .int a _ => decide (a = p.2) | _ => false) && (decide (e.hash = hashInt p.1) && entB r q))
  | _, _ => false
def idcB (K : PySem.W.Frag) (d : Addr) (kvs : List (Int × Int)) : Bool := (!(d == sysModules)) && match K.lookup d with
  | some ⟨.type c, none, .dict es _, sl⟩ => decide (c = "dict") && (sl.isEmpty && entB es.toList kvs)
  | _ => false
def intsB (K : PySem.W.Frag) (x : Str) (l : List Int) : Bool := match tupA K (He.ga K x) with
  | some vs => He.relAll (l.map V.int) vs
  | none => false
def sentB : List DictEntry → List (Str × Int) → Bool
  | [], [] => true
  | e :: r, p :: q => (match e.key with | .str a _ => decide (a = p.1) | _ => false) && ((match e.val with | .int a _ => decide (a = p.2) | _ => false) && sentB r q)
  | _, _ => false
def sdcB (K : PySem.W.Frag) (d : Addr) (kvs : List (Str × Int)) : Bool := match K.lookup d with
  | some ⟨.type c, none, .dict es _, sl⟩ => sentB es.toList kvs
  | _ => false
end VL
namespace P
open PySem L2 VL
def topS (i : Nat) : Stmt := PySem.Challenge.pw_thirtybits_k65_texts_read.main.body.getD i (.Pass ⟨0, 0, 0, 0⟩)
abbrev s_is_integer : Stmt := topS 9
abbrev s_is_between : Stmt := topS 10
abbrev s_Mach_step : Stmt := inClass (topS 14) 6
abbrev s_Mach_enter : Stmt := inClass (topS 14) 7
abbrev s_Mach_reset : Stmt := inClass (topS 14) 5
abbrev s_Mach_tally : Stmt := inClass (topS 14) 3
abbrev s_Mach_walk : Stmt := inClass (topS 14) 4
abbrev s_Mach_init : Stmt := inClass (topS 14) 0
abbrev s_Big_eq : Stmt := inClass (topS 24) 1
abbrev s_Big_digits : Stmt := inClass (topS 24) 3
abbrev s_Big_sign : Stmt := inClass (topS 24) 2
abbrev s_Big_bits : Stmt := inClass (topS 24) 4
abbrev s_order_of : Stmt := topS 27
abbrev s_Big_init : Stmt := inClass (topS 24) 0
abbrev s_check_machine : Stmt := topS 15
abbrev s_top_digit : Stmt := topS 18
abbrev s_size_of : Stmt := topS 19
abbrev s_number_of : Stmt := topS 20
abbrev s_low_part : Stmt := topS 22
abbrev s_row_of : Stmt := topS 21
abbrev s_check_big : Stmt := topS 25
abbrev s_big_of : Stmt := topS 26
abbrev s_big : Stmt := topS 28
abbrev s_plain : Stmt := topS 29
abbrev s_check_most : Stmt := topS 39
abbrev s_behind_blanks : Stmt := topS 42
abbrev s_behind_prefix : Stmt := topS 43
abbrev s_value_of : Stmt := topS 45
abbrev s_digits_from : Stmt := topS 44
abbrev s_parts_of_text : Stmt := topS 41
abbrev s_group_in : Stmt := topS 40
abbrev s_number_by_groups : Stmt := topS 47
abbrev s_number_read : Stmt := topS 46
abbrev s_read_text : Stmt := topS 38
abbrev s__law_purse : Stmt := topS 49
abbrev s__law_coin : Stmt := topS 50
abbrev s__law_pick : Stmt := topS 51
abbrev s__law_pick__o1 : Stmt := topS 51
abbrev s__law_row : Stmt := topS 52
abbrev s__law_worth : Stmt := topS 53
abbrev s__law_digits : Stmt := topS 54
abbrev s__law_is : Stmt := topS 55
abbrev s__law_counted : Stmt := topS 56
abbrev s__law_group : Stmt := topS 57
abbrev s__law_steps_in : Stmt := topS 58
abbrev s__law_figures : Stmt := topS 59
abbrev s__law_written : Stmt := topS 60
abbrev s__law_right : Stmt := topS 61
abbrev s_law : Stmt := topS 62
def iclsB (K : PySem.W.Frag) (C : Addr) : Bool := He.eqO (PySem.W.findIn K (.ref C) "__class__") (some (some (.builtin "object.__class__"))) && (He.eqO (PySem.W.specialIn K (.builtin "object.__class__") "__get__") (some (some (.builtin "getset_descriptor.__get__"))) &&
  (decide (PySem.W.takesIn K (.builtin "object.__class__") = some true) && (decide (PySem.W.mroIn K C (.type "object") = some true) && decide (PySem.W.kitOne K (.ref C) (.ref C) = some true))))
def d_is_integer : He.DefD := ⟨("is_integer", none), "is_integer", "is_integer", defArgs s_is_integer, defBody s_is_integer, defScope s_is_integer, [], []⟩
def d_is_between : He.DefD := ⟨("is_between", none), "is_between", "is_between", defArgs s_is_between, defBody s_is_between, defScope s_is_between, [], []⟩
def d_order_of : He.DefD := ⟨("order_of", none), "order_of", "order_of", defArgs s_order_of, defBody s_order_of, defScope s_order_of, [], []⟩
def d_check_machine : He.DefD := ⟨("check_machine", none), "check_machine", "check_machine", defArgs s_check_machine, defBody s_check_machine, defScope s_check_machine, [], []⟩
def d_top_digit : He.DefD := ⟨("top_digit", none), "top_digit", "top_digit", defArgs s_top_digit, defBody s_top_digit, defScope s_top_digit, [], []⟩
def d_size_of : He.DefD := ⟨("size_of", none), "size_of", "size_of", defArgs s_size_of, defBody s_size_of, defScope s_size_of, [], []⟩
def d_number_of : He.DefD := ⟨("number_of", none), "number_of", "number_of", defArgs s_number_of, defBody s_number_of, defScope s_number_of, [], []⟩
def d_low_part : He.DefD := ⟨("low_part", none), "low_part", "low_part", defArgs s_low_part, defBody s_low_part, defScope s_low_part, [], []⟩
def d_row_of : He.DefD := ⟨("row_of", none), "row_of", "row_of", defArgs s_row_of, defBody s_row_of, defScope s_row_of, [], []⟩
def d_check_big : He.DefD := ⟨("check_big", none), "check_big", "check_big", defArgs s_check_big, defBody s_check_big, defScope s_check_big, [], []⟩
def d_big_of : He.DefD := ⟨("big_of", none), "big_of", "big_of", defArgs s_big_of, defBody s_big_of, defScope s_big_of, [], []⟩
def d_big : He.DefD := ⟨("big", none), "big", "big", defArgs s_big, defBody s_big, defScope s_big, [], []⟩
def d_plain : He.DefD := ⟨("plain", none), "plain", "plain", defArgs s_plain, defBody s_plain, defScope s_plain, [], []⟩
def d_check_most : He.DefD := ⟨("check_most", none), "check_most", "check_most", defArgs s_check_most, defBody s_check_most, defScope s_check_most, [], []⟩
def d_behind_blanks : He.DefD := ⟨("behind_blanks", none), "behind_blanks", "behind_blanks", defArgs s_behind_blanks, defBody s_behind_blanks, defScope s_behind_blanks, [], []⟩
def d_behind_prefix : He.DefD := ⟨("behind_prefix", none), "behind_prefix", "behind_prefix", defArgs s_behind_prefix, defBody s_behind_prefix, defScope s_behind_prefix, [], []⟩
def d_value_of : He.DefD := ⟨("value_of", none), "value_of", "value_of", defArgs s_value_of, defBody s_value_of, defScope s_value_of, [], []⟩
def d_digits_from : He.DefD := ⟨("digits_from", none), "digits_from", "digits_from", defArgs s_digits_from, defBody s_digits_from, defScope s_digits_from, [], []⟩
def d_parts_of_text : He.DefD := ⟨("parts_of_text", none), "parts_of_text", "parts_of_text", defArgs s_parts_of_text, defBody s_parts_of_text, defScope s_parts_of_text, [], []⟩
def d_group_in : He.DefD := ⟨("group_in", none), "group_in", "group_in", defArgs s_group_in, defBody s_group_in, defScope s_group_in, [], []⟩
def d_number_by_groups : He.DefD := ⟨("number_by_groups", none), "number_by_groups", "number_by_groups", defArgs s_number_by_groups, defBody s_number_by_groups, defScope s_number_by_groups, [], []⟩
def d_number_read : He.DefD := ⟨("number_read", none), "number_read", "number_read", defArgs s_number_read, defBody s_number_read, defScope s_number_read, [], []⟩
def d_read_text : He.DefD := ⟨("read_text", none), "read_text", "read_text", defArgs s_read_text, defBody s_read_text, defScope s_read_text, [.int 10], [("most", .int 4300)]⟩
def d__law_purse : He.DefD := ⟨("_law_purse", none), "_law_purse", "_law_purse", defArgs s__law_purse, defBody s__law_purse, defScope s__law_purse, [], []⟩
def d__law_coin : He.DefD := ⟨("_law_coin", none), "_law_coin", "_law_coin", defArgs s__law_coin, defBody s__law_coin, defScope s__law_coin, [], []⟩
def d__law_pick : He.DefD := ⟨("_law_pick", none), "_law_pick", "_law_pick", defArgs s__law_pick, defBody s__law_pick, defScope s__law_pick, [], []⟩
def d__law_pick__o1 : He.DefD := ⟨("_law_pick", none), "_law_pick", "_law_pick", defArgs s__law_pick__o1, defBody s__law_pick__o1, defScope s__law_pick__o1, [], []⟩
def d__law_row : He.DefD := ⟨("_law_row", none), "_law_row", "_law_row", defArgs s__law_row, defBody s__law_row, defScope s__law_row, [], []⟩
def d__law_worth : He.DefD := ⟨("_law_worth", none), "_law_worth", "_law_worth", defArgs s__law_worth, defBody s__law_worth, defScope s__law_worth, [], []⟩
def d__law_digits : He.DefD := ⟨("_law_digits", none), "_law_digits", "_law_digits", defArgs s__law_digits, defBody s__law_digits, defScope s__law_digits, [], []⟩
def d__law_is : He.DefD := ⟨("_law_is", none), "_law_is", "_law_is", defArgs s__law_is, defBody s__law_is, defScope s__law_is, [], []⟩
def d__law_counted : He.DefD := ⟨("_law_counted", none), "_law_counted", "_law_counted", defArgs s__law_counted, defBody s__law_counted, defScope s__law_counted, [], []⟩
def d__law_group : He.DefD := ⟨("_law_group", none), "_law_group", "_law_group", defArgs s__law_group, defBody s__law_group, defScope s__law_group, [], []⟩
def d__law_steps_in : He.DefD := ⟨("_law_steps_in", none), "_law_steps_in", "_law_steps_in", defArgs s__law_steps_in, defBody s__law_steps_in, defScope s__law_steps_in, [], []⟩
def d__law_figures : He.DefD := ⟨("_law_figures", none), "_law_figures", "_law_figures", defArgs s__law_figures, defBody s__law_figures, defScope s__law_figures, [], []⟩
def d__law_written : He.DefD := ⟨("_law_written", none), "_law_written", "_law_written", defArgs s__law_written, defBody s__law_written, defScope s__law_written, [], []⟩
def d__law_right : He.DefD := ⟨("_law_right", none), "_law_right", "_law_right", defArgs s__law_right, defBody s__law_right, defScope s__law_right, [], []⟩
def d_law : He.DefD := ⟨("law", none), "law", "law", defArgs s_law, defBody s_law, defScope s_law, [], []⟩
def d_Mach_step : He.DefD := ⟨("Machine", some "step"), "step", "Machine.step", defArgs s_Mach_step, defBody s_Mach_step, defScope s_Mach_step, [], []⟩
def d_Mach_enter : He.DefD := ⟨("Machine", some "enter"), "enter", "Machine.enter", defArgs s_Mach_enter, defBody s_Mach_enter, defScope s_Mach_enter, [], []⟩
def d_Mach_reset : He.DefD := ⟨("Machine", some "reset"), "reset", "Machine.reset", defArgs s_Mach_reset, defBody s_Mach_reset, defScope s_Mach_reset, [], []⟩
def d_Mach_tally : He.DefD := ⟨("Machine", some "tally"), "tally", "Machine.tally", defArgs s_Mach_tally, defBody s_Mach_tally, defScope s_Mach_tally, [], []⟩
def d_Mach_walk : He.DefD := ⟨("Machine", some "walk"), "walk", "Machine.walk", defArgs s_Mach_walk, defBody s_Mach_walk, defScope s_Mach_walk, [], []⟩
def d_Mach_init : He.DefD := ⟨("Machine", some "__init__"), "__init__", "Machine.__init__", defArgs s_Mach_init, defBody s_Mach_init, defScope s_Mach_init, [.int 30, .int 70], []⟩
def d_Big_init : He.DefD := ⟨("Big", some "__init__"), "__init__", "Big.__init__", defArgs s_Big_init, defBody s_Big_init, defScope s_Big_init, [], []⟩
def d_Big_eq : He.DefD := ⟨("Big", some "__eq__"), "__eq__", "Big.__eq__", defArgs s_Big_eq, defBody s_Big_eq, defScope s_Big_eq, [], []⟩
def d_Big_digits : He.DefD := ⟨("Big", some "digits"), "digits", "Big.digits", defArgs s_Big_digits, defBody s_Big_digits, defScope s_Big_digits, [], []⟩
def d_Big_sign : He.DefD := ⟨("Big", some "sign"), "sign", "Big.sign", defArgs s_Big_sign, defBody s_Big_sign, defScope s_Big_sign, [], []⟩
def d_Big_bits : He.DefD := ⟨("Big", some "bits"), "bits", "Big.bits", defArgs s_Big_bits, defBody s_Big_bits, defScope s_Big_bits, [], []⟩
def fa0 : List He.Fa := [.cls "Machine", .noat "Machine" "width", .noat "Machine" "cutoff", .noat "Machine" "counts", .noat "Machine" "entered", .cls "Big", .noat "Big" "width", .noat "Big" "side", .noat "Big" "row", .noat "Big" "value", .free "isinstance", .free "int", .free "bool", .glo "is_integer", .glo "is_between", .meth "Machine" "step", .free "len", .int "LONGEST_WALK" 1000, .meth "Machine" "enter", .glo "WORDS", .meth "Machine" "reset", .meth "Machine" "tally", .free "list", .meth "Machine" "walk", .glo "Machine", .mkr "Machine", .glo "Big", .meth "Big" "__eq__", .meth "Big" "digits", .meth "Big" "sign"]
def fa1 : List He.Fa := [.meth "Big" "bits", .glo "order_of", .free "tuple", .mkr "Big", .glo "check_machine", .glo "top_digit", .glo "size_of", .glo "number_of", .int "LONGEST_LOOP" 32, .free "reversed", .glo "low_part", .glo "row_of", .free "range", .glo "check_big", .free "abs", .glo "big_of", .glo "big", .glo "plain", .int "LEAST_LIMIT" 640, .glo "check_most", .str "BLANKS" " \t\n", .glo "behind_blanks", .glo "PREFIXES", .glo "behind_prefix", .str "SMALL_SIGNS" "0123456789abcdefghijklmnopqrstuvwxyz", .str "CAPITAL_SIGNS" "0123456789ABCDEFGHIJKLMNOPQRSTUVWXYZ", .free "max", .int "GREATEST_BASE" 36, .glo "value_of", .glo "digits_from"]
def fa2 : List He.Fa := [.glo "parts_of_text", .glo "group_in", .glo "number_by_groups", .glo "DIGIT_BITS", .glo "number_read", .free "str", .glo "read_text", .glo "_law_purse", .glo "_law_coin", .glo "_law_pick", .glo "_law_row", .glo "_law_worth", .glo "_law_digits", .glo "_law_is", .free "dict", .glo "_law_counted", .glo "_law_group", .glo "_law_steps_in", .glo "_law_figures", .free "enumerate", .glo "_law_written", .glo "_law_right", .glo "law"]
def fa : List He.Fa := fa0 ++ fa1 ++ fa2
def fn : List He.DefD := [d_is_integer, d_is_between, d_order_of, d_check_machine, d_top_digit, d_size_of, d_number_of, d_low_part, d_row_of, d_check_big, d_big_of, d_big, d_plain, d_check_most, d_behind_blanks, d_behind_prefix, d_value_of, d_digits_from, d_parts_of_text, d_group_in, d_number_by_groups, d_number_read, d_read_text, d__law_purse, d__law_coin, d__law_pick, d__law_pick__o1, d__law_row, d__law_worth, d__law_digits, d__law_is, d__law_counted, d__law_group, d__law_steps_in, d__law_figures, d__law_written, d__law_right, d_law, d_Mach_step, d_Mach_enter, d_Mach_reset, d_Mach_tally, d_Mach_walk, d_Mach_init, d_Big_init, d_Big_eq, d_Big_digits, d_Big_sign, d_Big_bits]
def exB (K : PySem.W.Frag) : Bool := He.tupB K "WORDS" (mwords.map He.Dv.str) && (iclsB K (He.ga K "Machine") && (iclsB K (He.ga K "Big") && ownB K (He.ga K "Big") (He.ma K (He.ga K "Big") "__eq__"))) && idcB K (He.ga K "DIGIT_BITS") [(2, 1), (4, 2), (8, 3), (16, 4), (32, 5)] && sdcB K (He.ga K "PREFIXES") [("x", 16), ("X", 16), ("o", 8), ("O", 8), ("b", 2), ("B", 2)]
def loose0 : List Str := ["_wall", "BitsError", "InvalidMachine", "InvalidBound", "InvalidText", "LimitExceeded", "shown", "is_integer", "is_between", "WORDS", "LONGEST_WALK", "Machine", "check_machine", "LONGEST_LOOP", "top_digit", "size_of", "number_of", "row_of", "low_part", "Big", "check_big", "big_of", "order_of", "big", "plain", "LEAST_LIMIT", "GREATEST_BASE", "DIGIT_BITS", "BLANKS", "PREFIXES"]
def loose1 : List Str := ["SMALL_SIGNS", "CAPITAL_SIGNS", "read_text", "check_most", "group_in", "parts_of_text", "behind_blanks", "behind_prefix", "digits_from", "value_of", "number_read", "number_by_groups", "_law_purse", "_law_coin", "_law_pick", "_law_row", "_law_worth", "_law_digits", "_law_is", "_law_counted", "_law_group", "_law_steps_in", "_law_figures", "_law_written", "_law_right"]
def loose : List Str := loose0 ++ loose1
abbrev R : PySem.W.OpenRow := PySem.W.OpenLaw.row PySem.Challenge.rw_thirtybits_k65_texts_read
def tbl : List He.Tab := [((fun K => He.ga K "PREFIXES"), ["x", "X", "o", "O", "b", "B"])]
abbrev hk : PySem.W.Hook := hookLT (addrs 0 1200) fa fn tbl [] exB
def ob (s : PySem.W.SharedT) : He.AlX := obsLT (addrs 0 1200) fa fn tbl [] exB (HandSHeadRun.getT s)
theorem ob_eq (s : PySem.W.SharedT) : ob s = hk.obs s.abs := obsLT_eq (HandSHeadRun.getT_eq s)
def withRow (w : World) (b : Bool) : World := { w with params := { w.params with followText := fun s => bif s == "special-get-raises" then b else w.params.followText s } }
theorem withRow_self (w : World) : withRow w (w.params.followText "special-get-raises") = w := by
  obtain ⟨dr, pa⟩ := w
  have h : (fun s => bif s == "special-get-raises" then pa.followText "special-get-raises" else pa.followText s) = pa.followText := funext fun s => by
    by_cases q : s = "special-get-raises"
    · subst q; simp
    · rw [show (s == "special-get-raises") = false from beq_false_of_ne q]; rfl
  show World.mk dr _ = _
  rw [h]
theorem runB (w : World) (b : Bool) : HandSHeadRun.RunEq R (PySem.W.view R.prog [62]) hk ob 12000 loose (withRow w b) := by
  cases b with
  | false =>
    intro os
    kernel_rfl
  | true =>
    intro os
    kernel_rfl
theorem run (w : World) : HandSHeadRun.RunEq R (PySem.W.view R.prog [62]) hk ob 12000 loose w := by
  have := runB w (w.params.followText "special-get-raises")
  rwa [withRow_self] at this
end P
set_option maxHeartbeats 200000
set_option Elab.async false
set_option linter.all false
set_option maxRecDepth 100000
/-! What a body does, by values: Holds (the frozen part, the changing things, by place), Env (the slots), XG, XE, XT, XA, XS. -/
namespace VL
open PySem L2

/-! ### the frozen part and the changing things -/
structure VA where
  P : Hp → V → Prop
  mono : ∀ {F F' : Hp} {v : V}, Same F F' → P F v → P F' v
structure OA where
  P : Hp → Hp → Prop
  mono : ∀ {F F' t : Hp}, Same F F' → P F t → P F' t

def Holds (F : Hp) (Ω : List OA) (H : Hp) : Prop :=
  ∃ ts : Nat → Hp, (∀ (i : Nat) (o : OA), Ω[i]? = some o → o.P F (ts i)) ∧ Same F H ∧ (∀ i : Nat, i < Ω.length → Same (ts i) H) ∧
    (∀ (i : Nat) (b : Addr) (o : HO), i < Ω.length → ts i b = some o → F b = none) ∧
    ∀ (i j : Nat) (b : Addr) (o : HO), i < Ω.length → j < Ω.length → i ≠ j → ts i b = some o → ts j b = none

theorem getlt {α : Type} {l : List α} {i : Nat} {a : α} (h : l[i]? = some a) : i < l.length := (List.getElem?_eq_some_iff.mp h).1
theorem nn {F : Hp} {b : Addr} {o : HO} (h : F b = some o) (h' : F b = none) : False := by rw [h] at h'; cases h'
theorem same_upd {H : Hp} {p : Addr} {o : HO} (h : H p = none) : Same H (upd H p o) := fun b x e => by
  rw [upd_ne (ne_of_none e h)]; exact e

section
variable {F F' H H' : Hp} {Ω : List OA} {o o' : OA} {i j : Nat} {a p : Addr} {u u' : HO}
theorem Holds.same (h : Holds F Ω H) : Same F H := let ⟨_, _, q, _⟩ := h; q
theorem Holds.nil (h : Same F H) : Holds F [] H := ⟨fun _ _ => none, fun i o q => by simp at q, h, fun i q => absurd q (Nat.not_lt_zero _), fun i _ _ q => absurd q (Nat.not_lt_zero _), fun i _ _ _ q => absurd q (Nat.not_lt_zero _)⟩
/-- a new frozen object -/
theorem Holds.newF (h : Holds F Ω H) (n : H p = none) : Holds (upd F p u) Ω (upd H p u) ∧ Same F (upd F p u) := by
  obtain ⟨ts, h1, h2, h3, h4, h5⟩ := h
  have nF : F p = none := h2.free n
  have sF : Same F (upd F p u) := same_upd nF
  have nt : ∀ i, i < Ω.length → ts i p = none := fun i q => (h3 i q).free n
  refine ⟨⟨ts, fun i o q => o.mono sF (h1 i o q), fun b x e => ?_, fun i q => (h3 i q).trans (same_upd n), fun i b x q e => ?_, h5⟩, sF⟩
  · by_cases hb : b = p
    · subst hb; rw [upd_same] at e ⊢; exact e
    · rw [upd_ne hb] at e ⊢; exact h2 b x e
  · have hb : b ≠ p := fun z => by subst z; exact nn e (nt i q)
    rw [upd_ne hb]; exact h4 i b x q e
theorem app_at {α : Type} {l : List α} {a : α} : (l ++ [a])[l.length]? = some a := by simp
theorem app_lt {α : Type} {l : List α} {a b : α} {i : Nat} (h : l[i]? = some b) : (l ++ [a])[i]? = some b := by
  rw [List.getElem?_append_left (getlt h)]; exact h
/-- a new changing thing, behind the others -/
theorem Holds.newO {t : Hp} (h : Holds F Ω H) (n : ∀ b x, t b = some x → H b = none) (e : Same H H') (et : Same t H') (ok : o.P F t) : Holds F (Ω ++ [o]) H' := by
  obtain ⟨ts, h1, h2, h3, h4, h5⟩ := h
  have len : (Ω ++ [o]).length = Ω.length + 1 := by simp
  refine ⟨fun k => if k = Ω.length then t else ts k, fun i x q => ?_, h2.trans e, fun i q => ?_, fun i b x q r => ?_, fun i j b x qi qj ne r => ?_⟩
  · show x.P F (if i = Ω.length then t else ts i)
    by_cases hi : i = Ω.length
    · subst hi; rw [app_at] at q; cases q; rw [if_pos rfl]; exact ok
    · rw [if_neg hi]
      have lt : i < Ω.length := by have := getlt q; omega
      rw [List.getElem?_append_left lt] at q
      exact h1 i x q
  · show Same (if i = Ω.length then t else ts i) H'
    by_cases hi : i = Ω.length
    · rw [if_pos hi]; exact et
    · rw [if_neg hi]; exact (h3 i (by omega)).trans e
  · have r : (if i = Ω.length then t else ts i) b = some x := r
    by_cases hi : i = Ω.length
    · rw [if_pos hi] at r; exact h2.free (n b x r)
    · rw [if_neg hi] at r; exact h4 i b x (by omega) r
  · have r : (if i = Ω.length then t else ts i) b = some x := r
    show (if j = Ω.length then t else ts j) b = none
    by_cases hi : i = Ω.length
    · rw [if_pos hi] at r
      rw [if_neg (fun z => ne (hi.trans z.symm))]
      exact (h3 j (by omega)).free (n b x r)
    · rw [if_neg hi] at r
      by_cases hj : j = Ω.length
      · rw [if_pos hj]
        cases q : t b with
        | none => rfl
        | some y => exact (nn (h3 i (by omega) b x r) (n b y q)).elim
      · rw [if_neg hj]; exact h5 i j b x (by omega) (by omega) ne r
theorem sng_some {b : Addr} {x : HO} (e : upd (fun _ => none) p u b = some x) : b = p := by
  by_cases h : b = p
  · exact h
  · rw [upd_ne h] at e; cases e
theorem Holds.newL (h : Holds F Ω H) (n : H p = none) (ok : o.P F (upd (fun _ => none) p u)) : Holds F (Ω ++ [o]) (upd H p u) :=
  h.newO (t := upd (fun _ => none) p u) (fun b x e => by rw [sng_some e]; exact n) (same_upd n) (fun b x e => by
    have hb := sng_some e
    subst hb; rw [upd_same] at e ⊢; exact e) ok
/-- the thing at i: its part of the heap; it may be changed there -/
theorem Holds.get (h : Holds F Ω H) (q : Ω[i]? = some o) : ∃ t, o.P F t ∧ Same t H ∧ (∀ b x, t b = some x → F b = none) ∧
    ∀ (o' : OA) (a : Addr) (u u' : HO), t a = some u → o'.P F (upd t a u') → Holds F (Ω.set i o') (upd H a u') := by
  obtain ⟨ts, h1, h2, h3, h4, h5⟩ := h
  have lt := getlt q
  refine ⟨ts i, h1 i o q, h3 i lt, fun b x e => h4 i b x lt e, fun o' a u u' ha ok => ?_⟩
  have nF : F a = none := h4 i a u lt ha
  have tj : ∀ j, j < Ω.length → j ≠ i → ts j a = none := fun j lj ne => h5 i j a u lt lj (fun z => ne z.symm) ha
  refine ⟨fun k => if k = i then upd (ts i) a u' else ts k, fun k x r => ?_, fun b x e => ?_, fun k lk b x e => ?_, fun k b x lk e => ?_, fun k m b x lk lm ne e => ?_⟩
  · show x.P F (if k = i then _ else ts k)
    by_cases hk : k = i
    · subst hk
      rw [List.getElem?_set_self lt] at r; cases r; rw [if_pos rfl]; exact ok
    · rw [if_neg hk]
      rw [List.getElem?_set_ne (fun z => hk z.symm)] at r
      exact h1 k x r
  · rw [upd_ne (ne_of_none e nF)]; exact h2 b x e
  · rw [List.length_set] at lk
    have e : (if k = i then upd (ts i) a u' else ts k) b = some x := e
    by_cases hk : k = i
    · rw [if_pos hk] at e
      by_cases hb : b = a
      · subst hb; rw [upd_same] at e ⊢; exact e
      · rw [upd_ne hb] at e ⊢; exact h3 i lt b x e
    · rw [if_neg hk] at e
      rw [upd_ne (ne_of_none e (tj k lk hk))]; exact h3 k lk b x e
  · rw [List.length_set] at lk
    have e : (if k = i then upd (ts i) a u' else ts k) b = some x := e
    by_cases hk : k = i
    · rw [if_pos hk] at e
      by_cases hb : b = a
      · subst hb; exact nF
      · rw [upd_ne hb] at e; exact h4 i b x lt e
    · rw [if_neg hk] at e; exact h4 k b x lk e
  · rw [List.length_set] at lk lm
    have e : (if k = i then upd (ts i) a u' else ts k) b = some x := e
    show (if m = i then upd (ts i) a u' else ts m) b = none
    by_cases hk : k = i
    · rw [if_pos hk] at e
      have hm : m ≠ i := fun z => ne (hk.trans z.symm)
      rw [if_neg hm]
      by_cases hb : b = a
      · subst hb; exact tj m lm hm
      · rw [upd_ne hb] at e; exact h5 i m b x lt lm (fun z => hm z.symm) e
    · rw [if_neg hk] at e
      by_cases hm : m = i
      · rw [if_pos hm]
        have hb : b ≠ a := ne_of_none e (tj k lk hk)
        rw [upd_ne hb]; exact h5 k i b x lk lt hk e
      · rw [if_neg hm]; exact h5 k m b x lk lm ne e
/-- the last thing is left -/
theorem Holds.drop (h : Holds F (Ω ++ [o]) H) : Holds F Ω H := by
  obtain ⟨ts, h1, h2, h3, h4, h5⟩ := h
  have len : (Ω ++ [o]).length = Ω.length + 1 := by simp
  exact ⟨ts, fun i x q => h1 i x (app_lt q), h2, fun i q => h3 i (by omega), fun i b x q => h4 i b x (by omega), fun i j b x qi qj => h5 i j b x (by omega) (by omega)⟩
/-- two maps with nothing in common -/
def cup (F t : Hp) : Hp := fun b => match F b with | some o => some o | none => t b
theorem cup_l {F t : Hp} : Same F (cup F t) := fun b x e => by show (match F b with | some o => some o | none => t b) = _; rw [e]
theorem cup_r {F t : Hp} (d : ∀ b x, t b = some x → F b = none) : Same t (cup F t) := fun b x e => by show (match F b with | some o => some o | none => t b) = _; rw [d b x e]; exact e
theorem cup_or {F t : Hp} {b : Addr} {x : HO} (e : cup F t b = some x) : F b = some x ∨ t b = some x := by
  have e : (match F b with | some o => some o | none => t b) = some x := e
  cases h : F b with
  | none => rw [h] at e; exact .inr e
  | some y => rw [h] at e; exact .inl e
/-- the last thing becomes frozen -/
theorem Holds.freeze (h : Holds F (Ω ++ [o]) H) : ∃ F' t, Same F F' ∧ Same t F' ∧ o.P F t ∧ Holds F' Ω H := by
  obtain ⟨ts, h1, h2, h3, h4, h5⟩ := h
  have len : (Ω ++ [o]).length = Ω.length + 1 := by simp
  have d : ∀ b x, ts Ω.length b = some x → F b = none := fun b x e => h4 Ω.length b x (by omega) e
  refine ⟨cup F (ts Ω.length), ts Ω.length, cup_l, cup_r d, h1 _ _ app_at, ts, fun i x q => x.mono cup_l (h1 i x (app_lt q)), fun b x e => ?_, fun i q => h3 i (by omega), fun i b x q e => ?_, fun i j b x qi qj => h5 i j b x (by omega) (by omega)⟩
  · rcases cup_or e with e | e
    · exact h2 b x e
    · exact h3 Ω.length (by omega) b x e
  · cases z : cup F (ts Ω.length) b with
    | none => rfl
    | some y =>
      rcases cup_or z with z | z
      · exact (nn z (h4 i b x (by omega) e)).elim
      · exact (nn z (h5 i Ω.length b x (by omega) (by omega) (by omega) e)).elim
/-- the last thing is taken into the thing at i -/
theorem Holds.merge {o2 : OA} (h : Holds F (Ω ++ [o2]) H) (q : Ω[i]? = some o) : ∃ t t2, o.P F t ∧ o2.P F t2 ∧ Same t H ∧ Same t2 H ∧ (∀ b x, t b = some x → t2 b = none) ∧
    (∀ o' : OA, o'.P F (cup t t2) → Holds F (Ω.set i o') H) := by
  obtain ⟨ts, h1, h2, h3, h4, h5⟩ := h
  have len : (Ω ++ [o2]).length = Ω.length + 1 := by simp
  have lt := getlt q
  refine ⟨ts i, ts Ω.length, h1 i o (app_lt q), h1 _ _ app_at, h3 i (by omega), h3 _ (by omega), fun b x e => h5 i Ω.length b x (by omega) (by omega) (by omega) e, fun o' ok => ?_⟩
  refine ⟨fun k => if k = i then cup (ts i) (ts Ω.length) else ts k, fun k x r => ?_, h2, fun k lk b x e => ?_, fun k b x lk e => ?_, fun k m b x lk lm ne e => ?_⟩
  · show x.P F (if k = i then _ else ts k)
    by_cases hk : k = i
    · subst hk
      rw [List.getElem?_set_self lt] at r; cases r; rw [if_pos rfl]; exact ok
    · rw [if_neg hk]
      rw [List.getElem?_set_ne (fun z => hk z.symm)] at r
      exact h1 k x (app_lt r)
  · rw [List.length_set] at lk
    have e : (if k = i then cup (ts i) (ts Ω.length) else ts k) b = some x := e
    by_cases hk : k = i
    · rw [if_pos hk] at e
      rcases cup_or e with e | e
      · exact h3 i (by omega) b x e
      · exact h3 Ω.length (by omega) b x e
    · rw [if_neg hk] at e; exact h3 k (by omega) b x e
  · rw [List.length_set] at lk
    have e : (if k = i then cup (ts i) (ts Ω.length) else ts k) b = some x := e
    by_cases hk : k = i
    · rw [if_pos hk] at e
      rcases cup_or e with e | e
      · exact h4 i b x (by omega) e
      · exact h4 Ω.length b x (by omega) e
    · rw [if_neg hk] at e; exact h4 k b x (by omega) e
  · rw [List.length_set] at lk lm
    have e : (if k = i then cup (ts i) (ts Ω.length) else ts k) b = some x := e
    show (if m = i then cup (ts i) (ts Ω.length) else ts m) b = none
    by_cases hk : k = i
    · rw [if_pos hk] at e
      have hm : m ≠ i := fun z => ne (hk.trans z.symm)
      rw [if_neg hm]
      rcases cup_or e with e | e
      · exact h5 i m b x (by omega) (by omega) (by omega) e
      · exact h5 Ω.length m b x (by omega) (by omega) (by omega) e
    · rw [if_neg hk] at e
      by_cases hm : m = i
      · rw [if_pos hm]
        cases z : cup (ts i) (ts Ω.length) b with
        | none => rfl
        | some y =>
          rcases cup_or z with z | z
          · exact (nn z (h5 k i b x (by omega) (by omega) hk e)).elim
          · exact (nn z (h5 k Ω.length b x (by omega) (by omega) (by omega) e)).elim
      · rw [if_neg hm]; exact h5 k m b x (by omega) (by omega) ne e
end

/-! ### values by what they stand for -/
structure TC where
  K : PySem.W.Frag
  C : Nat → Addr
class Rp (α : Type) where
  rep : TC → Hp → V → α → Prop
  mono : ∀ {T : TC} {F F' : Hp} {v : V} {a : α}, Same F F' → rep T F v a → rep T F' v a
def va (T : TC) {α : Type} [Rp α] (a : α) : VA := ⟨fun F v => Rp.rep T F v a, Rp.mono⟩
def vr (p : Addr) : VA := ⟨fun _ v => v = .ref p, fun _ h => h⟩
def vx (v0 : V) : VA := ⟨fun _ v => v = v0, fun _ h => h⟩
instance : Rp Int := ⟨fun _ _ v n => v = .int n, fun _ h => h⟩
instance : Rp Bool := ⟨fun _ _ v n => v = .bl n, fun _ h => h⟩
instance : Rp Str := ⟨fun _ _ v n => v = .str n, fun _ h => h⟩
instance : Rp Unit := ⟨fun _ _ v _ => v = .non, fun _ h => h⟩
/-- a list that stays, a tuple of one kind, a pair, a triple -/
structure LF (α : Type) where
  l : List α
structure TF (α : Type) where
  l : List α
/-- the script -/
structure SF (α : Type) where
  l : List α
structure T3 (α β γ : Type) where
  a : α
  b : β
  c : γ
def Al {α : Type} [Rp α] (T : TC) (F : Hp) (vs : List V) (l : List α) : Prop := Paired (fun v a => Rp.rep T F v a) vs l
theorem Al.mono {α : Type} [Rp α] {T : TC} {F F' : Hp} (e : Same F F') : ∀ {vs : List V} {l : List α}, Al T F vs l → Al T F' vs l
  | _, _, .nil => .nil
  | _, _, .cons h t => .cons (Rp.mono e h) (Al.mono e t)
theorem Same.tup {K : PySem.W.Frag} {H H' : Hp} {a : Addr} {xs : List V} (e : Same H H') (h : SqT K H a xs) : SqT K H' a xs := by
  rcases h with (h | ⟨o, h⟩) | h
  · exact .inl (.inl (e _ _ h))
  · exact .inl (.inr ⟨o, e _ _ h⟩)
  · exact .inr h
instance {α : Type} [Rp α] : Rp (LF α) := ⟨fun T F v l => ∃ p vs, v = .ref p ∧ F p = some (.lst vs) ∧ Al T F vs l.l, fun e ⟨p, vs, h1, h2, h3⟩ => ⟨p, vs, h1, e _ _ h2, h3.mono e⟩⟩
instance {α : Type} [Rp α] : Rp (SF α) := ⟨fun T F v l => ∃ p vs, v = .ref p ∧ SqL T.K F p vs ∧ Al T F vs l.l, fun e ⟨p, vs, h1, h2, h3⟩ => ⟨p, vs, h1, e.seq h2, h3.mono e⟩⟩
instance {α : Type} [Rp α] : Rp (TF α) := ⟨fun T F v l => ∃ p vs, v = .ref p ∧ SqT T.K F p vs ∧ Al T F vs l.l, fun e ⟨p, vs, h1, h2, h3⟩ => ⟨p, vs, h1, Same.tup e h2, h3.mono e⟩⟩
instance {α β : Type} [Rp α] [Rp β] : Rp (α × β) := ⟨fun T F v l => ∃ p x y, v = .ref p ∧ SqT T.K F p [x, y] ∧ Rp.rep T F x l.1 ∧ Rp.rep T F y l.2, fun e ⟨p, x, y, h1, h2, h3, h4⟩ => ⟨p, x, y, h1, Same.tup e h2, Rp.mono e h3, Rp.mono e h4⟩⟩
instance {α β γ : Type} [Rp α] [Rp β] [Rp γ] : Rp (T3 α β γ) := ⟨fun T F v l => ∃ p x y z, v = .ref p ∧ SqT T.K F p [x, y, z] ∧ Rp.rep T F x l.a ∧ Rp.rep T F y l.b ∧ Rp.rep T F z l.c, fun e ⟨p, x, y, z, h1, h2, h3, h4, h5⟩ => ⟨p, x, y, z, h1, Same.tup e h2, Rp.mono e h3, Rp.mono e h4, Rp.mono e h5⟩⟩
theorem al_int {T : TC} {F : Hp} : ∀ {vs : List V} {l : List Int}, Al T F vs l → vs = l.map V.int
  | _, _, .nil => rfl
  | _, _, .cons h t => by rw [List.map_cons, ← al_int t, show _ = V.int _ from h]
theorem al_of_int {T : TC} {F : Hp} : ∀ {l : List Int}, Al T F (l.map V.int) l
  | [] => .nil
  | x :: r => .cons (show V.int x = V.int x from rfl) al_of_int
theorem al_len {α : Type} [Rp α] {T : TC} {F : Hp} : ∀ {vs : List V} {l : List α}, Al T F vs l → vs.length = l.length
  | _, _, .nil => rfl
  | _, _, .cons _ t => congrArg (· + 1) (al_len t)
theorem al_get {α : Type} [Rp α] {T : TC} {F : Hp} : ∀ {vs : List V} {l : List α} {i : Nat} {a : α}, Al T F vs l → l[i]? = some a → ∃ v, vs[i]? = some v ∧ Rp.rep T F v a
  | _, _, _, _, .nil, e => by simp at e
  | _, _, 0, _, .cons h _, e => by cases e; exact ⟨_, rfl, h⟩
  | _, _, i + 1, _, .cons _ t, e => al_get (i := i) t e
theorem al_set {α : Type} [Rp α] {T : TC} {F : Hp} {v : V} {a : α} (h : Rp.rep T F v a) : ∀ {vs : List V} {l : List α} (i : Nat), Al T F vs l → Al T F (vs.set i v) (l.set i a)
  | _, _, _, .nil => .nil
  | _, _, 0, .cons _ t => .cons h t
  | _, _, i + 1, .cons q t => .cons q (al_set h i t)
theorem al_app {α : Type} [Rp α] {T : TC} {F : Hp} : ∀ {vs ws : List V} {l m : List α}, Al T F vs l → Al T F ws m → Al T F (vs ++ ws) (l ++ m)
  | _, _, _, _, .nil, h => h
  | _, _, _, _, .cons q t, h => .cons q (al_app t h)
theorem al_take {α : Type} [Rp α] {T : TC} {F : Hp} : ∀ {vs : List V} {l : List α} (n : Nat), Al T F vs l → Al T F (vs.take n) (l.take n)
  | _, _, 0, _ => .nil
  | _, _, _ + 1, .nil => .nil
  | _, _, n + 1, .cons q t => .cons q (al_take n t)
theorem al_drop {α : Type} [Rp α] {T : TC} {F : Hp} : ∀ {vs : List V} {l : List α} (n : Nat), Al T F vs l → Al T F (vs.drop n) (l.drop n)
  | _, _, 0, h => h
  | _, _, _ + 1, .nil => .nil
  | _, _, n + 1, .cons _ t => al_drop n t
theorem al_rev {α : Type} [Rp α] {T : TC} {F : Hp} : ∀ {vs : List V} {l : List α}, Al T F vs l → Al T F vs.reverse l.reverse
  | _, _, .nil => .nil
  | _, _, .cons h t => by rw [List.reverse_cons, List.reverse_cons]; exact al_app (al_rev t) (.cons h .nil)

/-- a list that changes -/
def lstA (T : TC) {α : Type} [Rp α] (p : Addr) (l : List α) : OA := ⟨fun F t => ∃ vs, t p = some (.lst vs) ∧ Al T F vs l, fun e ⟨vs, h1, h2⟩ => ⟨vs, h1, h2.mono e⟩⟩

/-! ### slots -/
def Env (F : Hp) (σ : St) (Γ : List (Option VA)) : Prop := σ.length = Γ.length ∧ ∀ (i : Nat) (A : VA), Γ[i]? = some (some A) → ∃ v, σ[i]? = some (some v) ∧ A.P F v
theorem Env.mono {F F' : Hp} {σ : St} {Γ : List (Option VA)} (h : Env F σ Γ) (e : Same F F') : Env F' σ Γ := ⟨h.1, fun i A q => let ⟨v, h1, h2⟩ := h.2 i A q; ⟨v, h1, A.mono e h2⟩⟩
theorem Env.set {F : Hp} {σ : St} {Γ : List (Option VA)} {i : Nat} {v : V} {A : VA} (h : Env F σ Γ) (a : A.P F v) : Env F (σ.set i (some v)) (Γ.set i (some A)) := by
  refine ⟨by rw [List.length_set, List.length_set]; exact h.1, fun k B q => ?_⟩
  by_cases hk : i = k
  · subst hk
    have lt : i < Γ.length := by have := getlt q; rwa [List.length_set] at this
    rw [List.getElem?_set_self lt] at q
    cases q
    exact ⟨v, by rw [List.getElem?_set_self (by rw [h.1]; exact lt)], a⟩
  · rw [List.getElem?_set_ne hk] at q
    obtain ⟨w, h1, h2⟩ := h.2 k B q
    exact ⟨w, by rw [List.getElem?_set_ne hk]; exact h1, h2⟩
/-- what is known of slots is left -/
theorem Env.weak {F : Hp} {σ : St} {Γ Γ' : List (Option VA)} (h : Env F σ Γ) (hl : Γ'.length = Γ.length) (k : ∀ (i : Nat) A, Γ'[i]? = some (some A) → Γ[i]? = some (some A)) : Env F σ Γ' := ⟨h.1.trans hl.symm, fun i A q => h.2 i A (k i A q)⟩

/-! ### expressions -/
def XG (te : TE) (Γ : List (Option VA)) (Ω : List OA) (R : Hp → V → List OA → Prop) : Prop :=
  ∀ F σ H, Env F σ Γ → Holds F Ω H → ∀ Q : VK, (∀ F' v H' Ω', Same F F' → Holds F' Ω' H' → R F' v Ω' → Q v H') → te σ H Q
abbrev XE (te : TE) (Γ : List (Option VA)) (Ω : List OA) (A : VA) (Ω2 : List OA) : Prop := XG te Γ Ω fun F v Ω' => A.P F v ∧ Ω' = Ω2
def XT (t : TT) (Γ : List (Option VA)) (Ω : List OA) (b : Bool) (Ω2 : List OA) : Prop :=
  ∀ F σ H, Env F σ Γ → Holds F Ω H → ∀ Q : Bool → Hp → Prop, (∀ F' H', Same F F' → Holds F' Ω2 H' → Q b H') → t σ H Q
def AlA (F : Hp) (vs : List V) (As : List VA) : Prop := Paired (fun v (A : VA) => A.P F v) vs As
theorem AlA.mono {F F' : Hp} (e : Same F F') : ∀ {vs : List V} {As : List VA}, AlA F vs As → AlA F' vs As
  | _, _, .nil => .nil
  | _, _, .cons (b := A) h t => .cons (A.mono e h) (AlA.mono e t)
theorem AlA.len {F : Hp} : ∀ {vs : List V} {As : List VA}, AlA F vs As → vs.length = As.length
  | _, _, .nil => rfl
  | _, _, .cons _ t => congrArg (· + 1) (AlA.len t)
theorem AlA.app {F : Hp} : ∀ {vs ws : List V} {As Bs : List VA}, AlA F vs As → AlA F ws Bs → AlA F (vs ++ ws) (As ++ Bs)
  | _, _, _, _, .nil, h => h
  | _, _, _, _, .cons q t, h => .cons q (AlA.app t h)
def XA (t : TA) (Γ : List (Option VA)) (Ω : List OA) (As : List VA) (Ω2 : List OA) : Prop :=
  ∀ F σ H, Env F σ Γ → Holds F Ω H → ∀ Q : List V → Hp → Prop, (∀ F' vs H', Same F F' → Holds F' Ω2 H' → AlA F' vs As → Q vs H') → t σ H Q
/-- a one-place, two-place operation on values, a call on values -/
def RO (r : R2) (Ω : List OA) (A B C : VA) : Prop := ∀ F H x y, Holds F Ω H → A.P F x → B.P F y → ∀ Q : VK, (∀ F' v H', Same F F' → Holds F' Ω H' → C.P F' v → Q v H') → r x y H Q
def RU (r : V → Hp → VK → Prop) (Ω : List OA) (A C : VA) : Prop := ∀ F H x, Holds F Ω H → A.P F x → ∀ Q : VK, (∀ F' v H', Same F F' → Holds F' Ω H' → C.P F' v → Q v H') → r x H Q
def RC (r : List V → Hp → VK → Prop) (Ω : List OA) (As : List VA) (C : VA) : Prop := ∀ F H vs, Holds F Ω H → AlA F vs As → ∀ Q : VK, (∀ F' v H', Same F F' → Holds F' Ω H' → C.P F' v → Q v H') → r vs H Q

section
variable {T : TC} {Γ : List (Option VA)} {Ω Ω1 Ω2 : List OA} {A B C : VA} {ta tb te : TE} {t u : TT} {i j n m : Int} {b c : Bool}
theorem xe_var {i : Nat} (h : Γ[i]? = some (some A)) : XE (tVar i) Γ Ω A Ω := fun F σ H e hh Q q => by
  obtain ⟨v, h1, h2⟩ := e.2 i A h
  exact ⟨v, h1, q F v H Ω (Same.refl F) hh ⟨h2, rfl⟩⟩
theorem xe_c {v : V} (h : ∀ F, A.P F v) : XE (tC v) Γ Ω A Ω := fun F σ H e hh Q q => q F v H Ω (Same.refl F) hh ⟨h F, rfl⟩
theorem xe_int : XE (tC (.int n)) Γ Ω (va T n) Ω := xe_c fun _ => rfl
theorem xe_bl : XE (tC (.bl b)) Γ Ω (va T b) Ω := xe_c fun _ => rfl
theorem xe_str {s : Str} : XE (tC (.str s)) Γ Ω (va T s) Ω := xe_c fun _ => rfl
theorem xe_op {r : R2} (ha : XE ta Γ Ω A Ω1) (hb : XE tb Γ Ω1 B Ω2) (hr : RO r Ω2 A B C) : XE (tOp r ta tb) Γ Ω C Ω2 := fun F σ H e hh Q q => by
  refine ha F σ H e hh _ fun F1 x H1 Ω' e1 hh1 ⟨a1, o1⟩ => ?_
  subst o1
  refine hb F1 σ H1 (e.mono e1) hh1 _ fun F2 y H2 Ω'' e2 hh2 ⟨a2, o2⟩ => ?_
  subst o2
  exact hr F2 H2 x y hh2 (A.mono e2 a1) a2 Q fun F3 v H3 e3 hh3 a3 => q F3 v H3 _ ((e1.trans e2).trans e3) hh3 ⟨a3, rfl⟩
theorem xe_un {r : V → Hp → VK → Prop} (ha : XE ta Γ Ω A Ω1) (hr : RU r Ω1 A C) : XE (tUn r ta) Γ Ω C Ω1 := fun F σ H e hh Q q => by
  refine ha F σ H e hh _ fun F1 x H1 Ω' e1 hh1 ⟨a1, o1⟩ => ?_
  subst o1
  exact hr F1 H1 x hh1 a1 Q fun F3 v H3 e3 hh3 a3 => q F3 v H3 _ (e1.trans e3) hh3 ⟨a3, rfl⟩
theorem xa_nil : XA tNil Γ Ω [] Ω := fun F σ H e hh Q q => q F [] H (Same.refl F) hh .nil
theorem xa_cons {tr : TA} {As : List VA} (ha : XE ta Γ Ω A Ω1) (hr : XA tr Γ Ω1 As Ω2) : XA (tCons ta tr) Γ Ω (A :: As) Ω2 := fun F σ H e hh Q q => by
  refine ha F σ H e hh _ fun F1 x H1 Ω' e1 hh1 ⟨a1, o1⟩ => ?_
  subst o1
  refine hr F1 σ H1 (e.mono e1) hh1 _ fun F2 xs H2 e2 hh2 a2 => ?_
  exact q F2 (x :: xs) H2 (e1.trans e2) hh2 (.cons (A.mono e2 a1) a2)
theorem xe_cb {r : List V → Hp → VK → Prop} {t : TA} {As : List VA} (ha : XA t Γ Ω As Ω1) (hr : RC r Ω1 As C) : XE (tCB r t) Γ Ω C Ω1 := fun F σ H e hh Q q => by
  refine ha F σ H e hh _ fun F1 xs H1 e1 hh1 a1 => ?_
  exact hr F1 H1 xs hh1 a1 Q fun F3 v H3 e3 hh3 a3 => q F3 v H3 _ (e1.trans e3) hh3 ⟨a3, rfl⟩
/-- the same with another word for it -/
theorem XG.imp {R R' : Hp → V → List OA → Prop} (h : XG te Γ Ω R) (k : ∀ F v Ω', R F v Ω' → R' F v Ω') : XG te Γ Ω R' := fun F σ H e hh Q q => h F σ H e hh Q fun F' v H' Ω' e' hh' r => q F' v H' Ω' e' hh' (k _ _ _ r)
theorem XE.to (h : XE te Γ Ω A Ω1) (k : ∀ F v, A.P F v → B.P F v) : XE te Γ Ω B Ω1 := h.imp fun F v Ω' ⟨a, o⟩ => ⟨k F v a, o⟩
theorem xe_eq {α : Type} [Rp α] {a a' : α} (h : XE te Γ Ω (va T a) Ω1) (e : a = a') : XE te Γ Ω (va T a') Ω1 := e ▸ h

/-! ints -/
theorem ro_I0 {g : Int → Int → V} (h : ∀ F, C.P F (g i j)) : RO (rI0 g) Ω (va T i) (va T j) C := fun F H x y hh a1 a2 Q q => ⟨i, j, a1, a2, q F _ H (Same.refl F) hh (h F)⟩
theorem ro_I {D : Int → Int → Prop} {g : Int → Int → V} (hd : D i j) (h : ∀ F, C.P F (g i j)) : RO (rI D g) Ω (va T i) (va T j) C := fun F H x y hh a1 a2 Q q => ⟨i, j, a1, a2, hd, q F _ H (Same.refl F) hh (h F)⟩
theorem ro_int {g : Int → Int → Int} : RO (rI0 fun i j => .int (g i j)) Ω (va T i) (va T j) (va T (g i j)) := ro_I0 fun _ => rfl
theorem ro_intD {D : Int → Int → Prop} {g : Int → Int → Int} (hd : D i j) : RO (rI D fun i j => .int (g i j)) Ω (va T i) (va T j) (va T (g i j)) := ro_I hd fun _ => rfl
theorem ro_bl {g : Int → Int → Bool} : RO (rI0 fun i j => .bl (g i j)) Ω (va T i) (va T j) (va T (g i j)) := ro_I0 fun _ => rfl
theorem ru_int {g : Int → Int} : RU (rU fun i => .int (g i)) Ω (va T i) (va T (g i)) := fun F H x hh a1 Q q => ⟨i, a1, q F _ H (Same.refl F) hh rfl⟩
theorem ro_eqI : RO rEq Ω (va T i) (va T j) (va T (decide (i = j))) := fun F H x y hh a1 a2 Q q => by
  have a1 : x = .int i := a1
  have a2 : y = .int j := a2
  subst a1 a2
  refine ⟨rfl, q F _ H (Same.refl F) hh ?_⟩
  show V.bl _ = V.bl _
  congr 1
  exact decide_eq_decide.mpr ⟨V.int.inj, fun h => by rw [h]⟩
theorem ro_neI : RO rNe Ω (va T i) (va T j) (va T (!decide (i = j))) := fun F H x y hh a1 a2 Q q => by
  have a1 : x = .int i := a1
  have a2 : y = .int j := a2
  subst a1 a2
  refine ⟨rfl, q F _ H (Same.refl F) hh ?_⟩
  show V.bl _ = V.bl _
  congr 2
  exact decide_eq_decide.mpr ⟨V.int.inj, fun h => by rw [h]⟩
/-! tests -/
theorem xt_test (h : XE te Γ Ω (va T b) Ω1) : XT (tTest te) Γ Ω b Ω1 := fun F σ H e hh Q q => by
  refine h F σ H e hh _ fun F1 x H1 Ω' e1 hh1 ⟨a1, o1⟩ => ?_
  subst o1
  exact ⟨b, a1, q F1 H1 e1 hh1⟩
theorem xt_tB (h : XE te Γ Ω (va T b) Ω1) : XT (tB te) Γ Ω b Ω1 := xt_test (T := T) h
theorem xt_and (h1 : XT t Γ Ω b Ω1) (h2 : b = true → XT u Γ Ω1 c Ω2) (h3 : b = false → Ω1 = Ω2) : XT (tAnd t u) Γ Ω (b && c) Ω2 := fun F σ H e hh Q q => by
  refine h1 F σ H e hh _ fun F1 H1 e1 hh1 => ?_
  cases b with
  | true => rw [if_pos rfl]; exact h2 rfl F1 σ H1 (e.mono e1) hh1 Q fun F2 H2 e2 hh2 => q F2 H2 (e1.trans e2) hh2
  | false => rw [if_neg Bool.false_ne_true]; exact q F1 H1 e1 (h3 rfl ▸ hh1)
theorem xt_or (h1 : XT t Γ Ω b Ω1) (h2 : b = false → XT u Γ Ω1 c Ω2) (h3 : b = true → Ω1 = Ω2) : XT (tOr t u) Γ Ω (b || c) Ω2 := fun F σ H e hh Q q => by
  refine h1 F σ H e hh _ fun F1 H1 e1 hh1 => ?_
  cases b with
  | false => rw [if_neg Bool.false_ne_true]; exact h2 rfl F1 σ H1 (e.mono e1) hh1 Q fun F2 H2 e2 hh2 => q F2 H2 (e1.trans e2) hh2
  | true => rw [if_pos rfl]; exact q F1 H1 e1 (h3 rfl ▸ hh1)
theorem xt_not (h1 : XT t Γ Ω b Ω1) : XT (tNot t) Γ Ω (!b) Ω1 := fun F σ H e hh Q q => h1 F σ H e hh _ q
theorem xt_eq (h : XT t Γ Ω b Ω1) (e : b = c) : XT t Γ Ω c Ω1 := e ▸ h
theorem xe_if (h : XT t Γ Ω b Ω1) (h1 : b = true → XE ta Γ Ω1 A Ω2) (h2 : b = false → XE tb Γ Ω1 A Ω2) : XE (tIf t ta tb) Γ Ω A Ω2 := fun F σ H e hh Q q => by
  refine h F σ H e hh _ fun F1 H1 e1 hh1 => ?_
  cases b with
  | true => rw [if_pos rfl]; exact h1 rfl F1 σ H1 (e.mono e1) hh1 Q fun F2 v H2 Ω' e2 hh2 r => q F2 v H2 Ω' (e1.trans e2) hh2 r
  | false => rw [if_neg Bool.false_ne_true]; exact h2 rfl F1 σ H1 (e.mono e1) hh1 Q fun F2 v H2 Ω' e2 hh2 r => q F2 v H2 Ω' (e1.trans e2) hh2 r
theorem xe_andV (h1 : XE ta Γ Ω (va T b) Ω) (h2 : b = true → XE tb Γ Ω (va T c) Ω) : XE (tAndV ta tb) Γ Ω (va T (b && c)) Ω := fun F σ H e hh Q q => by
  refine h1 F σ H e hh _ fun F1 x H1 Ω' e1 hh1 ⟨a1, o1⟩ => ?_
  subst o1
  refine ⟨b, a1, ?_⟩
  cases b with
  | true => rw [if_pos rfl]; exact h2 rfl F1 σ H1 (e.mono e1) hh1 Q fun F2 v H2 Ω'' e2 hh2 r => q F2 v H2 Ω'' (e1.trans e2) hh2 r
  | false => rw [if_neg Bool.false_ne_true]; exact q F1 _ H1 _ e1 hh1 ⟨rfl, rfl⟩
theorem xe_orV (h1 : XE ta Γ Ω (va T b) Ω) (h2 : b = false → XE tb Γ Ω (va T c) Ω) : XE (tOrV ta tb) Γ Ω (va T (b || c)) Ω := fun F σ H e hh Q q => by
  refine h1 F σ H e hh _ fun F1 x H1 Ω' e1 hh1 ⟨a1, o1⟩ => ?_
  subst o1
  refine ⟨b, a1, ?_⟩
  cases b with
  | false => rw [if_neg Bool.false_ne_true]; exact h2 rfl F1 σ H1 (e.mono e1) hh1 Q fun F2 v H2 Ω'' e2 hh2 r => q F2 v H2 Ω'' (e1.trans e2) hh2 r
  | true => rw [if_pos rfl]; exact q F1 _ H1 _ e1 hh1 ⟨rfl, rfl⟩
theorem xe_notV (h1 : XE ta Γ Ω (va T b) Ω1) : XE (tNotV ta) Γ Ω (va T (!b)) Ω1 := fun F σ H e hh Q q => by
  refine h1 F σ H e hh _ fun F1 x H1 Ω' e1 hh1 ⟨a1, o1⟩ => ?_
  exact ⟨b, a1, q F1 _ H1 _ e1 hh1 ⟨rfl, o1⟩⟩
theorem xe_chain {r r' : R2} {D : VA} {tc : TE} (ha : XE ta Γ Ω A Ω) (hb : XE tb Γ Ω B Ω) (hr : RO r Ω A B (va T b)) (hc : b = true → XE tc Γ Ω D Ω) (hr' : b = true → RO r' Ω B D (va T c)) : XE (tChain r r' ta tb tc) Γ Ω (va T (b && c)) Ω := fun F σ H e hh Q q => by
  refine ha F σ H e hh _ fun F1 x H1 Ω' e1 hh1 ⟨a1, o1⟩ => ?_
  subst o1
  refine hb F1 σ H1 (e.mono e1) hh1 _ fun F2 y H2 Ω'' e2 hh2 ⟨a2, o2⟩ => ?_
  subst o2
  refine hr F2 H2 x y hh2 (A.mono e2 a1) a2 _ fun F3 v H3 e3 hh3 a3 => ⟨b, a3, ?_⟩
  cases b with
  | true =>
    rw [if_pos rfl]
    refine hc rfl F3 σ H3 (e.mono ((e1.trans e2).trans e3)) hh3 _ fun F4 z H4 Ω3 e4 hh4 ⟨a4, o4⟩ => ?_
    subst o4
    exact hr' rfl F4 H4 y z hh4 (B.mono (e3.trans e4) a2) a4 Q fun F5 w H5 e5 hh5 a5 => q F5 w H5 _ ((((e1.trans e2).trans e3).trans e4).trans e5) hh5 ⟨a5, rfl⟩
  | false => rw [if_neg Bool.false_ne_true]; exact q F3 _ H3 _ ((e1.trans e2).trans e3) hh3 ⟨rfl, rfl⟩
end
end VL

set_option Elab.async false
set_option linter.all false
set_option maxRecDepth 100000
/-! lists, fields, calls, statements -/
namespace VL
open PySem L2

/-! ### defs' promises -/
/-- a promise: of the arguments As in the state Ω, what comes of it -/
abbrev PreT := List VA → List OA → (Hp → V → List OA → Prop) → Prop
def mkSp (Pre : PreT) : Sp := fun vs H Q _ => ∃ F Ω As R, Pre As Ω R ∧ AlA F vs As ∧ Holds F Ω H ∧ ∀ F' v H' Ω', Same F F' → Holds F' Ω' H' → R F' v Ω' → Q v H'
/-- hands back a, leaves Ω2 -/
abbrev RV (A : VA) (Ω2 : List OA) : Hp → V → List OA → Prop := fun F v Ω' => A.P F v ∧ Ω' = Ω2
/-- hands back a new changing thing -/
abbrev RN (Ω2 : List OA) (o : Addr → OA) : Hp → V → List OA → Prop := fun F v Ω' => ∃ p, v = .ref p ∧ Ω' = Ω2 ++ [o p]

/-! ### the changing things by place: those of the caller at the places ks, then a def's own -/
def apk (Ω : List OA) : List (Nat × OA) → List OA
  | [] => Ω
  | p :: r => (apk Ω r).set p.1 p.2
def stt (Ω : List OA) (ks : List (Nat × OA)) (L : List OA) : List OA := apk Ω ks ++ L
theorem apk_len {Ω : List OA} : ∀ ks : List (Nat × OA), (apk Ω ks).length = Ω.length
  | [] => rfl
  | p :: r => by unfold apk; rw [List.length_set, apk_len r]
/-- the places differ and are there -/
structure Okk (Ω : List OA) (keys : List Nat) : Prop where
  nd : keys.Nodup
  lt : ∀ k ∈ keys, k < Ω.length
theorem apk_get {Ω : List OA} : ∀ {ks : List (Nat × OA)} {i : Nat} {k : Nat} {o : OA}, (ks.map (·.1)).Nodup → k < Ω.length → ks[i]? = some (k, o) → (apk Ω ks)[k]? = some o
  | [], _, _, _, _, _, h => by simp at h
  | p :: r, 0, k, o, _, lt, h => by
    cases h
    unfold apk
    rw [List.getElem?_set_self (by rw [apk_len]; exact lt)]
  | p :: r, i + 1, k, o, nd, lt, h => by
    have h : r[i]? = some (k, o) := h
    unfold apk
    obtain ⟨h1, h2⟩ := List.nodup_cons.mp (show (p.1 :: r.map (·.1)).Nodup from nd)
    have ne : p.1 ≠ k := fun e => h1 (List.mem_map.mpr ⟨(k, o), List.mem_of_getElem? h, e.symm⟩)
    rw [List.getElem?_set_ne ne]
    exact apk_get h2 lt h
theorem apk_set {Ω : List OA} : ∀ {ks : List (Nat × OA)} {i : Nat} {k : Nat} {o o' : OA}, (ks.map (·.1)).Nodup → ks[i]? = some (k, o) → (apk Ω ks).set k o' = apk Ω (ks.set i (k, o'))
  | [], _, _, _, _, _, h => by simp at h
  | p :: r, 0, k, o, o', _, h => by
    cases h
    show ((apk Ω r).set k o).set k o' = (apk Ω r).set k o'
    rw [List.set_set]
  | p :: r, i + 1, k, o, o', nd, h => by
    have h : r[i]? = some (k, o) := h
    obtain ⟨h1, h2⟩ := List.nodup_cons.mp (show (p.1 :: r.map (·.1)).Nodup from nd)
    have ne : p.1 ≠ k := fun e => h1 (List.mem_map.mpr ⟨(k, o), List.mem_of_getElem? h, e.symm⟩)
    show ((apk Ω r).set p.1 p.2).set k o' = (apk Ω (r.set i (k, o'))).set p.1 p.2
    rw [List.set_comm _ _ ne, apk_set h2 h]
theorem apk_self {Ω : List OA} : ∀ {ks : List (Nat × OA)}, (∀ p ∈ ks, Ω[p.1]? = some p.2) → apk Ω ks = Ω
  | [], _ => rfl
  | p :: r, h => by
    unfold apk
    rw [apk_self fun q hq => h q (List.mem_cons_of_mem _ hq)]
    apply List.ext_getElem?
    intro k
    have hp := h p List.mem_cons_self
    by_cases e : p.1 = k
    · subst e; rw [List.getElem?_set_self (getlt hp), hp]
    · rw [List.getElem?_set_ne e]
section
variable {Ω : List OA} {keys : List Nat} {ks : List (Nat × OA)} {L : List OA} {i j k : Nat} {o o' : OA}
theorem stt_get (ok : Okk Ω keys) (h : ks[i]? = some (k, o)) (hk : ks.map (·.1) = keys := by rfl) : (stt Ω ks L)[k]? = some o := by
  subst hk
  have hm : k ∈ ks.map (·.1) := List.mem_map.mpr ⟨(k, o), List.mem_of_getElem? h, rfl⟩
  have lt := ok.lt k hm
  unfold stt
  rw [List.getElem?_append_left (by rw [apk_len]; exact lt)]
  exact apk_get ok.nd lt h
theorem stt_set (ok : Okk Ω keys) (h : ks[i]? = some (k, o)) (hk : ks.map (·.1) = keys := by rfl) : (stt Ω ks L).set k o' = stt Ω (ks.set i (k, o')) L := by
  subst hk
  have hm : k ∈ ks.map (·.1) := List.mem_map.mpr ⟨(k, o), List.mem_of_getElem? h, rfl⟩
  have lt := ok.lt k hm
  unfold stt
  rw [List.set_append_left _ _ (by rw [apk_len]; exact lt), apk_set ok.nd h]
theorem stt_getL (h : L[j]? = some o) : (stt Ω ks L)[Ω.length + j]? = some o := by
  unfold stt
  rw [List.getElem?_append_right (by rw [apk_len]; omega), apk_len, Nat.add_sub_cancel_left]
  exact h
theorem stt_setL : (stt Ω ks L).set (Ω.length + j) o' = stt Ω ks (L.set j o') := by
  unfold stt
  rw [List.set_append_right _ _ (by rw [apk_len]; omega), apk_len, Nat.add_sub_cancel_left]
theorem stt_app : stt Ω ks L ++ [o] = stt Ω ks (L ++ [o]) := List.append_assoc _ _ _
theorem stt_self (h : ∀ p ∈ ks, Ω[p.1]? = some p.2) : stt Ω ks [] = Ω := by
  unfold stt
  rw [apk_self h, List.append_nil]
theorem stt_nil : stt Ω ks [] = apk Ω ks := List.append_nil _
theorem apk_out {Ω : List OA} : ∀ {ks : List (Nat × OA)}, k ∉ ks.map (·.1) → (apk Ω ks)[k]? = Ω[k]?
  | [], _ => rfl
  | p :: r, h => by
    unfold apk
    have h : k ∉ p.1 :: r.map (·.1) := h
    rw [List.getElem?_set_ne (fun e => h (by rw [e]; exact List.mem_cons_self))]
    exact apk_out fun m => h (List.mem_cons_of_mem _ m)
theorem stt_getU (h : Ω[k]? = some o) (hn : k ∉ ks.map (·.1) := by simp) : (stt Ω ks L)[k]? = some o := by
  unfold stt
  rw [List.getElem?_append_left (by rw [apk_len]; exact getlt h), apk_out hn]
  exact h
theorem cal0 : stt (stt Ω ks L) [] [] = stt Ω ks L := List.append_nil _
theorem stt_one {Ω : List OA} : stt Ω [(k, o)] [] = Ω.set k o := List.append_nil _
theorem cal1 (ok : Okk Ω keys) (h : ks[i]? = some (k, o)) (hk : ks.map (·.1) = keys := by rfl) : stt (stt Ω ks L) [(k, o')] [] = stt Ω (ks.set i (k, o')) L := stt_one.trans (stt_set ok h hk)
theorem cal1L : stt (stt Ω ks L) [(Ω.length + j, o')] [] = stt Ω ks (L.set j o') := stt_one.trans stt_setL
theorem okk0 : Okk Ω [] := ⟨by simp, fun k h => by cases h⟩
theorem okk1 (h : Ω[k]? = some o) : Okk Ω [k] := ⟨by simp, fun m hm => by rw [List.mem_singleton.mp hm]; exact getlt h⟩
end
section
variable {T : TC} {Γ : List (Option VA)} {Ω Ω1 Ω2 : List OA} {A B C : VA} {As : List VA} {ta tb te : TE} {t u : TT} {i j n m : Int} {b c : Bool}
theorem xg_call {Pre : PreT} {E : XK} {t : TA} {R : Hp → V → List OA → Prop} (ha : XA t Γ Ω As Ω1) (hp : Pre As Ω1 R) : XG (tCall (mkSp Pre) [] E t) Γ Ω R := fun F σ H e hh Q q => by
  refine ha F σ H e hh _ fun F1 xs H1 e1 hh1 a1 => ?_
  refine ⟨F1, Ω1, As, R, hp, by rw [List.append_nil]; exact a1, hh1, fun F' v H' Ω' e' hh' r => q F' v H' Ω' (e1.trans e') hh' r⟩
theorem xg_callD {Pre : PreT} {E : XK} {t : TA} {dvs : List V} {Ds : List VA} {R : Hp → V → List OA → Prop} (ha : XA t Γ Ω As Ω1) (hd : ∀ F, AlA F dvs Ds) (hp : Pre (As ++ Ds) Ω1 R) : XG (tCall (mkSp Pre) dvs E t) Γ Ω R := fun F σ H e hh Q q => by
  refine ha F σ H e hh _ fun F1 xs H1 e1 hh1 a1 => ?_
  exact ⟨F1, Ω1, As ++ Ds, R, hp, a1.app (hd F1), hh1, fun F' v H' Ω' e' hh' r => q F' v H' Ω' (e1.trans e') hh' r⟩
/-! ### the state ahead of a statement -/
def NX (F0 : Hp) (Γ : List (Option VA)) (Ω : List OA) : St → Hp → Prop := fun σ H => ∃ F, Same F0 F ∧ Env F σ Γ ∧ Holds F Ω H
def RT (F0 : Hp) (R : Hp → V → List OA → Prop) : VK → Prop := fun Q => ∀ F v H Ω, Same F0 F → Holds F Ω H → R F v Ω → Q v H
def XS (t : TS) (D : Ends) (F0 : Hp) (Γ : List (Option VA)) (Ω : List OA) : Prop := ∀ σ H, NX F0 Γ Ω σ H → t D σ H
theorem RT.mono {F0 F1 : Hp} {R : Hp → V → List OA → Prop} {Q : VK} (k : RT F0 R Q) (e : Same F0 F1) : RT F1 R Q := fun F v H Ω f hh r => k F v H Ω (e.trans f) hh r
variable {D : Ends} {F0 : Hp} {t1 t2 ts : TS} {R : Hp → V → List OA → Prop}
theorem xs_set {k : Nat} (h : XE te Γ Ω A Ω1) (q : XS ts D F0 (Γ.set k (some A)) Ω1) : XS (tSeq (tAsg te (gName k)) ts) D F0 Γ Ω := fun σ H ⟨F, f0, e, hh⟩ =>
  h F σ H e hh _ fun F1 v H1 Ω' e1 hh1 ⟨a1, o1⟩ => q _ H1 ⟨F1, f0.trans e1, (e.mono e1).set a1, o1 ▸ hh1⟩
theorem xs_setN {k : Nat} {o : Addr → OA} (h : XG te Γ Ω (RN Ω1 o)) (q : ∀ p, XS ts D F0 (Γ.set k (some (vr p))) (Ω1 ++ [o p])) : XS (tSeq (tAsg te (gName k)) ts) D F0 Γ Ω := fun σ H ⟨F, f0, e, hh⟩ =>
  h F σ H e hh _ fun F1 v H1 Ω' e1 hh1 ⟨p, a1, o1⟩ => q p _ H1 ⟨F1, f0.trans e1, (e.mono e1).set (A := vr p) a1, o1 ▸ hh1⟩
theorem xs_drop (h : XE te Γ Ω A Ω1) (q : XS ts D F0 Γ Ω1) : XS (tSeq (tDrop te) ts) D F0 Γ Ω := fun σ H ⟨F, f0, e, hh⟩ =>
  h F σ H e hh _ fun F1 v H1 Ω' e1 hh1 ⟨_, o1⟩ => q σ H1 ⟨F1, f0.trans e1, e.mono e1, o1 ▸ hh1⟩
/-- the same as the block's last statement -/
theorem xs_set1 {k : Nat} (h : XE te Γ Ω A Ω1) (q : ∀ σ H, NX F0 (Γ.set k (some A)) Ω1 σ H → D.nx σ H) : XS (tAsg te (gName k)) D F0 Γ Ω := fun σ H ⟨F, f0, e, hh⟩ =>
  h F σ H e hh _ fun F1 v H1 Ω' e1 hh1 ⟨a1, o1⟩ => q _ H1 ⟨F1, f0.trans e1, (e.mono e1).set a1, o1 ▸ hh1⟩
theorem xs_drop1 (h : XE te Γ Ω A Ω1) (q : ∀ σ H, NX F0 Γ Ω1 σ H → D.nx σ H) : XS (tDrop te) D F0 Γ Ω := fun σ H ⟨F, f0, e, hh⟩ =>
  h F σ H e hh _ fun F1 v H1 Ω' e1 hh1 ⟨_, o1⟩ => q σ H1 ⟨F1, f0.trans e1, e.mono e1, o1 ▸ hh1⟩
theorem xs_ret (h : XG te Γ Ω R) (q : RT F0 R D.rt) : XS (tRet te) D F0 Γ Ω := fun σ H ⟨F, f0, e, hh⟩ =>
  h F σ H e hh _ fun F1 v H1 Ω' e1 hh1 r => q F1 v H1 Ω' (f0.trans e1) hh1 r
/-- what is made in a def and not told is left -/
theorem RT.drop {Q : VK} {A : VA} {o : OA} (k : RT F0 (RV A Ω) Q) : RT F0 (RV A (Ω ++ [o])) Q := fun F v H Ω' f hh ⟨a, e⟩ => by
  subst e
  exact k F v H Ω f hh.drop ⟨a, rfl⟩
theorem xs_ifT (h : XT t Γ Ω true Ω1) (q : XS t1 { D with nx := ts D } F0 Γ Ω1) : XS (tSeq (tIfS t t1 t2) ts) D F0 Γ Ω := fun σ H ⟨F, f0, e, hh⟩ =>
  h F σ H e hh _ fun F1 H1 e1 hh1 => by rw [if_pos rfl]; exact q σ H1 ⟨F1, f0.trans e1, e.mono e1, hh1⟩
theorem xs_ifF (h : XT t Γ Ω false Ω1) (q : XS t2 { D with nx := ts D } F0 Γ Ω1) : XS (tSeq (tIfS t t1 t2) ts) D F0 Γ Ω := fun σ H ⟨F, f0, e, hh⟩ =>
  h F σ H e hh _ fun F1 H1 e1 hh1 => by rw [if_neg Bool.false_ne_true]; exact q σ H1 ⟨F1, f0.trans e1, e.mono e1, hh1⟩
theorem xs_ifT1 (h : XT t Γ Ω true Ω1) (q : XS t1 D F0 Γ Ω1) : XS (tIfS t t1 t2) D F0 Γ Ω := fun σ H ⟨F, f0, e, hh⟩ =>
  h F σ H e hh _ fun F1 H1 e1 hh1 => by rw [if_pos rfl]; exact q σ H1 ⟨F1, f0.trans e1, e.mono e1, hh1⟩
theorem xs_ifF1 (h : XT t Γ Ω false Ω1) (q : XS t2 D F0 Γ Ω1) : XS (tIfS t t1 t2) D F0 Γ Ω := fun σ H ⟨F, f0, e, hh⟩ =>
  h F σ H e hh _ fun F1 H1 e1 hh1 => by rw [if_neg Bool.false_ne_true]; exact q σ H1 ⟨F1, f0.trans e1, e.mono e1, hh1⟩
/-- a statement, a word between, the rest -/
theorem xs_cut {Γ' : List (Option VA)} {Ω' : List OA} (h : XS t1 { D with nx := NX F0 Γ' Ω' } F0 Γ Ω) (k : XS ts D F0 Γ' Ω') : XS (Evl.tCut t1 ts) D F0 Γ Ω := fun σ H n => ⟨NX F0 Γ' Ω', h σ H n, fun σ' H' m => k σ' H' m⟩
/-- what is known is left -/
theorem NX.weak {Γ' : List (Option VA)} {σ : St} {H : Hp} (h : NX F0 Γ Ω σ H) (hl : Γ'.length = Γ.length) (k : ∀ (i : Nat) A, Γ'[i]? = some (some A) → Γ[i]? = some (some A)) : NX F0 Γ' Ω σ H :=
  let ⟨F, f0, e, hh⟩ := h
  ⟨F, f0, e.weak hl k, hh⟩
theorem NX.drop {o : OA} {σ : St} {H : Hp} (h : NX F0 Γ (Ω ++ [o]) σ H) : NX F0 Γ Ω σ H := let ⟨F, f0, e, hh⟩ := h; ⟨F, f0, e, hh.drop⟩
/-- what an expression makes anew becomes frozen -/
theorem xe_fz {α : Type} [Rp α] {l : List α} (h : XG te Γ Ω (RN Ω1 fun p => lstA T p l)) : XE te Γ Ω (va T (LF.mk l)) Ω1 := fun F σ H e hh Q q =>
  h F σ H e hh Q fun F1 v H1 Ω' e1 hh1 ⟨p, hv, o1⟩ => by
    subst o1
    obtain ⟨F', t, s1, s2, ⟨vs, ht, al⟩, hh'⟩ := hh1.freeze
    exact q F' v H1 _ (e1.trans s1) hh' ⟨⟨p, vs, hv, s2 _ _ ht, al.mono s1⟩, rfl⟩
theorem xs_seq (h : XS t1 { D with nx := ts D } F0 Γ Ω) : XS (tSeq t1 ts) D F0 Γ Ω := h
/-! ### tests whose second part may be undefined -/
theorem xt_andO {mb : Option Bool} {v : Bool} (h1 : XT t Γ Ω b Ω) (hm : (if b = true then mb else some false) = some v) (h2 : ∀ v, mb = some v → XT u Γ Ω v Ω) : XT (tAnd t u) Γ Ω v Ω := fun F σ H e hh Q q => by
  refine h1 F σ H e hh _ fun F1 H1 e1 hh1 => ?_
  cases b with
  | true =>
    rw [if_pos rfl] at hm ⊢
    exact h2 v hm F1 σ H1 (e.mono e1) hh1 Q fun F2 H2 e2 hh2 => q F2 H2 (e1.trans e2) hh2
  | false =>
    rw [if_neg Bool.false_ne_true] at hm ⊢
    cases hm
    exact q F1 H1 e1 hh1
/-- a known way through a test -/
theorem xt_orF (h1 : XT t Γ Ω false Ω1) (h2 : XT u Γ Ω1 false Ω2) : XT (tOr t u) Γ Ω false Ω2 := xt_or (b := false) (c := false) h1 (fun _ => h2) (fun h => nomatch h)
theorem xe_andT (h1 : XE ta Γ Ω (va T true) Ω1) (h2 : XE tb Γ Ω1 (va T b) Ω2) : XE (tAndV ta tb) Γ Ω (va T b) Ω2 := fun F σ H e hh Q q => by
  refine h1 F σ H e hh _ fun F1 x H1 Ω' e1 hh1 ⟨a1, o1⟩ => ?_
  subst o1
  refine ⟨true, a1, ?_⟩
  rw [if_pos rfl]
  exact h2 F1 σ H1 (e.mono e1) hh1 Q fun F2 v H2 Ω'' e2 hh2 r => q F2 v H2 Ω'' (e1.trans e2) hh2 r
theorem xt_notF (h1 : XT t Γ Ω true Ω1) : XT (tNot t) Γ Ω false Ω1 := xt_not h1
/-- what an expression's value must be to go on -/
def chk (b : Bool) : Option Unit := if b = true then some () else none
theorem xs_setO {k : Nat} {ks : List (Nat × OA)} {L : List OA} {o : Addr → OA} {Ω0 : List OA} (h : XG te Γ Ω0 (RN (stt Ω ks L) o)) (q : ∀ p, XS ts D F0 (Γ.set k (some (vr p))) (stt Ω ks (L ++ [o p]))) : XS (tSeq (tAsg te (gName k)) ts) D F0 Γ Ω0 :=
  xs_setN h fun p => by rw [stt_app]; exact q p
theorem xe_call {Pre : PreT} {E : XK} {t : TA} {Ω' : List OA} (ha : XA t Γ Ω As Ω1) (hp : Pre As Ω1 (RV A Ω')) (he : Ω' = Ω2) : XE (tCall (mkSp Pre) [] E t) Γ Ω A Ω2 := he ▸ xg_call ha hp
theorem xn_call {Pre : PreT} {E : XK} {t : TA} {Ω' : List OA} {o : Addr → OA} (ha : XA t Γ Ω As Ω1) (hp : Pre As Ω1 (RN Ω' o)) (he : Ω' = Ω2) : XG (tCall (mkSp Pre) [] E t) Γ Ω (RN Ω2 o) := he ▸ xg_call ha hp
theorem NX.forget {σ : L2.St} {H : Hp} (h : NX F0 Γ Ω σ H) (k : Nat) : NX F0 (Γ.set k none) Ω σ H := h.weak (by rw [List.length_set]) fun i A q => by
  by_cases e : k = i
  · subst e
    have lt : k < Γ.length := by have := getlt q; rwa [List.length_set] at this
    rw [List.getElem?_set_self lt] at q
    cases q
  · rwa [List.getElem?_set_ne e] at q
/-- nothing -/
def nilA : OA := ⟨fun _ _ => True, fun _ _ => trivial⟩
theorem Holds.freezeAt {F H : Hp} {Ω : List OA} {o : OA} {i : Nat} (h : Holds F Ω H) (q : Ω[i]? = some o) : ∃ F' t, Same F F' ∧ Same t F' ∧ o.P F t ∧ Holds F' (Ω.set i nilA) H := by
  obtain ⟨ts, h1, h2, h3, h4, h5⟩ := h
  have lt := getlt q
  have d : ∀ b x, ts i b = some x → F b = none := fun b x e => h4 i b x lt e
  refine ⟨cup F (ts i), ts i, cup_l, cup_r d, h1 _ _ q, fun k => if k = i then (fun _ => none) else ts k, fun k x r => ?_, fun b x e => ?_, fun k r b x e => ?_, fun k b x r e => ?_, fun k m b x r r2 ne e => ?_⟩
  · show x.P _ (if k = i then (fun _ => none) else ts k)
    by_cases hk : k = i
    · subst hk
      rw [List.getElem?_set_self lt] at r
      cases r
      exact trivial
    · rw [if_neg hk]
      rw [List.getElem?_set_ne (fun z => hk z.symm)] at r
      exact x.mono cup_l (h1 k x r)
  · rcases cup_or e with e | e
    · exact h2 b x e
    · exact h3 i lt b x e
  · rw [List.length_set] at r
    have e : (if k = i then (fun _ => none) else ts k) b = some x := e
    by_cases hk : k = i
    · rw [if_pos hk] at e; cases e
    · rw [if_neg hk] at e; exact h3 k r b x e
  · rw [List.length_set] at r
    have e : (if k = i then (fun _ => none) else ts k) b = some x := e
    by_cases hk : k = i
    · rw [if_pos hk] at e; cases e
    · rw [if_neg hk] at e
      cases z : cup F (ts i) b with
      | none => rfl
      | some y =>
        rcases cup_or z with z | z
        · exact (nn z (h4 k b x r e)).elim
        · exact (nn z (h5 k i b x r lt hk e)).elim
  · rw [List.length_set] at r r2
    have e : (if k = i then (fun _ => none) else ts k) b = some x := e
    show (if m = i then (fun _ => none) else ts m) b = none
    by_cases hm : m = i
    · rw [if_pos hm]
    · rw [if_neg hm]
      by_cases hk : k = i
      · rw [if_pos hk] at e; cases e
      · rw [if_neg hk] at e; exact h5 k m b x r r2 ne e
theorem NX.fzJ {α : Type} [Rp α] {l : List α} {p : Addr} {k j : Nat} {ks : List (Nat × OA)} {L : List OA} {σ : L2.St} {H : Hp} (h : NX F0 Γ (stt Ω ks L) σ H) (hk : Γ[k]? = some (some (vr p))) (hj : L[j]? = some (lstA T p l)) : NX F0 (Γ.set k (some (va T (LF.mk l)))) (stt Ω ks (L.set j nilA)) σ H := by
  obtain ⟨F, f0, e, hh⟩ := h
  obtain ⟨F', t, s1, s2, ⟨vs, ht, al⟩, hh'⟩ := hh.freezeAt (stt_getL hj)
  rw [stt_setL] at hh'
  obtain ⟨v, h1, h2⟩ := e.2 k _ hk
  have e2 := (e.mono s1).set (i := k) (v := v) (A := va T (LF.mk l)) ⟨p, vs, h2, s2 _ _ ht, al.mono s1⟩
  have es : σ.set k (some v) = σ := by
    apply List.ext_getElem?
    intro m
    by_cases hm : k = m
    · subst hm; rw [List.getElem?_set_self (getlt h1)]; exact h1.symm
    · rw [List.getElem?_set_ne hm]
  rw [es] at e2
  exact ⟨F', f0.trans s1, e2, hh'⟩
theorem xs_fzJ {α : Type} [Rp α] {l : List α} {p : Addr} {k j : Nat} {ks : List (Nat × OA)} {L : List OA} (hk : Γ[k]? = some (some (vr p))) (hj : L[j]? = some (lstA T p l)) (q : XS ts D F0 (Γ.set k (some (va T (LF.mk l)))) (stt Ω ks (L.set j nilA))) : XS ts D F0 Γ (stt Ω ks L) := fun σ H n => q σ H (n.fzJ hk hj)
/-- one of a def's own things stays, the others are left -/
theorem Holds.sel {F H : Hp} {Ω L : List OA} {o : OA} {j : Nat} (h : Holds F (Ω ++ L) H) (q : L[j]? = some o) : Holds F (Ω ++ [o]) H := by
  obtain ⟨ts, h1, h2, h3, h4, h5⟩ := h
  have lj := getlt q
  have len : (Ω ++ L).length = Ω.length + L.length := List.length_append
  have len1 : (Ω ++ [o]).length = Ω.length + 1 := by simp
  have ix : ∀ k, k < Ω.length + 1 → (if k = Ω.length then Ω.length + j else k) < (Ω ++ L).length := fun k hk => by
    split <;> omega
  have inj : ∀ k m, k < Ω.length + 1 → m < Ω.length + 1 → k ≠ m → (if k = Ω.length then Ω.length + j else k) ≠ (if m = Ω.length then Ω.length + j else m) := fun k m hk hm ne => by
    split <;> split <;> omega
  refine ⟨fun k => ts (if k = Ω.length then Ω.length + j else k), fun k x r => ?_, h2, fun k r => h3 _ (ix k (by omega)), fun k b x r e => h4 _ b x (ix k (by omega)) e, fun k m b x r r2 ne e => h5 _ _ b x (ix k (by omega)) (ix m (by omega)) (inj k m (by omega) (by omega) ne) e⟩
  by_cases hk : k = Ω.length
  · subst hk
    rw [app_at] at r
    cases r
    show o.P F (ts (if Ω.length = Ω.length then Ω.length + j else Ω.length))
    rw [if_pos rfl]
    refine h1 _ _ ?_
    rw [List.getElem?_append_right (by omega), Nat.add_sub_cancel_left]
    exact q
  · have lt : k < Ω.length := by have := getlt r; omega
    show x.P F (ts (if k = Ω.length then Ω.length + j else k))
    rw [if_neg hk]
    rw [List.getElem?_append_left lt] at r
    refine h1 _ _ ?_
    rw [List.getElem?_append_left lt]
    exact r
theorem Holds.all {F H : Hp} {Ω : List OA} {ks : List (Nat × OA)} {L : List OA} (h : Holds F (stt Ω ks L) H) : Holds F (stt Ω ks []) H := by
  obtain ⟨ts, h1, h2, h3, h4, h5⟩ := h
  have len : (stt Ω ks L).length = (apk Ω ks).length + L.length := List.length_append
  have e : stt Ω ks [] = apk Ω ks := stt_nil
  rw [e]
  exact ⟨ts, fun i o q => h1 i o (by unfold stt; rw [List.getElem?_append_left (getlt q)]; exact q), h2, fun i q => h3 i (by omega), fun i b x q => h4 i b x (by omega), fun i j b x qi qj => h5 i j b x (by omega) (by omega)⟩
theorem RT.all {Q : VK} {A : VA} {ks : List (Nat × OA)} {L : List OA} (k : RT F0 (RV A (stt Ω ks [])) Q) : RT F0 (RV A (stt Ω ks L)) Q := fun F v H Ω' f hh ⟨a, e⟩ => by
  subst e
  exact k F v H _ f hh.all ⟨a, rfl⟩
theorem RT.allN {Q : VK} {o : Addr → OA} {ks : List (Nat × OA)} {L : List OA} (k : RT F0 (RN (stt Ω ks []) o) Q) : RT F0 (RN (stt Ω ks L) o) Q := fun F v H Ω' f hh ⟨p, a, e⟩ => by
  subst e
  rw [stt_app] at hh
  refine k F v H _ f (Holds.sel (Ω := apk Ω ks) (o := o p) (j := L.length) hh app_at) ⟨p, a, ?_⟩
  rw [stt_nil]
/-! ### loops -/
inductive Stp (S ρ : Type) where
  | nx (s : S) | rt (r : ρ) | bk (s : S)
def whileM {S ρ : Type} (c : S → Option Bool) (b : S → Option (Stp S ρ)) : Nat → S → Option (Stp S ρ)
  | 0, _ => none
  | n + 1, s => (c s).bind fun v => if v = true then (b s).bind fun
      | .nx s' => whileM c b n s'
      | .rt r => some (.rt r)
      | .bk s' => some (.nx s')
    else some (.nx s)
def forM' {α S ρ : Type} (b : α → S → Option (Stp S ρ)) : List α → S → Option (Stp S ρ)
  | [], s => some (.nx s)
  | x :: r, s => (b x s).bind fun
      | .nx s' => forM' b r s'
      | .rt v => some (.rt v)
      | .bk s' => some (.nx s')
/-- what a loop hands on -/
def nxt {S ρ : Type} : Stp S ρ → Option S
  | .nx s => some s
  | _ => none
def aft {S ρ : Type} (st : Stp S ρ) (k : S → Option ρ) : Option ρ := match st with
  | .nx s => k s
  | .rt r => some r
  | .bk _ => none
/-- what a block's end must lead to: st by the block's own word -/
structure To {S ρ : Type} (D : Ends) (F0 : Hp) (st : Stp S ρ) (N B : S → St → Hp → Prop) (RR : ρ → Hp → V → List OA → Prop) : Prop where
  nx : ∀ s, st = .nx s → ∀ σ H, N s σ H → D.nx σ H
  ct : ∀ s, st = .nx s → ∀ σ H, N s σ H → D.ct σ H
  bk : ∀ s, st = .bk s → ∀ σ H, B s σ H → D.bk σ H
  rt : ∀ r, st = .rt r → RT F0 (RR r) D.rt
theorem bnd_some {α β : Type} {o : Option α} {f : α → Option β} {r : β} (h : o.bind f = some r) : ∃ a, o = some a ∧ f a = some r := by
  cases o with
  | none => cases h
  | some a => exact ⟨a, rfl, h⟩
theorem xs_while {S ρ : Type} {c : S → Option Bool} {bd : S → Option (Stp S ρ)} {fuel : Nat} {s0 : S} {st : Stp S ρ} {tc : TT} {tb : TS} (G : S → List (Option VA)) (O : S → List OA) (RR : ρ → Hp → V → List OA → Prop)
    (hm : whileM c bd fuel s0 = some st)
    (hc : ∀ s v, c s = some v → XT tc (G s) (O s) v (O s))
    (hb : ∀ s s', c s = some true → bd s = some s' → ∀ F1 D', Same F0 F1 → To D' F1 s' (fun s => NX F1 (G s) (O s)) (fun s => NX F1 (G s) (O s)) RR → XS tb D' F1 (G s) (O s))
    (hn : ∀ s, st = .nx s → ∀ σ H, NX F0 (G s) (O s) σ H → D.nx σ H) (hr : ∀ r, st = .rt r → RT F0 (RR r) D.rt) : XS (tWhile tc tb) D F0 (G s0) (O s0) := by
  intro σ H n0
  refine ⟨fun m σ H => ∃ s, whileM c bd m s = some st ∧ NX F0 (G s) (O s) σ H, ⟨fuel, s0, hm, n0⟩, ?_⟩
  rintro m σ H ⟨s, hs, F, f0, e, hh⟩
  cases m with
  | zero => cases hs
  | succ m =>
    obtain ⟨v, hv, hs⟩ := bnd_some hs
    refine hc s v hv F σ H e hh _ fun F1 H1 e1 hh1 => ?_
    cases v with
    | false =>
      rw [if_neg Bool.false_ne_true]
      rw [if_neg Bool.false_ne_true] at hs
      cases hs
      exact hn s rfl σ H1 ⟨F1, f0.trans e1, e.mono e1, hh1⟩
    | true =>
      rw [if_pos rfl] at hs ⊢
      obtain ⟨s', hs', hs⟩ := bnd_some hs
      have hN : ∀ σ' H', (∃ s2, s' = .nx s2 ∧ NX F0 (G s2) (O s2) σ' H') → ∃ m', m' < m + 1 ∧ ∃ s, whileM c bd m' s = some st ∧ NX F0 (G s) (O s) σ' H' := by
        rintro σ' H' ⟨s2, rfl, n2⟩
        exact ⟨m, Nat.lt_succ_self _, s2, hs, n2⟩
      refine ⟨fun σ' H' => ∃ s2, s' = .nx s2 ∧ NX F0 (G s2) (O s2) σ' H', hN, ?_⟩
      refine hb s s' hv hs' F0 { D with nx := fun σ' H' => ∃ s2, s' = .nx s2 ∧ NX F0 (G s2) (O s2) σ' H', ct := fun σ' H' => ∃ s2, s' = .nx s2 ∧ NX F0 (G s2) (O s2) σ' H', bk := D.nx } (Same.refl _) ⟨fun s2 z σ' H' n2 => ⟨s2, z, n2⟩, fun s2 z σ' H' n2 => ⟨s2, z, n2⟩, fun s2 z σ' H' n2 => ?_, fun r z => ?_⟩ σ H1 ⟨F1, f0.trans e1, e.mono e1, hh1⟩
      · subst z
        cases hs
        exact hn s2 rfl σ' H' n2
      · subst z
        cases hs
        exact hr r rfl
/-- what a for's target does with its item -/
def Tgt (g : TG) (A : VA) (f : List (Option VA) → List (Option VA)) (js : List Nat) : Prop := ∀ F σ Γ x H Ω, Env F σ Γ → Holds F Ω H → A.P F x → ∀ Q : L2.St → Hp → Prop,
  (∀ F' σ' H', Same F F' → Env F' σ' (f Γ) → Holds F' Ω H' → (∀ vs, (∀ j ∈ js, j ∈ vs) → wipe σ' vs = wipe σ vs) → Q σ' H') → g x σ H Q
theorem wipe_set {σ : L2.St} {j : Nat} {v : Option V} : ∀ {vs : List Nat}, j ∈ vs → wipe (σ.set j v) vs = wipe σ vs := by
  intro vs hj
  apply List.ext_getElem?
  intro k
  have len : (wipe (σ.set j v) vs).length = (wipe σ vs).length := by rw [wipe_length, wipe_length, List.length_set]
  by_cases hk : k ∈ vs
  · have : ∀ (τ : L2.St) (vs : List Nat), k ∈ vs → k < τ.length → (wipe τ vs)[k]? = some none := by
      intro τ vs
      induction vs with
      | nil => intro h; cases h
      | cons a r ih =>
        intro h lt
        unfold wipe
        by_cases ha : a = k
        · subst ha; rw [List.getElem?_set_self (by rw [wipe_length]; exact lt)]
        · rw [List.getElem?_set_ne ha]
          rcases List.mem_cons.mp h with z | z
          · exact absurd z.symm ha
          · exact ih z lt
    by_cases lt : k < σ.length
    · rw [this σ vs hk lt, this _ vs hk (by rw [List.length_set]; exact lt)]
    · rw [List.getElem?_eq_none (by rw [wipe_length, List.length_set]; omega), List.getElem?_eq_none (by rw [wipe_length]; omega)]
  · rw [wipe_out hk, wipe_out hk]
    have ne : j ≠ k := fun e => hk (e ▸ hj)
    rw [List.getElem?_set_ne ne]
theorem tgt_name {k : Nat} : Tgt (gName k) A (fun Γ => Γ.set k (some A)) [k] := fun F σ Γ x H Ω e hh a Q q => q F _ H (Same.refl F) (e.set a) hh fun vs h => wipe_set (h k List.mem_cons_self)
theorem tgt_pair {α β : Type} [Rp α] [Rp β] {x : α × β} {k l : Nat} : Tgt (gTup T.K 2 (gCons (gName k) (gCons (gName l) gNil))) (va T x) (fun Γ => (Γ.set k (some (va T x.1))).set l (some (va T x.2))) [k, l] := fun F σ Γ v H Ω e hh a Q q => by
  obtain ⟨p, y, z, rfl, ht, ry, rz⟩ := a
  refine ⟨p, [y, z], rfl, Same.tup hh.same ht, rfl, y, [z], rfl, z, [], rfl, rfl, ?_⟩
  exact q F _ H (Same.refl F) ((e.set (A := va T x.1) ry).set (A := va T x.2) rz) hh fun vs h => (wipe_set (h l (by simp))).trans (wipe_set (h k (by simp)))
theorem tgt_triple {α β γ : Type} [Rp α] [Rp β] [Rp γ] {x : T3 α β γ} {k l m : Nat} : Tgt (gTup T.K 3 (gCons (gName k) (gCons (gName l) (gCons (gName m) gNil)))) (va T x) (fun Γ => ((Γ.set k (some (va T x.a))).set l (some (va T x.b))).set m (some (va T x.c))) [k, l, m] := fun F σ Γ v H Ω e hh a Q q => by
  obtain ⟨p, y, z, w, rfl, ht, ry, rz, rw⟩ := a
  refine ⟨p, [y, z, w], rfl, Same.tup hh.same ht, rfl, y, [z, w], rfl, z, [w], rfl, w, [], rfl, rfl, ?_⟩
  exact q F _ H (Same.refl F) (((e.set (A := va T x.a) ry).set (A := va T x.b) rz).set (A := va T x.c) rw) hh fun vs h => (wipe_set (h m (by simp))).trans ((wipe_set (h l (by simp))).trans (wipe_set (h k (by simp))))
structure Wk {α : Type} (J : It) (Sx : Hp → Prop) (xs : List α) (A : α → VA) : Prop where
  mono : ∀ F F', Same F F' → Sx F → Sx F'
  go : ∀ (i : Nat) F Ω H, Sx F → Holds F Ω H → i < xs.length → J.go i H
  stop : ∀ F Ω H, Sx F → Holds F Ω H → J.stop xs.length H
  yld : ∀ (i : Nat) a F Ω H x H', Sx F → Holds F Ω H → xs[i]? = some a → J.yld i H x H' → ∃ F', Same F F' ∧ Holds F' Ω H' ∧ (A a).P F' x
def XI {α : Type} (wi : TI) (Γ : List (Option VA)) (Ω : List OA) (xs : List α) (A : α → VA) (Ω2 : List OA) : Prop :=
  ∀ F σ H, Env F σ Γ → Holds F Ω H → ∀ R : It → Hp → Prop, (∀ F' J H' Sx, Same F F' → Holds F' Ω2 H' → Wk J Sx xs A → Sx F' → R J H') → wi σ H R
theorem xs_for {α S ρ : Type} {bd : α → S → Option (Stp S ρ)} {s0 : S} {st : Stp S ρ} {wi : TI} {tb : TS} {g : TG} {xs : List α} {A : α → VA} {f : α → List (Option VA) → List (Option VA)} (G : S → List (Option VA)) (O : S → List OA) (RR : ρ → Hp → V → List OA → Prop)
    (hm : forM' bd xs s0 = some st) (hi : XI wi (G s0) Ω xs A (O s0)) {js : List Nat} (ht : ∀ a, Tgt g (A a) (f a) js)
    (hb : ∀ a s s', a ∈ xs → bd a s = some s' → ∀ F1 D', Same F0 F1 → To D' F1 s' (fun s => NX F1 (G s) (O s)) (fun s => NX F1 (G s) (O s)) RR → XS tb D' F1 (f a (G s)) (O s))
    (hn : ∀ s, st = .nx s → ∀ σ H, NX F0 (G s) (O s) σ H → D.nx σ H) (hr : ∀ r, st = .rt r → RT F0 (RR r) D.rt) : XS (tFor wi g tb) D F0 (G s0) Ω := by
  rintro σ H ⟨F, f0, e, hh⟩
  refine hi F σ H e hh _ fun F1 J H1 Sx e1 hh1 W sx => ?_
  refine ⟨fun i m σ H => m = xs.length - i ∧ i ≤ xs.length ∧ ∃ s F, forM' bd (xs.drop i) s = some st ∧ Same F0 F ∧ Sx F ∧ Env F σ (G s) ∧ Holds F (O s) H, ⟨xs.length, by simp, Nat.zero_le _, s0, F1, by rw [List.drop_zero]; exact hm, f0.trans e1, sx, e.mono e1, hh1⟩, ?_⟩
  rintro i m σ H ⟨rfl, hi, s, F, hs, f0, sx, e, hh⟩
  by_cases hlt : i < xs.length
  · refine .inr ⟨W.go i F (O s) H sx hh hlt, ?_⟩
    have hx : xs[i]? = some xs[i] := List.getElem?_eq_getElem hlt
    rw [List.drop_eq_getElem_cons hlt] at hs
    obtain ⟨s', h1, hs⟩ := bnd_some hs
    refine ⟨fun σ' H' => ∃ s2, s' = .nx s2 ∧ ∃ F, Same F0 F ∧ Sx F ∧ Env F σ' (G s2) ∧ Holds F (O s2) H', ?_, fun x H' y => ?_⟩
    · rintro σ' H' ⟨s2, rfl, F', f0', sx', e', hh'⟩
      exact ⟨xs.length - (i + 1), by omega, rfl, hlt, s2, F', hs, f0', sx', e', hh'⟩
    · obtain ⟨F2, e2, hh2, a2⟩ := W.yld i _ F (O s) H x H' sx hh hx y
      refine ht xs[i] F2 σ (G s) x H' (O s) (e.mono e2) hh2 a2 _ fun F3 σ3 H3 e3 en3 hh3 _ => ?_
      have sx3 := W.mono _ _ (e2.trans e3) sx
      have f3 : Same F0 F3 := f0.trans (e2.trans e3)
      have gN : ∀ (s2 : S) (σ' : L2.St) (H' : Hp), NX F3 (G s2) (O s2) σ' H' → ∃ F, Same F0 F ∧ Sx F ∧ Env F σ' (G s2) ∧ Holds F (O s2) H' := fun s2 σ' H' ⟨F4, f4, e4, hh4⟩ => ⟨F4, f3.trans f4, W.mono _ _ f4 sx3, e4, hh4⟩
      have gW : ∀ (s2 : S) (σ' : L2.St) (H' : Hp), NX F3 (G s2) (O s2) σ' H' → NX F0 (G s2) (O s2) σ' H' := fun s2 σ' H' ⟨F4, f4, e4, hh4⟩ => ⟨F4, f3.trans f4, e4, hh4⟩
      refine hb xs[i] s s' (List.getElem_mem hlt) h1 F3 { D with nx := fun σ' H' => ∃ s2, s' = .nx s2 ∧ ∃ F, Same F0 F ∧ Sx F ∧ Env F σ' (G s2) ∧ Holds F (O s2) H', ct := fun σ' H' => ∃ s2, s' = .nx s2 ∧ ∃ F, Same F0 F ∧ Sx F ∧ Env F σ' (G s2) ∧ Holds F (O s2) H', bk := D.nx } f3 ⟨fun s2 z σ' H' n2 => ⟨s2, z, gN s2 σ' H' n2⟩, fun s2 z σ' H' n2 => ⟨s2, z, gN s2 σ' H' n2⟩, fun s2 z σ' H' n2 => ?_, fun r z => ?_⟩ σ3 H3 ⟨F3, Same.refl _, en3, hh3⟩
      · subst z
        cases hs
        exact hn s2 rfl σ' H' (gW s2 σ' H' n2)
      · subst z
        cases hs
        exact (hr r rfl).mono f3
  · have ei : i = xs.length := by omega
    subst ei
    refine .inl ⟨W.stop F (O s) H sx hh, ?_⟩
    rw [List.drop_length] at hs
    cases hs
    exact hn s rfl σ H ⟨F, f0, e, hh⟩
theorem xs_whileS {S ρ : Type} {c : S → Option Bool} {bd : S → Option (Stp S ρ)} {fuel : Nat} {s0 : S} {st : Stp S ρ} {tc : TT} {tb : TS} (G : S → List (Option VA)) (O : S → List OA) (RR : ρ → Hp → V → List OA → Prop)
    (hm : whileM c bd fuel s0 = some st)
    (hc : ∀ s v, c s = some v → XT tc (G s) (O s) v (O s))
    (hb : ∀ s s', c s = some true → bd s = some s' → ∀ F1 D', Same F0 F1 → To D' F1 s' (fun s => NX F1 (G s) (O s)) (fun s => NX F1 (G s) (O s)) RR → XS tb D' F1 (G s) (O s))
    (hn : ∀ s, st = .nx s → XS ts D F0 (G s) (O s)) (hr : ∀ r, st = .rt r → RT F0 (RR r) D.rt) : XS (tSeq (tWhile tc tb) ts) D F0 (G s0) (O s0) :=
  xs_seq (xs_while G O RR hm hc hb (fun s e σ H n => hn s e σ H n) hr)
theorem xs_forS {α S ρ : Type} {bd : α → S → Option (Stp S ρ)} {s0 : S} {st : Stp S ρ} {wi : TI} {tb : TS} {g : TG} {xs : List α} {A : α → VA} {f : α → List (Option VA) → List (Option VA)} (G : S → List (Option VA)) (O : S → List OA) (RR : ρ → Hp → V → List OA → Prop)
    (hm : forM' bd xs s0 = some st) (hi : XI wi (G s0) Ω xs A (O s0)) {js : List Nat} (ht : ∀ a, Tgt g (A a) (f a) js)
    (hb : ∀ a s s', a ∈ xs → bd a s = some s' → ∀ F1 D', Same F0 F1 → To D' F1 s' (fun s => NX F1 (G s) (O s)) (fun s => NX F1 (G s) (O s)) RR → XS tb D' F1 (f a (G s)) (O s))
    (hn : ∀ s, st = .nx s → XS ts D F0 (G s) (O s)) (hr : ∀ r, st = .rt r → RT F0 (RR r) D.rt) : XS (tSeq (tFor wi g tb) ts) D F0 (G s0) Ω :=
  xs_seq (xs_for G O RR hm hi ht hb (fun s e σ H n => hn s e σ H n) hr)
end
end VL

set_option Elab.async false
set_option linter.all false
set_option maxRecDepth 100000
/-! lists, fields, the machine, the numbers, defs -/
namespace VL
open PySem L2

theorem alA_map {α : Type} [Rp α] {T : TC} {F : Hp} : ∀ {vs : List V} {l : List α}, AlA F vs (l.map (va T)) → Al T F vs l
  | _, [], h => by cases h; exact .nil
  | _, a :: r, h => by cases h with | cons h t => exact .cons h (alA_map t)
def cut {α : Type} (l : List α) (lo hi : Option Int) : List α := (l.drop (HT.sIx l.length 0 lo)).take (HT.sIx l.length l.length hi - HT.sIx l.length 0 lo)
theorem cut_len {α : Type} (l : List α) (lo hi : Option Int) : (cut l lo hi).length ≤ l.length := by
  unfold cut
  rw [List.length_take, List.length_drop]
  omega
theorem al_cut {α : Type} [Rp α] {T : TC} {F : Hp} {vs : List V} {l : List α} (lo hi : Option Int) (h : Al T F vs l) : Al T F (cutV vs lo hi) (cut l lo hi) := by
  unfold cut cutV
  rw [al_len h]
  exact al_take _ (al_drop _ h)
theorem al_at {α : Type} [Rp α] {T : TC} {F : Hp} {vs : List V} {l : List α} {i : Int} {a : α} (h : Al T F vs l) (e : atI l i = some a) : ∃ v, atI vs i = some v ∧ Rp.rep T F v a := by
  unfold atI at e ⊢
  rw [al_len h]
  cases hx : ixN l.length i with
  | none => rw [hx] at e; cases e
  | some k =>
    rw [hx] at e
    exact al_get h e

section
variable {T : TC} {Γ : List (Option VA)} {Ω Ω1 Ω2 Ω3 : List OA} {A B C : VA} {As : List VA} {ta tb te : TE} {t u : TT} {i j n m : Int} {b c : Bool} {α : Type} [Rp α] {l l2 : List α} {F0 : Hp} {D : Ends} {ts : TS}

/-! ### what a list holds, whoever holds it -/
def IsL (T : TC) (Ω : List OA) (A : VA) (l : List α) : Prop := ∀ F H v, Holds F Ω H → A.P F v → ∃ p vs, v = .ref p ∧ SqL T.K H p vs ∧ Al T F vs l
def IsLs (T : TC) (Ω : List OA) (A : VA) (l : List α) : Prop := ∀ F H v, Holds F Ω H → A.P F v → ∃ p vs, v = .ref p ∧ H p = some (.lst vs) ∧ Al T F vs l
def IsT (T : TC) (Ω : List OA) (A : VA) (l : List α) : Prop := ∀ F H v, Holds F Ω H → A.P F v → ∃ p vs, v = .ref p ∧ SqT T.K H p vs ∧ Al T F vs l
theorem isLs_LF : IsLs T Ω (va T (LF.mk l)) l := fun F H v hh ⟨p, vs, h1, h2, h3⟩ => ⟨p, vs, h1, hh.same _ _ h2, h3⟩
theorem isL_LF : IsL T Ω (va T (LF.mk l)) l := fun F H v hh ⟨p, vs, h1, h2, h3⟩ => ⟨p, vs, h1, SqL.of (hh.same _ _ h2), h3⟩
theorem isL_SF : IsL T Ω (va T (SF.mk l)) l := fun F H v hh ⟨p, vs, h1, h2, h3⟩ => ⟨p, vs, h1, hh.same.seq h2, h3⟩
theorem isT_TF : IsT T Ω (va T (TF.mk l)) l := fun F H v hh ⟨p, vs, h1, h2, h3⟩ => ⟨p, vs, h1, Same.tup hh.same h2, h3⟩
theorem isLs_M {k : Nat} {p : Addr} (h : Ω[k]? = some (lstA T p l)) : IsLs T Ω (vr p) l := fun F H v hh e => by
  obtain ⟨t, ⟨vs, h1, h2⟩, st, _⟩ := hh.get h
  exact ⟨p, vs, e, st _ _ h1, h2⟩
theorem isL_M {k : Nat} {p : Addr} (h : Ω[k]? = some (lstA T p l)) : IsL T Ω (vr p) l := fun F H v hh e => by
  obtain ⟨t, ⟨vs, h1, h2⟩, st, _⟩ := hh.get h
  exact ⟨p, vs, e, SqL.of (st _ _ h1), h2⟩

def rLen (K : PySem.W.Frag) : List V → Hp → VK → Prop := fun xs H Q => ∃ p ys, xs = [.ref p] ∧ (SqL K H p ys ∨ SqT K H p ys) ∧ Q (.int ys.length) H
theorem cr_len {X : Cx} : CallR X (.builtin "len") (rLen X.K) := call_len_seq
theorem alA1 {F : Hp} {vs : List V} (h : AlA F vs [A]) : ∃ v, vs = [v] ∧ A.P F v := by
  cases h with
  | cons h t => cases t; exact ⟨_, rfl, h⟩
theorem alA2 {F : Hp} {vs : List V} (h : AlA F vs [A, B]) : ∃ v w, vs = [v, w] ∧ A.P F v ∧ B.P F w := by
  cases h with
  | cons h t => cases t with | cons h2 t => cases t; exact ⟨_, _, rfl, h, h2⟩
theorem rc_lenL (h : IsL T Ω A l) : RC (rLen T.K) Ω [A] (va T (l.length : Int)) := fun F H vs hh a Q q => by
  obtain ⟨v, rfl, a1⟩ := alA1 a
  obtain ⟨p, ws, e, hs, al⟩ := h F H v hh a1
  refine ⟨p, ws, by rw [e], .inl hs, q F _ H (Same.refl F) hh ?_⟩
  show V.int _ = V.int _
  rw [al_len al]
theorem xe_lenL (ha : XE te Γ Ω A Ω1) (h : IsL T Ω1 A l) : XE (tCB (rLen T.K) (tCons te tNil)) Γ Ω (va T (l.length : Int)) Ω1 := xe_cb (xa_cons ha xa_nil) (rc_lenL h)
theorem ro_ixL {a : α} (h : IsL T Ω A l) (e : atI l i = some a) : RO (rIx T.K) Ω A (va T i) (va T a) := fun F H x y hh a1 a2 Q q => by
  obtain ⟨p, ws, rfl, hs, al⟩ := h F H x hh a1
  obtain ⟨v, hv, rv⟩ := al_at al e
  exact .inl ⟨p, ws, i, v, rfl, a2, hs, hv, q F v H (Same.refl F) hh rv⟩
/-! new lists -/
theorem xe_lst {ta : TA} (h : XA ta Γ Ω (l.map (va T)) Ω1) (hz : l.length ≤ sizeLine) : XE (tLst ta) Γ Ω (va T (LF.mk l)) Ω1 := fun F σ H e hh Q q => by
  refine h F σ H e hh _ fun F1 xs H1 e1 hh1 a1 => ?_
  have al := alA_map a1
  refine ⟨by rw [al_len al]; exact hz, fun p hp => ?_⟩
  obtain ⟨hh2, e2⟩ := hh1.newF (u := .lst xs) hp
  exact q _ _ _ _ (e1.trans e2) hh2 ⟨⟨p, xs, rfl, upd_same, al.mono e2⟩, rfl⟩
theorem xn_lst {ta : TA} (h : XA ta Γ Ω (l.map (va T)) Ω1) (hz : l.length ≤ sizeLine) : XG (tLst ta) Γ Ω (RN Ω1 fun p => lstA T p l) := fun F σ H e hh Q q => by
  refine h F σ H e hh _ fun F1 xs H1 e1 hh1 a1 => ?_
  have al := alA_map a1
  refine ⟨by rw [al_len al]; exact hz, fun p hp => ?_⟩
  exact q F1 _ _ _ e1 (hh1.newL (o := lstA T p l) hp ⟨xs, upd_same, al⟩) ⟨p, rfl, rfl⟩
theorem xe_tup2 {β : Type} [Rp β] {a : α} {x : β} {ta : TA} (h : XA ta Γ Ω [va T a, va T x] Ω1) : XE (tTup ta) Γ Ω (va T (a, x)) Ω1 := fun F σ H e hh Q q => by
  refine h F σ H e hh _ fun F1 xs H1 e1 hh1 a1 => ?_
  obtain ⟨v, w, rfl, h1, h2⟩ := alA2 a1
  refine ⟨by show 2 ≤ sizeLine; decide, fun p hp => ?_⟩
  obtain ⟨hh2, e2⟩ := hh1.newF (u := .tup [v, w]) hp
  exact q _ _ _ _ (e1.trans e2) hh2 ⟨⟨p, v, w, rfl, SqT.of upd_same, Rp.mono e2 h1, Rp.mono e2 h2⟩, rfl⟩
theorem xe_tup3 {β γ : Type} [Rp β] [Rp γ] {a : α} {x : β} {y : γ} {ta : TA} (h : XA ta Γ Ω [va T a, va T x, va T y] Ω1) : XE (tTup ta) Γ Ω (va T (T3.mk a x y)) Ω1 := fun F σ H e hh Q q => by
  refine h F σ H e hh _ fun F1 xs H1 e1 hh1 a1 => ?_
  cases a1 with
  | cons h1 a1 =>
    obtain ⟨v, w, rfl, h2, h3⟩ := alA2 a1
    refine ⟨by show 3 ≤ sizeLine; decide, fun p hp => ?_⟩
    obtain ⟨hh2, e2⟩ := hh1.newF (u := .tup [_, v, w]) hp
    exact q _ _ _ _ (e1.trans e2) hh2 ⟨⟨p, _, v, w, rfl, SqT.of upd_same, Rp.mono e2 h1, Rp.mono e2 h2, Rp.mono e2 h3⟩, rfl⟩
theorem xe_tupF {ta : TA} (h : XA ta Γ Ω (l.map (va T)) Ω1) (hz : l.length ≤ sizeLine) : XE (tTup ta) Γ Ω (va T (TF.mk l)) Ω1 := fun F σ H e hh Q q => by
  refine h F σ H e hh _ fun F1 xs H1 e1 hh1 a1 => ?_
  have al := alA_map a1
  refine ⟨by rw [al_len al]; exact hz, fun p hp => ?_⟩
  obtain ⟨hh2, e2⟩ := hh1.newF (u := .tup xs) hp
  exact q _ _ _ _ (e1.trans e2) hh2 ⟨⟨p, xs, rfl, SqT.of upd_same, al.mono e2⟩, rfl⟩
/-- xs + ys -/
theorem ro_cat (h : IsLs T Ω A l) (h2 : IsLs T Ω B l2) (hz : l.length + l2.length ≤ sizeLine) : RO rCat Ω A B (va T (LF.mk (l ++ l2))) := fun F H x y hh a1 a2 Q q => by
  obtain ⟨p, vs, rfl, hp, al⟩ := h F H x hh a1
  obtain ⟨p2, vs2, rfl, hp2, al2⟩ := h2 F H y hh a2
  refine ⟨p, p2, vs, vs2, rfl, rfl, hp, hp2, by rw [al_len al, al_len al2]; exact hz, fun d hd => ?_⟩
  obtain ⟨hh2, e2⟩ := hh.newF (u := .lst (vs ++ vs2)) hd
  exact q _ _ _ e2 hh2 ⟨d, _, rfl, upd_same, (al_app al al2).mono e2⟩
theorem al_repF {vs : List V} {F : Hp} (h : Al T F vs l) : ∀ n : Nat, Al T F (List.replicate n vs).flatten (List.replicate n l).flatten
  | 0 => .nil
  | n + 1 => by rw [List.replicate_succ, List.flatten_cons, List.replicate_succ, List.flatten_cons]; exact al_app h (al_repF h n)
theorem ro_rep (h : IsLs T Ω A l) (h1 : -(2 ^ 63) ≤ i) (h2 : i < 2 ^ 63) (hz : l.length * i.toNat ≤ sizeLine) : RO rRep Ω A (va T i) (va T (LF.mk (List.replicate i.toNat l).flatten)) := fun F H x y hh a1 a2 Q q => by
  obtain ⟨p, vs, rfl, hp, al⟩ := h F H x hh a1
  refine ⟨p, i, vs, rfl, a2, hp, h1, h2, by rw [al_len al]; exact hz, fun d hd => ?_⟩
  obtain ⟨hh2, e2⟩ := hh.newF (u := .lst (List.replicate i.toNat vs).flatten) hd
  exact q _ _ _ e2 hh2 ⟨d, _, rfl, upd_same, (al_repF al _).mono e2⟩
/-- list(xs) -/
def rList (K : PySem.W.Frag) : List V → Hp → VK → Prop := fun xs H Q => ∃ p ys, xs = [.ref p] ∧ (SqL K H p ys ∨ SqT K H p ys) ∧ ∀ l, H l = none → Q (.ref l) (upd H l (.lst ys))
theorem cr_list {X : Cx} : CallR X (.type "list") (rList X.K) := call_list_of
theorem xe_listT (ha : XE te Γ Ω A Ω1) (h : IsT T Ω1 A l) : XE (tCB (rList T.K) (tCons te tNil)) Γ Ω (va T (LF.mk l)) Ω1 := xe_cb (xa_cons ha xa_nil) fun F H vs hh a Q q => by
  obtain ⟨v, rfl, a1⟩ := alA1 a
  obtain ⟨p, ws, e, hs, al⟩ := h F H v hh a1
  refine ⟨p, ws, by rw [e], .inr hs, fun d hd => ?_⟩
  obtain ⟨hh2, e2⟩ := hh.newF (u := .lst ws) hd
  exact q _ _ _ e2 hh2 ⟨d, _, rfl, upd_same, al.mono e2⟩
/-- tuple(xs): of a list, a new one; of a tuple, itself -/
def rTuple (K : PySem.W.Frag) : List V → Hp → VK → Prop := fun xs H Q => ∃ p ys, xs = [.ref p] ∧ ((SqL K H p ys ∧ ∀ l, H l = none → Q (.ref l) (upd H l (.tup ys))) ∨ (SqT K H p ys ∧ Q (.ref p) H))
theorem cr_tuple {X : Cx} : CallR X (.type "tuple") (rTuple X.K) := call_tuple_of
theorem xe_tupleL (ha : XE te Γ Ω A Ω1) (h : IsL T Ω1 A l) : XE (tCB (rTuple T.K) (tCons te tNil)) Γ Ω (va T (TF.mk l)) Ω1 := xe_cb (xa_cons ha xa_nil) fun F H vs hh a Q q => by
  obtain ⟨v, rfl, a1⟩ := alA1 a
  obtain ⟨p, ws, e, hs, al⟩ := h F H v hh a1
  refine ⟨p, ws, by rw [e], .inl ⟨hs, fun d hd => ?_⟩⟩
  obtain ⟨hh2, e2⟩ := hh.newF (u := .tup ws) hd
  exact q _ _ _ e2 hh2 ⟨d, _, rfl, SqT.of upd_same, al.mono e2⟩
theorem xe_tupleT (ha : XE te Γ Ω (va T (TF.mk l)) Ω1) : XE (tCB (rTuple T.K) (tCons te tNil)) Γ Ω (va T (TF.mk l)) Ω1 := xe_cb (xa_cons ha xa_nil) fun F H vs hh a Q q => by
  obtain ⟨v, rfl, a1⟩ := alA1 a
  obtain ⟨p, ws, e, hs, al⟩ := id a1
  exact ⟨p, ws, by rw [e], .inr ⟨Same.tup hh.same hs, q F _ H (Same.refl F) hh (e ▸ a1)⟩⟩
/-! slices -/
def XO (to : TO) (Γ : List (Option VA)) (Ω : List OA) (o : Option Int) : Prop := ∀ F σ H, Env F σ Γ → Holds F Ω H → ∀ Q : Option Int → Hp → Prop, (∀ F' H', Same F F' → Holds F' Ω H' → Q o H') → to σ H Q
theorem xo_none : XO tNoPart Γ Ω none := fun F σ H e hh Q q => q F H (Same.refl F) hh
theorem xo_some (h : XE te Γ Ω (va T i) Ω) : XO (tPart te) Γ Ω (some i) := fun F σ H e hh Q q => by
  refine h F σ H e hh _ fun F1 x H1 Ω' e1 hh1 ⟨a1, o1⟩ => ?_
  subst o1
  exact ⟨i, a1, q F1 H1 e1 hh1⟩
theorem xe_sliceL {tl th : TO} {lo hi : Option Int} (ha : XE te Γ Ω A Ω1) (hl : XO tl Γ Ω1 lo) (hu : XO th Γ Ω1 hi) (h : IsL T Ω1 A l) : XE (tSl (rSlL T.K) te tl th) Γ Ω (va T (LF.mk (cut l lo hi))) Ω1 := fun F σ H e hh Q q => by
  refine ha F σ H e hh _ fun F1 x H1 Ω' e1 hh1 ⟨a1, o1⟩ => ?_
  subst o1
  refine hl F1 σ H1 (e.mono e1) hh1 _ fun F2 H2 e2 hh2 => ?_
  refine hu F2 σ H2 ((e.mono e1).mono e2) hh2 _ fun F3 H3 e3 hh3 => ?_
  obtain ⟨p, ws, rfl, hs, al⟩ := h F3 H3 x hh3 (A.mono (e2.trans e3) a1)
  refine ⟨p, ws, rfl, hs, fun d hd => ?_⟩
  obtain ⟨hh4, e4⟩ := hh3.newF (u := .lst (cutV ws lo hi)) hd
  exact q _ _ _ _ (((e1.trans e2).trans e3).trans e4) hh4 ⟨⟨d, _, rfl, upd_same, (al_cut lo hi al).mono e4⟩, rfl⟩
theorem xe_revL (ha : XE te Γ Ω A Ω1) (h : IsL T Ω1 A l) : XE (tRevL T.K te) Γ Ω (va T (LF.mk l.reverse)) Ω1 := fun F σ H e hh Q q => by
  refine ha F σ H e hh _ fun F1 x H1 Ω' e1 hh1 ⟨a1, o1⟩ => ?_
  subst o1
  obtain ⟨p, ws, rfl, hs, al⟩ := h F1 H1 x hh1 a1
  refine ⟨p, ws, rfl, hs, fun d hd => ?_⟩
  obtain ⟨hh4, e4⟩ := hh1.newF (u := .lst ws.reverse) hd
  exact q _ _ _ _ (e1.trans e4) hh4 ⟨⟨d, _, rfl, upd_same, (al_rev al).mono e4⟩, rfl⟩
/-! lists that change -/
theorem xe_app {k : Nat} {p : Addr} {a : α} (h0 : Ω[k]? = some (lstA T p l2)) (hk : Ω1[k]? = some (lstA T p l)) (ha : XE ta Γ Ω (vr p) Ω) (hb : XE tb Γ Ω (va T a) Ω1) (hz : l.length < sizeLine) :
    XE (tBM T.K "list" rAppend ta (tCons tb tNil)) Γ Ω (va T ()) (Ω1.set k (lstA T p (l ++ [a]))) := fun F σ H e hh Q q => by
  refine ha F σ H e hh _ fun F1 x H1 Ω' e1 hh1 ⟨a1, o1⟩ => ?_
  subst o1
  obtain ⟨p0, vs0, e0, h00, _⟩ := isLs_M h0 F1 H1 x hh1 a1
  have a1 : x = .ref p := a1
  subst a1
  cases e0
  refine ⟨.inl ⟨rfl, _, SqL.of h00⟩, ?_⟩
  refine hb F1 σ H1 (e.mono e1) hh1 _ fun F2 y H2 Ω'' e2 hh2 ⟨a2, o2⟩ => ?_
  subst o2
  obtain ⟨t, ⟨vs, h1, al⟩, st, _, wr⟩ := hh2.get hk
  refine ⟨p, vs, y, rfl, rfl, st _ _ h1, by rw [al_len al]; exact hz, ?_⟩
  exact q F2 _ _ _ (e1.trans e2) (wr (lstA T p (l ++ [a])) p _ _ h1 ⟨_, upd_same, al_app al (.cons a2 .nil)⟩) ⟨rfl, rfl⟩
/-- xs[i] = e, xs a name's own list -/
theorem xs_setL {k : Nat} {p : Addr} {a : α} {to ti : TE} {jn : Nat} (hv : XE te Γ Ω (va T a) Ω1) (ho : XE to Γ Ω1 (vr p) Ω1) (hi : XE ti Γ Ω1 (va T i) Ω1) (hk : Ω1[k]? = some (lstA T p l)) (hj : ixN l.length i = some jn) (q : XS ts D F0 Γ (Ω1.set k (lstA T p (l.set jn a)))) :
    XS (tSeq (tAsg te (gSub to ti rSetL)) ts) D F0 Γ Ω := fun σ H ⟨F, f0, e, hh⟩ => by
  refine hv F σ H e hh _ fun F1 v H1 Ω' e1 hh1 ⟨a1, o1⟩ => ?_
  subst o1
  refine ho F1 σ H1 (e.mono e1) hh1 _ fun F2 o H2 Ω' e2 hh2 ⟨a2, o2⟩ => ?_
  subst o2
  refine hi F2 σ H2 ((e.mono e1).mono e2) hh2 _ fun F3 x H3 Ω' e3 hh3 ⟨a3, o3⟩ => ?_
  subst o3
  obtain ⟨t, ⟨vs, h1, al⟩, st, _, wr⟩ := hh3.get hk
  refine ⟨p, vs, i, jn, a2, a3, st _ _ h1, by rw [al_len al]; exact hj, ?_⟩
  exact q σ _ ⟨F3, f0.trans ((e1.trans e2).trans e3), ((e.mono e1).mono e2).mono e3, wr (lstA T p (l.set jn a)) p _ _ h1 ⟨_, upd_same, al_set (Rp.mono (e2.trans e3) a1) jn al⟩⟩
/-! walks -/
theorem wk_list {p : Addr} {vs : List V} : Wk (Itl T.K p) (fun F => SqL T.K F p vs ∧ Al T F vs l) l (fun a => va T a) where
  mono := fun F F' e ⟨h1, h2⟩ => ⟨e.seq h1, h2.mono e⟩
  go := fun i F Ω H ⟨h1, h2⟩ hh hi => ⟨vs, vs[i]'(by rw [al_len h2]; exact hi), hh.same.seq h1, List.getElem?_eq_getElem _⟩
  stop := fun F Ω H ⟨h1, h2⟩ hh => ⟨vs, hh.same.seq h1, by rw [al_len h2]; exact Nat.le_refl _⟩
  yld := fun i a F Ω H x H' ⟨h1, h2⟩ hh hx y => by
    obtain ⟨e, y⟩ := y
    subst e
    obtain ⟨v, hv, rv⟩ := al_get h2 hx
    have ev := y vs (hh.same.seq h1)
    rw [hv] at ev
    cases ev
    exact ⟨F, Same.refl F, hh, rv⟩
theorem wk_tup {p : Addr} {vs : List V} : Wk (Itt T.K p) (fun F => SqT T.K F p vs ∧ Al T F vs l) l (fun a => va T a) where
  mono := fun F F' e ⟨h1, h2⟩ => ⟨Same.tup e h1, h2.mono e⟩
  go := fun i F Ω H ⟨h1, h2⟩ hh hi => ⟨vs, vs[i]'(by rw [al_len h2]; exact hi), Same.tup hh.same h1, List.getElem?_eq_getElem _⟩
  stop := fun F Ω H ⟨h1, h2⟩ hh => ⟨vs, Same.tup hh.same h1, by rw [al_len h2]; exact Nat.le_refl _⟩
  yld := fun i a F Ω H x H' ⟨h1, h2⟩ hh hx y => by
    obtain ⟨e, y⟩ := y
    subst e
    obtain ⟨v, hv, rv⟩ := al_get h2 hx
    have ev := y vs (Same.tup hh.same h1)
    rw [hv] at ev
    cases ev
    exact ⟨F, Same.refl F, hh, rv⟩
theorem wk_range {n : Nat} {lo : Int} : Wk (Itr lo n) (fun _ => True) ((List.range n).map fun (k : Nat) => lo + (k : Int)) (fun a => va T a) where
  mono := fun _ _ _ _ => trivial
  go := fun i F Ω H _ _ hi => by
    have hi : i < n := by simpa using hi
    exact hi
  stop := fun F Ω H _ _ => by show n ≤ _; simp
  yld := fun i a F Ω H x H' _ hh hx y => by
    obtain ⟨e, y⟩ := y
    subst e y
    refine ⟨F, Same.refl F, hh, ?_⟩
    show V.int _ = V.int a
    rw [List.getElem?_map] at hx
    cases hr : (List.range n)[i]? with
    | none => rw [hr] at hx; cases hx
    | some k =>
      rw [hr] at hx
      have hk : i = k := by
        obtain ⟨h1, h2⟩ := List.getElem?_eq_some_iff.mp hr
        rw [List.getElem_range] at h2
        exact h2
      subst hk
      cases hx
      rfl
theorem xi_list (ha : XE te Γ Ω A Ω1) (h : ∀ F v, A.P F v → ∃ p vs, v = .ref p ∧ SqL T.K F p vs ∧ Al T F vs l) : XI (iList T.K te) Γ Ω l (fun a => va T a) Ω1 := fun F σ H e hh R r => by
  refine ha F σ H e hh _ fun F1 x H1 Ω' e1 hh1 ⟨a1, o1⟩ => ?_
  subst o1
  obtain ⟨p, vs, rfl, h1, al⟩ := h F1 x a1
  exact ⟨p, rfl, ⟨vs, hh1.same.seq h1⟩, r F1 _ H1 _ e1 hh1 wk_list ⟨h1, al⟩⟩
theorem xi_LF (ha : XE te Γ Ω (va T (LF.mk l)) Ω1) : XI (iList T.K te) Γ Ω l (fun a => va T a) Ω1 := xi_list ha fun F v ⟨p, vs, h1, h2, h3⟩ => ⟨p, vs, h1, SqL.of h2, h3⟩
/-- the ints from lo on, so many -/
def rng (lo : Int) (n : Nat) : List Int := (List.range n).map fun (k : Nat) => lo + (k : Int)
theorem xi_range1 {ta : TA} (ha : XA ta Γ Ω [va T i] Ω1) (h1 : -(2 ^ 62) ≤ i) (h2 : i < 2 ^ 62) : XI (iRng1 ta) Γ Ω (rng 0 i.toNat) (fun a => va T a) Ω1 := fun F σ H e hh R r => by
  refine ha F σ H e hh _ fun F1 vs H1 e1 hh1 a1 => ?_
  obtain ⟨v, rfl, b1⟩ := alA1 a1
  have b1 : v = .int i := b1
  subst b1
  exact ⟨i, rfl, h1, h2, r F1 _ H1 _ e1 hh1 wk_range trivial⟩
theorem rev_get {β : Type} {xs : List β} {i : Nat} {a : β} (h : xs.reverse[i]? = some a) : i < xs.length ∧ xs[xs.length - 1 - i]? = some a := by
  have lt : i < xs.length := by have := getlt h; rwa [List.length_reverse] at this
  rw [List.getElem?_reverse lt] at h
  exact ⟨lt, h⟩
theorem wk_revL {p : Addr} {vs : List V} : Wk (Itv T.K p vs.length) (fun F => SqL T.K F p vs ∧ Al T F vs l) l.reverse (fun a => va T a) where
  mono := fun F F' e ⟨h1, h2⟩ => ⟨e.seq h1, h2.mono e⟩
  go := fun i F Ω H ⟨h1, h2⟩ hh hi => by
    rw [List.length_reverse, ← al_len h2] at hi
    exact ⟨hi, vs, _, hh.same.seq h1, List.getElem?_eq_getElem (by omega)⟩
  stop := fun F Ω H ⟨h1, h2⟩ hh => by show vs.length ≤ _; rw [List.length_reverse, al_len h2]; exact Nat.le_refl _
  yld := fun i a F Ω H x H' ⟨h1, h2⟩ hh hx y => by
    obtain ⟨e, y⟩ := y
    subst e
    obtain ⟨lt, hx⟩ := rev_get hx
    obtain ⟨v, hv, rv⟩ := al_get h2 hx
    have ev := y vs (hh.same.seq h1)
    rw [al_len h2, hv] at ev
    cases ev
    exact ⟨F, Same.refl F, hh, rv⟩
theorem xi_revL (ha : XE te Γ Ω (va T (LF.mk l)) Ω1) : XI (_root_.RT.iRevA T.K te) Γ Ω l.reverse (fun a => va T a) Ω1 := fun F σ H e hh R r => by
  refine ha F σ H e hh _ fun F1 x H1 Ω' e1 hh1 ⟨a1, o1⟩ => ?_
  subst o1
  obtain ⟨p, vs, rfl, h1, al⟩ := id a1
  exact ⟨p, vs, rfl, .inl ⟨SqL.of (hh1.same _ _ h1), r F1 _ H1 _ e1 hh1 wk_revL ⟨SqL.of h1, al⟩⟩⟩

/-! ### a list comprehension -/
/-- b x s: whether the item is taken, its value, the state behind -/
def lcM {β γ S : Type} (b : β → S → Option (Option γ × S)) : List β → S → Option (List γ × S)
  | [], s => some ([], s)
  | x :: r, s => (b x s).bind fun (o, s') => (lcM b r s').bind fun (ys, s'') => some ((match o with | some y => y :: ys | none => ys), s'')
/-- what is known behind the wiping of the slots vs -/
def wip (Γ : List (Option VA)) : List Nat → List (Option VA)
  | [] => Γ
  | i :: r => (wip Γ r).set i none
theorem env_none {F : Hp} {σ : L2.St} {k : Nat} (h : Env F σ Γ) : Env F (σ.set k none) (Γ.set k none) := by
  refine ⟨by rw [List.length_set, List.length_set]; exact h.1, fun i A q => ?_⟩
  by_cases hk : k = i
  · subst hk
    have lt : k < Γ.length := by have := getlt q; rwa [List.length_set] at this
    rw [List.getElem?_set_self lt] at q
    cases q
  · rw [List.getElem?_set_ne hk] at q
    obtain ⟨w, h1, h2⟩ := h.2 i A q
    exact ⟨w, by rw [List.getElem?_set_ne hk]; exact h1, h2⟩
theorem wip_env {F : Hp} {σ : L2.St} (h : Env F σ Γ) : ∀ vs : List Nat, Env F (wipe σ vs) (wip Γ vs)
  | [] => h
  | i :: r => env_none (wip_env h r)
theorem wipe_wipe {σ : L2.St} (vs : List Nat) : wipe (wipe σ vs) vs = wipe σ vs := by
  have : ∀ (r : List Nat) (τ : L2.St), (∀ i ∈ r, i ∈ vs) → wipe (wipe τ r) vs = wipe τ vs := by
    intro r
    induction r with
    | nil => intro τ _; rfl
    | cons a r ih =>
      intro τ h
      show wipe ((wipe τ r).set a none) vs = _
      rw [wipe_set (h a List.mem_cons_self)]
      exact ih τ fun i hi => h i (List.mem_cons_of_mem _ hi)
  exact this vs σ fun _ h => h
theorem set_last {β : Type} {l : List β} {a b : β} : (l ++ [a]).set l.length b = l ++ [b] := by
  rw [List.set_append_right _ _ (Nat.le_refl _)]; simp
theorem xn_lc {β γ S : Type} [Rp γ] {b : β → S → Option (Option γ × S)} {xs : List β} {s0 s1 : S} {ys : List γ} {wi : TI} {g : TG} {tt : TT} {vs : List Nat} {A : β → VA} {f : β → List (Option VA) → List (Option VA)} {js : List Nat} (O : S → List OA)
    (hm : lcM b xs s0 = some (ys, s1)) (hi : XI wi Γ Ω xs A (O s0)) (ht : ∀ a, Tgt g (A a) (f a) js) (hj : ∀ j ∈ js, j ∈ vs) (hz : xs.length ≤ sizeLine)
    (hb : ∀ a s o s', a ∈ xs → b a s = some (o, s') → ∀ X : OA, (o = none → XT tt (f a (wip Γ vs)) (O s ++ [X]) false (O s' ++ [X])) ∧
      (∀ y, o = some y → XT tt (f a (wip Γ vs)) (O s ++ [X]) true (O s ++ [X]) ∧ XE te (f a (wip Γ vs)) (O s ++ [X]) (va T y) (O s' ++ [X]))) :
    XG (tLc wi g tt te vs) Γ Ω (RN (O s1) fun p => lstA T p ys) := by
  intro F σ H e hh Q q
  refine hi F σ H e hh _ fun F1 J H1 Sx e1 hh1 W sx => fun d hd => ?_
  refine ⟨fun i m H => m = xs.length - i ∧ i ≤ xs.length ∧ ∃ s F acc r, lcM b (xs.drop i) s = some (r, s1) ∧ acc ++ r = ys ∧ acc.length ≤ i ∧ Same F1 F ∧ Sx F ∧ Holds F (O s ++ [lstA T d acc]) H,
    ⟨xs.length, by simp, Nat.zero_le _, s0, F1, [], ys, by rw [List.drop_zero]; exact hm, rfl, Nat.zero_le _, Same.refl _, sx, hh1.newL (o := lstA T d ([] : List γ)) hd ⟨[], upd_same, .nil⟩⟩, ?_⟩
  rintro i m H ⟨rfl, hi, s, F, acc, r, hs, he, hl, f1, sx, hh⟩
  by_cases hlt : i < xs.length
  · refine .inr ⟨W.go i F _ H sx hh hlt, ?_⟩
    have hx : xs[i]? = some xs[i] := List.getElem?_eq_getElem hlt
    rw [List.drop_eq_getElem_cons hlt] at hs
    obtain ⟨⟨o, s'⟩, h1, hs⟩ := bnd_some hs
    obtain ⟨⟨r2, s2⟩, h2, hs⟩ := bnd_some hs
    cases hs
    refine ⟨fun H' => ∃ s F acc r, lcM b (xs.drop (i + 1)) s = some (r, s1) ∧ acc ++ r = ys ∧ acc.length ≤ i + 1 ∧ Same F1 F ∧ Sx F ∧ Holds F (O s ++ [lstA T d acc]) H', fun H' n => ⟨xs.length - (i + 1), by omega, rfl, hlt, n⟩, fun x H' y => ?_⟩
    obtain ⟨F2, e2, hh2, a2⟩ := W.yld i _ F _ H x H' sx hh hx y
    have en : Env F2 (wipe σ vs) (wip Γ vs) := wip_env ((e.mono e1).mono (f1.trans e2)) vs
    refine ht xs[i] F2 (wipe σ vs) (wip Γ vs) x H' _ en hh2 a2 _ fun F3 σ3 H3 e3 en3 hh3 hw => ⟨(hw vs hj).trans (wipe_wipe vs), ?_⟩
    obtain ⟨c1, c2⟩ := hb xs[i] s o s' (List.getElem_mem hlt) h1 (lstA T d acc)
    have f3 : Same F1 F3 := f1.trans (e2.trans e3)
    have sx3 := W.mono _ _ (e2.trans e3) sx
    cases o with
    | none =>
      refine c1 rfl F3 σ3 H3 en3 hh3 _ fun F4 H4 e4 hh4 => ?_
      rw [if_neg Bool.false_ne_true]
      exact ⟨s', F4, acc, r2, h2, he, by omega, f3.trans e4, W.mono _ _ e4 sx3, hh4⟩
    | some y =>
      obtain ⟨c3, c4⟩ := c2 y rfl
      refine c3 F3 σ3 H3 en3 hh3 _ fun F4 H4 e4 hh4 => ?_
      rw [if_pos rfl]
      refine c4 F4 σ3 H4 (en3.mono e4) hh4 _ fun F5 v H5 Ω5 e5 hh5 ⟨a5, o5⟩ => ?_
      subst o5
      have hk : (O s' ++ [lstA T d acc])[(O s').length]? = some (lstA T d acc) := app_at
      obtain ⟨t, ⟨ws, w1, al⟩, st, _, wr⟩ := hh5.get hk
      refine ⟨ws, st _ _ w1, by rw [al_len al]; omega, ?_⟩
      have hh6 := wr (lstA T d (acc ++ [y])) d _ (.lst (ws ++ [v])) w1 ⟨_, upd_same, al_app al (.cons a5 .nil)⟩
      rw [set_last] at hh6
      refine ⟨s', F5, acc ++ [y], r2, h2, by rw [List.append_assoc]; exact he, by rw [List.length_append]; simp; omega, f3.trans (e4.trans e5), W.mono _ _ (e4.trans e5) sx3, hh6⟩
  · have ei : i = xs.length := by omega
    subst ei
    refine .inl ⟨W.stop F _ H sx hh, ?_⟩
    rw [List.drop_length] at hs
    cases hs
    rw [List.append_nil] at he
    subst he
    exact q F (.ref d) H _ (e1.trans f1) hh ⟨d, rfl, rfl⟩
theorem xn_lcS {β γ S : Type} [Rp γ] {b : β → S → Option (Option γ × S)} {xs : List β} {s0 s1 : S} {ys : List γ} {wi : TI} {g : TG} {tt : TT} {vs : List Nat} {A : β → VA} {f : β → List (Option VA) → List (Option VA)} {js : List Nat} {Ω0 : List OA} (ks : S → List (Nat × OA)) (L : S → List OA)
    (hm : lcM b xs s0 = some (ys, s1)) (hi : XI wi Γ Ω0 xs A (stt Ω (ks s0) (L s0))) (ht : ∀ a, Tgt g (A a) (f a) js) (hj : ∀ j ∈ js, j ∈ vs) (hz : xs.length ≤ sizeLine)
    (hb : ∀ a s o s', a ∈ xs → b a s = some (o, s') → ∀ X : OA, (o = none → XT tt (f a (wip Γ vs)) (stt Ω (ks s) (L s ++ [X])) false (stt Ω (ks s') (L s' ++ [X]))) ∧
      (∀ y, o = some y → XT tt (f a (wip Γ vs)) (stt Ω (ks s) (L s ++ [X])) true (stt Ω (ks s) (L s ++ [X])) ∧ XE te (f a (wip Γ vs)) (stt Ω (ks s) (L s ++ [X])) (va T y) (stt Ω (ks s') (L s' ++ [X])))) :
    XG (tLc wi g tt te vs) Γ Ω0 (RN (stt Ω (ks s1) (L s1)) fun p => lstA T p ys) :=
  xn_lc (fun s => stt Ω (ks s) (L s)) hm hi ht hj hz fun a s o s' ha h X => by
    simp only [stt_app]
    exact hb a s o s' ha h X
/-- no test -/
theorem xt_yes : XT tYes Γ Ω true Ω := fun F σ H e hh Q q => q F H (Same.refl F) hh
end
end VL

set_option Elab.async false
set_option linter.all false
set_option maxRecDepth 100000
/-! defs, the machine, the numbers -/
namespace VL
open PySem L2
open PyProof.Rows (envOfC)

/-! ### a def by its body -/
/-- a body at a promise's arguments -/
def Bod (X : Cx) (body : List Stmt) (Γ : List (Option VA)) (Ω : List OA) (F0 : Hp) (R : Hp → V → List OA → Prop) : Prop :=
  ∃ t, PSs X body t ∧ ∀ D : Ends, RT F0 R D.rt → (∀ F σ H Ω', Same F0 F → Holds F Ω' H → R F .non Ω' → D.nx σ H) → XS t D F0 Γ Ω
theorem start_env {F : Hp} {N : List Str} {vs : List V} {As : List VA} (h : AlA F vs As) : Env F (L2.start N vs) (As.map some ++ List.replicate (N.length - As.length) none) := by
  have hl := h.len
  refine ⟨by unfold L2.start; simp [hl], fun i A q => ?_⟩
  by_cases hi : i < As.length
  · rw [List.getElem?_append_left (by simpa using hi), List.getElem?_map] at q
    have : ∀ {vs : List V} {As : List VA} {i : Nat}, AlA F vs As → (As[i]?).map some = some (some A) → ∃ v, vs[i]? = some v ∧ A.P F v := by
      intro vs As i h
      induction h generalizing i with
      | nil => intro q; simp at q
      | cons a t ih =>
        intro q
        cases i with
        | zero => simp at q; subst q; exact ⟨_, rfl, a⟩
        | succ i => simpa using ih (by simpa using q)
    obtain ⟨v, h1, h2⟩ := this h q
    refine ⟨v, ?_, h2⟩
    unfold L2.start
    rw [List.getElem?_append_left (by rw [List.length_map]; exact getlt h1), List.getElem?_map, h1]
    rfl
  · rw [List.getElem?_append_right (by simpa using hi), List.getElem?_replicate] at q
    split at q <;> cases q
section
variable {P : Program} {w : World} {K : PySem.W.Frag} {mg : Str → Option Value} {base : Heap}
theorem fn_ok {x qual : Str} {st : Stmt} {f : Addr} {fd : FuncData} {N ps : List Str} {k : Nat} {Pre : PreT} (F : Fun K x qual st f fd) (S : FnScope N ps (defScope st)) (hl : ∀ As Ω R, Pre As Ω R → As.length = ps.length)
    (hb : ∀ (cdv : Value) (A : Around) (outer : List PySem.Env) (s : Shared) (H : Hp) (E : XK), Room k (A.deeper (envOfC qual (defScope st) s.heap.objs.size f cdv)) → ∀ As Ω R F0, Pre As Ω R →
      Bod (cxOf CX0 P w K mg base N qual (defScope st) f cdv A outer s H E).nox (defBody st) (As.map some ++ List.replicate (N.length - As.length) none) Ω F0 R) : FnOk P w K mg base CX0 (k + 1) f fd ps (mkSp Pre) := by
  refine F.ok S (fun vs H Q E h => ?_) (fun cdv A outer s H vs Q E hr h => ?_)
  · obtain ⟨F, Ω, As, R, hp, ha, _⟩ := h
    rw [ha.len]; exact hl _ _ _ hp
  · obtain ⟨F0, Ω, As, R, hp, ha, hh, hq⟩ := h
    obtain ⟨t, h1, h2⟩ := hb cdv A outer s H E hr As Ω R F0 hp
    refine ⟨t, h1, h2 _ (fun F v H Ω' e hh r => hq F v H Ω' e hh r) (fun F σ H Ω' e hh r => hq F .non H Ω' e hh r) _ _ ⟨F0, Same.refl F0, start_env ha, hh⟩⟩

/-! ### a def that may be called -/
structure Cal (P : Program) (w : World) (K : PySem.W.Frag) (mg : Str → Option Value) (base : Heap) (k : Nat) (x : Str) (ps : List Str) (sp : Sp) : Prop where
  ex : ∃ f fd, FnOk P w K mg base CX0 k f fd ps sp ∧ mg x = some (.ref f) ∧ PySem.W.keepIn K (.ref f) = true ∧ Binds K fd ps []
theorem pe_cal {X : Cx} {k : Nat} {x : Str} {ps : List Str} {sp : Sp} {p pos : Pos} {e : Expr} {es : List Expr} {t : TA} (C : Cal X.prog X.w X.K X.mg X.base k x ps sp) (hr : Room k X.A) (hg : Gl X x) (ha : PA X (e :: es) t)
    (hdb : (x == ("__debug__" : Str)) = false := by decide) (he : starEach (e :: es) X.env = (false, eval e X.env) :: starEach es X.env := by rfl) (hpl : (backTo pos (starEach es X.env)).any (·.1) = false := by rfl) :
    PE X (.Call (.Name x p) (e :: es) [] pos) (tCall sp [] E0 t) := by
  obtain ⟨f, fd, F, hm, hk, hb⟩ := C.ex
  exact pe_call F hr hg hm hk hb .nil pass0 ha hdb he hpl
/-- a method -/
structure CalM (P : Program) (w : World) (K : PySem.W.Frag) (mg : Str → Option Value) (base : Heap) (k : Nat) (C : Addr) (m : Str) (ps : List Str) (sp : Sp) : Prop where
  ex : ∃ f fd, FnOk P w K mg base CX0 k f fd ps sp ∧ Meth K C m f ∧ Binds K fd ps []
  cl : Cls K C
end

/-! ### the machine -/
structure MS where
  w : Int
  c : Int
  cnt : Str → Int
  wk : List (T3 Str Int Int)
def mf (s : MS) (d e : Addr) : List (Str × V) := [("width", .int s.w), ("cutoff", .int s.c), ("counts", .ref d), ("entered", .ref e)]
def mkv (s : MS) : List (Key × V) := mwords.map fun w => (Sum.inr w, V.int (s.cnt w))
def MachAt (T : TC) (p dx d e : Addr) (ws : List V) (s : MS) (F t : Hp) : Prop := t p = some (.ins (T.C 0) dx (mf s d e)) ∧ t d = some (.dK (mkv s)) ∧ t e = some (.lst ws) ∧ Al T F ws s.wk
def machA (T : TC) (p : Addr) (s : MS) : OA := ⟨fun F t => ∃ dx d e ws, MachAt T p dx d e ws s F t, fun h ⟨dx, d, e, ws, h1, h2, h3, h4⟩ => ⟨dx, d, e, ws, h1, h2, h3, h4.mono h⟩⟩
section
variable {T : TC} {Γ : List (Option VA)} {Ω Ω1 Ω2 : List OA} {A B C : VA} {ta tb te : TE} {s : MS} {p : Addr} {k : Nat}
/-- machine.width, machine.cutoff -/
theorem xe_mw (cl : Cls T.K (T.C 0)) (na : NoAttr T.K (T.C 0) "width") (ha : XE ta Γ Ω (vr p) Ω1) (hk : Ω1[k]? = some (machA T p s)) : XE (tFld T.K ta "width") Γ Ω (va T s.w) Ω1 := fun F σ H e hh Q q => by
  refine ha F σ H e hh _ fun F1 x H1 Ω' e1 hh1 ⟨a1, o1⟩ => ?_
  subst o1
  obtain ⟨t, ⟨dx, d, en, ws, h1, h2, h3, h4⟩, st, _⟩ := hh1.get hk
  exact ⟨p, _, dx, _, _, a1, st _ _ h1, cl, na, rfl, q F1 _ H1 _ e1 hh1 ⟨rfl, rfl⟩⟩
end

/-! ### the numbers -/
structure Bg where
  w : Int
  row : List Int
  v : Int
/-- the sign of a number -/
def sgn (v : Int) : Int := if v < 0 then -1 else if v = 0 then 0 else 1
instance : Rp Bg := ⟨fun T F v b => ∃ p dx r vs, v = .ref p ∧ F p = some (.ins (T.C 1) dx [("width", .int b.w), ("side", .int (sgn b.v)), ("row", .ref r), ("value", .int b.v)]) ∧ SqT T.K F r vs ∧ Al T F vs b.row,
  fun e ⟨p, dx, r, vs, h1, h2, h3, h4⟩ => ⟨p, dx, r, vs, h1, e _ _ h2, Same.tup e h3, h4.mono e⟩⟩
section
variable {T : TC} {Γ : List (Option VA)} {Ω Ω1 Ω2 : List OA} {A B C : VA} {ta tb te : TE} {x : Bg} {p : Addr} {k : Nat}
theorem xe_bw (cl : Cls T.K (T.C 1)) (na : NoAttr T.K (T.C 1) "width") (ha : XE ta Γ Ω (va T x) Ω1) : XE (tFld T.K ta "width") Γ Ω (va T x.w) Ω1 := fun F σ H e hh Q q => by
  refine ha F σ H e hh _ fun F1 v H1 Ω' e1 hh1 ⟨⟨p, dx, r, vs, h1, h2, h3, h4⟩, o1⟩ => ?_
  subst o1
  exact ⟨p, _, dx, _, _, h1, hh1.same _ _ h2, cl, na, rfl, q F1 _ H1 _ e1 hh1 ⟨rfl, rfl⟩⟩
theorem xe_bs (cl : Cls T.K (T.C 1)) (na : NoAttr T.K (T.C 1) "side") (ha : XE ta Γ Ω (va T x) Ω1) : XE (tFld T.K ta "side") Γ Ω (va T (sgn x.v)) Ω1 := fun F σ H e hh Q q => by
  refine ha F σ H e hh _ fun F1 v H1 Ω' e1 hh1 ⟨⟨p, dx, r, vs, h1, h2, h3, h4⟩, o1⟩ => ?_
  subst o1
  exact ⟨p, _, dx, _, _, h1, hh1.same _ _ h2, cl, na, rfl, q F1 _ H1 _ e1 hh1 ⟨rfl, rfl⟩⟩
theorem xe_br (cl : Cls T.K (T.C 1)) (na : NoAttr T.K (T.C 1) "row") (ha : XE ta Γ Ω (va T x) Ω1) : XE (tFld T.K ta "row") Γ Ω (va T (TF.mk x.row)) Ω1 := fun F σ H e hh Q q => by
  refine ha F σ H e hh _ fun F1 v H1 Ω' e1 hh1 ⟨⟨p, dx, r, vs, h1, h2, h3, h4⟩, o1⟩ => ?_
  subst o1
  exact ⟨p, _, dx, _, _, h1, hh1.same _ _ h2, cl, na, rfl, q F1 _ H1 _ e1 hh1 ⟨⟨r, vs, rfl, h3, h4⟩, rfl⟩⟩
theorem xe_bv (cl : Cls T.K (T.C 1)) (na : NoAttr T.K (T.C 1) "value") (ha : XE ta Γ Ω (va T x) Ω1) : XE (tFld T.K ta "value") Γ Ω (va T x.v) Ω1 := fun F σ H e hh Q q => by
  refine ha F σ H e hh _ fun F1 v H1 Ω' e1 hh1 ⟨⟨p, dx, r, vs, h1, h2, h3, h4⟩, o1⟩ => ?_
  subst o1
  exact ⟨p, _, dx, _, _, h1, hh1.same _ _ h2, cl, na, rfl, q F1 _ H1 _ e1 hh1 ⟨rfl, rfl⟩⟩
end
/-! ### things in the making -/
def rawA (t0 : Hp) : OA := ⟨fun _ t => Same t0 t, fun _ h => h⟩
section
variable {F F' H H' : Hp} {Ω : List OA} {o o' : OA} {i j : Nat} {a p : Addr} {u u' : HO}
theorem Holds.conv (h : Holds F Ω H) (q : Ω[i]? = some o) (k : ∀ t, o.P F t → o'.P F t) : Holds F (Ω.set i o') H := by
  obtain ⟨ts, h1, h2, h3, h4, h5⟩ := h
  have lt := getlt q
  refine ⟨ts, fun k x r => ?_, h2, fun k r => h3 k (by rwa [List.length_set] at r), fun k b x r => h4 k b x (by rwa [List.length_set] at r), fun k m b x r r2 => h5 k m b x (by rwa [List.length_set] at r) (by rwa [List.length_set] at r2)⟩
  by_cases hk : i = k
  · subst hk
    rw [List.getElem?_set_self lt] at r
    cases r
    exact k _ (h1 _ _ q)
  · rw [List.getElem?_set_ne hk] at r
    exact h1 k x r
/-- the thing at i, its part of the heap laid open -/
theorem Holds.opened (h : Holds F Ω H) (q : Ω[i]? = some o) : ∃ t, o.P F t ∧ Same t H ∧ Holds F (Ω.set i (rawA t)) H := by
  obtain ⟨ts, h1, h2, h3, h4, h5⟩ := h
  have lt := getlt q
  refine ⟨ts i, h1 i o q, h3 i lt, ts, fun k x r => ?_, h2, fun k r => h3 k (by rwa [List.length_set] at r), fun k b x r => h4 k b x (by rwa [List.length_set] at r), fun k m b x r r2 => h5 k m b x (by rwa [List.length_set] at r) (by rwa [List.length_set] at r2)⟩
  by_cases hk : i = k
  · subst hk
    rw [List.getElem?_set_self lt] at r
    cases r
    exact Same.refl _
  · rw [List.getElem?_set_ne hk] at r
    exact h1 k x r
theorem Holds.rawWrite {t : Hp} (h : Holds F Ω H) (q : Ω[i]? = some (rawA t)) (ha : t a = some u) : Holds F (Ω.set i (rawA (upd t a u'))) (upd H a u') := by
  obtain ⟨t2, s2, st, _, wr⟩ := h.get q
  refine wr (rawA (upd t a u')) a u u' (s2 _ _ ha) fun b x e => ?_
  by_cases hb : b = a
  · subst hb; rw [upd_same] at e ⊢; exact e
  · rw [upd_ne hb] at e ⊢; exact s2 _ _ e
theorem Holds.rawHas {t : Hp} (h : Holds F Ω H) (q : Ω[i]? = some (rawA t)) : Same t H := let ⟨_, s2, st, _⟩ := h.get q; fun b x e => st _ _ (s2 b x e)
end
/-- a new instance, nothing in it -/
def newA (C p : Addr) : OA := ⟨fun _ t => ∃ dx, t p = some (.ins C dx []), fun _ h => h⟩
section
variable {T : TC} {Γ : List (Option VA)} {Ω Ω1 Ω2 : List OA} {A B C : VA} {As Ds : List VA} {ta tb te : TE} {D : Ends} {F0 : Hp} {ts : TS}
theorem xn_make {C : Addr} {Pre : PreT} {E : XK} {t : TA} {dvs : List V} {o : Addr → OA} (ha : XA t Γ Ω As Ω1) (hd : ∀ F, AlA F dvs Ds) (hp : ∀ x, Pre (vr x :: (As ++ Ds)) (Ω1 ++ [newA C x]) (RV (va T ()) (Ω1 ++ [o x]))) :
    XG (tMake C (mkSp Pre) dvs E t) Γ Ω (RN Ω1 o) := fun F σ H e hh Q q => by
  refine ha F σ H e hh _ fun F1 xs H1 e1 hh1 a1 => ?_
  intro x dx nx ndx nex
  have hh2 : Holds F1 (Ω1 ++ [newA C x]) (upd (upd H1 dx (.own x)) x (.ins C dx [])) := by
    refine hh1.newO (t := upd (fun _ => none) x (.ins C dx [])) (fun b y r => by rw [sng_some r]; exact nx) (fun b y r => ?_) (fun b y r => ?_) ⟨dx, upd_same⟩
    · rw [upd_ne (ne_of_none r nx), upd_ne (ne_of_none r ndx)]; exact r
    · have hb := sng_some r
      subst hb
      rw [upd_same] at r ⊢; exact r
  refine ⟨F1, Ω1 ++ [newA C x], vr x :: (As ++ Ds), _, hp x, .cons rfl (a1.app (hd F1)), hh2, fun F' v H' Ω' e' hh' ⟨hv, ho⟩ => ⟨hv, ?_⟩⟩
  subst ho
  exact q F' _ H' _ (e1.trans e') hh' ⟨x, rfl, rfl⟩
def bigA (T : TC) (p : Addr) (b : Bg) : OA := ⟨fun F t => ∃ dx r vs, t p = some (.ins (T.C 1) dx [("width", .int b.w), ("side", .int (sgn b.v)), ("row", .ref r), ("value", .int b.v)]) ∧ SqT T.K F r vs ∧ Al T F vs b.row,
  fun e ⟨dx, r, vs, h2, h3, h4⟩ => ⟨dx, r, vs, h2, Same.tup e h3, h4.mono e⟩⟩
theorem xe_fzB {b : Bg} (h : XG te Γ Ω (RN Ω1 fun p => bigA T p b)) : XE te Γ Ω (va T b) Ω1 := fun F σ H e hh Q q =>
  h F σ H e hh Q fun F1 v H1 Ω' e1 hh1 ⟨p, hv, o1⟩ => by
    subst o1
    obtain ⟨F', t, s1, s2, ⟨dx, r, vs, h2, h3, h4⟩, hh'⟩ := hh1.freeze
    exact q F' v H1 _ (e1.trans s1) hh' ⟨⟨p, dx, r, vs, hv, s2 _ _ h2, Same.tup s1 h3, h4.mono s1⟩, rfl⟩
end
/-! ### what the machine's methods do -/
def MS.step (s : MS) (w : Str) (n : Int) : MS := { s with cnt := fun x => if x = w then s.cnt x + n else s.cnt x }
def MS.enter (s : MS) (w : Str) (m n : Int) : MS := { s with wk := if s.wk.length < 1000 then s.wk ++ [T3.mk w m n] else s.wk }
def MS.fresh (w c : Int) : MS := ⟨w, c, fun _ => 0, []⟩
def MS.reset (s : MS) : MS := MS.fresh s.w s.c
theorem mwords_nd : mwords.Nodup := by decide +kernel
theorem val_words {f : Str → Int} : ∀ {ws : List Str} {w : Str}, w ∈ ws → valV (ws.map fun w => ((Sum.inr w : Key), V.int (f w))) (Sum.inr w) = some (V.int (f w)) := by
  intro ws w hw
  unfold valV
  induction ws with
  | nil => cases hw
  | cons a r ih =>
    rw [List.map_cons, List.find?_cons]
    by_cases h : a = w
    · subst h; simp
    · have : decide ((Sum.inr a : Key) = Sum.inr w) = false := decide_eq_false fun e => h (Sum.inr.inj e)
      simp only [this]
      rcases List.mem_cons.mp hw with e | e
      · exact absurd e.symm h
      · exact ih e
end VL

set_option Elab.async false
set_option linter.all false
set_option maxRecDepth 100000
/-! the machine's methods, the numbers' -/
namespace VL
open PySem L2
theorem putK_words {f : Str → Int} {w : Str} (n : Int) {ws : List Str} (hw : w ∈ ws) :
    putK (ws.map fun x => ((Sum.inr x : Key), V.int (f x))) (Sum.inr w) (V.int n) = ws.map fun x => ((Sum.inr x : Key), V.int (if x = w then n else f x)) := by
  have any : ((ws.map fun x => ((Sum.inr x : Key), V.int (f x))).any fun kv => decide (kv.1 = Sum.inr w)) = true :=
    List.any_eq_true.mpr ⟨_, List.mem_map.mpr ⟨w, hw, rfl⟩, decide_eq_true rfl⟩
  unfold putK
  rw [if_pos any, List.map_map]
  apply List.map_congr_left
  intro x _
  show (if (Sum.inr x : Key) = Sum.inr w then ((Sum.inr x : Key), V.int n) else (Sum.inr x, V.int (f x))) = _
  by_cases e : x = w
  · rw [if_pos (by rw [e]), if_pos e]
  · rw [if_neg (fun z => e (Sum.inr.inj z)), if_neg e]
theorem mwords_len (s : MS) : (mkv s).length < sizeLine := by
  unfold mkv
  rw [List.length_map]
  decide +kernel
section
variable {T : TC} {Γ : List (Option VA)} {Ω Ω1 Ω2 : List OA} {A B C : VA} {As Ds : List VA} {ta tb te : TE} {D : Ends} {F0 : Hp} {ts : TS} {s : MS} {p : Addr} {k : Nat}
/-- what the machine's class must be -/
structure MCls (K : PySem.W.Frag) (C : Addr) : Prop where
  cl : Cls K C
  nw : NoAttr K C "width"
  nc : NoAttr K C "cutoff"
  nt : NoAttr K C "counts"
  ne : NoAttr K C "entered"
structure BCls (K : PySem.W.Frag) (C : Addr) : Prop where
  cl : Cls K C
  nw : NoAttr K C "width"
  ns : NoAttr K C "side"
  nr : NoAttr K C "row"
  nv : NoAttr K C "value"
theorem look_ne {a b : Str} {v : V} {fs : List (Str × V)} (h : (b == a) = false) : ((a, v) :: fs).lookup b = fs.lookup b := by
  rw [List.lookup_cons, h]
theorem mf_counts (d e : Addr) : (mf s d e).lookup ("counts" : Str) = some (V.ref d) := by
  unfold mf
  rw [look_ne (by decide +kernel), look_ne (by decide +kernel)]
  rfl
theorem mf_entered (d e : Addr) : (mf s d e).lookup ("entered" : Str) = some (V.ref e) := by
  unfold mf
  rw [look_ne (by decide +kernel), look_ne (by decide +kernel), look_ne (by decide +kernel)]
  rfl
theorem putF_hit {f : Str} {v x : V} {fs : List (Str × V)} : putF f v ((f, x) :: fs) = (f, v) :: fs := by
  show (if f = f then (f, v) :: fs else _) = _
  rw [if_pos rfl]
theorem putF_miss {f g : Str} {v x : V} {fs : List (Str × V)} (h : ¬ g = f) : putF f v ((g, x) :: fs) = (g, x) :: putF f v fs := by
  show (if g = f then _ else (g, x) :: putF f v fs) = _
  rw [if_neg h]
/-- self.counts[word] += many -/
theorem xs_step {wd : Str} {n : Int} (mc : MCls T.K (T.C 0)) (h0 : Γ[0]? = some (some (vr p))) (h1 : Γ[1]? = some (some (va T wd))) (h2 : Γ[2]? = some (some (va T n))) (hk : Ω[k]? = some (machA T p s)) (hw : wd ∈ mwords)
    (q : ∀ σ H, NX F0 Γ (Ω.set k (machA T p (s.step wd n))) σ H → D.nx σ H) : XS (sDAug (tFld T.K (tVar 0) "counts") (tVar 1) (tVar 2) rAdd) D F0 Γ Ω := fun σ H ⟨F, f0, e, hh⟩ => by
  obtain ⟨v0, a0, b0⟩ := e.2 0 _ h0
  obtain ⟨v1, a1, b1⟩ := e.2 1 _ h1
  obtain ⟨v2, a2, b2⟩ := e.2 2 _ h2
  have b1 : v1 = .str wd := b1
  have b2 : v2 = .int n := b2
  subst b1 b2
  obtain ⟨t, ⟨dx, d, en, ws, m1, m2, m3, m4⟩, st, _, wr⟩ := hh.get hk
  refine ⟨v0, a0, p, _, dx, _, _, b0, st _ _ m1, mc.cl, mc.nt, mf_counts d en, .str wd, a1, d, .int (s.cnt wd), rfl, ?_, .int n, a2, s.cnt wd, n, rfl, rfl, ?_⟩
  · have g := DGet.k (k := Sum.inr wd) (st _ _ m2)
    rw [show valV (mkv s) (Sum.inr wd) = some (V.int (s.cnt wd)) from val_words hw] at g
    exact g
  · refine ⟨_, DPut.k (k := Sum.inr wd) (st _ _ m2) (mwords_len s), q σ _ ⟨F, f0, e, wr (machA T p (s.step wd n)) d _ _ m2 ⟨dx, d, en, ws, ?_, ?_, ?_, m4⟩⟩⟩
    · rw [upd_ne (by intro z; rw [z, m2] at m1; cases m1)]; exact m1
    · rw [upd_same]
      unfold mkv
      rw [putK_words _ hw]
      congr 2
      apply List.map_congr_left
      intro x _
      show (Sum.inr x, V.int _) = (Sum.inr x, V.int (if x = wd then s.cnt x + n else s.cnt x))
      by_cases z : x = wd
      · rw [if_pos z, if_pos z, z]
      · rw [if_neg z, if_neg z]
    · rw [upd_ne (by intro z; rw [z, m2] at m3; cases m3)]; exact m3
/-- if len(self.entered) < 1000: self.entered.append((word, m, n)) -/
theorem xs_enter {wd : Str} {m n : Int} (mc : MCls T.K (T.C 0)) (h0 : Γ[0]? = some (some (vr p))) (h1 : Γ[1]? = some (some (va T wd))) (h2 : Γ[2]? = some (some (va T m))) (h3 : Γ[3]? = some (some (va T n))) (hk : Ω[k]? = some (machA T p s))
    (q : ∀ σ H, NX F0 Γ (Ω.set k (machA T p (s.enter wd m n))) σ H → D.nx σ H) :
    XS (tIfS (tTest (tOp (rI0 fun i j => .bl (decide (i < j))) (tCB (rLen T.K) (tCons (tFld T.K (tVar 0) "entered") tNil)) (tC (.int 1000))))
      (tDrop (tBM T.K "list" rAppend (tFld T.K (tVar 0) "entered") (tCons (tTup (tCons (tVar 1) (tCons (tVar 2) (tCons (tVar 3) tNil)))) tNil))) tNext) D F0 Γ Ω := fun σ H ⟨F, f0, e, hh⟩ => by
  obtain ⟨v0, a0, b0⟩ := e.2 0 _ h0
  obtain ⟨v1, a1, b1⟩ := e.2 1 _ h1
  obtain ⟨v2, a2, b2⟩ := e.2 2 _ h2
  obtain ⟨v3, a3, b3⟩ := e.2 3 _ h3
  obtain ⟨t, ⟨dx, d, en, ws, m1, m2, m3, m4⟩, st, _, wr⟩ := hh.get hk
  refine ⟨v0, a0, p, _, dx, _, _, b0, st _ _ m1, mc.cl, mc.ne, mf_entered d en, en, ws, rfl, .inl (SqL.of (st _ _ m3)), (ws.length : Int), 1000, rfl, rfl, _, rfl, ite2 (fun h => ?_) (fun h => ?_)⟩
  · have lt : ws.length < 1000 := by have := of_decide_eq_true h; omega
    refine ⟨v0, a0, p, _, dx, _, _, b0, st _ _ m1, mc.cl, mc.ne, mf_entered d en, .inl ⟨rfl, _, SqL.of (st _ _ m3)⟩, v1, a1, v2, a2, v3, a3, by show 3 ≤ sizeLine; decide, fun x hx => ?_⟩
    obtain ⟨hh2, e2⟩ := hh.newF (u := .tup [v1, v2, v3]) hx
    obtain ⟨t', ⟨dx', d', en', ws', m1', m2', m3', m4'⟩, st', _, wr'⟩ := hh2.get hk
    have nx : ∀ b y, H b = some y → b ≠ x := fun b y r => ne_of_none r hx
    have i1 := (st' _ _ m1').symm.trans ((upd_ne (nx _ _ (st _ _ m1))).trans (st _ _ m1))
    have i1 : mf s d' en' = mf s d en := by
      have := Option.some.inj i1
      injection this
    have i2 : en' = en := by
      unfold mf at i1
      injection i1 with _ i1
      injection i1 with _ i1
      injection i1 with _ i1
      injection i1 with i1 _
      injection i1 with _ i1
      injection i1
    subst i2
    have i3 := (st' _ _ m3').symm.trans ((upd_ne (nx _ _ (st _ _ m3))).trans (st _ _ m3))
    cases i3
    refine ⟨en', ws, _, rfl, rfl, st' _ _ m3', Nat.lt_trans lt (by decide), q σ _ ⟨_, f0.trans e2, e.mono e2, wr' (machA T p (s.enter wd m n)) en' _ _ m3' ⟨dx', d', en', _, ?_, ?_, upd_same, ?_⟩⟩⟩
    · rw [upd_ne (by intro z; rw [z, m3'] at m1'; cases m1')]; exact m1'
    · rw [upd_ne (by intro z; rw [z, m3'] at m2'; cases m2')]; exact m2'
    · have hl : s.wk.length < 1000 := by rw [← al_len m4]; exact lt
      show Al T _ _ (if s.wk.length < 1000 then s.wk ++ [T3.mk wd m n] else s.wk)
      rw [if_pos hl]
      exact al_app m4' (.cons ⟨x, v1, v2, v3, rfl, SqT.of upd_same, Rp.mono (α := Str) e2 b1, Rp.mono (α := Int) e2 b2, Rp.mono (α := Int) e2 b3⟩ .nil)
  · have ge : ¬ s.wk.length < 1000 := by
      intro z
      apply h
      rw [← al_len m4] at z
      exact decide_eq_true (by omega)
    refine q σ H ⟨F, f0, e, ?_⟩
    have es : s.enter wd m n = s := by
      unfold MS.enter
      rw [if_neg ge]
    rw [es]
    have : Ω.set k (machA T p s) = Ω := by
      apply List.ext_getElem?
      intro j
      by_cases z : k = j
      · subst z; rw [List.getElem?_set_self (getlt hk), hk]
      · rw [List.getElem?_set_ne z]
    rw [this]
    exact hh
/-! ### a thing in the making: its attributes stored one by one -/
theorem xs_fldV {C : Addr} {f : Str} {v0 : V} {t : Hp} {dx : Addr} {fs : List (Str × V)} {j : Nat} (cl : Cls T.K C) (na : NoAttr T.K C f) (h : XE te Γ Ω (vx v0) Ω) (hj : Γ[j]? = some (some (vr p))) (hk : Ω[k]? = some (rawA t)) (ht : t p = some (.ins C dx fs)) (hl : fs.length < 1000)
    (q : XS ts D F0 Γ (Ω.set k (rawA (upd t p (.ins C dx (putF f v0 fs)))))) : XS (tSeq (sFld T.K (tVar j) te f) ts) D F0 Γ Ω := fun σ H ⟨F, f0, e, hh⟩ => by
  refine h F σ H e hh _ fun F1 v H1 Ω' e1 hh1 ⟨a1, o1⟩ => ?_
  subst o1
  have a1 : v = v0 := a1
  subst a1
  obtain ⟨x, h1, h2⟩ := e.2 j _ hj
  refine ⟨x, h1, p, C, dx, fs, h2, hh1.rawHas hk _ _ ht, cl, na, hl, ?_⟩
  exact q σ _ ⟨F1, f0.trans e1, e.mono e1, hh1.rawWrite hk ht⟩
theorem xs_fldN {C : Addr} {f : Str} {u : HO} {t : Hp} {dx : Addr} {fs : List (Str × V)} {j : Nat} (cl : Cls T.K C) (na : NoAttr T.K C f) (h : XG te Γ Ω (RN Ω fun r => rawA (upd (fun _ => none) r u))) (hj : Γ[j]? = some (some (vr p))) (hk : Ω[k]? = some (rawA t)) (ht : t p = some (.ins C dx fs)) (hl : fs.length < 1000)
    (q : ∀ r, t r = none → XS ts D F0 Γ (Ω.set k (rawA (upd (upd t r u) p (.ins C dx (putF f (.ref r) fs)))))) : XS (tSeq (sFld T.K (tVar j) te f) ts) D F0 Γ Ω := fun σ H ⟨F, f0, e, hh⟩ => by
  refine h F σ H e hh _ fun F1 v H1 Ω' e1 hh1 ⟨r, a1, o1⟩ => ?_
  subst o1 a1
  obtain ⟨x, h1, h2⟩ := e.2 j _ hj
  obtain ⟨t1, t2, s1, s2, _, _, dj, kk⟩ := hh1.merge hk
  have nt : t r = none := by
    cases z : t r with
    | none => rfl
    | some y => exact (nn (s2 r u upd_same) (dj r y (s1 _ _ z))).elim
  have hh2 : Holds F1 (Ω.set k (rawA (upd t r u))) H1 := kk _ fun b y e => by
    by_cases hb : b = r
    · subst hb
      rw [upd_same] at e
      cases e
      refine cup_r (fun c y z => ?_) b u (s2 b u upd_same)
      cases w : t1 c with
      | none => rfl
      | some y2 => exact (nn z (dj c y2 w)).elim
    · rw [upd_ne hb] at e
      exact cup_l b y (s1 b y e)
  have hk2 : (Ω.set k (rawA (upd t r u)))[k]? = some (rawA (upd t r u)) := List.getElem?_set_self (getlt hk)
  have np : p ≠ r := ne_of_none ht nt
  have ht2 : upd t r u p = some (.ins C dx fs) := by rw [upd_ne np]; exact ht
  refine ⟨x, h1, p, C, dx, fs, h2, hh2.rawHas hk2 _ _ ht2, cl, na, hl, ?_⟩
  have hh3 := hh2.rawWrite (u' := .ins C dx (putF f (.ref r) fs)) hk2 ht2
  rw [List.set_set] at hh3
  exact q r nt σ _ ⟨F1, f0.trans e1, e.mono e1, hh3⟩
theorem NX.conv {o o' : OA} {σ : L2.St} {H : Hp} (h : NX F0 Γ Ω σ H) (hk : Ω[k]? = some o) (c : ∀ F t, Same F0 F → o.P F t → o'.P F t) : NX F0 Γ (Ω.set k o') σ H :=
  let ⟨F, f0, e, hh⟩ := h
  ⟨F, f0, e, hh.conv hk fun t => c F t f0⟩
/-- {word: 0 for word in WORDS} -/
theorem xn_zeros {aW : Addr} {i : Nat} {vs : List Nat} (hW : ∀ H, SqT T.K H aW (mwords.map V.str)) (hi : i ∈ vs) (hlt : i < Γ.length) :
    XG (tDc (iTup T.K (tC (.ref aW))) (gName i) tYes (tVar i) (tC (.int 0)) vs) Γ Ω (RN Ω fun r => rawA (upd (fun _ => none) r (.dK (mwords.map fun w => (Sum.inr w, V.int 0))))) := fun F σ H e hh Q q => by
  refine ⟨aW, rfl, ⟨_, hW H⟩, fun d hd => ?_⟩
  refine dc_tup (xs := mwords.map V.str) (fun m H' => Holds F (Ω ++ [rawA (upd (fun _ => none) d (.dK ((mwords.take m).map fun w => (Sum.inr w, V.int 0))))]) H') (hh.newL hd (Same.refl _)) (fun _ H' _ _ => hW H') (fun m x H' hx p => ?_) (fun H' p => ?_)
  · rw [List.getElem?_map] at hx
    cases hw : mwords[m]? with
    | none => rw [hw] at hx; cases hx
    | some wd =>
      rw [hw] at hx
      cases hx
      refine ⟨(wipe_set hi).trans (wipe_wipe vs), ?_⟩
      simp only [tYes, ↓reduceIte]
      have li : i < (wipe σ vs).length := by rw [wipe_length, e.1]; exact hlt
      refine ⟨.str wd, by rw [List.getElem?_set_self li], _, Sum.inr wd, rfl, p.rawHas app_at d _ upd_same, ?_, ?_⟩
      · rw [List.length_map, List.length_take]
        exact Nat.lt_of_le_of_lt (Nat.min_le_right _ _) (by decide +kernel)
      · have hh2 := p.rawWrite (u' := .dK (putK ((mwords.take m).map fun w => ((Sum.inr w : Key), V.int 0)) (Sum.inr wd) (.int 0))) app_at upd_same
        rw [set_last, upd_upd] at hh2
        have nin : valV ((mwords.take m).map fun w => ((Sum.inr w : Key), V.int 0)) (Sum.inr wd) = none := by
          cases z : valV ((mwords.take m).map fun w => ((Sum.inr w : Key), V.int 0)) (Sum.inr wd) with
          | none => rfl
          | some y =>
            have hm := valV_in z
            rw [List.map_map] at hm
            obtain ⟨w2, h2, e2⟩ := List.mem_map.mp hm
            have e2 : w2 = wd := Sum.inr.inj e2
            subst e2
            obtain ⟨j2, h3, h4⟩ := List.mem_take_iff_getElem.mp h2
            have hlt3 : j2 < mwords.length := by omega
            have eq2 : mwords[j2]? = some w2 := by rw [List.getElem?_eq_getElem hlt3, h4]
            have := nd_ix mwords_nd eq2 hw
            omega
        rw [putK_new _ nin] at hh2
        rw [List.take_add_one, hw, List.map_append, putK_new _ nin]
        exact hh2
  · rw [show (mwords.map V.str).length = mwords.length from List.length_map _, List.take_length] at p
    exact q F (.ref d) H' _ (Same.refl F) p ⟨d, rfl, rfl⟩
/-- the whole of a machine's __init__ behind its checks: four stores -/
theorem mf_put {w c : Int} {d e : Addr} : putF "entered" (.ref e) (putF "counts" (.ref d) (putF "cutoff" (.int c) (putF "width" (.int w) []))) = ([("width", .int w), ("cutoff", .int c), ("counts", .ref d), ("entered", .ref e)] : List (Str × V)) := by
  rw [show putF "width" (.int w) [] = [(("width" : Str), V.int w)] from rfl, putF_miss (f := "cutoff") (g := "width") (by decide +kernel), show putF "cutoff" (.int c) [] = [(("cutoff" : Str), V.int c)] from rfl,
    putF_miss (f := "counts") (g := "width") (by decide +kernel), putF_miss (f := "counts") (g := "cutoff") (by decide +kernel), show putF "counts" (.ref d) [] = [(("counts" : Str), V.ref d)] from rfl,
    putF_miss (f := "entered") (g := "width") (by decide +kernel), putF_miss (f := "entered") (g := "cutoff") (by decide +kernel), putF_miss (f := "entered") (g := "counts") (by decide +kernel)]
  all_goals rfl
theorem mf_reset {d e d2 e2 : Addr} : putF "entered" (.ref e2) (putF "counts" (.ref d2) (mf s d e)) = mf s d2 e2 := by
  unfold mf
  rw [putF_miss (f := "counts") (g := "width") (by decide +kernel), putF_miss (f := "counts") (g := "cutoff") (by decide +kernel), putF_hit,
    putF_miss (f := "entered") (g := "width") (by decide +kernel), putF_miss (f := "entered") (g := "cutoff") (by decide +kernel), putF_miss (f := "entered") (g := "counts") (by decide +kernel), putF_hit]
theorem set_get {l : List OA} {k : Nat} {o o' : OA} (h : l[k]? = some o) : (l.set k o')[k]? = some o' := List.getElem?_set_self (getlt h)
/-- self.width = bits; self.cutoff = cutoff; self.counts = {..}; self.entered = [] -/
theorem xs_minit {w c : Int} {aW : Addr} {i : Nat} {vs : List Nat} (mc : MCls T.K (T.C 0)) (hW : ∀ H, SqT T.K H aW (mwords.map V.str)) (hi : i ∈ vs) (hlt : i < Γ.length)
    (h0 : Γ[0]? = some (some (vr p))) (h1 : Γ[1]? = some (some (va T w))) (h2 : Γ[2]? = some (some (va T c))) (hk : Ω[k]? = some (newA (T.C 0) p)) (q : ∀ σ H, NX F0 Γ (Ω.set k (machA T p (MS.fresh w c))) σ H → D.nx σ H) :
    XS (tSeq (sFld T.K (tVar 0) (tVar 1) "width") (tSeq (sFld T.K (tVar 0) (tVar 2) "cutoff") (tSeq (sFld T.K (tVar 0) (tDc (iTup T.K (tC (.ref aW))) (gName i) tYes (tVar i) (tC (.int 0)) vs) "counts") (sFld T.K (tVar 0) (tLst tNil) "entered")))) D F0 Γ Ω := by
  intro σ H ⟨F, f0, e, hh⟩
  obtain ⟨t, ⟨dx, ht⟩, _, hh2⟩ := hh.opened hk
  have hk2 : (Ω.set k (rawA t))[k]? = some (rawA t) := set_get hk
  have iv : ∀ {j : Nat} {n : Int} {Ω' : List OA}, Γ[j]? = some (some (va T n)) → XE (tVar j) Γ Ω' (vx (.int n)) Ω' := fun h => (xe_var h).to fun F v a => a
  refine xs_fldV (D := D) (ts := (tSeq (sFld T.K (tVar 0) (tVar 2) "cutoff") (tSeq (sFld T.K (tVar 0) (tDc (iTup T.K (tC (.ref aW))) (gName i) tYes (tVar i) (tC (.int 0)) vs) "counts") (sFld T.K (tVar 0) (tLst tNil) "entered")))) mc.cl mc.nw (iv h1) h0 hk2 ht (by decide) ?_ σ H ⟨F, Same.refl F, e, hh2⟩
  rw [List.set_set]
  refine xs_fldV mc.cl mc.nc (iv h2) h0 (set_get hk) upd_same (by show 1 < 1000; decide) ?_
  rw [List.set_set, upd_upd]
  refine xs_fldN mc.cl mc.nt (xn_zeros hW hi hlt) h0 (set_get hk) upd_same (by rw [show putF "width" (V.int w) [] = [(("width" : Str), V.int w)] from rfl, putF_miss (by decide +kernel)]; show 2 < 1000; decide) fun d hd => ?_
  rw [List.set_set]
  refine fun σ H n => xs_fldN (ts := tNext) mc.cl mc.ne (u := .lst []) (p := p) ?_ h0 (set_get hk) upd_same ?_ (fun en he => ?_) σ H n
  · exact fun F σ H e hh Q q => ⟨Nat.zero_le _, fun r hr => q F (.ref r) _ _ (Same.refl F) (hh.newL (o := rawA (upd (fun _ => none) r (.lst []))) hr (Same.refl _)) ⟨r, rfl, rfl⟩⟩
  · rw [show putF "width" (V.int w) [] = [(("width" : Str), V.int w)] from rfl, putF_miss (by decide +kernel), show putF "cutoff" (V.int c) [] = [(("cutoff" : Str), V.int c)] from rfl, putF_miss (by decide +kernel), putF_miss (by decide +kernel)]
    show 3 < 1000
    decide
  · rw [List.set_set, mf_put]
    intro σ H n
    have npd : d ≠ p := fun z => by rw [z, upd_same] at hd; cases hd
    have npe : en ≠ p := fun z => by rw [z, upd_same] at he; cases he
    have nde : d ≠ en := fun z => by rw [← z, upd_ne npd, upd_same] at he; cases he
    have n2 := n.conv (o' := machA T p (MS.fresh w c)) (set_get hk) fun F t f st => ⟨dx, d, en, [], st p _ upd_same, st d _ (by rw [upd_ne npd, upd_ne nde, upd_ne npd, upd_same]; rfl), st en _ (by rw [upd_ne npe, upd_same]), .nil⟩
    rw [List.set_set] at n2
    obtain ⟨F2, f2, e2, hh3⟩ := n2
    exact q σ H ⟨F2, f0.trans f2, e2, hh3⟩
/-- self.counts = {..}; self.entered = [] -/
theorem xs_mreset {aW : Addr} {i : Nat} {vs : List Nat} (mc : MCls T.K (T.C 0)) (hW : ∀ H, SqT T.K H aW (mwords.map V.str)) (hi : i ∈ vs) (hlt : i < Γ.length)
    (h0 : Γ[0]? = some (some (vr p))) (hk : Ω[k]? = some (machA T p s)) (q : ∀ σ H, NX F0 Γ (Ω.set k (machA T p s.reset)) σ H → D.nx σ H) :
    XS (tSeq (sFld T.K (tVar 0) (tDc (iTup T.K (tC (.ref aW))) (gName i) tYes (tVar i) (tC (.int 0)) vs) "counts") (sFld T.K (tVar 0) (tLst tNil) "entered")) D F0 Γ Ω := by
  intro σ H ⟨F, f0, e, hh⟩
  obtain ⟨t, ⟨dx, d0, e0, ws, ht, _⟩, _, hh2⟩ := hh.opened hk
  have hk2 : (Ω.set k (rawA t))[k]? = some (rawA t) := set_get hk
  refine xs_fldN (D := D) (ts := sFld T.K (tVar 0) (tLst tNil) "entered") mc.cl mc.nt (xn_zeros hW hi hlt) h0 hk2 ht (by show 4 < 1000; decide) (fun d hd => ?_) σ H ⟨F, Same.refl F, e, hh2⟩
  rw [List.set_set]
  refine fun σ H n => xs_fldN (ts := tNext) mc.cl mc.ne (u := .lst []) (p := p) ?_ h0 (set_get hk) upd_same ?_ (fun en he => ?_) σ H n
  · exact fun F σ H e hh Q q => ⟨Nat.zero_le _, fun r hr => q F (.ref r) _ _ (Same.refl F) (hh.newL (o := rawA (upd (fun _ => none) r (.lst []))) hr (Same.refl _)) ⟨r, rfl, rfl⟩⟩
  · unfold mf
    rw [putF_miss (by decide +kernel), putF_miss (by decide +kernel), putF_hit]
    show 4 < 1000
    decide
  · rw [List.set_set, mf_reset]
    intro σ H n
    have npd : d ≠ p := fun z => by rw [z, ht] at hd; cases hd
    have npe : en ≠ p := fun z => by rw [z, upd_same] at he; cases he
    have nde : d ≠ en := fun z => by rw [← z, upd_ne npd, upd_same] at he; cases he
    have n2 := n.conv (o' := machA T p s.reset) (set_get hk) fun F t f st => ⟨dx, d, en, [], st p _ upd_same, st d _ (by rw [upd_ne npd, upd_ne nde, upd_ne npd, upd_same]; rfl), st en _ (by rw [upd_ne npe, upd_same]), .nil⟩
    rw [List.set_set] at n2
    obtain ⟨F2, f2, e2, hh3⟩ := n2
    exact q σ H ⟨F2, f0.trans f2, e2, hh3⟩
/-- self.counts[word] -/
theorem xe_cnt {wd : Str} {i j : Nat} (mc : MCls T.K (T.C 0)) (ha : Γ[j]? = some (some (vr p))) (hy : Γ[i]? = some (some (va T wd))) (hk : Ω[k]? = some (machA T p s)) (hw : wd ∈ mwords) : XE (tDGet (tFld T.K (tVar j) "counts") (tVar i)) Γ Ω (va T (s.cnt wd)) Ω := fun F σ H e hh Q q => by
  obtain ⟨v0, a0, b0⟩ := e.2 j _ ha
  obtain ⟨v1, a1, b1⟩ := e.2 i _ hy
  have b1 : v1 = .str wd := b1
  subst b1
  obtain ⟨t, ⟨dx, d, en, ws, m1, m2, m3, m4⟩, st, _⟩ := hh.get hk
  refine ⟨v0, a0, p, _, dx, _, _, b0, st _ _ m1, mc.cl, mc.nt, mf_counts d en, .str wd, a1, d, .int (s.cnt wd), rfl, ?_, q F _ H _ (Same.refl F) hh ⟨rfl, rfl⟩⟩
  have g := DGet.k (k := Sum.inr wd) (st _ _ m2)
  rw [show valV (mkv s) (Sum.inr wd) = some (V.int (s.cnt wd)) from val_words hw] at g
  exact g
/-- self.entered, as a list -/
theorem xe_walk {j : Nat} (mc : MCls T.K (T.C 0)) (ha : Γ[j]? = some (some (vr p))) (hk : Ω[k]? = some (machA T p s)) : XE (tCB (rList T.K) (tCons (tFld T.K (tVar j) "entered") tNil)) Γ Ω (va T (LF.mk s.wk)) Ω := fun F σ H e hh Q q => by
  obtain ⟨v0, a0, b0⟩ := e.2 j _ ha
  obtain ⟨t, ⟨dx, d, en, ws, m1, m2, m3, m4⟩, st, _⟩ := hh.get hk
  refine ⟨v0, a0, p, _, dx, _, _, b0, st _ _ m1, mc.cl, mc.ne, mf_entered d en, en, ws, rfl, .inl (SqL.of (st _ _ m3)), fun l hl => ?_⟩
  obtain ⟨hh2, e2⟩ := hh.newF (u := .lst ws) hl
  exact q _ _ _ _ e2 hh2 ⟨⟨l, ws, rfl, upd_same, m4.mono e2⟩, rfl⟩
/-- the words of the tally -/
theorem xi_words {aW : Addr} (hW : ∀ H, SqT T.K H aW (mwords.map V.str)) : XI (iTup T.K (tC (.ref aW))) Γ Ω mwords (fun a => va T a) Ω := fun F σ H e hh R r => by
  have al : ∀ l : List Str, Al T F (l.map V.str) l := fun l => by
    induction l with
    | nil => exact .nil
    | cons a r ih => exact .cons rfl ih
  exact ⟨aW, rfl, ⟨_, hW H⟩, r F _ H _ (Same.refl F) hh wk_tup ⟨hW F, al mwords⟩⟩
theorem lcM_all {β γ : Type} (f : β → γ) : ∀ l : List β, lcM (fun x (_ : Unit) => some (some (f x), ())) l () = some (l.map f, ())
  | [] => rfl
  | x :: r => by
    show ((lcM (fun x (_ : Unit) => some (some (f x), ())) r ()).bind fun (ys, s'') => some (f x :: ys, s'')) = _
    rw [lcM_all f r]
    rfl
def MS.tally (s : MS) : List (Str × Int) := mwords.map fun w => (w, s.cnt w)
theorem xe_tally {aW : Addr} {i j : Nat} {vs : List Nat} (mc : MCls T.K (T.C 0)) (hW : ∀ H, SqT T.K H aW (mwords.map V.str)) (hi : i ∈ vs) (ha : ((wip Γ vs).set i none)[j]? = some (some (vr p))) (hlt : i < (wip Γ vs).length) (hk : Ω[k]? = some (machA T p s)) :
    XE (tLc (iTup T.K (tC (.ref aW))) (gName i) tYes (tTup (tCons (tVar i) (tCons (tDGet (tFld T.K (tVar j) "counts") (tVar i)) tNil))) vs) Γ Ω (va T (LF.mk s.tally)) Ω := by
  refine xe_fz (xn_lc (fun _ : Unit => Ω) (lcM_all (fun w => (w, s.cnt w)) mwords) (xi_words hW) (fun a => tgt_name) (fun m hm => by rw [List.mem_singleton.mp hm]; exact hi) (by decide +kernel) fun a s1 o s2 hm h X => ⟨fun e => ?_, fun y e => ?_⟩)
  · subst e; cases h
  · subst e
    cases h
    have hj : ((wip Γ vs).set i (some (va T a)))[j]? = some (some (vr p)) := by
      have ne : i ≠ j := fun z => by
        subst z
        rw [List.getElem?_set_self hlt] at ha
        cases ha
      rw [List.getElem?_set_ne ne] at ha ⊢
      exact ha
    have hi' : ((wip Γ vs).set i (some (va T a)))[i]? = some (some (va T a)) := List.getElem?_set_self hlt
    exact ⟨xt_yes, xe_tup2 (xa_cons (xe_var hi') (xa_cons (xe_cnt mc hj hi' (app_lt hk) hm) xa_nil))⟩
/-- a frozen thing stored -/
theorem xs_fldR {C : Addr} {f : Str} {t : Hp} {dx : Addr} {fs : List (Str × V)} {j : Nat} {row : List Int} (cl : Cls T.K C) (na : NoAttr T.K C f) (h : ∀ Ω', XE te Γ Ω' (va T (TF.mk row)) Ω') (hj : Γ[j]? = some (some (vr p))) (hk : Ω[k]? = some (rawA t)) (ht : t p = some (.ins C dx fs)) (hl : fs.length < 1000)
    (q : ∀ F1 r vs, Same F0 F1 → SqT T.K F1 r vs → Al T F1 vs row → XS ts D F1 Γ (Ω.set k (rawA (upd t p (.ins C dx (putF f (.ref r) fs)))))) : XS (tSeq (sFld T.K (tVar j) te f) ts) D F0 Γ Ω := fun σ H ⟨F, f0, e, hh⟩ => by
  refine h Ω F σ H e hh _ fun F1 v H1 Ω' e1 hh1 ⟨⟨r, vs, hv, s1, a1⟩, o1⟩ => ?_
  subst o1 hv
  obtain ⟨x, h1, h2⟩ := e.2 j _ hj
  refine ⟨x, h1, p, C, dx, fs, h2, hh1.rawHas hk _ _ ht, cl, na, hl, ?_⟩
  exact q F1 r vs (f0.trans e1) s1 a1 σ _ ⟨F1, Same.refl F1, e.mono e1, hh1.rawWrite hk ht⟩
/-- a number's __init__ -/
theorem bg_put {w s v : Int} {r : Addr} : putF "value" (.int v) (putF "row" (.ref r) (putF "side" (.int s) (putF "width" (.int w) []))) = ([("width", .int w), ("side", .int s), ("row", .ref r), ("value", .int v)] : List (Str × V)) := by
  rw [show putF "width" (V.int w) [] = [(("width" : Str), V.int w)] from rfl, putF_miss (f := "side") (g := "width") (by decide +kernel), show putF "side" (V.int s) [] = [(("side" : Str), V.int s)] from rfl,
    putF_miss (f := "row") (g := "width") (by decide +kernel), putF_miss (f := "row") (g := "side") (by decide +kernel), show putF "row" (V.ref r) [] = [(("row" : Str), V.ref r)] from rfl,
    putF_miss (f := "value") (g := "width") (by decide +kernel), putF_miss (f := "value") (g := "side") (by decide +kernel), putF_miss (f := "value") (g := "row") (by decide +kernel)]
  rfl
theorem xs_binit {ts1 : TE} {w v : Int} {row : List Int} (bc : BCls T.K (T.C 1)) (h0 : Γ[0]? = some (some (vr p))) (h1 : Γ[1]? = some (some (va T w))) (h2 : Γ[2]? = some (some (va T v)))
    (hs : ∀ Ω', XE ts1 Γ Ω' (va T (sgn v)) Ω') (h3 : ∀ Ω', XE te Γ Ω' (va T (TF.mk row)) Ω') (hk : Ω[k]? = some (newA (T.C 1) p)) (q : ∀ σ H, NX F0 Γ (Ω.set k (bigA T p ⟨w, row, v⟩)) σ H → D.nx σ H) :
    XS (tSeq (sFld T.K (tVar 0) (tVar 1) "width") (tSeq (sFld T.K (tVar 0) ts1 "side") (tSeq (sFld T.K (tVar 0) te "row") (sFld T.K (tVar 0) (tVar 2) "value")))) D F0 Γ Ω := by
  intro σ H ⟨F, f0, e, hh⟩
  obtain ⟨t, ⟨dx, ht⟩, _, hh2⟩ := hh.opened hk
  have hk2 : (Ω.set k (rawA t))[k]? = some (rawA t) := set_get hk
  have iv : ∀ {j : Nat} {n : Int} {Ω' : List OA}, Γ[j]? = some (some (va T n)) → XE (tVar j) Γ Ω' (vx (.int n)) Ω' := fun h => (xe_var h).to fun F v a => a
  refine xs_fldV (D := D) (ts := (tSeq (sFld T.K (tVar 0) ts1 "side") (tSeq (sFld T.K (tVar 0) te "row") (sFld T.K (tVar 0) (tVar 2) "value")))) bc.cl bc.nw (iv h1) h0 hk2 ht (by decide) ?_ σ H ⟨F, Same.refl F, e, hh2⟩
  rw [List.set_set]
  refine xs_fldV (v0 := .int (sgn v)) bc.cl bc.ns ((hs _).to fun F u a => a) h0 (set_get hk) upd_same (by show 1 < 1000; decide) ?_
  rw [List.set_set, upd_upd]
  refine xs_fldR bc.cl bc.nr h3 h0 (set_get hk) upd_same (by rw [show putF "width" (V.int w) [] = [(("width" : Str), V.int w)] from rfl, putF_miss (by decide +kernel)]; show 2 < 1000; decide) fun F1 r vs e1 s1 a1 => ?_
  rw [List.set_set, upd_upd]
  refine fun σ H n => xs_fldV (ts := tNext) bc.cl bc.nv (iv h2) h0 (set_get hk) upd_same ?_ ?_ σ H n
  · rw [show putF "width" (V.int w) [] = [(("width" : Str), V.int w)] from rfl, putF_miss (by decide +kernel), show putF "side" (V.int (sgn v)) [] = [(("side" : Str), V.int (sgn v))] from rfl, putF_miss (by decide +kernel), putF_miss (by decide +kernel)]
    show 3 < 1000
    decide
  · rw [List.set_set, upd_upd, bg_put]
    intro σ H n
    have n2 := n.conv (o' := bigA T p ⟨w, row, v⟩) (set_get hk) fun F t f st => ⟨dx, r, vs, st p _ upd_same, Same.tup f s1, a1.mono f⟩
    rw [List.set_set] at n2
    obtain ⟨F2, f2, e2, hh3⟩ := n2
    exact q σ H ⟨F2, f0.trans (e1.trans f2), e2, hh3⟩
end
end VL

set_option Elab.async false
set_option linter.all false
set_option maxRecDepth 100000
/-! what the printed texts lean on -/
namespace VL
open PySem L2
open PyProof.Rows (envOfC)
section
variable {P : Program} {w : World} {K : PySem.W.Frag} {mg : Str → Option Value} {base : Heap}
theorem fn_okD {x qual : Str} {params : Arguments} {body : List Stmt} {scope : Scope} {dvs : List V} {f : Addr} {fd : FuncData} {N ps : List Str} {k : Nat} {Pre : PreT} (F : FunD K x qual params body scope dvs [] f fd) (S : FnScope N ps scope) (hl : ∀ As Ω R, Pre As Ω R → As.length = ps.length)
    (hb : ∀ (cdv : Value) (A : Around) (outer : List PySem.Env) (s : Shared) (H : Hp) (E : XK), Room k (A.deeper (envOfC qual scope s.heap.objs.size f cdv)) → ∀ As Ω R F0, Pre As Ω R →
      Bod (cxOf CX0 P w K mg base N qual scope f cdv A outer s H E).nox body (As.map some ++ List.replicate (N.length - As.length) none) Ω F0 R) : FnOk P w K mg base CX0 (k + 1) f fd ps (mkSp Pre) := by
  refine F.ok S (fun vs H Q E h => ?_) (fun cdv A outer s H vs Q E hr h => ?_)
  · obtain ⟨F, Ω, As, R, hp, ha, _⟩ := h
    rw [ha.len]; exact hl _ _ _ hp
  · obtain ⟨F0, Ω, As, R, hp, ha, hh, hq⟩ := h
    obtain ⟨t, h1, h2⟩ := hb cdv A outer s H E hr As Ω R F0 hp
    exact ⟨t, h1.nox, h2 _ (fun F v H Ω' e hh r => hq F v H Ω' e hh r) (fun F σ H Ω' e hh r => hq F .non H Ω' e hh r) _ _ ⟨F0, Same.refl F0, start_env ha, hh⟩⟩
/-- a class that may be made: dvs fill up what is not written -/
structure CalC (P : Program) (w : World) (K : PySem.W.Frag) (mg : Str → Option Value) (base : Heap) (k : Nat) (x : Str) (C : Addr) (ps : List Str) (dvs : List V) (sp : Sp) : Prop where
  ex : ∃ f fd ds, FnOk P w K mg base CX0 k f fd ps sp ∧ mg x = some (.ref C) ∧ Mk K C f ∧ Vals dvs ds ∧ Binds K fd ps ds
section
variable {X : Cx} {k : Nat} {x m : Str} {C : Addr} {ps : List Str} {dvs : List V} {sp : Sp} {p pos apos : Pos} {e o : Expr} {es : List Expr} {t : TA} {ta : TE}
theorem pe_calC (c : CalC X.prog X.w X.K X.mg X.base k x C ps dvs sp) (hr : Room (k + 1) X.A) (hg : Gl X x) (ha : PA X (e :: es) t)
    (hdb : (x == ("__debug__" : Str)) = false := by decide) (he : starEach (e :: es) X.env = (false, eval e X.env) :: starEach es X.env := by rfl) (hpl : (backTo pos (starEach es X.env)).any (·.1) = false := by rfl) :
    PE X (.Call (.Name x p) (e :: es) [] pos) (tMake C sp dvs E0 t) := by
  obtain ⟨f, fd, ds, F, hm, M, hv, hb⟩ := c.ex
  exact pe_make M F hr hg hm hb hv pass0 ha hdb he hpl
theorem pe_calM {pl : Sem Bool} (he : PE X o ta) (c : CalM X.prog X.w X.K X.mg X.base k C m ps sp) (hr : Room k X.A) (ha : PA X (e :: es) t)
    (hst : starEach (e :: es) X.env = (false, eval e X.env) :: starEach es X.env := by rfl) (hpl : (backTo pos (starEach es X.env)).any (·.1) = false := by rfl)
    (ht : eval (.Call (.Attribute o m apos) (e :: es) [] pos) X.env = (do
      let ov ← eval o X.env
      standAt apos.atName
      let (f, first) ← holding [ov] (getMethod ov m pl)
      callWith pos f first (backTo pos (starEach (e :: es) X.env)) (backToKw pos (keywordEach [] X.env))) := by rfl) :
    PE X (.Call (.Attribute o m apos) (e :: es) [] pos) (tMeth C m sp [] E0 ta t) := by
  obtain ⟨f, fd, F, hm, hb⟩ := c.ex
  exact pe_meth he c.cl hm F hr hb .nil pass0 ha hst hpl ht
theorem pe_calM0 {pl : Sem Bool} (he : PE X o ta) (c : CalM X.prog X.w X.K X.mg X.base k C m ps sp) (hr : Room k X.A)
    (ht : eval (.Call (.Attribute o m apos) [] [] pos) X.env = (do
      let ov ← eval o X.env
      standAt apos.atName
      let (f, first) ← holding [ov] (getMethod ov m pl)
      callWith pos f first (backTo pos (starEach [] X.env)) (backToKw pos (keywordEach [] X.env))) := by rfl) :
    PE X (.Call (.Attribute o m apos) [] [] pos) (tMeth C m sp [] E0 ta tNil) := by
  obtain ⟨f, fd, F, hm, hb⟩ := c.ex
  exact pe_meth0 he c.cl hm F hr hb .nil pass0 ht
/-- a module's constant -/
theorem pe_gl {x : Str} {v : V} {pos : Pos} (hg : Gl X x) (hm : ∃ u, X.mg x = some u ∧ RelV v u) (hd : (x == ("__debug__" : Str)) = false := by decide) : PE X (.Name x pos) (tC v) := by
  obtain ⟨u, h1, h2⟩ := hm
  exact pe_glob hg h1 h2 hd
end
end
section
variable {X : Cx}
theorem op_mulG : OpR X (binaryOp .Mult) (rI IntMulOk fun i j => .int (i * j)) := L2.opI fun _ _ _ _ _ _ _ hc q => PyProof.Rows.mul_int q hc
/-- + of ints, of lists; * of ints, of a list and an int -/
def rAddQ : R2 := fun x y H Q => rI0 (fun i j => .int (i + j)) x y H Q ∨ rCat x y H Q
theorem op_addQ : OpR X (binaryOp .Add) rAddQ := op_add.or op_cat
def rMulQ : R2 := fun x y H Q => rI IntMulOk (fun i j => .int (i * j)) x y H Q ∨ rRep x y H Q
theorem op_mulQ : OpR X (binaryOp .Mult) rMulQ := op_mulG.or op_rep
/-- int(x) -/
def rInt : List V → Hp → VK → Prop := fun xs H Q => (∃ i, xs = [.int i] ∧ Q (.int i) H) ∨ ∃ k, xs = [.bl k] ∧ Q (.int (if k then 1 else 0)) H
theorem cr_int : CallR X (.type "int") rInt := call_int1
def rAbs : List V → Hp → VK → Prop := fun xs H Q => ∃ i, xs = [.int i] ∧ Q (.int (if i < 0 then -i else i)) H
theorem cr_abs : CallR X (.builtin "abs") rAbs := call_abs
def rMax2 : List V → Hp → VK → Prop := fun xs H Q => ∃ i j, xs = [.int i, .int j] ∧ Q (.int (if j > i then j else i)) H
theorem cr_max2 (hc : X.calm = true) : CallR X (.builtin "max") rMax2 := call_max2 hc
def rMin2 : List V → Hp → VK → Prop := fun xs H Q => ∃ i j, xs = [.int i, .int j] ∧ Q (.int (if j < i then j else i)) H
/-- x op= y by the operator's rule -/
theorem ip_of {op : Operator} {r : R2} (h : OpR X (inplaceOp op) r) : PIp X op r := h
end
section
variable {T : TC} {Γ : List (Option VA)} {Ω Ω1 Ω2 : List OA} {A B C : VA} {As Ds : List VA} {ta tb te : TE} {t u : TT} {D : Ends} {F0 : Hp} {ts : TS} {i j : Int} {b c : Bool} {α : Type} [Rp α] {l l2 : List α} {p : Addr} {k : Nat} {s : MS} {R : Hp → V → List OA → Prop}
theorem ro_or1 {r r' : R2} (h : RO r Ω A B C) : RO (fun x y H Q => r x y H Q ∨ r' x y H Q) Ω A B C := fun F H x y hh a1 a2 Q q => .inl (h F H x y hh a1 a2 Q q)
theorem ro_or2 {r r' : R2} (h : RO r' Ω A B C) : RO (fun x y H Q => r x y H Q ∨ r' x y H Q) Ω A B C := fun F H x y hh a1 a2 Q q => .inr (h F H x y hh a1 a2 Q q)
theorem xe_add (ha : XE ta Γ Ω (va T i) Ω1) (hb : XE tb Γ Ω1 (va T j) Ω2) : XE (tOp rAddQ ta tb) Γ Ω (va T (i + j)) Ω2 := xe_op ha hb (ro_or1 ro_int)
theorem xe_sub (ha : XE ta Γ Ω (va T i) Ω1) (hb : XE tb Γ Ω1 (va T j) Ω2) : XE (tOp (rI0 fun i j => .int (i - j)) ta tb) Γ Ω (va T (i - j)) Ω2 := xe_op ha hb ro_int
theorem xe_mul (h : IntMulOk i j) (ha : XE ta Γ Ω (va T i) Ω1) (hb : XE tb Γ Ω1 (va T j) Ω2) : XE (tOp rMulQ ta tb) Γ Ω (va T (i * j)) Ω2 := xe_op ha hb (ro_or1 (ro_intD h))
theorem xe_fdiv (h : CDivW i j) (ha : XE ta Γ Ω (va T i) Ω1) (hb : XE tb Γ Ω1 (va T j) Ω2) : XE (tOp (rI CDivW fun i j => .int (i / j)) ta tb) Γ Ω (va T (i / j)) Ω2 := xe_op ha hb (ro_intD h)
theorem xe_mod (h : 0 < j) (ha : XE ta Γ Ω (va T i) Ω1) (hb : XE tb Γ Ω1 (va T j) Ω2) : XE (tOp (rI (fun _ j => 0 < j) fun i j => .int (i % j)) ta tb) Γ Ω (va T (i % j)) Ω2 := xe_op ha hb (ro_intD (D := fun _ j => 0 < j) h)
theorem xe_shl (h : CShl i j) (ha : XE ta Γ Ω (va T i) Ω1) (hb : XE tb Γ Ω1 (va T j) Ω2) : XE (tOp (rI CShl fun i j => .int (i * 2 ^ j.toNat)) ta tb) Γ Ω (va T (i * 2 ^ j.toNat)) Ω2 := xe_op ha hb (ro_intD h)
theorem xe_shr (h : 0 ≤ j) (ha : XE ta Γ Ω (va T i) Ω1) (hb : XE tb Γ Ω1 (va T j) Ω2) : XE (tOp (rI (fun _ j => 0 ≤ j) fun i j => .int (i / 2 ^ j.toNat)) ta tb) Γ Ω (va T (i / 2 ^ j.toNat)) Ω2 := xe_op ha hb (ro_intD (D := fun _ j => 0 ≤ j) h)
theorem xe_pow (h : CPow i j) (ha : XE ta Γ Ω (va T i) Ω1) (hb : XE tb Γ Ω1 (va T j) Ω2) : XE (tOp (rI CPow fun i j => .int (i ^ j.toNat)) ta tb) Γ Ω (va T (i ^ j.toNat)) Ω2 := xe_op ha hb (ro_intD h)
theorem xe_band (ha : XE ta Γ Ω (va T i) Ω1) (hb : XE tb Γ Ω1 (va T j) Ω2) : XE (tOp (rI0 fun i j => .int (Builtin.bitAnd i j)) ta tb) Γ Ω (va T (Builtin.bitAnd i j)) Ω2 := xe_op ha hb ro_int
theorem xe_neg (ha : XE ta Γ Ω (va T i) Ω1) : XE (tUn (rU fun i => .int (-i)) ta) Γ Ω (va T (-i)) Ω1 := xe_un ha ru_int
theorem xe_cat {A B : VA} (ha : XE ta Γ Ω A Ω1) (hb : XE tb Γ Ω1 B Ω2) (h : IsLs T Ω2 A l) (h2 : IsLs T Ω2 B l2) (hz : l.length + l2.length ≤ sizeLine) : XE (tOp rAddQ ta tb) Γ Ω (va T (LF.mk (l ++ l2))) Ω2 := xe_op ha hb (ro_or2 (ro_cat h h2 hz))
theorem xe_rep {A : VA} (ha : XE ta Γ Ω A Ω1) (hb : XE tb Γ Ω1 (va T i) Ω2) (h : IsLs T Ω2 A l) (h1 : (-(2 ^ 63) ≤ i ∧ i < 2 ^ 63) ∧ l.length * i.toNat ≤ sizeLine) : XE (tOp rMulQ ta tb) Γ Ω (va T (LF.mk (List.replicate i.toNat l).flatten)) Ω2 := xe_op ha hb (ro_or2 (ro_rep h h1.1.1 h1.1.2 h1.2))
theorem xe_ix {A : VA} {a : α} (ha : XE ta Γ Ω A Ω1) (hb : XE tb Γ Ω1 (va T i) Ω2) (h : IsL T Ω2 A l) (e : atI l i = some a) : XE (tOp (rIx T.K) ta tb) Γ Ω (va T a) Ω2 := xe_op ha hb (ro_ixL h e)
theorem xe_int1 (ha : XE te Γ Ω (va T i) Ω1) : XE (tCB rInt (tCons te tNil)) Γ Ω (va T i) Ω1 := xe_cb (xa_cons ha xa_nil) fun F H vs hh a Q q => by
  obtain ⟨v, rfl, a1⟩ := alA1 a
  have a1 : v = .int i := a1
  subst a1
  exact .inl ⟨i, rfl, q F _ H (Same.refl F) hh rfl⟩
theorem xe_intb (ha : XE te Γ Ω (va T b) Ω1) : XE (tCB rInt (tCons te tNil)) Γ Ω (va T (if b = true then (1 : Int) else 0)) Ω1 := xe_cb (xa_cons ha xa_nil) fun F H vs hh a Q q => by
  obtain ⟨v, rfl, a1⟩ := alA1 a
  have a1 : v = .bl b := a1
  subst a1
  refine .inr ⟨b, rfl, q F _ H (Same.refl F) hh ?_⟩
  cases b <;> rfl
theorem xe_abs (ha : XE te Γ Ω (va T i) Ω1) : XE (tCB rAbs (tCons te tNil)) Γ Ω (va T ((i.natAbs : Nat) : Int)) Ω1 := xe_cb (xa_cons ha xa_nil) fun F H vs hh a Q q => by
  obtain ⟨v, rfl, a1⟩ := alA1 a
  have a1 : v = .int i := a1
  subst a1
  refine ⟨i, rfl, q F _ H (Same.refl F) hh ?_⟩
  show V.int _ = V.int _
  congr 1
  split <;> omega
theorem xe_max2 (ha : XE ta Γ Ω (va T i) Ω1) (hb : XE tb Γ Ω1 (va T j) Ω2) : XE (tCB rMax2 (tCons ta (tCons tb tNil))) Γ Ω (va T (max i j)) Ω2 := xe_cb (xa_cons ha (xa_cons hb xa_nil)) fun F H vs hh a Q q => by
  obtain ⟨v, w, rfl, a1, a2⟩ := alA2 a
  have a1 : v = .int i := a1
  have a2 : w = .int j := a2
  subst a1 a2
  refine ⟨i, j, rfl, q F _ H (Same.refl F) hh ?_⟩
  show V.int _ = V.int _
  congr 1
  split <;> omega
theorem xe_bits (ha : XE te Γ Ω (va T i) Ω1) : XE (tBits te) Γ Ω (va T ((Builtin.Int.intBits i : Nat) : Int)) Ω1 := fun F σ H e hh Q q => by
  refine ha F σ H e hh _ fun F1 x H1 Ω' e1 hh1 ⟨a1, o1⟩ => ?_
  subst o1
  exact ⟨i, a1, q F1 _ H1 _ e1 hh1 ⟨rfl, rfl⟩⟩
theorem xe_ite {a a' : α} (h : XT t Γ Ω b Ω1) (h1 : XE ta Γ Ω1 (va T a) Ω2) (h2 : XE tb Γ Ω1 (va T a') Ω2) : XE (tIf t ta tb) Γ Ω (va T (if b = true then a else a')) Ω2 :=
  xe_if h (fun e => xe_eq h1 (by rw [if_pos e])) (fun e => xe_eq h2 (by rw [if_neg (by rw [e]; exact Bool.false_ne_true)]))
theorem xe_ifT (h : XT t Γ Ω true Ω1) (h1 : XE ta Γ Ω1 A Ω2) : XE (tIf t ta tb) Γ Ω A Ω2 := xe_if h (fun _ => h1) (fun e => nomatch e)
theorem xe_ifF (h : XT t Γ Ω false Ω1) (h1 : XE tb Γ Ω1 A Ω2) : XE (tIf t ta tb) Γ Ω A Ω2 := xe_if h (fun e => nomatch e) (fun _ => h1)
theorem xe_lt (ha : XE ta Γ Ω (va T i) Ω1) (hb : XE tb Γ Ω1 (va T j) Ω2) : XE (tOp (rI0 fun i j => .bl (decide (i < j))) ta tb) Γ Ω (va T (decide (i < j))) Ω2 := (xe_op ha hb ro_bl)
theorem xe_le (ha : XE ta Γ Ω (va T i) Ω1) (hb : XE tb Γ Ω1 (va T j) Ω2) : XE (tOp (rI0 fun i j => .bl (decide (i ≤ j))) ta tb) Γ Ω (va T (decide (i ≤ j))) Ω2 := (xe_op ha hb ro_bl)
theorem xe_gt (ha : XE ta Γ Ω (va T i) Ω1) (hb : XE tb Γ Ω1 (va T j) Ω2) : XE (tOp (rI0 fun i j => .bl (decide (j < i))) ta tb) Γ Ω (va T (decide (j < i))) Ω2 := (xe_op ha hb (ro_bl (g := fun i j => decide (j < i))))
theorem xe_ge (ha : XE ta Γ Ω (va T i) Ω1) (hb : XE tb Γ Ω1 (va T j) Ω2) : XE (tOp (rI0 fun i j => .bl (decide (j ≤ i))) ta tb) Γ Ω (va T (decide (j ≤ i))) Ω2 := (xe_op ha hb (ro_bl (g := fun i j => decide (j ≤ i))))
/-! == by values, by data -/
def rEqX (K : PySem.W.Frag) : R2 := fun x y H Q => rEq x y H Q ∨ rEqD K x y H Q
theorem op_eqX {X : Cx} (hu : X.A.units + 64 < cLine) : OpR X (compareOp .Eq) (rEqX X.K) := op_eq.or (op_eqD hu)
def rNeX (K : PySem.W.Frag) : R2 := fun x y H Q => rNe x y H Q ∨ rNeD K x y H Q
theorem op_neX {X : Cx} (hu : X.A.units + 64 < cLine) : OpR X (compareOp .NotEq) (rNeX X.K) := op_ne.or (op_neD hu)
theorem xe_eqI (ha : XE ta Γ Ω (va T i) Ω1) (hb : XE tb Γ Ω1 (va T j) Ω2) : XE (tOp (rEqX T.K) ta tb) Γ Ω (va T (decide (i = j))) Ω2 := xe_op ha hb (ro_or1 ro_eqI)
theorem xe_neI (ha : XE ta Γ Ω (va T i) Ω1) (hb : XE tb Γ Ω1 (va T j) Ω2) : XE (tOp (rNeX T.K) ta tb) Γ Ω (va T (!decide (i = j))) Ω2 := xe_op ha hb (ro_or1 ro_neI)
/-! statements, further -/
theorem xs_ifN {t1 : TS} (h : XT t Γ Ω false Ω1) (q : XS ts D F0 Γ Ω1) : XS (tSeq (tIfS t t1 tNext) ts) D F0 Γ Ω := xs_ifF h q
theorem nt {b : Bool} (h : ¬ b = true) : b = false := by cases b with
  | true => exact absurd rfl h
  | false => rfl
variable {n : Int}
theorem xs_augI {k : Nat} {g : Int → Int → Int} (hx : Γ[k]? = some (some (va T i))) (h : XE te Γ Ω (va T j) Ω1) (e : g i j = n) (q : XS ts D F0 (Γ.set k (some (va T n))) Ω1) : XS (tSeq (tAug k te (rI0 fun i j => .int (g i j))) ts) D F0 Γ Ω := fun σ H ⟨F, f0, en, hh⟩ => by
  subst e
  obtain ⟨x, h1, h2⟩ := en.2 k _ hx
  refine ⟨x, h1, ?_⟩
  refine h F σ H en hh _ fun F1 v H1 Ω' e1 hh1 ⟨a1, o1⟩ => ?_
  exact ⟨i, j, h2, a1, q _ H1 ⟨F1, f0.trans e1, (en.mono e1).set (A := va T (g i j)) rfl, o1 ▸ hh1⟩⟩
theorem xs_augI1 {k : Nat} {g : Int → Int → Int} (hx : Γ[k]? = some (some (va T i))) (h : XE te Γ Ω (va T j) Ω1) (e : g i j = n) (q : ∀ σ H, NX F0 (Γ.set k (some (va T n))) Ω1 σ H → D.nx σ H) : XS (tAug k te (rI0 fun i j => .int (g i j))) D F0 Γ Ω := fun σ H m => xs_augI (ts := tNext) hx h e q σ H m
theorem xs_augD {k : Nat} {Dd : Int → Int → Prop} {g : Int → Int → Int} (hx : Γ[k]? = some (some (va T i))) (hd : Dd i j) (h : XE te Γ Ω (va T j) Ω1) (e : g i j = n) (q : XS ts D F0 (Γ.set k (some (va T n))) Ω1) : XS (tSeq (tAug k te (rI Dd fun i j => .int (g i j))) ts) D F0 Γ Ω := fun σ H ⟨F, f0, en, hh⟩ => by
  subst e
  obtain ⟨x, h1, h2⟩ := en.2 k _ hx
  refine ⟨x, h1, ?_⟩
  refine h F σ H en hh _ fun F1 v H1 Ω' e1 hh1 ⟨a1, o1⟩ => ?_
  exact ⟨i, j, h2, a1, hd, q _ H1 ⟨F1, f0.trans e1, (en.mono e1).set (A := va T (g i j)) rfl, o1 ▸ hh1⟩⟩
theorem xs_augD1 {k : Nat} {Dd : Int → Int → Prop} {g : Int → Int → Int} (hx : Γ[k]? = some (some (va T i))) (hd : Dd i j) (h : XE te Γ Ω (va T j) Ω1) (e : g i j = n) (q : ∀ σ H, NX F0 (Γ.set k (some (va T n))) Ω1 σ H → D.nx σ H) : XS (tAug k te (rI Dd fun i j => .int (g i j))) D F0 Γ Ω := fun σ H m => xs_augD (ts := tNext) hx hd h e q σ H m
theorem xs_par2 {k l : Nat} {ta : TA} (h : XA ta Γ Ω [A, B] Ω1) (q : XS ts D F0 ((Γ.set k (some A)).set l (some B)) Ω1) : XS (tSeq (tPar k l ta) ts) D F0 Γ Ω := fun σ H ⟨F, f0, en, hh⟩ => by
  refine h F σ H en hh _ fun F1 vs H1 e1 hh1 a1 => ?_
  obtain ⟨v, w, rfl, b1, b2⟩ := alA2 a1
  exact ⟨v, w, rfl, q _ H1 ⟨F1, f0.trans e1, ((en.mono e1).set b1).set b2, hh1⟩⟩
theorem xs_par21 {k l : Nat} {ta : TA} (h : XA ta Γ Ω [A, B] Ω1) (q : ∀ σ H, NX F0 ((Γ.set k (some A)).set l (some B)) Ω1 σ H → D.nx σ H) : XS (tPar k l ta) D F0 Γ Ω := fun σ H n => xs_par2 (ts := tNext) h q σ H n
theorem xs_asgG {g : TG} {f : List (Option VA) → List (Option VA)} {js : List Nat} (h : XE te Γ Ω A Ω1) (ht : Tgt g A f js) (q : XS ts D F0 (f Γ) Ω1) : XS (tSeq (tAsg te g) ts) D F0 Γ Ω := fun σ H ⟨F, f0, en, hh⟩ => by
  refine h F σ H en hh _ fun F1 v H1 Ω' e1 hh1 ⟨a1, o1⟩ => ?_
  subst o1
  exact ht F1 σ Γ v H1 _ (en.mono e1) hh1 a1 _ fun F2 σ2 H2 e2 en2 hh2 _ => q σ2 H2 ⟨F2, f0.trans (e1.trans e2), en2, hh2⟩
theorem mf_none {m : Str} {d e : Addr} (h : (m == "width" || m == "cutoff" || m == "counts" || m == "entered") = false) : (mf s d e).lookup m = none := by
  simp only [Bool.or_eq_false_iff] at h
  unfold mf
  rw [look_ne h.1.1.1, look_ne h.1.1.2, look_ne h.1.2, look_ne h.2]
  rfl
/-- a method of the machine -/
theorem xe_mcall {m : Str} {Pre : PreT} {E : XK} {ta : TE} {t : TA} {Ω' : List OA} (ha : XE ta Γ Ω (vr p) Ω) (hk : Ω[k]? = some (machA T p s)) (hx : XA t Γ Ω As Ω1) (hp : Pre (vr p :: As) Ω1 (RV A Ω')) (he : Ω' = Ω2)
    (hm : (m == "width" || m == "cutoff" || m == "counts" || m == "entered") = false := by decide +kernel) : XE (tMeth (T.C 0) m (mkSp Pre) [] E ta t) Γ Ω A Ω2 := fun F σ H e hh Q q => by
  subst he
  refine ha F σ H e hh _ fun F1 x H1 Ωa e1 hh1 ⟨a1, o1⟩ => ?_
  subst o1
  obtain ⟨t0, ⟨dx, d, en, ws, m1, m2, m3, m4⟩, st, _⟩ := hh1.get hk
  refine ⟨p, dx, _, a1, st _ _ m1, mf_none hm, ?_⟩
  refine hx F1 σ H1 (e.mono e1) hh1 _ fun F2 vs H2 e2 hh2 a2 => ?_
  refine ⟨F2, Ω1, vr p :: As, _, hp, ?_, hh2, fun F' v H' Ω3 e' hh' r => q F' v H' Ω3 ((e1.trans e2).trans e') hh' r⟩
  rw [List.append_nil]
  exact .cons a1 a2
end
section
variable {T : TC} {Γ : List (Option VA)} {Ω Ω1 Ω2 : List OA} {A B C : VA} {ta tb te tc : TE} {i j : Int} {b : Bool}
def rIsi (K : PySem.W.Frag) : List V → Hp → VK → Prop := fun xs H Q => ∃ (x c : V) (t u : Value) (b : Bool), xs = [x, c] ∧ ClsV c u ∧ TyX K H x t ∧ PySem.W.kitOne K t u = some b ∧ Q (.bl b) H
theorem cr_isi {X : Cx} : CallR X (.builtin "isinstance") (rIsi X.K) := call_isi
/-- what a class must be that isinstance asks for -/
structure ICls (K : PySem.W.Frag) (C : Addr) : Prop where
  cl : Cls K C
  ha : PySem.W.findIn K (.ref C) "__class__" = some (some (.builtin "object.__class__"))
  hn : PySem.W.specialIn K (.builtin "object.__class__") "__get__" = some (some (.builtin "getset_descriptor.__get__"))
  htk : PySem.W.takesIn K (.builtin "object.__class__") = some true
  hm : PySem.W.mroIn K C (.type "object") = some true
  kit : PySem.W.kitOne K (.ref C) (.ref C) = some true
theorem xe_isi {c : V} {t u : Value} (ha : XE ta Γ Ω A Ω1) (hb : XE tc Γ Ω1 (vx c) Ω1) (hc : ClsV c u) (ht : ∀ F H v, Holds F Ω1 H → A.P F v → TyX T.K H v t) (hk : PySem.W.kitOne T.K t u = some b) :
    XE (tCB (rIsi T.K) (tCons ta (tCons tc tNil))) Γ Ω (va T b) Ω1 := xe_cb (xa_cons ha (xa_cons hb xa_nil)) fun F H vs hh a Q q => by
  obtain ⟨v, w, rfl, a1, a2⟩ := alA2 a
  have a2 : w = c := a2
  subst a2
  exact ⟨v, w, t, u, b, rfl, hc, ht F H v hh a1, hk, q F _ H (Same.refl F) hh rfl⟩
theorem xe_vx {c : V} : XE (tC c) Γ Ω (vx c) Ω := xe_c fun _ => rfl
theorem ty_int {F H : Hp} {v : V} (_ : Holds F Ω H) (a : (va T i).P F v) : TyX T.K H v (.type "int") := by
  have a : v = .int i := a
  subst a
  exact .base (.int i)
theorem ty_mach {F H : Hp} {v : V} {p : Addr} {k : Nat} {s : MS} (ic : ICls T.K (T.C 0)) (hk : Ω[k]? = some (machA T p s)) (hh : Holds F Ω H) (a : (vr p).P F v) : TyX T.K H v (.ref (T.C 0)) := by
  have a : v = .ref p := a
  subst a
  obtain ⟨t, ⟨dx, d, en, ws, m1, _⟩, st, _⟩ := hh.get hk
  exact .base (.ins (st _ _ m1) ic.cl ic.ha ic.hn ic.htk ic.hm)
theorem ty_big {F H : Hp} {v : V} {x : Bg} (ic : ICls T.K (T.C 1)) (hh : Holds F Ω H) (a : (va T x).P F v) : TyX T.K H v (.ref (T.C 1)) := by
  obtain ⟨p, dx, r, vs, rfl, h2, _⟩ := a
  exact .base (.ins (hh.same _ _ h2) ic.cl ic.ha ic.hn ic.htk ic.hm)
end
section
variable {X : Cx} {K : PySem.W.Frag} {e o tg l : Expr} {es : List Expr} {f m name : Str} {pos p1 p2 p3 apos cpos : Pos} {te ta tl : TE} {t : TA} {k : Nat} {id Tn : String} {r : V → List V → Hp → VK → Prop}
/-! the rules, the written part named (within a comprehension's block) -/
theorem pe_fldK (he : PE X e ta) (hb : attributeBase e f X.env (eval e X.env) = eval e X.env) (hK : X.K = K) : PE X (.Attribute e f pos) (tFld K ta f) := hK ▸ pe_fld he hb
theorem cr_lenK (hK : X.K = K) : CallR X (.builtin "len") (rLen K) := hK ▸ cr_len
theorem cr_listK (hK : X.K = K) : CallR X (.type "list") (rList K) := hK ▸ cr_list
theorem cr_isiK (hK : X.K = K) : CallR X (.builtin "isinstance") (rIsi K) := hK ▸ cr_isi
theorem ix_seqK (hK : X.K = K) : IxR X (rIx K) := hK ▸ ix_seq
theorem sl_listK (hK : X.K = K) : SlR X (rSlL K) := hK ▸ sl_list
theorem op_eqXK (hu : X.A.units + 64 < cLine) (hK : X.K = K) : OpR X (compareOp .Eq) (rEqX K) := hK ▸ op_eqX hu
theorem op_neXK (hu : X.A.units + 64 < cLine) (hK : X.K = K) : OpR X (compareOp .NotEq) (rNeX K) := hK ▸ op_neX hu
theorem pe_revLK (he : PE X e te) (hK : X.K = K) : PE X (.Subscript e (.Slice none none (some (.UnaryOp .USub (.Constant (.int 1) k p1) p2)) p3) pos) (tRevL K te) := hK ▸ pe_revL he
theorem pi_listK (hl : PE X l tl) (hK : X.K = K) : PI X tg l (iList K tl) := hK ▸ pi_list hl
theorem pg_tupK {es : List Expr} {k : Nat} {t : TGs} {n : Nat} (hK : X.K = K) (hc : X.calm = true) (h : PGs X es t)
    (hn : (assignEach es X.env).length = n := by rfl) (hst : (assignEach es X.env).findIdx? (·.1) = none := by rfl) : PG X (.Tuple es k pos) (gTup K n t) := hK ▸ pg_tup hc h hn hst
end
/-! ### promises of the machine's and the numbers' methods -/
def Pre_Mach_step (T : TC) : PreT := fun As Ω R => ∃ (k : Nat) (p : Addr) (s : MS) (wd : Str) (n : Int), As = [vr p, va T wd, va T n] ∧ Ω[k]? = some (machA T p s) ∧ wd ∈ mwords ∧ R = RV (va T ()) (stt Ω [(k, machA T p (s.step wd n))] [])
def Pre_Mach_enter (T : TC) : PreT := fun As Ω R => ∃ (k : Nat) (p : Addr) (s : MS) (wd : Str) (m n : Int), As = [vr p, va T wd, va T m, va T n] ∧ Ω[k]? = some (machA T p s) ∧ R = RV (va T ()) (stt Ω [(k, machA T p (s.enter wd m n))] [])
def Pre_Mach_reset (T : TC) : PreT := fun As Ω R => ∃ (k : Nat) (p : Addr) (s : MS), As = [vr p] ∧ Ω[k]? = some (machA T p s) ∧ R = RV (va T ()) (stt Ω [(k, machA T p s.reset)] [])
def Pre_Mach_tally (T : TC) : PreT := fun As Ω R => ∃ (k : Nat) (p : Addr) (s : MS), As = [vr p] ∧ Ω[k]? = some (machA T p s) ∧ R = RV (va T (LF.mk s.tally)) Ω
def Pre_Mach_walk (T : TC) : PreT := fun As Ω R => ∃ (k : Nat) (p : Addr) (s : MS), As = [vr p] ∧ Ω[k]? = some (machA T p s) ∧ R = RV (va T (LF.mk s.wk)) Ω
def Pre_Mach_parts (T : TC) : PreT := fun As Ω R => ∃ (k : Nat) (p : Addr) (s : MS), As = [vr p] ∧ Ω[k]? = some (machA T p s) ∧ R = RV (va T (s.w, s.c)) Ω
def Pre_Machine (T : TC) : PreT := fun As Ω R => ∃ (Ω0 : List OA) (p : Addr) (w c : Int), As = [vr p, va T w, va T c] ∧ ((8 ≤ w ∧ w ≤ 30) ∧ 2 ≤ c ∧ c ≤ 1000) ∧ Ω = Ω0 ++ [newA (T.C 0) p] ∧ R = RV (va T ()) (Ω0 ++ [machA T p (MS.fresh w c)])
def Pre_Big (T : TC) : PreT := fun As Ω R => ∃ (Ω0 : List OA) (p : Addr) (w v : Int) (row : List Int) (B : VA), (B = va T (LF.mk row) ∨ B = va T (TF.mk row)) ∧ As = [vr p, va T w, va T v, B] ∧ Ω = Ω0 ++ [newA (T.C 1) p] ∧ R = RV (va T ()) (Ω0 ++ [bigA T p ⟨w, row, v⟩])
/-- what must hold to go on -/
noncomputable def chkP (p : Prop) : Option Unit := @ite _ p (Classical.propDecidable p) (some ()) none
theorem chkP_some {p : Prop} {r : Unit} (h : chkP p = some r) : p := by
  unfold chkP at h
  split at h
  · assumption
  · cases h
end VL

set_option Elab.async false
set_option linter.all false
set_option maxRecDepth 100000
/-! == of data; new things side by side -/
namespace VL
open PySem L2
class Dat (α : Type) [Rp α] where
  dat : α → PyData
  ok : α → Prop
  dep : Nat
  dp : ∀ {T : TC} {F H : Hp} {v : V} {a : α}, Same F H → Rp.rep T F v a → Dp T.K H v (dat a)
  lay : ∀ {a : α}, ok a → (dat a).canLay0 = true
  depth : ∀ {a : α}, (dat a).depth ≤ dep
  eqv : ∀ {a b : α}, PyData.eqv (dat a) (dat b) = true ↔ a = b
instance : Dat Int := ⟨.int, fun _ => True, 0, fun _ h => by
    rw [show _ = V.int _ from h]; exact .int _, fun _ => rfl, Nat.le_refl _, fun {a b} => by
    show (a == b) = true ↔ a = b
    exact beq_iff_eq⟩
instance : Dat Bool := ⟨.bool, fun _ => True, 0, fun _ h => by
    rw [show _ = V.bl _ from h]; exact .bl _, fun _ => rfl, Nat.le_refl _, fun {a b} => by
    show (a == b) = true ↔ a = b
    exact beq_iff_eq⟩
instance : Dat Str := ⟨.str, fun s => (PyData.str s).canLay0 = true, 0, fun _ h => by
    rw [show _ = V.str _ from h]; exact .str _, fun h => h, Nat.le_refl _, fun {a b} => by
    show (a == b) = true ↔ a = b
    exact beq_iff_eq⟩
section
variable {α : Type} [Rp α] [Dat α]
theorem dp_all {T : TC} {F H : Hp} (e : Same F H) : ∀ {vs : List V} {l : List α}, Al T F vs l → DpAll T.K H vs (l.map Dat.dat)
  | _, _, .nil => .nil
  | _, _, .cons h t => .cons (Dat.dp e h) (dp_all e t)
theorem lay_all : ∀ {l : List α}, (∀ x ∈ l, Dat.ok x) → PyData.canLayAll0 (l.map Dat.dat) = true
  | [], _ => rfl
  | x :: r, h => by
    show (PyData.canLay0 (Dat.dat x) && PyData.canLayAll0 (r.map Dat.dat)) = true
    rw [Dat.lay (h x List.mem_cons_self), lay_all fun y hy => h y (List.mem_cons_of_mem _ hy)]
    rfl
theorem dep_all : ∀ {l : List α}, PyData.depthAll (l.map Dat.dat) ≤ Dat.dep α
  | [] => Nat.zero_le _
  | x :: r => by
    show max (PyData.depth (Dat.dat x)) (PyData.depthAll (r.map Dat.dat)) ≤ _
    exact Nat.max_le.mpr ⟨Dat.depth, dep_all⟩
theorem eqv_all : ∀ {l m : List α}, PyData.eqvAll (l.map Dat.dat) (m.map Dat.dat) = true ↔ l = m
  | [], [] => by simp [PyData.eqvAll]
  | [], _ :: _ => by simp [PyData.eqvAll]
  | _ :: _, [] => by simp [PyData.eqvAll]
  | x :: r, y :: s => by
    simp only [List.map_cons, PyData.eqvAll, Bool.and_eq_true, Dat.eqv, eqv_all, List.cons.injEq]
end
theorem depth_list {ds : List PyData} : (PyData.list ds).depth = PyData.depthAll ds + 1 := by simp [PyData.depth]
theorem depth_tuple {ds : List PyData} : (PyData.tuple ds).depth = PyData.depthAll ds + 1 := by simp [PyData.depth]
instance {α : Type} [Rp α] [Dat α] : Dat (LF α) := ⟨fun l => .list (l.l.map Dat.dat), fun l => ∀ x ∈ l.l, Dat.ok x, Dat.dep α + 1, fun e ⟨p, vs, h1, h2, h3⟩ => by
    rw [h1]; exact .lst (SqL.of (e _ _ h2)) (dp_all e h3), fun h => by show PyData.canLayAll0 _ = true; exact lay_all h, fun {a} => by rw [depth_list]; exact Nat.succ_le_succ dep_all, fun {a b} => by
    show PyData.eqvAll _ _ = true ↔ a = b
    rw [eqv_all]
    cases a; cases b; simp⟩
instance {α : Type} [Rp α] [Dat α] : Dat (TF α) := ⟨fun l => .tuple (l.l.map Dat.dat), fun l => ∀ x ∈ l.l, Dat.ok x, Dat.dep α + 1, fun e ⟨p, vs, h1, h2, h3⟩ => by
    rw [h1]; exact .tup (Same.tup e h2) (dp_all e h3), fun h => by show PyData.canLayAll0 _ = true; exact lay_all h, fun {a} => by rw [depth_tuple]; exact Nat.succ_le_succ dep_all, fun {a b} => by
    show PyData.eqvAll _ _ = true ↔ a = b
    rw [eqv_all]
    cases a; cases b; simp⟩
instance {α β : Type} [Rp α] [Rp β] [Dat α] [Dat β] : Dat (α × β) := ⟨fun l => .tuple [Dat.dat l.1, Dat.dat l.2], fun l => Dat.ok l.1 ∧ Dat.ok l.2, max (Dat.dep α) (Dat.dep β) + 1, fun e ⟨p, x, y, h1, h2, h3, h4⟩ => by
    rw [h1]; exact .tup (Same.tup e h2) (.cons (Dat.dp e h3) (.cons (Dat.dp e h4) .nil)), fun h => by
    show (PyData.canLay0 (Dat.dat _) && (PyData.canLay0 (Dat.dat _) && true)) = true
    rw [Dat.lay h.1, Dat.lay h.2]; rfl, fun {a} => by
    rw [depth_tuple]
    refine Nat.succ_le_succ ?_
    show max (PyData.depth (Dat.dat a.1)) (max (PyData.depth (Dat.dat a.2)) 0) ≤ _
    have h1 := Dat.depth (a := a.1)
    have h2 := Dat.depth (a := a.2)
    omega, fun {a b} => by
    show (PyData.eqv (Dat.dat a.1) (Dat.dat b.1) && (PyData.eqv (Dat.dat a.2) (Dat.dat b.2) && true)) = true ↔ a = b
    rw [Bool.and_true, Bool.and_eq_true, Dat.eqv, Dat.eqv]
    exact Prod.ext_iff.symm⟩
instance {α β γ : Type} [Rp α] [Rp β] [Rp γ] [Dat α] [Dat β] [Dat γ] : Dat (T3 α β γ) := ⟨fun l => .tuple [Dat.dat l.a, Dat.dat l.b, Dat.dat l.c], fun l => Dat.ok l.a ∧ Dat.ok l.b ∧ Dat.ok l.c, max (Dat.dep α) (max (Dat.dep β) (Dat.dep γ)) + 1, fun e ⟨p, x, y, z, h1, h2, h3, h4, h5⟩ => by
    rw [h1]; exact .tup (Same.tup e h2) (.cons (Dat.dp e h3) (.cons (Dat.dp e h4) (.cons (Dat.dp e h5) .nil))), fun h => by
    show (PyData.canLay0 (Dat.dat _) && (PyData.canLay0 (Dat.dat _) && (PyData.canLay0 (Dat.dat _) && true))) = true
    rw [Dat.lay h.1, Dat.lay h.2.1, Dat.lay h.2.2]; rfl, fun {a} => by
    rw [depth_tuple]
    refine Nat.succ_le_succ ?_
    show max (PyData.depth (Dat.dat a.a)) (max (PyData.depth (Dat.dat a.b)) (max (PyData.depth (Dat.dat a.c)) 0)) ≤ _
    have h1 := Dat.depth (a := a.a)
    have h2 := Dat.depth (a := a.b)
    have h3 := Dat.depth (a := a.c)
    omega, fun {a b} => by
    show (PyData.eqv (Dat.dat a.a) (Dat.dat b.a) && (PyData.eqv (Dat.dat a.b) (Dat.dat b.b) && (PyData.eqv (Dat.dat a.c) (Dat.dat b.c) && true))) = true ↔ a = b
    rw [Bool.and_true, Bool.and_eq_true, Bool.and_eq_true, Dat.eqv, Dat.eqv, Dat.eqv]
    cases a; cases b; simp⟩
/-- == -/
def eqD {α : Type} [Rp α] [Dat α] (x y : α) : Bool := PyData.eqv (Dat.dat x) (Dat.dat y)
theorem eqD_iff {α : Type} [Rp α] [Dat α] {x y : α} : eqD x y = true ↔ x = y := Dat.eqv
/-- A is data d -/
def IsD (T : TC) (Ω : List OA) (A : VA) (d : PyData) : Prop := ∀ F H v, Holds F Ω H → A.P F v → Dp T.K H v d
section
variable {T : TC} {Γ : List (Option VA)} {Ω Ω1 Ω2 Ω3 : List OA} {A B C : VA} {ta tb te : TE} {D : Ends} {F0 : Hp} {ts : TS} {b : Bool} {α : Type} [Rp α] [Dat α] {x y : α} {l m : List α} {p : Addr} {k : Nat}
theorem isD_va : IsD T Ω (va T x) (Dat.dat x) := fun F H v hh a => Dat.dp hh.same a
theorem shp {x : α} (h : Dat.ok x) (hd : Dat.dep α ≤ 64) : SeqAt.shaped (Dat.dat x) = true := by
  unfold SeqAt.shaped
  rw [Dat.lay h, Bool.true_and]
  exact decide_eq_true (Nat.le_trans Dat.depth hd)
theorem ro_eqD {d e : PyData} (h1 : IsD T Ω A d) (h2 : IsD T Ω B e) (s1 : SeqAt.shaped d = true) (s2 : SeqAt.shaped e = true) : RO (rEqX T.K) Ω A B (va T (PyData.eqv d e)) := fun F H x y hh a1 a2 Q q =>
  .inr ⟨d, e, h1 F H x hh a1, h2 F H y hh a2, s1, s2, q F _ H (Same.refl F) hh rfl⟩
theorem ro_neD {d e : PyData} (h1 : IsD T Ω A d) (h2 : IsD T Ω B e) (s1 : SeqAt.shaped d = true) (s2 : SeqAt.shaped e = true) : RO (rNeX T.K) Ω A B (va T (!PyData.eqv d e)) := fun F H x y hh a1 a2 Q q =>
  .inr ⟨d, e, h1 F H x hh a1, h2 F H y hh a2, s1, s2, q F _ H (Same.refl F) hh rfl⟩
theorem xe_appE {k : Nat} {p : Addr} {a : α} {l l2 : List α} {Ω2 : List OA} (h0 : Ω[k]? = some (lstA T p l2)) (hk : Ω1[k]? = some (lstA T p l)) (ha : XE ta Γ Ω (vr p) Ω) (hb : XE tb Γ Ω (va T a) Ω1) (hz : l.length < sizeLine) (he : Ω1.set k (lstA T p (l ++ [a])) = Ω2) :
    XE (tBM T.K "list" rAppend ta (tCons tb tNil)) Γ Ω (va T ()) Ω2 := he ▸ xe_app h0 hk ha hb hz
/-- == of data -/
theorem xe_eqD (h : Dat.ok x ∧ Dat.ok y) (hd : Dat.dep α ≤ 64) (ha : XE ta Γ Ω A Ω1) (hb : XE tb Γ Ω1 B Ω2) (i1 : IsD T Ω2 A (Dat.dat x)) (i2 : IsD T Ω2 B (Dat.dat y)) : XE (tOp (rEqX T.K) ta tb) Γ Ω (va T (eqD x y)) Ω2 := xe_op ha hb (ro_eqD i1 i2 (shp h.1 hd) (shp h.2 hd))
theorem xe_neD (h : Dat.ok x ∧ Dat.ok y) (hd : Dat.dep α ≤ 64) (ha : XE ta Γ Ω A Ω1) (hb : XE tb Γ Ω1 B Ω2) (i1 : IsD T Ω2 A (Dat.dat x)) (i2 : IsD T Ω2 B (Dat.dat y)) : XE (tOp (rNeX T.K) ta tb) Γ Ω (va T (!eqD x y)) Ω2 := xe_op ha hb (ro_neD i1 i2 (shp h.1 hd) (shp h.2 hd))
/-- things made in a turn are left -/
theorem Holds.cutL {F H : Hp} {Ω : List OA} {ks : List (Nat × OA)} {L M : List OA} (h : Holds F (stt Ω ks (L ++ M)) H) : Holds F (stt Ω ks L) H := by
  have e : stt Ω ks (L ++ M) = stt Ω ks L ++ M := (List.append_assoc _ _ _).symm
  rw [e] at h
  obtain ⟨ts, h1, h2, h3, h4, h5⟩ := h
  have len : (stt Ω ks L ++ M).length = (stt Ω ks L).length + M.length := List.length_append
  exact ⟨ts, fun i o q => h1 i o (by rw [List.getElem?_append_left (getlt q)]; exact q), h2, fun i q => h3 i (by omega), fun i b x q => h4 i b x (by omega), fun i j b x qi qj => h5 i j b x (by omega) (by omega)⟩
theorem NX.cutL {ks : List (Nat × OA)} {σ : L2.St} {H : Hp} {L' : List OA} (L M : List OA) (h : NX F0 Γ (stt Ω ks L') σ H) (e : L' = L ++ M := by rfl) : NX F0 Γ (stt Ω ks L) σ H := by
  subst e
  let ⟨F, f0, en, hh⟩ := h
  exact ⟨F, f0, en, hh.cutL⟩
end
/-! ### keyword arguments -/
/-- the parameters' values out of those that are written, by place -/
def prm {α : Type} (ix : List Nat) (l : List α) : List α := ix.filterMap fun i => l[i]?
theorem prm_rel {R : V → Value → Prop} : ∀ (ix : List Nat) {vs : List V} {us : List Value}, Paired R vs us → Paired R (prm ix vs) (prm ix us)
  | [], _, _, _ => .nil
  | i :: r, vs, us, h => by
    have hl := PySem.Paired.length h
    have ih := prm_rel r h
    have key : ∀ (vs : List V) (us : List Value), Paired R vs us → ∀ i : Nat, (vs[i]? = none ∧ us[i]? = none) ∨ ∃ v u, vs[i]? = some v ∧ us[i]? = some u ∧ R v u := by
      intro vs us h
      induction h with
      | nil => intro i; exact .inl ⟨by simp, by simp⟩
      | cons a t ih =>
        intro i
        cases i with
        | zero => exact .inr ⟨_, _, rfl, rfl, a⟩
        | succ i => simpa using ih i
    unfold prm
    rw [List.filterMap_cons, List.filterMap_cons]
    rcases key vs us h i with ⟨h1, h2⟩ | ⟨v, u, h1, h2, rr⟩
    · rw [h1, h2]; exact ih
    · rw [h1, h2]; exact .cons rr ih
theorem prm_relA {F : Hp} : ∀ (ix : List Nat) {vs : List V} {As : List VA}, AlA F vs As → AlA F (prm ix vs) (prm ix As)
  | [], _, _, _ => .nil
  | i :: r, vs, As, h => by
    have ih := prm_relA r h
    have key : ∀ (vs : List V) (As : List VA), AlA F vs As → ∀ i : Nat, (vs[i]? = none ∧ As[i]? = none) ∨ ∃ v A, vs[i]? = some v ∧ As[i]? = some A ∧ A.P F v := by
      intro vs As h
      induction h with
      | nil => intro i; exact .inl ⟨by simp, by simp⟩
      | cons a t ih =>
        intro i
        cases i with
        | zero => exact .inr ⟨_, _, rfl, rfl, a⟩
        | succ i => simpa using ih i
    unfold prm
    rw [List.filterMap_cons, List.filterMap_cons]
    rcases key vs As h i with ⟨h1, h2⟩ | ⟨v, u, h1, h2, rr⟩
    · rw [h1, h2]; exact ih
    · rw [h1, h2]; exact .cons rr ih
structure CalK (P : Program) (w : World) (K : PySem.W.Frag) (mg : Str → Option Value) (base : Heap) (k : Nat) (x : Str) (ps : List Str) (n : Nat) (ks : List Str) (ix : List Nat) (sp : Sp) : Prop where
  ex : ∃ f fd, FnOk P w K mg base CX0 k f fd ps sp ∧ mg x = some (.ref f) ∧ PySem.W.keepIn K (.ref f) = true ∧ KBn K fd ps n ks (fun us ws => prm ix (us ++ ws)) (fun vs zs => prm ix (vs ++ zs))
section
variable {X : Cx} {k n : Nat} {x : Str} {ps ks : List Str} {ix : List Nat} {sp : Sp} {p pos : Pos} {e : Expr} {es : List Expr} {kws : List Keyword} {t tk : TA}
end
section
variable {T : TC} {Γ : List (Option VA)} {Ω Ω1 Ω2 Ω3 : List OA} {A : VA} {As Ks : List VA}
end
end VL

set_option Elab.async false
set_option linter.all false
set_option maxRecDepth 100000
/-! frozen dicts from texts to ints; zip; pairs by place -/
namespace VL
open PySem L2 PyProof.Rows
structure DF where
  l : List (Str × Int)
def dkv (l : List (Str × Int)) : List (Key × V) := l.map fun q => (Sum.inr q.1, V.int q.2)
instance : Rp DF := ⟨fun T F v d => ∃ p od, v = .ref p ∧ F p = some (.frz od (.dK (dkv d.l))), fun e ⟨p, od, h1, h2⟩ => ⟨p, od, h1, e _ _ h2⟩⟩
/-- what an expression makes is locked for good -/
def tFz (te : TE) : TE := fun σ H Q => te σ H fun v H1 => ∃ p kvs, v = .ref p ∧ H1 p = some (.dK kvs) ∧ ∀ od, Q v (upd H1 p (.frz od (.dK kvs)))
theorem pe_fz {X : Cx} {e : Expr} {te : TE} (he : PE X e te) : PE X e (tFz te) := by
  refine ⟨fun pins s σ H Q I hw => ?_⟩
  refine thn (he.run pins s σ H _ I hw) fun u s1 ⟨x, H1, I1, rx, p, kvs, ex, hp, q⟩ => ?_
  obtain ⟨od, I2⟩ := I1.lock hp trivial
  exact ⟨x, _, I2, rx, q od⟩
/-! ### a dict on its way -/
def rawD (p : Addr) (kvs : List (Key × V)) : OA := ⟨fun _ t => t p = some (.dK kvs), fun _ h => h⟩
theorem Holds.newD {F H : Hp} {Ω : List OA} {p : Addr} {kvs : List (Key × V)} (h : Holds F Ω H) (n : H p = none) : Holds F (Ω ++ [rawD p kvs]) (upd H p (.dK kvs)) := by
  refine h.newO (t := upd (fun _ => none) p (.dK kvs)) (fun b x e => ?_) (same_upd n) (fun b x e => ?_) upd_same
  · by_cases hb : b = p
    · rw [hb]; exact n
    · rw [upd_ne hb] at e; cases e
  · by_cases hb : b = p
    · subst hb; rw [upd_same] at e ⊢; exact e
    · rw [upd_ne hb] at e; cases e
theorem Holds.fzD {F H : Hp} {Ω : List OA} {p : Addr} {kvs : List (Key × V)} {u : HO} (h : Holds F (Ω ++ [rawD p kvs]) H) : H p = some (.dK kvs) ∧ Holds (upd F p u) Ω (upd H p u) ∧ Same F (upd F p u) := by
  obtain ⟨ts, h1, h2, h3, h4, h5⟩ := h
  have len : (Ω ++ [rawD p kvs]).length = Ω.length + 1 := by simp
  have tp : ts Ω.length p = some (.dK kvs) := h1 Ω.length (rawD p kvs) app_at
  have nF : F p = none := h4 Ω.length p _ (by omega) tp
  have sF : Same F (upd F p u) := same_upd nF
  have nt : ∀ i, i < Ω.length → ts i p = none := fun i q => h5 Ω.length i p _ (by omega) (by omega) (by omega) tp
  refine ⟨h3 Ω.length (by omega) p _ tp, ⟨ts, fun i o q => o.mono sF (h1 i o (app_lt q)), fun b x e => ?_, fun i q b x e => ?_, fun i b x q e => ?_, fun i j b x qi qj ne e => h5 i j b x (by omega) (by omega) ne e⟩, sF⟩
  · by_cases hb : b = p
    · subst hb; rw [upd_same] at e ⊢; exact e
    · rw [upd_ne hb] at e ⊢; exact h2 b x e
  · by_cases hb : b = p
    · subst hb; rw [nt i q] at e; cases e
    · rw [upd_ne hb]; exact h3 i (by omega) b x e
  · by_cases hb : b = p
    · subst hb; rw [nt i q] at e; cases e
    · rw [upd_ne hb]; exact h4 i b x (by omega) e
section
variable {T : TC} {Γ : List (Option VA)} {Ω Ω1 Ω2 Ω3 : List OA} {A B C : VA} {ta tb te : TE} {D : Ends} {F0 : Hp} {ts : TS}
/-- keys that differ: merging leaves them as they are -/
theorem any_dkv {k : Str} : ∀ {l : List (Str × Int)}, (k ∉ l.map (·.1)) → ((dkv l).any fun kv => decide (kv.1 = (Sum.inr k : Key))) = false := by
  intro l h
  rw [List.any_eq_false]
  intro x hx
  obtain ⟨y, hy, rfl⟩ := List.mem_map.mp hx
  have : y.1 ≠ k := fun e => h (List.mem_map.mpr ⟨y, hy, e⟩)
  simp [this]
theorem merge_dkv : ∀ {l acc : List (Str × Int)}, ((acc ++ l).map (·.1)).Nodup → mergeK (dkv acc) (dkv l) = dkv (acc ++ l)
  | [], acc, _ => by rw [List.append_nil]; rfl
  | x :: r, acc, h => by
    have hx : x.1 ∉ acc.map (·.1) := fun m => by
      rw [List.map_append, List.nodup_append] at h
      exact h.2.2 _ m _ (by simp) rfl
    have e : mergeK (dkv acc) (dkv (x :: r)) = mergeK (putK (dkv acc) (Sum.inr x.1) (V.int x.2)) (dkv r) := rfl
    have e2 : putK (dkv acc) (Sum.inr x.1) (V.int x.2) = dkv (acc ++ [x]) := by
      unfold putK
      rw [any_dkv hx]
      show dkv acc ++ [(Sum.inr x.1, V.int x.2)] = _
      unfold dkv
      rw [List.map_append]
      rfl
    rw [e, e2, merge_dkv (l := r) (acc := acc ++ [x]) (by rw [List.append_assoc]; exact h), List.append_assoc]
    rfl
theorem merge0 {l : List (Str × Int)} (h : (l.map (·.1)).Nodup) : mergeK [] (dkv l) = dkv l := merge_dkv (acc := []) h
theorem val_dkv {k : Str} {v : Int} : ∀ {l : List (Str × Int)}, l.lookup k = some v → valV (dkv l) (Sum.inr k) = some (V.int v)
  | [], h => by cases h
  | x :: r, h => by
    by_cases e : x.1 = k
    · have hb : (k == x.1) = true := by rw [e]; exact beq_self_eq_true k
      have h2 : (match k == x.1 with | true => some x.2 | false => r.lookup k) = some v := h
      rw [hb] at h2
      have h3 : x.2 = v := Option.some.inj h2
      show valV ((Sum.inr x.1, V.int x.2) :: dkv r) (Sum.inr k) = _
      rw [valV_pos (p := ((Sum.inr x.1 : Key), V.int x.2)) (by show (Sum.inr x.1 : Key) = Sum.inr k; rw [e])]
      show some (V.int x.2) = _
      rw [h3]
    · have hb : (k == x.1) = false := by
        cases q : k == x.1 with
        | false => rfl
        | true => exact absurd (beq_iff_eq.mp q).symm e
      have h2 : (match k == x.1 with | true => some x.2 | false => r.lookup k) = some v := h
      rw [hb] at h2
      have ih := val_dkv (l := r) h2
      show valV ((Sum.inr x.1, V.int x.2) :: dkv r) (Sum.inr k) = _
      unfold valV at ih ⊢
      rw [List.find?_cons_of_neg (by simp [e])]
      exact ih
/-! ### a display -/
def XPs (trs : List (TE × TE)) (Γ : List (Option VA)) (Ω : List OA) (kvs : List (Str × Int)) : Prop :=
  ∀ F σ H, Env F σ Γ → Holds F Ω H → ∀ Q : List (V × V) → Hp → Prop, (∀ F' H', Same F F' → Holds F' Ω H' → Q (kvs.map fun q => (V.str q.1, V.int q.2)) H') → tPairs trs σ H Q
theorem xps_nil : XPs [] Γ Ω [] := fun F σ H e hh Q q => q F H (Same.refl F) hh
theorem xps_cons {tk tv : TE} {trs : List (TE × TE)} {k : Str} {v : Int} {r : List (Str × Int)} (hk : XE tk Γ Ω (va T k) Ω) (hv : XE tv Γ Ω (va T v) Ω) (hr : XPs trs Γ Ω r) : XPs ((tk, tv) :: trs) Γ Ω ((k, v) :: r) := fun F σ H e hh Q q => by
  refine hk F σ H e hh _ fun F1 x H1 Ω' e1 hh1 ⟨a1, o1⟩ => ?_
  subst o1
  refine hv F1 σ H1 (e.mono e1) hh1 _ fun F2 y H2 Ω' e2 hh2 ⟨a2, o2⟩ => ?_
  subst o2
  have a1 : x = V.str k := a1
  have a2 : y = V.int v := a2
  subst a1 a2
  exact hr F2 σ H2 ((e.mono e1).mono e2) hh2 _ fun F3 H3 e3 hh3 => q F3 H3 ((e1.trans e2).trans e3) hh3
theorem xe_disp {trs : List (TE × TE)} {kvs : List (Str × Int)} {ks : List (Nat × OA)} {L : List OA} (h : ∀ X, XPs trs Γ (stt Ω ks (L ++ [X])) kvs) (hn : (kvs.map (·.1)).Nodup) (h15 : kvs.length ≤ 15) : XE (tFz (tDisp trs)) Γ (stt Ω ks L) (va T (DF.mk kvs)) (stt Ω ks L) := fun F σ H e hh Q q => by
  intro p hp
  have hh1 := hh.newD (kvs := []) hp
  rw [stt_app] at hh1
  refine h (rawD p []) F σ _ e hh1 _ fun F2 H2 e2 hh2 => ?_
  rw [← stt_app] at hh2
  refine ⟨(hh2.fzD (u := .dK [])).1, dkv kvs, ?_, by unfold dkv; rw [List.length_map]; exact h15, p, _, rfl, upd_same, fun od => ?_⟩
  · unfold dkv
    rw [List.map_map]
    rfl
  · obtain ⟨_, hh3, e3⟩ := hh2.fzD (u := .frz od (.dK (mergeK [] (dkv kvs))))
    have eu : upd (upd H2 p (.dK (mergeK [] (dkv kvs)))) p (.frz od (.dK (mergeK [] (dkv kvs)))) = upd H2 p (.frz od (.dK (mergeK [] (dkv kvs)))) := by
      funext b
      by_cases hb : b = p
      · subst hb; rw [upd_same, upd_same]
      · rw [upd_ne hb, upd_ne hb, upd_ne hb]
    rw [eu]
    exact q _ _ _ _ (e2.trans e3) hh3 ⟨⟨p, od, rfl, by rw [upd_same, merge0 hn]⟩, rfl⟩
theorem xe_disp0 : XE (tFz tDNewK) Γ Ω (va T (DF.mk [])) Ω := fun F σ H e hh Q q => by
  intro p hp
  refine ⟨p, [], rfl, upd_same, fun od => ?_⟩
  have eu : upd (upd H p (.dK [])) p (.frz od (.dK [])) = upd H p (.frz od (.dK [])) := by
    funext b
    by_cases hb : b = p
    · subst hb; rw [upd_same, upd_same]
    · rw [upd_ne hb, upd_ne hb, upd_ne hb]
  rw [eu]
  obtain ⟨hh3, e3⟩ := hh.newF (u := .frz od (.dK [])) hp
  exact q _ _ _ _ e3 hh3 ⟨⟨p, od, rfl, upd_same⟩, rfl⟩

/-! ### dict(pairs) -/
def rDictP (K : PySem.W.Frag) : List V → Hp → VK → Prop := fun xs H Q => ∃ (a : Addr) (ps : List Addr) (kvs : List (Key × V)), xs = [.ref a] ∧ SqL K H a (ps.map V.ref) ∧ Paired (fun p kv => SqT K H p [kV kv.1, kv.2]) ps kvs ∧
    ∀ p, H p = none → Q (.ref p) (upd H p (.dK (mergeK [] kvs)))
theorem cr_dictPK {X : Cx} {K : PySem.W.Frag} (hc : X.calm = true) (hK : X.K = K) : CallR X (.type "dict") (rDictP K) := hK ▸ call_dictP hc
theorem pairs_al {F : Hp} : ∀ {vs : List V} {l : List (Str × Int)}, Al T F vs l → ∃ ps : List Addr, vs = ps.map V.ref ∧ Paired (fun p kv => SqT T.K F p [kV kv.1, kv.2]) ps (dkv l)
  | _, _, .nil => ⟨[], rfl, .nil⟩
  | _, _, .cons h t => by
    obtain ⟨p, x, y, hv, hs, h1, h2⟩ := h
    have h1 : x = V.str _ := h1
    have h2 : y = V.int _ := h2
    obtain ⟨ps, e, pr⟩ := pairs_al t
    subst h1 h2
    exact ⟨p :: ps, by rw [hv, e]; rfl, .cons hs pr⟩
theorem paired_imp {α β : Type} {R R' : α → β → Prop} (k : ∀ a b, R a b → R' a b) : ∀ {xs : List α} {ys : List β}, Paired R xs ys → Paired R' xs ys
  | _, _, .nil => .nil
  | _, _, .cons h t => .cons (k _ _ h) (paired_imp k t)
theorem fz_upd {H : Hp} {p : Addr} {u u' : HO} : upd (upd H p u) p u' = upd H p u' := by
  funext b
  by_cases hb : b = p
  · subst hb; rw [upd_same, upd_same]
  · rw [upd_ne hb, upd_ne hb, upd_ne hb]
theorem xe_dictP {l : List (Str × Int)} (ha : XE te Γ Ω A Ω1) (h : IsL T Ω1 A l) (hn : (l.map (·.1)).Nodup) : XE (tFz (tCB (rDictP T.K) (tCons te tNil))) Γ Ω (va T (DF.mk l)) Ω1 := fun F σ H e hh Q q => by
  refine ha F σ H e hh _ fun F1 x H1 Ω' e1 hh1 ⟨a1, o1⟩ => ?_
  subst o1
  obtain ⟨p, ws, ev, hs, al⟩ := h F1 H1 x hh1 a1
  obtain ⟨ps, ew, pr⟩ := pairs_al al
  refine ⟨p, ps, dkv l, by rw [ev], (by rw [← ew]; exact hs), paired_imp (fun a b q => Same.tup hh1.same q) pr, fun d hd => ?_⟩
  refine ⟨d, _, rfl, upd_same, fun od => ?_⟩
  rw [fz_upd]
  obtain ⟨hh3, e3⟩ := hh1.newF (u := .frz od (.dK (mergeK [] (dkv l)))) hd
  exact q _ _ _ _ (e1.trans e3) hh3 ⟨⟨d, od, rfl, by rw [upd_same, merge0 hn]⟩, rfl⟩
/-! ### == where it is known to hold -/
def rEqF : R2 := fun x y H Q => ∃ a b oa ob ks ls, x = .ref a ∧ y = .ref b ∧ H a = some (.frz oa (.dK ks)) ∧ H b = some (.frz ob (.dK ls)) ∧ ks.length = ls.length ∧ (∀ p ∈ ks, valV ls p.1 = some p.2 ∧ flatB p.2 = true) ∧ Q (.bl true) H
/-- the same keys, the same numbers -/
def sameD (l m : List (Str × Int)) : Prop := l.length = m.length ∧ ∀ x ∈ l, m.lookup x.1 = some x.2
/-! ### a pair's part -/
theorem xe_fst {α β : Type} [Rp α] [Rp β] {z : α × β} (ha : XE te Γ Ω (va T z) Ω1) : XE (tOp (rIx T.K) te (tC (.int 0))) Γ Ω (va T z.1) Ω1 := xe_op ha (xe_int (T := T) (n := 0)) fun F H x y hh a1 a2 Q q => by
  obtain ⟨p, u, v, rfl, hs, r1, r2⟩ := a1
  exact .inr (.inl ⟨p, _, 0, u, rfl, a2, Same.tup hh.same hs, rfl, q F u H (Same.refl F) hh r1⟩)
theorem xe_snd {α β : Type} [Rp α] [Rp β] {z : α × β} (ha : XE te Γ Ω (va T z) Ω1) : XE (tOp (rIx T.K) te (tC (.int 1))) Γ Ω (va T z.2) Ω1 := xe_op ha (xe_int (T := T) (n := 1)) fun F H x y hh a1 a2 Q q => by
  obtain ⟨p, u, v, rfl, hs, r1, r2⟩ := a1
  exact .inr (.inl ⟨p, _, 1, v, rfl, a2, Same.tup hh.same hs, rfl, q F v H (Same.refl F) hh r2⟩)
def rSumT (K : PySem.W.Frag) : List V → Hp → VK → Prop := fun vs H Q => ∃ (a : Addr) (ns : List Int), vs = [V.ref a] ∧ SqT K H a (ns.map V.int) ∧ Q (.int ns.sum) H
end
end VL

set_option Elab.async false
set_option linter.all false
set_option maxRecDepth 100000
/-! enumerate over a tuple; a truth whose second part may have no value; slices of tuples -/
namespace VL
open PySem L2 PyProof.Rows
/-- the tuple at a, its items in new pairs with their places -/
def IteT (K : PySem.W.Frag) (a : Addr) : It :=
  ⟨fun i H => ∃ xs x, SqT K H a xs ∧ xs[i]? = some x, fun i H v H' => ∃ p x, v = .ref p ∧ H p = none ∧ H' = upd H p (.tup [.int (i : Nat), x]) ∧ ∀ xs, SqT K H a xs → xs[i]? = some x, fun i H => ∃ xs, SqT K H a xs ∧ xs.length = i⟩
def iEnumT (K : PySem.W.Frag) (ta : TA) : TI := fun σ H R => ta σ H fun vs H1 => ∃ a xs, vs = [.ref a] ∧ SqT K H1 a xs ∧ R (IteT K a) H1
section
variable {T : TC} {Γ : List (Option VA)} {Ω Ω1 Ω2 Ω3 : List OA} {A B C : VA} {ta tb te : TE} {b : Bool} {α : Type} [Rp α] {l : List α}
/-- the items with their places -/
def nums (l : List α) : List (Int × α) := (rng 0 l.length).zip l
theorem nums_get {l : List α} {i : Nat} {x : α} (h : l[i]? = some x) : (nums l)[i]? = some ((i : Int), x) := by
  unfold nums
  rw [List.getElem?_zip_eq_some]
  refine ⟨?_, h⟩
  unfold rng
  rw [List.getElem?_map, List.getElem?_range (getlt h)]
  show some ((0 : Int) + (i : Int)) = some (i : Int)
  rw [Int.zero_add]
theorem nums_len {l : List α} : (nums l).length = l.length := by
  unfold nums rng
  rw [List.length_zip, List.length_map, List.length_range, Nat.min_self]
/-! ### a truth whose second part may have no value -/
theorem xe_andO {mb : Option Bool} {v : Bool} (h1 : XE ta Γ Ω (va T b) Ω) (hm : (if b = true then mb else some false) = some v) (h2 : ∀ v, mb = some v → XE tb Γ Ω (va T v) Ω) : XE (tAndV ta tb) Γ Ω (va T v) Ω := fun F σ H e hh Q q => by
  refine h1 F σ H e hh _ fun F1 x H1 Ω' e1 hh1 ⟨a1, o1⟩ => ?_
  subst o1
  refine ⟨b, a1, ?_⟩
  cases b with
  | true =>
    rw [if_pos rfl] at hm ⊢
    exact h2 v hm F1 σ H1 (e.mono e1) hh1 Q fun F2 y H2 Ω'' e2 hh2 r => q F2 y H2 Ω'' (e1.trans e2) hh2 r
  | false =>
    rw [if_neg Bool.false_ne_true] at hm ⊢
    cases hm
    exact q F1 _ H1 _ e1 hh1 ⟨rfl, rfl⟩
/-! ### a pair of a new list and a value -/
def RNP (T : TC) (Ω2 : List OA) (o : Addr → OA) (B : VA) : Hp → V → List OA → Prop := fun F v Ω' => ∃ p t w, v = .ref t ∧ SqT T.K F t [.ref p, w] ∧ B.P F w ∧ Ω' = Ω2 ++ [o p]
def RNQ (T : TC) (Ω2 : List OA) (p : Addr) (B : VA) : Hp → V → List OA → Prop := fun F v Ω' => ∃ t w, v = .ref t ∧ SqT T.K F t [.ref p, w] ∧ B.P F w ∧ Ω' = Ω2
end
end VL

set_option Elab.async false
set_option linter.all false
set_option maxRecDepth 100000
/-! == and != by the text's own __eq__ -/
namespace VL
open PySem L2 PyProof.Rows
/-- x == y, x != y of two instances of the class at C: what its own __eq__ promises -/
def rOwnEq (C : Addr) (sp : Sp) : R2 := fun x y H Q => ∃ a b dx dy fs gs, x = .ref a ∧ y = .ref b ∧ H a = some (.ins C dx fs) ∧ H b = some (.ins C dy gs) ∧ sp [x, y] H (fun v H' => ∃ r, v = .bl r ∧ Q (.bl r) H') E0
def rOwnNe (C : Addr) (sp : Sp) : R2 := fun x y H Q => ∃ a b dx dy fs gs, x = .ref a ∧ y = .ref b ∧ H a = some (.ins C dx fs) ∧ H b = some (.ins C dy gs) ∧ sp [x, y] H (fun v H' => ∃ r, v = .bl r ∧ Q (.bl (!r)) H') E0
section
variable {X : Cx} {n : Nat} {C f : Addr} {fd : FuncData} {ps : List Str} {sp : Sp}
/-- the call of __eq__ at a place with room -/
theorem call_own {A : Around} (F : FnOk X.prog X.w X.K X.mg X.base CX0 n f fd ps sp) (hb : Binds X.K fd ps []) (room : Room n A) (fr : A.frames = X.A.frames) {pins : List (Addr × Obj)} {σ : L2.St} {H : Hp} {s : Shared} {x y : V} {u v : Value} {Q : VK} (I : Inv X pins σ H s) (r1 : RelV x u) (r2 : RelV y v) (q : sp [x, y] H Q E0) :
    wpAny (model X.prog X.w) A (call (.ref f) [u, v]) (EP X pins σ Q) X.xe s := by
  have e0 : Env0 X.prog X.w X.K X.mg X.base A X.stack s H := by
    have b := I.env0
    exact ⟨by rw [fr]; exact b.frames, b.mod, b.bs, b.bsz, b.funs, b.frf, b.hok, b.bare⟩
  have len := F.len _ _ _ _ q
  have two : Vals [x, y] [u, v] := .cons r1 (.cons r2 .nil)
  refine wpAny_call (codeAny_mono (F.run A X.stack s H ⟨[u, v], []⟩ [u, v] [x, y] Q E0 room e0 (by
    have z := hb s [u, v] I.kIn (by simpa using len)
    simpa using z) two q) fun res s' out => ?_)
  cases res with
  | error e => exact False.elim out
  | ok fl =>
    cases fl with
    | ret w => exact I.after out
    | next => exact False.elim out
    | brk => exact False.elim out
    | cont => exact False.elim out
theorem op_ownEq (F : FnOk X.prog X.w X.K X.mg X.base CX0 n f fd ps sp) (own : PySem.W.findIn X.K (.ref C) "__eq__" = some (some (.ref f))) (isf : PySem.W.isFn X.K (.ref f) = true) (hb : Binds X.K fd ps []) (room : Room n X.A) : OpR X (compareOp .Eq) (rOwnEq C sp) := by
  intro pins s σ H x y v u Q I r1 r2 h
  obtain ⟨a, b, dx, dy, fs, gs, rfl, rfl, ha, hb', q⟩ := h
  obtain rfl : v = Value.ref a := r1
  obtain rfl : u = Value.ref b := r2
  obtain ⟨mA, J, _⟩ := ins_get I.hok ha
  obtain ⟨mB, J', _⟩ := ins_get I.hok hb'
  obtain ⟨od, J, _⟩ := J.look
  obtain ⟨od', J', _⟩ := J'.look
  obtain ⟨m, fr⟩ := I.fr
  have r3 := call_own F hb room rfl I (show RelV (V.ref a) (Value.ref a) from rfl) (show RelV (V.ref b) (Value.ref b) from rfl) q
  show wpAny (model X.prog X.w) X.A (richCompare .Eq (.ref a) (.ref b)) (EP X pins σ Q) X.xe s
  refine PySem.W.cmp_K (tb := .ref C) (op := .Eq) room.units0 fr I.ok.mod.kin J J'.type (by simp [PySem.W.notFirst]) own isf (wpAny_mono r3 (fun w s' z => ?_) fun _ _ z => z)
  obtain ⟨z, H', I', rz, r, ez, q'⟩ := z
  subst ez
  obtain rfl : w = Value.bool r := rz
  exact ⟨.bl r, H', I', rfl, q'⟩
end
section
variable {T : TC} {Γ : List (Option VA)} {Ω Ω1 Ω2 Ω3 : List OA} {A B C : VA} {ta tb te : TE} {x y : Bg} {r : Bool}
theorem xe_ownEq {Pre : PreT} {Ω' : List OA} (ha : XE ta Γ Ω (va T x) Ω1) (hb : XE tb Γ Ω1 (va T y) Ω2) (hp : Pre [va T x, va T y] Ω2 (RV (va T r) Ω')) (he : Ω' = Ω2) : XE (tOp (rOwnEq (T.C 1) (mkSp Pre)) ta tb) Γ Ω (va T r) Ω2 := xe_op ha hb fun F H u v hh a1 a2 Q q => by
  subst he
  obtain ⟨p, dx, r1, vs, rfl, h1, h2, h3⟩ := id a1
  obtain ⟨p2, dx2, r2, vs2, rfl, g1, g2, g3⟩ := id a2
  refine ⟨p, p2, dx, dx2, _, _, rfl, rfl, hh.same _ _ h1, hh.same _ _ g1, F, _, _, _, hp, .cons a1 (.cons a2 .nil), hh, fun F' w H' Ω'' s' hh' ⟨aw, eo⟩ => ?_⟩
  subst eo
  exact ⟨r, aw, q F' _ H' s' hh' rfl⟩
/-- a method of a number -/
theorem xe_mcallB {m : Str} {Pre : PreT} {E : XK} {t : TA} {As : List VA} {Ω' : List OA} (ha : XE ta Γ Ω (va T x) Ω1) (hx : XA t Γ Ω1 As Ω2) (hp : Pre (va T x :: As) Ω2 (RV A Ω')) (he : Ω' = Ω3)
    (hm : (m == "width" || m == "side" || m == "row" || m == "value") = false := by decide +kernel) : XE (tMeth (T.C 1) m (mkSp Pre) [] E ta t) Γ Ω A Ω3 := fun F σ H e hh Q q => by
  subst he
  refine ha F σ H e hh _ fun F1 v H1 Ωa e1 hh1 ⟨a1, o1⟩ => ?_
  subst o1
  obtain ⟨p, dx, r1, vs, rfl, h1, h2, h3⟩ := id a1
  simp only [Bool.or_eq_false_iff] at hm
  refine ⟨p, dx, _, rfl, hh1.same _ _ h1, by rw [look_ne hm.1.1.1, look_ne hm.1.1.2, look_ne hm.1.2, look_ne hm.2]; rfl, ?_⟩
  refine hx F1 σ H1 (e.mono e1) hh1 _ fun F2 ws H2 e2 hh2 a2 => ?_
  refine ⟨F2, Ω2, va T x :: As, _, hp, ?_, hh2, fun F' w H' Ω3 e' hh' r => q F' w H' Ω3 ((e1.trans e2).trans e') hh' r⟩
  rw [List.append_nil]
  exact .cons ((va T x).mono e2 a1) a2
end
structure CalEq (P : Program) (w : World) (K : PySem.W.Frag) (mg : Str → Option Value) (base : Heap) (n : Nat) (C : Addr) (sp : Sp) : Prop where
  ex : ∃ f fd, FnOk P w K mg base CX0 n f fd ["self", "other"] sp ∧ ownB K C f = true ∧ Meth K C "__eq__" f ∧ Binds K fd ["self", "other"] []
section
variable {X : Cx} {n : Nat} {C : Addr} {sp : Sp}
theorem op_eqC (c : CalEq X.prog X.w X.K X.mg X.base n C sp) (room : Room (n + 1) X.A) : OpR X (compareOp .Eq) (rOwnEq C sp) := by
  obtain ⟨f, fd, F, own, me, hb⟩ := c.ex
  exact op_ownEq F me.1 me.2 hb (room.mono (Nat.le_succ n))
end
end VL

set_option Elab.async false
set_option linter.all false
set_option maxRecDepth 100000
/-! bits joined; tuples of four -/
namespace VL
open PySem L2
structure T4 (α β γ δ : Type) where
  a : α
  b : β
  c : γ
  d : δ
instance {α β γ δ : Type} [Rp α] [Rp β] [Rp γ] [Rp δ] : Rp (T4 α β γ δ) := ⟨fun T F v l => ∃ p x y z u, v = .ref p ∧ SqT T.K F p [x, y, z, u] ∧ Rp.rep T F x l.a ∧ Rp.rep T F y l.b ∧ Rp.rep T F z l.c ∧ Rp.rep T F u l.d,
  fun e ⟨p, x, y, z, u, h1, h2, h3, h4, h5, h6⟩ => ⟨p, x, y, z, u, h1, Same.tup e h2, Rp.mono e h3, Rp.mono e h4, Rp.mono e h5, Rp.mono e h6⟩⟩
section
variable {T : TC} {Γ : List (Option VA)} {Ω Ω1 Ω2 Ω3 : List OA} {A B C : VA} {As : List VA} {ta tb te : TE} {t u : TT} {i j n m : Int} {b c : Bool}
theorem xe_tup4 {α β γ δ : Type} [Rp α] [Rp β] [Rp γ] [Rp δ] {a : α} {x : β} {y : γ} {z : δ} {ta : TA} (h : XA ta Γ Ω [va T a, va T x, va T y, va T z] Ω1) : XE (tTup ta) Γ Ω (va T (T4.mk a x y z)) Ω1 := fun F σ H e hh Q q => by
  refine h F σ H e hh _ fun F1 xs H1 e1 hh1 a1 => ?_
  cases a1 with
  | cons h1 a1 =>
    cases a1 with
    | cons h2 a1 =>
      obtain ⟨v, w, rfl, h3, h4⟩ := alA2 a1
      refine ⟨by show 4 ≤ sizeLine; decide, fun p hp => ?_⟩
      obtain ⟨hh2, e2⟩ := hh1.newF (u := .tup [_, _, v, w]) hp
      exact q _ _ _ _ (e1.trans e2) hh2 ⟨⟨p, _, _, v, w, rfl, SqT.of upd_same, Rp.mono e2 h1, Rp.mono e2 h2, Rp.mono e2 h3, Rp.mono e2 h4⟩, rfl⟩
theorem cal0' {Ω : List OA} : stt Ω [] [] = Ω := List.append_nil _
end
end VL

set_option Elab.async false
set_option linter.all false
set_option maxRecDepth 100000
/-! texts compared; items of a dict; enumerate over a list; lists unpacked; extend -/
namespace VL
open PySem L2
section
variable {T : TC} {Γ : List (Option VA)} {Ω Ω1 Ω2 Ω3 : List OA} {A B C : VA} {As : List VA} {ta tb te ti : TE} {t u : TT} {i j n m : Int} {b c : Bool} {x y : Str}
theorem ro_eqS : RO rEq Ω (va T x) (va T y) (va T (decide (x = y))) := fun F H v w hh a1 a2 Q q => by
  have a1 : v = .str x := a1
  have a2 : w = .str y := a2
  subst a1 a2
  refine ⟨rfl, q F _ H (Same.refl F) hh ?_⟩
  show V.bl _ = V.bl _
  congr 1
  exact decide_eq_decide.mpr ⟨V.str.inj, fun h => by rw [h]⟩
theorem ro_neS : RO rNe Ω (va T x) (va T y) (va T (!decide (x = y))) := fun F H v w hh a1 a2 Q q => by
  have a1 : v = .str x := a1
  have a2 : w = .str y := a2
  subst a1 a2
  refine ⟨rfl, q F _ H (Same.refl F) hh ?_⟩
  show V.bl _ = V.bl _
  congr 2
  exact decide_eq_decide.mpr ⟨V.str.inj, fun h => by rw [h]⟩
theorem xe_eqS (ha : XE ta Γ Ω (va T x) Ω1) (hb : XE tb Γ Ω1 (va T y) Ω2) : XE (tOp (rEqX T.K) ta tb) Γ Ω (va T (decide (x = y))) Ω2 := xe_op ha hb (ro_or1 ro_eqS)
theorem xe_neS (ha : XE ta Γ Ω (va T x) Ω1) (hb : XE tb Γ Ω1 (va T y) Ω2) : XE (tOp (rNeX T.K) ta tb) Γ Ω (va T (!decide (x = y))) Ω2 := xe_op ha hb (ro_or1 ro_neS)
def un2 {α : Type} : List α → Option (α × α)
  | [a, b] => some (a, b)
  | _ => none
/-! enumerate over a list -/
theorem wk_enumL {α : Type} [Rp α] {l : List α} {a : Addr} {vs : List V} : Wk (Ite T.K a) (fun F => SqL T.K F a vs ∧ Al T F vs l) (nums l) (fun z => va T z) where
  mono := fun F F' e ⟨h1, h2⟩ => ⟨e.seq h1, h2.mono e⟩
  go := fun i F Ω H ⟨h1, h2⟩ hh hi => ⟨vs, vs[i]'(by rw [al_len h2, ← nums_len (l := l)]; exact hi), hh.same.seq h1, List.getElem?_eq_getElem _⟩
  stop := fun F Ω H ⟨h1, h2⟩ hh => ⟨vs, hh.same.seq h1, by rw [al_len h2, nums_len]; exact Nat.le_refl _⟩
  yld := fun i z F Ω H v H' ⟨h1, h2⟩ hh hz y => by
    obtain ⟨p, x, ev, hp, eH, k⟩ := y
    subst ev eH
    have lt : i < l.length := by have := getlt hz; rwa [nums_len] at this
    have hl : l[i]? = some l[i] := List.getElem?_eq_getElem lt
    rw [nums_get hl] at hz
    have ez := Option.some.inj hz
    subst ez
    obtain ⟨u, hu, ru⟩ := al_get h2 hl
    have ex := k vs (hh.same.seq h1)
    rw [hu] at ex
    cases ex
    obtain ⟨hh2, e2⟩ := hh.newF (u := .tup [.int (i : Nat), x]) hp
    exact ⟨_, e2, hh2, p, _, x, rfl, SqT.of upd_same, rfl, Rp.mono e2 ru⟩
theorem xi_enumL {α : Type} [Rp α] {l : List α} (ha : XE te Γ Ω (va T (LF.mk l)) Ω1) : XI (iEnum T.K (tCons te tNil)) Γ Ω (nums l) (fun z => va T z) Ω1 := fun F σ H e hh R r => by
  refine xa_cons ha xa_nil F σ H e hh _ fun F1 vs H1 e1 hh1 a1 => ?_
  obtain ⟨v, rfl, b1⟩ := alA1 a1
  obtain ⟨p, xs, rfl, h1, al⟩ := b1
  have s1 : SqL T.K F1 p xs := SqL.of h1
  exact ⟨p, xs, rfl, hh1.same.seq s1, r F1 _ H1 _ e1 hh1 wk_enumL ⟨s1, al⟩⟩
end
instance {α β γ δ : Type} [Rp α] [Rp β] [Rp γ] [Rp δ] [Dat α] [Dat β] [Dat γ] [Dat δ] : Dat (T4 α β γ δ) := ⟨fun l => .tuple [Dat.dat l.a, Dat.dat l.b, Dat.dat l.c, Dat.dat l.d], fun l => Dat.ok l.a ∧ Dat.ok l.b ∧ Dat.ok l.c ∧ Dat.ok l.d, max (Dat.dep α) (max (Dat.dep β) (max (Dat.dep γ) (Dat.dep δ))) + 1, fun e ⟨p, x, y, z, u, h1, h2, h3, h4, h5, h6⟩ => by
    rw [h1]; exact .tup (Same.tup e h2) (.cons (Dat.dp e h3) (.cons (Dat.dp e h4) (.cons (Dat.dp e h5) (.cons (Dat.dp e h6) .nil)))), fun h => by
    show (PyData.canLay0 (Dat.dat _) && (PyData.canLay0 (Dat.dat _) && (PyData.canLay0 (Dat.dat _) && (PyData.canLay0 (Dat.dat _) && true)))) = true
    rw [Dat.lay h.1, Dat.lay h.2.1, Dat.lay h.2.2.1, Dat.lay h.2.2.2]; rfl, fun {a} => by
    rw [depth_tuple]
    refine Nat.succ_le_succ ?_
    show max (PyData.depth (Dat.dat a.a)) (max (PyData.depth (Dat.dat a.b)) (max (PyData.depth (Dat.dat a.c)) (max (PyData.depth (Dat.dat a.d)) 0))) ≤ _
    have h1 := Dat.depth (a := a.a)
    have h2 := Dat.depth (a := a.b)
    have h3 := Dat.depth (a := a.c)
    have h4 := Dat.depth (a := a.d)
    omega, fun {a b} => by
    show (PyData.eqv (Dat.dat a.a) (Dat.dat b.a) && (PyData.eqv (Dat.dat a.b) (Dat.dat b.b) && (PyData.eqv (Dat.dat a.c) (Dat.dat b.c) && (PyData.eqv (Dat.dat a.d) (Dat.dat b.d) && true)))) = true ↔ a = b
    rw [Bool.and_true, Bool.and_eq_true, Bool.and_eq_true, Bool.and_eq_true, Dat.eqv, Dat.eqv, Dat.eqv, Dat.eqv]
    cases a; cases b; simp⟩
section
variable {X : Cx} {K : PySem.W.Frag} {e : Expr} {ta : TA} {p pos tpos : Pos} {elts : List Expr} {kk : Nat}
theorem pi_enumK (hK : X.K = K) (hg : Gl X "enumerate") (hm : X.mg "enumerate" = none) (ha : PA X [e] ta) (hs : starEach [e] X.env = [(false, eval e X.env)] := by rfl) :
    PI X (.Tuple elts kk tpos) (.Call (.Name "enumerate" p) [e] [] pos) (iEnum K ta) := hK ▸ pi_enum hg hm ha hs
end
end VL

set_option Elab.async false
set_option linter.all false
set_option maxRecDepth 100000
/-! != of tuples item by item; == and != of pairs (frozen dict, data) that are equal -/
namespace VNe
open PySem
/-- != of two tuples of one size whose items, pair by pair, are seen to be equal in this very state -/
theorem tupNe {P : Program} {w : World} {A : Around} {p q : Addr} {us ws : Array Value} {Z : Shared} {E Q : Value → Shared → Prop} (room : A.units < cLine) (len : us.size = ws.size) (hp : Z.heap.IsTuple p us) (hq : Z.heap.IsTuple q ws)
    (each : ∀ z ∈ us.toList.zip ws.toList, SeqAt.EqP P w A.in1 Z z.1 z.2 true) (k : Q (.bool false) Z) : wpAny (model P w) A (richCompare .NotEq (.ref p) (.ref q)) Q E Z := by
  obtain ⟨o1, g1, c1, m1, d1⟩ := id hp
  obtain ⟨o2, g2, c2, m2, d2⟩ := id hq
  refine wpAny_richCompare_same_room (op := .NotEq) ⟨o1, g1, c1⟩ ⟨o2, g2, c2⟩ F.slot_tuple_ne (GQ.call_here F.slot_tuple_ne ⟨o1, g1, c1⟩ F.entry_tuple_ne (F.args_tuple_ne_2 _ _) ?_) room
  have k2 : wants (fun v Z' => v ≠ .notImplemented ∧ Q v Z') E (.ok (.ret (.bool false))) Z := ⟨(fun x => nomatch x), k⟩
  have tt := AutoSeq1.sub_tuple_tuple
  cases o1; cases o2
  cases c1; cases c2; cases d1; cases d2
  obtain ⟨z0, z1, z2, z3, z4⟩ := Z
  wp_walk using AutoSeq1.wpAny_loadPart' g1, AutoSeq1.wpAny_loadPart' g2, wpAny_forIn_list _ (fun left b Z' => b.1 = none ∧ Z' = ⟨z0, z1, z2, z3, z4⟩ ∧ ∀ z ∈ left, SeqAt.EqP P w A.in1 ⟨z0, z1, z2, z3, z4⟩ z.1 z.2 true) _
  case turn =>
    intro z left b Z' ⟨_, e, all⟩
    subst e
    refine wpAny_bind (all z List.mem_cons_self _ _ ?_)
    wp_walk
    exact ⟨rfl, rfl, fun y hy => all y (List.mem_cons_of_mem _ hy)⟩
  case fin =>
    intro b Z' ⟨e0, e, _⟩
    subst e
    cases b
    cases e0
    wp_walk
    simpa [Builtin.Tuple.tupleCompareSizes, len] using k2
  case h => exact ⟨rfl, rfl, each⟩
end VNe
namespace VL
open PySem L2 PyProof.Rows
/-- two frozen dicts of the same keys and flat values -/
def FD (H : Hp) (x y : V) : Prop := ∃ a b oa ob ks ls, x = .ref a ∧ y = .ref b ∧ H a = some (.frz oa (.dK ks)) ∧ H b = some (.frz ob (.dK ls)) ∧ ks.length = ls.length ∧ ∀ p ∈ ks, valV ls p.1 = some p.2 ∧ flatB p.2 = true
/-- the same data -/
def FS (K : PySem.W.Frag) (H : Hp) (x y : V) : Prop := ∃ d, Dp K H x d ∧ Dp K H y d ∧ d.canLay0 = true ∧ d.depth ≤ 60 ∧ PyData.eqv d d = true
section
variable {X : Cx} {pins : List (Addr × Obj)} {σ : L2.St} {H : Hp} {s : Shared}
theorem fd_eqP (I : Inv X pins σ H s) {A : Around} (hu : A.units + 60 < cLine) {x y : V} {v u : Value} (h : FD H x y) (rx : RelV x v) (ry : RelV y u) : SeqAt.EqP X.prog X.w A s v u true := by
  obtain ⟨a, b, oa, ob, ks, ls, rfl, rfl, ha, hb, hl, hp⟩ := h
  cases (show v = Value.ref a from rx)
  cases (show u = Value.ref b from ry)
  by_cases e : a = b
  · subst e
    exact (SeqAt.EqAt.same _).eqP
  · refine SeqAt.eqP_refs e fun E Q q => ?_
    have okA : ObjOk X.prog X.w H s.heap a (.dK ks) := (show s.heap.get? a = some oa ∧ ObjOk X.prog X.w H s.heap a (.dK ks) from I.hok a _ ha).2
    have okB : ObjOk X.prog X.w H s.heap b (.dK ls) := (show s.heap.get? b = some ob ∧ ObjOk X.prog X.w H s.heap b (.dK ls) from I.hok b _ hb).2
    obtain ⟨_, ya, va, ra, da⟩ := okA
    obtain ⟨_, yb, vb, rb, db⟩ := okB
    refine PySem.W.rcP_dicts (knd := mixKind X.prog X.w) (r := true) ya yb da db (by omega) (fun _ => hits_run (F := fun x y => x = y ∧ flatB x = true) (fun x y v u h r1 r2 => ?_) rb ra fun p hm => ⟨p.2, (hp p hm).1, rfl, (hp p hm).2⟩) E Q ?_
    · obtain ⟨rfl, f⟩ := h
      exact (eqAt_same r1 r2 f).eqP
    · have e : va.length = vb.length := by rw [← ra.length, ← rb.length]; exact hl
      rw [show (va.length == vb.length && true) = true from by rw [e]; simp]
      exact q
theorem fs_eqP (I : Inv X pins σ H s) {A : Around} (hu : A.units + 60 < cLine) {x y : V} {v u : Value} (h : FS X.K H x y) (rx : RelV x v) (ry : RelV y u) : SeqAt.EqP X.prog X.w A s v u true := by
  obtain ⟨d, h1, h2, sh, hd, e⟩ := h
  obtain ⟨as, r1⟩ := Dp.reads I d x v h1 rx
  obtain ⟨bs, r2⟩ := Dp.reads I d y u h2 ry
  have := SeqAt.eqAt_reads d d A s v u as bs r1 r2 sh sh (by rw [Nat.min_self]; omega)
  rw [e] at this
  exact this.eqP
end
def PkE (K : PySem.W.Frag) (x y : V) (H : Hp) : Prop := ∃ a b x1 x2 y1 y2, x = .ref a ∧ y = .ref b ∧ SqT K H a [x1, x2] ∧ SqT K H b [y1, y2] ∧ FD H x1 y1 ∧ FS K H x2 y2
def rPkEq (K : PySem.W.Frag) : R2 := fun x y H Q => PkE K x y H ∧ Q (.bl true) H
def rPkNe (K : PySem.W.Frag) : R2 := fun x y H Q => PkE K x y H ∧ Q (.bl false) H
section
variable {X : Cx} {pins : List (Addr × Obj)} {σ : L2.St} {H : Hp} {s : Shared}
theorem pk_all (I : Inv X pins σ H s) {A : Around} (hu : A.units + 60 < cLine) {x1 x2 y1 y2 : V} (f1 : FD H x1 y1) (f2 : FS X.K H x2 y2) {us ws : List Value} (r1 : Vals [x1, x2] us) (r2 : Vals [y1, y2] ws) : ∀ z ∈ us.zip ws, SeqAt.EqP X.prog X.w A s z.1 z.2 true := by
  have two : ∀ {a b : V} {us : List Value}, Vals [a, b] us → ∃ u v, us = [u, v] ∧ RelV a u ∧ RelV b v := fun r => by
    cases r with | cons h t => cases t with | cons h2 t => cases t; exact ⟨_, _, rfl, h, h2⟩
  obtain ⟨u1, u2, rfl, a1, a2⟩ := two r1
  obtain ⟨w1, w2, rfl, b1, b2⟩ := two r2
  intro z hz
  simp only [List.zip_cons_cons, List.zip_nil_left, List.mem_cons, List.not_mem_nil, or_false] at hz
  rcases hz with e | e <;> subst e
  · exact fd_eqP I hu f1 a1 b1
  · exact fs_eqP I hu f2 a2 b2
theorem op_pkEq (hu : X.A.units + 64 < cLine) : OpR X (compareOp .Eq) (rPkEq X.K) := by
  intro pins s σ H x y v u Q I rx ry ⟨h, q⟩
  obtain ⟨a, b, x1, x2, y1, y2, rfl, rfl, ha, hb, f1, f2⟩ := h
  cases rx
  cases ry
  obtain ⟨us, r1, e1, _⟩ := I.tuple ha
  obtain ⟨ws, r2, e2, _⟩ := I.tuple hb
  have len : us.length = ws.length := by rw [← r1.length, ← r2.length]; rfl
  have all := pk_all I (A := X.A.in1) (by show X.A.units + 1 + 60 < cLine; omega) f1 f2 r1 r2
  refine GQ.rc_tupG (by simpa using len) (by omega) (fun _ z => z = s) e1 e2 (fun i h1 h2 z ez => ?_) (fun z ez => ⟨.bl true, H, ez ▸ I, rfl, q⟩) rfl
  subst ez
  have h1 : i < us.length := by simpa using h1
  have h2 : i < ws.length := by simpa using h2
  have := all (us[i], ws[i]) (List.mem_iff_getElem.mpr ⟨i, by rw [List.length_zip]; omega, List.getElem_zip⟩) X.xe (fun r z' => r = true ∧ z' = z) ⟨rfl, rfl⟩
  simpa using this
theorem op_pkNe (hu : X.A.units + 64 < cLine) : OpR X (compareOp .NotEq) (rPkNe X.K) := by
  intro pins s σ H x y v u Q I rx ry ⟨h, q⟩
  obtain ⟨a, b, x1, x2, y1, y2, rfl, rfl, ha, hb, f1, f2⟩ := h
  cases rx
  cases ry
  obtain ⟨us, r1, e1, _⟩ := I.tuple ha
  obtain ⟨ws, r2, e2, _⟩ := I.tuple hb
  have len : us.length = ws.length := by rw [← r1.length, ← r2.length]; rfl
  exact VNe.tupNe (by omega) (by simpa using len) e1 e2 (by simpa using pk_all I (A := X.A.in1) (by show X.A.units + 1 + 60 < cLine; omega) f1 f2 r1 r2) ⟨.bl false, H, I, rfl, q⟩
theorem op_pkEqK {K : PySem.W.Frag} (hK : X.K = K) (hu : X.A.units + 64 < cLine) : OpR X (compareOp .Eq) (rPkEq K) := hK ▸ op_pkEq hu
theorem op_pkNeK {K : PySem.W.Frag} (hK : X.K = K) (hu : X.A.units + 64 < cLine) : OpR X (compareOp .NotEq) (rPkNe K) := hK ▸ op_pkNe hu
end
section
variable {T : TC} {Γ : List (Option VA)} {Ω Ω1 Ω2 : List OA} {ta tb : TE} {α : Type} [Rp α] [Dat α] {x y : DF × α}
theorem pkE_of (h : sameD x.1.l y.1.l ∧ x.2 = y.2 ∧ Dat.ok x.2) (hd : Dat.dep α ≤ 60) {F H : Hp} {v w : V} (hh : Holds F Ω H) (a1 : (va T x).P F v) (a2 : (va T y).P F w) : PkE T.K v w H := by
  obtain ⟨s1, s2, s3⟩ := h
  obtain ⟨p, v1, v2, rfl, t1, b1, b2⟩ := a1
  obtain ⟨q, w1, w2, rfl, t2, c1, c2⟩ := a2
  refine ⟨p, q, v1, v2, w1, w2, rfl, rfl, Same.tup hh.same t1, Same.tup hh.same t2, ?_, Dat.dat x.2, Dat.dp hh.same b2, ?_, Dat.lay s3, Nat.le_trans Dat.depth hd, Dat.eqv.mpr rfl⟩
  · obtain ⟨a, oa, rfl, h1⟩ := b1
    obtain ⟨b, ob, rfl, h2⟩ := c1
    refine ⟨a, b, oa, ob, dkv x.1.l, dkv y.1.l, rfl, rfl, hh.same _ _ h1, hh.same _ _ h2, by unfold dkv; rw [List.length_map, List.length_map]; exact s1.1, fun z hz => ?_⟩
    obtain ⟨u, hu, rfl⟩ := List.mem_map.mp hz
    exact ⟨val_dkv (s1.2 u hu), rfl⟩
  · rw [s2]
    exact Dat.dp hh.same c2
theorem xe_pkEq (h : sameD x.1.l y.1.l ∧ x.2 = y.2 ∧ Dat.ok x.2) (hd : Dat.dep α ≤ 60) (ha : XE ta Γ Ω (va T x) Ω1) (hb : XE tb Γ Ω1 (va T y) Ω2) : XE (tOp (rPkEq T.K) ta tb) Γ Ω (va T true) Ω2 := xe_op ha hb fun F H v w hh a1 a2 Q q =>
  ⟨pkE_of h hd hh a1 a2, q F _ H (Same.refl F) hh rfl⟩
theorem xe_pkNe (h : sameD x.1.l y.1.l ∧ x.2 = y.2 ∧ Dat.ok x.2) (hd : Dat.dep α ≤ 60) (ha : XE ta Γ Ω (va T x) Ω1) (hb : XE tb Γ Ω1 (va T y) Ω2) : XE (tOp (rPkNe T.K) ta tb) Γ Ω (va T false) Ω2 := xe_op ha hb fun F H v w hh a1 a2 Q q =>
  ⟨pkE_of h hd hh a1 a2, q F _ H (Same.refl F) hh rfl⟩
end
section
variable {T : TC} {Γ : List (Option VA)} {Ω Ω1 Ω2 Ω3 : List OA} {ta tb tc : TE}
end
end VL

set_option Elab.async false
set_option linter.all false
set_option maxRecDepth 100000
/-! != of lists whose items have a text's own __eq__; a list unpacked into three -/
namespace VNe
open PySem PySem.SeqAt
end VNe
namespace VL
open PySem L2 PyProof.Rows
/-- pair by pair the own __eq__ says yes; both lists stay -/
def WL (C : Addr) (sp : Sp) (a b : Addr) (xs ys : List V) : List (V × V) → Hp → (Hp → Prop) → Prop
  | [], H, Q => Q H
  | z :: r, H, Q => ∃ p q dx dy fs gs, z.1 = .ref p ∧ z.2 = .ref q ∧ H p = some (.ins C dx fs) ∧ H q = some (.ins C dy gs) ∧ (p = q → WL C sp a b xs ys r H Q) ∧
    (p ≠ q → sp [z.1, z.2] H (fun v H' => v = .bl true ∧ H' a = some (.lst xs) ∧ H' b = some (.lst ys) ∧ WL C sp a b xs ys r H' Q) E0)
def rOwnL (C : Addr) (sp : Sp) (r : Bool) : R2 := fun x y H Q => ∃ a b xs ys, x = .ref a ∧ y = .ref b ∧ H a = some (.lst xs) ∧ H b = some (.lst ys) ∧ xs.length = ys.length ∧ WL C sp a b xs ys (xs.zip ys) H (fun H' => Q (.bl r) H')
section
variable {X : Cx} {n : Nat} {C f : Addr} {fd : FuncData} {ps : List Str} {sp : Sp}
/-- what the loop keeps -/
def LI (X : Cx) (pins : List (Addr × Obj)) (σ : L2.St) (C : Addr) (sp : Sp) (a b : Addr) (xs ys : List V) (Q : Hp → Prop) (i : Nat) (s : Shared) : Prop := ∃ H, Inv X pins σ H s ∧ H a = some (.lst xs) ∧ H b = some (.lst ys) ∧ WL C sp a b xs ys ((xs.zip ys).drop i) H Q
end
section
variable {T : TC} {Γ : List (Option VA)} {Ω Ω1 Ω2 Ω3 : List OA} {ta tb te : TE} {l m : List Bg}
def un3 {α : Type} : List α → Option (α × α × α)
  | [a, b, c] => some (a, b, c)
  | _ => none
end
end VL

set_option Elab.async false
set_option linter.all false
set_option maxRecDepth 100000
/-! None behind a list of numbers; a pair of a new list and a value, kept in a name -/
namespace VL
open PySem L2
inductive OI where
  | i (n : Int)
  | no
def OI.v : OI → V
  | .i n => .int n
  | .no => .non
def OI.d : OI → PyData
  | .i n => .int n
  | .no => .none
instance : Rp OI := ⟨fun _ _ v a => v = a.v, fun _ h => h⟩
instance : Dat OI := ⟨OI.d, fun _ => True, 0, fun {T F H v a} _ h => by
    rw [show v = a.v from h]
    cases a
    · exact .int _
    · exact .non, fun {a} _ => by cases a <;> rfl, fun {a} => by cases a <;> exact Nat.le_refl _, fun {a b} => by
    cases a <;> cases b
    · rename_i m n
      show (m == n) = true ↔ _
      rw [beq_iff_eq]
      exact ⟨fun e => by rw [e], fun e => by cases e; rfl⟩
    · exact ⟨(fun e => nomatch e), (fun e => nomatch e)⟩
    · exact ⟨(fun e => nomatch e), (fun e => nomatch e)⟩
    · exact ⟨fun _ => rfl, fun _ => rfl⟩⟩
/-- a pair of a list that changes, at p, and a value -/
def pvA (T : TC) (p : Addr) (B : VA) : VA := ⟨fun F v => ∃ t w, v = .ref t ∧ SqT T.K F t [.ref p, w] ∧ B.P F w, fun e ⟨t, w, a, b, c⟩ => ⟨t, w, a, Same.tup e b, B.mono e c⟩⟩
section
variable {T : TC} {Γ : List (Option VA)} {Ω Ω1 Ω2 Ω3 : List OA} {A B C : VA} {ta tb te : TE} {D : Ends} {F0 : Hp} {ts : TS} {p : Addr}
end
/-! ### walks over a list that may change, and doesn't -/
section
variable {T : TC} {Γ : List (Option VA)} {Ω Ω0 Ω1 Ω2 : List OA} {A B : VA} {te ta tb : TE} {D : Ends} {F0 : Hp} {ts : TS}
structure Wk2 (k : Nat) (o : OA) {α : Type} (J : It) (Sx : Hp → Prop) (xs : List α) (A : α → VA) : Prop where
  mono : ∀ F F', Same F F' → Sx F → Sx F'
  go : ∀ (i : Nat) F Ω H, Sx F → Holds F Ω H → Ω[k]? = some o → i < xs.length → J.go i H
  stop : ∀ F Ω H, Sx F → Holds F Ω H → Ω[k]? = some o → J.stop xs.length H
  yld : ∀ (i : Nat) a F Ω H x H', Sx F → Holds F Ω H → Ω[k]? = some o → xs[i]? = some a → J.yld i H x H' → ∃ F', Same F F' ∧ Holds F' Ω H' ∧ (A a).P F' x
def XI2 (k : Nat) (o : OA) {α : Type} (wi : TI) (Γ : List (Option VA)) (Ω : List OA) (xs : List α) (A : α → VA) (Ω2 : List OA) : Prop :=
  ∀ F σ H, Env F σ Γ → Holds F Ω H → ∀ R : It → Hp → Prop, (∀ F' J H' Sx, Same F F' → Holds F' Ω2 H' → Wk2 k o J Sx xs A → Sx F' → R J H') → wi σ H R
end
end VL

set_option Elab.async false
set_option linter.all false
set_option maxRecDepth 100000
/-! the parts of a pair with a list that changes -/
namespace VL
open PySem L2
section
variable {T : TC} {Γ : List (Option VA)} {Ω Ω1 Ω2 : List OA} {B : VA} {te : TE} {p : Addr}
end
end VL

set_option Elab.async false
set_option linter.all false
set_option maxRecDepth 100000
/-! an own __eq__ beside a number or a list; is, of truths; a new list of a tuple; a new machine handed over at once -/
namespace VL
open PySem L2 PyProof.Rows
/-- neither an int nor a list comes ahead of the class at C, nor is one of it -/
def otherB (K : PySem.W.Frag) (C : Addr) : Bool := PySem.W.notFirst K C (.type "int") && (PySem.W.notFirst K C (.type "list") && (decide (PySem.W.kitOne K (.type "int") (.ref C) = some false) && decide (PySem.W.kitOne K (.type "list") (.ref C) = some false)))
/-- an int or a list -/
def IsO (H : Hp) (y : V) : Prop := (∃ i, y = .int i) ∨ ∃ b vs, y = .ref b ∧ H b = some (.lst vs)
def rOwnX (K : PySem.W.Frag) (C : Addr) (sp : Sp) : R2 := fun x y H Q => ∃ a dx fs, x = .ref a ∧ H a = some (.ins C dx fs) ∧ IsO H y ∧ sp [x, y] H (fun v H' => v = .bl false ∧ Q (.bl false) H') E0
section
variable {X : Cx} {n : Nat} {C f : Addr} {fd : FuncData} {ps : List Str} {sp : Sp}
structure CalEqX (P : Program) (w : World) (K : PySem.W.Frag) (mg : Str → Option Value) (base : Heap) (n : Nat) (C : Addr) (sp : Sp) : Prop where
  ex : ∃ f fd, FnOk P w K mg base CX0 n f fd ["self", "other"] sp ∧ otherB K C = true ∧ Meth K C "__eq__" f ∧ Binds K fd ["self", "other"] []
end
/-- what __eq__ tells of a number beside an int or a list -/
def PreX (T : TC) : PreT := fun As Ω R => ∃ (x0 : Bg) (A : VA), As = [va T x0, A] ∧ (∀ F H v, Holds F Ω H → A.P F v → IsO H v) ∧ R = RV (va T false) (stt Ω [] [])
section
variable {T : TC} {Γ : List (Option VA)} {Ω Ω0 Ω1 Ω2 : List OA} {A B : VA} {ta tb te : TE} {x : Bg} {b c : Bool}
def rIsB : R2 := fun x y H Q => ∃ a b, x = .bl a ∧ y = .bl b ∧ Q (.bl (decide (a = b))) H
end
end VL

set_option Elab.async false
set_option linter.all false
set_option maxRecDepth 100000
/-! VL18: a name that holds one of several defs; and/or whose second part changes things. -/
namespace VL
open PySem L2
/-- one of several defs, by its number -/
structure FT where
  i : Nat
instance : Rp FT := ⟨fun T _ v a => v = .ref (T.C (200 + a.i)), fun _ h => h⟩
structure HeldF (P : Program) (w : World) (K : PySem.W.Frag) (mg : Str → Option Value) (base : Heap) (k : Nat) (f : Addr) (sp : Sp) : Prop where
  ex : ∃ (fd : FuncData) (ps : List Str), FnOk P w K mg base CX0 k f fd ps sp ∧ PySem.W.keepIn K (.ref f) = true ∧ Binds K fd ps []
structure HeldFK (P : Program) (w : World) (K : PySem.W.Frag) (mg : Str → Option Value) (base : Heap) (k : Nat) (f : Addr) (n : Nat) (ks : List Str) (ix : List Nat) (sp : Sp) : Prop where
  ex : ∃ (fd : FuncData) (ps : List Str), FnOk P w K mg base CX0 k f fd ps sp ∧ PySem.W.keepIn K (.ref f) = true ∧ KBn K fd ps n ks (fun us ws => prm ix (us ++ ws)) (fun vs zs => prm ix (vs ++ zs))
def tCallFn (i : Nat) (S : Addr → Sp → Prop) (t : TA) : TE := fun σ H Q => ∃ f sp, σ[i]? = some (some (.ref f)) ∧ S f sp ∧ t σ H fun vs H1 => sp (vs ++ []) H1 Q E0
def tCallFnN (i : Nat) (S : Addr → Sp → Prop) (n m : Nat) (g : List V → List V → List V) (t tk : TA) : TE := fun σ H Q => ∃ f sp, σ[i]? = some (some (.ref f)) ∧ S f sp ∧ tCallN n m sp g E0 t tk σ H Q
section
variable {X : Cx} {k i n : Nat} {S : Addr → Sp → Prop} {x : Str} {ks : List Str} {ix : List Nat} {p pos : Pos} {e : Expr} {es : List Expr} {kws : List Keyword} {t tk : TA}
end
section
variable {T : TC} {Γ : List (Option VA)} {Ω Ω1 Ω2 Ω3 : List OA} {A : VA} {As Ks : List VA} {a : FT} {i : Nat} {S : Addr → Sp → Prop}
end
end VL

set_option Elab.async false
set_option linter.all false
set_option maxRecDepth 100000
set_option maxHeartbeats 2000000
/-! VL19: a lambda without parameters handed to a def that calls it: what it makes of the caller's machine. -/
namespace VL
open PySem PySem.Spec PyProof.Rows L2 LamX
/-- the table at P in t: its code objects stand in F -/
def TabF (F t : Hp) (P : Addr) (q : Str) : Prop := ∃ ps : Array Value, t P = some (.tbl ps) ∧ TriplesOk ps.toList ∧ ∀ (pos : Pos) (cv : Value), codeAmong pos ps.toList = some cv → ∃ c, cv = .ref c ∧ F c = some (CodeO c q)
theorem TabF.mono {F F' t : Hp} {P : Addr} {q : Str} (e : Same F F') : TabF F t P q → TabF F' t P q := fun ⟨ps, h1, h2, h3⟩ => ⟨ps, h1, h2, fun pos cv h => let ⟨c, a, b⟩ := h3 pos cv h; ⟨c, a, e _ _ b⟩⟩
/-- all the tables of a law -/
def tabA (l : List (Addr × Str)) : OA := ⟨fun F t => ∀ p ∈ l, TabF F t p.1 p.2, fun e h p hp => (h p hp).mono e⟩
/-- the table's part of the heap behind a lambda's making: H as it was, or a new code object at c' -/
def Grown (H : Hp) (P : Addr) (q : Str) (H1 : Hp) (c' : Addr) : Prop :=
  (H1 = H ∧ ∃ (ps : Array Value) (pos : Pos), H P = some (.tbl ps) ∧ codeAmong pos ps.toList = some (.ref c')) ∨
  ∃ (ps more : Array Value), H P = some (.tbl ps) ∧ H c' = none ∧ H1 = upd (upd H P (.tbl (ps ++ more))) c' (CodeO c' q) ∧ (TriplesOk ps.toList → TriplesOk (ps ++ more).toList) ∧
    ∀ (pos : Pos) (cv : Value), TriplesOk ps.toList → codeAmong pos (ps ++ more).toList = some cv → codeAmong pos ps.toList = some cv ∨ cv = .ref c'
section
variable {X : Cx} {pins : List (Addr × Obj)} {σ : L2.St} {H : Hp} {s : Shared}
end
/-! ### a def that is handed a lambda -/
/-- what its name makes: act -/
def tAct (i : Nat) (f c' : Addr) (q : Str) (act : Hp → VK → Prop) : TE := fun σ H Q => σ[i]? = some (some (.ref f)) ∧ H c' = some (CodeO c' q) ∧ act H Q
/-- in each def's context that is entered at s: a call of the name that holds the lambda -/
def ActH (P : Program) (w : World) (K : PySem.W.Frag) (mg : Str → Option Value) (base : Heap) (k : Nat) (A : Around) (outer : List PySem.Env) (s : Shared) (H : Hp) (f c' : Addr) (q : Str) (act : Hp → VK → Prop) : Prop :=
  ∀ (Ng : List Str) (qg : Str) (sg : Scope) (g : Addr) (cdg : Value) (i : Nat) (a : Str) (p1 p2 : Pos), Room (k + 1) (A.deeper (envOfC qg sg s.heap.objs.size g cdg)) → Ng[i]? = some a → Vis sg a → (a == ("__debug__" : Str)) = false → (a == ("__classdict__" : Str)) = false →
    PE (cxOf CX0 P w K mg base Ng qg sg g cdg A outer s H E0).nox (.Call (.Name a p1) [] [] p2) (tAct i f c' q act)
abbrev PreLT := Addr → Addr → Str → (Hp → VK → Prop) → PreT
/-- that def: k, its depth; kl, that of the lambda's body -/
structure CalL (P : Program) (w : World) (K : PySem.W.Frag) (mg : Str → Option Value) (base : Heap) (kl k : Nat) (x : Str) (ps : List Str) (Pre : PreLT) : Prop where
  ex : ∃ g fd, mg x = some (.ref g) ∧ PySem.W.keepIn K (.ref g) = true ∧ Binds K fd ps [] ∧ (∀ f c' q act As Ω R, Pre f c' q act As Ω R → As.length = ps.length) ∧
    ∀ (A : Around) (outer : List PySem.Env) (s : Shared) (H : Hp) (us : List Value) (vs : List V) (Q : VK) (f c' : Addr) (q : Str) (act : Hp → VK → Prop), Room k A → Env0 P w K mg base A outer s H → BindsTo s fd ⟨us, []⟩ (ps.zip us) → Vals vs us →
      ActH P w K mg base kl A outer s H f c' q act → mkSp (Pre f c' q act) vs H Q E0 → codeAny (model P w) A (.call (.ref g) ⟨us, []⟩) (CR CX0 outer P w H s Q E0) s
section
variable {P : Program} {w : World} {K : PySem.W.Frag} {mg : Str → Option Value} {base : Heap}
end
/-! ### x(e, lambda: body) -/
def tLam (P : Addr) (q : Str) (Pre : PreLT) (ta tb : TE) : TE := fun σ H Q => ta σ H fun v H0 => (∃ ps : Array Value, H0 P = some (.tbl ps) ∧ TriplesOk ps.toList ∧ ∀ (pos : Pos) (cv : Value), codeAmong pos ps.toList = some cv → ∃ c, cv = .ref c ∧ H0 c = some (CodeO c q)) ∧
  ∀ f c' H1, Grown H0 P q H1 c' → mkSp (Pre f c' q fun H' Q' => tb σ H' Q') [v, .ref f] H1 Q E0
section
variable {X : Cx}
end
/-! ### what it makes of a machine -/
/-- the name's value: the lambda f, which takes the machine at k0 from m to r.2 and tells r.1 -/
def askA (T : TC) {α : Type} [Rp α] (f c' : Addr) (q : Str) (act : Hp → VK → Prop) (Ω : List OA) (k0 : Nat) (p0 : Addr) (M : MS → Option (α × MS)) : VA :=
  ⟨fun F v => v = .ref f ∧ F c' = some (CodeO c' q) ∧ ∀ m r, M m = some r → ∀ F1 H1, Same F F1 → Holds F1 (stt Ω [(k0, machA T p0 m)] []) H1 → ∀ Q : VK, (∀ F2 v H2, Same F1 F2 → Holds F2 (stt Ω [(k0, machA T p0 r.2)] []) H2 → (va T r.1).P F2 v → Q v H2) → act H1 Q,
   fun e ⟨h1, h2, h3⟩ => ⟨h1, e _ _ h2, fun m r hm F1 H1 e1 => h3 m r hm F1 H1 (e.trans e1)⟩⟩
section
variable {T : TC} {Γ : List (Option VA)} {Ω Ω1 : List OA} {α : Type} [Rp α]
end
section
variable {T : TC} {Γ : List (Option VA)} {Ω Ω1 Ω2 : List OA} {α : Type} [Rp α]
end
/-! ### a def whose code object is known -/
def CodeIs (K : PySem.W.Frag) (g c : Addr) : Prop := ∀ (oc : Value) (od : Option Addr) (x qual : Str) (ar : Arguments) (body : List Stmt) (sc : Scope) (dV kV doc pm : Value) (an : Option Addr) (cdv ct : Value) (osl : Array (Option Value)),
  K.lookup g = some ⟨oc, od, .func (PySem.W.fnOf x qual ar body sc dV kV doc pm an cdv ct), osl⟩ → PySem.W.codeIn K cdv qual = true → cdv = .ref c
section
variable {P : Program} {w : World} {K : PySem.W.Frag} {mg : Str → Option Value} {base : Heap}
end
end VL

set_option Elab.async false
set_option linter.all false
set_option maxRecDepth 100000
/-! VL20: the script with a list behind it; divmod; tests whose parts change things. -/
namespace VL
open PySem PySem.Spec PyProof.Rows L2
def rCatS (K : PySem.W.Frag) : R2 := fun x y H Q => ∃ l b xs zs, x = .ref l ∧ y = .ref b ∧ SqL K H l xs ∧ H b = some (.lst zs) ∧ xs.length + zs.length ≤ sizeLine ∧ ∀ p, H p = none → Q (.ref p) (upd H p (.lst (xs ++ zs)))
/-- divmod by what is not 0 -/
def CDivF (_ j : Int) : Prop := j ≠ 0 ∧ j.natAbs.log2 < 9000
def rDivmod : List V → Hp → VK → Prop := fun xs H Q => ∃ i j, xs = [.int i, .int j] ∧ CDivF i j ∧ ∀ p, H p = none → Q (.ref p) (upd H p (.tup [.int (i.fdiv j), .int (i.fmod j)]))
section
variable {T : TC} {ts : TA} {Γ : List (Option VA)} {Ω Ω1 Ω2 : List OA} {A : VA} {ta tb : TE} {t u : TT} {i j : Int} {b : Bool}
theorem xt_andOC {α : Type} {m : Option (Bool × α)} {cur : α} {z : Bool × α} {O : α → List OA} (h1 : XT t Γ Ω b (O cur)) (hz : (if b = true then m else some (false, cur)) = some z) (h2 : ∀ v, m = some v → XT u Γ (O cur) v.1 (O v.2)) : XT (tAnd t u) Γ Ω z.1 (O z.2) := by
  cases b with
  | true =>
    rw [if_pos rfl] at hz
    exact xt_and (b := true) h1 (fun _ => h2 z hz) (fun h => nomatch h)
  | false =>
    rw [if_neg Bool.false_ne_true] at hz
    cases hz
    exact xt_and (c := false) h1 (fun h => nomatch h) (fun _ => rfl)
end
end VL

set_option Elab.async false
set_option linter.all false
set_option maxRecDepth 100000
/-! VL21: == and != of tuples whose items are numbers by their own __eq__, frozen dicts and data. -/
namespace VNe
open PySem PySem.SeqAt
end VNe
namespace VL
open PySem L2 PyProof.Rows
/-- pair by pair: equal dicts, equal data, or the own __eq__ says yes -/
def WT (K : PySem.W.Frag) (C : Addr) (sp : Sp) : List (V × V) → Hp → (Hp → Prop) → Prop
  | [], H, Q => Q H
  | z :: r, H, Q => (FD H z.1 z.2 ∧ WT K C sp r H Q) ∨ (FS K H z.1 z.2 ∧ WT K C sp r H Q) ∨
    ∃ p q dx dy fs gs, z.1 = .ref p ∧ z.2 = .ref q ∧ H p = some (.ins C dx fs) ∧ H q = some (.ins C dy gs) ∧ (p = q → WT K C sp r H Q) ∧ (p ≠ q → sp [z.1, z.2] H (fun v H' => v = .bl true ∧ WT K C sp r H' Q) E0)
def rOwnT (K : PySem.W.Frag) (C : Addr) (sp : Sp) (b : Bool) : R2 := fun x y H Q => ∃ a c xs ys, x = .ref a ∧ y = .ref c ∧ SqT K H a xs ∧ SqT K H c ys ∧ xs.length = ys.length ∧ WT K C sp (xs.zip ys) H (fun H' => Q (.bl b) H')
section
variable {X : Cx} {n : Nat} {C f : Addr} {fd : FuncData} {ps : List Str} {sp : Sp}
/-- what the walk keeps -/
def TI (X : Cx) (pins : List (Addr × Obj)) (σ : L2.St) (C : Addr) (sp : Sp) (Q : Hp → Prop) (zs : List (Value × Value)) (s : Shared) : Prop :=
  ∃ H, Inv X pins σ H s ∧ ∃ us : List (V × V), us.length = zs.length ∧ (∀ i (h : i < us.length) (h2 : i < zs.length), RelV us[i].1 zs[i].1 ∧ RelV us[i].2 zs[i].2) ∧ WT X.K C sp us H Q
end
section
variable {T : TC} {Γ : List (Option VA)} {Ω Ω1 Ω2 : List OA} {ta tb : TE} {Pre : PreT}
/-- two items that compare alike -/
def ItE (T : TC) (Ω : List OA) (sp : Sp) (A B : VA) : Prop := ∀ F H x y r k, Holds F Ω H → A.P F x → B.P F y → (∀ F' H', Same F F' → Holds F' Ω H' → WT T.K (T.C 1) sp r H' k) → WT T.K (T.C 1) sp ((x, y) :: r) H k
end
end VL

set_option Elab.async false
set_option linter.all false
set_option maxRecDepth 100000
/-! VL22: a dict that changes: made, written, read, locked where it is read as a value. -/
namespace VL
open PySem L2 PyProof.Rows
/-- a dict that is locked from now on, at its old place -/
def fzDA (p : Addr) (l : List (Str × Int)) : OA := ⟨fun F _ => ∃ od, F p = some (.frz od (.dK (dkv l))), fun e ⟨od, h⟩ => ⟨od, e _ _ h⟩⟩
/-- written in its place, or at the end -/
def dput (l : List (Str × Int)) (k : Str) (v : Int) : List (Str × Int) := if (l.any fun p => decide (p.1 = k)) = true then l.map (fun p => if p.1 = k then (p.1, v) else p) else l ++ [(k, v)]
section
variable {T : TC} {Γ : List (Option VA)} {Ω Ω1 Ω2 Ω3 : List OA} {A B C : VA} {ta tb te : TE} {D : Ends} {F0 : Hp} {ts : TS}
/-! written -/
/-- a target that writes a thing -/
def Tgo (g : TG) (A : VA) (Γ : List (Option VA)) (Ω Ω2 : List OA) : Prop := ∀ F σ v H, Env F σ Γ → Holds F Ω H → A.P F v → ∀ Q : L2.St → Hp → Prop, (∀ F' H', Same F F' → Holds F' Ω2 H' → Q σ H') → g v σ H Q
end
/-! != of two dicts, where they are known to be alike -/
def rNeF : R2 := fun x y H Q => ∃ a b oa ob ks ls, x = .ref a ∧ y = .ref b ∧ H a = some (.frz oa (.dK ks)) ∧ H b = some (.frz ob (.dK ls)) ∧ ks.length = ls.length ∧ (∀ p ∈ ks, valV ls p.1 = some p.2 ∧ flatB p.2 = true) ∧ Q (.bl false) H
end VL

set_option Elab.async false
set_option linter.all false
set_option maxRecDepth 100000
/-! VL23: range downwards, one by one; isinstance and len of pairs. -/
namespace VL
open PySem L2 PyProof.Rows
section
variable {T : TC} {Γ : List (Option VA)} {Ω Ω1 Ω2 : List OA} {A B C : VA} {ta tb te : TE}
/-- i, i - 1, .. (n of them) -/
def rngD (i : Int) (n : Nat) : List Int := (List.range n).map fun (k : Nat) => i + (k : Int) * (-1)
end
end VL

set_option Elab.async false
set_option linter.all false
set_option maxRecDepth 100000
/-! VL24: a pair of a dict and a list that both change: made, handed on, its parts; get of a dict that changes. -/
namespace VL
open PySem L2 PyProof.Rows
section
variable {T : TC} {Γ : List (Option VA)} {Ω Ω1 Ω2 Ω3 : List OA} {A B C : VA} {ta tb tc te : TE} {D : Ends} {F0 : Hp} {ts : TS}
/-- dict(d): a new one, from a locked one -/
def rDictD : List V → Hp → VK → Prop := fun xs H Q => ∃ (a : Addr) (kvs : List (Key × V)), xs = [.ref a] ∧ Rd H a (.dK kvs) ∧ ∀ p, H p = none → Q (.ref p) (upd H p (.dK kvs))
end
end VL

set_option Elab.async false
set_option linter.all false
set_option maxRecDepth 100000
set_option maxHeartbeats 2000000
/-! VL25: a lambda with one parameter that has an int for its default, handed to a def that calls it without arguments. -/
namespace VL
open PySem PySem.Spec PyProof.Rows L2 LamX
structure LamSD (N : List Str) (nm : Str) (sc scope : Scope) : Prop where
  kind : scope.kind = .function
  co : scope.isCoroutine = false
  gen : scope.isGenerator = false
  own : ∀ y ∈ scope.names, y.2 ≠ .cell ∧ (y.2 = .local → y.1 ∉ N)
  free : ∀ y ∈ scope.names, y.2 = .free → sc.names.lookup y.1 = some .cell ∨ sc.names.lookup y.1 = some .free
  par : scope.names.lookup nm = some .local
def lamSDB (N : List Str) (nm : Str) (sc scope : Scope) : Bool :=
  decide (scope.kind = .function) && !scope.isCoroutine && !scope.isGenerator && (scope.names.all fun y => !decide (y.2 = .cell) && (!decide (y.2 = .local) || !decide (y.1 ∈ N)) && (!decide (y.2 = .free) || decide (sc.names.lookup y.1 = some .cell) || decide (sc.names.lookup y.1 = some .free))) && decide (scope.names.lookup nm = some .local)
theorem LamSD.has {X : Cx} {N : List Str} {nm : Str} {scope : Scope} (L : LamSD N nm X.env.scope scope) (ok : X.Ok) : ∀ y ∈ scope.names, y.2 = .free → ∃ c, X.env.cells.lookup y.1 = some c := fun y hy e => by
  rcases L.free y hy e with k | k
  · exact ok.has _ (.inl k)
  · exact ok.has _ (.inr k)
section
variable {X : Cx} {pins : List (Addr × Obj)} {σ : L2.St} {H : Hp} {s : Shared}
end
section
variable {X : Cx} {pins : List (Addr × Obj)} {σ : L2.St} {H HZ : Hp} {s s1 : Shared}
end
section
variable {X : Cx}
end
section
variable {X : Cx}
end
section
variable {T : TC} {Γ : List (Option VA)} {Ω Ω1 Ω2 : List OA} {ta tb : TE} {i j : Int}
end
end VL

set_option Elab.async false
set_option linter.all false
set_option maxRecDepth 100000
/-! VL26: the first and the last of four. -/
namespace VL
open PySem L2 PyProof.Rows
section
variable {T : TC} {Γ : List (Option VA)} {Ω Ω1 Ω2 : List OA} {te ti : TE}
end
end VL

set_option Elab.async false
set_option linter.all false
set_option maxRecDepth 100000
/-! VL27: == and != of tuples among whose items stand pairs of numbers with an own __eq__; a call with a new thing ahead of arguments that change things. -/
namespace VL
open PySem L2 PyProof.Rows
/-- pair by pair, as WT, or two tuples within -/
def WT2 (K : PySem.W.Frag) (C : Addr) (sp : Sp) : List (V × V) → Hp → (Hp → Prop) → Prop
  | [], H, Q => Q H
  | z :: r, H, Q => WT K C sp [z] H (fun H' => WT2 K C sp r H' Q) ∨
    ∃ p q xs ys, z.1 = .ref p ∧ z.2 = .ref q ∧ SqT K H p xs ∧ SqT K H q ys ∧ xs.length = ys.length ∧ (p = q → WT2 K C sp r H Q) ∧ (p ≠ q → WT K C sp (xs.zip ys) H (fun H' => WT2 K C sp r H' Q))
def rOwnT2 (K : PySem.W.Frag) (C : Addr) (sp : Sp) (b : Bool) : R2 := fun x y H Q => ∃ a c xs ys, x = .ref a ∧ y = .ref c ∧ SqT K H a xs ∧ SqT K H c ys ∧ xs.length = ys.length ∧ WT2 K C sp (xs.zip ys) H (fun H' => Q (.bl b) H')
section
variable {X : Cx} {n : Nat} {C f : Addr} {fd : FuncData} {ps : List Str} {sp : Sp}
def TI2 (X : Cx) (pins : List (Addr × Obj)) (σ : L2.St) (C : Addr) (sp : Sp) (Q : Hp → Prop) (zs : List (Value × Value)) (s : Shared) : Prop :=
  ∃ H, Inv X pins σ H s ∧ ∃ us : List (V × V), us.length = zs.length ∧ (∀ i (h : i < us.length) (h2 : i < zs.length), RelV us[i].1 zs[i].1 ∧ RelV us[i].2 zs[i].2) ∧ WT2 X.K C sp us H Q
end
section
variable {T : TC} {Γ : List (Option VA)} {Ω Ω1 Ω2 : List OA} {ta tb : TE} {Pre : PreT}
def ItE2 (T : TC) (Ω : List OA) (sp : Sp) (A B : VA) : Prop := ∀ F H x y r k, Holds F Ω H → A.P F x → B.P F y → (∀ F' H', Same F F' → Holds F' Ω H' → WT2 T.K (T.C 1) sp r H' k) → WT2 T.K (T.C 1) sp ((x, y) :: r) H k
end
end VL

set_option Elab.async false
set_option linter.all false
set_option maxRecDepth 100000
/-! VL28: a pair of a new list and a value out of one of several defs; such a pair handed on at once; a new list and two values in one assignment. -/
namespace VL
open PySem L2 PyProof.Rows
section
variable {T : TC} {Γ : List (Option VA)} {Ω Ω0 Ω1 Ω2 Ω3 : List OA} {A B C : VA} {As Ks : List VA} {a : FT} {i : Nat} {S : Addr → Sp → Prop} {ta tb te : TE} {D : Ends} {F0 : Hp} {ts : TS}
/-- arguments, among them a pair of a new list at p -/
def XAN (t : TA) (Γ : List (Option VA)) (Ω : List OA) (As : Addr → List VA) (Ω2 : Addr → List OA) : Prop :=
  ∀ F σ H, Env F σ Γ → Holds F Ω H → ∀ Q : List V → Hp → Prop, (∀ F' vs H' p, Same F F' → Holds F' (Ω2 p) H' → AlA F' vs (As p) → Q vs H') → t σ H Q
/-- x, y, z = a new list, two values -/
theorem xs_par3N {j k : Nat} {t : TA} {ks ks2 : List (Nat × OA)} {L : List OA} {M : Addr → List OA} {o : Addr → OA} (h1 : XG ta Γ Ω0 (RN (stt Ω ks L) o)) (h2 : ∀ p, XA t Γ (stt Ω ks (L ++ [o p])) [A, B] (stt Ω ks2 (M p)))
    (q : ∀ p, XS ts D F0 (((Γ.set i (some (vr p))).set j (some A)).set k (some B)) (stt Ω ks2 (M p))) : XS (tSeq (tPar3 i j k (tCons ta t)) ts) D F0 Γ Ω0 := fun σ H ⟨F, f0, e, hh⟩ => by
  refine h1 F σ H e hh _ fun F1 x H1 Ω' e1 hh1 ⟨p, a1, o1⟩ => ?_
  subst a1 o1
  rw [stt_app] at hh1
  refine h2 p F1 σ H1 (e.mono e1) hh1 _ fun F2 vs H2 e2 hh2 a2 => ?_
  obtain ⟨v, w, rfl, b1, b2⟩ := alA2 a2
  exact ⟨_, v, w, rfl, q p _ H2 ⟨F2, f0.trans (e1.trans e2), ((((e.mono e1).mono e2).set (A := vr p) rfl).set b1).set b2, hh2⟩⟩
end
end VL

set_option Elab.async false
set_option linter.all false
set_option maxRecDepth 100000
/-! VL29: == and != of machines, with a new one, with a tuple; a machine made by keywords; in of a dict that changes; new lists told by a machine; a method of a new machine. -/
namespace VL
open PySem L2 PyProof.Rows
section
variable {T : TC} {Γ : List (Option VA)} {Ω Ω0 Ω1 Ω2 Ω3 : List OA} {A B C : VA} {As Ks : List VA} {ta tb te : TE} {D : Ends} {F0 : Hp} {ts : TS} {p p2 : Addr} {k k2 : Nat} {x y s : MS} {r : Bool}
end
/-! ### machine == a tuple -/
def otherT (K : PySem.W.Frag) (C : Addr) : Bool := PySem.W.notFirst K C (.type "tuple") && decide (PySem.W.kitOne K (.type "tuple") (.ref C) = some false)
def rOwnXT (K : PySem.W.Frag) (C : Addr) (sp : Sp) : R2 := fun x y H Q => ∃ a dx fs b xs, x = .ref a ∧ H a = some (.ins C dx fs) ∧ y = .ref b ∧ SqT K H b xs ∧ sp [x, y] H (fun v H' => v = .bl false ∧ Q (.bl false) H') E0
section
variable {X : Cx} {n : Nat} {C f : Addr} {fd : FuncData} {ps : List Str} {sp : Sp}
structure CalEqT (P : Program) (w : World) (K : PySem.W.Frag) (mg : Str → Option Value) (base : Heap) (n : Nat) (C : Addr) (sp : Sp) : Prop where
  ex : ∃ f fd, FnOk P w K mg base CX0 n f fd ["self", "other"] sp ∧ otherT K C = true ∧ Meth K C "__eq__" f ∧ Binds K fd ["self", "other"] []
end
/-- what __eq__ of a machine tells beside a tuple -/
def PreXT (T : TC) : PreT := fun As Ω R => ∃ (k0 : Nat) (p0 : Addr) (x0 : MS) (A : VA), As = [vr p0, A] ∧ Ω[k0]? = some (machA T p0 x0) ∧ (∀ F H v, Holds F Ω H → A.P F v → ∃ b xs, v = .ref b ∧ SqT T.K H b xs) ∧ R = RV (va T false) (stt Ω [] [])
section
variable {T : TC} {Γ : List (Option VA)} {Ω Ω0 Ω1 Ω2 Ω3 : List OA} {A B C : VA} {As Ks : List VA} {ta tb te : TE} {p : Addr} {k : Nat} {x s : MS} {r : Bool}
def rNoN : R2 := fun x y H Q => y = .non ∧ Q (.bl (!decide (x = .non))) H
/-! ### new lists that a machine tells -/
def Pre_Mach_tallyN (T : TC) : PreT := fun As Ω R => ∃ (k : Nat) (p : Addr) (s : MS), As = [vr p] ∧ Ω[k]? = some (machA T p s) ∧ R = RN Ω (fun q => lstA T q s.tally)
def Pre_Mach_walkN (T : TC) : PreT := fun As Ω R => ∃ (k : Nat) (p : Addr) (s : MS), As = [vr p] ∧ Ω[k]? = some (machA T p s) ∧ R = RN Ω (fun q => lstA T q s.wk)
structure CalCK (P : Program) (w : World) (K : PySem.W.Frag) (mg : Str → Option Value) (base : Heap) (k : Nat) (x : Str) (C : Addr) (ps ks : List Str) (ix : List Nat) (sp : Sp) : Prop where
  ex : ∃ f fd g, FnOk P w K mg base CX0 k f fd ps sp ∧ mg x = some (.ref C) ∧ Mk K C f ∧ KBn K fd ps 1 ks g (fun vs zs => prm ix (vs ++ zs))
end
end VL

set_option Elab.async false
set_option linter.all false
set_option maxRecDepth 100000
/-! VL30: a dict with three numbers, a dict and a list that change (a law's own tally and walk): made, its parts; ways that are never taken; ranges by a step; max of a list. -/
namespace VL
open PySem L2 PyProof.Rows
def wkv (b c B : Int) (d e : Addr) : List (Key × V) := [(Sum.inr ("bits" : Str), .int b), (Sum.inr ("cutoff" : Str), .int c), (Sum.inr ("base" : Str), .int B), (Sum.inr ("counts" : Str), .ref d), (Sum.inr ("walk" : Str), .ref e)]
section
variable {b c B : Int} {d e : Addr}
theorem valV_hit {k : Key} {v : V} {r : List (Key × V)} : valV ((k, v) :: r) k = some v := by
  unfold valV
  rw [List.find?_cons_of_pos (p := fun kv : Key × V => decide (kv.1 = k)) (decide_eq_true rfl)]
  rfl
theorem valV_miss {j k : Key} {v : V} {r : List (Key × V)} (h : j ≠ k) : valV ((j, v) :: r) k = valV r k := by
  unfold valV
  rw [List.find?_cons_of_neg (p := fun kv : Key × V => decide (kv.1 = k)) (fun q => h (of_decide_eq_true q))]
end
section
variable {T : TC} {Γ : List (Option VA)} {Ω Ω0 Ω1 Ω2 Ω3 : List OA} {A B' C : VA} {ta tb te : TE} {D : Ends} {F0 : Hp} {ts : TS} {b c B : Int} {p : Addr} {k : Nat}
/-- such a dict, new -/
def RNW (T : TC) (Ω2 : List OA) (b c B : Int) : Hp → V → List OA → Prop := fun _ v Ω' => ∃ p d e, v = .ref p ∧ Ω' = Ω2 ++ [rawD p (wkv b c B d e), rawD d (dkv []), lstA T e ([] : List (T3 Str Int Int))]
/-! ### is None -/
def rIsNo : R2 := fun x y H Q => y = .non ∧ Q (.bl (decide (x = .non))) H
def tNo : TE := fun _ _ _ => False
/-! ### max of a list -/
def maxL : List Int → Int
  | [] => 0
  | [a] => a
  | a :: r => max a (maxL r)
end
end VL
namespace VL
open PySem L2 PyProof.Rows
/-! ### range(0, j, c) -/
def rngS (c : Int) (n : Nat) : List Int := (List.range n).map fun (k : Nat) => 0 + (k : Int) * c
def CRg (j c : Int) : Prop := 0 < c ∧ c < 2 ^ 30 ∧ 0 ≤ j ∧ j < 2 ^ 30
theorem wk_rangeS {n : Nat} {c : Int} {T : TC} : Wk (Itc 0 c n) (fun _ => True) (rngS c n) (fun a => va T a) where
  mono := fun _ _ _ _ => trivial
  go := fun i F Ω H _ _ hi => by
    have hi : i < n := by simpa [rngS] using hi
    exact hi
  stop := fun F Ω H _ _ => by show n ≤ _; simp [rngS]
  yld := fun i a F Ω H x H' _ hh hx y => by
    obtain ⟨e, y⟩ := y
    subst e y
    refine ⟨F, Same.refl F, hh, ?_⟩
    show V.int _ = V.int a
    unfold rngS at hx
    rw [List.getElem?_map] at hx
    cases hr : (List.range n)[i]? with
    | none => rw [hr] at hx; cases hx
    | some k =>
      rw [hr] at hx
      have hk : i = k := by
        obtain ⟨h1, h2⟩ := List.getElem?_eq_some_iff.mp hr
        rw [List.getElem_range] at h2
        exact h2
      subst hk
      cases hx
      rfl
theorem rgc_ok {j c : Int} (h : CRg j c) : RgC 0 j c ((j + c - 1) / c).toNat := by
  obtain ⟨h1, h2, h3, h4⟩ := h
  have e := rangeSize_pos (len := j) (c := c) (by omega) h3
  have q0 : 0 ≤ (j + c - 1) / c := Int.ediv_nonneg (by omega) (by omega)
  have q1 : (j + c - 1) / c ≤ j + c - 1 := Int.ediv_le_self _ (by omega)
  refine ⟨by omega, by omega, ?_, by rw [e]; omega⟩
  unfold Builtin.Range.small
  rw [e]
  simp only [Builtin.Range.rangeFitsLong, Bool.and_eq_true, Bool.or_eq_true, decide_eq_true_eq, beq_iff_eq, show c > 0 from h1, if_true]
  omega
section
variable {T : TC} {Γ : List (Option VA)} {Ω Ω1 Ω2 : List OA} {B' : VA} {As : List VA}
theorem xi_rangeS {j c : Int} {ta : TA} (ha : XA ta Γ Ω [va T (0 : Int), va T j, va T c] Ω1) (h : CRg j c) : XI (iRng3 ta) Γ Ω (rngS c ((j + c - 1) / c).toNat) (fun a => va T a) Ω1 := fun F σ H e hh R r => by
  refine ha F σ H e hh _ fun F1 vs H1 e1 hh1 a1 => ?_
  cases a1 with
  | cons a1 t =>
    obtain ⟨v, w, rfl, a2, a3⟩ := alA2 t
    have a1 : _ = V.int 0 := a1
    have a2 : v = .int j := a2
    have a3 : w = .int c := a3
    subst a1 a2 a3
    exact ⟨0, j, c, _, rfl, rgc_ok h, r F1 _ H1 _ e1 hh1 wk_rangeS trivial⟩
end
end VL

set_option Elab.async false
set_option linter.all false
set_option maxRecDepth 100000
/-! VL31: reversed(range(n)). -/
namespace VL
open PySem L2 PyProof.Rows
section
variable {T : TC} {Γ : List (Option VA)} {Ω Ω1 Ω2 : List OA} {A B C : VA} {ta tb te : TE}
end
end VL

set_option Elab.async false
set_option linter.all false
set_option maxRecDepth 100000
/-! VL32: defs with defaults and keyword-only parameters. -/
namespace VL
open PySem L2
open PyProof.Rows (envOfC)
section
variable {P : Program} {w : World} {K : PySem.W.Frag} {mg : Str → Option Value} {base : Heap}
theorem fn_okK {x qual : Str} {params : Arguments} {body : List Stmt} {scope : Scope} {dvs : List V} {kws : List (Str × V)} {f : Addr} {fd : FuncData} {N ps : List Str} {k : Nat} {Pre : PreT} (F : FunD K x qual params body scope dvs kws f fd) (S : FnScope N ps scope) (hl : ∀ As Ω R, Pre As Ω R → As.length = ps.length)
    (hb : ∀ (cdv : Value) (A : Around) (outer : List PySem.Env) (s : Shared) (H : Hp) (E : XK), Room k (A.deeper (envOfC qual scope s.heap.objs.size f cdv)) → ∀ As Ω R F0, Pre As Ω R →
      Bod (cxOf CX0 P w K mg base N qual scope f cdv A outer s H E).nox body (As.map some ++ List.replicate (N.length - As.length) none) Ω F0 R) : FnOk P w K mg base CX0 (k + 1) f fd ps (mkSp Pre) := by
  refine F.ok S (fun vs H Q E h => ?_) (fun cdv A outer s H vs Q E hr h => ?_)
  · obtain ⟨F, Ω, As, R, hp, ha, _⟩ := h
    rw [ha.len]; exact hl _ _ _ hp
  · obtain ⟨F0, Ω, As, R, hp, ha, hh, hq⟩ := h
    obtain ⟨t, h1, h2⟩ := hb cdv A outer s H E hr As Ω R F0 hp
    exact ⟨t, h1.nox, h2 _ (fun F v H Ω' e hh r => hq F v H Ω' e hh r) (fun F σ H Ω' e hh r => hq F .non H Ω' e hh r) _ _ ⟨F0, Same.refl F0, start_env ha, hh⟩⟩
/-- a def that may be called, what is not written filled up -/
structure CalD (P : Program) (w : World) (K : PySem.W.Frag) (mg : Str → Option Value) (base : Heap) (k : Nat) (x : Str) (ps : List Str) (dvs : List V) (sp : Sp) : Prop where
  ex : ∃ f fd ds, FnOk P w K mg base CX0 k f fd ps sp ∧ mg x = some (.ref f) ∧ PySem.W.keepIn K (.ref f) = true ∧ Vals dvs ds ∧ Binds K fd ps ds
structure CalKD (P : Program) (w : World) (K : PySem.W.Frag) (mg : Str → Option Value) (base : Heap) (k : Nat) (x : Str) (ps : List Str) (n : Nat) (ks : List Str) (dvs : List V) (ix : List Nat) (sp : Sp) : Prop where
  ex : ∃ f fd g, FnOk P w K mg base CX0 k f fd ps sp ∧ mg x = some (.ref f) ∧ PySem.W.keepIn K (.ref f) = true ∧ KBn K fd ps n ks g (fun vs zs => prm ix (vs ++ (dvs ++ zs)))
end
section
variable {X : Cx} {k n : Nat} {x : Str} {ps ks : List Str} {dvs : List V} {ix : List Nat} {sp : Sp} {p pos : Pos} {e : Expr} {es : List Expr} {kws : List Keyword} {t tk : TA}
theorem pe_calD (C : CalD X.prog X.w X.K X.mg X.base k x ps dvs sp) (hr : Room k X.A) (hg : Gl X x) (ha : PA X (e :: es) t)
    (hdb : (x == ("__debug__" : Str)) = false := by decide) (he : starEach (e :: es) X.env = (false, eval e X.env) :: starEach es X.env := by rfl) (hpl : (backTo pos (starEach es X.env)).any (·.1) = false := by rfl) :
    PE X (.Call (.Name x p) (e :: es) [] pos) (tCall sp dvs E0 t) := by
  obtain ⟨f, fd, ds, F, hm, hk, hv, hb⟩ := C.ex
  exact pe_call F hr hg hm hk hb hv pass0 ha hdb he hpl
theorem pe_calKD0 (c : CalKD X.prog X.w X.K X.mg X.base k x ps 0 ks dvs ix sp) (hr : Room k X.A) (hg : Gl X x)
    (hkw : PK X kws tk) (hall : (backToKw pos (keywordEach kws X.env)).all (·.1.isSome) = true := by rfl) (hks : (backToKw pos (keywordEach kws X.env)).filterMap (·.1) = ks := by rfl)
    (hdb : (x == ("__debug__" : Str)) = false := by decide)
    (hpl : ((backTo pos (starEach [] X.env)).any (·.1) || (backToKw pos (keywordEach kws X.env)).any (·.1.isNone)) = false := by rfl) :
    PE X (.Call (.Name x p) [] kws pos) (tCallN 0 ks.length sp (fun vs zs => prm ix (vs ++ (dvs ++ zs))) E0 tNil tk) := by
  obtain ⟨f, fd, g, F, hm, hk, hb⟩ := c.ex
  refine ⟨fun pins s σ H Q I h => ?_⟩
  refine PySem.wpAny_Call_Name_kw (ld_glob I hg hm ?_ hdb)
  refine PySem.W.callWith_KW0 (h₀ := X.base) I.ok.mod.kin hk hall ?_ hpl
  refine L2.thn (hkw.run pos pins s σ H _ I h) fun ws s2 ⟨zs, H2, I2, rz, l1, l2, q2⟩ => ⟨I2.kIn, ?_⟩
  rw [hks]
  exact run_fnN (us := []) (vs := []) F hr hb pass0 I2 .nil rz l1 l2 q2
end
section
variable {T : TC} {Γ : List (Option VA)} {Ω Ω1 Ω2 Ω3 : List OA} {A : VA} {As Ks Ds : List VA} {dvs : List V}
theorem xe_callD {Pre : PreT} {E : XK} {t : TA} {Ω' : List OA} (ha : XA t Γ Ω As Ω1) (hd : ∀ F, AlA F dvs Ds) (hp : Pre (As ++ Ds) Ω1 (RV A Ω')) (he : Ω' = Ω2) : XE (tCall (mkSp Pre) dvs E t) Γ Ω A Ω2 := he ▸ xg_callD ha hd hp
theorem xg_callND {Pre : PreT} {E : XK} {t tk : TA} {ix : List Nat} {n m : Nat} {R : Hp → V → List OA → Prop} (ha : XA t Γ Ω As Ω1) (hk : XA tk Γ Ω1 Ks Ω2) (hd : ∀ F, AlA F dvs Ds) (hp : Pre (prm ix (As ++ (Ds ++ Ks))) Ω2 R) (h1 : As.length = n := by rfl) (h2 : Ks.length = m := by rfl) :
    XG (tCallN n m (mkSp Pre) (fun vs zs => prm ix (vs ++ (dvs ++ zs))) E t tk) Γ Ω R := fun F σ H e hh Q q => by
  refine ha F σ H e hh _ fun F1 xs H1 e1 hh1 a1 => ?_
  refine hk F1 σ H1 (e.mono e1) hh1 _ fun F2 zs H2 e2 hh2 a2 => ?_
  refine ⟨a1.len.trans h1, a2.len.trans h2, F2, Ω2, _, _, hp, prm_relA ix ((a1.mono e2).app ((hd F2).app a2)), hh2, fun F' v H' Ω4 e' hh' r => q F' v H' Ω4 ((e1.trans e2).trans e') hh' r⟩
theorem xe_callND {Pre : PreT} {E : XK} {t tk : TA} {ix : List Nat} {n m : Nat} {Ω' : List OA} (ha : XA t Γ Ω As Ω1) (hk : XA tk Γ Ω1 Ks Ω2) (hd : ∀ F, AlA F dvs Ds) (hp : Pre (prm ix (As ++ (Ds ++ Ks))) Ω2 (RV A Ω')) (he : Ω' = Ω3) (h1 : As.length = n := by rfl) (h2 : Ks.length = m := by rfl) :
    XE (tCallN n m (mkSp Pre) (fun vs zs => prm ix (vs ++ (dvs ++ zs))) E t tk) Γ Ω A Ω3 := he ▸ xg_callND ha hk hd hp h1 h2
end
end VL

set_option Elab.async false
set_option linter.all false
set_option maxRecDepth 100000
/-! VL33: a list of two new machines. -/
namespace VL
open PySem L2
def rawLA (d : Addr) (vs : List V) : OA := ⟨fun _ t => t d = some (.lst vs), fun _ h => h⟩
/-- hands back a list of two new machines -/
abbrev RMM (T : TC) (Ω2 : List OA) (s1 s2 : MS) : Hp → V → List OA → Prop := fun F v Ω' => ∃ p q1 q2, v = .ref p ∧ F p = some (.lst [.ref q1, .ref q2]) ∧ Ω' = Ω2 ++ [machA T q1 s1, machA T q2 s2]
section
variable {T : TC} {Γ : List (Option VA)} {Ω Ω0 Ω1 Ω2 : List OA} {As : List VA} {ta tb te : TE}
variable {F0 : Hp}
end
end VL

set_option Elab.async false
set_option linter.all false
set_option maxRecDepth 100000
/-! VL34: count of a text in a list of texts. -/
namespace VL
open PySem L2
/-- how often -/
def cntStr (k : Str) (l : List Str) : Nat := l.countP (· == k)
def rCntS (K : PySem.W.Frag) : V → List V → Hp → VK → Prop := fun x xs H Q => ∃ (p : Addr) (l : List Str) (k : Str), x = .ref p ∧ xs = [.str k] ∧ SqL K H p (l.map V.str) ∧ Q (.int (cntStr k l : Nat)) H
theorem al_str {T : TC} {F : Hp} : ∀ {vs : List V} {l : List Str}, Al T F vs l → vs = l.map V.str
  | _, _, .nil => rfl
  | _, _, .cons h t => by rw [List.map_cons, ← al_str t, show _ = V.str _ from h]
section
variable {T : TC} {Ω Ω1 Ω2 : List OA}
end
end VL

set_option Elab.async false
set_option linter.all false
set_option maxRecDepth 100000
set_option maxHeartbeats 1000000
/-! VL35: list(reversed(l)) of a list. -/
namespace VLR
open PySem PySem.Spec PyProof.Rows RT
section
variable {prog : Program} {w : World} {A : Around} {E : Value → Shared → Prop} {s : Shared}
/-- a new, empty list takes all that a walk from a list's end gives -/
theorem take_rev {R : Result → Shared → Prop} {it l S : Addr} {items : Array Value} {c₀ : Nat} (hh : A.handled = none) (hit : s.heap.IsRevIter it l ((items.size : Int) - 1)) (hl : s.heap.IsList l items) (hne : l ≠ it) (hn : items.size ≤ sizeLine)
    (eS : s.heap.get? S = some { cls := .type "list", data := .seq #[] c₀ }) (nl : S ≠ l) (ni : S ≠ it)
    (hR : ∀ (h' : Heap) (tk : Nat) (acc : Array Value) (c : Nat), (∀ b o, b ≠ S → b ≠ it → s.heap.get? b = some o → h'.get? b = some o) → h'.get? S = some { cls := .type "list", dict := none, data := .seq acc c, slots := #[] } →
      ItemsOf (fun i v => items[items.size - 1 - i]? = some v) acc items.size → R (.ok (.ret .none)) { s with heap := h', toks := tk }) :
    wpAny (model prog w) A.in1 (Builtin.List.listExtendWith (.ref S) (.ref it) .none)
      (fun f s' => match f with | .done z => R (.ok z) s' | .again k => k.quiet = true ∧ codeAny (model prog w) A k R s') (fun e s' => R (.error e) s') s := by
  have W := (Walks.listRev (prog := prog) (w := w) (A := A.in1) hh it l hne items).toS
  have hSf : S ∉ [it, l] := by simp only [List.mem_cons, List.not_mem_nil, or_false, not_or]; exact ⟨ni, nl⟩
  have ty := hit.typeIs
  have same : Builtin.List.listSameRef (.ref S) (.ref it) = false := by simp [Builtin.List.listSameRef, ni]
  unfold Builtin.List.listExtendWith
  refine wpAny_bind (wpAny_typeOf ty ?_); rw [if_neg (by rw [same]; decide)]
  refine wpAny_bind (wpAny_pyIter_revIter hit ?_); refine wpAny_bind (wpAny_holding ?_); unfold Builtin.List.listLengthHint
  refine wpAny_bind (wpAny_specialOf ty nolen_lri ?_)
  show wpAny _ A.in1 (specialOf (Value.ref it) (Str.ofString "__length_hint__") >>= fun _ => _) _ _ _
  refine wpAny_bind (wpAny_specialOf ty hint_lri ?_); generalize hid : ("list_reverseiterator.__length_hint__" : String) = id1; wp_delta
  rw [show splitId id1 = some ("list_reverseiterator", "__length_hint__") from by subst hid; decide +kernel]; subst hid
  refine wpAny_bind (wpAny_isInstance (b := true) ty (by rw [isSubtype_type]; kernel_rfl) (wpAny_pure ?_)); rw [if_neg (by decide)]
  have z0 : ((items.size : Nat) : Int) - 1 - ((0 : Nat) : Int) = (items.size : Int) - 1 := by omega
  refine wpAny_pure ⟨plainId_quiet F.plain_extend_loop _, codeAny_extend_loopS W hn _ hSf _ items.size 0 _ _ _ rfl (Nat.zero_le _) ⟨Nat.zero_le _, by rw [z0]; exact hit, hl⟩ eS (ItemsOf.nil _) fun s2 acc c hm hS2 hacc => ?_⟩
  rw [Moved.eq_with hm]
  refine hR s2.heap s2.toks acc c (fun b o h1 h2 e => hm.heap b o (fun m => ?_) e) hS2 hacc
  rcases List.mem_cons.mp m with q | q
  · exact h1 q
  · exact h2 (List.mem_singleton.mp q)
theorem init_rev {R : Result → Shared → Prop} {it l S : Addr} {items : Array Value} (hh : A.handled = none) (hit : s.heap.IsRevIter it l ((items.size : Int) - 1)) (hl : s.heap.IsList l items) (hne : l ≠ it) (hn : items.size ≤ sizeLine)
    (eS : s.heap.get? S = some { cls := .type "list", data := .seq #[] }) (nl : S ≠ l) (ni : S ≠ it)
    (hR : ∀ (h' : Heap) (tk : Nat) (acc : Array Value) (c : Nat), (∀ b o, b ≠ S → b ≠ it → s.heap.get? b = some o → h'.get? b = some o) → h'.get? S = some { cls := .type "list", dict := none, data := .seq acc c, slots := #[] } →
      ItemsOf (fun i v => items[items.size - 1 - i]? = some v) acc items.size → R (.ok (.ret .none)) { s with heap := h', toks := tk }) :
    wpAny (model prog w) A.in1 (Builtin.«list.__init__» ⟨[.ref S, .ref it], []⟩)
      (fun f s' => match f with | .done z => R (.ok z) s' | .again k => k.quiet = true ∧ codeAny (model prog w) A k R s') (fun e s' => R (.error e) s') s := by
  show wpAny _ _ (do let old ← Builtin.List.listItems (.ref S); Builtin.List.listUpdate (.ref S) (fun _ => #[]); letGo old.toList.reverse; Builtin.List.listExtendWith (.ref S) (.ref it) .none) _ _ s
  refine wpAny_bind ?_; unfold Builtin.List.listItems; refine wpAny_bind (wpAny_seqItems eS rfl (wpAny_pure ?_))
  show wpAny _ _ (updateSeq S (fun _ => #[]) >>= fun _ => letGo (#[] : Array Value).toList.reverse >>= fun _ => Builtin.List.listExtendWith (.ref S) (.ref it) .none) _ _ s
  refine wpAny_bind (wpAny_updateSeq eS rfl ?_); refine wpAny_bind (wpAny_letGo ?_)
  have other : ∀ b o, b ≠ S → s.heap.get? b = some o → (s.heap.update S (Obj.mapSeq (fun _ => (#[] : Array Value)))).get? b = some o := fun b o hb e => (Heap.get?_update_other _ _ (Ne.symm hb)).trans e
  refine take_rev hh (hit.at fun o e => other _ o (Ne.symm ni) e) (hl.at fun o e => other _ o (Ne.symm nl) e) hne hn (Heap.get?_update_self (Obj.mapSeq (fun _ => (#[] : Array Value))) eS rfl) nl ni fun h2 tk acc c hk e2 hi => ?_
  exact hR h2 tk acc c (fun b o h1 h3 e => hk b o h1 h3 (other b o h1 e)) e2 hi
theorem call_list_rev {Q : Value → Shared → Prop} {it l : Addr} {items : Array Value} (hh : A.handled = none) (hit : s.heap.IsRevIter it l ((items.size : Int) - 1)) (hl : s.heap.IsList l items) (hne : l ≠ it) (hn : items.size ≤ sizeLine)
    (hQ : ∀ (h' : Heap) (tk : Nat) (acc : Array Value) (c : Nat), (∀ b o, b ≠ it → s.heap.get? b = some o → h'.get? b = some o) → h'.get? s.heap.objs.size = some { cls := .type "list", dict := none, data := .seq acc c, slots := #[] } →
      ItemsOf (fun i v => items[items.size - 1 - i]? = some v) acc items.size → Q (.ref s.heap.objs.size) { s with heap := h', toks := tk }) :
    wpAny (model prog w) A (call (.type "list") [.ref it]) Q E s := by
  obtain ⟨oi, hoi, _⟩ := id hit
  obtain ⟨ol, hol, _⟩ := id hl
  refine callType_codes (Q₁ := fun v s2 => v = .ref s.heap.objs.size ∧ s2 = { s with heap := s.heap.push { cls := .type "list", data := .seq #[] } }) F.called_list (F.typeCall_list_1 _) F.entry_list_init (code_list_new _ ⟨rfl, rfl⟩) fun v s2 q => ?_
  obtain ⟨rfl, rfl⟩ := q
  have eS : (s.heap.push { cls := .type "list", data := .seq #[] }).get? s.heap.objs.size = some { cls := .type "list", data := .seq #[] } := Heap.get?_push_size _ rfl
  refine ⟨⟨_, eS, rfl⟩, F.args_list_init_2 _ _, init_rev (A := A.in1) hh (hit.at fun o e => Heap.get?_push_of_some _ e) (hl.push _) hne hn eS (Nat.ne_of_gt (Heap.lt_size hol)) (Nat.ne_of_gt (Heap.lt_size hoi)) fun h2 tk acc c hk e2 hi => ?_⟩
  exact ⟨rfl, hQ h2 tk acc c (fun b o hb e => hk b o (Nat.ne_of_lt (Heap.lt_size e)) hb (Heap.get?_push_of_some _ e)) e2 hi⟩
end
end VLR
namespace VL
open PySem PySem.Spec PyProof.Rows L2 _root_.RT
section
variable {X : Cx}
def tListRev (K : PySem.W.Frag) (te : TE) : TE := fun σ H Q => te σ H fun v H1 => ∃ (a : Addr) (xs : List V), v = .ref a ∧ SqL K H1 a xs ∧ ∀ q, H1 q = none → Q (.ref q) (upd H1 q (.lst xs.reverse))
theorem pe_listRev {e : Expr} {te : TE} {p p2 pos pos2 : Pos} (hc : X.calm = true) (hg : Gl X "list") (hm : X.mg "list" = none) (hg2 : Gl X "reversed") (hm2 : X.mg "reversed" = none) (he : PE X e te) (hs : starEach [e] X.env = (false, eval e X.env) :: starEach [] X.env := by rfl)
    (hs3 : starEach [.Call (.Name "reversed" p2) [e] [] pos2] X.env = (false, eval (.Call (.Name "reversed" p2) [e] [] pos2) X.env) :: starEach [] X.env := by rfl) :
    PE X (.Call (.Name "list" p) [.Call (.Name "reversed" p2) [e] [] pos2] [] pos) (tListRev X.K te) := ⟨fun pins s σ H Q I h => by
  refine Call_ (ld_blt I hg hm PyProof.Rows.boot_list (PyProof.Rows.callWith_type1 (args_cons (Call_ (ld_blt I hg2 hm2 PyProof.Rows.boot_reversed (PyProof.Rows.callWith_type1 (args_cons (thn (he.run pins s σ H _ I h) fun u s1 ⟨v, H1, I1, r1, a, xs, ev, hq, q⟩ => args_nil ?_) hs) hs rfl))) hs3) hs3 rfl))
  subst ev
  obtain rfl : u = Value.ref a := r1
  obtain ⟨its, rv, pl, hz⟩ := I1.list hq
  have hl := pl.isList
  obtain ⟨ol, hol, _⟩ := id hl
  refine call_reversed_list hl (args_nil ?_)
  have hn : its.toArray.size ≤ sizeLine := by rw [List.size_toArray, ← rv.length]; exact hz
  refine VLR.call_list_rev (s := { s1 with heap := s1.heap.push (revObj a ((its.toArray.size : Int) - 1)) }) (I1.ok.hd hc) ⟨_, Heap.get?_push_size _ rfl, rfl, rfl⟩ (hl.push _) (Nat.ne_of_lt (Heap.lt_size hol)) hn fun h2 tk acc c hk e2 hi => ?_
  have ge : s1.heap.objs.size ≤ (s1.heap.push (revObj a ((its.toArray.size : Int) - 1))).objs.size := by
    show _ ≤ (s1.heap.objs.push _).size
    rw [Array.size_push]
    omega
  have kp : ∀ b o, s1.heap.get? b = some o → h2.get? b = some o := fun b o eb => hk b o (Nat.ne_of_lt (Heap.lt_size eb)) (Heap.get?_push_of_some _ eb)
  refine ⟨.ref _, upd H1 _ (.lst xs.reverse), I1.laid (t' := tk) kp ge ⟨by rw [List.length_reverse]; exact hz, acc.toList, c, vals_rev rv hi, ?_⟩, rfl, q _ (I1.hok.fresh ge)⟩
  rw [Array.toArray_toList]
  exact e2⟩
theorem pe_listRevK {K : PySem.W.Frag} (hK : X.K = K) {e : Expr} {te : TE} {p p2 pos pos2 : Pos} (hc : X.calm = true) (hg : Gl X "list") (hm : X.mg "list" = none) (hg2 : Gl X "reversed") (hm2 : X.mg "reversed" = none) (he : PE X e te) (hs : starEach [e] X.env = (false, eval e X.env) :: starEach [] X.env := by rfl)
    (hs3 : starEach [.Call (.Name "reversed" p2) [e] [] pos2] X.env = (false, eval (.Call (.Name "reversed" p2) [e] [] pos2) X.env) :: starEach [] X.env := by rfl) :
    PE X (.Call (.Name "list" p) [.Call (.Name "reversed" p2) [e] [] pos2] [] pos) (tListRev K te) := hK ▸ pe_listRev hc hg hm hg2 hm2 he hs hs3
end
section
variable {T : TC} {Ω Ω1 : List OA}
/-- of a list that is seen in this state -/
theorem xe_listRev {α : Type} [Rp α] {te : TE} {A : VA} {l : List α} (ha : XE te Γ Ω A Ω1) (h : IsL T Ω1 A l) : XE (tListRev T.K te) Γ Ω (va T (LF.mk l.reverse)) Ω1 := fun F σ H e hh Q q => by
  refine ha F σ H e hh _ fun F1 x H1 Ω' e1 hh1 ⟨a1, o1⟩ => ?_
  subst o1
  obtain ⟨p, vs, ex, hs, al⟩ := h F1 H1 x hh1 a1
  refine ⟨p, vs, ex, hs, fun r hr => ?_⟩
  obtain ⟨hh2, e2⟩ := hh1.newF (u := .lst vs.reverse) hr
  exact q _ _ _ _ (e1.trans e2) hh2 ⟨⟨r, _, rfl, upd_same, al_rev (al.mono e2)⟩, rfl⟩
end
section
variable {T : TC} {Ω Ω1 Ω2 : List OA}
theorem ty_str {F H : Hp} {v : V} {x : Str} (_ : Holds F Ω H) (a : (va T x).P F v) : TyX T.K H v (.type "str") := by
  have a : v = .str x := a
  subst a
  exact .base (.str x)
/-- a text among texts -/
def inS (k : Str) (l : List Str) : Bool := l.any fun y => y == k
theorem inV_s (k : Str) : ∀ l : List Str, inV (.str k) (l.map V.str) = inS k l
  | [] => rfl
  | y :: r => by
    show (eqV (.str y) (.str k) || inV (.str k) (r.map V.str)) = ((y == k) || inS k r)
    rw [inV_s k r]
    rfl
theorem flat_s : ∀ l : List Str, (l.map V.str).all flatV = true
  | [] => rfl
  | _ :: r => flat_s r
theorem op_notInK {X : Cx} {K : PySem.W.Frag} (h : X.K = K) : OpR X (compareOp .NotIn) (rIn K true) := h ▸ op_notIn_seq
theorem op_inK {X : Cx} {K : PySem.W.Frag} (h : X.K = K) : OpR X (compareOp .In) (rIn K false) := h ▸ op_in_seq
theorem xe_inB {neg : Bool} {ta tb : TE} {l : List Str} {k : Str} (ha : XE ta Γ Ω (va T k) Ω1) (hb : XE tb Γ Ω1 (va T (TF.mk l)) Ω2) : XE (tOp (rIn T.K neg) ta tb) Γ Ω (va T (if neg then !inS k l else inS k l)) Ω2 := xe_op ha hb fun F H x y hh a1 a2 Q q => by
  have a1 : x = .str k := a1
  subst a1
  obtain ⟨p, vs, ey, hs, al⟩ := a2
  subst ey
  rw [al_str al] at hs
  refine ⟨p, _, rfl, .inr (Same.tup (fun b o e => hh.same b o e) hs), rfl, flat_s l, ?_⟩
  rw [inV_s]
  exact q F _ H (Same.refl F) hh rfl
theorem xe_inS {ta tb : TE} {l : List Str} {k : Str} (ha : XE ta Γ Ω (va T k) Ω1) (hb : XE tb Γ Ω1 (va T (TF.mk l)) Ω2) : XE (tOp (rIn T.K false) ta tb) Γ Ω (va T (inS k l)) Ω2 := xe_inB (neg := false) ha hb
theorem xe_iteL {α : Type} [Rp α] {l m : List α} {t : TT} {b : Bool} {ta tb : TE} (h : XT t Γ Ω b Ω1) (h1 : XE ta Γ Ω1 (va T (LF.mk l)) Ω2) (h2 : XE tb Γ Ω1 (va T (LF.mk m)) Ω2) : XE (tIf t ta tb) Γ Ω (va T (LF.mk (if b = true then l else m))) Ω2 :=
  xe_if h (fun e => xe_eq h1 (by rw [if_pos e])) (fun e => xe_eq h2 (by rw [if_neg (by rw [e]; exact Bool.false_ne_true)]))
end
end VL

set_option Elab.async false
set_option linter.all false
set_option maxRecDepth 100000
/-! VL36: a tuple of one thing and a pair make a triple. -/
namespace VL
open PySem L2
section
variable {T : TC} {Ω Ω1 Ω2 : List OA}
end
end VL

set_option Elab.async false
set_option linter.all false
set_option maxRecDepth 100000
/-! VL37: a dict that changed, locked within a pair that is handed back; both things of a pair one by one. -/
namespace VL
open PySem L2 PyProof.Rows
/-- some dict is locked for good -/
def tFzA (te : TE) : TE := fun σ H Q => te σ H fun v H1 => ∃ p kvs, H1 p = some (.dK kvs) ∧ ∀ od, Q v (upd H1 p (.frz od (.dK kvs)))
section
variable {T : TC} {Γ : List (Option VA)} {Ω Ω1 Ω2 Ω3 : List OA} {A B C : VA} {ta tb te : TE} {D : Ends} {F0 : Hp} {ts : TS}
end
end VL

set_option Elab.async false
set_option linter.all false
set_option maxRecDepth 100000
set_option maxHeartbeats 2000000
/-! VL38: a lambda with one parameter, handed to a def that calls it with a machine. -/
namespace VL
open PySem PySem.Spec PyProof.Rows L2 LamX
/-- the context of the body of such a lambda: the caller's names and its own -/
def lamCx1 (X : Cx) (nm : Str) (A : Around) (outer : List PySem.Env) (s : Shared) (H : Hp) (E : XK) (scope : Scope) (f c' : Addr) : Cx := { lamCx X A outer s H E scope f c' with N := X.N ++ [nm] }
section
variable {X : Cx} {pins : List (Addr × Obj)} {σ : L2.St} {H HZ : Hp} {s s1 : Shared}
/-- what a call of the name with one value makes -/
def tAct1 (i : Nat) (f c' : Addr) (q : Str) (act : V → Hp → VK → Prop) (te : TE) : TE := fun σ H Q => σ[i]? = some (some (.ref f)) ∧ te σ H fun v H1 => H1 c' = some (CodeO c' q) ∧ act v H1 Q
end
/-! ### a def that is handed such a lambda -/
def ActH1 (P : Program) (w : World) (K : PySem.W.Frag) (mg : Str → Option Value) (base : Heap) (k : Nat) (A : Around) (outer : List PySem.Env) (s : Shared) (H : Hp) (f c' : Addr) (q : Str) (act : V → Hp → VK → Prop) : Prop :=
  ∀ (Ng : List Str) (qg : Str) (sg : Scope) (g : Addr) (cdg : Value) (i : Nat) (a : Str) (p1 p2 : Pos) (e : Expr) (te : TE), Room (k + 1) (A.deeper (envOfC qg sg s.heap.objs.size g cdg)) → Ng[i]? = some a → Vis sg a → (a == ("__debug__" : Str)) = false → (a == ("__classdict__" : Str)) = false →
    PE (cxOf CX0 P w K mg base Ng qg sg g cdg A outer s H E0).nox e te → starEach [e] (envOfC qg sg s.heap.objs.size g cdg) = (false, eval e (envOfC qg sg s.heap.objs.size g cdg)) :: starEach [] (envOfC qg sg s.heap.objs.size g cdg) →
    PE (cxOf CX0 P w K mg base Ng qg sg g cdg A outer s H E0).nox (.Call (.Name a p1) [e] [] p2) (tAct1 i f c' q act te)
abbrev PreLT1 := Addr → Addr → Str → (V → Hp → VK → Prop) → PreT
structure CalL1 (P : Program) (w : World) (K : PySem.W.Frag) (mg : Str → Option Value) (base : Heap) (kl k : Nat) (x : Str) (ps : List Str) (Pre : PreLT1) : Prop where
  ex : ∃ g fd, mg x = some (.ref g) ∧ PySem.W.keepIn K (.ref g) = true ∧ Binds K fd ps [] ∧ (∀ f c' q act As Ω R, Pre f c' q act As Ω R → As.length = ps.length) ∧
    ∀ (A : Around) (outer : List PySem.Env) (s : Shared) (H : Hp) (us : List Value) (vs : List V) (Q : VK) (f c' : Addr) (q : Str) (act : V → Hp → VK → Prop), Room k A → Env0 P w K mg base A outer s H → BindsTo s fd ⟨us, []⟩ (ps.zip us) → Vals vs us →
      ActH1 P w K mg base kl A outer s H f c' q act → mkSp (Pre f c' q act) vs H Q E0 → codeAny (model P w) A (.call (.ref g) ⟨us, []⟩) (CR CX0 outer P w H s Q E0) s
section
variable {P : Program} {w : World} {K : PySem.W.Frag} {mg : Str → Option Value} {base : Heap}
end
def tLam1 (P : Addr) (q : Str) (Pre : PreLT1) (ta tb : TE) : TE := fun σ H Q => ta σ H fun v H0 => (∃ ps : Array Value, H0 P = some (.tbl ps) ∧ TriplesOk ps.toList ∧ ∀ (pos : Pos) (cv : Value), codeAmong pos ps.toList = some cv → ∃ c, cv = .ref c ∧ H0 c = some (CodeO c q)) ∧
  ∀ f c' H1, Grown H0 P q H1 c' → mkSp (Pre f c' q fun u H' Q' => tb (σ ++ [some u]) H' Q') [v, .ref f] H1 Q E0
section
variable {X : Cx}
end
/-- the name's value: the lambda f, which takes the machine at k0, handed over, from m to r.2 and tells r.1 -/
def askA1 (T : TC) {α : Type} [Rp α] (f c' : Addr) (q : Str) (act : V → Hp → VK → Prop) (Ω : List OA) (k0 : Nat) (p0 : Addr) (M : MS → Option (α × MS)) : VA :=
  ⟨fun F v => v = .ref f ∧ F c' = some (CodeO c' q) ∧ ∀ m r, M m = some r → ∀ F1 H1, Same F F1 → Holds F1 (stt Ω [(k0, machA T p0 m)] []) H1 → ∀ Q : VK, (∀ F2 v H2, Same F1 F2 → Holds F2 (stt Ω [(k0, machA T p0 r.2)] []) H2 → (va T r.1).P F2 v → Q v H2) → act (.ref p0) H1 Q,
   fun e ⟨h1, h2, h3⟩ => ⟨h1, e _ _ h2, fun m r hm F1 H1 e1 => h3 m r hm F1 H1 (e.trans e1)⟩⟩
section
variable {T : TC} {Γ : List (Option VA)} {Ω Ω1 Ω2 : List OA} {α : Type} [Rp α]
end
/-! ### a dict with a machine, a list and a dict -/
def wev (m e d : Addr) : List (Key × V) := [(Sum.inr ("engine" : Str), .ref m), (Sum.inr ("walk" : Str), .ref e), (Sum.inr ("counts" : Str), .ref d)]
section
variable {m e d : Addr}
end
section
variable {T : TC} {Γ : List (Option VA)} {Ω Ω0 Ω1 Ω2 Ω3 : List OA} {A B' C : VA} {ta tb te : TE} {D : Ends} {F0 : Hp} {ts : TS} {p m : Addr} {k : Nat}
/-- such a dict, new, about the machine at m -/
def RNE (T : TC) (Ω2 : List OA) (m : Addr) : Hp → V → List OA → Prop := fun _ v Ω' => ∃ p e d, v = .ref p ∧ Ω' = Ω2 ++ [rawD p (wev m e d), lstA T e ([] : List (T3 Str Int Int)), rawD d (dkv [])]
end
end VL

set_option Elab.async false
set_option linter.all false
set_option maxRecDepth 100000
/-! VL39: a list of two machines by its name: kept, taken apart, handed over; a dict with a machine out of a def. -/
namespace VL
open PySem L2 PyProof.Rows
/-- a list of the things at q1 and q2, for good -/
def mmA (q1 q2 : Addr) : VA := ⟨fun F v => ∃ p, v = .ref p ∧ F p = some (.lst [.ref q1, .ref q2]), fun e ⟨p, a, b⟩ => ⟨p, a, e _ _ b⟩⟩
section
variable {T : TC} {Γ : List (Option VA)} {Ω Ω0 Ω1 Ω2 Ω3 : List OA} {A B C : VA} {As : List VA} {ta tb te : TE} {D : Ends} {F0 : Hp} {ts : TS} {p m q1 q2 : Addr}
end
end VL

set_option Elab.async false
set_option linter.all false
set_option maxRecDepth 100000
/-! VL40: x *= e; two names for one value; range(a, j, c). -/
namespace VL
open PySem L2 PyProof.Rows
theorem iop_mulQ {X : Cx} : OpR X (inplaceOp .Mult) (rI IntMulOk fun i j => .int (i * j)) := opI fun _ _ _ _ _ _ _ hc q => imul_int q hc
section
variable {T : TC} {Γ : List (Option VA)} {Ω Ω0 Ω1 Ω2 : List OA} {A B' : VA} {As : List VA} {te : TE} {D : Ends} {F0 : Hp} {ts : TS}
def rngA (a c : Int) (n : Nat) : List Int := (List.range n).map fun (k : Nat) => a + (k : Int) * c
def CRgA (a j c : Int) : Prop := 0 < c ∧ c < 2 ^ 30 ∧ 0 ≤ a ∧ a ≤ j ∧ j < 2 ^ 30
end
end VL

set_option Elab.async false
set_option linter.all false
set_option maxRecDepth 100000
/-! VL41: list(range(a, j, c)); the first part of a triple. -/
namespace VL
open PySem PySem.Spec L2 PyProof.Rows
def rgVC (a c : Int) (n : Nat) : List V := (rngA a c n).map V.int
def tLstRgC (ta : TA) : TE := fun σ H Q => ta σ H fun vs H1 => ∃ (i j c : Int) (n : Nat), vs = [.int i, .int j, .int c] ∧ RgC i j c n ∧ n ≤ 2 ^ 24 ∧ ∀ q, H1 q = none → Q (.ref q) (upd H1 q (.lst (rgVC i c n)))
section
variable {X : Cx}
end
section
variable {T : TC} {Γ : List (Option VA)} {Ω Ω1 : List OA} {te : TE}
end
end VL

set_option Elab.async false
set_option linter.all false
set_option maxRecDepth 100000
/-! VL42: three things that change; a list of two new machines handed to a def; w, x, y, z = values and a new list. -/
namespace VL
open PySem L2 PyProof.Rows
section
variable {T : TC} {Γ : List (Option VA)} {Ω Ω0 Ω1 : List OA} {A B C : VA} {As : List VA} {ta tb tc td : TE} {D : Ends} {F0 : Hp} {ts : TS}
end
end VL

set_option Elab.async false
set_option linter.all false
set_option maxRecDepth 100000
/-! VL43: a pair turned about, p[::-1]; d.get(k) of a key that is there. -/
namespace VL
open PySem PySem.Spec PySem.Calls L2 PyProof.Rows
section
variable {prog : Program} {w : World} {A : Around} {E : Value → Shared → Prop} {s : Shared}
end
def tRevP (K : PySem.W.Frag) (te : TE) : TE := fun σ H Q => te σ H fun x H1 => ∃ a u v, x = .ref a ∧ SqT K H1 a [u, v] ∧ ∀ p, H1 p = none → Q (.ref p) (upd H1 p (.tup [v, u]))
section
variable {X : Cx}
end
section
variable {T : TC} {Γ : List (Option VA)} {Ω Ω1 Ω2 : List OA} {te ta tb : TE}
end
section
variable {T : TC} {Γ : List (Option VA)} {Ω Ω1 Ω2 : List OA} {ta tb : TE}
/-- a number among numbers -/
def inI (k : Int) (l : List Int) : Bool := l.any fun y => y == k
theorem inV_i (k : Int) : ∀ l : List Int, inV (.int k) (l.map V.int) = inI k l
  | [] => rfl
  | y :: r => by
    show (eqV (.int y) (.int k) || inV (.int k) (r.map V.int)) = ((y == k) || inI k r)
    rw [inV_i k r]
    rfl
theorem flat_i : ∀ l : List Int, (l.map V.int).all flatV = true
  | [] => rfl
  | _ :: r => flat_i r
theorem xe_inIB {neg : Bool} {l : List Int} {k : Int} (ha : XE ta Γ Ω (va T k) Ω1) (hb : XE tb Γ Ω1 (va T (TF.mk l)) Ω2) : XE (tOp (rIn T.K neg) ta tb) Γ Ω (va T (if neg then !inI k l else inI k l)) Ω2 := xe_op ha hb fun F H x y hh a1 a2 Q q => by
  have a1 : x = .int k := a1
  subst a1
  obtain ⟨p, vs, ey, hs, al⟩ := a2
  subst ey
  rw [al_int al] at hs
  refine ⟨p, _, rfl, .inr (Same.tup (fun b o e => hh.same b o e) hs), rfl, flat_i l, ?_⟩
  rw [inV_i]
  exact q F _ H (Same.refl F) hh rfl
theorem xe_inI {l : List Int} {k : Int} (ha : XE ta Γ Ω (va T k) Ω1) (hb : XE tb Γ Ω1 (va T (TF.mk l)) Ω2) : XE (tOp (rIn T.K false) ta tb) Γ Ω (va T (inI k l)) Ω2 := xe_inIB (neg := false) ha hb
theorem xe_notInI {l : List Int} {k : Int} (ha : XE ta Γ Ω (va T k) Ω1) (hb : XE tb Γ Ω1 (va T (TF.mk l)) Ω2) : XE (tOp (rIn T.K true) ta tb) Γ Ω (va T (!inI k l)) Ω2 := xe_inIB (neg := true) ha hb
end
end VL

set_option Elab.async false
set_option linter.all false
set_option maxRecDepth 100000
/-! VL44: sum(d.values()). -/
namespace VL
open PySem PySem.Spec PySem.Calls PySem.W L2 PyProof PyProof.Rows
def tSumVals (td : TE) : TE := fun σ H Q => td σ H fun x H1 => ∃ (a : Addr) (kvs : List (Key × V)) (is : List Int), x = V.ref a ∧ Rd H1 a (.dK kvs) ∧ kvs.map (·.2) = is.map V.int ∧ Q (.int (preSum (fun i => is.getD i 0) is.length)) H1
section
variable {X : Cx} {o : Expr} {p pos apos mpos : Pos} {td : TE}
end
section
variable {T : TC} {Γ : List (Option VA)} {Ω Ω1 : List OA} {te : TE}
end
end VL

set_option Elab.async false
set_option linter.all false
set_option maxRecDepth 100000
/-! VL45: defs that raise an own exception without arguments; try .. except X around one statement. -/
namespace VL
open PySem L2
open PyProof.Rows (envOfC)
/-- a promise to raise: of the arguments As in the state Ω -/
abbrev PreXX := List VA → List OA → (Hp → Value → Option Addr → List OA → Prop) → Prop
def mkSpX (Pre : PreXX) : Sp := fun vs H _ E => ∃ F Ω As R, Pre As Ω R ∧ AlA F vs As ∧ Holds F Ω H ∧ ∀ F' c d H' Ω', Same F F' → Holds F' Ω' H' → R F' c d Ω' → E c d H'
/-- an exception of the class at C, the state Ω2 -/
abbrev RX (C : Addr) (Ω2 : List OA) : Hp → Value → Option Addr → List OA → Prop := fun _ c _ Ω' => c = .ref C ∧ Ω' = Ω2
/-- it returns, or it raises -/
def sp2 (Pre : PreT) (PreX : PreXX) : Sp := fun vs H Q E => mkSp Pre vs H Q E ∨ mkSpX PreX vs H Q E
def RTX (F0 : Hp) (R : Hp → Value → Option Addr → List OA → Prop) : XK → Prop := fun E => ∀ F c d H Ω, Same F0 F → Holds F Ω H → R F c d Ω → E c d H
def BodX (X : Cx) (body : List Stmt) (Γ : List (Option VA)) (Ω : List OA) (F0 : Hp) : Prop := ∃ t, PSs X body t ∧ ∀ D : Ends, XS t D F0 Γ Ω
abbrev WXE (E : XK) : WX := fun c d _ H => E c d H
section
variable {P : Program} {w : World} {K : PySem.W.Frag} {mg : Str → Option Value} {base : Heap}
/-- what never raises may stand where something may be let out -/
theorem FnOk.up {k : Nat} {f : Addr} {fd : FuncData} {ps : List Str} {sp : Sp} (F : FnOk P w K mg base CX0 k f fd ps sp) : FnOk P w K mg base (L2.CX P w) k f fd ps sp :=
  ⟨F.len, fun A outer s H args us vs Q E hr he hb hv hs => codeAny_mono (F.run A outer s H args us vs Q E hr he hb hv hs) fun r s' q => by
    cases r with
    | error e => exact False.elim q
    | ok fl => cases fl <;> exact q⟩
theorem FnOk.or {k : Nat} {f : Addr} {fd : FuncData} {ps : List Str} {Pre : PreT} {PreX : PreXX} (F : FnOk P w K mg base CX0 k f fd ps (mkSp Pre)) (G : FnOk P w K mg base (L2.CX P w) k f fd ps (mkSpX PreX)) : FnOk P w K mg base (L2.CX P w) k f fd ps (sp2 Pre PreX) :=
  ⟨fun vs H Q E h => h.elim (F.len vs H Q E) (G.len vs H Q E), fun A outer s H args us vs Q E hr he hb hv hs => hs.elim (fun h => (FnOk.up F).run A outer s H args us vs Q E hr he hb hv h) (fun h => G.run A outer s H args us vs Q E hr he hb hv h)⟩
/-- a def that may be called, and may raise -/
structure CalX (P : Program) (w : World) (K : PySem.W.Frag) (mg : Str → Option Value) (base : Heap) (k : Nat) (x : Str) (ps : List Str) (sp : Sp) : Prop where
  ex : ∃ f fd, FnOk P w K mg base (L2.CX P w) k f fd ps sp ∧ mg x = some (.ref f) ∧ PySem.W.keepIn K (.ref f) = true ∧ Binds K fd ps []
end
/-! ### an own exception -/
structure ExcC (K : PySem.W.Frag) (mg : Str → Option Value) (x : Str) (C : Addr) : Prop where
  q : PySem.W.excIn K C aeBase "ArithmeticError.__new__" = true
  k : PySem.W.keepIn K (.ref C) = true
  s : PySem.W.subIn K (.ref C) (.type "BaseException") = some true
  t : PySem.W.typeIn K (.ref C) = some (.type "type")
  g : mg x = some (.ref C)
section
variable {X : Cx} {C : Addr} {x : Str} {p pos : Pos} {W : WX}
/-- raise X() -/
def tRz (c : Value) (W : WX) : TS := fun _ σ H => W c none σ H
end
section
variable {T : TC} {Γ Γ' : List (Option VA)} {Ω Ω' Ω1 Ω2 : List OA} {A : VA} {As : List VA} {te : TE} {t : TA} {D : Ends} {F0 : Hp} {W : WX} {C : Addr} {Pre : PreT} {PreX : PreXX} {E : XK} {R : Hp → Value → Option Addr → List OA → Prop}
/-- the wish W takes an exception of the class at C at such slots in such a state -/
def WTk (W : WX) (C : Addr) (F0 : Hp) (Γ : List (Option VA)) (Ω : List OA) : Prop := ∀ d σ H, NX F0 Γ Ω σ H → W (.ref C) d σ H
/-- an expression that raises -/
def XR (te : TE) (F0 : Hp) (Γ : List (Option VA)) (Ω : List OA) : Prop := ∀ σ H, NX F0 Γ Ω σ H → ∀ Q : VK, te σ H Q
/-! try: .. except x: .. -/
def tTry (K : PySem.W.Frag) (c : Value) (ts : Addr → Value → Option Addr → TS) (tb : WX → TS) (Wout : WX) : TS := fun D σ H => tb (wOnly K c ts Wout D) D σ H
end
section
variable {X : Cx} {x : Str} {C : Addr} {np pos pos' : Pos} {body suite : List Stmt} {b₀ : Stmt} {tb : WX → TS} {ts : Addr → Value → Option Addr → TS}
end
/-- a call's way: it raises (the class told by a number), or it returns -/
def onX {β : Type} (o : Option Nat) (s : Nat → Option β) (n : Option β) : Option β := match o with | some k => s k | none => n
end VL
namespace VL
open PySem L2
section
variable {T : TC} {Γ Γ' : List (Option VA)} {Ω Ω' Ω1 Ω2 : List OA} {A : VA} {D : Ends} {F0 : Hp} {C : Addr} {E : XK} {K : PySem.W.Frag} {c : Value} {us : Addr → Value → Option Addr → TS} {te : WX → TE} {Wo : WX} {ts : TS} {R : Hp → V → List OA → Prop}
theorem xs_nxI (h : XS ts D F0 Γ Ω) : ∀ σ H, NX F0 Γ Ω σ H → Ends.nx { D with nx := ts D } σ H := h
end
/-! a value or None, a value or a text -/
inductive EN (α : Type) where
  | ok (a : α)
  | no
inductive ES (α : Type) where
  | ok (a : α)
  | s (t : Str)
instance {α : Type} [Rp α] : Rp (EN α) := ⟨fun T F v x => match x with | .ok a => Rp.rep T F v a | .no => v = .non, fun {T F F' v a} e h => by
  cases a with
  | ok a => exact Rp.mono e h
  | no => exact h⟩
instance {α : Type} [Rp α] : Rp (ES α) := ⟨fun T F v x => match x with | .ok a => Rp.rep T F v a | .s t => v = .str t, fun {T F F' v a} e h => by
  cases a with
  | ok a => exact Rp.mono e h
  | s t => exact h⟩
def EN.get {α : Type} : EN α → Option α
  | .ok a => some a
  | .no => none
def EN.isN {α : Type} : EN α → Bool
  | .ok _ => false
  | .no => true
def ES.get {α : Type} : ES α → Option α
  | .ok a => some a
  | .s _ => none
/-- data that is neither None nor a text -/
class Tupl (α : Type) [Rp α] [Dat α] where
  n1 : ∀ a : α, PyData.eqv (Dat.dat a) .none = false
  n2 : ∀ a : α, PyData.eqv .none (Dat.dat a) = false
  s1 : ∀ (a : α) (t : Str), PyData.eqv (Dat.dat a) (.str t) = false
  s2 : ∀ (a : α) (t : Str), PyData.eqv (.str t) (Dat.dat a) = false
  nn : ∀ {T : TC} {F : Hp} {v : V} {a : α}, Rp.rep T F v a → v ≠ .non
end VL
namespace VL
open PySem L2
instance {α β : Type} [Rp α] [Rp β] [Dat α] [Dat β] : Tupl (α × β) := ⟨fun _ => rfl, fun _ => rfl, fun _ _ => rfl, fun _ _ => rfl, fun ⟨p, _, _, h, _⟩ e => by rw [h] at e; cases e⟩
instance {α β γ : Type} [Rp α] [Rp β] [Rp γ] [Dat α] [Dat β] [Dat γ] : Tupl (T3 α β γ) := ⟨fun _ => rfl, fun _ => rfl, fun _ _ => rfl, fun _ _ => rfl, fun ⟨p, _, _, _, h, _⟩ e => by rw [h] at e; cases e⟩
instance {α : Type} [Rp α] [Dat α] [Tupl α] : Dat (EN α) := ⟨fun x => match x with | .ok a => Dat.dat a | .no => .none, fun x => match x with | .ok a => Dat.ok a | .no => True, Dat.dep α, fun {T F H v a} e h => by
    cases a with
    | ok a => exact Dat.dp e h
    | no => rw [show v = V.non from h]; exact .non, fun {a} h => by
    cases a with
    | ok a => exact Dat.lay h
    | no => rfl, fun {a} => by
    cases a with
    | ok a => exact Dat.depth
    | no => exact Nat.zero_le _, fun {a b} => by
    cases a <;> cases b
    · exact Dat.eqv.trans ⟨fun h => by rw [h], fun h => EN.ok.inj h⟩
    · exact ⟨fun h => (Bool.false_ne_true ((Tupl.n1 _).symm.trans h)).elim, fun h => by cases h⟩
    · exact ⟨fun h => (Bool.false_ne_true ((Tupl.n2 _).symm.trans h)).elim, fun h => by cases h⟩
    · exact ⟨fun _ => rfl, fun _ => rfl⟩⟩
instance {α : Type} [Rp α] [Dat α] [Tupl α] : Dat (ES α) := ⟨fun x => match x with | .ok a => Dat.dat a | .s t => .str t, fun x => match x with | .ok a => Dat.ok a | .s t => Dat.ok t, Dat.dep α, fun {T F H v a} e h => by
    cases a with
    | ok a => exact Dat.dp e h
    | s t => rw [show v = V.str t from h]; exact .str _, fun {a} h => by
    cases a with
    | ok a => exact Dat.lay h
    | s t => exact h, fun {a} => by
    cases a with
    | ok a => exact Dat.depth
    | s t => exact Nat.zero_le _, fun {a b} => by
    cases a <;> cases b
    · exact Dat.eqv.trans ⟨fun h => by rw [h], fun h => ES.ok.inj h⟩
    · exact ⟨fun h => (Bool.false_ne_true ((Tupl.s1 _ _).symm.trans h)).elim, fun h => by cases h⟩
    · exact ⟨fun h => (Bool.false_ne_true ((Tupl.s2 _ _).symm.trans h)).elim, fun h => by cases h⟩
    · exact (Dat.eqv (α := Str)).trans ⟨fun h => by rw [h], fun h => ES.s.inj h⟩⟩
section
variable {T : TC} {Γ : List (Option VA)} {Ω Ω1 Ω2 : List OA} {A B : VA} {ta tb te : TE} {α : Type} [Rp α]
end
end VL
namespace VL
open PySem L2
section
variable {T : TC} {Γ : List (Option VA)} {Ω Ω0 Ω1 Ω2 : List OA} {A : VA} {As Ks : List VA} {ta te : TE}
/-- arguments, the last of which is a new thing -/
def XANw (t : TA) (Γ : List (Option VA)) (Ω : List OA) (As : List VA) (Ω2 : List OA) (o : Addr → OA) : Prop :=
  ∀ F σ H, Env F σ Γ → Holds F Ω H → ∀ Q : List V → Hp → Prop, (∀ F' vs H' q, Same F F' → Holds F' (Ω2 ++ [o q]) H' → AlA F' vs (As ++ [vr q]) → Q vs H') → t σ H Q
end
end VL

namespace VL
open PySem PySem.Spec PyProof.Rows L2
section
variable {T : TC} {Γ : List (Option VA)} {Ω Ω1 Ω2 : List OA} {ta tb : TE} {i j : Int}
end
end VL

set_option Elab.async false
set_option linter.all false
set_option maxRecDepth 100000
/-! VL46: a triple of a value, a new thing and a value. -/
namespace VL
open PySem L2
section
variable {T : TC} {Γ : List (Option VA)} {Ω Ω1 Ω2 : List OA} {A B : VA} {te t0 td tl : TE}
def RNT (T : TC) (Ω2 : List OA) (o : Addr → OA) (A B : VA) : Hp → V → List OA → Prop := fun F v Ω' => ∃ p t x w, v = .ref t ∧ SqT T.K F t [x, .ref p, w] ∧ A.P F x ∧ B.P F w ∧ Ω' = Ω2 ++ [o p]
def RNTQ (T : TC) (Ω2 : List OA) (p : Addr) (A B : VA) : Hp → V → List OA → Prop := fun F v Ω' => ∃ t x w, v = .ref t ∧ SqT T.K F t [x, .ref p, w] ∧ A.P F x ∧ B.P F w ∧ Ω' = Ω2
end
end VL

set_option Elab.async false
set_option linter.all false
set_option maxRecDepth 100000
/-! VL47: a dict by numbers; a list made longer by += ; a constant that is a tuple of pairs. -/
namespace VL
open PySem L2 PyProof.Rows
section
variable {T : TC} {α : Type} [Rp α] {F F' : Hp} {r : List (Key × V)} {l : List (Int × α)}
/-- keys that are numbers, values told -/
inductive AlK (T : TC) (F : Hp) : List (Key × V) → List (Int × α) → Prop
  | nil : AlK T F [] []
  | cons {v : V} {i : Int} {a : α} {r : List (Key × V)} {l : List (Int × α)} (h : Rp.rep T F v a) (t : AlK T F r l) : AlK T F ((Sum.inl i, v) :: r) ((i, a) :: l)
theorem AlK.mono (e : Same F F') : ∀ {r : List (Key × V)} {l : List (Int × α)}, AlK T F r l → AlK T F' r l
  | _, _, .nil => .nil
  | _, _, .cons h t => .cons (Rp.mono e h) (AlK.mono e t)
theorem AlK.len : ∀ {r : List (Key × V)} {l : List (Int × α)}, AlK T F r l → r.length = l.length
  | _, _, .nil => rfl
  | _, _, .cons _ t => by rw [List.length_cons, List.length_cons, AlK.len t]
theorem AlK.get {i : Int} {a : α} : ∀ {r : List (Key × V)} {l : List (Int × α)}, AlK T F r l → l.lookup i = some a → ∃ v, valV r (Sum.inl i : Key) = some v ∧ Rp.rep T F v a
  | _, _, .nil, e => by cases e
  | _, _, .cons (i := j) (a := b) h t, e => by
    rw [List.lookup_cons] at e
    by_cases c : i = j
    · subst c
      rw [beq_self_eq_true] at e
      cases e
      exact ⟨_, valV_pos rfl, h⟩
    · rw [show (i == j) = false from by simpa using c] at e
      obtain ⟨v, h1, h2⟩ := AlK.get t e
      exact ⟨v, (valV_neg (fun z => c (Sum.inl.inj z).symm)).trans h1, h2⟩
/-- written in its place, or at the end -/
def iput (l : List (Int × α)) (k : Int) (v : α) : List (Int × α) := if (l.any fun p => decide (p.1 = k)) = true then l.map (fun p => if p.1 = k then (p.1, v) else p) else l ++ [(k, v)]
theorem AlK.any {i : Int} : ∀ {r : List (Key × V)} {l : List (Int × α)}, AlK T F r l → (r.any fun kv => decide (kv.1 = (Sum.inl i : Key))) = (l.any fun p => decide (p.1 = i))
  | _, _, .nil => rfl
  | _, _, .cons (i := j) h t => by
    rw [List.any_cons, List.any_cons, AlK.any t]
    congr 1
    exact decide_eq_decide.mpr ⟨fun z => Sum.inl.inj z, fun z => congrArg Sum.inl z⟩
theorem AlK.sub {i : Int} {v : V} {a : α} (hv : Rp.rep T F v a) : ∀ {r : List (Key × V)} {l : List (Int × α)}, AlK T F r l → AlK T F (r.map fun kv => if kv.1 = (Sum.inl i : Key) then (kv.1, v) else kv) (l.map fun p => if p.1 = i then (p.1, a) else p)
  | _, _, .nil => .nil
  | _, _, .cons (v := w) (i := j) (a := b) h t => by
    rw [List.map_cons, List.map_cons]
    by_cases c : j = i
    · subst c
      rw [if_pos rfl, if_pos rfl]
      exact .cons hv (AlK.sub hv t)
    · rw [if_neg (fun z => c (Sum.inl.inj z)), if_neg c]
      exact .cons h (AlK.sub hv t)
theorem AlK.snoc {i : Int} {v : V} {a : α} (hv : Rp.rep T F v a) : ∀ {r : List (Key × V)} {l : List (Int × α)}, AlK T F r l → AlK T F (r ++ [(Sum.inl i, v)]) (l ++ [(i, a)])
  | _, _, .nil => .cons hv .nil
  | _, _, .cons h t => .cons h (AlK.snoc hv t)
theorem AlK.put {i : Int} {v : V} {a : α} (h : AlK T F r l) (hv : Rp.rep T F v a) : AlK T F (putK r (Sum.inl i : Key) v) (iput l i a) := by
  unfold putK iput
  rw [h.any (i := i)]
  split
  · exact h.sub hv
  · exact h.snoc hv
/-- a dict by numbers that changes -/
def intD (T : TC) {α : Type} [Rp α] (p : Addr) (l : List (Int × α)) : OA := ⟨fun F t => ∃ kvs, t p = some (.dK kvs) ∧ AlK T F kvs l, fun e ⟨kvs, h1, h2⟩ => ⟨kvs, h1, h2.mono e⟩⟩
end
section
variable {T : TC} {Γ : List (Option VA)} {Ω Ω1 Ω2 Ω3 : List OA} {A B C : VA} {ta tb te tk tv : TE} {D : Ends} {F0 : Hp} {ts : TS} {α : Type} [Rp α]
end
section
variable {T : TC} {Γ : List (Option VA)} {Ω Ω1 Ω2 : List OA} {ta tb : TE}
end
end VL

set_option Elab.async false
set_option linter.all false
set_option maxRecDepth 100000
/-! VL48: and, or with a first part that changes a thing. -/
namespace VL
open PySem L2
section
variable {T : TC} {Γ : List (Option VA)} {Ω Ω1 Ω2 : List OA} {ta tb : TE} {b c : Bool}
end
end VL

set_option Elab.async false
set_option linter.all false
set_option maxRecDepth 100000
/-! VL49: the second and the third thing of a triple; the triple without its first thing. -/
namespace VL
open PySem L2
section
variable {T : TC} {Γ : List (Option VA)} {Ω Ω1 Ω2 : List OA} {te ta tb : TE} {α β γ : Type} [Rp α] [Rp β] [Rp γ]
end
end VL

set_option Elab.async false
set_option linter.all false
set_option maxRecDepth 100000
/-! VL50: for over a list of two machines; a test whose first part is known to fail. -/
namespace VL
open PySem L2 PyProof.Rows
section
variable {T : TC} {Γ : List (Option VA)} {Ω Ω1 Ω2 : List OA} {te ta tb : TE} {t u : TT} {q1 q2 : Addr}
/-- the two things, one behind the other -/
def oneOf (q1 q2 : Addr) (b : Bool) : VA := vr (cond b q2 q1)
def tNoT : TT := fun _ _ _ => False
end
end VL

set_option Elab.async false
set_option linter.all false
set_option maxRecDepth 100000
set_option maxHeartbeats 2000000
/-! VL51: the program's own exceptions over ArithmeticError that have an __init__ of their own: C(text), its field read in a clause. -/
namespace VL
open PySem PySem.Spec PyProof.Rows L2
/-- C: the class at C, its __init__ at fI, its field f; the class above it at B0 -/
structure IxC (K : PySem.W.Frag) (C B0 fI : Addr) (f : Str) : Prop where
  ini : PySem.W.excInitIn K C aeBase "ArithmeticError.__new__" = true
  ovr : PySem.W.excOver K C aeBase = true
  hdC : PySem.W.hasDictIn K C = true
  tkr : PySem.W.takerIn K C f = some none
  iC : PySem.W.findIn K (.ref C) "__init__" = some (some (.ref fI))
  tI : PySem.W.typeIn K (.ref fI) = some (.type "function")
  sa : PySem.W.findIn K (.ref C) "__setattr__" = some (some (.builtin "object.__setattr__"))
  exC : PySem.W.subIn K (.ref C) (.type "BaseException") = some true
  tyC : PySem.W.typeIn K (.ref C) = some (.type "type")
  kC : PySem.W.keepIn K (.ref C) = true
  xf : xfB K C = true
  no : PySem.W.findIn K (.ref C) f = some none
  b1 : PySem.W.specialIn K (.ref B0) "__getattribute__" = some (some (.builtin "type.__getattribute__"))
  b2 : PySem.W.readsIn K B0 (.type "type") = true
  b3 : PySem.W.findCls K (.ref B0) (.type "type") "__init__" = some (.val (.builtin "ArithmeticError.__init__"))
  k0 : PySem.W.keepIn K (.ref B0) = true
section
variable {X : Cx} {pins : List (Addr × Obj)} {σ : L2.St} {H : Hp} {s : Shared} {a C B0 fI : Addr} {f : Str} {y : V} {u : Value} {A : Around} {EE : Value → Shared → Prop}
end
section
variable {X : Cx} {C B0 fI : Addr} {f xb : Str} {o e : Expr} {es : List Expr} {to te : TE} {ta : TA} {p p' p1 p2 pos : Pos}
/-- B.__init__(self, ..) -/
def tIxI (ta : TA) (C : Addr) : TE := fun σ H Q => ta σ H fun vs H1 => ∃ (a : Addr) (ws : List V), vs = .ref a :: ws ∧ ws.length ≤ 1000 ∧ H1 a = some (exo a C none) ∧ Q .non H1
/-- self.f = e -/
def tIxS (f : Str) (C : Addr) (to te : TE) : TS := fun D σ H => te σ H fun y H1 => to σ H1 fun x H2 => ∃ a : Addr, x = .ref a ∧ H2 a = some (exo a C none) ∧ ∀ dx, H2 dx = none → dx ≠ a → D.nx σ (upd (upd H2 dx (exd dx [(f, y)])) a (exo a C (some dx)))
/-- what __init__ makes -/
def spIx (C : Addr) (f : Str) : Sp := fun vs H Q _ => ∃ (a : Addr) (x : Str), vs = [.ref a, .str x] ∧ x.length ≤ 100 ∧ H a = some (exo a C none) ∧ ∀ H1 d, Same H H1 → H d = none → d ≠ a → Q .non (upd (upd H1 d (exd d [(f, .str x)])) a (exo a C (some d)))
/-- C(e) -/
def tMkX (C : Addr) (f : Str) (ta : TA) : L2.St → Hp → XK → Prop := fun σ H Q => ta σ H fun vs H1 => ∃ x : Str, vs = [.str x] ∧ x.length ≤ 100 ∧ ∀ H3 d, Same H1 H3 → H1 d = none → H3 d = some (.xd [(f, .str x)]) → Q (.ref C) (some d) H3
end
end VL

set_option Elab.async false
set_option linter.all false
set_option maxRecDepth 100000
set_option maxHeartbeats 2000000
/-! VL52: several except clauses, with and without a name; defs that raise exceptions with a field. -/
namespace VL
open PySem PySem.Spec PyProof.Rows L2
/-- the ends of a suite whose name stands in slot i -/
def Ends.un (D : Ends) : Option Nat → Ends
  | none => D
  | some i => { nx := fun σ' H' => D.nx (σ'.set i none) H', rt := D.rt, bk := fun σ' H' => D.bk (σ'.set i none) H', ct := fun σ' H' => D.ct (σ'.set i none) H' }
def sSet (σ : L2.St) (a : Addr) : Option Nat → L2.St
  | none => σ
  | some i => σ.set i (some (.ref a))
/-- a clause: its class, its name's slot, its suite -/
structure Cla where
  c : Value
  o : Option Nat
  ts : Addr → Value → Option Addr → TS
def wCl (K : PySem.W.Frag) (Wo : WX) (D : Ends) : List Cla → WX
  | [] => Wo
  | k :: r => fun cls d σ H => ∃ b, PySem.W.exmOne K cls k.c = some b ∧ (b = true → ∀ a, H a = none → k.ts a cls d (Ends.un D k.o) (sSet σ a k.o) H) ∧ (b = false → wCl K Wo D r cls d σ H)
/-- the clauses' derivations -/
inductive ClOk (X : Cx) : List ExceptHandler → List Cla → Prop
  | nil : ClOk X [] []
  | plain {x : Str} {k : Value} {ts : Addr → Value → Option Addr → TS} {st : Stmt} {su : List Stmt} {np pp : Pos} {hs : List ExceptHandler} {l : List Cla} (hk : Names X x k)
      (hb : ∀ (a : Addr) (oe : Obj) (cls : Value) (d : Option Addr) (pn : List (Addr × Obj)), Zc cls d oe → (∃ vs, oe.data = .fields vs) → PSs (X.suite a ((a, oe) :: pn)) (st :: su) (ts a cls d)) (r : ClOk X hs l) :
      ClOk X (.ExceptHandler (some (.Name x np)) none (st :: su) pp :: hs) (⟨k, none, ts⟩ :: l)
  | named {x n : Str} {k : Value} {i : Nat} {ts : Addr → Value → Option Addr → TS} {st : Stmt} {su : List Stmt} {np pp : Pos} {hs : List ExceptHandler} {l : List Cla} (hN : X.N.Nodup) (hi : X.N[i]? = some n) (hl : X.env.kindOf n = some .local) (hk : Names X x k)
      (hb : ∀ (a : Addr) (oe : Obj) (cls : Value) (d : Option Addr) (pn : List (Addr × Obj)), Zc cls d oe → (∃ vs, oe.data = .fields vs) → PSs (X.suite a ((a, oe) :: pn)) (st :: su) (ts a cls d)) (r : ClOk X hs l) :
      ClOk X (.ExceptHandler (some (.Name x np)) (some n) (st :: su) pp :: hs) (⟨k, some i, ts⟩ :: l)
section
variable {X : Cx} {body : List Stmt} {g0 : ExceptHandler} {gs : List ExceptHandler} {l : List Cla} {pos : Pos} {tb : WX → TS} {Wo : WX}
end
end VL

set_option Elab.async false
set_option linter.all false
set_option maxRecDepth 100000
set_option maxHeartbeats 2000000
/-! VL53: which exception is raised, with its field's text; f-strings of texts; an exception's __init__. -/
namespace VL
open PySem PySem.Spec PyProof.Rows L2
/-- an exception: the class's number, and the field with its text -/
inductive XC where
  | z (k : Nat)
  | f (k : Nat) (fl x : Str)
def XC.k : XC → Nat
  | .z k => k
  | .f k _ _ => k
def RCf (T : TC) (r : XC) (F : Hp) (c : Value) (d : Option Addr) : Prop := c = .ref (T.C (300 + r.k)) ∧ match r with | .z _ => True | .f _ fl x => ∃ a, d = some a ∧ F a = some (.xd [(fl, .str x)])
theorem RCf.mono {T : TC} {r : XC} {F F' : Hp} {c : Value} {d : Option Addr} (e : Same F F') (h : RCf T r F c d) : RCf T r F' c d := by
  cases r with
  | z k => exact h
  | f k fl x => obtain ⟨h1, a, h2, h3⟩ := h; exact ⟨h1, a, h2, e _ _ h3⟩
abbrev RQ (T : TC) (r : XC) (Ω2 : List OA) : Hp → Value → Option Addr → List OA → Prop := fun F c d Ω' => RCf T r F c d ∧ Ω' = Ω2
/-- the wish W takes such an exception at such slots in such a state -/
def WTC (W : WX) (T : TC) (r : XC) (F0 : Hp) (Γ : List (Option VA)) (Ω : List OA) : Prop := ∀ F c d σ H, Same F0 F → Env F σ Γ → Holds F Ω H → RCf T r F c d → W c d σ H
section
variable {T : TC} {Γ Γ' : List (Option VA)} {Ω Ω' Ω1 Ω2 : List OA} {A : VA} {As : List VA} {te : TE} {t ta : TA} {D : Ends} {F0 F1 : Hp} {W Wo : WX} {Pre : PreT} {PreX : PreXX} {E : XK} {r : XC} {K : PySem.W.Frag} {l : List Cla}
theorem WTC.up (e : Same F0 F1) (h : WTC W T r F0 Γ Ω) : WTC W T r F1 Γ Ω := fun F c d σ H f => h F c d σ H (e.trans f)
/-! raise C(text) -/
def tRx (C : Addr) (f : Str) (ta : TA) (W : WX) : TS := fun _ σ H => tMkX C f ta σ H fun cls d H' => W cls d σ H'
/-- a caught exception with its field -/
def excA (a dd : Addr) (fl x : Str) : VA := ⟨fun F v => v = .ref a ∧ F dd = some (.xd [(fl, .str x)]), fun e h => ⟨h.1, e _ _ h.2⟩⟩
/-- try: .. several clauses -/
def tTryC (K : PySem.W.Frag) (l : List Cla) (tb : WX → TS) (Wo : WX) : TS := fun D σ H => tb (wCl K Wo D l) D σ H
/-! an exception's __init__: the class above is told a text, the field is stored -/
/-- at a: an exception without a dict -/
def exoA (a C : Addr) : VA := ⟨fun F v => v = .ref a ∧ F a = some (exo a C none), fun e h => ⟨h.1, e _ _ h.2⟩⟩
end
end VL

set_option Elab.async false
set_option linter.all false
set_option maxRecDepth 100000
set_option maxHeartbeats 2000000
/-! VL54: a lambda as a value; a def that is handed one and calls it within a try. -/
namespace VL
open PySem PySem.Spec PyProof.Rows L2 LamX
/-- an object that stands as it is -/
def LamO (f : Addr) (o : Obj) : HO := .ext fun h => h.get? f = some o
/-- at f: the lambda with such a body, made in X -/
inductive LamIs (X : Cx) (params : Arguments) (body : Expr) (scope : Scope) (c' f : Addr) (H : Hp) : Prop
  | plain {pm ctv : Value} (h : H f = some (LamO f (PySem.W.kla_obj "<lambda>" (X.env.qual ++ "<lambda>") params body scope (cloFrom X.env.cells scope.names []) pm c' ctv)))
      (L : LamS X.env.scope scope) (hb : ∀ (q : Str) (cl : List (Str × Addr)) (pm cv ctv : Value), bindArgs (PySem.W.kla_fn "<lambda>" q params body scope cl pm cv ctv) ⟨[], []⟩ = pure [])
  | dflt {nm : Str} {T0 : Addr} {doc pm ctv : Value} {iv : Int} {t : Tok} (h : H f = some (LamO f (PySem.W.kdv_obj "<lambda>" (X.env.qual ++ "<lambda>") params (.expr body) scope (cloFrom X.env.cells scope.names []) (.ref T0) doc pm c' ctv)))
      (hT : H T0 = some (LamO T0 (PySem.W.kdv_tup [.int iv t]))) (L : LamSD X.N nm X.env.scope scope)
      (hb : ∀ (q : Str) (cl : List (Str × Addr)) (T0 : Addr) (doc pm cv ctv : Value) (t : Tok) (s : Shared), s.heap.get? T0 = some (PySem.W.kdv_tup [.int iv t]) → BindsTo s (PySem.W.kdv_fn "<lambda>" q params (.expr body) scope cl (.ref T0) doc pm cv ctv) ⟨[], []⟩ [(nm, .int iv t)])
theorem LamIs.mono {X : Cx} {params : Arguments} {body : Expr} {scope : Scope} {c' f : Addr} {H H' : Hp} (e : Same H H') (h : LamIs X params body scope c' f H) : LamIs X params body scope c' f H' := by
  cases h with
  | plain h L hb => exact .plain (e _ _ h) L hb
  | dflt h hT L hb => exact .dflt (e _ _ h) (e _ _ hT) L hb
/-- a lambda's text and reading -/
structure LamPk (X : Cx) (kl : Nat) where
  params : Arguments
  body : Expr
  scope : Scope
  tb : XK → TE
  hbody : ∀ (E : XK) (A : Around) (outer : List PySem.Env) (s : Shared) (H : Hp) (f c' : Addr), Room kl (A.deeper (lamEnv X scope s.heap.objs.size f c')) → PE (lamCx X A outer s H E scope f c') body (tb E)
abbrev lamQ (X : Cx) : Str := X.env.qual ++ "<lambda>"
def LamPk.at {X : Cx} {kl : Nat} (L : LamPk X kl) (c' f : Addr) (H : Hp) : Prop := LamIs X L.params L.body L.scope c' f H ∧ H c' = some (CodeO c' (lamQ X))
/-- what a call makes, at the slots σ of the frame that made the lambda -/
def LamPk.act {X : Cx} {kl : Nat} (L : LamPk X kl) (c' f : Addr) (σ : L2.St) : XK → Hp → VK → Prop := fun E H Q => L.at c' f H ∧ L.tb E σ H Q
def tActX (i : Nat) (f : Addr) (act : XK → Hp → VK → Prop) (W : WX) : TE := fun σ H Q => σ[i]? = some (some (.ref f)) ∧ act (WE W σ) H Q
section
variable {X : Cx} {pins : List (Addr × Obj)} {σ : L2.St} {H : Hp} {s : Shared}
end
/-! ### a def that is handed a lambda, and calls it within a try -/
def ActHX (P : Program) (w : World) (K : PySem.W.Frag) (mg : Str → Option Value) (base : Heap) (k : Nat) (A : Around) (outer : List PySem.Env) (s : Shared) (H : Hp) (f : Addr) (act : XK → Hp → VK → Prop) : Prop :=
  ∀ (Ng : List Str) (qg : Str) (sg : Scope) (g : Addr) (cdg : Value) (i : Nat) (a : Str) (p1 p2 : Pos) (pn : List (Addr × Obj)) (xe : Value → Shared → Prop) (W : WX), Room (k + 1) (A.deeper (envOfC qg sg s.heap.objs.size g cdg)) → Ng[i]? = some a → Vis sg a → (a == ("__debug__" : Str)) = false → (a == ("__classdict__" : Str)) = false →
    Takes ((cxOf CX0 P w K mg base Ng qg sg g cdg A outer s H E0).tr pn xe) W → PE ((cxOf CX0 P w K mg base Ng qg sg g cdg A outer s H E0).tr pn xe) (.Call (.Name a p1) [] [] p2) (tActX i f act W)
abbrev PreLX := Addr → (XK → Hp → VK → Prop) → PreT
structure CalLX (P : Program) (w : World) (K : PySem.W.Frag) (mg : Str → Option Value) (base : Heap) (kl k : Nat) (x : Str) (ps : List Str) (Pre : PreLX) : Prop where
  ex : ∃ g fd, mg x = some (.ref g) ∧ PySem.W.keepIn K (.ref g) = true ∧ Binds K fd ps [] ∧ (∀ f act As Ω R, Pre f act As Ω R → As.length = ps.length) ∧
    ∀ (A : Around) (outer : List PySem.Env) (s : Shared) (H : Hp) (us : List Value) (vs : List V) (Q : VK) (f : Addr) (act : XK → Hp → VK → Prop), Room k A → Env0 P w K mg base A outer s H → BindsTo s fd ⟨us, []⟩ (ps.zip us) → Vals vs us →
      ActHX P w K mg base kl A outer s H f act → mkSp (Pre f act) vs H Q E0 → codeAny (model P w) A (.call (.ref g) ⟨us, []⟩) (CR CX0 outer P w H s Q E0) s
section
variable {P : Program} {w : World} {K : PySem.W.Frag} {mg : Str → Option Value} {base : Heap}
end
/-- x(e), e's value a lambda of this frame -/
def tCallLX (X : Cx) (kl : Nat) (Pre : PreLX) (ta : TA) : TE := fun σ H Q => ta σ H fun vs H1 => ∃ (Lm : LamPk X kl) (f c' : Addr), vs = [.ref f] ∧ Lm.at c' f H1 ∧ mkSp (Pre f (Lm.act c' f σ)) [.ref f] H1 Q E0
section
variable {X : Cx}
end
end VL

set_option Elab.async false
set_option linter.all false
set_option maxRecDepth 100000
set_option maxHeartbeats 2000000
/-! VL55: a lambda's making; what a call of it makes, told by the exception it raises; raise C(text). -/
namespace VL
open PySem PySem.Spec PyProof.Rows L2 LamX
/-- a lambda of X -/
def lamV (X : Cx) {kl : Nat} (Lm : LamPk X kl) : VA := ⟨fun F v => ∃ f c', v = .ref f ∧ Lm.at c' f F, fun e ⟨f, c', h1, h2, h3⟩ => ⟨f, c', h1, h2.mono e, e _ _ h3⟩⟩
/-- a lambda expression: the table at P -/
def tLamV (X : Cx) {kl : Nat} (Lm : LamPk X kl) (P : Addr) : TE := fun σ H Q => (∃ ps : Array Value, H P = some (.tbl ps) ∧ TriplesOk ps.toList ∧ ∀ (pos : Pos) (cv : Value), codeAmong pos ps.toList = some cv → ∃ c, cv = .ref c ∧ H c = some (CodeO c (lamQ X))) ∧
  ∀ (f c' : Addr) (H2 : Hp), (∀ (F : Hp) (Ω : List OA) (l : List (Addr × Str)) (kt : Nat), Holds F Ω H → Ω[kt]? = some (tabA l) → (P, lamQ X) ∈ l → (∀ p ∈ l, p.1 = P → p.2 = lamQ X) → ∃ F2, Same F F2 ∧ Holds F2 Ω H2 ∧ Lm.at c' f F2) → Q (.ref f) H2
section
variable {X : Cx} {kl : Nat}
end
section
variable {X : Cx} {kl : Nat} {T : TC} {Γ : List (Option VA)} {Ω Ω1 Ω2 Ω' : List OA} {A : VA} {F0 : Hp} {D : Ends} {W : WX}
/-- the parameter's value: a lambda that raises r, or returns in Ω' -/
def askX (T : TC) (f : Addr) (act : XK → Hp → VK → Prop) (Ω Ω' : List OA) (o : Option XC) : VA :=
  ⟨fun F v => v = .ref f ∧ ∀ F1 H1, Same F F1 → Holds F1 Ω H1 → ∀ (E : XK) (Q : VK),
      (∀ r, o = some r → ∀ F2 c d H2, Same F1 F2 → Holds F2 Ω H2 → RCf T r F2 c d → E c d H2) → (o = none → ∀ F2 v H2, Same F1 F2 → Holds F2 Ω' H2 → Q v H2) → act E H1 Q,
   fun e ⟨h1, h2⟩ => ⟨h1, fun F1 H1 e1 => h2 F1 H1 (e.trans e1)⟩⟩
def anyA : VA := ⟨fun _ _ => True, fun _ _ => True.intro⟩
/-- what a call of the lambda makes -/
def Outc (T : TC) (Γ : List (Option VA)) (Ω Ω' : List OA) (tb : XK → TE) (o : Option XC) : Prop :=
  match o with
  | some r => ∀ (E : XK) (F1 : Hp), (∀ F2 c d H2, Same F1 F2 → Holds F2 Ω H2 → RCf T r F2 c d → E c d H2) → XR (tb E) F1 Γ Ω
  | none => ∀ E : XK, ∃ B : VA, XE (tb E) Γ Ω B Ω'
end
/-! ### raise C(text) -/
/-- C(text) may be made -/
structure MkC (P : Program) (w : World) (K : PySem.W.Frag) (mg : Str → Option Value) (base : Heap) (k : Nat) (x : Str) (C : Addr) (f : Str) : Prop where
  ex : ∃ B0 fI fd, IxC K C B0 fI f ∧ FnOk P w K mg base CX0 k fI fd ["self", f] (spIx C f) ∧ Binds K fd ["self", f] [] ∧ mg x = some (.ref C)
section
variable {X : Cx} {W : WX}
end
end VL

set_option Elab.async false
set_option linter.all false
set_option maxRecDepth 100000
set_option maxHeartbeats 2000000
/-! VL56: values of any kind, told by what they are not; lists of them; deep lists. -/
namespace VL
open PySem PySem.Spec PyProof.Rows L2
/-- A's values have the type t -/
def TyA (T : TC) (Ω : List OA) (A : VA) (t : Value) : Prop := ∀ F H v, Holds F Ω H → A.P F v → TyX T.K H v t
/-- A's values are none of the class u -/
def NoC (T : TC) (Ω : List OA) (A : VA) (u : Value) : Prop := ∀ F H v, Holds F Ω H → A.P F v → ∃ t, TyX T.K H v t ∧ PySem.W.kitOne T.K t u = some false
section
variable {T : TC} {Γ : List (Option VA)} {Ω Ω1 Ω2 : List OA} {A B : VA} {u t : Value} {ta tc te : TE}
/-! lists of any values -/
def lsA (As : List VA) : VA := ⟨fun F v => ∃ p vs, v = .ref p ∧ F p = some (.lst vs) ∧ AlA F vs As, fun e ⟨p, vs, h1, h2, h3⟩ => ⟨p, vs, h1, e _ _ h2, h3.mono e⟩⟩
end
/-- a list of one thing that is not looked at -/
inductive DP where
  | mk
instance : Rp DP := ⟨fun _ F v _ => ∃ p x, v = .ref p ∧ F p = some (.lst [x]), fun e ⟨p, x, h1, h2⟩ => ⟨p, x, h1, e _ _ h2⟩⟩
section
variable {T : TC} {Γ : List (Option VA)} {Ω Ω1 : List OA} {A : VA} {ta : TE}
end
/-- all are done -/
def allN {α β : Type} (b : α → Option β) : List α → Option Unit
  | [] => some ()
  | a :: l => (b a).bind fun _ => allN b l
section
variable {T : TC} {Γ : List (Option VA)} {Ω O : List OA} {D : Ends} {F0 : Hp} {wi : L2.TI} {tb ts : TS} {k : Nat} {As : List VA} {G : List (Option VA)}
/-- what a turn may rely on -/
abbrev Turn (F1 : Hp) (D' : Ends) (G : List (Option VA)) (O : List OA) : Prop := To D' F1 (Stp.nx () : Stp Unit Unit) (fun _ => NX F1 G O) (fun _ => NX F1 G O) (fun _ _ _ _ => False)
/-- an element: of any kind, or an int, a truth, a number -/
def Kin (T : TC) (P : VA → Prop) (QI : Int → Prop) (QB : Bool → Prop) (QG : Bg → Prop) (a : VA) : Prop := P a ∨ (∃ i : Int, a = va T i ∧ QI i) ∨ (∃ b : Bool, a = va T b ∧ QB b) ∨ ∃ x : Bg, a = va T x ∧ QG x
end
end VL

set_option Elab.async false
set_option linter.all false
set_option maxRecDepth 100000
set_option maxHeartbeats 2000000
/-! VL57: which exception, asked in a mirror; a def with several promises; tests known by their first part. -/
namespace VL
open PySem PySem.Spec PyProof.Rows L2
instance : Dat (EN Str) := ⟨fun x => match x with | .ok a => .str a | .no => .none, fun x => match x with | .ok a => (PyData.str a).canLay0 = true | .no => True, 0, fun {T F H v a} e h => by
    cases a with
    | ok a => rw [show v = V.str a from h]; exact .str _
    | no => rw [show v = V.non from h]; exact .non, fun {a} h => by
    cases a with
    | ok a => exact h
    | no => rfl, fun {a} => by
    cases a with
    | ok a => exact Nat.le_refl _
    | no => exact Nat.le_refl _, fun {a b} => by
    cases a <;> cases b
    · exact (Dat.eqv (α := Str)).trans ⟨fun h => by rw [h], fun h => EN.ok.inj h⟩
    · exact ⟨fun h => (Bool.false_ne_true (show false = true from h)).elim, fun h => nomatch h⟩
    · exact ⟨fun h => (Bool.false_ne_true (show false = true from h)).elim, fun h => nomatch h⟩
    · exact ⟨fun _ => rfl, fun _ => rfl⟩⟩
def onC {β : Type} (o : Option XC) (s : XC → Option β) (n : Option β) : Option β := match o with | some r => s r | none => n
/-- the field's text, of an exception of the class c with the field fl -/
def XC.isF (c : Nat) (fl : Str) : XC → Option Str
  | .f k g x => if k = c ∧ g = fl then some x else none
  | .z _ => none
def XC.isZ (c : Nat) : XC → Bool
  | .f _ _ _ => false
  | .z k => k == c
def onF {β : Type} (o : Option Str) (s : Str → Option β) (n : Option β) : Option β := match o with | some x => s x | none => n
section
variable {T : TC} {Γ : List (Option VA)} {Ω Ω1 Ω2 : List OA} {A : VA} {As : List VA} {t : TA} {tu u : TT} {F0 : Hp} {W : WX} {Pre : PreT} {PreX : PreXX} {E : XK} {r : XC} {sp : Sp}
def tNeverE : TE := fun _ _ _ => False
end
section
variable {P : Program} {w : World} {K : PySem.W.Frag} {mg : Str → Option Value} {base : Heap}
end
section
variable {X : Cx} {body : List Stmt} {g0 : ExceptHandler} {gs : List ExceptHandler} {l : List Cla} {pos : Pos} {tb : WX → TS} {K : PySem.W.Frag}
end
end VL
namespace VL
open PySem PySem.Spec PyProof.Rows L2
section
variable {X : Cx} {kl : Nat}
end
end VL

set_option Elab.async false
set_option linter.all false
set_option maxRecDepth 100000
set_option maxHeartbeats 2000000
/-! VL58: a lambda may be called as long as the cells of its frame are kept, whatever runs in between. -/
namespace VL
open PySem PySem.Spec PyProof.Rows L2 LamX
/-- the cells that stood, untracked, stand as they did -/
def Cells (H0 H1 : Hp) (h0 h1 : Heap) : Prop := ∀ (c : Addr) (v : Option Value), H0 c = none → h0.IsCell c v → h1.IsCell c v ∧ H1 c = none
theorem Cells.trans {H0 H1 H2 : Hp} {h0 h1 h2 : Heap} (a : Cells H0 H1 h0 h1) (b : Cells H1 H2 h1 h2) : Cells H0 H2 h0 h2 := fun c v n i => let ⟨i1, n1⟩ := a c v n i; b c v n1 i1
section
variable {X : Cx} {pins : List (Addr × Obj)} {σ : L2.St} {H0 HZ : Hp} {s0 s1 : Shared}
end
/-- f may be called in any later state that keeps the cells -/
def CanCall (P : Program) (w : World) (K : PySem.W.Frag) (mg : Str → Option Value) (base : Heap) (k : Nat) (H0 : Hp) (h0 : Heap) (f : Addr) (act : XK → Hp → VK → Prop) : Prop :=
  ∀ (A : Around) (outer : List PySem.Env) (s1 : Shared) (H1 : Hp) (E : XK) (Q : VK), Room (k + 1) A → Env0 P w K mg base A outer s1 H1 → Cells H0 H1 h0 s1.heap → act E H1 Q →
    (∃ e1 e2 e3 e4, s1.heap.get? f = some ⟨e1, e2, .func e3, e4⟩) ∧ codeAny (model P w) A (.call (.ref f) ⟨[], []⟩) (CR (L2.CX P w) outer P w H1 s1 Q E) s1
theorem CanCall.later {P : Program} {w : World} {K : PySem.W.Frag} {mg : Str → Option Value} {base : Heap} {k : Nat} {H0 H1 : Hp} {h0 h1 : Heap} {f : Addr} {act : XK → Hp → VK → Prop} (c : CanCall P w K mg base k H0 h0 f act) (kc : Cells H0 H1 h0 h1) : CanCall P w K mg base k H1 h1 f act :=
  fun A outer s1 H E Q hr e0 k2 ha => c A outer s1 H E Q hr e0 (kc.trans k2) ha
section
variable {X : Cx} {pins : List (Addr × Obj)} {σ : L2.St} {H : Hp} {s : Shared}
end
end VL

set_option Elab.async false
set_option linter.all false
set_option maxRecDepth 100000
set_option maxHeartbeats 2000000
/-! VL59: a list comprehension whose parts may rely on the state of the frame at its start: a lambda of that frame is called in it. -/
namespace VL
open PySem PySem.Spec PyProof.Rows L2 LamX
/-- where the block starts: the frame at s, the iterator's own objects at fp -/
def BlkAt (X : Cx) (σ : L2.St) (s : Shared) (H : Hp) (fp : List Addr) : Prop := (∃ pins, Inv X pins σ H s) ∧ ∀ b ∈ fp, ∀ v, ¬ s.heap.IsCell b v
/-- an expression at slots that agree with σ but for vs -/
def PEr (X : Cx) (vs : List Nat) (σ : L2.St) (e : Expr) (t : TE) : Prop := ∀ (pins : List (Addr × Obj)) (s : Shared) (τ : L2.St) (H : Hp) (Q : VK), wipe τ vs = wipe σ vs → Inv X pins τ H s → t τ H Q → wpAny (model X.prog X.w) X.A (eval e X.env) (EP X pins τ Q) X.xe s
def PTr (X : Cx) (vs : List Nat) (σ : L2.St) (ifs : List Expr) (t : TT) : Prop := ∀ (pins : List (Addr × Obj)) (s : Shared) (τ : L2.St) (H : Hp) (Q : Bool → Hp → Prop), wipe τ vs = wipe σ vs → Inv X pins τ H s → t τ H Q →
  wpAny (model X.prog X.w) X.A (forIn ifs true fun c r => if r = true then do let ok ← isTrue c X.env (eval c X.env); pure (ForInStep.yield ok) else pure (ForInStep.yield r)) (TP X pins τ Q) X.xe s
theorem PTr.of {X : Cx} {vs : List Nat} {σ : L2.St} {ifs : List Expr} {t : TT} (h : PTs X ifs t) : PTr X vs σ ifs t := fun pins s τ H Q _ I ht => h.run pins s τ H Q I ht
theorem PEr.of {X : Cx} {vs : List Nat} {σ : L2.St} {e : Expr} {t : TE} (h : PE X e t) : PEr X vs σ e t := fun pins s τ H Q _ I ht => h.run pins s τ H Q I ht
section
variable {X : Cx}
end
/-- f(x) in a block: x's value a lambda of the frame ahead -/
def tCallBX (X : Cx) (kl : Nat) (vs : List Nat) (Pre : PreLX) (i : Nat) : TE := fun τ H Q => ∃ (Lm : LamPk X kl) (f c' : Addr), τ[i]? = some (some (.ref f)) ∧ Lm.at c' f H ∧ mkSp (Pre f (Lm.act c' f (wipe τ vs))) [.ref f] H Q E0
section
variable {X : Cx}
end
end VL

set_option Elab.async false
set_option linter.all false
set_option maxRecDepth 100000
set_option maxHeartbeats 2000000
/-! VL60: a lambda with a default as a value; lists of lambdas, walked by a comprehension that tries each. -/
namespace VL
open PySem PySem.Spec PyProof.Rows L2 LamX
section
variable {X : Cx} {kl : Nat}
end
/-! lists of any values: joined -/
section
variable {T : TC} {Γ : List (Option VA)} {Ω Ω1 Ω2 Ω0 Ω' : List OA} {A B : VA} {u : Value} {ta tb te : TE} {As Bs : List VA} {D : Ends} {F0 : Hp}
/-- element by element -/
inductive Pw {γ : Type} (P : VA → γ → Prop) : List VA → List γ → Prop
  | nil : Pw P [] []
  | cons {A : VA} {y : γ} {As : List VA} {ys : List γ} (h : P A y) (t : Pw P As ys) : Pw P (A :: As) (y :: ys)
theorem Pw.len {γ : Type} {P : VA → γ → Prop} : ∀ {As : List VA} {ys : List γ}, Pw P As ys → As.length = ys.length
  | _, _, .nil => rfl
  | _, _, .cons _ t => by rw [List.length_cons, List.length_cons, t.len]
theorem Pw.zip {γ : Type} {P : VA → γ → Prop} : ∀ {As : List VA} {ys : List γ}, Pw P As ys → (As.zip ys).map (·.1) = As ∧ (As.zip ys).map (·.2) = ys ∧ ∀ z ∈ As.zip ys, P z.1 z.2
  | _, _, .nil => ⟨rfl, rfl, fun z h => nomatch h⟩
  | _, _, .cons h t => by
    obtain ⟨h1, h2, h3⟩ := t.zip
    refine ⟨by rw [List.zip_cons_cons, List.map_cons, h1], by rw [List.zip_cons_cons, List.map_cons, h2], fun z hz => ?_⟩
    rcases List.mem_cons.mp hz with rfl | hz
    · exact h
    · exact h3 z hz
end
section
variable {X : Cx} {kl : Nat} {T : TC} {Γ : List (Option VA)} {Ω Ω2 Ω' : List OA} {A : VA}
end
end VL

set_option Elab.async false
set_option linter.all false
set_option maxRecDepth 100000
set_option maxHeartbeats 2000000
/-! VL61: tuples of any values; deep lists or tuples; lists of a value or None. -/
namespace VL
open PySem PySem.Spec PyProof.Rows L2 LamX
section
variable {T : TC} {Γ : List (Option VA)} {Ω Ω1 Ω2 : List OA} {A B : VA} {u t : Value} {ta : TA} {te : TE}
def tpA (T : TC) (As : List VA) : VA := ⟨fun F v => ∃ p vs, v = .ref p ∧ SqT T.K F p vs ∧ AlA F vs As, fun e ⟨p, vs, h1, h2, h3⟩ => ⟨p, vs, h1, Same.tup e h2, h3.mono e⟩⟩
end
/-- a list or a tuple of things that are not looked at -/
inductive DX where
  | mk
instance : Rp DX := ⟨fun T F v _ => ∃ p vs, v = .ref p ∧ (F p = some (.lst vs) ∨ SqT T.K F p vs), fun e ⟨p, vs, h1, h2⟩ => ⟨p, vs, h1, h2.elim (fun h => .inl (e _ _ h)) fun h => .inr (Same.tup e h)⟩⟩
section
variable {T : TC} {Γ : List (Option VA)} {Ω Ω1 : List OA} {A : VA} {u : Value} {ta : TA} {te : TE}
end
section
variable {T : TC} {Γ : List (Option VA)} {Ω Ω1 : List OA} {te : TE} {α : Type} [Rp α]
end
section
variable {T : TC} {Γ : List (Option VA)} {Ω Ω1 Ω2 : List OA} {A : VA} {As : List VA} {t : TA} {sp : Sp} {Pre : PreT}
end
end VL

set_option Elab.async false
set_option linter.all false
set_option maxRecDepth 100000
set_option maxHeartbeats 2000000
/-! VL62: isinstance of a caught exception, with or without a dict; a raising call with a new machine ahead. -/
namespace VL
open PySem PySem.Spec PyProof.Rows L2 LamX
/-- what the class D of an exception must be -/
structure ExI (K : PySem.W.Frag) (D : Addr) : Prop where
  hc : (PySem.W.clsIn K D).isSome = true
  hg : PySem.W.findIn K (.ref D) "__getattribute__" = some (some (.builtin "BaseException.__getattribute__"))
  hk : PySem.W.findIn K (.ref D) "__getattr__" = some none
  hs : PySem.W.subIn K (.ref D) (.type "BaseException") = some true
  ha : PySem.W.findIn K (.ref D) "__class__" = some (some (.builtin "object.__class__"))
  hn : PySem.W.specialIn K (.builtin "object.__class__") "__get__" = some (some (.builtin "getset_descriptor.__get__"))
  ht : PySem.W.takesIn K (.builtin "object.__class__") = some true
  hm : PySem.W.mroIn K D (.type "object") = some true
/-- isinstance(e, c), e the exception caught: its class and its dict told by the wish -/
def rIsX (K : PySem.W.Frag) (cls : Value) (d : Option Addr) (a : Addr) : List V → Hp → VK → Prop := fun xs H Q =>
  ∃ (D : Addr) (c : V) (cv : Value) (b : Bool), cls = .ref D ∧ ExI K D ∧ xs = [.ref a, c] ∧ (∀ u, RelV c u → u = cv) ∧ PySem.W.kitOne K (.ref D) cv = some b ∧ (∀ dd, d = some dd → ∃ fs, H dd = some (.xd fs)) ∧ Q (.bl b) H
section
variable {X : Cx}
end
section
variable {T : TC} {Γ : List (Option VA)} {Ω Ω1 : List OA} {te tc : TE}
end
/-! a raising call with a new machine ahead -/
section
variable {T : TC} {Γ : List (Option VA)} {Ω Ω0 Ω1 : List OA} {sp : Sp} {PreX : PreXX} {t : TA} {ta : TE} {W : WX} {As : List VA} {r : XC} {F0 : Hp}
end
end VL

set_option Elab.async false
set_option linter.all false
set_option maxRecDepth 100000
set_option maxHeartbeats 2000000
/-! VL63: a dict of the program by numbers, read only. -/
namespace VL
open PySem PySem.Spec PyProof.Rows L2 LamX
/-- the written dict at d: these numbers, each with its value -/
structure IDict (K : PySem.W.Frag) (d : Addr) (kvs : List (Int × Int)) : Prop where
  ex : ∃ es n, K.lookup d = some ⟨.type "dict", none, .dict es n, #[]⟩ ∧ entB es.toList kvs = true
  low : (d == sysModules) = false
theorem idcB_ok {K : PySem.W.Frag} {d : Addr} {kvs : List (Int × Int)} (h : idcB K d kvs = true) : IDict K d kvs := by
  obtain ⟨h0, h⟩ := Bool.and_eq_true_iff.mp h
  refine ⟨?_, by cases q : d == sysModules with | false => rfl | true => rw [q] at h0; cases h0⟩
  cases q : K.lookup d with
  | none => rw [q] at h; cases h
  | some o =>
    obtain ⟨oc, od, dt, osl⟩ := o
    rw [q] at h
    split at h
    · rename_i c es n sl he
      cases he
      obtain ⟨h1, h⟩ := Bool.and_eq_true_iff.mp h
      obtain ⟨h2, h3⟩ := Bool.and_eq_true_iff.mp h
      obtain rfl := of_decide_eq_true h1
      obtain rfl := Array.isEmpty_iff.mp h2
      exact ⟨_, _, rfl, h3⟩
    · cases h
theorem ent_keys (P : Program) (w : World) : ∀ {l : List DictEntry} {kvs : List (Int × Int)}, entB l kvs = true → ∀ e ∈ l, ∃ k, (intKind P w).is k e.key = true ∧ e.hash = (intKind P w).hash k
  | [], _, _, _, m => nomatch m
  | e :: r, [], h, _, _ => nomatch h
  | e :: r, p :: q, h, x, m => by
    obtain ⟨h1, h⟩ := Bool.and_eq_true_iff.mp h
    obtain ⟨h2, h⟩ := Bool.and_eq_true_iff.mp h
    obtain ⟨h3, h4⟩ := Bool.and_eq_true_iff.mp h
    rcases List.mem_cons.mp m with rfl | m
    · obtain ⟨hash, key, val⟩ := x
      cases key with
      | int a t =>
        obtain rfl := of_decide_eq_true h1
        exact ⟨p.1, intKind_is P w p.1 t, of_decide_eq_true h3⟩
      | _ => cases h1
    · exact ent_keys P w h4 x m
def GetsI (o : Option Value) : Option Int → Prop
  | some v => ∃ t, o = some (.int v t)
  | none => o = none
theorem ent_find : ∀ {l : List DictEntry} {kvs : List (Int × Int)} (k : Int), entB l kvs = true → GetsI ((l.find? fun e => Value.isInt k e.key).map (·.val)) (kvs.lookup k)
  | [], [], k, _ => rfl
  | [], _ :: _, _, h => nomatch h
  | e :: r, [], _, h => nomatch h
  | e :: r, p :: q, k, h => by
    obtain ⟨h1, h⟩ := Bool.and_eq_true_iff.mp h
    obtain ⟨h2, h⟩ := Bool.and_eq_true_iff.mp h
    obtain ⟨h3, h4⟩ := Bool.and_eq_true_iff.mp h
    obtain ⟨hash, key, val⟩ := e
    obtain ⟨pk, pv⟩ := p
    cases key with
    | int a t =>
      obtain rfl : a = pk := of_decide_eq_true h1
      cases val with
      | int b u =>
        obtain rfl : b = pv := of_decide_eq_true h2
        by_cases z : k = a
        · subst z
          rw [List.lookup_cons, show (k == k) = true from beq_self_eq_true k]
          refine ⟨u, ?_⟩
          rw [List.find?_cons_of_pos (by simp [Value.isInt])]
          rfl
        · rw [List.lookup_cons, show (k == a) = false from beq_false_of_ne z]
          rw [List.find?_cons_of_neg (by simp [Value.isInt]; exact fun e => z e.symm)]
          exact ent_find k h4
      | _ => cases h2
    | _ => cases h1
section
variable {X : Cx} {d : Addr} {kvs : List (Int × Int)}
theorem IDict.map (D : IDict X.K d kvs) {h : Heap} (I : X.K.In h) : ∃ f, h.MapOf (intKind X.prog X.w) d f ∧ ∀ k, GetsI (f k) (kvs.lookup k) := by
  obtain ⟨es, n, hl, he⟩ := D.ex
  refine ⟨fun k => findBy Value.isInt es k, ⟨_, es, n, I _ _ hl, ⟨rfl, rfl, rfl⟩, rfl, fun e m => ent_keys _ _ he e (Array.mem_toList_iff.mpr m), fun _ => rfl⟩, fun k => ?_⟩
  have := ent_find k he
  obtain ⟨l⟩ := es
  show GetsI (findBy Value.isInt ⟨l⟩ k) _
  unfold findBy
  rw [List.find?_toArray]
  exact this
def rInID (d : Addr) (kvs : List (Int × Int)) (g : Bool → Bool) : R2 := fun x y H Q => ∃ i : Int, x = .int i ∧ y = .ref d ∧ Q (.bl (g (kvs.lookup i).isSome)) H
theorem some_of {o : Option Value} {q : Option Int} (h : GetsI o q) : o.isSome = q.isSome := by
  cases q with
  | none => rw [show o = none from h]; rfl
  | some v => obtain ⟨t, h⟩ := h; rw [h]; rfl
theorem op_notInID (D : IDict X.K d kvs) : OpR X (compareOp .NotIn) (rInID d kvs not) := by
  intro pins s σ H x y v u Q I rx ry h
  obtain ⟨i, rfl, rfl, q⟩ := h
  obtain ⟨t, rfl⟩ := (show ∃ t, v = Value.int i t from rx)
  cases ry
  obtain ⟨f, hm, hf⟩ := D.map I.kIn
  refine wpAny_notIn_of (intKind_is X.prog X.w i t) D.low hm ?_
  rw [some_of (hf i)]
  exact ⟨.bl _, H, I.tok _, rfl, q⟩
theorem op_notInIDK {K : PySem.W.Frag} (hK : X.K = K) (D : IDict K d kvs) : OpR X (compareOp .NotIn) (rInID d kvs not) := op_notInID (hK ▸ D)
end
section
variable {T : TC} {Γ : List (Option VA)} {Ω Ω1 Ω2 : List OA} {te tc : TE} {i : Int} {d : Addr} {kvs : List (Int × Int)} {g : Bool → Bool}
theorem xe_inID (h : XE te Γ Ω (va T i) Ω1) (h2 : XE tc Γ Ω1 (vx (.ref d)) Ω2) : XE (tOp (rInID d kvs g) te tc) Γ Ω (va T (g (kvs.lookup i).isSome)) Ω2 := xe_op h h2 fun F H x y hh a1 a2 Q q => by
  have a1 : x = .int i := a1
  have a2 : y = .ref d := a2
  exact ⟨i, a1, a2, q F _ H (Same.refl F) hh rfl⟩
end
end VL

set_option Elab.async false
set_option linter.all false
set_option maxRecDepth 100000
set_option maxHeartbeats 2000000
/-! VL64: one of several values, not known which; a lambda that asks with it raises the same for each. -/
namespace VL
open PySem PySem.Spec PyProof.Rows L2 LamX
def orA (As : List VA) : VA := ⟨fun F v => ∃ A ∈ As, A.P F v, fun e ⟨A, h, p⟩ => ⟨A, h, A.mono e p⟩⟩
section
variable {T : TC} {Γ : List (Option VA)} {Ω Ω' Ω1 Ω2 : List OA} {As : List VA} {A B : VA} {u : Value} {i : Nat} {tb : XK → TE} {r : XC}
end
/-- all tell the same -/
def allX {α : Type} (f : α → Option XC) (l : List α) (r : XC) : Prop := ∀ a ∈ l, f a = some r
end VL

set_option Elab.async false
set_option linter.all false
set_option maxRecDepth 100000
set_option maxHeartbeats 2000000
/-! VL65: a list of any values that grows by append, then stands. -/
namespace VL
open PySem PySem.Spec PyProof.Rows L2 LamX
def lstV (p : Addr) (As : List VA) : OA := ⟨fun F t => ∃ vs, t p = some (.lst vs) ∧ AlA F vs As, fun e ⟨vs, h1, h2⟩ => ⟨vs, h1, h2.mono e⟩⟩
section
variable {T : TC} {Γ : List (Option VA)} {Ω Ω1 Ω2 : List OA} {As : List VA} {A : VA} {ta tb : TE} {t : TA} {D : Ends} {F0 : Hp} {ts : TS} {p : Addr}
end
end VL

set_option Elab.async false
set_option linter.all false
set_option maxRecDepth 100000
set_option maxHeartbeats 2000000
/-! VL66: a, b = x, y of any values. -/
namespace VL
open PySem PySem.Spec PyProof.Rows L2 LamX
section
variable {T : TC} {A B : VA} {k l : Nat} {Γ : List (Option VA)} {Ω Ω1 : List OA} {ta : TA} {ts : TS} {D : Ends} {F0 : Hp}
end
end VL

set_option Elab.async false
set_option linter.all false
set_option maxRecDepth 100000
set_option maxHeartbeats 2000000
/-! VL67: a call by keywords that raises. -/
namespace VL
open PySem PySem.Spec PyProof.Rows L2 LamX
/-- f(.., k = v, ..), its errors at the slots -/
def tCallNS (n m : Nat) (sp : Sp) (gV : List V → List V → List V) (E : L2.St → XK) (t tk : TA) : TE := fun σ H Q => t σ H fun vs H1 => tk σ H1 fun zs H2 => vs.length = n ∧ zs.length = m ∧ sp (gV vs zs) H2 Q (E σ)
structure CalXK (P : Program) (w : World) (K : PySem.W.Frag) (mg : Str → Option Value) (base : Heap) (k : Nat) (x : Str) (ps : List Str) (n : Nat) (ks : List Str) (dvs : List V) (ix : List Nat) (sp : Sp) : Prop where
  ex : ∃ f fd g, FnOk P w K mg base (L2.CX P w) k f fd ps sp ∧ mg x = some (.ref f) ∧ PySem.W.keepIn K (.ref f) = true ∧ KBn K fd ps n ks g (fun vs zs => prm ix (vs ++ (dvs ++ zs)))
section
variable {X : Cx} {k n : Nat} {x : Str} {ps ks : List Str} {dvs : List V} {ix : List Nat} {sp : Sp} {p pos : Pos} {e : Expr} {es : List Expr} {kws : List Keyword} {t tk : TA} {W : WX}
end
section
variable {T : TC} {Γ : List (Option VA)} {Ω Ω1 Ω2 : List OA} {sp : Sp} {PreX : PreXX} {t tk : TA} {W : WX} {As Ks Ds : List VA} {dvs : List V} {ix : List Nat} {r : XC} {F0 : Hp} {n m : Nat}
end
end VL

set_option Elab.async false
set_option linter.all false
set_option maxRecDepth 100000
/-! VL68: a name for a pair of a new list and a value; for over four. -/
namespace VL
open PySem L2 PyProof.Rows
section
variable {T : TC} {Γ : List (Option VA)} {Ω Ω0 Ω1 Ω2 : List OA} {B : VA} {te : TE} {D : Ends} {F0 : Hp} {ts : TS}
end
end VL
namespace VL
open PySem PySem.Spec L2 PyProof.Rows
/-- some dict, locked for good -/
def dicA : VA := ⟨fun F v => ∃ p od kvs, v = .ref p ∧ F p = some (.frz od (.dK kvs)), fun e ⟨p, od, kvs, h1, h2⟩ => ⟨p, od, kvs, h1, e _ _ h2⟩⟩
def rawFz (p : Addr) (u : HO) : OA := ⟨fun _ t => t p = some u, fun _ h => h⟩
section
variable {T : TC} {Γ : List (Option VA)} {Ω Ω0 Ω1 Ω2 : List OA} {te : TE}
end
end VL

set_option Elab.async false
set_option linter.all false
set_option maxRecDepth 100000
set_option maxHeartbeats 2000000
/-! VL69: defs with keyword-only parameters that raise; a pick that tells which; None and values of any kind. -/
namespace VL
open PySem PySem.Spec PyProof.Rows L2 LamX
section
variable {P : Program} {w : World} {K : PySem.W.Frag} {mg : Str → Option Value} {base : Heap}
end
section
variable {T : TC} {Γ : List (Option VA)} {Ω Ω1 Ω2 : List OA} {A : VA} {As : List VA} {ta tb te : TE} {i : Int}
/-- one of some values, the i-th -/
def pkA (As : List VA) (i : Int) : VA := ⟨fun F v => ∃ A, As[i.toNat]? = some A ∧ A.P F v, fun e ⟨A, h, p⟩ => ⟨A, h, A.mono e p⟩⟩
end
end VL

set_option Elab.async false
set_option linter.all false
set_option maxRecDepth 100000
set_option maxHeartbeats 2000000
/-! VL70: a target of two pairs; dict(pairs) whose keys come several times. -/
namespace VL
open PySem PySem.Spec PyProof.Rows L2
section
variable {T : TC} {Γ : List (Option VA)} {Ω Ω1 Ω2 : List OA} {A : VA} {te : TE}
/-- max of three ints -/
def rMax3 : List V → Hp → VK → Prop := L2.rNuC3 L2.nuMax3
/-- a dict of pairs, one behind another -/
def mrgS (l : List (Str × Int)) : List (Str × Int) := l.foldl (fun d q => dput d q.1 q.2) []
end
end VL

set_option Elab.async false
set_option linter.all false
set_option maxRecDepth 100000
set_option maxHeartbeats 2000000
/-! VL71: min and index of a list; a list behind which None is put, all but the last of it. -/
namespace VL
open PySem PySem.Spec PyProof.Rows L2
def minL : List Int → Int
  | [] => 0
  | [a] => a
  | a :: r => min a (minL r)
section
variable {T : TC} {Γ : List (Option VA)} {Ω Ω1 Ω2 : List OA} {A : VA} {te ta tb : TE} {p : Addr}
/-- a list behind which None stands -/
def lnA (T : TC) {α : Type} [Rp α] (p : Addr) (l : List α) : OA := ⟨fun F t => ∃ vs, t p = some (.lst (vs ++ [.non])) ∧ Al T F vs l, fun e ⟨vs, h1, h2⟩ => ⟨vs, h1, h2.mono e⟩⟩
end
end VL

set_option Elab.async false
set_option linter.all false
set_option maxRecDepth 100000
set_option maxHeartbeats 2000000
/-! VL72: a law's own dict with a machine, a list, a dict and, put in later, a number. -/
namespace VL
open PySem PySem.Spec PyProof.Rows L2
def wevM (m e d : Addr) (n : Int) : List (Key × V) := wev m e d ++ [(Sum.inr ("most" : Str), V.int n)]
section
variable {m e d : Addr} {n : Int}
end
section
variable {T : TC} {Γ : List (Option VA)} {Ω Ω1 Ω2 : List OA} {A : VA} {p m e d : Addr}
end
end VL

set_option Elab.async false
set_option linter.all false
set_option maxRecDepth 100000
set_option maxHeartbeats 2000000
/-! VL73: values of several kinds as elements of a plain list (type 'MV'): an integer, a truth, something else. -/
namespace VL
open PySem PySem.Spec PyProof.Rows L2
inductive MV where
  | i (n : Int)
  | b (x : Bool)
  | o
/-- v is none of the class int, wherever what F holds stands -/
def NoI (T : TC) (F : Hp) (v : V) : Prop := ∀ H, Same F H → ∃ t, TyX T.K H v t ∧ PySem.W.kitOne T.K t (.type "int") = some false
def mvP (T : TC) (F : Hp) (v : V) : MV → Prop
  | .i n => v = .int n
  | .b x => v = .bl x
  | .o => NoI T F v
theorem mvP_mono {T : TC} {F F' : Hp} (e : Same F F') {v : V} : ∀ {m : MV}, mvP T F v m → mvP T F' v m
  | .i _, h => h
  | .b _, h => h
  | .o, h => fun H e2 => h H (e.trans e2)
instance : Rp MV := ⟨fun T F v m => mvP T F v m, fun e h => mvP_mono e h⟩
/-- what is_between tells of it -/
def MV.btw (lo hi : Int) : MV → Bool
  | .i n => decide (lo ≤ n) && decide (n ≤ hi)
  | _ => false
section
variable {T : TC} {Γ : List (Option VA)} {Ω Ω0 Ω1 Ω2 : List OA} {A B : VA} {te : TE} {ts : TS} {D : Ends} {F0 : Hp} {k : Nat}
end
/-! deep lists whose depth is told -/
/-- a list in lists, so many of them about [an int] -/
structure DPn where
  d : Nat
def dpv (F : Hp) : Nat → V → Prop
  | 0, v => ∃ p n, v = .ref p ∧ F p = some (.lst [.int n])
  | d + 1, v => ∃ p x, v = .ref p ∧ F p = some (.lst [x]) ∧ dpv F d x
theorem dpv_mono {F F' : Hp} (e : Same F F') : ∀ {d : Nat} {v : V}, dpv F d v → dpv F' d v
  | 0, _, ⟨p, n, h1, h2⟩ => ⟨p, n, h1, e _ _ h2⟩
  | _ + 1, _, ⟨p, x, h1, h2, h3⟩ => ⟨p, x, h1, e _ _ h2, dpv_mono e h3⟩
instance : Rp DPn := ⟨fun _ F v a => dpv F a.d v, fun e h => dpv_mono e h⟩
section
variable {T : TC} {Γ : List (Option VA)} {Ω Ω1 : List OA} {ta : TE}
end
end VL

set_option Elab.async false
set_option linter.all false
set_option maxRecDepth 100000
set_option maxHeartbeats 2000000
/-! VL74: a lambda handed over that raises or returns a value that is kept. -/
namespace VL
open PySem PySem.Spec PyProof.Rows L2
section
variable {X : Cx} {kl : Nat} {T : TC} {Γ : List (Option VA)} {Ω Ω1 Ω2 Ω' : List OA} {A : VA} {F0 : Hp} {D : Ends} {W : WX}
/-- as askX; what it returns is A -/
def askV (T : TC) (f : Addr) (act : XK → Hp → VK → Prop) (Ω Ω' : List OA) (o : Option XC) (A : VA) : VA :=
  ⟨fun F v => v = .ref f ∧ ∀ F1 H1, Same F F1 → Holds F1 Ω H1 → ∀ (E : XK) (Q : VK),
      (∀ r, o = some r → ∀ F2 c d H2, Same F1 F2 → Holds F2 Ω H2 → RCf T r F2 c d → E c d H2) → (o = none → ∀ F2 v H2, Same F1 F2 → Holds F2 Ω' H2 → A.P F2 v → Q v H2) → act E H1 Q,
   fun e ⟨h1, h2⟩ => ⟨h1, fun F1 H1 e1 => h2 F1 H1 (e.trans e1)⟩⟩
/-- what a call of such a lambda makes -/
def OutcV (T : TC) (Γ : List (Option VA)) (Ω Ω' : List OA) (tb : XK → TE) (o : Option XC) (A : VA) : Prop :=
  match o with
  | some r => ∀ (E : XK) (F1 : Hp), (∀ F2 c d H2, Same F1 F2 → Holds F2 Ω H2 → RCf T r F2 c d → E c d H2) → XR (tb E) F1 Γ Ω
  | none => ∀ E : XK, XE (tb E) Γ Ω A Ω'
end
end VL

set_option Elab.async false
set_option linter.all false
set_option maxRecDepth 100000
set_option maxHeartbeats 2000000
/-! VL75: lambdas of a frame, called in that frame; three by a tuple, the second one new. -/
namespace VL
open PySem PySem.Spec PyProof.Rows L2 LamX
def EN0 : XK := fun _ _ _ => False
/-- x(), x's value a lambda of this frame -/
def tSelf (X : Cx) (kl i : Nat) : TE := fun σ H Q => ∃ (Lm : LamPk X kl) (f c' : Addr), σ[i]? = some (some (.ref f)) ∧ Lm.at c' f H ∧ Lm.tb EN0 σ H Q
section
variable {X : Cx}
end
section
variable {X : Cx} {kl : Nat} {T : TC} {Γ : List (Option VA)} {Ω Ω1 Ω2 Ω' : List OA} {A B C : VA} {As : List VA} {te ta tb tc : TE} {ts : TS} {F0 : Hp} {D : Ends}
end
end VL

set_option Elab.async false
set_option linter.all false
set_option maxRecDepth 100000
set_option maxHeartbeats 2000000
/-! VL76: texts: joined, repeated, one sign, parts, lengths, numbers written and read. -/
namespace VL
open PySem PySem.Spec PyProof.Rows L2
/-- a text of code points -/
abbrev SS (l : List Nat) : Str := ⟨l.toArray⟩
def Str.tl' (x : Str) : List Nat := x.cps.toList
/-- one sign -/
def sAt (x : Str) (i : Int) : Option Str := (atI x.cps.toList i).map fun c => SS [c]
def sRep (x : Str) (k : Int) : Str := SS (List.replicate k.toNat x.cps.toList).flatten
/-! written by a base -/
def fmB (b : Nat) (a : Int) : Str := SS ((if a < 0 then [45] else []) ++ (Nat.toDigits b a.natAbs).map Char.toNat)
def fmD (b : Nat) (a : Int) : List Nat := (Nat.toDigits b a.natAbs).map fun c => c.toNat
def fmSg (a : Int) : List Nat := if (decide (a < 0)) = true then [45] else []
def fmDs (b : Nat) (a : Int) : List Nat := if (fmD b a).isEmpty = true then [] else List.replicate ((0 : Int).toNat - (fmD b a).length) 48 ++ fmD b a
def fmR (b : Nat) (a : Int) : Str := SS (List.replicate ((-1 : Int) - (((fmSg a).length : Int) + (([] : List Nat).length : Int) + (([] : List Nat).length : Int)) - ((fmDs b a).length : Int)).toNat 32 ++ fmSg a ++ [] ++ List.replicate 0 32 ++ fmDs b a ++ [] ++ List.replicate 0 32)
end VL
namespace PySem
open Sem (wp)
open Builtin Builtin.Str Builtin.Int Builtin.Float
end PySem
namespace VL
open PySem PySem.Spec PyProof.Rows L2
/-- s * n -/
def rRepS : R2 := fun x y H Q => ∃ a k, x = .str a ∧ y = .int k ∧ -(2 ^ 63) ≤ k ∧ k < 2 ^ 63 ∧ a.length * k.toNat ≤ sizeLine ∧ Q (.str (sRep a k)) H
theorem flat_len (l : List Nat) : ∀ n : Nat, (List.replicate n l).flatten.length = l.length * n
  | 0 => rfl
  | n + 1 => by rw [List.replicate_succ, List.flatten_cons, List.length_append, flat_len l n, Nat.mul_succ, Nat.add_comm]
section
variable {X : Cx}
def tFsp (b : Nat) (te : TE) : TE := fun σ H Q => te σ H fun x H1 => ∃ i : Int, x = .int i ∧ (fmB b i).length ≤ sizeLine ∧ Q (.str (fmB b i)) H1
end
section
variable {T : TC} {Γ : List (Option VA)} {Ω Ω1 Ω2 : List OA} {ta tb te : TE} {x y z : Str} {i n : Int} {F0 : Hp} {D : Ends}
theorem xe_sadd (ha : XE ta Γ Ω (va T x) Ω1) (hb : XE tb Γ Ω1 (va T y) Ω2) (hz : x.length + y.length ≤ sizeLine) : XE (tOp (fun x y H Q => ∃ i j, x = .str i ∧ y = .str j ∧ i.length + j.length ≤ sizeLine ∧ Q (.str (i ++ j)) H) ta tb) Γ Ω (va T (x ++ y)) Ω2 :=
  xe_op ha hb fun F H u v hh a1 a2 Q q => ⟨x, y, a1, a2, hz, q F _ H (Same.refl F) hh rfl⟩
theorem xe_sIx (ha : XE ta Γ Ω (va T x) Ω1) (hb : XE tb Γ Ω1 (va T i) Ω2) (hz : x.length ≤ sizeLine) (e : sAt x i = some y) : XE (tOp (rIx T.K) ta tb) Γ Ω (va T y) Ω2 :=
  xe_op ha hb fun F H u v hh a1 a2 Q q => by
    unfold sAt at e
    cases hc : atI x.cps.toList i with
    | none => rw [hc] at e; cases e
    | some c =>
      rw [hc] at e
      obtain rfl := Option.some.inj e
      exact .inr (.inr ⟨x, i, c, a1, a2, hz, hc, q F _ H (Same.refl F) hh rfl⟩)
def rLenS : List V → Hp → VK → Prop := fun xs H Q => ∃ z, xs = [.str z] ∧ z.length ≤ sizeLine ∧ Q (.int z.length) H
theorem cr_lenS {X : Cx} : CallR X (.builtin "len") rLenS := call_len_str
theorem xe_lenS (ha : XE te Γ Ω (va T x) Ω1) (hz : x.length ≤ sizeLine) : XE (tCB rLenS (tCons te tNil)) Γ Ω (va T (x.length : Int)) Ω1 := xe_cb (xa_cons ha xa_nil) fun F H vs hh a Q q => by
  obtain ⟨v, rfl, a1⟩ := alA1 a
  have a1 : v = .str x := a1
  subst a1
  exact ⟨x, rfl, hz, q F _ H (Same.refl F) hh rfl⟩
def rIntS : List V → Hp → VK → Prop := fun xs H Q => ∃ a n, xs = [.str a] ∧ PySem.intText? a = some n ∧ a.length ≤ 640 ∧ Q (.int n) H
/-- str(i) -/
def sStr (i : Int) : Str := toString i
def rStrI : List V → Hp → VK → Prop := fun xs H Q => ∃ i, xs = [.int i] ∧ i.natAbs.log2 < 1920 ∧ Q (.str (toString i)) H
/-! methods -/
def rZf : V → List V → Hp → VK → Prop := fun x xs H Q => ∃ (a : Str) (i : Int), x = .str a ∧ xs = [.int i] ∧ PadOk i = true ∧ Q (.str (Txt.zfill a i)) H
/-- a method with one text: what it tells -/
def rM1 (C : Str → Str → Prop) (g : Str → Str → V) : V → List V → Hp → VK → Prop := fun x xs H Q => ∃ a b, x = .str a ∧ xs = [.str b] ∧ C a b ∧ Q (g a b) H
def rFi : V → List V → Hp → VK → Prop := fun x xs H Q => ∃ a b, x = .str a ∧ xs = [.str b] ∧ Q (.int (Txt.find a b)) H
theorem mt_fi {X : Cx} : MtR X "str.find" rFi := mt_find
theorem xe_fi {K : PySem.W.Frag} (ha : XE ta Γ Ω (va T x) Ω1) (hb : XE tb Γ Ω1 (va T y) Ω2) : XE (tBM K "str" rFi ta (tCons tb tNil)) Γ Ω (va T (Txt.find x y)) Ω2 := fun F σ H e hh Q q => by
  refine ha F σ H e hh _ fun F1 u H1 Ω' e1 hh1 ⟨a1, o1⟩ => ?_
  subst o1
  have a1 : u = .str x := a1
  subst a1
  refine ⟨rfl, hb F1 σ H1 (e.mono e1) hh1 _ fun F2 v H2 Ω' e2 hh2 ⟨a2, o2⟩ => ?_⟩
  subst o2
  have a2 : v = .str y := a2
  subst a2
  exact ⟨x, y, rfl, rfl, q F2 _ H2 _ (e1.trans e2) hh2 ⟨rfl, rfl⟩⟩
/-- a method without arguments -/
def rM0 (C : Str → Prop) (g : Str → V) : V → List V → Hp → VK → Prop := fun x xs H Q => ∃ a, x = .str a ∧ xs = [] ∧ C a ∧ Q (g a) H
theorem xe_m0 {K : PySem.W.Frag} {C : Str → Prop} {g : Str → Str} (ha : XE ta Γ Ω (va T x) Ω1) (hc : C x) : XE (tBM0 K "str" (rM0 C fun a => .str (g a)) ta) Γ Ω (va T (g x)) Ω1 := fun F σ H e hh Q q => by
  refine ha F σ H e hh _ fun F1 u H1 Ω' e1 hh1 ⟨a1, o1⟩ => ?_
  subst o1
  have a1 : u = .str x := a1
  subst a1
  exact ⟨rfl, x, rfl, rfl, hc, q F1 _ H1 _ e1 hh1 ⟨rfl, rfl⟩⟩
theorem mt_up {X : Cx} : MtR X "str.upper" (rM0 (fun a => a.length ≤ 5592405) fun a => .str (Txt.upper a)) := mt_upper
/-! parts of a text -/
theorem xe_slS {lo hi : Option Int} {tl th : TO} (ha : XE te Γ Ω (va T x) Ω1) (hl : XO tl Γ Ω1 lo) (hu : XO th Γ Ω1 hi) (hz : x.length ≤ sizeLine) : XE (tSl C8.rSlX te tl th) Γ Ω (va T (Txt.slice x lo hi)) Ω1 := fun F σ H e hh Q q => by
  refine ha F σ H e hh _ fun F1 u H1 Ω' e1 hh1 ⟨a1, o1⟩ => ?_
  subst o1
  have a1 : u = .str x := a1
  subst a1
  refine hl F1 σ H1 (e.mono e1) hh1 _ fun F2 H2 e2 hh2 => ?_
  refine hu F2 σ H2 ((e.mono e1).mono e2) hh2 _ fun F3 H3 e3 hh3 => ?_
  exact (show ∃ z, V.str x = .str z ∧ z.length ≤ sizeLine ∧ Q (.str (Txt.slice z lo hi)) H3 from ⟨x, rfl, hz, q F3 _ H3 _ ((e1.trans e2).trans e3) hh3 ⟨rfl, rfl⟩⟩)
end
end VL
namespace VL
open PySem PySem.Spec PyProof.Rows L2
end VL

set_option Elab.async false
set_option linter.all false
set_option maxRecDepth 100000
set_option maxHeartbeats 2000000
/-! VL77: texts read: a sign in a text, the program's dicts by texts, a written dict read at once. -/
namespace VL
open PySem PySem.Spec PyProof.Rows L2
/-! ### a sign in a text -/
def sIn (x y : Str) : Bool := decide (x.cps.toList.headD 0 ∈ y.cps.toList)
section
variable {T : TC} {Γ : List (Option VA)} {Ω Ω1 Ω2 Ω3 : List OA} {ta tb tc te : TE} {x y : Str}
theorem one_sign (h : x.length = 1) : x = ⟨#[x.cps.toList.headD 0]⟩ := by
  obtain ⟨⟨l⟩⟩ := x
  match l, h with
  | [c], _ => rfl
theorem xe_sIn (ha : XE ta Γ Ω (va T x) Ω1) (hb : XE tb Γ Ω1 (va T y) Ω2) (h : x.length = 1) : XE (tOp rInS ta tb) Γ Ω (va T (sIn x y)) Ω2 := xe_op ha hb fun F H u v hh a1 a2 Q q => by
  have a1 : u = .str x := a1
  have a2 : v = .str y := a2
  exact ⟨x.cps.toList.headD 0, y, a1.trans (congrArg V.str (one_sign h)), a2, q F _ H (Same.refl F) hh rfl⟩
/-! ### a written dict by numbers, read at once -/
theorem tPairs_c {α : Type} (f : α → V) {σ : L2.St} {H : Hp} : ∀ (l : List (Int × α)) {Q : List (V × V) → Hp → Prop}, Q (l.map fun p => (V.int p.1, f p.2)) H → tPairs (l.map fun p => (tC (.int p.1), tC (f p.2))) σ H Q
  | [], _, q => q
  | p :: r, Q, q => tPairs_c f r (Q := fun ps H3 => Q ((V.int p.1, f p.2) :: ps) H3) q
theorem valV_i {α : Type} {f : α → V} {i : Int} : ∀ l : List (Int × α), valV (l.map fun p => ((Sum.inl p.1 : Key), f p.2)) (Sum.inl i) = (l.lookup i).map f
  | [] => rfl
  | (k, a) :: r => by
    by_cases z : i = k
    · subst z
      rw [List.lookup_cons, show (i == i) = true from beq_self_eq_true i]
      exact valV_hit
    · rw [List.lookup_cons, show (i == k) = false from beq_false_of_ne z]
      exact (valV_miss (fun e => z (Sum.inl.inj e).symm)).trans (valV_i r)
theorem xe_dix {α : Type} [Rp α] (f : α → V) (hf : ∀ a F, (va T a).P F (f a)) (l : List (Int × α)) {i : Int} {v : α} (hm : mergeK [] (l.map fun p => ((Sum.inl p.1 : Key), f p.2)) = l.map fun p => ((Sum.inl p.1 : Key), f p.2)) (h15 : l.length ≤ 15)
    (hb : XE tb Γ Ω (va T i) Ω1) (h : l.lookup i = some v) : XE (tDGet (tDisp (l.map fun p => (tC (.int p.1), tC (f p.2)))) tb) Γ Ω (va T v) Ω1 := fun F σ H e hh Q q => by
  intro p hp
  refine tPairs_c f l ?_
  refine ⟨upd_same, l.map fun p => ((Sum.inl p.1 : Key), f p.2), ?_, by rw [List.length_map]; exact h15, ?_⟩
  · rw [List.map_map]; rfl
  rw [hm]
  have eu : upd (upd H p (.dK [])) p (.dK (l.map fun p => ((Sum.inl p.1 : Key), f p.2))) = upd H p (.dK (l.map fun p => ((Sum.inl p.1 : Key), f p.2))) := by
    funext b
    by_cases hb : b = p
    · subst hb; rw [upd_same, upd_same]
    · rw [upd_ne hb, upd_ne hb, upd_ne hb]
  rw [eu]
  obtain ⟨hh1, e1⟩ := hh.newF (u := .dK (l.map fun p => ((Sum.inl p.1 : Key), f p.2))) hp
  refine hb _ σ _ (e.mono e1) hh1 _ fun F2 y H2 Ω' e2 hh2 ⟨a2, o2⟩ => ?_
  subst o2
  have a2 : y = V.int i := a2
  subst a2
  have at_ : H2 p = some (.dK (l.map fun p => ((Sum.inl p.1 : Key), f p.2))) := hh2.same _ _ (e2 p _ upd_same)
  exact ⟨p, f v, rfl, .inl ⟨_, Sum.inl i, .inl at_, rfl, ((valV_i l).trans (by rw [h]; rfl)).symm⟩, q F2 _ H2 _ (e1.trans e2) hh2 ⟨hf v F2, rfl⟩⟩
theorem rp_str (a : Str) (F : Hp) : (va T a).P F (.str a) := rfl
theorem rp_int (a : Int) (F : Hp) : (va T a).P F (.int a) := rfl
end
/-! ### "and" whose second part draws -/
section
variable {T : TC} {Γ : List (Option VA)} {Ω : List OA} {ta tb : TE} {b : Bool}
theorem xe_andOC {α : Type} {m : Option (Bool × α)} {cur : α} {z : Bool × α} {O : α → List OA} (h1 : XE ta Γ Ω (va T b) (O cur)) (hm : (if b = true then m else some (false, cur)) = some z) (h2 : ∀ v, m = some v → XE tb Γ (O cur) (va T v.1) (O v.2)) : XE (tAndV ta tb) Γ Ω (va T z.1) (O z.2) := fun F σ H e hh Q q => by
  refine h1 F σ H e hh _ fun F1 x H1 Ω' e1 hh1 ⟨a1, o1⟩ => ?_
  subst o1
  refine ⟨b, a1, ?_⟩
  cases b with
  | true =>
    rw [if_pos rfl] at hm ⊢
    exact h2 z hm F1 σ H1 (e.mono e1) hh1 Q fun F2 y H2 Ω'' e2 hh2 r => q F2 y H2 Ω'' (e1.trans e2) hh2 r
  | false =>
    rw [if_neg Bool.false_ne_true] at hm ⊢
    cases hm
    exact q F1 _ H1 _ e1 hh1 ⟨rfl, rfl⟩
end
/-! ### the program's dicts -/
section
variable {X : Cx} {d : Addr} {kvs : List (Int × Int)}
def rIxID (d : Addr) (kvs : List (Int × Int)) : R2 := fun x y H Q => ∃ i v, x = .ref d ∧ y = .int i ∧ kvs.lookup i = some v ∧ Q (.int v) H
theorem ix_id (D : IDict X.K d kvs) : IxR X (rIxID d kvs) := by
  intro value slice pins s σ H x y v u Q I rx ry h hs
  obtain ⟨i, r, rfl, rfl, e, q⟩ := h
  obtain rfl : v = Value.ref d := rx
  obtain ⟨t, rfl⟩ := (show ∃ t, u = Value.int i t from ry)
  obtain ⟨f, hm, hf⟩ := D.map I.kIn
  have := hf i
  rw [e] at this
  obtain ⟨w, hw⟩ := this
  exact tail_any hm.typeIs slot_dict_getitem.lookup (wpAny_getItem_of (intKind_is X.prog X.w i t) hm hw ⟨.int r, H, I.tok _, ⟨_, rfl⟩, q⟩) hs
theorem ix_idK {K : PySem.W.Frag} (hK : X.K = K) (D : IDict K d kvs) : IxR X (rIxID d kvs) := ix_id (hK ▸ D)
end
section
variable {T : TC} {Γ : List (Option VA)} {Ω Ω1 Ω2 Ω3 : List OA} {te tc td : TE} {i v : Int} {d : Addr} {kvs : List (Int × Int)}
theorem xe_ixID (h2 : XE tc Γ Ω (vx (.ref d)) Ω1) (h : XE te Γ Ω1 (va T i) Ω2) (e : kvs.lookup i = some v) : XE (tOp (rIxID d kvs) tc te) Γ Ω (va T v) Ω2 := xe_op h2 h fun F H x y hh a1 a2 Q q => by
  have a1 : x = .ref d := a1
  have a2 : y = .int i := a2
  exact ⟨i, v, a1, a2, e, q F _ H (Same.refl F) hh rfl⟩
end
/-- the written dict at d: these texts, each with its value -/
structure SDict (K : PySem.W.Frag) (w : World) (d : Addr) (kvs : List (Str × Int)) : Prop where
  ex : ∃ es n, KDict K w d es n ∧ sentB es.toList kvs = true
theorem sdict_ok {K : PySem.W.Frag} {w : World} {d : Addr} {kvs : List (Str × Int)} (h : ∃ es n, KDict K w d es n) (h2 : sdcB K d kvs = true) : SDict K w d kvs := by
  obtain ⟨es, n, D⟩ := h
  refine ⟨es, n, D, ?_⟩
  unfold sdcB at h2
  rw [D.at_] at h2
  exact h2
theorem sent_find : ∀ {l : List DictEntry} {kvs : List (Str × Int)} (k : Str), sentB l kvs = true → GetsI ((l.find? fun e => Value.isStrOf k e.key).map (·.val)) (kvs.lookup k)
  | [], [], k, _ => rfl
  | [], _ :: _, _, h => nomatch h
  | e :: r, [], _, h => nomatch h
  | e :: r, p :: q, k, h => by
    obtain ⟨h1, h⟩ := Bool.and_eq_true_iff.mp h
    obtain ⟨h2, h4⟩ := Bool.and_eq_true_iff.mp h
    obtain ⟨hash, key, val⟩ := e
    obtain ⟨pk, pv⟩ := p
    cases key with
    | str a t =>
      obtain rfl : a = pk := of_decide_eq_true h1
      cases val with
      | int b u =>
        obtain rfl : b = pv := of_decide_eq_true h2
        by_cases z : k = a
        · subst z
          rw [List.lookup_cons, show (k == k) = true from beq_self_eq_true k]
          refine ⟨u, ?_⟩
          rw [List.find?_cons_of_pos (by simp [Value.isStrOf])]
          rfl
        · rw [List.lookup_cons, show (k == a) = false from beq_false_of_ne z]
          rw [List.find?_cons_of_neg (by simp [Value.isStrOf]; exact fun e => z e.symm)]
          exact sent_find k h4
      | _ => cases h2
    | _ => cases h1
/-- d.get(k, i) -/
def tGetSD (d : Addr) (kvs : List (Str × Int)) (td ty tx : TE) : TE := fun σ H Q => td σ H fun x H1 => x = .ref d ∧ ty σ H1 fun y H2 => tx σ H2 fun z H3 => ∃ k i, y = .str k ∧ z = .int i ∧ Q (.int ((kvs.lookup k).getD i)) H3
section
variable {X : Cx} {o e f : Expr} {apos cpos : Pos} {td ty tx : TE} {d : Addr} {kvs : List (Str × Int)}
theorem SDict.map (D : SDict X.K X.w d kvs) {h : Heap} (I : X.K.In h) : ∃ f, h.MapOf (strKind X.prog X.w) d f ∧ ∀ k, GetsI (f k) (kvs.lookup k) := by
  obtain ⟨es, n, D, he⟩ := D.ex
  refine ⟨_, PySem.W.mapOf_K (prog := X.prog) I D.at_ D.lit, fun k => ?_⟩
  have := sent_find k he
  obtain ⟨l⟩ := es
  show GetsI (findBy Value.isStrOf ⟨l⟩ k) _
  unfold findBy
  rw [List.find?_toArray]
  exact this
theorem SDict.low (D : SDict X.K X.w d kvs) : (d == sysModules) = false := by
  obtain ⟨es, n, D, he⟩ := D.ex
  exact D.low
theorem pe_getSD (D : SDict X.K X.w d kvs) (ho : PE X o td) (he : PE X e ty) (hf : PE X f tx) (m : M2 X o "get" apos e f cpos) : PE X (.Call (.Attribute o "get" apos) [e, f] [] cpos) (tGetSD d kvs td ty tx) := by
  refine ⟨fun pins s σ H Q I h => ?_⟩
  refine wpAny_Call_method m.base m.few m.line PySem.F.plainAttrs_dict PySem.F.slot_dict_get PySem.F.type_dict_get (thn (ho.run pins s σ H _ I h) fun u s1 ⟨x, H1, I1, rx, ex, q1⟩ => ?_)
  subst ex
  obtain rfl : u = Value.ref d := rx
  obtain ⟨es, n, D1, _⟩ := id D.ex
  obtain ⟨fm, hm, _⟩ := D.map I1.kIn
  refine ⟨hm.typeIs, fun b q => ?_, ?_⟩
  · cases q
    exact ⟨_, I1.kIn _ _ D1.at_, rfl⟩
  rw [m.trees]
  refine Calls.callWith_builtin rfl (Calls.evalArgs_plain (Calls.spliced_cons (thn (he.run pins s1 σ H1 _ I1 q1) fun iv s2 ⟨y, H2, I2, ry, q2⟩ =>
    Calls.spliced_cons (thn (hf.run pins s2 σ H2 _ I2 q2) fun fv s3 ⟨z, H3, I3, rz, q3⟩ => Calls.spliced_nil ?_))))
  obtain ⟨k, i, rfl, rfl, q3⟩ := q3
  obtain ⟨t, rfl⟩ := (show ∃ t, iv = Value.str k t from ry)
  obtain ⟨t2, rfl⟩ := (show ∃ t, fv = Value.int i t from rz)
  obtain ⟨fm, hm, hf⟩ := D.map I3.kIn
  refine call_meetsIn PySem.F.slot_dict_get hm.typeIs PySem.F.entry_dict_get (PySem.F.args_dict_get_3 _ _ _) (meets_dict_get_default (strKind X.prog X.w) d (strKind_is X.prog X.w k t) D.low (.int i t2)) ⟨fm, hm, ?_⟩
  refine ⟨.int ((kvs.lookup k).getD i), H3, I3.tok _, ?_, q3⟩
  have := hf k
  cases e : kvs.lookup k with
  | none =>
    rw [e] at this
    rw [show fm k = none from this]
    exact ⟨t2, rfl⟩
  | some v =>
    rw [e] at this
    obtain ⟨t3, h3⟩ := this
    rw [h3]
    exact ⟨t3, rfl⟩
theorem pe_getSDK {K : PySem.W.Frag} {w : World} (hK : X.K = K) (hw : X.w = w) (D : SDict K w d kvs) (ho : PE X o td) (he : PE X e ty) (hf : PE X f tx) (m : M2 X o "get" apos e f cpos) : PE X (.Call (.Attribute o "get" apos) [e, f] [] cpos) (tGetSD d kvs td ty tx) := by
  subst hK hw
  exact pe_getSD D ho he hf m
end
section
variable {T : TC} {Γ : List (Option VA)} {Ω Ω1 Ω2 Ω3 : List OA} {ta tb tc : TE} {d : Addr} {kvs : List (Str × Int)} {k : Str} {i : Int}
theorem xe_getSD (ha : XE ta Γ Ω (vx (.ref d)) Ω1) (hb : XE tb Γ Ω1 (va T k) Ω2) (hc : XE tc Γ Ω2 (va T i) Ω3) : XE (tGetSD d kvs ta tb tc) Γ Ω (va T ((kvs.lookup k).getD i)) Ω3 := fun F σ H e hh Q q => by
  refine ha F σ H e hh _ fun F1 x H1 Ω' e1 hh1 ⟨a1, o1⟩ => ?_
  subst o1
  have a1 : x = V.ref d := a1
  refine ⟨a1, hb F1 σ H1 (e.mono e1) hh1 _ fun F2 y H2 Ω' e2 hh2 ⟨a2, o2⟩ => ?_⟩
  subst o2
  have a2 : y = V.str k := a2
  refine hc F2 σ H2 ((e.mono e1).mono e2) hh2 _ fun F3 z H3 Ω' e3 hh3 ⟨a3, o3⟩ => ?_
  subst o3
  have a3 : z = V.int i := a3
  exact ⟨k, i, a2, a3, q F3 _ H3 _ ((e1.trans e2).trans e3) hh3 ⟨rfl, rfl⟩⟩
end
end VL

set_option Elab.async false
set_option linter.all false
/-! the mathematics: loops by invariants, digits, bits -/
namespace VL
open PySem L2
theorem chkP_eq {p : Prop} (h : p) : chkP p = some () := by unfold chkP; exact if_pos h
theorem bnd_of {α β : Type} {o : Option α} {a : α} {f : α → Option β} {r : Option β} (h : o = some a) (k : f a = r) : o.bind f = r := by rw [h]; exact k
/-! ### loops -/
section
variable {α S ρ : Type} {b : α → S → Option (Stp S ρ)}
theorem forM_cons {x : α} {r : List α} {s s' : S} (h : b x s = some (.nx s')) : forM' b (x :: r) s = forM' b r s' := by
  show (b x s).bind _ = _
  rw [h]
  rfl
theorem forM_ind (I : Nat → S → Prop) : ∀ (xs : List α) (k : Nat) (s : S), (∀ i x s, xs[i]? = some x → I (k + i) s → ∃ s', b x s = some (.nx s') ∧ I (k + i + 1) s') → I k s → ∃ s', forM' b xs s = some (.nx s') ∧ I (k + xs.length) s'
  | [], k, s, _, h => ⟨s, rfl, h⟩
  | x :: r, k, s, hs, h => by
    obtain ⟨s1, e1, i1⟩ := hs 0 x s rfl h
    obtain ⟨s2, e2, i2⟩ := forM_ind I r (k + 1) s1 (fun i y t hy ht => by
      obtain ⟨t', e, q⟩ := hs (i + 1) y t hy (by rw [show k + (i + 1) = k + 1 + i from by omega]; exact ht)
      exact ⟨t', e, by rw [show k + 1 + i + 1 = k + (i + 1) + 1 from by omega]; exact q⟩) i1
    exact ⟨s2, by rw [forM_cons e1, e2], by rw [List.length_cons, show k + (r.length + 1) = k + 1 + r.length from by omega]; exact i2⟩
theorem whileM_f {c : S → Option Bool} {bd : S → Option (Stp S ρ)} {n : Nat} {s : S} (h : c s = some false) : whileM c bd (n + 1) s = some (.nx s) := by
  show (c s).bind _ = _
  rw [h]
  rfl
theorem whileM_t {c : S → Option Bool} {bd : S → Option (Stp S ρ)} {n : Nat} {s s' : S} (h : c s = some true) (h2 : bd s = some (.nx s')) : whileM c bd (n + 1) s = whileM c bd n s' := by
  show (c s).bind _ = _
  rw [h]
  show (bd s).bind _ = _
  rw [h2]
  rfl
end
theorem lcM_mapU {β γ : Type} {b : β → Unit → Option (Option γ × Unit)} {f : β → γ} : ∀ {xs : List β}, (∀ x ∈ xs, b x () = some (some (f x), ())) → lcM b xs () = some (xs.map f, ())
  | [], _ => rfl
  | x :: r, h => by
    show (b x ()).bind _ = _
    rw [h x List.mem_cons_self]
    show (lcM b r ()).bind _ = _
    rw [lcM_mapU fun y hy => h y (List.mem_cons_of_mem _ hy)]
    rfl
/-! ### bits -/
def bl (a : Nat) : Nat := if a = 0 then 0 else a.log2 + 1
theorem intBits_nat (a : Nat) : Builtin.Int.intBits (a : Int) = bl a := by
  unfold Builtin.Int.intBits bl
  by_cases h : a = 0
  · subst h; rfl
  · rw [if_neg h, if_neg (by simpa using h), Int.natAbs_natCast]
def pc (a : Nat) : Nat := if h : a = 0 then 0 else a % 2 + pc (a / 2)
termination_by a
decreasing_by omega
/-! ### digits -/
def dg (w a : Nat) : List Int := if h : a = 0 ∨ w = 0 then [] else ((a % 2 ^ w : Nat) : Int) :: dg w (a / 2 ^ w)
termination_by a
decreasing_by
  have h1 : a ≠ 0 := fun e => h (.inl e)
  have h2 : w ≠ 0 := fun e => h (.inr e)
  exact Nat.div_lt_self (by omega) (Nat.one_lt_two_pow h2)
theorem dg_zero (w : Nat) : dg w 0 = [] := by unfold dg; rfl
theorem dg_pos {w a : Nat} (hw : w ≠ 0) (h : a ≠ 0) : dg w a = ((a % 2 ^ w : Nat) : Int) :: dg w (a / 2 ^ w) := by
  rw [dg, dif_neg (fun e => e.elim h hw)]
theorem dg_ind {w : Nat} (hw : w ≠ 0) {p : Nat → Prop} (h0 : p 0) (hs : ∀ a, a ≠ 0 → p (a / 2 ^ w) → p a) : ∀ a, p a := fun a => by
  induction a using Nat.strongRecOn with
  | ind a ih =>
    by_cases h : a = 0
    · subst h; exact h0
    · exact hs a h (ih _ (Nat.div_lt_self (by omega) (Nat.one_lt_two_pow hw)))
section
variable {w : Nat} (hw : w ≠ 0)
include hw
theorem dg_mem : ∀ a, ∀ x ∈ dg w a, ∃ d : Nat, x = (d : Int) ∧ d < 2 ^ w := by
  refine dg_ind hw (fun x hx => by rw [dg_zero] at hx; cases hx) fun a h ih x hx => ?_
  rw [dg_pos hw h] at hx
  rcases List.mem_cons.mp hx with e | e
  · exact ⟨_, e, Nat.mod_lt _ (Nat.two_pow_pos w)⟩
  · exact ih x e
theorem dg_len : ∀ a m, a < 2 ^ (w * m) → (dg w a).length ≤ m := by
  refine dg_ind hw (fun m _ => by rw [dg_zero]; exact Nat.zero_le _) fun a h ih m hm => ?_
  rw [dg_pos hw h, List.length_cons]
  cases m with
  | zero => rw [Nat.mul_zero, Nat.pow_zero] at hm; omega
  | succ m =>
    have := ih m (by
      rw [Nat.div_lt_iff_lt_mul (Nat.two_pow_pos w), ← Nat.pow_add, show w * m + w = w * (m + 1) from by rw [Nat.mul_succ]]
      exact hm)
    omega
end
/-! ### rows from the last digit on, compared -/
def vm (B : Int) : List Int → Int
  | [] => 0
  | d :: r => d * B ^ r.length + vm B r
theorem vm_snoc {B : Int} : ∀ {r : List Int} {d : Int}, vm B (r ++ [d]) = vm B r * B + d
  | [], d => by show d * B ^ 0 + 0 = 0 * B + d; simp
  | e :: r, d => by
    show e * B ^ (r ++ [d]).length + vm B (r ++ [d]) = (e * B ^ r.length + vm B r) * B + d
    rw [vm_snoc (r := r), List.length_append, show [d].length = 1 from rfl, Int.pow_succ, Int.add_mul, ← Int.mul_assoc, Int.add_assoc]
theorem vm_bound {B : Int} (hB : 0 < B) : ∀ {r : List Int}, (∀ x ∈ r, 0 ≤ x ∧ x < B) → 0 ≤ vm B r ∧ vm B r < B ^ r.length
  | [], _ => ⟨Int.le_refl _, by show (0 : Int) < B ^ 0; rw [Int.pow_zero]; decide⟩
  | d :: r, h => by
    obtain ⟨i0, i1⟩ := vm_bound hB (r := r) fun x hx => h x (List.mem_cons_of_mem _ hx)
    obtain ⟨d0, d1⟩ := h d List.mem_cons_self
    have hp : 0 < B ^ r.length := Int.pow_pos hB
    have h0 : 0 ≤ d * B ^ r.length := Int.mul_nonneg d0 (by omega)
    have h1 : (d + 1) * B ^ r.length ≤ B * B ^ r.length := Int.mul_le_mul_of_nonneg_right (by omega) (by omega)
    rw [Int.add_mul, Int.one_mul] at h1
    show 0 ≤ d * B ^ r.length + vm B r ∧ d * B ^ r.length + vm B r < B ^ (r.length + 1)
    rw [Int.pow_succ, Int.mul_comm (B ^ r.length) B]
    omega
theorem vm_dg {w : Nat} (hw : w ≠ 0) : ∀ a : Nat, vm (2 ^ w) (dg w a).reverse = (a : Int) := by
  refine dg_ind hw (by rw [dg_zero]; rfl) fun a h ih => ?_
  rw [dg_pos hw h, List.reverse_cons, vm_snoc, ih]
  have := Nat.div_add_mod a (2 ^ w)
  have q : (a : Int) = ((2 ^ w * (a / 2 ^ w) + a % 2 ^ w : Nat) : Int) := by rw [this]
  conv => rhs; rw [q]
  push_cast
  rw [Int.mul_comm]
theorem dg_bound {w : Nat} (hw : w ≠ 0) (a : Nat) : a < 2 ^ (w * (dg w a).length) := by
  have h := (vm_bound (B := 2 ^ w) (Int.pow_pos (by decide)) (r := (dg w a).reverse) fun x hx => by
    obtain ⟨d, rfl, lt⟩ := dg_mem hw a x (List.mem_reverse.mp hx)
    have : ((d : Nat) : Int) < ((2 ^ w : Nat) : Int) := Int.ofNat_lt.mpr lt
    rw [Int.natCast_pow] at this
    exact ⟨by omega, this⟩).2
  rw [vm_dg hw, List.length_reverse] at h
  have e : (((2 ^ w) ^ (dg w a).length : Nat) : Int) = ((2 : Int) ^ w) ^ (dg w a).length := by rw [Int.natCast_pow, Int.natCast_pow]; rfl
  rw [← e] at h
  rw [Nat.pow_mul]
  exact Int.ofNat_lt.mp h
def cp : List Int → List Int → Nat
  | x :: r, y :: t => if x = y then cp r t + 1 else 0
  | _, _ => 0
theorem take_rev {l : List Int} {m : Nat} {x : Int} (h : l[m]? = some x) : (l.take (m + 1)).reverse = x :: (l.take m).reverse := by
  obtain ⟨lt, e⟩ := List.getElem?_eq_some_iff.mp h
  rw [List.take_add_one, h, Option.toList_some, List.reverse_append]
  rfl
end VL

set_option Elab.async false
set_option linter.all false
/-! rows from the first digit on; masks of any number -/
namespace VL
open PySem L2
theorem mod_neg (t : Nat) {M : Nat} (hM : 0 < M) : (-(t : Int) - 1) % (M : Int) = (M : Int) - 1 - ((t % M : Nat) : Int) := by
  have h := Nat.div_add_mod t M
  have lt := Nat.mod_lt t hM
  have e : (-(t : Int) - 1) = ((M : Int) - 1 - ((t % M : Nat) : Int)) + (M : Int) * (-((t / M : Nat) : Int) - 1) := by
    have q : (t : Int) = ((M * (t / M) + t % M : Nat) : Int) := by rw [h]
    rw [q, Int.mul_sub, Int.mul_neg, Int.mul_one]
    push_cast
    omega
  rw [e, Int.add_mul_emod_self_left, Int.emod_eq_of_lt (by omega) (by omega)]
theorem and_low (x : Int) (W : Nat) : Builtin.bitAnd x ((2 ^ W - 1 : Nat) : Int) = x % 2 ^ W := by
  have hp : 0 < 2 ^ W := Nat.two_pow_pos W
  have e2 : ((2 : Int) ^ W) = ((2 ^ W : Nat) : Int) := by rw [Int.natCast_pow]; rfl
  rw [e2]
  by_cases h : 0 ≤ x
  · obtain ⟨a, rfl⟩ := Int.eq_ofNat_of_zero_le h
    rw [PySem.W.os_band, Nat.and_two_pow_sub_one_eq_mod]
    exact Int.natCast_emod _ _
  · obtain ⟨t, ht⟩ := Int.eq_ofNat_of_zero_le (a := -x - 1) (by omega)
    have ex : x = -(t : Int) - 1 := by omega
    have en : Builtin.bitNot x = (t : Int) := by show -x - 1 = (t : Int); exact ht
    unfold Builtin.bitAnd
    rw [decide_eq_false h, decide_eq_true (show (0 : Int) ≤ ((2 ^ W - 1 : Nat) : Int) from by omega)]
    show ((2 ^ W - 1 : Nat) : Int) - (((((2 ^ W - 1 : Nat) : Int)).toNat &&& (Builtin.bitNot x).toNat : Nat) : Int) = _
    rw [en, Int.toNat_natCast, Int.toNat_natCast, Nat.and_comm, Nat.and_two_pow_sub_one_eq_mod, ex, mod_neg t hp]
    omega
def lv (B : Int) : List Int → Int
  | [] => 0
  | d :: r => d + B * lv B r
theorem lv_bound {B : Int} (hB : 0 < B) : ∀ {r : List Int}, (∀ x ∈ r, 0 ≤ x ∧ x < B) → 0 ≤ lv B r ∧ lv B r < B ^ r.length
  | [], _ => ⟨Int.le_refl _, by show (0 : Int) < B ^ 0; rw [Int.pow_zero]; decide⟩
  | d :: r, h => by
    obtain ⟨i0, i1⟩ := lv_bound hB (r := r) fun x hx => h x (List.mem_cons_of_mem _ hx)
    obtain ⟨d0, d1⟩ := h d List.mem_cons_self
    have h0 : 0 ≤ B * lv B r := Int.mul_nonneg (by omega) i0
    have h1 : B * (lv B r + 1) ≤ B * B ^ r.length := Int.mul_le_mul_of_nonneg_left (by omega) (by omega)
    rw [Int.mul_add, Int.mul_one] at h1
    show 0 ≤ d + B * lv B r ∧ d + B * lv B r < B ^ (r.length + 1)
    rw [Int.pow_succ, Int.mul_comm (B ^ r.length) B]
    omega
theorem lv_split {B : Int} : ∀ (m : Nat) (l : List Int), m ≤ l.length → lv B l = lv B (l.take m) + B ^ m * lv B (l.drop m)
  | 0, l, _ => by rw [List.take_zero, List.drop_zero, Int.pow_zero, Int.one_mul]; show lv B l = 0 + lv B l; omega
  | m + 1, [], h => absurd h (by rw [List.length_nil]; omega)
  | m + 1, d :: r, h => by
    rw [List.take_succ_cons, List.drop_succ_cons]
    show d + B * lv B r = (d + B * lv B (r.take m)) + B ^ (m + 1) * lv B (r.drop m)
    rw [lv_split m r (by rw [List.length_cons] at h; omega), Int.mul_add, Int.pow_succ, Int.mul_comm (B ^ m) B, Int.mul_assoc]
    omega
end VL

set_option Elab.async false
set_option linter.all false
/-! sizes; rows of so many digits; differences -/
namespace VL
open PySem L2
theorem intBits_abs (n : Int) : Builtin.Int.intBits n = bl n.natAbs := by
  rw [← intBits_nat]
  unfold Builtin.Int.intBits
  rw [Int.natAbs_natCast]
  by_cases h : n = 0
  · subst h; rfl
  · rw [if_neg (by simpa using h), if_neg (by simpa using h)]
theorem bl_lt (a : Nat) : a < 2 ^ bl a := by
  unfold bl
  by_cases h : a = 0
  · subst h; decide
  · rw [if_neg h]; exact Nat.lt_log2_self
theorem bl_le {a k : Nat} : bl a ≤ k ↔ a < 2 ^ k := by
  constructor
  · intro h
    exact Nat.lt_of_lt_of_le (bl_lt a) (Nat.pow_le_pow_right (by decide) h)
  · intro h
    unfold bl
    by_cases e : a = 0
    · rw [if_pos e]; exact Nat.zero_le _
    · rw [if_neg e]
      have := (Nat.log2_lt e).mpr h
      omega
/-- how many digits -/
def sz (W a : Nat) : Nat := (bl a + W - 1) / W
theorem sz_le {W : Nat} (hw : W ≠ 0) {a k : Nat} : sz W a ≤ k ↔ a < 2 ^ (W * k) := by
  rw [← bl_le]
  unfold sz
  constructor
  · intro h
    have h1 := Nat.div_add_mod (bl a + W - 1) W
    have h2 := Nat.mod_lt (bl a + W - 1) (Nat.pos_of_ne_zero hw)
    have h3 : W * ((bl a + W - 1) / W) ≤ W * k := Nat.mul_le_mul_left W h
    omega
  · intro h
    have : bl a + W - 1 < W * (k + 1) := by rw [Nat.mul_succ]; omega
    have := (Nat.div_lt_iff_lt_mul (Nat.pos_of_ne_zero hw)).mpr (by rw [Nat.mul_comm]; exact this : bl a + W - 1 < (k + 1) * W)
    omega
theorem eq_of_le {x y : Nat} (h : ∀ k, x ≤ k ↔ y ≤ k) : x = y := by
  have h1 := (h y).mpr (Nat.le_refl _)
  have h2 := (h x).mp (Nat.le_refl _)
  omega
theorem dg_size {W : Nat} (hw : W ≠ 0) (a : Nat) : (dg W a).length = sz W a := eq_of_le fun k => by
  rw [sz_le hw]
  exact ⟨fun h => Nat.lt_of_lt_of_le (dg_bound hw a) (Nat.pow_le_pow_right (by decide) (Nat.mul_le_mul_left W h)), fun h => dg_len hw a k h⟩
/-! rows of so many digits -/
def rw_ (W : Nat) (n : Int) : Nat → List Int
  | 0 => []
  | k + 1 => (n % 2 ^ W) :: rw_ W (n / 2 ^ W) k
theorem pp (W k : Nat) : (2 : Int) ^ (W * k) = ((2 ^ (W * k) : Nat) : Int) := by rw [Int.natCast_pow]; rfl
theorem p2 (k : Nat) : (2 : Int) ^ k = ((2 ^ k : Nat) : Int) := by rw [Int.natCast_pow]; rfl
theorem ppos (k : Nat) : (0 : Int) < 2 ^ k := Int.pow_pos (by decide)
theorem rw_len (W : Nat) : ∀ (k : Nat) (n : Int), (rw_ W n k).length = k
  | 0, _ => rfl
  | k + 1, n => by show (rw_ W (n / 2 ^ W) k).length + 1 = _; rw [rw_len W k]
theorem ediv_pow (n : Int) (a b : Nat) : n / 2 ^ a / 2 ^ b = n / 2 ^ (a + b) := by
  rw [Int.pow_add, Int.ediv_ediv_of_nonneg (Int.le_of_lt (ppos a))]
theorem rw_app (W : Nat) : ∀ (k : Nat) (n : Int) (m : Nat), rw_ W n (k + m) = rw_ W n k ++ rw_ W (n / 2 ^ (k * W)) m
  | 0, n, m => by rw [Nat.zero_mul, Int.pow_zero, Int.ediv_one, Nat.zero_add]; rfl
  | k + 1, n, m => by
    rw [show k + 1 + m = (k + m) + 1 from by omega]
    show (n % 2 ^ W) :: rw_ W (n / 2 ^ W) (k + m) = _
    rw [rw_app W k, ediv_pow, show W + k * W = (k + 1) * W from by rw [Nat.succ_mul]; omega]
    rfl
theorem mod_div_pow (n : Int) (a b : Nat) : n % 2 ^ (a + b) / 2 ^ a = n / 2 ^ a % 2 ^ b := by
  have ha := ppos a
  have hb := ppos b
  have e : n % 2 ^ (a + b) = n - 2 ^ (a + b) * (n / 2 ^ (a + b)) := Int.emod_def ..
  rw [e, ← ediv_pow, Int.pow_add, Int.mul_assoc, Int.sub_eq_add_neg, ← Int.mul_neg, Int.add_mul_ediv_left _ _ (by omega), Int.emod_def]
  omega
theorem mod_mod_pow (n : Int) (a b : Nat) : n % 2 ^ (a + b) % 2 ^ a = n % 2 ^ a := by
  rw [Int.pow_add]
  exact Int.emod_emod_of_dvd n (Int.dvd_mul_right _ _)
theorem rw_mod (W : Nat) : ∀ (k : Nat) (n : Int), rw_ W (n % 2 ^ (k * W)) k = rw_ W n k
  | 0, _ => rfl
  | k + 1, n => by
    show ((n % 2 ^ ((k + 1) * W)) % 2 ^ W) :: rw_ W (n % 2 ^ ((k + 1) * W) / 2 ^ W) k = (n % 2 ^ W) :: rw_ W (n / 2 ^ W) k
    rw [show (k + 1) * W = W + k * W from by rw [Nat.succ_mul]; omega, mod_mod_pow, mod_div_pow, rw_mod W k]
theorem rw_dg {W : Nat} (hw : W ≠ 0) (a : Nat) : rw_ W (a : Int) (sz W a) = dg W a := by
  rw [← dg_size hw]
  revert a
  refine dg_ind hw (by rw [dg_zero]; rfl) fun a h ih => ?_
  rw [dg_pos hw h]
  show ((a : Int) % 2 ^ W) :: rw_ W ((a : Int) / 2 ^ W) (dg W (a / 2 ^ W)).length = _
  rw [p2, ← Int.natCast_emod, ← Int.natCast_ediv, ih]
theorem nat_of {n : Int} {k : Nat} (h0 : 0 ≤ n) (h : n < 2 ^ k) : n.natAbs < 2 ^ k := by
  rw [p2] at h
  omega
theorem int_of {n : Int} {k : Nat} (h : n.natAbs < 2 ^ k) : -(2 ^ k) < n ∧ n < 2 ^ k := by
  rw [p2]
  omega
theorem shl_ok {n i : Int} {k : Nat} (h : n.natAbs < 2 ^ k) (h0 : 0 ≤ i) (h2 : (k : Int) + i ≤ 2 ^ 27) : CShl n i := ⟨h0, by
  rw [intBits_abs]
  have := bl_le.mpr h
  omega⟩
theorem mul_small {a b : Int} (h : a.natAbs < 2 ^ 64) : IntMulOk a b := by
  have h := int_of h
  exact .of_left (PySem.intBits_le_64 h.1 h.2)
theorem mul_small' {a b : Int} (h : b.natAbs < 2 ^ 64) : IntMulOk a b := by
  have h := int_of h
  exact .of_right (PySem.intBits_le_64 h.1 h.2)
end VL
/-! ### a value that is there, and of which something holds -/
namespace VL
open PySem L2
def Sat {α : Type} (o : Option α) (P : α → Prop) : Prop := ∃ r, o = some r ∧ P r
section
variable {α β S ρ : Type} {o : Option α} {P : α → Prop} {Q : β → Prop} {f : α → Option β} {a : α}
theorem sat_bind (h : Sat o P) (k : ∀ r, P r → Sat (f r) Q) : Sat (o.bind f) Q := by
  obtain ⟨r, e, p⟩ := h
  rw [e]
  exact k r p
theorem sat_eq (h : o = some a) (k : Sat (f a) Q) : Sat (o.bind f) Q := by rw [h]; exact k
theorem sat_let (k : Sat (f a) Q) : Sat ((some a).bind f) Q := k
theorem sat_chk {p : Prop} {f : Unit → Option β} (h : p) (k : Sat (f ()) Q) : Sat ((chkP p).bind f) Q := by rw [chkP_eq h]; exact k
theorem sat_some {a : β} (h : Q a) : Sat (some a) Q := ⟨a, rfl, h⟩
theorem sat_ite {c : Bool} {x y : Option β} (h1 : c = true → Sat x Q) (h2 : c = false → Sat y Q) : Sat (if c = true then x else y) Q := by
  cases c with
  | true => rw [if_pos rfl]; exact h1 rfl
  | false => rw [if_neg Bool.false_ne_true]; exact h2 rfl
theorem sat_get (h : Sat o (fun r => r = a)) : o = some a := by
  obtain ⟨r, e, p⟩ := h
  rw [e, p]
variable {γ : Type}
theorem sat_for {b : γ → S → Option (Stp S ρ)} {xs : List γ} {s0 : S} {g : Stp S ρ → Option β} (I : Nat → S → Prop)
    (h : ∀ i x s, xs[i]? = some x → I i s → Sat (b x s) (fun st => ∃ s', st = .nx s' ∧ I (i + 1) s')) (h0 : I 0 s0) (k : ∀ s, I xs.length s → Sat (g (.nx s)) Q) : Sat ((forM' b xs s0).bind g) Q := by
  obtain ⟨s', e, i⟩ := forM_ind (b := b) I xs 0 s0 (fun i x s hx hi => by
    rw [Nat.zero_add] at hi
    obtain ⟨st, e, s', e2, q⟩ := h i x s hx hi
    exact ⟨s', by rw [e, e2], by rw [Nat.zero_add]; exact q⟩) h0
  rw [e]
  rw [Nat.zero_add] at i
  exact k s' i
theorem sat_forA {b : γ → S → Option (Stp S ρ)} {xs : List γ} {s0 : S} {g : Stp S ρ → Option β} (I : S → Prop)
    (h : ∀ x ∈ xs, ∀ s, I s → Sat (b x s) (fun st => ∃ s', st = .nx s' ∧ I s')) (h0 : I s0) (k : ∀ s, I s → Sat (g (.nx s)) Q) : Sat ((forM' b xs s0).bind g) Q :=
  sat_for (fun _ => I) (fun i x s hx hi => h x (List.mem_of_getElem? hx) s hi) h0 fun s hi => k s hi
theorem sat_nx {s : S} {g : S → Option β} (k : Sat (g s) Q) : Sat ((nxt (Stp.nx (ρ := ρ) s)).bind g) Q := k
theorem sat_end {s : S} {I : S → Prop} (h : I s) : Sat (some (Stp.nx (ρ := ρ) s)) (fun st => ∃ s', st = .nx s' ∧ I s') := ⟨_, rfl, s, rfl, h⟩
end
theorem rng_len (lo : Int) (n : Nat) : (rng lo n).length = n := by unfold rng; rw [List.length_map, List.length_range]
theorem rng_get {lo : Int} {n i : Nat} {x : Int} (h : (rng lo n)[i]? = some x) : i < n ∧ x = lo + (i : Int) := by
  have lt := getlt h
  rw [rng_len] at lt
  unfold rng at h
  rw [List.getElem?_map, List.getElem?_range lt] at h
  exact ⟨lt, (Option.some.inj h).symm⟩
theorem sat_atI {α β : Type} {Q : β → Prop} {l : List α} {i : Int} {f : α → Option β} (h0 : 0 ≤ i) (h : i < (l.length : Int)) (k : ∀ x ∈ l, Sat (f x) Q) : Sat ((atI l i).bind f) Q := by
  obtain ⟨n, rfl⟩ := Int.eq_ofNat_of_zero_le h0
  have lt : n < l.length := by omega
  rw [atI_nat (List.getElem?_eq_getElem lt)]
  exact k _ (List.getElem_mem lt)
theorem cdiv_s {i j : Int} (h : 0 < j) (h2 : j < 2 ^ 64) : CDivW i j := ⟨h, by
  have : j.natAbs < 2 ^ 64 := by omega
  have h0 : j.natAbs ≠ 0 := by omega
  have := (Nat.log2_lt h0 (k := 64)).mpr this
  omega⟩
theorem size_lt {n m : Nat} (h : n ≤ m) (hm : m < 16777216) : n < sizeLine := Nat.lt_of_le_of_lt h (by show m < 2 ^ 24; exact hm)
theorem size_le {n m : Nat} (h : n ≤ m) (hm : m ≤ 16777216) : n ≤ sizeLine := Nat.le_trans h (by show m ≤ 2 ^ 24; exact hm)
/-! ### what a machine has counted -/
theorem nd_le {α : Type} [DecidableEq α] : ∀ {l m : List α}, l.Nodup → (∀ x ∈ l, x ∈ m) → l.length ≤ m.length
  | [], _, _, _ => Nat.zero_le _
  | x :: r, m, h, s => by
    obtain ⟨h1, h2⟩ := List.nodup_cons.mp h
    have hx := s x List.mem_cons_self
    have := nd_le (l := r) (m := m.erase x) h2 fun y hy => (List.mem_erase_of_ne (fun e => h1 (by rw [← e]; exact hy))).mpr (s y (List.mem_cons_of_mem _ hy))
    rw [List.length_erase_of_mem hx] at this
    have := List.length_pos_of_mem hx
    rw [List.length_cons]
    omega
/-- the words with numbers above 0 -/
def posL (l : List (Str × Int)) : List (Str × Int) := l.filter fun p => decide (0 < p.2)
theorem lookup_of {l : List (Str × Int)} (hd : (l.map (·.1)).Nodup) {x : Str × Int} (h : x ∈ l) : l.lookup x.1 = some x.2 := by
  induction l with
  | nil => cases h
  | cons a r ih =>
    rw [List.map_cons] at hd
    obtain ⟨h1, h2⟩ := List.nodup_cons.mp hd
    rw [show (a :: r) = ((a.1, a.2) :: r) from rfl, List.lookup_cons]
    rcases List.mem_cons.mp h with e | e
    · subst e; rw [beq_self_eq_true]
    · have ne : (x.1 == a.1) = false := by
        cases q : x.1 == a.1 with
        | false => rfl
        | true => exact absurd (List.mem_map.mpr ⟨x, e, by rw [beq_iff_eq.mp q]⟩) h1
      rw [ne]
      exact ih h2 e
theorem same_of {l m : List (Str × Int)} (h1 : (l.map (·.1)).Nodup) (h2 : (m.map (·.1)).Nodup) (h : ∀ x, x ∈ l ↔ x ∈ m) : sameD l m := by
  have nd : ∀ {l : List (Str × Int)}, (l.map (·.1)).Nodup → l.Nodup := fun {l} h => by
    induction l with
    | nil => exact List.nodup_nil
    | cons a r ih =>
      rw [List.map_cons] at h
      obtain ⟨q1, q2⟩ := List.nodup_cons.mp h
      exact List.nodup_cons.mpr ⟨fun z => q1 (List.mem_map.mpr ⟨a, z, rfl⟩), ih q2⟩
  refine ⟨Nat.le_antisymm (nd_le (nd h1) fun x hx => (h x).mp hx) (nd_le (nd h2) fun x hx => (h x).mpr hx), fun x hx => lookup_of h2 ((h x).mp hx)⟩
theorem tally_keys (S : MS) : (S.tally.map (·.1)).Nodup := by
  have : S.tally.map (·.1) = mwords := by
    unfold MS.tally
    rw [List.map_map]
    exact List.map_id _
  rw [this]
  exact mwords_nd
/-- the same above 0 -/
def Cnt (S : MS) (l : List (Str × Int)) : Prop := (l.map (·.1)).Nodup ∧ (∀ x ∈ l, x.1 ∈ mwords) ∧ ∀ w ∈ mwords, (∀ n, l.lookup w = some n → 0 < n → S.cnt w = n) ∧ (0 < S.cnt w → l.lookup w = some (S.cnt w))
theorem lcM_filter {γ : Type} {b : γ → Unit → Option (Option γ × Unit)} {p : γ → Bool} : ∀ {l : List γ}, (∀ x ∈ l, b x () = some (if p x = true then some x else none, ())) → lcM b l () = some (l.filter p, ())
  | [], _ => rfl
  | x :: r, h => by
    show (b x ()).bind _ = _
    rw [h x List.mem_cons_self, List.filter_cons]
    show (lcM b r ()).bind _ = _
    rw [lcM_filter fun y hy => h y (List.mem_cons_of_mem _ hy)]
    cases p x <;> rfl
end VL
namespace VL
open PySem L2
end VL
namespace VL
open PySem L2
end VL
namespace VL
open PySem L2
def WkOk (l : List (T3 Str Int Int)) : Prop := ∀ x ∈ l, (PyData.str x.a).canLay0 = true
theorem wkok_dat {l : List (T3 Str Int Int)} (h : WkOk l) : Dat.ok (LF.mk l) := fun x hx => ⟨h x hx, trivial, trivial⟩
theorem wkok_one {w : Str} {m n : Int} (hw : (PyData.str w).canLay0 = true := by decide +kernel) : WkOk [T3.mk w m n] := fun x hx => by rw [List.mem_singleton.mp hx]; exact hw
end VL
namespace VL
open PySem L2
end VL

set_option Elab.async false
set_option linter.all false
/-! bits of any integers -/
namespace VL
open PySem L2 PyProof.Rows
abbrev band := Builtin.bitAnd
theorem half (x y : Int) : band x y = 2 * band (x / 2) (y / 2) + (if x % 2 = 1 ∧ y % 2 = 1 then 1 else 0) := PySem.W.kbt_halves x y
/-! one bit -/
def bit (x : Int) (i : Nat) : Int := x / 2 ^ i % 2
end VL

set_option Elab.async false
set_option linter.all false
set_option maxRecDepth 100000
/-! VD: long division digit by digit, by numbers: the guess, how often it is corrected, what each place finds. -/
namespace VL
open PySem L2
section
variable {B E b r : Nat}
variable {h v1 v2 : Nat}
end
/-! ### the steps, by the two numbers that are divided: b has all its digits, E stands behind its last two -/
/-- what is divided at place i: the rest so far and the next digit -/
def dvR (B A b i : Nat) : Nat := A / B ^ (i + 1) % b * B + A / B ^ i % B
def dvS (B E A b i : Nat) : T4 Int Int Bool Int :=
  ⟨((dvR B A b i / E / B / (b / E / B) : Nat) : Int), ((dvR B A b i / E / B / (b / E / B) : Nat) : Int) - ((dvR B A b i / E / (b / E) : Nat) : Int), decide (dvR B A b i / b < dvR B A b i / E / (b / E)), ((dvR B A b i / b : Nat) : Int)⟩
/-- the steps of k places, from the top -/
def dvSteps (B E A b : Nat) : Nat → List (T4 Int Int Bool Int)
  | 0 => []
  | k + 1 => dvS B E A b k :: dvSteps B E A b k
end VL

set_option Elab.async false
set_option linter.all false
set_option maxRecDepth 100000
set_option maxHeartbeats 4000000
namespace P
open PySem L2 VL
section
variable {P : Program} {w : World} {mg : Str → Option Value} {base : Heap} {T : TC}

noncomputable def M_is_integer (x0 : Int) : Option Bool :=
  some (true && (!false))
def Pre_is_integer (T : TC) : PreT := fun As Ω R => ∃ (x0 : Int) (r : Bool), As = [va T x0] ∧ M_is_integer x0 = some r ∧ R = RV (va T r) (stt Ω [] [])
theorem sc_is_integer : FnScope ["value"] ["value"] (defScope s_is_integer) := ⟨rfl, rfl, rfl, by decide +kernel, rfl, by decide +kernel, by decide +kernel⟩
theorem ok_is_integer {f : Addr} {fd : FuncData} (F : Fun T.K "is_integer" "is_integer" s_is_integer f fd) (z_isinstance : mg "isinstance" = none) (z_int : mg "int" = none) (z_bool : mg "bool" = none) : FnOk P w T.K mg base CX0 1 f fd ["value"] (mkSp (Pre_is_integer T)) := by
  refine fn_ok F sc_is_integer (fun As Ω R h => ?_) (fun cdv A outer s H E hr As Ω R F0 h => ?_)
  · obtain ⟨x0, r, rfl, _⟩ := h
    rfl
  obtain ⟨x0, r, rfl, hm, rfl⟩ := h
  refine ⟨_, (pss_one (ps_ret (pe_and (pe_callB (cr_isiK (K := T.K) rfl) (by rfl) z_isinstance (by decide +kernel) (pa_cons (pv 0) (pa_cons (pe_bltn (v := .ty "int") (by rfl) z_int (by decide +kernel) rfl) pa_nil))) (pe_one (pe_not (pe_callB (cr_isiK (K := T.K) rfl) (by rfl) z_isinstance (by decide +kernel) (pa_cons (pv 0) (pa_cons (pe_bltn (v := .ty "bool") (by rfl) z_bool (by decide +kernel) rfl) pa_nil)))))))), fun D hrt hnx => ?_⟩
  have ok : Okk Ω [] := okk0
  suffices hx : XS _ D F0 [some (va T x0)] (stt Ω [] []) by
    rw [show (stt Ω [] []) = Ω from stt_self (by simp)] at hx
    exact hx
  unfold M_is_integer at hm
  obtain rfl := Option.some.inj hm
  refine xs_ret (xe_andV (xe_isi (xe_var (i := 0) rfl) xe_vx (.ty _) (fun F H v hh a => ty_int hh a) (kit_ty (by decide +kernel))) (fun _ => (xe_notV (xe_isi (xe_var (i := 0) rfl) xe_vx (.ty _) (fun F H v hh a => ty_int hh a) (kit_ty (by decide +kernel)))))) hrt.all
noncomputable def M_is_between (x0 : Int) (x1 : Int) (x2 : Int) : Option Bool :=
  (M_is_integer x0).bind fun z1 => some (z1 && (decide (x1 ≤ x0) && decide (x0 ≤ x2)))
def Pre_is_between (T : TC) : PreT := fun As Ω R => ∃ (x0 : Int) (x1 : Int) (x2 : Int) (r : Bool), As = [va T x0, va T x1, va T x2] ∧ M_is_between x0 x1 x2 = some r ∧ R = RV (va T r) (stt Ω [] [])
theorem sc_is_between : FnScope ["value", "low", "high"] ["value", "low", "high"] (defScope s_is_between) := ⟨rfl, rfl, rfl, by decide +kernel, rfl, by decide +kernel, by decide +kernel⟩
theorem ok_is_between {f : Addr} {fd : FuncData} (F : Fun T.K "is_between" "is_between" s_is_between f fd) (c_is_integer : Cal P w T.K mg base 1 "is_integer" ["value"] (mkSp (Pre_is_integer T))) : FnOk P w T.K mg base CX0 2 f fd ["value", "low", "high"] (mkSp (Pre_is_between T)) := by
  refine fn_ok F sc_is_between (fun As Ω R h => ?_) (fun cdv A outer s H E hr As Ω R F0 h => ?_)
  · obtain ⟨x0, x1, x2, r, rfl, _⟩ := h
    rfl
  obtain ⟨x0, x1, x2, r, rfl, hm, rfl⟩ := h
  refine ⟨_, (pss_one (ps_ret (pe_and (pe_cal c_is_integer (hr.mono (by decide)) (by rfl) (pa_cons (pv 0) pa_nil)) (pe_one (pe_chain op_le op_le (pv 1) (pv 0) (pv 2)))))), fun D hrt hnx => ?_⟩
  have ok : Okk Ω [] := okk0
  suffices hx : XS _ D F0 [some (va T x0), some (va T x1), some (va T x2)] (stt Ω [] []) by
    rw [show (stt Ω [] []) = Ω from stt_self (by simp)] at hx
    exact hx
  unfold M_is_between at hm
  obtain ⟨z1, hz1, hm⟩ := bnd_some hm
  obtain rfl := Option.some.inj hm
  refine xs_ret (xe_andV (xe_call (xa_cons (xe_var (i := 0) rfl) xa_nil) ⟨x0, z1, rfl, hz1, rfl⟩ cal0) (fun _ => (xe_chain (xe_var (i := 1) rfl) (xe_var (i := 0) rfl) ro_bl (fun _ => (xe_var (i := 2) rfl)) (fun _ => ro_bl)))) hrt.all
theorem sc_Mach_step : FnScope ["self", "word", "many"] ["self", "word", "many"] (defScope s_Mach_step) := ⟨rfl, rfl, rfl, by decide +kernel, rfl, by decide +kernel, by decide +kernel⟩
theorem ok_Mach_step {f : Addr} {fd : FuncData} (F : Fun T.K "step" "Machine.step" s_Mach_step f fd) (mc : MCls T.K (T.C 0))  : FnOk P w T.K mg base CX0 1 f fd ["self", "word", "many"] (mkSp (Pre_Mach_step T)) := by
  refine fn_ok F sc_Mach_step (fun As Ω R h => ?_) (fun cdv A outer s H E hr As Ω R F0 h => ?_)
  · obtain ⟨k, p, x, wd, n, rfl, _⟩ := h; rfl
  obtain ⟨k, p, x, wd, n, rfl, hk, hw, rfl⟩ := h
  refine ⟨_, pss_one (ps_daug (hu_of hr) (pe_fld (pv 0) (by rfl)) (pv 1) (pv 2) in_add (fun _ _ _ => rfl)), fun D hrt hnx => ?_⟩
  exact xs_step mc rfl rfl rfl hk hw fun σ H ⟨F, f0, e, hh⟩ => hnx F σ H _ f0 hh ⟨rfl, stt_one.symm⟩
theorem sc_Mach_enter : FnScope ["self", "word", "m", "n"] ["self", "word", "m", "n"] (defScope s_Mach_enter) := ⟨rfl, rfl, rfl, by decide +kernel, rfl, by decide +kernel, by decide +kernel⟩
theorem ok_Mach_enter {f : Addr} {fd : FuncData} (F : Fun T.K "enter" "Machine.enter" s_Mach_enter f fd) (mc : MCls T.K (T.C 0)) (z_len : mg "len" = none) (g_LONGEST_WALK : ∃ u, mg "LONGEST_WALK" = some u ∧ RelV (.int 1000) u) : FnOk P w T.K mg base CX0 1 f fd ["self", "word", "m", "n"] (mkSp (Pre_Mach_enter T)) := by
  refine fn_ok F sc_Mach_enter (fun As Ω R h => ?_) (fun cdv A outer s H E hr As Ω R F0 h => ?_)
  · obtain ⟨k, p, x, wd, m, n, rfl, _⟩ := h; rfl
  obtain ⟨k, p, x, wd, m, n, rfl, hk, rfl⟩ := h
  refine ⟨_, pss_one (ps_if (pt_cmpR op_lt (pe_callB cr_len (by rfl) z_len PySem.boot_len (pa_cons (pe_fld (pv 0) (by rfl)) pa_nil)) (pe_gl rfl g_LONGEST_WALK) (nomark _)) (pss_one (ps_expr (pe_bm PySem.F.plainAttrs_list PySem.F.slot_list_append PySem.F.type_list_append mt_append (pe_fld (pv 0) (by rfl)) (pa_cons (pe_tup (pa_cons (pv 1) (pa_cons (pv 2) (pa_cons (pv 3) pa_nil)))) pa_nil)))) pss_nil), fun D hrt hnx => ?_⟩
  exact xs_enter mc rfl rfl rfl rfl hk fun σ H ⟨F, f0, e, hh⟩ => hnx F σ H _ f0 hh ⟨rfl, stt_one.symm⟩
theorem sc_Mach_reset : FnScope ["self", "word"] ["self"] (defScope s_Mach_reset) := ⟨rfl, rfl, rfl, by decide +kernel, rfl, by decide +kernel, by decide +kernel⟩
theorem ok_Mach_reset {f : Addr} {fd : FuncData} (F : Fun T.K "reset" "Machine.reset" s_Mach_reset f fd) (mc : MCls T.K (T.C 0)) {aW : Addr} (g_WORDS : ∃ u, mg "WORDS" = some u ∧ RelV (.ref aW) u) (hW : ∀ H, SqT T.K H aW (mwords.map V.str)) : FnOk P w T.K mg base CX0 1 f fd ["self"] (mkSp (Pre_Mach_reset T)) := by
  refine fn_ok F sc_Mach_reset (fun As Ω R h => ?_) (fun cdv A outer s H E hr As Ω R F0 h => ?_)
  · obtain ⟨k, p, x, rfl, _⟩ := h; rfl
  obtain ⟨k, p, x, rfl, hk, rfl⟩ := h
  refine ⟨_, pss_cons (ps_fld (pv 0) (pe_dc (own := [("word", 1)]) rfl sc_Mach_reset.nd (pi_tup (pe_gl rfl g_WORDS)) (blkOk_by (N := ["self", "word"]) (sc := defScope s_Mach_reset) (by decide +kernel)) (fun _ _ _ _ _ => pg_name (i := 1) sc_Mach_reset.nd rfl (.inl rfl)) (fun _ _ _ _ _ => pts_nil) (fun _ _ _ _ _ => pv 1) (fun _ _ _ _ _ => pe_int)) rfl) (pss_one (ps_fld (pv 0) (pe_lst pa_nil) rfl)), fun D hrt hnx => ?_⟩
  exact xs_mreset mc hW (by simp) (by simp) rfl hk fun σ H ⟨F, f0, e, hh⟩ => hnx F σ H _ f0 hh ⟨rfl, stt_one.symm⟩
theorem sc_Mach_tally : FnScope ["self", "word"] ["self"] (defScope s_Mach_tally) := ⟨rfl, rfl, rfl, by decide +kernel, rfl, by decide +kernel, by decide +kernel⟩
theorem ok_Mach_tally {f : Addr} {fd : FuncData} (F : Fun T.K "tally" "Machine.tally" s_Mach_tally f fd) (mc : MCls T.K (T.C 0)) {aW : Addr} (g_WORDS : ∃ u, mg "WORDS" = some u ∧ RelV (.ref aW) u) (hW : ∀ H, SqT T.K H aW (mwords.map V.str)) : FnOk P w T.K mg base CX0 1 f fd ["self"] (mkSp (Pre_Mach_tally T)) := by
  refine fn_ok F sc_Mach_tally (fun As Ω R h => ?_) (fun cdv A outer s H E hr As Ω R F0 h => ?_)
  · obtain ⟨k, p, x, rfl, _⟩ := h; rfl
  obtain ⟨k, p, x, rfl, hk, rfl⟩ := h
  refine ⟨_, pss_one (ps_ret (pe_lc (own := [("word", 1)]) rfl sc_Mach_tally.nd (pi_tup (pe_gl rfl g_WORDS)) (blkOk_by (N := ["self", "word"]) (sc := defScope s_Mach_tally) (by decide +kernel)) (fun _ _ _ _ _ => pg_name (i := 1) sc_Mach_tally.nd rfl (.inl rfl)) (fun _ _ _ _ _ => pts_nil) (fun _ _ _ _ _ => pe_tup (pa_cons (pv 1) (pa_cons (pe_dget (by exact hu_of hr) (pe_fldK (K := T.K) (pv 0) (by rfl) rfl) (pv 1) (by intro _ _; rfl)) pa_nil))))), fun D hrt hnx => ?_⟩
  exact xs_ret (xe_tally mc hW (by simp) rfl (by simp [wip]) hk) hrt
theorem sc_Mach_walk : FnScope ["self"] ["self"] (defScope s_Mach_walk) := ⟨rfl, rfl, rfl, by decide +kernel, rfl, by decide +kernel, by decide +kernel⟩
theorem ok_Mach_walk {f : Addr} {fd : FuncData} (F : Fun T.K "walk" "Machine.walk" s_Mach_walk f fd) (mc : MCls T.K (T.C 0)) (z_list : mg "list" = none) : FnOk P w T.K mg base CX0 1 f fd ["self"] (mkSp (Pre_Mach_walk T)) := by
  refine fn_ok F sc_Mach_walk (fun As Ω R h => ?_) (fun cdv A outer s H E hr As Ω R F0 h => ?_)
  · obtain ⟨k, p, x, rfl, _⟩ := h; rfl
  obtain ⟨k, p, x, rfl, hk, rfl⟩ := h
  refine ⟨_, pss_one (ps_ret (pe_callTy cr_list (by rfl) z_list (by decide +kernel) (pa_cons (pe_fld (pv 0) (by rfl)) pa_nil))), fun D hrt hnx => ?_⟩
  exact xs_ret (xe_walk mc rfl hk) hrt
theorem sc_Mach_init : FnScope ["self", "bits", "cutoff", "word"] ["self", "bits", "cutoff"] (defScope s_Mach_init) := ⟨rfl, rfl, rfl, by decide +kernel, rfl, by decide +kernel, by decide +kernel⟩
theorem ok_Mach_init {f : Addr} {fd : FuncData} (F : FunD T.K "__init__" "Machine.__init__" (defArgs s_Mach_init) (defBody s_Mach_init) (defScope s_Mach_init) [.int 30, .int 70] [] f fd) (mc : MCls T.K (T.C 0)) {aW : Addr} (g_WORDS : ∃ u, mg "WORDS" = some u ∧ RelV (.ref aW) u) (hW : ∀ H, SqT T.K H aW (mwords.map V.str)) (c_is_between : Cal P w T.K mg base 2 "is_between" ["value", "low", "high"] (mkSp (Pre_is_between T))) : FnOk P w T.K mg base CX0 3 f fd ["self", "bits", "cutoff"] (mkSp (Pre_Machine T)) := by
  refine fn_okD F sc_Mach_init (fun As Ω R h => ?_) (fun cdv A outer s H E hr As Ω R F0 h => ?_)
  · obtain ⟨Ω0, p, w, c, rfl, _⟩ := h; rfl
  obtain ⟨Ω0, p, w, c, rfl, hc, rfl, rfl⟩ := h
  refine ⟨_, pss_cons (ps_if (pt_not (pt_val (pe_cal c_is_between (hr.mono (by decide)) (by rfl) (pa_cons (pv 1) (pa_cons pe_int (pa_cons pe_int pa_nil)))))) pss_never pss_nil) (pss_cons (ps_if (pt_not (pt_val (pe_cal c_is_between (hr.mono (by decide)) (by rfl) (pa_cons (pv 2) (pa_cons pe_int (pa_cons pe_int pa_nil)))))) pss_never pss_nil) (pss_cons (ps_fld (pv 0) (pv 1) rfl) (pss_cons (ps_fld (pv 0) (pv 2) rfl) (pss_cons (ps_fld (pv 0) (pe_dc (own := [("word", 3)]) rfl sc_Mach_init.nd (pi_tup (pe_gl rfl g_WORDS)) (blkOk_by (N := ["self", "bits", "cutoff", "word"]) (sc := defScope s_Mach_init) (by decide +kernel)) (fun _ _ _ _ _ => pg_name (i := 3) sc_Mach_init.nd rfl (.inl rfl)) (fun _ _ _ _ _ => pts_nil) (fun _ _ _ _ _ => pv 3) (fun _ _ _ _ _ => pe_int)) rfl) (pss_one (ps_fld (pv 0) (pe_lst pa_nil) rfl)))))), fun D hrt hnx => ?_⟩
  have m1 : M_is_between w 8 30 = some true := by simp [M_is_between, M_is_integer, hc.1.1, hc.1.2]
  have m2 : M_is_between c 2 1000 = some true := by simp [M_is_between, M_is_integer, hc.2.1, hc.2.2]
  show XS _ D F0 [some (vr p), some (va T w), some (va T c), none] _
  refine xs_ifN (xt_notF (xt_tB (T := T) (xe_call (xa_cons (xe_var (i := 1) rfl) (xa_cons xe_int (xa_cons xe_int xa_nil))) ⟨w, 8, 30, true, rfl, m1, rfl⟩ (List.append_nil _)))) ?_
  show XS _ D F0 [some (vr p), some (va T w), some (va T c), none] _
  refine xs_ifN (xt_notF (xt_tB (T := T) (xe_call (xa_cons (xe_var (i := 2) rfl) (xa_cons xe_int (xa_cons xe_int xa_nil))) ⟨c, 2, 1000, true, rfl, m2, rfl⟩ (List.append_nil _)))) ?_
  show XS _ D F0 [some (vr p), some (va T w), some (va T c), none] _
  exact xs_minit (k := Ω0.length) mc hW (by simp) (by simp) rfl rfl rfl app_at fun σ H ⟨F, f0, e, hh⟩ => hnx F σ H _ f0 hh ⟨rfl, set_last⟩
noncomputable def M_Big_eq (x0 : Bg) (x1 : Bg) : Option Bool :=
  some (true && ((decide (x0.w = x1.w)) && (decide (x0.v = x1.v))))
def Pre_Big_eq (T : TC) : PreT := fun As Ω R => ∃ (x0 : Bg) (x1 : Bg) (r : Bool), As = [va T x0, va T x1] ∧ M_Big_eq x0 x1 = some r ∧ R = RV (va T r) (stt Ω [] [])
theorem sc_Big_eq : FnScope ["self", "other"] ["self", "other"] (defScope s_Big_eq) := ⟨rfl, rfl, rfl, by decide +kernel, rfl, by decide +kernel, by decide +kernel⟩
theorem ok_Big_eq {f : Addr} {fd : FuncData} (F : Fun T.K "__eq__" "Big.__eq__" s_Big_eq f fd) (z_isinstance : mg "isinstance" = none) (icb : ICls T.K (T.C 1)) (g_Big : ∃ u, mg "Big" = some u ∧ RelV (.ref (T.C 1)) u) (bc : BCls T.K (T.C 1)) : FnOk P w T.K mg base CX0 1 f fd ["self", "other"] (mkSp (Pre_Big_eq T)) := by
  refine fn_ok F sc_Big_eq (fun As Ω R h => ?_) (fun cdv A outer s H E hr As Ω R F0 h => ?_)
  · obtain ⟨x0, x1, r, rfl, _⟩ := h
    rfl
  obtain ⟨x0, x1, r, rfl, hm, rfl⟩ := h
  refine ⟨_, (pss_one (ps_ret (pe_and (pe_callB (cr_isiK (K := T.K) rfl) (by rfl) z_isinstance (by decide +kernel) (pa_cons (pv 1) (pa_cons (pe_gl rfl g_Big) pa_nil))) (pe_and (pe_cmpR (op_eqXK (K := T.K) (by exact hr.units) rfl) (pe_fldK (K := T.K) (pv 0) (by rfl) rfl) (pe_fldK (K := T.K) (pv 1) (by rfl) rfl) (nomark _)) (pe_one (pe_cmpR (op_eqXK (K := T.K) (by exact hr.units) rfl) (pe_fldK (K := T.K) (pv 0) (by rfl) rfl) (pe_fldK (K := T.K) (pv 1) (by rfl) rfl) (nomark _))))))), fun D hrt hnx => ?_⟩
  have ok : Okk Ω [] := okk0
  suffices hx : XS _ D F0 [some (va T x0), some (va T x1)] (stt Ω [] []) by
    rw [show (stt Ω [] []) = Ω from stt_self (by simp)] at hx
    exact hx
  unfold M_Big_eq at hm
  obtain rfl := Option.some.inj hm
  refine xs_ret (xe_andV (xe_isi (xe_var (i := 1) rfl) xe_vx (.own _) (fun F H v hh a => ty_big icb hh a) icb.kit) (fun _ => (xe_andV (xe_eqI (xe_bw bc.cl bc.nw (xe_var (i := 0) rfl)) (xe_bw bc.cl bc.nw (xe_var (i := 1) rfl))) (fun _ => (xe_eqI (xe_bv bc.cl bc.nv (xe_var (i := 0) rfl)) (xe_bv bc.cl bc.nv (xe_var (i := 1) rfl))))))) hrt.all
noncomputable def M_Big_digits (x0 : Bg) : Option (List Int) :=
  some x0.row
def Pre_Big_digits (T : TC) : PreT := fun As Ω R => ∃ (x0 : Bg) (r : List Int), As = [va T x0] ∧ M_Big_digits x0 = some r ∧ R = RV (va T (LF.mk r)) (stt Ω [] [])
theorem sc_Big_digits : FnScope ["self"] ["self"] (defScope s_Big_digits) := ⟨rfl, rfl, rfl, by decide +kernel, rfl, by decide +kernel, by decide +kernel⟩
theorem ok_Big_digits {f : Addr} {fd : FuncData} (F : Fun T.K "digits" "Big.digits" s_Big_digits f fd) (bc : BCls T.K (T.C 1)) (z_list : mg "list" = none) : FnOk P w T.K mg base CX0 1 f fd ["self"] (mkSp (Pre_Big_digits T)) := by
  refine fn_ok F sc_Big_digits (fun As Ω R h => ?_) (fun cdv A outer s H E hr As Ω R F0 h => ?_)
  · obtain ⟨x0, r, rfl, _⟩ := h
    rfl
  obtain ⟨x0, r, rfl, hm, rfl⟩ := h
  refine ⟨_, (pss_one (ps_ret (pe_callTy (cr_listK (K := T.K) rfl) (by rfl) z_list (by decide +kernel) (pa_cons (pe_fldK (K := T.K) (pv 0) (by rfl) rfl) pa_nil)))), fun D hrt hnx => ?_⟩
  have ok : Okk Ω [] := okk0
  suffices hx : XS _ D F0 [some (va T x0)] (stt Ω [] []) by
    rw [show (stt Ω [] []) = Ω from stt_self (by simp)] at hx
    exact hx
  unfold M_Big_digits at hm
  obtain rfl := Option.some.inj hm
  refine xs_ret (xe_listT (xe_br bc.cl bc.nr (xe_var (i := 0) rfl)) isT_TF) hrt.all
noncomputable def M_Big_sign (x0 : Bg) : Option Int :=
  some (sgn x0.v)
def Pre_Big_sign (T : TC) : PreT := fun As Ω R => ∃ (x0 : Bg) (r : Int), As = [va T x0] ∧ M_Big_sign x0 = some r ∧ R = RV (va T r) (stt Ω [] [])
theorem sc_Big_sign : FnScope ["self"] ["self"] (defScope s_Big_sign) := ⟨rfl, rfl, rfl, by decide +kernel, rfl, by decide +kernel, by decide +kernel⟩
theorem ok_Big_sign {f : Addr} {fd : FuncData} (F : Fun T.K "sign" "Big.sign" s_Big_sign f fd) (bc : BCls T.K (T.C 1)) : FnOk P w T.K mg base CX0 1 f fd ["self"] (mkSp (Pre_Big_sign T)) := by
  refine fn_ok F sc_Big_sign (fun As Ω R h => ?_) (fun cdv A outer s H E hr As Ω R F0 h => ?_)
  · obtain ⟨x0, r, rfl, _⟩ := h
    rfl
  obtain ⟨x0, r, rfl, hm, rfl⟩ := h
  refine ⟨_, (pss_one (ps_ret (pe_fldK (K := T.K) (pv 0) (by rfl) rfl))), fun D hrt hnx => ?_⟩
  have ok : Okk Ω [] := okk0
  suffices hx : XS _ D F0 [some (va T x0)] (stt Ω [] []) by
    rw [show (stt Ω [] []) = Ω from stt_self (by simp)] at hx
    exact hx
  unfold M_Big_sign at hm
  obtain rfl := Option.some.inj hm
  refine xs_ret (xe_bs bc.cl bc.ns (xe_var (i := 0) rfl)) hrt.all
noncomputable def M_Big_bits (x0 : Bg) : Option Int :=
  some x0.w
def Pre_Big_bits (T : TC) : PreT := fun As Ω R => ∃ (x0 : Bg) (r : Int), As = [va T x0] ∧ M_Big_bits x0 = some r ∧ R = RV (va T r) (stt Ω [] [])
theorem sc_Big_bits : FnScope ["self"] ["self"] (defScope s_Big_bits) := ⟨rfl, rfl, rfl, by decide +kernel, rfl, by decide +kernel, by decide +kernel⟩
theorem ok_Big_bits {f : Addr} {fd : FuncData} (F : Fun T.K "bits" "Big.bits" s_Big_bits f fd) (bc : BCls T.K (T.C 1)) : FnOk P w T.K mg base CX0 1 f fd ["self"] (mkSp (Pre_Big_bits T)) := by
  refine fn_ok F sc_Big_bits (fun As Ω R h => ?_) (fun cdv A outer s H E hr As Ω R F0 h => ?_)
  · obtain ⟨x0, r, rfl, _⟩ := h
    rfl
  obtain ⟨x0, r, rfl, hm, rfl⟩ := h
  refine ⟨_, (pss_one (ps_ret (pe_fldK (K := T.K) (pv 0) (by rfl) rfl))), fun D hrt hnx => ?_⟩
  have ok : Okk Ω [] := okk0
  suffices hx : XS _ D F0 [some (va T x0)] (stt Ω [] []) by
    rw [show (stt Ω [] []) = Ω from stt_self (by simp)] at hx
    exact hx
  unfold M_Big_bits at hm
  obtain rfl := Option.some.inj hm
  refine xs_ret (xe_bw bc.cl bc.nw (xe_var (i := 0) rfl)) hrt.all
noncomputable def M_order_of (x0 : Int) (x1 : Int) : Option Int :=
  if (decide (x0 < x1)) = true then some (-(1 : Int)) else some (if (decide (x0 = x1)) = true then (0 : Int) else (1 : Int))
def Pre_order_of (T : TC) : PreT := fun As Ω R => ∃ (x0 : Int) (x1 : Int) (r : Int), As = [va T x0, va T x1] ∧ M_order_of x0 x1 = some r ∧ R = RV (va T r) (stt Ω [] [])
theorem sc_order_of : FnScope ["a", "b"] ["a", "b"] (defScope s_order_of) := ⟨rfl, rfl, rfl, by decide +kernel, rfl, by decide +kernel, by decide +kernel⟩
theorem ok_order_of {f : Addr} {fd : FuncData} (F : Fun T.K "order_of" "order_of" s_order_of f fd)  : FnOk P w T.K mg base CX0 1 f fd ["a", "b"] (mkSp (Pre_order_of T)) := by
  refine fn_ok F sc_order_of (fun As Ω R h => ?_) (fun cdv A outer s H E hr As Ω R F0 h => ?_)
  · obtain ⟨x0, x1, r, rfl, _⟩ := h
    rfl
  obtain ⟨x0, x1, r, rfl, hm, rfl⟩ := h
  refine ⟨_, (pss_cons (ps_if (pt_cmpR op_lt (pv 0) (pv 1) (nomark _)) (pss_one (ps_ret (pe_un un_neg pe_int))) pss_nil) (pss_one (ps_ret (pe_ifExp (pt_cmpR (op_eqXK (K := T.K) (by exact hr.units) rfl) (pv 0) (pv 1) (nomark _)) pe_int pe_int)))), fun D hrt hnx => ?_⟩
  have ok : Okk Ω [] := okk0
  suffices hx : XS _ D F0 [some (va T x0), some (va T x1)] (stt Ω [] []) by
    rw [show (stt Ω [] []) = Ω from stt_self (by simp)] at hx
    exact hx
  unfold M_order_of at hm
  by_cases hc : (decide (x0 < x1)) = true
  · rw [if_pos hc] at hm
    refine xs_ifT (xt_eq (xt_test (T := T) (xe_lt (xe_var (i := 0) rfl) (xe_var (i := 1) rfl))) hc) ?_
    obtain rfl := Option.some.inj hm
    refine xs_ret (xe_neg xe_int) hrt.all
  · rw [if_neg hc] at hm
    refine xs_ifN (xt_eq (xt_test (T := T) (xe_lt (xe_var (i := 0) rfl) (xe_var (i := 1) rfl))) (nt hc)) ?_
    show XS (tRet _) _ _ [some (va T x0), some (va T x1)] (stt Ω [] [])
    obtain rfl := Option.some.inj hm
    refine xs_ret (xe_ite (xt_test (T := T) (xe_eqI (xe_var (i := 0) rfl) (xe_var (i := 1) rfl))) xe_int xe_int) hrt.all
theorem sc_Big_init : FnScope ["self", "width", "value", "row"] ["self", "width", "value", "row"] (defScope s_Big_init) := ⟨rfl, rfl, rfl, by decide +kernel, rfl, by decide +kernel, by decide +kernel⟩
theorem order_sgn (v : Int) : M_order_of v 0 = some (sgn v) := by
  unfold M_order_of sgn
  by_cases h : v < 0
  · rw [if_pos (decide_eq_true h), if_pos h]
  · rw [if_neg (by simpa using h), if_neg h]
    by_cases e : v = 0
    · rw [if_pos (decide_eq_true e), if_pos e]
    · rw [if_neg (by simpa using e), if_neg e]
theorem ok_Big_init {f : Addr} {fd : FuncData} (F : Fun T.K "__init__" "Big.__init__" s_Big_init f fd) (bc : BCls T.K (T.C 1)) (z_tuple : mg "tuple" = none) (c_order_of : Cal P w T.K mg base 1 "order_of" ["a", "b"] (mkSp (Pre_order_of T))) : FnOk P w T.K mg base CX0 2 f fd ["self", "width", "value", "row"] (mkSp (Pre_Big T)) := by
  refine fn_ok F sc_Big_init (fun As Ω R h => ?_) (fun cdv A outer s H E hr As Ω R F0 h => ?_)
  · obtain ⟨Ω0, p, w, sd, row, B, _, rfl, _⟩ := h; rfl
  obtain ⟨Ω0, p, w, sd, row, B, hB, rfl, rfl, rfl⟩ := h
  refine ⟨_, pss_cons (ps_fld (pv 0) (pv 1) rfl) (pss_cons (ps_fld (pv 0) (pe_cal c_order_of (hr.mono (by decide)) (by rfl) (pa_cons (pv 2) (pa_cons pe_int pa_nil))) rfl) (pss_cons (ps_fld (pv 0) (pe_callTy cr_tuple (by rfl) z_tuple (by decide +kernel) (pa_cons (pv 3) pa_nil)) rfl) (pss_one (ps_fld (pv 0) (pv 2) rfl)))), fun D hrt hnx => ?_⟩
  show XS _ D F0 [some (vr p), some (va T w), some (va T sd), some B] _
  refine xs_binit (k := Ω0.length) (row := row) bc rfl rfl rfl (fun Ω' => xe_call (xa_cons (xe_var (i := 2) rfl) (xa_cons xe_int xa_nil)) ⟨sd, 0, sgn sd, rfl, order_sgn sd, rfl⟩ cal0') (fun Ω' => ?_) app_at fun σ H ⟨F, f0, e, hh⟩ => hnx F σ H _ f0 hh ⟨rfl, set_last⟩
  rcases hB with rfl | rfl
  · exact xe_tupleL (xe_var (i := 3) rfl) isL_LF
  · exact xe_tupleT (xe_var (i := 3) rfl)
noncomputable def M_check_machine (x0 : MS) : Option Unit :=
  (chkP (true = true)).bind fun z1 => some ()
def Pre_check_machine (T : TC) : PreT := fun As Ω R => ∃ (k0 : Nat) (p0 : Addr) (x0 : MS) (r : Unit), As = [vr p0] ∧ Ω[k0]? = some (machA T p0 x0) ∧ M_check_machine x0 = some r ∧ R = RV (va T r) (stt Ω [] [])
theorem sc_check_machine : FnScope ["machine"] ["machine"] (defScope s_check_machine) := ⟨rfl, rfl, rfl, by decide +kernel, rfl, by decide +kernel, by decide +kernel⟩
theorem ok_check_machine {f : Addr} {fd : FuncData} (F : Fun T.K "check_machine" "check_machine" s_check_machine f fd) (z_isinstance : mg "isinstance" = none) (icm : ICls T.K (T.C 0)) (g_Machine : ∃ u, mg "Machine" = some u ∧ RelV (.ref (T.C 0)) u) : FnOk P w T.K mg base CX0 1 f fd ["machine"] (mkSp (Pre_check_machine T)) := by
  refine fn_ok F sc_check_machine (fun As Ω R h => ?_) (fun cdv A outer s H E hr As Ω R F0 h => ?_)
  · obtain ⟨k0, p0, x0, r, rfl, _⟩ := h
    rfl
  obtain ⟨k0, p0, x0, r, rfl, hk0, hm, rfl⟩ := h
  refine ⟨_, (pss_one (ps_if (pt_not (pt_val (pe_callB (cr_isiK (K := T.K) rfl) (by rfl) z_isinstance (by decide +kernel) (pa_cons (pv 0) (pa_cons (pe_gl rfl g_Machine) pa_nil))))) pss_never pss_nil)), fun D hrt hnx => ?_⟩
  have ok : Okk Ω [] := okk0
  suffices hx : XS _ D F0 [some (vr p0)] (stt Ω [] []) by
    rw [show (stt Ω [] []) = Ω from stt_self (by simp)] at hx
    exact hx
  unfold M_check_machine at hm
  obtain ⟨z1, hz1, hm⟩ := bnd_some hm
  refine xs_ifF1 (xt_notF (xt_eq (xt_tB (T := T) (xe_isi (xe_var (i := 0) rfl) xe_vx (.own _) (fun F H v hh a => ty_mach icm (stt_getU hk0) hh a) icm.kit)) (chkP_some hz1))) ?_
  obtain rfl := Option.some.inj hm
  exact fun σ H ⟨F, f0, e, hh⟩ => hnx F σ H _ f0 hh.all ⟨rfl, rfl⟩
noncomputable def M_top_digit (x0 : Int) : Option Int :=
  (chkP (CShl (1 : Int) x0)).bind fun z1 => some (((1 : Int) * 2 ^ (x0).toNat) - (1 : Int))
def Pre_top_digit (T : TC) : PreT := fun As Ω R => ∃ (x0 : Int) (r : Int), As = [va T x0] ∧ M_top_digit x0 = some r ∧ R = RV (va T r) (stt Ω [] [])
theorem sc_top_digit : FnScope ["width"] ["width"] (defScope s_top_digit) := ⟨rfl, rfl, rfl, by decide +kernel, rfl, by decide +kernel, by decide +kernel⟩
theorem ok_top_digit {f : Addr} {fd : FuncData} (F : Fun T.K "top_digit" "top_digit" s_top_digit f fd)  : FnOk P w T.K mg base CX0 1 f fd ["width"] (mkSp (Pre_top_digit T)) := by
  refine fn_ok F sc_top_digit (fun As Ω R h => ?_) (fun cdv A outer s H E hr As Ω R F0 h => ?_)
  · obtain ⟨x0, r, rfl, _⟩ := h
    rfl
  obtain ⟨x0, r, rfl, hm, rfl⟩ := h
  refine ⟨_, (pss_one (ps_ret (pe_op op_sub (pe_op op_shlW pe_int (pv 0)) pe_int))), fun D hrt hnx => ?_⟩
  have ok : Okk Ω [] := okk0
  suffices hx : XS _ D F0 [some (va T x0)] (stt Ω [] []) by
    rw [show (stt Ω [] []) = Ω from stt_self (by simp)] at hx
    exact hx
  unfold M_top_digit at hm
  obtain ⟨z1, hz1, hm⟩ := bnd_some hm
  obtain rfl := Option.some.inj hm
  refine xs_ret (xe_sub (xe_shl (chkP_some hz1) xe_int (xe_var (i := 0) rfl)) xe_int) hrt.all
noncomputable def M_size_of (x0 : Int) (x1 : Int) : Option Int :=
  (chkP (CDivW ((((Builtin.Int.intBits x1 : Nat) : Int) + x0) - (1 : Int)) x0)).bind fun z1 => some (((((Builtin.Int.intBits x1 : Nat) : Int) + x0) - (1 : Int)) / x0)
def Pre_size_of (T : TC) : PreT := fun As Ω R => ∃ (x0 : Int) (x1 : Int) (r : Int), As = [va T x0, va T x1] ∧ M_size_of x0 x1 = some r ∧ R = RV (va T r) (stt Ω [] [])
theorem sc_size_of : FnScope ["width", "n"] ["width", "n"] (defScope s_size_of) := ⟨rfl, rfl, rfl, by decide +kernel, rfl, by decide +kernel, by decide +kernel⟩
theorem ok_size_of {f : Addr} {fd : FuncData} (F : Fun T.K "size_of" "size_of" s_size_of f fd)  : FnOk P w T.K mg base CX0 2 f fd ["width", "n"] (mkSp (Pre_size_of T)) := by
  refine fn_ok F sc_size_of (fun As Ω R h => ?_) (fun cdv A outer s H E hr As Ω R F0 h => ?_)
  · obtain ⟨x0, x1, r, rfl, _⟩ := h
    rfl
  obtain ⟨x0, x1, r, rfl, hm, rfl⟩ := h
  refine ⟨_, (pss_one (ps_ret (pe_op op_fdivW (pe_op op_sub (pe_op op_addQ (pe_bits (pv 1)) (pv 0)) pe_int) (pv 0)))), fun D hrt hnx => ?_⟩
  have ok : Okk Ω [] := okk0
  suffices hx : XS _ D F0 [some (va T x0), some (va T x1)] (stt Ω [] []) by
    rw [show (stt Ω [] []) = Ω from stt_self (by simp)] at hx
    exact hx
  unfold M_size_of at hm
  obtain ⟨z1, hz1, hm⟩ := bnd_some hm
  obtain rfl := Option.some.inj hm
  refine xs_ret (xe_fdiv (chkP_some hz1) (xe_sub (xe_add (xe_bits (xe_var (i := 1) rfl)) (xe_var (i := 0) rfl)) xe_int) (xe_var (i := 0) rfl)) hrt.all
noncomputable def M_number_of : Nat → Int → (List Int) → Option Int
  | 0, _, _ => none
  | kf + 1, x0, x1 => (some (x1.length : Int)).bind fun y1 => if (decide ((32 : Int) < y1)) = true then (chkP (CDivW y1 (2 : Int))).bind fun z2 => (some (y1 / (2 : Int))).bind fun y3 => (M_number_of kf x0 (cut x1 none (some y3))).bind fun z4 => (M_number_of kf x0 (cut x1 (some y3) none)).bind fun z5 => (chkP (IntMulOk y3 x0)).bind fun z6 => (chkP (CShl z5 (y3 * x0))).bind fun z7 => some (z4 + (z5 * 2 ^ ((y3 * x0)).toNat)) else (forM' (ρ := Unit) (fun (a9 : Int) (s8 : Int) => (chkP (CShl s8 x0)).bind fun z10 => (some ((s8 * 2 ^ (x0).toNat) + a9)).bind fun y11 => some (Stp.nx y11)) ((x1).reverse) (0 : Int)).bind fun z12 => (nxt z12).bind fun s13 => some s13
theorem M_number_of_succ (kf : Nat) (x0 : Int) (x1 : List Int) : M_number_of (kf + 1) x0 x1 = ((some (x1.length : Int)).bind fun y1 => if (decide ((32 : Int) < y1)) = true then (chkP (CDivW y1 (2 : Int))).bind fun z2 => (some (y1 / (2 : Int))).bind fun y3 => (M_number_of kf x0 (cut x1 none (some y3))).bind fun z4 => (M_number_of kf x0 (cut x1 (some y3) none)).bind fun z5 => (chkP (IntMulOk y3 x0)).bind fun z6 => (chkP (CShl z5 (y3 * x0))).bind fun z7 => some (z4 + (z5 * 2 ^ ((y3 * x0)).toNat)) else (forM' (ρ := Unit) (fun (a9 : Int) (s8 : Int) => (chkP (CShl s8 x0)).bind fun z10 => (some ((s8 * 2 ^ (x0).toNat) + a9)).bind fun y11 => some (Stp.nx y11)) ((x1).reverse) (0 : Int)).bind fun z12 => (nxt z12).bind fun s13 => some s13) := by rw [M_number_of]
theorem M_number_of_zero (x0 : Int) (x1 : List Int) : M_number_of 0 x0 x1 = none := by rw [M_number_of]
def Pre_number_of (kf : Nat) (T : TC) : PreT := fun As Ω R => ∃ (x0 : Int) (x1 : List Int) (r : Int), As = [va T x0, va T (LF.mk x1)] ∧ M_number_of kf x0 x1 = some r ∧ R = RV (va T r) (stt Ω [] [])
theorem sc_number_of : FnScope ["width", "row", "size", "half", "number", "digit"] ["width", "row"] (defScope s_number_of) := ⟨rfl, rfl, rfl, by decide +kernel, rfl, by decide +kernel, by decide +kernel⟩
theorem ok0_number_of {f : Addr} {fd : FuncData} (F : Fun T.K "number_of" "number_of" s_number_of f fd) : FnOk P w T.K mg base CX0 1 f fd ["width", "row"] (mkSp (Pre_number_of 0 T)) := by
  refine fn_ok (k := 0) F sc_number_of (fun As Ω R h => ?_) (fun cdv A outer s H E hr As Ω R F0 h => ?_)
  · obtain ⟨x0, x1, r, rfl, _⟩ := h
    rfl
  obtain ⟨x0, x1, r, rfl, hm, rfl⟩ := h
  rw [M_number_of_zero] at hm
  cases hm
theorem ok_number_of (kf : Nat) {f : Addr} {fd : FuncData} (F : Fun T.K "number_of" "number_of" s_number_of f fd) (z_len : mg "len" = none) (g_LONGEST_LOOP : ∃ u, mg "LONGEST_LOOP" = some u ∧ RelV (.int 32) u) (c_number_of : Cal P w T.K mg base (1 + kf) "number_of" ["width", "row"] (mkSp (Pre_number_of kf T))) (z_reversed : mg "reversed" = none) : FnOk P w T.K mg base CX0 (1 + kf + 1) f fd ["width", "row"] (mkSp (Pre_number_of (kf + 1) T)) := by
  refine fn_ok F sc_number_of (fun As Ω R h => ?_) (fun cdv A outer s H E hr As Ω R F0 h => ?_)
  · obtain ⟨x0, x1, r, rfl, _⟩ := h
    rfl
  obtain ⟨x0, x1, r, rfl, hm, rfl⟩ := h
  refine ⟨_, (pss_cons (ps_set (i := 2) sc_number_of.nd rfl (.inl rfl) (pe_callB (cr_lenK (K := T.K) rfl) (by rfl) z_len PySem.boot_len (pa_cons (pv 1) pa_nil))) (pss_cons (ps_if (pt_cmpR op_gt (pv 2) (pe_gl rfl g_LONGEST_LOOP) (nomark _)) (pss_cons (ps_set (i := 3) sc_number_of.nd rfl (.inl rfl) (pe_op op_fdivW (pv 2) pe_int)) (pss_one (ps_ret (pe_op op_addQ (pe_cal c_number_of (hr.mono (by omega)) (by rfl) (pa_cons (pv 0) (pa_cons (pe_slice (sl_listK (K := T.K) rfl) (pv 1) po_none (po_some (pv 3))) pa_nil))) (pe_op op_shlW (pe_cal c_number_of (hr.mono (by omega)) (by rfl) (pa_cons (pv 0) (pa_cons (pe_slice (sl_listK (K := T.K) rfl) (pv 1) (po_some (pv 3)) po_none) pa_nil))) (pe_op op_mulQ (pv 3) (pv 0))))))) pss_nil) (pss_cons (ps_set (i := 4) sc_number_of.nd rfl (.inl rfl) pe_int) (pss_cons (ps_for PassesOwn.never rfl (RT.pi_revA (by rfl) z_reversed (pv 1)) (pg_name (i := 5) sc_number_of.nd rfl (.inl rfl)) (pss_one (ps_set (i := 4) sc_number_of.nd rfl (.inl rfl) (pe_op op_addQ (pe_op op_shlW (pv 4) (pv 0)) (pv 5))))) (pss_one (ps_ret (pv 4))))))), fun D hrt hnx => ?_⟩
  have ok : Okk Ω [] := okk0
  suffices hx : XS _ D F0 [some (va T x0), some (va T (LF.mk x1)), none, none, none, none] (stt Ω [] []) by
    rw [show (stt Ω [] []) = Ω from stt_self (by simp)] at hx
    exact hx
  rw [M_number_of_succ] at hm
  obtain ⟨y1, hy1, hm⟩ := bnd_some hm
  refine xs_set (A := va T y1) (xe_eq (xe_lenL (xe_var (i := 1) rfl) isL_LF) (Option.some.inj hy1)) ?_
  show XS (tSeq _ _) _ _ [some (va T x0), some (va T (LF.mk x1)), some (va T y1), none, none, none] (stt Ω [] [])
  by_cases hc : (decide ((32 : Int) < y1)) = true
  · rw [if_pos hc] at hm
    refine xs_ifT (xt_eq (xt_test (T := T) (xe_gt (xe_var (i := 2) rfl) xe_int)) hc) ?_
    obtain ⟨z2, hz2, hm⟩ := bnd_some hm
    obtain ⟨y3, hy3, hm⟩ := bnd_some hm
    refine xs_set (A := va T y3) (xe_eq (xe_fdiv (chkP_some hz2) (xe_var (i := 2) rfl) xe_int) (Option.some.inj hy3)) ?_
    show XS (tRet _) _ _ [some (va T x0), some (va T (LF.mk x1)), some (va T y1), some (va T y3), none, none] (stt Ω [] [])
    obtain ⟨z4, hz4, hm⟩ := bnd_some hm
    obtain ⟨z5, hz5, hm⟩ := bnd_some hm
    obtain ⟨z6, hz6, hm⟩ := bnd_some hm
    obtain ⟨z7, hz7, hm⟩ := bnd_some hm
    obtain rfl := Option.some.inj hm
    refine xs_ret (xe_add (xe_call (xa_cons (xe_var (i := 0) rfl) (xa_cons (xe_sliceL (xe_var (i := 1) rfl) xo_none (xo_some (T := T) (xe_var (i := 3) rfl)) isL_LF) xa_nil)) ⟨x0, (cut x1 none (some y3)), z4, rfl, hz4, rfl⟩ cal0) (xe_shl (chkP_some hz7) (xe_call (xa_cons (xe_var (i := 0) rfl) (xa_cons (xe_sliceL (xe_var (i := 1) rfl) (xo_some (T := T) (xe_var (i := 3) rfl)) xo_none isL_LF) xa_nil)) ⟨x0, (cut x1 (some y3) none), z5, rfl, hz5, rfl⟩ cal0) (xe_mul (chkP_some hz6) (xe_var (i := 3) rfl) (xe_var (i := 0) rfl)))) hrt.all
  · rw [if_neg hc] at hm
    refine xs_ifN (xt_eq (xt_test (T := T) (xe_gt (xe_var (i := 2) rfl) xe_int)) (nt hc)) ?_
    show XS (tSeq _ _) _ _ [some (va T x0), some (va T (LF.mk x1)), some (va T y1), none, none, none] (stt Ω [] [])
    refine xs_set (A := va T (0 : Int)) xe_int ?_
    show XS (tSeq _ _) _ _ [some (va T x0), some (va T (LF.mk x1)), some (va T y1), none, some (va T (0 : Int)), none] (stt Ω [] [])
    obtain ⟨z12, hz12, hm⟩ := bnd_some hm
    refine xs_forS (fun (s8 : Int) => [some (va T x0), some (va T (LF.mk x1)), some (va T y1), none, some (va T s8), none]) (fun (s8 : Int) => (stt Ω [] [])) (fun (_ : Unit) _ _ _ => False) hz12 (xi_revL (xe_var (i := 1) rfl)) (fun _ => tgt_name) (fun a9 s8 s' ha hm F1 D1 e1 hD => ?_) (fun s13 es => ?_) (fun r1 es => ?_)
    · show XS (tAsg _ _) _ _ [some (va T x0), some (va T (LF.mk x1)), some (va T y1), none, some (va T s8), some (va T a9)] (stt Ω [] [])
      obtain ⟨z10, hz10, hm⟩ := bnd_some hm
      obtain ⟨y11, hy11, hm⟩ := bnd_some hm
      refine xs_set1 (A := va T y11) (xe_eq (xe_add (xe_shl (chkP_some hz10) (xe_var (i := 4) rfl) (xe_var (i := 0) rfl)) (xe_var (i := 5) rfl)) (Option.some.inj hy11)) ?_
      obtain rfl := Option.some.inj hm
      exact fun σ H n => hD.nx _ rfl σ H (n.forget 5)
    · subst es
      obtain ⟨s2, hs2, hm⟩ := bnd_some hm
      cases hs2
      show XS (tRet _) _ _ [some (va T x0), some (va T (LF.mk x1)), some (va T y1), none, some (va T s13), none] (stt Ω [] [])
      obtain rfl := Option.some.inj hm
      refine xs_ret (xe_var (i := 4) rfl) hrt.all
    · subst es
      cases hm
noncomputable def M_low_part (x0 : Int) (x1 : Int) (x2 : Int) : Option Int :=
  (chkP (IntMulOk x2 x0)).bind fun z1 => (chkP (CShl (1 : Int) (x2 * x0))).bind fun z2 => some (Builtin.bitAnd x1 (((1 : Int) * 2 ^ ((x2 * x0)).toNat) - (1 : Int)))
def Pre_low_part (T : TC) : PreT := fun As Ω R => ∃ (x0 : Int) (x1 : Int) (x2 : Int) (r : Int), As = [va T x0, va T x1, va T x2] ∧ M_low_part x0 x1 x2 = some r ∧ R = RV (va T r) (stt Ω [] [])
theorem sc_low_part : FnScope ["width", "n", "size"] ["width", "n", "size"] (defScope s_low_part) := ⟨rfl, rfl, rfl, by decide +kernel, rfl, by decide +kernel, by decide +kernel⟩
theorem ok_low_part {f : Addr} {fd : FuncData} (F : Fun T.K "low_part" "low_part" s_low_part f fd)  : FnOk P w T.K mg base CX0 1 f fd ["width", "n", "size"] (mkSp (Pre_low_part T)) := by
  refine fn_ok F sc_low_part (fun As Ω R h => ?_) (fun cdv A outer s H E hr As Ω R F0 h => ?_)
  · obtain ⟨x0, x1, x2, r, rfl, _⟩ := h
    rfl
  obtain ⟨x0, x1, x2, r, rfl, hm, rfl⟩ := h
  refine ⟨_, (pss_one (ps_ret (pe_op op_and (pv 1) (pe_op op_sub (pe_op op_shlW pe_int (pe_op op_mulQ (pv 2) (pv 0))) pe_int)))), fun D hrt hnx => ?_⟩
  have ok : Okk Ω [] := okk0
  suffices hx : XS _ D F0 [some (va T x0), some (va T x1), some (va T x2)] (stt Ω [] []) by
    rw [show (stt Ω [] []) = Ω from stt_self (by simp)] at hx
    exact hx
  unfold M_low_part at hm
  obtain ⟨z1, hz1, hm⟩ := bnd_some hm
  obtain ⟨z2, hz2, hm⟩ := bnd_some hm
  obtain rfl := Option.some.inj hm
  refine xs_ret (xe_band (xe_var (i := 1) rfl) (xe_sub (xe_shl (chkP_some hz2) xe_int (xe_mul (chkP_some hz1) (xe_var (i := 2) rfl) (xe_var (i := 0) rfl))) xe_int)) hrt.all
noncomputable def M_row_of : Nat → Int → Int → Int → Option (List Int)
  | 0, _, _, _ => none
  | kf + 1, x0, x1, x2 => if (decide ((32 : Int) < x2)) = true then (chkP (CDivW x2 (2 : Int))).bind fun z1 => (some (x2 / (2 : Int))).bind fun y2 => (M_low_part x0 x1 y2).bind fun z3 => (M_row_of kf x0 z3 y2).bind fun z4 => (chkP (IntMulOk y2 x0)).bind fun z5 => (chkP (0 ≤ (y2 * x0))).bind fun z6 => (M_row_of kf x0 (x1 / 2 ^ ((y2 * x0)).toNat) (x2 - y2)).bind fun z7 => (chkP (z4.length + z7.length ≤ sizeLine)).bind fun z8 => some (z4 ++ z7) else (M_top_digit x0).bind fun z9 => (some ([] : List Int)).bind fun y10 => (chkP (-(2 ^ 62) ≤ x2 ∧ x2 < 2 ^ 62)).bind fun z13 => (forM' (ρ := Unit) (fun (a15 : Int) (s14 : Int × (List Int)) => (chkP (s14.2.length < sizeLine)).bind fun z16 => (chkP (0 ≤ x0)).bind fun z17 => (some (s14.1 / 2 ^ (x0).toNat)).bind fun y18 => some (Stp.nx (y18, (s14.2 ++ [(Builtin.bitAnd s14.1 z9)])))) (rng 0 (x2).toNat) (x1, y10)).bind fun z19 => (nxt z19).bind fun s20 => some s20.2
theorem M_row_of_succ (kf : Nat) (x0 : Int) (x1 : Int) (x2 : Int) : M_row_of (kf + 1) x0 x1 x2 = (if (decide ((32 : Int) < x2)) = true then (chkP (CDivW x2 (2 : Int))).bind fun z1 => (some (x2 / (2 : Int))).bind fun y2 => (M_low_part x0 x1 y2).bind fun z3 => (M_row_of kf x0 z3 y2).bind fun z4 => (chkP (IntMulOk y2 x0)).bind fun z5 => (chkP (0 ≤ (y2 * x0))).bind fun z6 => (M_row_of kf x0 (x1 / 2 ^ ((y2 * x0)).toNat) (x2 - y2)).bind fun z7 => (chkP (z4.length + z7.length ≤ sizeLine)).bind fun z8 => some (z4 ++ z7) else (M_top_digit x0).bind fun z9 => (some ([] : List Int)).bind fun y10 => (chkP (-(2 ^ 62) ≤ x2 ∧ x2 < 2 ^ 62)).bind fun z13 => (forM' (ρ := Unit) (fun (a15 : Int) (s14 : Int × (List Int)) => (chkP (s14.2.length < sizeLine)).bind fun z16 => (chkP (0 ≤ x0)).bind fun z17 => (some (s14.1 / 2 ^ (x0).toNat)).bind fun y18 => some (Stp.nx (y18, (s14.2 ++ [(Builtin.bitAnd s14.1 z9)])))) (rng 0 (x2).toNat) (x1, y10)).bind fun z19 => (nxt z19).bind fun s20 => some s20.2) := by rw [M_row_of]
theorem M_row_of_zero (x0 : Int) (x1 : Int) (x2 : Int) : M_row_of 0 x0 x1 x2 = none := by rw [M_row_of]
def Pre_row_of (kf : Nat) (T : TC) : PreT := fun As Ω R => ∃ (x0 : Int) (x1 : Int) (x2 : Int) (r : List Int), As = [va T x0, va T x1, va T x2] ∧ M_row_of kf x0 x1 x2 = some r ∧ R = RV (va T (LF.mk r)) (stt Ω [] [])
theorem sc_row_of : FnScope ["width", "n", "size", "half", "top", "row", "place"] ["width", "n", "size"] (defScope s_row_of) := ⟨rfl, rfl, rfl, by decide +kernel, rfl, by decide +kernel, by decide +kernel⟩
theorem ok0_row_of {f : Addr} {fd : FuncData} (F : Fun T.K "row_of" "row_of" s_row_of f fd) : FnOk P w T.K mg base CX0 1 f fd ["width", "n", "size"] (mkSp (Pre_row_of 0 T)) := by
  refine fn_ok (k := 0) F sc_row_of (fun As Ω R h => ?_) (fun cdv A outer s H E hr As Ω R F0 h => ?_)
  · obtain ⟨x0, x1, x2, r, rfl, _⟩ := h
    rfl
  obtain ⟨x0, x1, x2, r, rfl, hm, rfl⟩ := h
  rw [M_row_of_zero] at hm
  cases hm
theorem ok_row_of (kf : Nat) {f : Addr} {fd : FuncData} (F : Fun T.K "row_of" "row_of" s_row_of f fd) (g_LONGEST_LOOP : ∃ u, mg "LONGEST_LOOP" = some u ∧ RelV (.int 32) u) (c_low_part : Cal P w T.K mg base 1 "low_part" ["width", "n", "size"] (mkSp (Pre_low_part T))) (c_row_of : Cal P w T.K mg base (1 + kf) "row_of" ["width", "n", "size"] (mkSp (Pre_row_of kf T))) (c_top_digit : Cal P w T.K mg base 1 "top_digit" ["width"] (mkSp (Pre_top_digit T))) (z_range : mg "range" = none) : FnOk P w T.K mg base CX0 (1 + kf + 1) f fd ["width", "n", "size"] (mkSp (Pre_row_of (kf + 1) T)) := by
  refine fn_ok F sc_row_of (fun As Ω R h => ?_) (fun cdv A outer s H E hr As Ω R F0 h => ?_)
  · obtain ⟨x0, x1, x2, r, rfl, _⟩ := h
    rfl
  obtain ⟨x0, x1, x2, r, rfl, hm, rfl⟩ := h
  refine ⟨_, (pss_cons (ps_if (pt_cmpR op_gt (pv 2) (pe_gl rfl g_LONGEST_LOOP) (nomark _)) (pss_cons (ps_set (i := 3) sc_row_of.nd rfl (.inl rfl) (pe_op op_fdivW (pv 2) pe_int)) (pss_one (ps_ret (pe_op op_addQ (pe_cal c_row_of (hr.mono (by omega)) (by rfl) (pa_cons (pv 0) (pa_cons (pe_cal c_low_part (hr.mono (by omega)) (by rfl) (pa_cons (pv 0) (pa_cons (pv 1) (pa_cons (pv 3) pa_nil)))) (pa_cons (pv 3) pa_nil)))) (pe_cal c_row_of (hr.mono (by omega)) (by rfl) (pa_cons (pv 0) (pa_cons (pe_op op_shr (pv 1) (pe_op op_mulQ (pv 3) (pv 0))) (pa_cons (pe_op op_sub (pv 2) (pv 3)) pa_nil)))))))) pss_nil) (pss_cons (ps_set (i := 4) sc_row_of.nd rfl (.inl rfl) (pe_cal c_top_digit (hr.mono (by omega)) (by rfl) (pa_cons (pv 0) pa_nil))) (pss_cons (ps_set (i := 5) sc_row_of.nd rfl (.inl rfl) (pe_lst pa_nil)) (pss_cons (ps_for PassesOwn.never rfl (pi_range1 rfl z_range (pa_cons (pv 2) pa_nil)) (pg_name (i := 6) sc_row_of.nd rfl (.inl rfl)) (pss_cons (ps_expr (pe_bm PySem.F.plainAttrs_list PySem.F.slot_list_append PySem.F.type_list_append mt_append (pv 5) (pa_cons (pe_op op_and (pv 1) (pv 4)) pa_nil))) (pss_one (ps_aug (i := 1) sc_row_of.nd rfl (.inl rfl) (pv 0) (ip_of iop_shr))))) (pss_one (ps_ret (pv 5))))))), fun D hrt hnx => ?_⟩
  have ok : Okk Ω [] := okk0
  suffices hx : XS _ D F0 [some (va T x0), some (va T x1), some (va T x2), none, none, none, none] (stt Ω [] []) by
    rw [show (stt Ω [] []) = Ω from stt_self (by simp)] at hx
    exact hx
  rw [M_row_of_succ] at hm
  by_cases hc : (decide ((32 : Int) < x2)) = true
  · rw [if_pos hc] at hm
    refine xs_ifT (xt_eq (xt_test (T := T) (xe_gt (xe_var (i := 2) rfl) xe_int)) hc) ?_
    obtain ⟨z1, hz1, hm⟩ := bnd_some hm
    obtain ⟨y2, hy2, hm⟩ := bnd_some hm
    refine xs_set (A := va T y2) (xe_eq (xe_fdiv (chkP_some hz1) (xe_var (i := 2) rfl) xe_int) (Option.some.inj hy2)) ?_
    show XS (tRet _) _ _ [some (va T x0), some (va T x1), some (va T x2), some (va T y2), none, none, none] (stt Ω [] [])
    obtain ⟨z3, hz3, hm⟩ := bnd_some hm
    obtain ⟨z4, hz4, hm⟩ := bnd_some hm
    obtain ⟨z5, hz5, hm⟩ := bnd_some hm
    obtain ⟨z6, hz6, hm⟩ := bnd_some hm
    obtain ⟨z7, hz7, hm⟩ := bnd_some hm
    obtain ⟨z8, hz8, hm⟩ := bnd_some hm
    obtain rfl := Option.some.inj hm
    refine xs_ret (xe_cat (xe_call (xa_cons (xe_var (i := 0) rfl) (xa_cons (xe_call (xa_cons (xe_var (i := 0) rfl) (xa_cons (xe_var (i := 1) rfl) (xa_cons (xe_var (i := 3) rfl) xa_nil))) ⟨x0, x1, y2, z3, rfl, hz3, rfl⟩ cal0) (xa_cons (xe_var (i := 3) rfl) xa_nil))) ⟨x0, z3, y2, z4, rfl, hz4, rfl⟩ cal0) (xe_call (xa_cons (xe_var (i := 0) rfl) (xa_cons (xe_shr (chkP_some hz6) (xe_var (i := 1) rfl) (xe_mul (chkP_some hz5) (xe_var (i := 3) rfl) (xe_var (i := 0) rfl))) (xa_cons (xe_sub (xe_var (i := 2) rfl) (xe_var (i := 3) rfl)) xa_nil))) ⟨x0, (x1 / 2 ^ ((y2 * x0)).toNat), (x2 - y2), z7, rfl, hz7, rfl⟩ cal0) isLs_LF isLs_LF (chkP_some hz8)) hrt.all
  · rw [if_neg hc] at hm
    refine xs_ifN (xt_eq (xt_test (T := T) (xe_gt (xe_var (i := 2) rfl) xe_int)) (nt hc)) ?_
    show XS (tSeq _ _) _ _ [some (va T x0), some (va T x1), some (va T x2), none, none, none, none] (stt Ω [] [])
    obtain ⟨z9, hz9, hm⟩ := bnd_some hm
    refine xs_set (A := va T z9) (xe_call (xa_cons (xe_var (i := 0) rfl) xa_nil) ⟨x0, z9, rfl, hz9, rfl⟩ cal0) ?_
    show XS (tSeq _ _) _ _ [some (va T x0), some (va T x1), some (va T x2), none, some (va T z9), none, none] (stt Ω [] [])
    obtain ⟨y10, hy10, hm⟩ := bnd_some hm
    obtain rfl := Option.some.inj hy10
    refine xs_setO ((xn_lst (T := T) (l := ([] : List Int)) xa_nil (Nat.zero_le _))) (fun pp11 => ?_)
    show XS (tSeq _ _) _ _ [some (va T x0), some (va T x1), some (va T x2), none, some (va T z9), some (vr pp11), none] (stt Ω [] [lstA T pp11 (([] : List Int) : List Int)])
    obtain ⟨z13, hz13, hm⟩ := bnd_some hm
    obtain ⟨z19, hz19, hm⟩ := bnd_some hm
    refine xs_forS (fun (s14 : Int × (List Int)) => [some (va T x0), some (va T s14.1), some (va T x2), none, some (va T z9), some (vr pp11), none]) (fun (s14 : Int × (List Int)) => (stt Ω [] [lstA T pp11 (s14.2 : List Int)])) (fun (_ : Unit) _ _ _ => False) hz19 (xi_range1 (T := T) (xa_cons (xe_var (i := 2) rfl) xa_nil) (chkP_some hz13).1 (chkP_some hz13).2) (fun _ => tgt_name) (fun a15 s14 s' ha hm F1 D1 e1 hD => ?_) (fun s20 es => ?_) (fun r1 es => ?_)
    · show XS (tSeq _ _) _ _ [some (va T x0), some (va T s14.1), some (va T x2), none, some (va T z9), some (vr pp11), some (va T a15)] (stt Ω [] [lstA T pp11 (s14.2 : List Int)])
      obtain ⟨z16, hz16, hm⟩ := bnd_some hm
      refine xs_drop (xe_appE (stt_getL (j := 0) rfl) (stt_getL (j := 0) rfl) (xe_var (i := 5) rfl) (xe_band (xe_var (i := 1) rfl) (xe_var (i := 4) rfl)) (chkP_some hz16) (stt_setL (j := 0))) ?_
      show XS (tAug _ _ _) _ _ [some (va T x0), some (va T s14.1), some (va T x2), none, some (va T z9), some (vr pp11), some (va T a15)] (stt Ω [] [lstA T pp11 ((s14.2 ++ [(Builtin.bitAnd s14.1 z9)]) : List Int)])
      obtain ⟨z17, hz17, hm⟩ := bnd_some hm
      obtain ⟨y18, hy18, hm⟩ := bnd_some hm
      refine xs_augD1 (T := T) rfl (chkP_some hz17) (xe_var (i := 0) rfl) (Option.some.inj hy18) ?_
      obtain rfl := Option.some.inj hm
      exact fun σ H n => hD.nx _ rfl σ H (n.forget 6)
    · subst es
      obtain ⟨s2, hs2, hm⟩ := bnd_some hm
      cases hs2
      show XS (tRet _) _ _ [some (va T x0), some (va T s20.1), some (va T x2), none, some (va T z9), some (vr pp11), none] (stt Ω [] [lstA T pp11 (s20.2 : List Int)])
      obtain rfl := Option.some.inj hm
      refine xs_fzJ (k := 5) (j := 0) rfl rfl ?_
      show XS _ _ _ [some (va T x0), some (va T s20.1), some (va T x2), none, some (va T z9), some (va T (LF.mk s20.2)), none] (stt Ω [] [nilA])
      exact xs_ret (xe_var (i := 5) rfl) hrt.all
    · subst es
      cases hm
noncomputable def M_check_big (x0 : Bg) (x1 : Str) : Option Unit :=
  (chkP (true = true)).bind fun z1 => some ()
def Pre_check_big (T : TC) : PreT := fun As Ω R => ∃ (x0 : Bg) (x1 : Str) (r : Unit), As = [va T x0, va T x1] ∧ M_check_big x0 x1 = some r ∧ R = RV (va T r) (stt Ω [] [])
theorem sc_check_big : FnScope ["value", "name"] ["value", "name"] (defScope s_check_big) := ⟨rfl, rfl, rfl, by decide +kernel, rfl, by decide +kernel, by decide +kernel⟩
theorem ok_check_big {f : Addr} {fd : FuncData} (F : Fun T.K "check_big" "check_big" s_check_big f fd) (z_isinstance : mg "isinstance" = none) (icb : ICls T.K (T.C 1)) (g_Big : ∃ u, mg "Big" = some u ∧ RelV (.ref (T.C 1)) u) : FnOk P w T.K mg base CX0 1 f fd ["value", "name"] (mkSp (Pre_check_big T)) := by
  refine fn_ok F sc_check_big (fun As Ω R h => ?_) (fun cdv A outer s H E hr As Ω R F0 h => ?_)
  · obtain ⟨x0, x1, r, rfl, _⟩ := h
    rfl
  obtain ⟨x0, x1, r, rfl, hm, rfl⟩ := h
  refine ⟨_, (pss_one (ps_if (pt_not (pt_val (pe_callB (cr_isiK (K := T.K) rfl) (by rfl) z_isinstance (by decide +kernel) (pa_cons (pv 0) (pa_cons (pe_gl rfl g_Big) pa_nil))))) pss_never pss_nil)), fun D hrt hnx => ?_⟩
  have ok : Okk Ω [] := okk0
  suffices hx : XS _ D F0 [some (va T x0), some (va T x1)] (stt Ω [] []) by
    rw [show (stt Ω [] []) = Ω from stt_self (by simp)] at hx
    exact hx
  unfold M_check_big at hm
  obtain ⟨z1, hz1, hm⟩ := bnd_some hm
  refine xs_ifF1 (xt_notF (xt_eq (xt_tB (T := T) (xe_isi (xe_var (i := 0) rfl) xe_vx (.own _) (fun F H v hh a => ty_big icb hh a) icb.kit)) (chkP_some hz1))) ?_
  obtain rfl := Option.some.inj hm
  exact fun σ H ⟨F, f0, e, hh⟩ => hnx F σ H _ f0 hh.all ⟨rfl, rfl⟩
noncomputable def M_big_of (x0 : MS) (x1 : Int) : Option Bg :=
  (M_size_of x0.w x1).bind fun z1 => (M_row_of 20 x0.w ((x1.natAbs : Nat) : Int) z1).bind fun z2 => some (Bg.mk x0.w z2 x1)
def Pre_big_of (T : TC) : PreT := fun As Ω R => ∃ (k0 : Nat) (p0 : Addr) (x0 : MS) (x1 : Int) (r : Bg), As = [vr p0, va T x1] ∧ Ω[k0]? = some (machA T p0 x0) ∧ M_big_of x0 x1 = some r ∧ R = RV (va T r) (stt Ω [] [])
theorem sc_big_of : FnScope ["machine", "value"] ["machine", "value"] (defScope s_big_of) := ⟨rfl, rfl, rfl, by decide +kernel, rfl, by decide +kernel, by decide +kernel⟩
theorem ok_big_of {f : Addr} {fd : FuncData} (F : Fun T.K "big_of" "big_of" s_big_of f fd) (mc : MCls T.K (T.C 0)) (z_abs : mg "abs" = none) (c_size_of : Cal P w T.K mg base 2 "size_of" ["width", "n"] (mkSp (Pre_size_of T))) (c_row_of : Cal P w T.K mg base 21 "row_of" ["width", "n", "size"] (mkSp (Pre_row_of 20 T))) (c_Big : CalC P w T.K mg base 2 "Big" (T.C 1) ["self", "width", "value", "row"] [] (mkSp (Pre_Big T))) : FnOk P w T.K mg base CX0 22 f fd ["machine", "value"] (mkSp (Pre_big_of T)) := by
  refine fn_ok F sc_big_of (fun As Ω R h => ?_) (fun cdv A outer s H E hr As Ω R F0 h => ?_)
  · obtain ⟨k0, p0, x0, x1, r, rfl, _⟩ := h
    rfl
  obtain ⟨k0, p0, x0, x1, r, rfl, hk0, hm, rfl⟩ := h
  refine ⟨_, (pss_one (ps_ret (pe_calC c_Big (hr.mono (by decide)) (by rfl) (pa_cons (pe_fldK (K := T.K) (pv 0) (by rfl) rfl) (pa_cons (pv 1) (pa_cons (pe_cal c_row_of (hr.mono (by decide)) (by rfl) (pa_cons (pe_fldK (K := T.K) (pv 0) (by rfl) rfl) (pa_cons (pe_callB cr_abs (by rfl) z_abs (by decide +kernel) (pa_cons (pv 1) pa_nil)) (pa_cons (pe_cal c_size_of (hr.mono (by decide)) (by rfl) (pa_cons (pe_fldK (K := T.K) (pv 0) (by rfl) rfl) (pa_cons (pv 1) pa_nil))) pa_nil)))) pa_nil)))))), fun D hrt hnx => ?_⟩
  have ok : Okk Ω [] := okk0
  suffices hx : XS _ D F0 [some (vr p0), some (va T x1)] (stt Ω [] []) by
    rw [show (stt Ω [] []) = Ω from stt_self (by simp)] at hx
    exact hx
  unfold M_big_of at hm
  obtain ⟨z1, hz1, hm⟩ := bnd_some hm
  obtain ⟨z2, hz2, hm⟩ := bnd_some hm
  obtain rfl := Option.some.inj hm
  refine xs_ret (xe_fzB (xn_make (Ds := []) (xa_cons (xe_mw mc.cl mc.nw (xe_var (i := 0) rfl) (stt_getU hk0)) (xa_cons (xe_var (i := 1) rfl) (xa_cons (xe_call (xa_cons (xe_mw mc.cl mc.nw (xe_var (i := 0) rfl) (stt_getU hk0)) (xa_cons (xe_abs (xe_var (i := 1) rfl)) (xa_cons (xe_call (xa_cons (xe_mw mc.cl mc.nw (xe_var (i := 0) rfl) (stt_getU hk0)) (xa_cons (xe_var (i := 1) rfl) xa_nil)) ⟨x0.w, x1, z1, rfl, hz1, rfl⟩ cal0) xa_nil))) ⟨x0.w, ((x1.natAbs : Nat) : Int), z1, z2, rfl, hz2, rfl⟩ cal0) xa_nil))) (fun _ => .nil) (fun q => ⟨_, q, x0.w, x1, z2, _, .inl rfl, rfl, rfl, rfl⟩))) hrt.all
noncomputable def M_big (x0 : MS) (x1 : Int) : Option Bg :=
  (M_check_machine x0).bind fun z1 => (M_is_integer x1).bind fun z2 => (chkP (z2 = true)).bind fun z3 => (M_big_of x0 x1).bind fun z4 => some z4
def Pre_big (T : TC) : PreT := fun As Ω R => ∃ (k0 : Nat) (p0 : Addr) (x0 : MS) (x1 : Int) (r : Bg), As = [vr p0, va T x1] ∧ Ω[k0]? = some (machA T p0 x0) ∧ M_big x0 x1 = some r ∧ R = RV (va T r) (stt Ω [] [])
theorem sc_big : FnScope ["machine", "n"] ["machine", "n"] (defScope s_big) := ⟨rfl, rfl, rfl, by decide +kernel, rfl, by decide +kernel, by decide +kernel⟩
theorem ok_big {f : Addr} {fd : FuncData} (F : Fun T.K "big" "big" s_big f fd) (c_check_machine : Cal P w T.K mg base 1 "check_machine" ["machine"] (mkSp (Pre_check_machine T))) (c_is_integer : Cal P w T.K mg base 1 "is_integer" ["value"] (mkSp (Pre_is_integer T))) (c_big_of : Cal P w T.K mg base 22 "big_of" ["machine", "value"] (mkSp (Pre_big_of T))) : FnOk P w T.K mg base CX0 23 f fd ["machine", "n"] (mkSp (Pre_big T)) := by
  refine fn_ok F sc_big (fun As Ω R h => ?_) (fun cdv A outer s H E hr As Ω R F0 h => ?_)
  · obtain ⟨k0, p0, x0, x1, r, rfl, _⟩ := h
    rfl
  obtain ⟨k0, p0, x0, x1, r, rfl, hk0, hm, rfl⟩ := h
  refine ⟨_, (pss_cons (ps_expr (pe_cal c_check_machine (hr.mono (by decide)) (by rfl) (pa_cons (pv 0) pa_nil))) (pss_cons (ps_if (pt_not (pt_val (pe_cal c_is_integer (hr.mono (by decide)) (by rfl) (pa_cons (pv 1) pa_nil)))) pss_never pss_nil) (pss_one (ps_ret (pe_cal c_big_of (hr.mono (by decide)) (by rfl) (pa_cons (pv 0) (pa_cons (pv 1) pa_nil))))))), fun D hrt hnx => ?_⟩
  have ok : Okk Ω [] := okk0
  suffices hx : XS _ D F0 [some (vr p0), some (va T x1)] (stt Ω [] []) by
    rw [show (stt Ω [] []) = Ω from stt_self (by simp)] at hx
    exact hx
  unfold M_big at hm
  obtain ⟨z1, hz1, hm⟩ := bnd_some hm
  refine xs_drop (xe_call (xa_cons (xe_var (i := 0) rfl) xa_nil) ⟨k0, p0, x0, z1, rfl, (stt_getU hk0), hz1, rfl⟩ cal0) ?_
  show XS (tSeq _ _) _ _ [some (vr p0), some (va T x1)] (stt Ω [] [])
  obtain ⟨z2, hz2, hm⟩ := bnd_some hm
  obtain ⟨z3, hz3, hm⟩ := bnd_some hm
  refine xs_ifN (xt_notF (xt_eq (xt_tB (T := T) (xe_call (xa_cons (xe_var (i := 1) rfl) xa_nil) ⟨x1, z2, rfl, hz2, rfl⟩ cal0)) (chkP_some hz3))) ?_
  show XS (tRet _) _ _ [some (vr p0), some (va T x1)] (stt Ω [] [])
  obtain ⟨z4, hz4, hm⟩ := bnd_some hm
  obtain rfl := Option.some.inj hm
  refine xs_ret (xe_call (xa_cons (xe_var (i := 0) rfl) (xa_cons (xe_var (i := 1) rfl) xa_nil)) ⟨k0, p0, x0, x1, z4, rfl, (stt_getU hk0), hz4, rfl⟩ cal0) hrt.all
noncomputable def M_plain (x0 : Bg) : Option Int :=
  (M_check_big x0 ("x" : Str)).bind fun z1 => some x0.v
def Pre_plain (T : TC) : PreT := fun As Ω R => ∃ (x0 : Bg) (r : Int), As = [va T x0] ∧ M_plain x0 = some r ∧ R = RV (va T r) (stt Ω [] [])
theorem sc_plain : FnScope ["x"] ["x"] (defScope s_plain) := ⟨rfl, rfl, rfl, by decide +kernel, rfl, by decide +kernel, by decide +kernel⟩
theorem ok_plain {f : Addr} {fd : FuncData} (F : Fun T.K "plain" "plain" s_plain f fd) (c_check_big : Cal P w T.K mg base 1 "check_big" ["value", "name"] (mkSp (Pre_check_big T))) (bc : BCls T.K (T.C 1)) : FnOk P w T.K mg base CX0 2 f fd ["x"] (mkSp (Pre_plain T)) := by
  refine fn_ok F sc_plain (fun As Ω R h => ?_) (fun cdv A outer s H E hr As Ω R F0 h => ?_)
  · obtain ⟨x0, r, rfl, _⟩ := h
    rfl
  obtain ⟨x0, r, rfl, hm, rfl⟩ := h
  refine ⟨_, (pss_cons (ps_expr (pe_cal c_check_big (hr.mono (by decide)) (by rfl) (pa_cons (pv 0) (pa_cons pe_str pa_nil)))) (pss_one (ps_ret (pe_fldK (K := T.K) (pv 0) (by rfl) rfl)))), fun D hrt hnx => ?_⟩
  have ok : Okk Ω [] := okk0
  suffices hx : XS _ D F0 [some (va T x0)] (stt Ω [] []) by
    rw [show (stt Ω [] []) = Ω from stt_self (by simp)] at hx
    exact hx
  unfold M_plain at hm
  obtain ⟨z1, hz1, hm⟩ := bnd_some hm
  refine xs_drop (xe_call (xa_cons (xe_var (i := 0) rfl) (xa_cons xe_str xa_nil)) ⟨x0, ("x" : Str), z1, rfl, hz1, rfl⟩ cal0) ?_
  show XS (tRet _) _ _ [some (va T x0)] (stt Ω [] [])
  obtain rfl := Option.some.inj hm
  refine xs_ret (xe_bv bc.cl bc.nv (xe_var (i := 0) rfl)) hrt.all
noncomputable def M_check_most (x0 : Int) : Option Unit :=
  (M_is_integer x0).bind fun z1 => (chkP (z1 = true)).bind fun z2 => (chkP (((!decide (x0 = (0 : Int))) && (decide (x0 < (640 : Int)))) = false)).bind fun z3 => some ()
def Pre_check_most (T : TC) : PreT := fun As Ω R => ∃ (x0 : Int) (r : Unit), As = [va T x0] ∧ M_check_most x0 = some r ∧ R = RV (va T r) (stt Ω [] [])
theorem sc_check_most : FnScope ["most"] ["most"] (defScope s_check_most) := ⟨rfl, rfl, rfl, by decide +kernel, rfl, by decide +kernel, by decide +kernel⟩
theorem ok_check_most {f : Addr} {fd : FuncData} (F : Fun T.K "check_most" "check_most" s_check_most f fd) (c_is_integer : Cal P w T.K mg base 1 "is_integer" ["value"] (mkSp (Pre_is_integer T))) (g_LEAST_LIMIT : ∃ u, mg "LEAST_LIMIT" = some u ∧ RelV (.int 640) u) : FnOk P w T.K mg base CX0 2 f fd ["most"] (mkSp (Pre_check_most T)) := by
  refine fn_ok F sc_check_most (fun As Ω R h => ?_) (fun cdv A outer s H E hr As Ω R F0 h => ?_)
  · obtain ⟨x0, r, rfl, _⟩ := h
    rfl
  obtain ⟨x0, r, rfl, hm, rfl⟩ := h
  refine ⟨_, (pss_one (ps_if (PW.pt (pw_or (pt_not (pt_val (pe_cal c_is_integer (hr.mono (by decide)) (by rfl) (pa_cons (pv 0) pa_nil)))) (pw_or1 (PW.pt (pw_and (pt_cmpR (op_neXK (K := T.K) (by exact hr.units) rfl) (pv 0) pe_int (nomark _)) (pw_and1 (pt_cmpR op_lt (pv 0) (pe_gl rfl g_LEAST_LIMIT) (nomark _)))))))) pss_never pss_nil)), fun D hrt hnx => ?_⟩
  have ok : Okk Ω [] := okk0
  suffices hx : XS _ D F0 [some (va T x0)] (stt Ω [] []) by
    rw [show (stt Ω [] []) = Ω from stt_self (by simp)] at hx
    exact hx
  unfold M_check_most at hm
  obtain ⟨z1, hz1, hm⟩ := bnd_some hm
  obtain ⟨z2, hz2, hm⟩ := bnd_some hm
  obtain ⟨z3, hz3, hm⟩ := bnd_some hm
  refine xs_ifF1 (xt_orF (xt_notF (xt_eq (xt_tB (T := T) (xe_call (xa_cons (xe_var (i := 0) rfl) xa_nil) ⟨x0, z1, rfl, hz1, rfl⟩ cal0)) (chkP_some hz2))) (xt_eq (xt_and (xt_test (T := T) (xe_neI (xe_var (i := 0) rfl) xe_int)) (fun _ => (xt_test (T := T) (xe_lt (xe_var (i := 0) rfl) xe_int))) (fun _ => rfl)) (chkP_some hz3))) ?_
  obtain rfl := Option.some.inj hm
  exact fun σ H ⟨F, f0, e, hh⟩ => hnx F σ H _ f0 hh.all ⟨rfl, rfl⟩
noncomputable def M_behind_blanks (x0 : Str) (x1 : Int) : Option Int :=
  (whileM (ρ := Unit) (fun (s1 : Int) => (chkP (Str.length x0 ≤ sizeLine)).bind fun z2 => (if (decide (s1 < (Str.length x0 : Int))) = true then (chkP (Str.length x0 ≤ sizeLine)).bind fun z3 => (sAt x0 s1).bind fun z4 => (chkP (Str.length z4 = 1)).bind fun z5 => some (sIn z4 (" \t\n" : Str)) else some false).bind fun z6 => some z6) (fun (s1 : Int) => (some (s1 + (1 : Int))).bind fun y8 => some (Stp.nx y8)) (Str.length x0 + 1) x1).bind fun z9 => (nxt z9).bind fun s10 => some s10
def Pre_behind_blanks (T : TC) : PreT := fun As Ω R => ∃ (x0 : Str) (x1 : Int) (r : Int), As = [va T x0, va T x1] ∧ M_behind_blanks x0 x1 = some r ∧ R = RV (va T r) (stt Ω [] [])
theorem sc_behind_blanks : FnScope ["text", "place"] ["text", "place"] (defScope s_behind_blanks) := ⟨rfl, rfl, rfl, by decide +kernel, rfl, by decide +kernel, by decide +kernel⟩
theorem ok_behind_blanks {f : Addr} {fd : FuncData} (F : Fun T.K "behind_blanks" "behind_blanks" s_behind_blanks f fd) (z_len : mg "len" = none) (g_BLANKS : ∃ u, mg "BLANKS" = some u ∧ RelV (.str " \t\n") u) : FnOk P w T.K mg base CX0 1 f fd ["text", "place"] (mkSp (Pre_behind_blanks T)) := by
  refine fn_ok F sc_behind_blanks (fun As Ω R h => ?_) (fun cdv A outer s H E hr As Ω R F0 h => ?_)
  · obtain ⟨x0, x1, r, rfl, _⟩ := h
    rfl
  obtain ⟨x0, x1, r, rfl, hm, rfl⟩ := h
  refine ⟨_, (pss_cons (ps_while PassesOwn.never (PW.pt (pw_and (pt_cmpR op_lt (pv 1) (pe_callB cr_lenS (by rfl) z_len PySem.boot_len (pa_cons (pv 0) pa_nil)) (nomark _)) (pw_and1 (pt_cmpR op_inS (pe_ix (ix_seqK (K := T.K) rfl) (pv 0) (pv 1) (by intro _ _; rfl)) (pe_gl rfl g_BLANKS) (by with_unfolding_all rfl))))) (pss_one (ps_aug (i := 1) sc_behind_blanks.nd rfl (.inl rfl) pe_int (ip_of iop_add)))) (pss_one (ps_ret (pv 1)))), fun D hrt hnx => ?_⟩
  have ok : Okk Ω [] := okk0
  suffices hx : XS _ D F0 [some (va T x0), some (va T x1)] (stt Ω [] []) by
    rw [show (stt Ω [] []) = Ω from stt_self (by simp)] at hx
    exact hx
  unfold M_behind_blanks at hm
  obtain ⟨z9, hz9, hm⟩ := bnd_some hm
  refine xs_whileS (fun (s1 : Int) => [some (va T x0), some (va T s1)]) (fun (s1 : Int) => (stt Ω [] [])) (fun (_ : Unit) _ _ _ => False) hz9 (fun s1 v hc => ?_) (fun s1 s' hc0 hm F1 D1 e1 hD => ?_) (fun s10 es => ?_) (fun r1 es => ?_)
  · clear hm
    have hm := hc
    obtain ⟨z2, hz2, hm⟩ := bnd_some hm
    obtain ⟨z6, hz6, hm⟩ := bnd_some hm
    obtain rfl := Option.some.inj hm
    refine (xt_andO (xt_test (T := T) (xe_lt (xe_var (i := 1) rfl) (xe_lenS (xe_var (i := 0) rfl) (chkP_some hz2)))) hz6 ?q7)
    case q7 =>
      exact (fun v hm => by
        obtain ⟨z3, hz3, hm⟩ := bnd_some hm
        obtain ⟨z4, hz4, hm⟩ := bnd_some hm
        obtain ⟨z5, hz5, hm⟩ := bnd_some hm
        obtain rfl := Option.some.inj hm
        exact (xt_test (T := T) (xe_sIn (xe_sIx (xe_var (i := 0) rfl) (xe_var (i := 1) rfl) (chkP_some hz3) hz4) xe_str (chkP_some hz5))))
  · clear hc0
    show XS (tAug _ _ _) _ _ [some (va T x0), some (va T s1)] (stt Ω [] [])
    obtain ⟨y8, hy8, hm⟩ := bnd_some hm
    refine xs_augI1 (T := T) rfl xe_int (Option.some.inj hy8) ?_
    obtain rfl := Option.some.inj hm
    exact fun σ H n => hD.nx _ rfl σ H n
  · subst es
    obtain ⟨s2, hs2, hm⟩ := bnd_some hm
    cases hs2
    show XS (tRet _) _ _ [some (va T x0), some (va T s10)] (stt Ω [] [])
    obtain rfl := Option.some.inj hm
    refine xs_ret (xe_var (i := 1) rfl) hrt.all
  · subst es
    cases hm
noncomputable def M_behind_prefix (x0 : Str) (x1 : Int) (x2 : Int) : Option (Int × Int) :=
  (chkP (Str.length x0 ≤ sizeLine)).bind fun z1 => if (!decide ((Txt.slice x0 (some x1) (some (x1 + (1 : Int)))) = ("0" : Str))) = true then some (x2, x1) else (chkP (Str.length x0 ≤ sizeLine)).bind fun z2 => (some ((List.lookup (Txt.slice x0 (some (x1 + (1 : Int))) (some (x1 + (2 : Int)))) ([("x", 16), ("X", 16), ("o", 8), ("O", 8), ("b", 2), ("B", 2)] : List (Str × Int))).getD (0 : Int))).bind fun y3 => if ((decide (y3 = (0 : Int))) || (!inI x2 ([(0 : Int), y3] : List Int))) = true then some (x2, x1) else (some (x1 + (2 : Int))).bind fun y4 => (chkP (Str.length x0 ≤ sizeLine)).bind fun z5 => (if (decide ((Txt.slice x0 (some y4) (some (y4 + (1 : Int)))) = ("_" : Str))) = true then (some (y4 + (1 : Int))).bind fun y6 => some y6 else some y4).bind fun z9 => some (y3, z9)
def Pre_behind_prefix (T : TC) : PreT := fun As Ω R => ∃ (x0 : Str) (x1 : Int) (x2 : Int) (r : (Int × Int)), As = [va T x0, va T x1, va T x2] ∧ M_behind_prefix x0 x1 x2 = some r ∧ R = RV (va T r) (stt Ω [] [])
theorem sc_behind_prefix : FnScope ["text", "place", "base", "found"] ["text", "place", "base"] (defScope s_behind_prefix) := ⟨rfl, rfl, rfl, by decide +kernel, rfl, by decide +kernel, by decide +kernel⟩
theorem ok_behind_prefix {f : Addr} {fd : FuncData} (F : Fun T.K "behind_prefix" "behind_prefix" s_behind_prefix f fd) (g_PREFIXES : ∃ u, mg "PREFIXES" = some u ∧ RelV (.ref (T.C 411)) u) (qs_PREFIXES : SDict T.K w (T.C 411) ([("x", 16), ("X", 16), ("o", 8), ("O", 8), ("b", 2), ("B", 2)] : List (Str × Int))) : FnOk P w T.K mg base CX0 2 f fd ["text", "place", "base"] (mkSp (Pre_behind_prefix T)) := by
  refine fn_ok F sc_behind_prefix (fun As Ω R h => ?_) (fun cdv A outer s H E hr As Ω R F0 h => ?_)
  · obtain ⟨x0, x1, x2, r, rfl, _⟩ := h
    rfl
  obtain ⟨x0, x1, x2, r, rfl, hm, rfl⟩ := h
  refine ⟨_, (pss_cons (ps_if (pt_cmpR (op_neXK (K := T.K) (by exact hr.units) rfl) (pe_slice C8.sl_txt (pv 0) (po_some (pv 1)) (po_some (pe_op op_addQ (pv 1) pe_int))) pe_str (nomark _)) (pss_one (ps_ret (pe_tup (pa_cons (pv 2) (pa_cons (pv 1) pa_nil))))) pss_nil) (pss_cons (ps_set (i := 3) sc_behind_prefix.nd rfl (.inl rfl) (pe_getSDK (K := T.K) (w := w) rfl rfl qs_PREFIXES (pe_gl rfl g_PREFIXES) (pe_slice C8.sl_txt (pv 0) (po_some (pe_op op_addQ (pv 1) pe_int)) (po_some (pe_op op_addQ (pv 1) pe_int))) pe_int ⟨by rfl, by rfl, by rfl, by rfl⟩)) (pss_cons (ps_if (PW.pt (pw_or (pt_cmpR (op_eqXK (K := T.K) (by exact hr.units) rfl) (pv 3) pe_int (nomark _)) (pw_or1 (pt_cmpR (op_notInK (K := T.K) rfl) (pv 2) (pe_tup (pa_cons pe_int (pa_cons (pv 3) pa_nil))) (by with_unfolding_all rfl))))) (pss_one (ps_ret (pe_tup (pa_cons (pv 2) (pa_cons (pv 1) pa_nil))))) pss_nil) (pss_cons (ps_aug (i := 1) sc_behind_prefix.nd rfl (.inl rfl) pe_int (ip_of iop_add)) (Evl.pss_cut (ps_if (pt_cmpR (op_eqXK (K := T.K) (by exact hr.units) rfl) (pe_slice C8.sl_txt (pv 0) (po_some (pv 1)) (po_some (pe_op op_addQ (pv 1) pe_int))) pe_str (nomark _)) (pss_one (ps_aug (i := 1) sc_behind_prefix.nd rfl (.inl rfl) pe_int (ip_of iop_add))) pss_nil) (pss_one (ps_ret (pe_tup (pa_cons (pv 3) (pa_cons (pv 1) pa_nil)))))))))), fun D hrt hnx => ?_⟩
  have ok : Okk Ω [] := okk0
  suffices hx : XS _ D F0 [some (va T x0), some (va T x1), some (va T x2), none] (stt Ω [] []) by
    rw [show (stt Ω [] []) = Ω from stt_self (by simp)] at hx
    exact hx
  unfold M_behind_prefix at hm
  obtain ⟨z1, hz1, hm⟩ := bnd_some hm
  by_cases hc : (!decide ((Txt.slice x0 (some x1) (some (x1 + (1 : Int)))) = ("0" : Str))) = true
  · rw [if_pos hc] at hm
    refine xs_ifT (xt_eq (xt_test (T := T) (xe_neS (xe_slS (xe_var (i := 0) rfl) (xo_some (T := T) (xe_var (i := 1) rfl)) (xo_some (T := T) (xe_add (xe_var (i := 1) rfl) xe_int)) (chkP_some hz1)) xe_str)) hc) ?_
    obtain rfl := Option.some.inj hm
    refine xs_ret (xe_tup2 (xa_cons (xe_var (i := 2) rfl) (xa_cons (xe_var (i := 1) rfl) xa_nil))) hrt.all
  · rw [if_neg hc] at hm
    refine xs_ifN (xt_eq (xt_test (T := T) (xe_neS (xe_slS (xe_var (i := 0) rfl) (xo_some (T := T) (xe_var (i := 1) rfl)) (xo_some (T := T) (xe_add (xe_var (i := 1) rfl) xe_int)) (chkP_some hz1)) xe_str)) (nt hc)) ?_
    show XS (tSeq _ _) _ _ [some (va T x0), some (va T x1), some (va T x2), none] (stt Ω [] [])
    obtain ⟨z2, hz2, hm⟩ := bnd_some hm
    obtain ⟨y3, hy3, hm⟩ := bnd_some hm
    refine xs_set (A := va T y3) (xe_eq (xe_getSD xe_vx (xe_slS (xe_var (i := 0) rfl) (xo_some (T := T) (xe_add (xe_var (i := 1) rfl) xe_int)) (xo_some (T := T) (xe_add (xe_var (i := 1) rfl) xe_int)) (chkP_some hz2)) xe_int) (Option.some.inj hy3)) ?_
    show XS (tSeq _ _) _ _ [some (va T x0), some (va T x1), some (va T x2), some (va T y3)] (stt Ω [] [])
    by_cases hc : ((decide (y3 = (0 : Int))) || (!inI x2 ([(0 : Int), y3] : List Int))) = true
    · rw [if_pos hc] at hm
      refine xs_ifT (xt_eq (xt_or (xt_test (T := T) (xe_eqI (xe_var (i := 3) rfl) xe_int)) (fun _ => (xt_test (T := T) (xe_notInI (xe_var (i := 2) rfl) (xe_tupF (l := [(0 : Int), y3]) (xa_cons xe_int (xa_cons (xe_var (i := 3) rfl) xa_nil)) (by show 2 ≤ sizeLine; decide))))) (fun _ => rfl)) hc) ?_
      obtain rfl := Option.some.inj hm
      refine xs_ret (xe_tup2 (xa_cons (xe_var (i := 2) rfl) (xa_cons (xe_var (i := 1) rfl) xa_nil))) hrt.all
    · rw [if_neg hc] at hm
      refine xs_ifN (xt_eq (xt_or (xt_test (T := T) (xe_eqI (xe_var (i := 3) rfl) xe_int)) (fun _ => (xt_test (T := T) (xe_notInI (xe_var (i := 2) rfl) (xe_tupF (l := [(0 : Int), y3]) (xa_cons xe_int (xa_cons (xe_var (i := 3) rfl) xa_nil)) (by show 2 ≤ sizeLine; decide))))) (fun _ => rfl)) (nt hc)) ?_
      show XS (tSeq _ _) _ _ [some (va T x0), some (va T x1), some (va T x2), some (va T y3)] (stt Ω [] [])
      obtain ⟨y4, hy4, hm⟩ := bnd_some hm
      refine xs_augI (T := T) rfl xe_int (Option.some.inj hy4) ?_
      show XS (Evl.tCut _ _) _ _ [some (va T x0), some (va T y4), some (va T x2), some (va T y3)] (stt Ω [] [])
      obtain ⟨z5, hz5, hm⟩ := bnd_some hm
      obtain ⟨z9, hz9, hm⟩ := bnd_some hm
      refine xs_cut (Γ' := [some (va T x0), some (va T z9), some (va T x2), some (va T y3)]) (Ω' := (stt Ω [] [])) ?_ ?_
      · clear hm
        have hm := hz9
        clear hz9
        by_cases hc : (decide ((Txt.slice x0 (some y4) (some (y4 + (1 : Int)))) = ("_" : Str))) = true
        · rw [if_pos hc] at hm
          refine xs_ifT1 (xt_eq (xt_test (T := T) (xe_eqS (xe_slS (xe_var (i := 0) rfl) (xo_some (T := T) (xe_var (i := 1) rfl)) (xo_some (T := T) (xe_add (xe_var (i := 1) rfl) xe_int)) (chkP_some hz5)) xe_str)) hc) ?_
          obtain ⟨y6, hy6, hm⟩ := bnd_some hm
          refine xs_augI1 (T := T) rfl xe_int (Option.some.inj hy6) ?_
          obtain rfl := Option.some.inj hm
          exact fun σ H n => n
        · rw [if_neg hc] at hm
          refine xs_ifF1 (xt_eq (xt_test (T := T) (xe_eqS (xe_slS (xe_var (i := 0) rfl) (xo_some (T := T) (xe_var (i := 1) rfl)) (xo_some (T := T) (xe_add (xe_var (i := 1) rfl) xe_int)) (chkP_some hz5)) xe_str)) (nt hc)) ?_
          obtain rfl := Option.some.inj hm
          exact fun σ H n => n
      · obtain rfl := Option.some.inj hm
        refine xs_ret (xe_tup2 (xa_cons (xe_var (i := 3) rfl) (xa_cons (xe_var (i := 1) rfl) xa_nil))) hrt.all
noncomputable def M_value_of (x0 : Str) : Option Int :=
  (some (max (Txt.find ("0123456789abcdefghijklmnopqrstuvwxyz" : Str) x0) (Txt.find ("0123456789ABCDEFGHIJKLMNOPQRSTUVWXYZ" : Str) x0))).bind fun y1 => some (if (decide (y1 < (0 : Int))) = true then (36 : Int) else y1)
def Pre_value_of (T : TC) : PreT := fun As Ω R => ∃ (x0 : Str) (r : Int), As = [va T x0] ∧ M_value_of x0 = some r ∧ R = RV (va T r) (stt Ω [] [])
theorem sc_value_of : FnScope ["sign", "value"] ["sign"] (defScope s_value_of) := ⟨rfl, rfl, rfl, by decide +kernel, rfl, by decide +kernel, by decide +kernel⟩
theorem ok_value_of {f : Addr} {fd : FuncData} (F : Fun T.K "value_of" "value_of" s_value_of f fd) (g_SMALL_SIGNS : ∃ u, mg "SMALL_SIGNS" = some u ∧ RelV (.str "0123456789abcdefghijklmnopqrstuvwxyz") u) (g_CAPITAL_SIGNS : ∃ u, mg "CAPITAL_SIGNS" = some u ∧ RelV (.str "0123456789ABCDEFGHIJKLMNOPQRSTUVWXYZ") u) (z_max : mg "max" = none) (g_GREATEST_BASE : ∃ u, mg "GREATEST_BASE" = some u ∧ RelV (.int 36) u) : FnOk P w T.K mg base CX0 2 f fd ["sign"] (mkSp (Pre_value_of T)) := by
  refine fn_ok F sc_value_of (fun As Ω R h => ?_) (fun cdv A outer s H E hr As Ω R F0 h => ?_)
  · obtain ⟨x0, r, rfl, _⟩ := h
    rfl
  obtain ⟨x0, r, rfl, hm, rfl⟩ := h
  refine ⟨_, (pss_cons (ps_set (i := 1) sc_value_of.nd rfl (.inl rfl) (pe_callB (cr_max2 rfl) (by rfl) z_max (by decide +kernel) (pa_cons (pe_bm PySem.F.plainAttrs_str PySem.F.slot_str_find PySem.F.type_str_find mt_fi (pe_gl rfl g_SMALL_SIGNS) (pa_cons (pv 0) pa_nil)) (pa_cons (pe_bm PySem.F.plainAttrs_str PySem.F.slot_str_find PySem.F.type_str_find mt_fi (pe_gl rfl g_CAPITAL_SIGNS) (pa_cons (pv 0) pa_nil)) pa_nil)))) (pss_one (ps_ret (pe_ifExp (pt_cmpR op_lt (pv 1) pe_int (nomark _)) (pe_gl rfl g_GREATEST_BASE) (pv 1))))), fun D hrt hnx => ?_⟩
  have ok : Okk Ω [] := okk0
  suffices hx : XS _ D F0 [some (va T x0), none] (stt Ω [] []) by
    rw [show (stt Ω [] []) = Ω from stt_self (by simp)] at hx
    exact hx
  unfold M_value_of at hm
  obtain ⟨y1, hy1, hm⟩ := bnd_some hm
  refine xs_set (A := va T y1) (xe_eq (xe_max2 (xe_fi xe_str (xe_var (i := 0) rfl)) (xe_fi xe_str (xe_var (i := 0) rfl))) (Option.some.inj hy1)) ?_
  show XS (tRet _) _ _ [some (va T x0), some (va T y1)] (stt Ω [] [])
  obtain rfl := Option.some.inj hm
  refine xs_ret (xe_ite (xt_test (T := T) (xe_lt (xe_var (i := 1) rfl) xe_int)) xe_int (xe_var (i := 1) rfl)) hrt.all
noncomputable def M_digits_from (x0 : Str) (x1 : Int) (x2 : Int) : Option ((LF Int) × Int) :=
  (some ([] : List Int)).bind fun y1 => (whileM (ρ := Unit) (fun (s4 : Bool × Int × (List Int)) => (chkP (Str.length x0 ≤ sizeLine)).bind fun z5 => some (decide (s4.2.1 < (Str.length x0 : Int)))) (fun (s4 : Bool × Int × (List Int)) => (chkP (Str.length x0 ≤ sizeLine)).bind fun z6 => (sAt x0 s4.2.1).bind fun z7 => (M_value_of z7).bind fun z8 => if (decide (z8 < x2)) = true then (chkP (s4.2.2.length < sizeLine)).bind fun z9 => (some (s4.2.1 + (1 : Int))).bind fun y10 => some (Stp.nx (false, y10, (s4.2.2 ++ [z8]))) else (chkP (Str.length x0 ≤ sizeLine)).bind fun z11 => (sAt x0 s4.2.1).bind fun z12 => if ((decide (z12 = ("_" : Str))) && (!s4.1)) = true then (some (s4.2.1 + (1 : Int))).bind fun y13 => some (Stp.nx (true, y13, s4.2.2)) else some (Stp.bk (s4.1, s4.2.1, s4.2.2))) (Str.length x0 + 1) (true, x1, y1)).bind fun z14 => (nxt z14).bind fun s15 => (chkP (s15.1 = false)).bind fun z16 => some ((LF.mk s15.2.2), s15.2.1)
def Pre_digits_from (T : TC) : PreT := fun As Ω R => ∃ (x0 : Str) (x1 : Int) (x2 : Int) (r : ((LF Int) × Int)), As = [va T x0, va T x1, va T x2] ∧ M_digits_from x0 x1 x2 = some r ∧ R = RV (va T r) (stt Ω [] [])
theorem sc_digits_from : FnScope ["text", "place", "top", "values", "is_due", "value"] ["text", "place", "top"] (defScope s_digits_from) := ⟨rfl, rfl, rfl, by decide +kernel, rfl, by decide +kernel, by decide +kernel⟩
theorem ok_digits_from {f : Addr} {fd : FuncData} (F : Fun T.K "digits_from" "digits_from" s_digits_from f fd) (z_len : mg "len" = none) (c_value_of : Cal P w T.K mg base 2 "value_of" ["sign"] (mkSp (Pre_value_of T))) : FnOk P w T.K mg base CX0 3 f fd ["text", "place", "top"] (mkSp (Pre_digits_from T)) := by
  refine fn_ok F sc_digits_from (fun As Ω R h => ?_) (fun cdv A outer s H E hr As Ω R F0 h => ?_)
  · obtain ⟨x0, x1, x2, r, rfl, _⟩ := h
    rfl
  obtain ⟨x0, x1, x2, r, rfl, hm, rfl⟩ := h
  refine ⟨_, (pss_cons (ps_set (i := 3) sc_digits_from.nd rfl (.inl rfl) (pe_lst pa_nil)) (pss_cons (ps_set (i := 4) sc_digits_from.nd rfl (.inl rfl) pe_bl) (pss_cons (ps_while PassesOwn.never (pt_cmpR op_lt (pv 1) (pe_callB cr_lenS (by rfl) z_len PySem.boot_len (pa_cons (pv 0) pa_nil)) (nomark _)) (pss_cons (ps_set (i := 5) sc_digits_from.nd rfl (.inl rfl) (pe_cal c_value_of (hr.mono (by decide)) (by rfl) (pa_cons (pe_ix (ix_seqK (K := T.K) rfl) (pv 0) (pv 1) (by intro _ _; rfl)) pa_nil))) (pss_cons (ps_if (pt_cmpR op_lt (pv 5) (pv 2) (nomark _)) (pss_cons (ps_expr (pe_bm PySem.F.plainAttrs_list PySem.F.slot_list_append PySem.F.type_list_append mt_append (pv 3) (pa_cons (pv 5) pa_nil))) (pss_one (ps_set (i := 4) sc_digits_from.nd rfl (.inl rfl) pe_bl))) (pss_one (ps_if (PW.pt (pw_and (pt_cmpR (op_eqXK (K := T.K) (by exact hr.units) rfl) (pe_ix (ix_seqK (K := T.K) rfl) (pv 0) (pv 1) (by intro _ _; rfl)) pe_str (nomark _)) (pw_and1 (pt_not (pt_val (pv 4)))))) (pss_one (ps_set (i := 4) sc_digits_from.nd rfl (.inl rfl) pe_bl)) (pss_one ps_break)))) (pss_one (ps_aug (i := 1) sc_digits_from.nd rfl (.inl rfl) pe_int (ip_of iop_add)))))) (pss_cons (ps_if (pt_val (pv 4)) pss_never pss_nil) (pss_one (ps_ret (pe_tup (pa_cons (pv 3) (pa_cons (pv 1) pa_nil))))))))), fun D hrt hnx => ?_⟩
  have ok : Okk Ω [] := okk0
  suffices hx : XS _ D F0 [some (va T x0), some (va T x1), some (va T x2), none, none, none] (stt Ω [] []) by
    rw [show (stt Ω [] []) = Ω from stt_self (by simp)] at hx
    exact hx
  unfold M_digits_from at hm
  obtain ⟨y1, hy1, hm⟩ := bnd_some hm
  obtain rfl := Option.some.inj hy1
  refine xs_setO ((xn_lst (T := T) (l := ([] : List Int)) xa_nil (Nat.zero_le _))) (fun pp2 => ?_)
  show XS (tSeq _ _) _ _ [some (va T x0), some (va T x1), some (va T x2), some (vr pp2), none, none] (stt Ω [] [lstA T pp2 (([] : List Int) : List Int)])
  refine xs_set (A := va T true) xe_bl ?_
  show XS (tSeq _ _) _ _ [some (va T x0), some (va T x1), some (va T x2), some (vr pp2), some (va T true), none] (stt Ω [] [lstA T pp2 (([] : List Int) : List Int)])
  obtain ⟨z14, hz14, hm⟩ := bnd_some hm
  refine xs_whileS (fun (s4 : Bool × Int × (List Int)) => [some (va T x0), some (va T s4.2.1), some (va T x2), some (vr pp2), some (va T s4.1), none]) (fun (s4 : Bool × Int × (List Int)) => (stt Ω [] [lstA T pp2 (s4.2.2 : List Int)])) (fun (_ : Unit) _ _ _ => False) hz14 (fun s4 v hc => ?_) (fun s4 s' hc0 hm F1 D1 e1 hD => ?_) (fun s15 es => ?_) (fun r1 es => ?_)
  · clear hm
    have hm := hc
    obtain ⟨z5, hz5, hm⟩ := bnd_some hm
    obtain rfl := Option.some.inj hm
    refine (xt_test (T := T) (xe_lt (xe_var (i := 1) rfl) (xe_lenS (xe_var (i := 0) rfl) (chkP_some hz5))))
  · clear hc0
    show XS (tSeq _ _) _ _ [some (va T x0), some (va T s4.2.1), some (va T x2), some (vr pp2), some (va T s4.1), none] (stt Ω [] [lstA T pp2 (s4.2.2 : List Int)])
    obtain ⟨z6, hz6, hm⟩ := bnd_some hm
    obtain ⟨z7, hz7, hm⟩ := bnd_some hm
    obtain ⟨z8, hz8, hm⟩ := bnd_some hm
    refine xs_set (A := va T z8) (xe_call (xa_cons (xe_sIx (xe_var (i := 0) rfl) (xe_var (i := 1) rfl) (chkP_some hz6) hz7) xa_nil) ⟨z7, z8, rfl, hz8, rfl⟩ cal0) ?_
    show XS (tSeq _ _) _ _ [some (va T x0), some (va T s4.2.1), some (va T x2), some (vr pp2), some (va T s4.1), some (va T z8)] (stt Ω [] [lstA T pp2 (s4.2.2 : List Int)])
    refine xs_seq ?_
    by_cases hc : (decide (z8 < x2)) = true
    · rw [if_pos hc] at hm
      refine xs_ifT1 (xt_eq (xt_test (T := T) (xe_lt (xe_var (i := 5) rfl) (xe_var (i := 2) rfl))) hc) ?_
      obtain ⟨z9, hz9, hm⟩ := bnd_some hm
      refine xs_drop (xe_appE (stt_getL (j := 0) rfl) (stt_getL (j := 0) rfl) (xe_var (i := 3) rfl) (xe_var (i := 5) rfl) (chkP_some hz9) (stt_setL (j := 0))) ?_
      show XS (tAsg _ _) _ _ [some (va T x0), some (va T s4.2.1), some (va T x2), some (vr pp2), some (va T s4.1), some (va T z8)] (stt Ω [] [lstA T pp2 ((s4.2.2 ++ [z8]) : List Int)])
      refine xs_set1 (A := va T false) xe_bl ?_
      refine xs_nxI ?_
      show XS (tAug _ _ _) _ _ [some (va T x0), some (va T s4.2.1), some (va T x2), some (vr pp2), some (va T false), some (va T z8)] (stt Ω [] [lstA T pp2 ((s4.2.2 ++ [z8]) : List Int)])
      obtain ⟨y10, hy10, hm⟩ := bnd_some hm
      refine xs_augI1 (T := T) rfl xe_int (Option.some.inj hy10) ?_
      obtain rfl := Option.some.inj hm
      exact fun σ H n => hD.nx _ rfl σ H (n.forget 5)
    · rw [if_neg hc] at hm
      refine xs_ifF1 (xt_eq (xt_test (T := T) (xe_lt (xe_var (i := 5) rfl) (xe_var (i := 2) rfl))) (nt hc)) ?_
      obtain ⟨z11, hz11, hm⟩ := bnd_some hm
      obtain ⟨z12, hz12, hm⟩ := bnd_some hm
      by_cases hc : ((decide (z12 = ("_" : Str))) && (!s4.1)) = true
      · rw [if_pos hc] at hm
        refine xs_ifT1 (xt_eq (xt_and (xt_test (T := T) (xe_eqS (xe_sIx (xe_var (i := 0) rfl) (xe_var (i := 1) rfl) (chkP_some hz11) hz12) xe_str)) (fun _ => (xt_not (xt_tB (T := T) (xe_var (i := 4) rfl)))) (fun _ => rfl)) hc) ?_
        refine xs_set1 (A := va T true) xe_bl ?_
        refine xs_nxI ?_
        show XS (tAug _ _ _) _ _ [some (va T x0), some (va T s4.2.1), some (va T x2), some (vr pp2), some (va T true), some (va T z8)] (stt Ω [] [lstA T pp2 (s4.2.2 : List Int)])
        obtain ⟨y13, hy13, hm⟩ := bnd_some hm
        refine xs_augI1 (T := T) rfl xe_int (Option.some.inj hy13) ?_
        obtain rfl := Option.some.inj hm
        exact fun σ H n => hD.nx _ rfl σ H (n.forget 5)
      · rw [if_neg hc] at hm
        refine xs_ifF1 (xt_eq (xt_and (xt_test (T := T) (xe_eqS (xe_sIx (xe_var (i := 0) rfl) (xe_var (i := 1) rfl) (chkP_some hz11) hz12) xe_str)) (fun _ => (xt_not (xt_tB (T := T) (xe_var (i := 4) rfl)))) (fun _ => rfl)) (nt hc)) ?_
        obtain rfl := Option.some.inj hm
        exact fun σ H n => hD.bk _ rfl σ H (n.forget 5)
  · subst es
    obtain ⟨s2, hs2, hm⟩ := bnd_some hm
    cases hs2
    show XS (tSeq _ _) _ _ [some (va T x0), some (va T s15.2.1), some (va T x2), some (vr pp2), some (va T s15.1), none] (stt Ω [] [lstA T pp2 (s15.2.2 : List Int)])
    refine xs_fzJ (k := 3) (j := 0) rfl rfl ?_
    show XS _ _ _ [some (va T x0), some (va T s15.2.1), some (va T x2), some (va T (LF.mk s15.2.2)), some (va T s15.1), none] (stt Ω [] [nilA])
    obtain ⟨z16, hz16, hm⟩ := bnd_some hm
    refine xs_ifN (xt_eq (xt_tB (T := T) (xe_var (i := 4) rfl)) (chkP_some hz16)) ?_
    show XS (tRet _) _ _ [some (va T x0), some (va T s15.2.1), some (va T x2), some (va T (LF.mk s15.2.2)), some (va T s15.1), none] (stt Ω [] [nilA])
    obtain rfl := Option.some.inj hm
    refine xs_ret (xe_tup2 (xa_cons (xe_var (i := 3) rfl) (xa_cons (xe_var (i := 1) rfl) xa_nil))) hrt.all
  · subst es
    cases hm
noncomputable def M_parts_of_text (x0 : Str) (x1 : Int) : Option (T3 Int Int (LF Int)) :=
  (M_behind_blanks x0 (0 : Int)).bind fun z1 => (chkP (Str.length x0 ≤ sizeLine)).bind fun z2 => (some (Txt.slice x0 (some z1) (some (z1 + (1 : Int))))).bind fun y3 => (if (inS y3 ([("+" : Str), ("-" : Str)] : List Str)) = true then (some (z1 + (1 : Int))).bind fun y4 => some y4 else some z1).bind fun z7 => (M_behind_prefix x0 z7 x1).bind fun z8 => (if (decide (z8.1 = (0 : Int))) = true then (chkP (Str.length x0 ≤ sizeLine)).bind fun z9 => some (decide ((Txt.slice x0 (some z8.2) (some (z8.2 + (1 : Int)))) = ("0" : Str))) else some false).bind fun z10 => (some (if (decide (z8.1 = (0 : Int))) = true then (10 : Int) else z8.1)).bind fun y12 => (M_digits_from x0 z8.2 (if z10 = true then (1 : Int) else y12)).bind fun z13 => (M_behind_blanks x0 z13.2).bind fun z14 => (chkP (Str.length x0 ≤ sizeLine)).bind fun z15 => (chkP ((decide (z14 < (Str.length x0 : Int))) = false)).bind fun z16 => some (T3.mk (if (decide (y3 = ("-" : Str))) = true then (-(1 : Int)) else (1 : Int)) y12 (LF.mk z13.1.l))
def Pre_parts_of_text (T : TC) : PreT := fun As Ω R => ∃ (x0 : Str) (x1 : Int) (r : (T3 Int Int (LF Int))), As = [va T x0, va T x1] ∧ M_parts_of_text x0 x1 = some r ∧ R = RV (va T r) (stt Ω [] [])
theorem sc_parts_of_text : FnScope ["text", "base", "place", "sign", "found_base", "zeros_alone", "values"] ["text", "base"] (defScope s_parts_of_text) := ⟨rfl, rfl, rfl, by decide +kernel, rfl, by decide +kernel, by decide +kernel⟩
theorem ok_parts_of_text {f : Addr} {fd : FuncData} (F : Fun T.K "parts_of_text" "parts_of_text" s_parts_of_text f fd) (c_behind_blanks : Cal P w T.K mg base 1 "behind_blanks" ["text", "place"] (mkSp (Pre_behind_blanks T))) (c_behind_prefix : Cal P w T.K mg base 2 "behind_prefix" ["text", "place", "base"] (mkSp (Pre_behind_prefix T))) (c_digits_from : Cal P w T.K mg base 3 "digits_from" ["text", "place", "top"] (mkSp (Pre_digits_from T))) (z_len : mg "len" = none) : FnOk P w T.K mg base CX0 4 f fd ["text", "base"] (mkSp (Pre_parts_of_text T)) := by
  refine fn_ok F sc_parts_of_text (fun As Ω R h => ?_) (fun cdv A outer s H E hr As Ω R F0 h => ?_)
  · obtain ⟨x0, x1, r, rfl, _⟩ := h
    rfl
  obtain ⟨x0, x1, r, rfl, hm, rfl⟩ := h
  refine ⟨_, (pss_cons (ps_set (i := 2) sc_parts_of_text.nd rfl (.inl rfl) (pe_cal c_behind_blanks (hr.mono (by decide)) (by rfl) (pa_cons (pv 0) (pa_cons pe_int pa_nil)))) (pss_cons (ps_set (i := 3) sc_parts_of_text.nd rfl (.inl rfl) (pe_slice C8.sl_txt (pv 0) (po_some (pv 2)) (po_some (pe_op op_addQ (pv 2) pe_int)))) (Evl.pss_cut (ps_if (pt_cmpR (op_inK (K := T.K) rfl) (pv 3) (pe_tup (pa_cons pe_str (pa_cons pe_str pa_nil))) (by with_unfolding_all rfl)) (pss_one (ps_aug (i := 2) sc_parts_of_text.nd rfl (.inl rfl) pe_int (ip_of iop_add))) pss_nil) (pss_cons (ps_asg (pe_cal c_behind_prefix (hr.mono (by decide)) (by rfl) (pa_cons (pv 0) (pa_cons (pv 2) (pa_cons (pv 1) pa_nil)))) (pg_tupK (K := T.K) (n := 2) rfl rfl (pgs_cons (pg_name (i := 4) sc_parts_of_text.nd rfl (.inl rfl)) (pgs_cons (pg_name (i := 2) sc_parts_of_text.nd rfl (.inl rfl)) pgs_nil)))) (pss_cons (ps_set (i := 5) sc_parts_of_text.nd rfl (.inl rfl) (pe_and (pe_cmpR (op_eqXK (K := T.K) (by exact hr.units) rfl) (pv 4) pe_int (nomark _)) (pe_one (pe_cmpR (op_eqXK (K := T.K) (by exact hr.units) rfl) (pe_slice C8.sl_txt (pv 0) (po_some (pv 2)) (po_some (pe_op op_addQ (pv 2) pe_int))) pe_str (nomark _))))) (pss_cons (ps_set (i := 4) sc_parts_of_text.nd rfl (.inl rfl) (pe_ifExp (pt_cmpR (op_eqXK (K := T.K) (by exact hr.units) rfl) (pv 4) pe_int (nomark _)) pe_int (pv 4))) (pss_cons (ps_asg (pe_cal c_digits_from (hr.mono (by decide)) (by rfl) (pa_cons (pv 0) (pa_cons (pv 2) (pa_cons (pe_ifExp (pt_val (pv 5)) pe_int (pv 4)) pa_nil)))) (pg_tupK (K := T.K) (n := 2) rfl rfl (pgs_cons (pg_name (i := 6) sc_parts_of_text.nd rfl (.inl rfl)) (pgs_cons (pg_name (i := 2) sc_parts_of_text.nd rfl (.inl rfl)) pgs_nil)))) (pss_cons (ps_set (i := 2) sc_parts_of_text.nd rfl (.inl rfl) (pe_cal c_behind_blanks (hr.mono (by decide)) (by rfl) (pa_cons (pv 0) (pa_cons (pv 2) pa_nil)))) (pss_cons (ps_if (pt_cmpR op_lt (pv 2) (pe_callB cr_lenS (by rfl) z_len PySem.boot_len (pa_cons (pv 0) pa_nil)) (nomark _)) pss_never pss_nil) (pss_one (ps_ret (pe_tup (pa_cons (pe_ifExp (pt_cmpR (op_eqXK (K := T.K) (by exact hr.units) rfl) (pv 3) pe_str (nomark _)) (pe_un un_neg pe_int) pe_int) (pa_cons (pv 4) (pa_cons (pv 6) pa_nil))))))))))))))), fun D hrt hnx => ?_⟩
  have ok : Okk Ω [] := okk0
  suffices hx : XS _ D F0 [some (va T x0), some (va T x1), none, none, none, none, none] (stt Ω [] []) by
    rw [show (stt Ω [] []) = Ω from stt_self (by simp)] at hx
    exact hx
  unfold M_parts_of_text at hm
  obtain ⟨z1, hz1, hm⟩ := bnd_some hm
  refine xs_set (A := va T z1) (xe_call (xa_cons (xe_var (i := 0) rfl) (xa_cons xe_int xa_nil)) ⟨x0, (0 : Int), z1, rfl, hz1, rfl⟩ cal0) ?_
  show XS (tSeq _ _) _ _ [some (va T x0), some (va T x1), some (va T z1), none, none, none, none] (stt Ω [] [])
  obtain ⟨z2, hz2, hm⟩ := bnd_some hm
  obtain ⟨y3, hy3, hm⟩ := bnd_some hm
  refine xs_set (A := va T y3) (xe_eq (xe_slS (xe_var (i := 0) rfl) (xo_some (T := T) (xe_var (i := 2) rfl)) (xo_some (T := T) (xe_add (xe_var (i := 2) rfl) xe_int)) (chkP_some hz2)) (Option.some.inj hy3)) ?_
  show XS (Evl.tCut _ _) _ _ [some (va T x0), some (va T x1), some (va T z1), some (va T y3), none, none, none] (stt Ω [] [])
  obtain ⟨z7, hz7, hm⟩ := bnd_some hm
  refine xs_cut (Γ' := [some (va T x0), some (va T x1), some (va T z7), some (va T y3), none, none, none]) (Ω' := (stt Ω [] [])) ?_ ?_
  · clear hm
    have hm := hz7
    clear hz7
    by_cases hc : (inS y3 ([("+" : Str), ("-" : Str)] : List Str)) = true
    · rw [if_pos hc] at hm
      refine xs_ifT1 (xt_eq (xt_test (T := T) (xe_inS (xe_var (i := 3) rfl) (xe_tupF (l := [("+" : Str), ("-" : Str)]) (xa_cons xe_str (xa_cons xe_str xa_nil)) (by show 2 ≤ sizeLine; decide)))) hc) ?_
      obtain ⟨y4, hy4, hm⟩ := bnd_some hm
      refine xs_augI1 (T := T) rfl xe_int (Option.some.inj hy4) ?_
      obtain rfl := Option.some.inj hm
      exact fun σ H n => n
    · rw [if_neg hc] at hm
      refine xs_ifF1 (xt_eq (xt_test (T := T) (xe_inS (xe_var (i := 3) rfl) (xe_tupF (l := [("+" : Str), ("-" : Str)]) (xa_cons xe_str (xa_cons xe_str xa_nil)) (by show 2 ≤ sizeLine; decide)))) (nt hc)) ?_
      obtain rfl := Option.some.inj hm
      exact fun σ H n => n
  · obtain ⟨z8, hz8, hm⟩ := bnd_some hm
    refine xs_asgG (xe_call (xa_cons (xe_var (i := 0) rfl) (xa_cons (xe_var (i := 2) rfl) (xa_cons (xe_var (i := 1) rfl) xa_nil))) ⟨x0, z7, x1, z8, rfl, hz8, rfl⟩ cal0) tgt_pair ?_
    show XS (tSeq _ _) _ _ [some (va T x0), some (va T x1), some (va T z8.2), some (va T y3), some (va T z8.1), none, none] (stt Ω [] [])
    obtain ⟨z10, hz10, hm⟩ := bnd_some hm
    refine xs_set (A := va T z10) (xe_andO (xe_eqI (xe_var (i := 4) rfl) xe_int) hz10 ?q11) ?_
    case q11 =>
      exact (fun v hm => by
        obtain ⟨z9, hz9, hm⟩ := bnd_some hm
        obtain rfl := Option.some.inj hm
        exact (xe_eqS (xe_slS (xe_var (i := 0) rfl) (xo_some (T := T) (xe_var (i := 2) rfl)) (xo_some (T := T) (xe_add (xe_var (i := 2) rfl) xe_int)) (chkP_some hz9)) xe_str))
    show XS (tSeq _ _) _ _ [some (va T x0), some (va T x1), some (va T z8.2), some (va T y3), some (va T z8.1), some (va T z10), none] (stt Ω [] [])
    obtain ⟨y12, hy12, hm⟩ := bnd_some hm
    refine xs_set (A := va T y12) (xe_eq (xe_ite (xt_test (T := T) (xe_eqI (xe_var (i := 4) rfl) xe_int)) xe_int (xe_var (i := 4) rfl)) (Option.some.inj hy12)) ?_
    show XS (tSeq _ _) _ _ [some (va T x0), some (va T x1), some (va T z8.2), some (va T y3), some (va T y12), some (va T z10), none] (stt Ω [] [])
    obtain ⟨z13, hz13, hm⟩ := bnd_some hm
    refine xs_asgG (xe_call (xa_cons (xe_var (i := 0) rfl) (xa_cons (xe_var (i := 2) rfl) (xa_cons (xe_ite (xt_tB (T := T) (xe_var (i := 5) rfl)) xe_int (xe_var (i := 4) rfl)) xa_nil))) ⟨x0, z8.2, (if z10 = true then (1 : Int) else y12), z13, rfl, hz13, rfl⟩ cal0) tgt_pair ?_
    show XS (tSeq _ _) _ _ [some (va T x0), some (va T x1), some (va T z13.2), some (va T y3), some (va T y12), some (va T z10), some (va T (LF.mk z13.1.l))] (stt Ω [] [])
    obtain ⟨z14, hz14, hm⟩ := bnd_some hm
    refine xs_set (A := va T z14) (xe_call (xa_cons (xe_var (i := 0) rfl) (xa_cons (xe_var (i := 2) rfl) xa_nil)) ⟨x0, z13.2, z14, rfl, hz14, rfl⟩ cal0) ?_
    show XS (tSeq _ _) _ _ [some (va T x0), some (va T x1), some (va T z14), some (va T y3), some (va T y12), some (va T z10), some (va T (LF.mk z13.1.l))] (stt Ω [] [])
    obtain ⟨z15, hz15, hm⟩ := bnd_some hm
    obtain ⟨z16, hz16, hm⟩ := bnd_some hm
    refine xs_ifN (xt_eq (xt_test (T := T) (xe_lt (xe_var (i := 2) rfl) (xe_lenS (xe_var (i := 0) rfl) (chkP_some hz15)))) (chkP_some hz16)) ?_
    show XS (tRet _) _ _ [some (va T x0), some (va T x1), some (va T z14), some (va T y3), some (va T y12), some (va T z10), some (va T (LF.mk z13.1.l))] (stt Ω [] [])
    obtain rfl := Option.some.inj hm
    refine xs_ret (xe_tup3 (xa_cons (xe_ite (xt_test (T := T) (xe_eqS (xe_var (i := 3) rfl) xe_str)) (xe_neg xe_int) xe_int) (xa_cons (xe_var (i := 4) rfl) (xa_cons (xe_var (i := 6) rfl) xa_nil)))) hrt.all
noncomputable def M_group_in (x0 : Int) (x1 : Int) : Option (Int × Int) :=
  (whileM (ρ := Unit) (fun (s1 : Int × Int) => (chkP (IntMulOk s1.2 x1)).bind fun z2 => (chkP (CShl (1 : Int) x0)).bind fun z3 => some (decide ((s1.2 * x1) ≤ ((1 : Int) * 2 ^ (x0).toNat)))) (fun (s1 : Int × Int) => (some (s1.1 + (1 : Int))).bind fun y4 => (chkP (IntMulOk s1.2 x1)).bind fun z5 => (some (s1.2 * x1)).bind fun y6 => some (Stp.nx (y4, y6))) (32) ((1 : Int), x1)).bind fun z7 => (nxt z7).bind fun s8 => some (s8.1, s8.2)
def Pre_group_in (T : TC) : PreT := fun As Ω R => ∃ (x0 : Int) (x1 : Int) (r : (Int × Int)), As = [va T x0, va T x1] ∧ M_group_in x0 x1 = some r ∧ R = RV (va T r) (stt Ω [] [])
theorem sc_group_in : FnScope ["width", "base", "size", "scale"] ["width", "base"] (defScope s_group_in) := ⟨rfl, rfl, rfl, by decide +kernel, rfl, by decide +kernel, by decide +kernel⟩
theorem ok_group_in {f : Addr} {fd : FuncData} (F : Fun T.K "group_in" "group_in" s_group_in f fd)  : FnOk P w T.K mg base CX0 1 f fd ["width", "base"] (mkSp (Pre_group_in T)) := by
  refine fn_ok F sc_group_in (fun As Ω R h => ?_) (fun cdv A outer s H E hr As Ω R F0 h => ?_)
  · obtain ⟨x0, x1, r, rfl, _⟩ := h
    rfl
  obtain ⟨x0, x1, r, rfl, hm, rfl⟩ := h
  refine ⟨_, (pss_cons (ps_set (i := 2) sc_group_in.nd rfl (.inl rfl) pe_int) (pss_cons (ps_set (i := 3) sc_group_in.nd rfl (.inl rfl) (pv 1)) (pss_cons (ps_while PassesOwn.never (pt_cmpR op_le (pe_op op_mulQ (pv 3) (pv 1)) (pe_op op_shlW pe_int (pv 0)) (nomark _)) (pss_cons (ps_aug (i := 2) sc_group_in.nd rfl (.inl rfl) pe_int (ip_of iop_add)) (pss_one (ps_aug (i := 3) sc_group_in.nd rfl (.inl rfl) (pv 1) (ip_of iop_mulQ))))) (pss_one (ps_ret (pe_tup (pa_cons (pv 2) (pa_cons (pv 3) pa_nil)))))))), fun D hrt hnx => ?_⟩
  have ok : Okk Ω [] := okk0
  suffices hx : XS _ D F0 [some (va T x0), some (va T x1), none, none] (stt Ω [] []) by
    rw [show (stt Ω [] []) = Ω from stt_self (by simp)] at hx
    exact hx
  unfold M_group_in at hm
  refine xs_set (A := va T (1 : Int)) xe_int ?_
  show XS (tSeq _ _) _ _ [some (va T x0), some (va T x1), some (va T (1 : Int)), none] (stt Ω [] [])
  refine xs_set (A := va T x1) (xe_var (i := 1) rfl) ?_
  show XS (tSeq _ _) _ _ [some (va T x0), some (va T x1), some (va T (1 : Int)), some (va T x1)] (stt Ω [] [])
  obtain ⟨z7, hz7, hm⟩ := bnd_some hm
  refine xs_whileS (fun (s1 : Int × Int) => [some (va T x0), some (va T x1), some (va T s1.1), some (va T s1.2)]) (fun (s1 : Int × Int) => (stt Ω [] [])) (fun (_ : Unit) _ _ _ => False) hz7 (fun s1 v hc => ?_) (fun s1 s' hc0 hm F1 D1 e1 hD => ?_) (fun s8 es => ?_) (fun r1 es => ?_)
  · clear hm
    have hm := hc
    obtain ⟨z2, hz2, hm⟩ := bnd_some hm
    obtain ⟨z3, hz3, hm⟩ := bnd_some hm
    obtain rfl := Option.some.inj hm
    refine (xt_test (T := T) (xe_le (xe_mul (chkP_some hz2) (xe_var (i := 3) rfl) (xe_var (i := 1) rfl)) (xe_shl (chkP_some hz3) xe_int (xe_var (i := 0) rfl))))
  · clear hc0
    show XS (tSeq _ _) _ _ [some (va T x0), some (va T x1), some (va T s1.1), some (va T s1.2)] (stt Ω [] [])
    obtain ⟨y4, hy4, hm⟩ := bnd_some hm
    refine xs_augI (T := T) rfl xe_int (Option.some.inj hy4) ?_
    show XS (tAug _ _ _) _ _ [some (va T x0), some (va T x1), some (va T y4), some (va T s1.2)] (stt Ω [] [])
    obtain ⟨z5, hz5, hm⟩ := bnd_some hm
    obtain ⟨y6, hy6, hm⟩ := bnd_some hm
    refine xs_augD1 (T := T) rfl (chkP_some hz5) (xe_var (i := 1) rfl) (Option.some.inj hy6) ?_
    obtain rfl := Option.some.inj hm
    exact fun σ H n => hD.nx _ rfl σ H n
  · subst es
    obtain ⟨s2, hs2, hm⟩ := bnd_some hm
    cases hs2
    show XS (tRet _) _ _ [some (va T x0), some (va T x1), some (va T s8.1), some (va T s8.2)] (stt Ω [] [])
    obtain rfl := Option.some.inj hm
    refine xs_ret (xe_tup2 (xa_cons (xe_var (i := 2) rfl) (xa_cons (xe_var (i := 3) rfl) xa_nil))) hrt.all
  · subst es
    cases hm
noncomputable def M_number_by_groups (x0 : MS) (x1 : List Int) (x2 : Int) : Option (Int × MS) :=
  (M_group_in x0.w x2).bind fun z1 => (chkP (CRg (x1.length : Int) z1.1)).bind fun z2 => (forM' (ρ := Unit) (fun (a4 : Int) (s3 : Int × MS) => (M_size_of s3.2.w s3.1).bind fun z5 => (chkP (("product" : Str) ∈ mwords)).bind fun z6 => (some ((0 : Int), (1 : Int))).bind fun y7 => (forM' (ρ := Unit) (fun (a9 : Int) (s8 : Int × Int) => (chkP (IntMulOk s8.1 x2)).bind fun z10 => (some ((s8.1 * x2) + a9)).bind fun y11 => (chkP (IntMulOk s8.2 x2)).bind fun z12 => (some (s8.2 * x2)).bind fun y13 => some (Stp.nx (y11, y13))) (cut x1 (some a4) (some (a4 + z1.1))) (y7.1, y7.2)).bind fun z14 => (nxt z14).bind fun s15 => (chkP (IntMulOk s3.1 s15.2)).bind fun z16 => (some ((s3.1 * s15.2) + s15.1)).bind fun y17 => some (Stp.nx (y17, (s3.2.step ("product" : Str) z5)))) (rngS z1.1 (((x1.length : Int) + z1.1 - 1) / z1.1).toNat) ((0 : Int), x0)).bind fun z18 => (nxt z18).bind fun s19 => some (s19.1, s19.2)
def Pre_number_by_groups (T : TC) : PreT := fun As Ω R => ∃ (k0 : Nat) (p0 : Addr) (x0 : MS) (x1 : List Int) (x2 : Int) (r : Int × MS), As = [vr p0, va T (LF.mk x1), va T x2] ∧ Ω[k0]? = some (machA T p0 x0) ∧ M_number_by_groups x0 x1 x2 = some r ∧ R = RV (va T r.1) (stt Ω [(k0, machA T p0 r.2)] [])
theorem sc_number_by_groups : FnScope ["machine", "values", "base", "size", "most_groups", "number", "first", "group", "scale", "value"] ["machine", "values", "base"] (defScope s_number_by_groups) := ⟨rfl, rfl, rfl, by decide +kernel, rfl, by decide +kernel, by decide +kernel⟩
theorem ok_number_by_groups {f : Addr} {fd : FuncData} (F : Fun T.K "number_by_groups" "number_by_groups" s_number_by_groups f fd) (mc : MCls T.K (T.C 0)) (c_group_in : Cal P w T.K mg base 1 "group_in" ["width", "base"] (mkSp (Pre_group_in T))) (z_len : mg "len" = none) (z_range : mg "range" = none) (c_size_of : Cal P w T.K mg base 2 "size_of" ["width", "n"] (mkSp (Pre_size_of T))) (c_Mach_step : CalM P w T.K mg base 1 (T.C 0) "step" ["self", "word", "many"] (mkSp (Pre_Mach_step T))) : FnOk P w T.K mg base CX0 3 f fd ["machine", "values", "base"] (mkSp (Pre_number_by_groups T)) := by
  refine fn_ok F sc_number_by_groups (fun As Ω R h => ?_) (fun cdv A outer s H E hr As Ω R F0 h => ?_)
  · obtain ⟨k0, p0, x0, x1, x2, r, rfl, _⟩ := h
    rfl
  obtain ⟨k0, p0, x0, x1, x2, r, rfl, hk0, hm, rfl⟩ := h
  refine ⟨_, (pss_cons (ps_asg (pe_cal c_group_in (hr.mono (by decide)) (by rfl) (pa_cons (pe_fldK (K := T.K) (pv 0) (by rfl) rfl) (pa_cons (pv 2) pa_nil))) (pg_tupK (K := T.K) (n := 2) rfl rfl (pgs_cons (pg_name (i := 3) sc_number_by_groups.nd rfl (.inl rfl)) (pgs_cons (pg_name (i := 4) sc_number_by_groups.nd rfl (.inl rfl)) pgs_nil)))) (pss_cons (ps_set (i := 5) sc_number_by_groups.nd rfl (.inl rfl) pe_int) (pss_cons (ps_for PassesOwn.never rfl (pi_range3 rfl z_range (pa_cons pe_int (pa_cons (pe_callB (cr_lenK (K := T.K) rfl) (by rfl) z_len PySem.boot_len (pa_cons (pv 1) pa_nil)) (pa_cons (pv 3) pa_nil)))) (pg_name (i := 6) sc_number_by_groups.nd rfl (.inl rfl)) (pss_cons (ps_expr (pe_calM (pv 0) c_Mach_step (hr.mono (by decide)) (pa_cons pe_str (pa_cons (pe_cal c_size_of (hr.mono (by decide)) (by rfl) (pa_cons (pe_fldK (K := T.K) (pv 0) (by rfl) rfl) (pa_cons (pv 5) pa_nil))) pa_nil)))) (pss_cons (ps_asg (pe_tup (pa_cons pe_int (pa_cons pe_int pa_nil))) (pg_tupK (K := T.K) (n := 2) rfl rfl (pgs_cons (pg_name (i := 7) sc_number_by_groups.nd rfl (.inl rfl)) (pgs_cons (pg_name (i := 8) sc_number_by_groups.nd rfl (.inl rfl)) pgs_nil)))) (pss_cons (ps_for PassesOwn.never rfl (pi_listK (K := T.K) (pe_slice (sl_listK (K := T.K) rfl) (pv 1) (po_some (pv 6)) (po_some (pe_op op_addQ (pv 6) (pv 3)))) rfl) (pg_name (i := 9) sc_number_by_groups.nd rfl (.inl rfl)) (pss_cons (ps_set (i := 7) sc_number_by_groups.nd rfl (.inl rfl) (pe_op op_addQ (pe_op op_mulQ (pv 7) (pv 2)) (pv 9))) (pss_one (ps_aug (i := 8) sc_number_by_groups.nd rfl (.inl rfl) (pv 2) (ip_of iop_mulQ))))) (pss_one (ps_set (i := 5) sc_number_by_groups.nd rfl (.inl rfl) (pe_op op_addQ (pe_op op_mulQ (pv 5) (pv 8)) (pv 7)))))))) (pss_one (ps_ret (pv 5)))))), fun D hrt hnx => ?_⟩
  have ok := okk1 hk0
  suffices hx : XS _ D F0 [some (vr p0), some (va T (LF.mk x1)), some (va T x2), none, none, none, none, none, none, none] (stt Ω [(k0, machA T p0 x0)] []) by
    rw [show (stt Ω [(k0, machA T p0 x0)] []) = Ω from stt_self (by simp [hk0])] at hx
    exact hx
  unfold M_number_by_groups at hm
  obtain ⟨z1, hz1, hm⟩ := bnd_some hm
  refine xs_asgG (xe_call (xa_cons (xe_mw mc.cl mc.nw (xe_var (i := 0) rfl) (stt_get ok (i := 0) rfl)) (xa_cons (xe_var (i := 2) rfl) xa_nil)) ⟨x0.w, x2, z1, rfl, hz1, rfl⟩ cal0) tgt_pair ?_
  show XS (tSeq _ _) _ _ [some (vr p0), some (va T (LF.mk x1)), some (va T x2), some (va T z1.1), some (va T z1.2), none, none, none, none, none] (stt Ω [(k0, machA T p0 x0)] [])
  refine xs_set (A := va T (0 : Int)) xe_int ?_
  show XS (tSeq _ _) _ _ [some (vr p0), some (va T (LF.mk x1)), some (va T x2), some (va T z1.1), some (va T z1.2), some (va T (0 : Int)), none, none, none, none] (stt Ω [(k0, machA T p0 x0)] [])
  obtain ⟨z2, hz2, hm⟩ := bnd_some hm
  obtain ⟨z18, hz18, hm⟩ := bnd_some hm
  refine xs_forS (fun (s3 : Int × MS) => [some (vr p0), some (va T (LF.mk x1)), some (va T x2), some (va T z1.1), some (va T z1.2), some (va T s3.1), none, none, none, none]) (fun (s3 : Int × MS) => (stt Ω [(k0, machA T p0 s3.2)] [])) (fun (_ : Unit) _ _ _ => False) hz18 (xi_rangeS (T := T) (xa_cons xe_int (xa_cons (xe_lenL (xe_var (i := 1) rfl) isL_LF) (xa_cons (xe_var (i := 3) rfl) xa_nil))) (chkP_some hz2)) (fun _ => tgt_name) (fun a4 s3 s' ha hm F1 D1 e1 hD => ?_) (fun s19 es => ?_) (fun r1 es => ?_)
  · show XS (tSeq _ _) _ _ [some (vr p0), some (va T (LF.mk x1)), some (va T x2), some (va T z1.1), some (va T z1.2), some (va T s3.1), some (va T a4), none, none, none] (stt Ω [(k0, machA T p0 s3.2)] [])
    obtain ⟨z5, hz5, hm⟩ := bnd_some hm
    obtain ⟨z6, hz6, hm⟩ := bnd_some hm
    refine xs_drop (xe_mcall (xe_var (i := 0) rfl) (stt_get ok (i := 0) rfl) (xa_cons xe_str (xa_cons (xe_call (xa_cons (xe_mw mc.cl mc.nw (xe_var (i := 0) rfl) (stt_get ok (i := 0) rfl)) (xa_cons (xe_var (i := 5) rfl) xa_nil)) ⟨s3.2.w, s3.1, z5, rfl, hz5, rfl⟩ cal0) xa_nil)) ⟨k0, p0, s3.2, ("product" : Str), z5, rfl, (stt_get ok (i := 0) rfl), chkP_some hz6, rfl⟩ (cal1 ok (i := 0) rfl)) ?_
    show XS (tSeq _ _) _ _ [some (vr p0), some (va T (LF.mk x1)), some (va T x2), some (va T z1.1), some (va T z1.2), some (va T s3.1), some (va T a4), none, none, none] (stt Ω [(k0, machA T p0 (s3.2.step ("product" : Str) z5))] [])
    obtain ⟨y7, hy7, hm⟩ := bnd_some hm
    refine xs_asgG (xe_eq (xe_tup2 (xa_cons xe_int (xa_cons xe_int xa_nil))) (Option.some.inj hy7)) tgt_pair ?_
    show XS (tSeq _ _) _ _ [some (vr p0), some (va T (LF.mk x1)), some (va T x2), some (va T z1.1), some (va T z1.2), some (va T s3.1), some (va T a4), some (va T y7.1), some (va T y7.2), none] (stt Ω [(k0, machA T p0 (s3.2.step ("product" : Str) z5))] [])
    obtain ⟨z14, hz14, hm⟩ := bnd_some hm
    refine xs_forS (fun (s8 : Int × Int) => [some (vr p0), some (va T (LF.mk x1)), some (va T x2), some (va T z1.1), some (va T z1.2), some (va T s3.1), some (va T a4), some (va T s8.1), some (va T s8.2), none]) (fun (s8 : Int × Int) => (stt Ω [(k0, machA T p0 (s3.2.step ("product" : Str) z5))] [])) (fun (_ : Unit) _ _ _ => False) hz14 (xi_LF (xe_sliceL (xe_var (i := 1) rfl) (xo_some (T := T) (xe_var (i := 6) rfl)) (xo_some (T := T) (xe_add (xe_var (i := 6) rfl) (xe_var (i := 3) rfl))) isL_LF)) (fun _ => tgt_name) (fun a9 s8 s' ha hm F1 D1 e1 hD => ?_) (fun s15 es => ?_) (fun r1 es => ?_)
    · show XS (tSeq _ _) _ _ [some (vr p0), some (va T (LF.mk x1)), some (va T x2), some (va T z1.1), some (va T z1.2), some (va T s3.1), some (va T a4), some (va T s8.1), some (va T s8.2), some (va T a9)] (stt Ω [(k0, machA T p0 (s3.2.step ("product" : Str) z5))] [])
      obtain ⟨z10, hz10, hm⟩ := bnd_some hm
      obtain ⟨y11, hy11, hm⟩ := bnd_some hm
      refine xs_set (A := va T y11) (xe_eq (xe_add (xe_mul (chkP_some hz10) (xe_var (i := 7) rfl) (xe_var (i := 2) rfl)) (xe_var (i := 9) rfl)) (Option.some.inj hy11)) ?_
      show XS (tAug _ _ _) _ _ [some (vr p0), some (va T (LF.mk x1)), some (va T x2), some (va T z1.1), some (va T z1.2), some (va T s3.1), some (va T a4), some (va T y11), some (va T s8.2), some (va T a9)] (stt Ω [(k0, machA T p0 (s3.2.step ("product" : Str) z5))] [])
      obtain ⟨z12, hz12, hm⟩ := bnd_some hm
      obtain ⟨y13, hy13, hm⟩ := bnd_some hm
      refine xs_augD1 (T := T) rfl (chkP_some hz12) (xe_var (i := 2) rfl) (Option.some.inj hy13) ?_
      obtain rfl := Option.some.inj hm
      exact fun σ H n => hD.nx _ rfl σ H (n.forget 9)
    · subst es
      obtain ⟨s2, hs2, hm⟩ := bnd_some hm
      cases hs2
      show XS (tAsg _ _) _ _ [some (vr p0), some (va T (LF.mk x1)), some (va T x2), some (va T z1.1), some (va T z1.2), some (va T s3.1), some (va T a4), some (va T s15.1), some (va T s15.2), none] (stt Ω [(k0, machA T p0 (s3.2.step ("product" : Str) z5))] [])
      obtain ⟨z16, hz16, hm⟩ := bnd_some hm
      obtain ⟨y17, hy17, hm⟩ := bnd_some hm
      refine xs_set1 (A := va T y17) (xe_eq (xe_add (xe_mul (chkP_some hz16) (xe_var (i := 5) rfl) (xe_var (i := 8) rfl)) (xe_var (i := 7) rfl)) (Option.some.inj hy17)) ?_
      obtain rfl := Option.some.inj hm
      exact fun σ H n => hD.nx _ rfl σ H (((n.forget 7).forget 8).forget 6)
    · subst es
      cases hm
  · subst es
    obtain ⟨s2, hs2, hm⟩ := bnd_some hm
    cases hs2
    show XS (tRet _) _ _ [some (vr p0), some (va T (LF.mk x1)), some (va T x2), some (va T z1.1), some (va T z1.2), some (va T s19.1), none, none, none, none] (stt Ω [(k0, machA T p0 s19.2)] [])
    obtain rfl := Option.some.inj hm
    refine xs_ret (xe_var (i := 5) rfl) hrt.all
  · subst es
    cases hm
noncomputable def M_number_read (x0 : MS) (x1 : List Int) (x2 : Int) : Option (Int × MS) :=
  if (not (List.lookup x2 ([(2, 1), (4, 2), (8, 3), (16, 4), (32, 5)] : List (Int × Int))).isSome) = true then (M_number_by_groups (x0.enter ("read" : Str) (x1.length : Int) x2) x1 x2).bind fun z1 => some (z1.1, z1.2) else (List.lookup x2 ([(2, 1), (4, 2), (8, 3), (16, 4), (32, 5)] : List (Int × Int))).bind fun z2 => (chkP (IntMulOk (x1.length : Int) z2)).bind fun z3 => (chkP (CDivW ((((x1.length : Int) * z2) + (x0.enter ("read" : Str) (x1.length : Int) x2).w) - (1 : Int)) ((x0.enter ("read" : Str) (x1.length : Int) x2).w))).bind fun z4 => (chkP (("shifted" : Str) ∈ mwords)).bind fun z5 => (M_number_of 20 z2 x1.reverse).bind fun z6 => some (z6, ((x0.enter ("read" : Str) (x1.length : Int) x2).step ("shifted" : Str) (((((x1.length : Int) * z2) + (x0.enter ("read" : Str) (x1.length : Int) x2).w) - (1 : Int)) / ((x0.enter ("read" : Str) (x1.length : Int) x2).w))))
def Pre_number_read (T : TC) : PreT := fun As Ω R => ∃ (k0 : Nat) (p0 : Addr) (x0 : MS) (x1 : List Int) (x2 : Int) (r : Int × MS), As = [vr p0, va T (LF.mk x1), va T x2] ∧ Ω[k0]? = some (machA T p0 x0) ∧ M_number_read x0 x1 x2 = some r ∧ R = RV (va T r.1) (stt Ω [(k0, machA T p0 r.2)] [])
theorem sc_number_read : FnScope ["machine", "values", "base", "bits"] ["machine", "values", "base"] (defScope s_number_read) := ⟨rfl, rfl, rfl, by decide +kernel, rfl, by decide +kernel, by decide +kernel⟩
theorem ok_number_read {f : Addr} {fd : FuncData} (F : Fun T.K "number_read" "number_read" s_number_read f fd) (mc : MCls T.K (T.C 0)) (z_len : mg "len" = none) (c_Mach_enter : CalM P w T.K mg base 1 (T.C 0) "enter" ["self", "word", "m", "n"] (mkSp (Pre_Mach_enter T))) (g_DIGIT_BITS : ∃ u, mg "DIGIT_BITS" = some u ∧ RelV (.ref (T.C 410)) u) (qd_DIGIT_BITS : IDict T.K (T.C 410) ([(2, 1), (4, 2), (8, 3), (16, 4), (32, 5)] : List (Int × Int))) (c_number_by_groups : Cal P w T.K mg base 3 "number_by_groups" ["machine", "values", "base"] (mkSp (Pre_number_by_groups T))) (c_Mach_step : CalM P w T.K mg base 1 (T.C 0) "step" ["self", "word", "many"] (mkSp (Pre_Mach_step T))) (z_list : mg "list" = none) (z_reversed : mg "reversed" = none) (c_number_of : Cal P w T.K mg base 21 "number_of" ["width", "row"] (mkSp (Pre_number_of 20 T))) : FnOk P w T.K mg base CX0 22 f fd ["machine", "values", "base"] (mkSp (Pre_number_read T)) := by
  refine fn_ok F sc_number_read (fun As Ω R h => ?_) (fun cdv A outer s H E hr As Ω R F0 h => ?_)
  · obtain ⟨k0, p0, x0, x1, x2, r, rfl, _⟩ := h
    rfl
  obtain ⟨k0, p0, x0, x1, x2, r, rfl, hk0, hm, rfl⟩ := h
  refine ⟨_, (pss_cons (ps_expr (pe_calM (pv 0) c_Mach_enter (hr.mono (by decide)) (pa_cons pe_str (pa_cons (pe_callB (cr_lenK (K := T.K) rfl) (by rfl) z_len PySem.boot_len (pa_cons (pv 1) pa_nil)) (pa_cons (pv 2) pa_nil))))) (pss_cons (ps_if (pt_cmpR (op_notInIDK (K := T.K) rfl qd_DIGIT_BITS) (pv 2) (pe_gl rfl g_DIGIT_BITS) (by with_unfolding_all rfl)) (pss_one (ps_ret (pe_cal c_number_by_groups (hr.mono (by decide)) (by rfl) (pa_cons (pv 0) (pa_cons (pv 1) (pa_cons (pv 2) pa_nil)))))) pss_nil) (pss_cons (ps_set (i := 3) sc_number_read.nd rfl (.inl rfl) (pe_ix (ix_idK (K := T.K) rfl qd_DIGIT_BITS) (pe_gl rfl g_DIGIT_BITS) (pv 2) (by intro _ _; rfl))) (pss_cons (ps_expr (pe_calM (pv 0) c_Mach_step (hr.mono (by decide)) (pa_cons pe_str (pa_cons (pe_op op_fdivW (pe_op op_sub (pe_op op_addQ (pe_op op_mulQ (pe_callB (cr_lenK (K := T.K) rfl) (by rfl) z_len PySem.boot_len (pa_cons (pv 1) pa_nil)) (pv 3)) (pe_fldK (K := T.K) (pv 0) (by rfl) rfl)) pe_int) (pe_fldK (K := T.K) (pv 0) (by rfl) rfl)) pa_nil)))) (pss_one (ps_ret (pe_cal c_number_of (hr.mono (by decide)) (by rfl) (pa_cons (pv 3) (pa_cons (pe_listRevK (K := T.K) rfl rfl (by rfl) z_list (by rfl) z_reversed (pv 1)) pa_nil))))))))), fun D hrt hnx => ?_⟩
  have ok := okk1 hk0
  suffices hx : XS _ D F0 [some (vr p0), some (va T (LF.mk x1)), some (va T x2), none] (stt Ω [(k0, machA T p0 x0)] []) by
    rw [show (stt Ω [(k0, machA T p0 x0)] []) = Ω from stt_self (by simp [hk0])] at hx
    exact hx
  unfold M_number_read at hm
  refine xs_drop (xe_mcall (xe_var (i := 0) rfl) (stt_get ok (i := 0) rfl) (xa_cons xe_str (xa_cons (xe_lenL (xe_var (i := 1) rfl) isL_LF) (xa_cons (xe_var (i := 2) rfl) xa_nil))) ⟨k0, p0, x0, ("read" : Str), (x1.length : Int), x2, rfl, (stt_get ok (i := 0) rfl), rfl⟩ (cal1 ok (i := 0) rfl)) ?_
  show XS (tSeq _ _) _ _ [some (vr p0), some (va T (LF.mk x1)), some (va T x2), none] (stt Ω [(k0, machA T p0 (x0.enter ("read" : Str) (x1.length : Int) x2))] [])
  by_cases hc : (not (List.lookup x2 ([(2, 1), (4, 2), (8, 3), (16, 4), (32, 5)] : List (Int × Int))).isSome) = true
  · rw [if_pos hc] at hm
    refine xs_ifT (xt_eq (xt_test (T := T) (xe_inID (xe_var (i := 2) rfl) xe_vx)) hc) ?_
    obtain ⟨z1, hz1, hm⟩ := bnd_some hm
    obtain rfl := Option.some.inj hm
    refine xs_ret (xe_call (xa_cons (xe_var (i := 0) rfl) (xa_cons (xe_var (i := 1) rfl) (xa_cons (xe_var (i := 2) rfl) xa_nil))) ⟨k0, p0, (x0.enter ("read" : Str) (x1.length : Int) x2), x1, x2, z1, rfl, (stt_get ok (i := 0) rfl), hz1, rfl⟩ (cal1 ok (i := 0) rfl)) hrt.all
  · rw [if_neg hc] at hm
    refine xs_ifN (xt_eq (xt_test (T := T) (xe_inID (xe_var (i := 2) rfl) xe_vx)) (nt hc)) ?_
    show XS (tSeq _ _) _ _ [some (vr p0), some (va T (LF.mk x1)), some (va T x2), none] (stt Ω [(k0, machA T p0 (x0.enter ("read" : Str) (x1.length : Int) x2))] [])
    obtain ⟨z2, hz2, hm⟩ := bnd_some hm
    refine xs_set (A := va T z2) (xe_ixID xe_vx (xe_var (i := 2) rfl) hz2) ?_
    show XS (tSeq _ _) _ _ [some (vr p0), some (va T (LF.mk x1)), some (va T x2), some (va T z2)] (stt Ω [(k0, machA T p0 (x0.enter ("read" : Str) (x1.length : Int) x2))] [])
    obtain ⟨z3, hz3, hm⟩ := bnd_some hm
    obtain ⟨z4, hz4, hm⟩ := bnd_some hm
    obtain ⟨z5, hz5, hm⟩ := bnd_some hm
    refine xs_drop (xe_mcall (xe_var (i := 0) rfl) (stt_get ok (i := 0) rfl) (xa_cons xe_str (xa_cons (xe_fdiv (chkP_some hz4) (xe_sub (xe_add (xe_mul (chkP_some hz3) (xe_lenL (xe_var (i := 1) rfl) isL_LF) (xe_var (i := 3) rfl)) (xe_mw mc.cl mc.nw (xe_var (i := 0) rfl) (stt_get ok (i := 0) rfl))) xe_int) (xe_mw mc.cl mc.nw (xe_var (i := 0) rfl) (stt_get ok (i := 0) rfl))) xa_nil)) ⟨k0, p0, (x0.enter ("read" : Str) (x1.length : Int) x2), ("shifted" : Str), (((((x1.length : Int) * z2) + (x0.enter ("read" : Str) (x1.length : Int) x2).w) - (1 : Int)) / ((x0.enter ("read" : Str) (x1.length : Int) x2).w)), rfl, (stt_get ok (i := 0) rfl), chkP_some hz5, rfl⟩ (cal1 ok (i := 0) rfl)) ?_
    show XS (tRet _) _ _ [some (vr p0), some (va T (LF.mk x1)), some (va T x2), some (va T z2)] (stt Ω [(k0, machA T p0 ((x0.enter ("read" : Str) (x1.length : Int) x2).step ("shifted" : Str) (((((x1.length : Int) * z2) + (x0.enter ("read" : Str) (x1.length : Int) x2).w) - (1 : Int)) / ((x0.enter ("read" : Str) (x1.length : Int) x2).w))))] [])
    obtain ⟨z6, hz6, hm⟩ := bnd_some hm
    obtain rfl := Option.some.inj hm
    refine xs_ret (xe_call (xa_cons (xe_var (i := 3) rfl) (xa_cons (xe_listRev (xe_var (i := 1) rfl) isL_LF) xa_nil)) ⟨z2, x1.reverse, z6, rfl, hz6, rfl⟩ cal0) hrt.all
noncomputable def M_read_text (x0 : MS) (x1 : Str) (x2 : Int) (x3 : Int) : Option (Bg × MS) :=
  (M_check_machine x0).bind fun z1 => (chkP (true = true)).bind fun z2 => (M_is_integer x2).bind fun z3 => (chkP (z3 = true)).bind fun z4 => (if (!decide (x2 = (0 : Int))) = true then (M_is_between x2 (2 : Int) (36 : Int)).bind fun z5 => some (!z5) else some false).bind fun z6 => (chkP (z6 = false)).bind fun z8 => (M_check_most x3).bind fun z9 => (M_parts_of_text x1 x2).bind fun z10 => (chkP (((not (List.lookup z10.b ([(2, 1), (4, 2), (8, 3), (16, 4), (32, 5)] : List (Int × Int))).isSome) && ((!decide (x3 = (0 : Int))) && (decide (x3 < (z10.c.l.length : Int))))) = false)).bind fun z11 => (M_number_read x0 z10.c.l z10.b).bind fun z12 => (chkP (IntMulOk z10.a z12.1)).bind fun z13 => (M_big_of z12.2 (z10.a * z12.1)).bind fun z14 => some (z14, z12.2)
def Pre_read_text (T : TC) : PreT := fun As Ω R => ∃ (k0 : Nat) (p0 : Addr) (x0 : MS) (x1 : Str) (x2 : Int) (x3 : Int) (r : Bg × MS), As = [vr p0, va T x1, va T x2, va T x3] ∧ Ω[k0]? = some (machA T p0 x0) ∧ M_read_text x0 x1 x2 x3 = some r ∧ R = RV (va T r.1) (stt Ω [(k0, machA T p0 r.2)] [])
theorem sc_read_text : FnScope ["machine", "text", "base", "most", "turn", "found_base", "values"] ["machine", "text", "base", "most"] (defScope s_read_text) := ⟨rfl, rfl, rfl, by decide +kernel, rfl, by decide +kernel, by decide +kernel⟩
theorem ok_read_text {f : Addr} {fd : FuncData} (F : FunD T.K "read_text" "read_text" (defArgs s_read_text) (defBody s_read_text) (defScope s_read_text) [V.int 10] [("most", V.int 4300)] f fd) (c_check_machine : Cal P w T.K mg base 1 "check_machine" ["machine"] (mkSp (Pre_check_machine T))) (z_isinstance : mg "isinstance" = none) (z_str : mg "str" = none) (c_is_integer : Cal P w T.K mg base 1 "is_integer" ["value"] (mkSp (Pre_is_integer T))) (g_GREATEST_BASE : ∃ u, mg "GREATEST_BASE" = some u ∧ RelV (.int 36) u) (c_is_between : Cal P w T.K mg base 2 "is_between" ["value", "low", "high"] (mkSp (Pre_is_between T))) (c_check_most : Cal P w T.K mg base 2 "check_most" ["most"] (mkSp (Pre_check_most T))) (c_parts_of_text : Cal P w T.K mg base 4 "parts_of_text" ["text", "base"] (mkSp (Pre_parts_of_text T))) (g_DIGIT_BITS : ∃ u, mg "DIGIT_BITS" = some u ∧ RelV (.ref (T.C 410)) u) (qd_DIGIT_BITS : IDict T.K (T.C 410) ([(2, 1), (4, 2), (8, 3), (16, 4), (32, 5)] : List (Int × Int))) (z_len : mg "len" = none) (c_number_read : Cal P w T.K mg base 22 "number_read" ["machine", "values", "base"] (mkSp (Pre_number_read T))) (c_big_of : Cal P w T.K mg base 22 "big_of" ["machine", "value"] (mkSp (Pre_big_of T))) : FnOk P w T.K mg base CX0 23 f fd ["machine", "text", "base", "most"] (mkSp (Pre_read_text T)) := by
  refine fn_okK F sc_read_text (fun As Ω R h => ?_) (fun cdv A outer s H E hr As Ω R F0 h => ?_)
  · obtain ⟨k0, p0, x0, x1, x2, x3, r, rfl, _⟩ := h
    rfl
  obtain ⟨k0, p0, x0, x1, x2, x3, r, rfl, hk0, hm, rfl⟩ := h
  refine ⟨_, (pss_cons (ps_expr (pe_cal c_check_machine (hr.mono (by decide)) (by rfl) (pa_cons (pv 0) pa_nil))) (pss_cons (ps_if (pt_not (pt_val (pe_callB (cr_isiK (K := T.K) rfl) (by rfl) z_isinstance (by decide +kernel) (pa_cons (pv 1) (pa_cons (pe_bltn (v := .ty "str") (by rfl) z_str (by decide +kernel) rfl) pa_nil))))) pss_never pss_nil) (pss_cons (ps_if (PW.pt (pw_or (pt_not (pt_val (pe_cal c_is_integer (hr.mono (by decide)) (by rfl) (pa_cons (pv 2) pa_nil)))) (pw_or1 (PW.pt (pw_and (pt_cmpR (op_neXK (K := T.K) (by exact hr.units) rfl) (pv 2) pe_int (nomark _)) (pw_and1 (pt_not (pt_val (pe_cal c_is_between (hr.mono (by decide)) (by rfl) (pa_cons (pv 2) (pa_cons pe_int (pa_cons (pe_gl rfl g_GREATEST_BASE) pa_nil)))))))))))) pss_never pss_nil) (pss_cons (ps_expr (pe_cal c_check_most (hr.mono (by decide)) (by rfl) (pa_cons (pv 3) pa_nil))) (pss_cons (ps_asg (pe_cal c_parts_of_text (hr.mono (by decide)) (by rfl) (pa_cons (pv 1) (pa_cons (pv 2) pa_nil))) (pg_tupK (K := T.K) (n := 3) rfl rfl (pgs_cons (pg_name (i := 4) sc_read_text.nd rfl (.inl rfl)) (pgs_cons (pg_name (i := 5) sc_read_text.nd rfl (.inl rfl)) (pgs_cons (pg_name (i := 6) sc_read_text.nd rfl (.inl rfl)) pgs_nil))))) (pss_cons (ps_if (PW.pt (pw_and (pt_cmpR (op_notInIDK (K := T.K) rfl qd_DIGIT_BITS) (pv 5) (pe_gl rfl g_DIGIT_BITS) (by with_unfolding_all rfl)) (pw_and (pt_cmpR (op_neXK (K := T.K) (by exact hr.units) rfl) (pv 3) pe_int (nomark _)) (pw_and1 (pt_cmpR op_gt (pe_callB (cr_lenK (K := T.K) rfl) (by rfl) z_len PySem.boot_len (pa_cons (pv 6) pa_nil)) (pv 3) (nomark _)))))) pss_never pss_nil) (pss_one (ps_ret (pe_cal c_big_of (hr.mono (by decide)) (by rfl) (pa_cons (pv 0) (pa_cons (pe_op op_mulQ (pv 4) (pe_cal c_number_read (hr.mono (by decide)) (by rfl) (pa_cons (pv 0) (pa_cons (pv 6) (pa_cons (pv 5) pa_nil))))) pa_nil))))))))))), fun D hrt hnx => ?_⟩
  have ok := okk1 hk0
  suffices hx : XS _ D F0 [some (vr p0), some (va T x1), some (va T x2), some (va T x3), none, none, none] (stt Ω [(k0, machA T p0 x0)] []) by
    rw [show (stt Ω [(k0, machA T p0 x0)] []) = Ω from stt_self (by simp [hk0])] at hx
    exact hx
  unfold M_read_text at hm
  obtain ⟨z1, hz1, hm⟩ := bnd_some hm
  refine xs_drop (xe_call (xa_cons (xe_var (i := 0) rfl) xa_nil) ⟨k0, p0, x0, z1, rfl, (stt_get ok (i := 0) rfl), hz1, rfl⟩ cal0) ?_
  show XS (tSeq _ _) _ _ [some (vr p0), some (va T x1), some (va T x2), some (va T x3), none, none, none] (stt Ω [(k0, machA T p0 x0)] [])
  obtain ⟨z2, hz2, hm⟩ := bnd_some hm
  refine xs_ifN (xt_notF (xt_eq (xt_tB (T := T) (xe_isi (xe_var (i := 1) rfl) xe_vx (.ty _) (fun F H v hh a => ty_str hh a) (kit_ty (by decide +kernel)))) (chkP_some hz2))) ?_
  show XS (tSeq _ _) _ _ [some (vr p0), some (va T x1), some (va T x2), some (va T x3), none, none, none] (stt Ω [(k0, machA T p0 x0)] [])
  obtain ⟨z3, hz3, hm⟩ := bnd_some hm
  obtain ⟨z4, hz4, hm⟩ := bnd_some hm
  obtain ⟨z6, hz6, hm⟩ := bnd_some hm
  obtain ⟨z8, hz8, hm⟩ := bnd_some hm
  refine xs_ifN (xt_orF (xt_notF (xt_eq (xt_tB (T := T) (xe_call (xa_cons (xe_var (i := 2) rfl) xa_nil) ⟨x2, z3, rfl, hz3, rfl⟩ cal0)) (chkP_some hz4))) (xt_eq (xt_andO (xt_test (T := T) (xe_neI (xe_var (i := 2) rfl) xe_int)) hz6 ?q7) (chkP_some hz8))) ?_
  case q7 =>
    exact (fun v hm => by
      obtain ⟨z5, hz5, hm⟩ := bnd_some hm
      obtain rfl := Option.some.inj hm
      exact (xt_not (xt_tB (T := T) (xe_call (xa_cons (xe_var (i := 2) rfl) (xa_cons xe_int (xa_cons xe_int xa_nil))) ⟨x2, (2 : Int), (36 : Int), z5, rfl, hz5, rfl⟩ cal0))))
  show XS (tSeq _ _) _ _ [some (vr p0), some (va T x1), some (va T x2), some (va T x3), none, none, none] (stt Ω [(k0, machA T p0 x0)] [])
  obtain ⟨z9, hz9, hm⟩ := bnd_some hm
  refine xs_drop (xe_call (xa_cons (xe_var (i := 3) rfl) xa_nil) ⟨x3, z9, rfl, hz9, rfl⟩ cal0) ?_
  show XS (tSeq _ _) _ _ [some (vr p0), some (va T x1), some (va T x2), some (va T x3), none, none, none] (stt Ω [(k0, machA T p0 x0)] [])
  obtain ⟨z10, hz10, hm⟩ := bnd_some hm
  refine xs_asgG (xe_call (xa_cons (xe_var (i := 1) rfl) (xa_cons (xe_var (i := 2) rfl) xa_nil)) ⟨x1, x2, z10, rfl, hz10, rfl⟩ cal0) tgt_triple ?_
  show XS (tSeq _ _) _ _ [some (vr p0), some (va T x1), some (va T x2), some (va T x3), some (va T z10.a), some (va T z10.b), some (va T (LF.mk z10.c.l))] (stt Ω [(k0, machA T p0 x0)] [])
  obtain ⟨z11, hz11, hm⟩ := bnd_some hm
  refine xs_ifN (xt_eq (xt_and (xt_test (T := T) (xe_inID (xe_var (i := 5) rfl) xe_vx)) (fun _ => (xt_and (xt_test (T := T) (xe_neI (xe_var (i := 3) rfl) xe_int)) (fun _ => (xt_test (T := T) (xe_gt (xe_lenL (xe_var (i := 6) rfl) isL_LF) (xe_var (i := 3) rfl)))) (fun _ => rfl))) (fun _ => rfl)) (chkP_some hz11)) ?_
  show XS (tRet _) _ _ [some (vr p0), some (va T x1), some (va T x2), some (va T x3), some (va T z10.a), some (va T z10.b), some (va T (LF.mk z10.c.l))] (stt Ω [(k0, machA T p0 x0)] [])
  obtain ⟨z12, hz12, hm⟩ := bnd_some hm
  obtain ⟨z13, hz13, hm⟩ := bnd_some hm
  obtain ⟨z14, hz14, hm⟩ := bnd_some hm
  obtain rfl := Option.some.inj hm
  refine xs_ret (xe_call (xa_cons (xe_var (i := 0) rfl) (xa_cons (xe_mul (chkP_some hz13) (xe_var (i := 4) rfl) (xe_call (xa_cons (xe_var (i := 0) rfl) (xa_cons (xe_var (i := 6) rfl) (xa_cons (xe_var (i := 5) rfl) xa_nil))) ⟨k0, p0, x0, z10.c.l, z10.b, z12, rfl, (stt_get ok (i := 0) rfl), hz12, rfl⟩ (cal1 ok (i := 0) rfl))) xa_nil)) ⟨k0, p0, z12.2, (z10.a * z12.1), z14, rfl, (stt_get ok (i := 0) rfl), hz14, rfl⟩ cal0) hrt.all
noncomputable def M__law_purse (x0 : Int) : Option (List Int) :=
  (chkP (CPow (10 : Int) (18 : Int))).bind fun z1 => (chkP (IntMulOk x0 (if (decide (((10 : Int) ^ ((18 : Int)).toNat) ≤ x0)) = true then (1 : Int) else 0))).bind fun z2 => (chkP (0 < (2147483563 : Int))).bind fun z3 => some ([(x0 * (if (decide (((10 : Int) ^ ((18 : Int)).toNat) ≤ x0)) = true then (1 : Int) else 0)), (x0 % (2147483563 : Int)), (7 : Int)] : List Int)
def Pre__law_purse (T : TC) : PreT := fun As Ω R => ∃ (x0 : Int) (r : List Int), As = [va T x0] ∧ M__law_purse x0 = some r ∧ R = RN (stt Ω [] []) (fun q => lstA T q r)
theorem sc__law_purse : FnScope ["_law_cell"] ["_law_cell"] (defScope s__law_purse) := ⟨rfl, rfl, rfl, by decide +kernel, rfl, by decide +kernel, by decide +kernel⟩
theorem ok__law_purse {f : Addr} {fd : FuncData} (F : Fun T.K "_law_purse" "_law_purse" s__law_purse f fd) (z_int : mg "int" = none) : FnOk P w T.K mg base CX0 1 f fd ["_law_cell"] (mkSp (Pre__law_purse T)) := by
  refine fn_ok F sc__law_purse (fun As Ω R h => ?_) (fun cdv A outer s H E hr As Ω R F0 h => ?_)
  · obtain ⟨x0, r, rfl, _⟩ := h
    rfl
  obtain ⟨x0, r, rfl, hm, rfl⟩ := h
  refine ⟨_, (pss_one (ps_ret (pe_lst (pa_cons (pe_op op_mulQ (pv 0) (pe_callTy cr_int (by rfl) z_int (by decide +kernel) (pa_cons (pe_cmpR op_ge (pv 0) (pe_op op_pow pe_int pe_int) (nomark _)) pa_nil))) (pa_cons (pe_op op_mod (pe_callTy cr_int (by rfl) z_int (by decide +kernel) (pa_cons (pv 0) pa_nil)) pe_int) (pa_cons pe_int pa_nil)))))), fun D hrt hnx => ?_⟩
  have ok : Okk Ω [] := okk0
  suffices hx : XS _ D F0 [some (va T x0)] (stt Ω [] []) by
    rw [show (stt Ω [] []) = Ω from stt_self (by simp)] at hx
    exact hx
  unfold M__law_purse at hm
  obtain ⟨z1, hz1, hm⟩ := bnd_some hm
  obtain ⟨z2, hz2, hm⟩ := bnd_some hm
  obtain ⟨z3, hz3, hm⟩ := bnd_some hm
  obtain rfl := Option.some.inj hm
  refine xs_ret (xn_lst (T := T) (l := [(x0 * (if (decide (((10 : Int) ^ ((18 : Int)).toNat) ≤ x0)) = true then (1 : Int) else 0)), (x0 % (2147483563 : Int)), (7 : Int)]) (xa_cons (xe_mul (chkP_some hz2) (xe_var (i := 0) rfl) (xe_intb (xe_ge (xe_var (i := 0) rfl) (xe_pow (chkP_some hz1) xe_int xe_int)))) (xa_cons (xe_mod (chkP_some hz3) (xe_int1 (xe_var (i := 0) rfl)) xe_int) (xa_cons xe_int xa_nil))) (by show 3 ≤ sizeLine; decide)) (RT.allN hrt)
noncomputable def M__law_coin (x0 : List Int) (x1 : Int) : Option (Int × List Int) :=
  (atI x0 (0 : Int)).bind fun z1 => if (decide ((0 : Int) < z1)) = true then (atI x0 (0 : Int)).bind fun z2 => (chkP (0 < x1)).bind fun z3 => (some (z2 % x1)).bind fun y4 => (atI x0 (0 : Int)).bind fun z5 => (chkP (CDivW z5 x1)).bind fun z6 => (some (z5 / x1)).bind fun y7 => (ixN x0.length (0 : Int)).bind fun z8 => some (y4, (x0.set z8 y7)) else (atI x0 (2 : Int)).bind fun z9 => (some (z9 + (1 : Int))).bind fun y10 => (ixN x0.length (2 : Int)).bind fun z11 => (atI (x0.set z11 y10) (1 : Int)).bind fun z12 => (atI (x0.set z11 y10) (2 : Int)).bind fun z13 => (chkP (IntMulOk (80021 : Int) z13)).bind fun z14 => (chkP (CPow ((z12 + ((80021 : Int) * z13)) + (9 : Int)) (3 : Int))).bind fun z15 => (chkP (0 < (2147483587 : Int))).bind fun z16 => (some ((((z12 + ((80021 : Int) * z13)) + (9 : Int)) ^ ((3 : Int)).toNat) % (2147483587 : Int))).bind fun y17 => (atI (x0.set z11 y10) (2 : Int)).bind fun z18 => (chkP (IntMulOk (7 : Int) z18)).bind fun z19 => (chkP (CDivW y17 (1031 : Int))).bind fun z20 => (chkP (IntMulOk (y17 + ((7 : Int) * z18)) ((y17 / (1031 : Int)) + (60089 : Int)))).bind fun z21 => (chkP (0 < (2147483549 : Int))).bind fun z22 => (some (((y17 + ((7 : Int) * z18)) * ((y17 / (1031 : Int)) + (60089 : Int))) % (2147483549 : Int))).bind fun y23 => (chkP (CDivW y23 (2027 : Int))).bind fun z24 => (chkP (IntMulOk y23 ((y23 / (2027 : Int)) + (50069 : Int)))).bind fun z25 => (chkP (0 < (2147483543 : Int))).bind fun z26 => (chkP (CDivW ((y23 * ((y23 / (2027 : Int)) + (50069 : Int))) % (2147483543 : Int)) (3 : Int))).bind fun z27 => (chkP (0 < x1)).bind fun z28 => some (((((y23 * ((y23 / (2027 : Int)) + (50069 : Int))) % (2147483543 : Int)) / (3 : Int)) % x1), (x0.set z11 y10))
def Pre__law_coin (T : TC) : PreT := fun As Ω R => ∃ (k0 : Nat) (p0 : Addr) (x0 : List Int) (x1 : Int) (r : Int × List Int), As = [vr p0, va T x1] ∧ Ω[k0]? = some (lstA T p0 x0) ∧ M__law_coin x0 x1 = some r ∧ R = RV (va T r.1) (stt Ω [(k0, lstA T p0 r.2)] [])
theorem sc__law_coin : FnScope ["_law_purse_here", "_law_amount", "_law_coin_here", "_law_mixed"] ["_law_purse_here", "_law_amount"] (defScope s__law_coin) := ⟨rfl, rfl, rfl, by decide +kernel, rfl, by decide +kernel, by decide +kernel⟩
theorem ok__law_coin {f : Addr} {fd : FuncData} (F : Fun T.K "_law_coin" "_law_coin" s__law_coin f fd) (z_int : mg "int" = none) : FnOk P w T.K mg base CX0 1 f fd ["_law_purse_here", "_law_amount"] (mkSp (Pre__law_coin T)) := by
  refine fn_ok F sc__law_coin (fun As Ω R h => ?_) (fun cdv A outer s H E hr As Ω R F0 h => ?_)
  · obtain ⟨k0, p0, x0, x1, r, rfl, _⟩ := h
    rfl
  obtain ⟨k0, p0, x0, x1, r, rfl, hk0, hm, rfl⟩ := h
  refine ⟨_, (pss_cons (ps_if (pt_cmpR op_gt (pe_ix (ix_seqK (K := T.K) rfl) (pv 0) pe_int (by intro _ _; rfl)) pe_int (nomark _)) (pss_cons (ps_set (i := 2) sc__law_coin.nd rfl (.inl rfl) (pe_op op_mod (pe_callTy cr_int (by rfl) z_int (by decide +kernel) (pa_cons (pe_ix (ix_seqK (K := T.K) rfl) (pv 0) pe_int (by intro _ _; rfl)) pa_nil)) (pv 1))) (pss_cons (ps_asg (pe_op op_fdivW (pe_ix (ix_seqK (K := T.K) rfl) (pv 0) pe_int (by intro _ _; rfl)) (pv 1)) (pg_sub (pv 0) pe_int set_list)) (pss_one (ps_ret (pv 2))))) pss_nil) (pss_cons (ps_asg (pe_op op_addQ (pe_ix (ix_seqK (K := T.K) rfl) (pv 0) pe_int (by intro _ _; rfl)) pe_int) (pg_sub (pv 0) pe_int set_list)) (pss_cons (ps_set (i := 3) sc__law_coin.nd rfl (.inl rfl) (pe_op op_mod (pe_callTy cr_int (by rfl) z_int (by decide +kernel) (pa_cons (pe_op op_pow (pe_op op_addQ (pe_op op_addQ (pe_ix (ix_seqK (K := T.K) rfl) (pv 0) pe_int (by intro _ _; rfl)) (pe_op op_mulQ pe_int (pe_ix (ix_seqK (K := T.K) rfl) (pv 0) pe_int (by intro _ _; rfl)))) pe_int) pe_int) pa_nil)) pe_int)) (pss_cons (ps_set (i := 3) sc__law_coin.nd rfl (.inl rfl) (pe_op op_mod (pe_callTy cr_int (by rfl) z_int (by decide +kernel) (pa_cons (pe_op op_mulQ (pe_op op_addQ (pv 3) (pe_op op_mulQ pe_int (pe_ix (ix_seqK (K := T.K) rfl) (pv 0) pe_int (by intro _ _; rfl)))) (pe_op op_addQ (pe_op op_fdivW (pv 3) pe_int) pe_int)) pa_nil)) pe_int)) (pss_one (ps_ret (pe_op op_mod (pe_callTy cr_int (by rfl) z_int (by decide +kernel) (pa_cons (pe_op op_fdivW (pe_op op_mod (pe_callTy cr_int (by rfl) z_int (by decide +kernel) (pa_cons (pe_op op_mulQ (pv 3) (pe_op op_addQ (pe_op op_fdivW (pv 3) pe_int) pe_int)) pa_nil)) pe_int) pe_int) pa_nil)) (pv 1)))))))), fun D hrt hnx => ?_⟩
  have ok := okk1 hk0
  suffices hx : XS _ D F0 [some (vr p0), some (va T x1), none, none] (stt Ω [(k0, lstA T p0 (x0 : List Int))] []) by
    rw [show (stt Ω [(k0, lstA T p0 (x0 : List Int))] []) = Ω from stt_self (by simp [hk0])] at hx
    exact hx
  unfold M__law_coin at hm
  obtain ⟨z1, hz1, hm⟩ := bnd_some hm
  by_cases hc : (decide ((0 : Int) < z1)) = true
  · rw [if_pos hc] at hm
    refine xs_ifT (xt_eq (xt_test (T := T) (xe_gt (xe_ix (xe_var (i := 0) rfl) xe_int (isL_M (stt_get ok (i := 0) rfl)) hz1) xe_int)) hc) ?_
    obtain ⟨z2, hz2, hm⟩ := bnd_some hm
    obtain ⟨z3, hz3, hm⟩ := bnd_some hm
    obtain ⟨y4, hy4, hm⟩ := bnd_some hm
    refine xs_set (A := va T y4) (xe_eq (xe_mod (chkP_some hz3) (xe_int1 (xe_ix (xe_var (i := 0) rfl) xe_int (isL_M (stt_get ok (i := 0) rfl)) hz2)) (xe_var (i := 1) rfl)) (Option.some.inj hy4)) ?_
    show XS (tSeq _ _) _ _ [some (vr p0), some (va T x1), some (va T y4), none] (stt Ω [(k0, lstA T p0 (x0 : List Int))] [])
    obtain ⟨z5, hz5, hm⟩ := bnd_some hm
    obtain ⟨z6, hz6, hm⟩ := bnd_some hm
    obtain ⟨y7, hy7, hm⟩ := bnd_some hm
    obtain ⟨z8, hz8, hm⟩ := bnd_some hm
    refine xs_setL (xe_eq (xe_fdiv (chkP_some hz6) (xe_ix (xe_var (i := 0) rfl) xe_int (isL_M (stt_get ok (i := 0) rfl)) hz5) (xe_var (i := 1) rfl)) (Option.some.inj hy7)) (xe_var (i := 0) rfl) xe_int (stt_get ok (i := 0) rfl) hz8 ?_
    rw [(stt_set ok (i := 0) rfl)]
    show XS (tRet _) _ _ [some (vr p0), some (va T x1), some (va T y4), none] (stt Ω [(k0, lstA T p0 ((x0.set z8 y7) : List Int))] [])
    obtain rfl := Option.some.inj hm
    refine xs_ret (xe_var (i := 2) rfl) hrt.all
  · rw [if_neg hc] at hm
    refine xs_ifN (xt_eq (xt_test (T := T) (xe_gt (xe_ix (xe_var (i := 0) rfl) xe_int (isL_M (stt_get ok (i := 0) rfl)) hz1) xe_int)) (nt hc)) ?_
    show XS (tSeq _ _) _ _ [some (vr p0), some (va T x1), none, none] (stt Ω [(k0, lstA T p0 (x0 : List Int))] [])
    obtain ⟨z9, hz9, hm⟩ := bnd_some hm
    obtain ⟨y10, hy10, hm⟩ := bnd_some hm
    obtain ⟨z11, hz11, hm⟩ := bnd_some hm
    refine xs_setL (xe_eq (xe_add (xe_ix (xe_var (i := 0) rfl) xe_int (isL_M (stt_get ok (i := 0) rfl)) hz9) xe_int) (Option.some.inj hy10)) (xe_var (i := 0) rfl) xe_int (stt_get ok (i := 0) rfl) hz11 ?_
    rw [(stt_set ok (i := 0) rfl)]
    show XS (tSeq _ _) _ _ [some (vr p0), some (va T x1), none, none] (stt Ω [(k0, lstA T p0 ((x0.set z11 y10) : List Int))] [])
    obtain ⟨z12, hz12, hm⟩ := bnd_some hm
    obtain ⟨z13, hz13, hm⟩ := bnd_some hm
    obtain ⟨z14, hz14, hm⟩ := bnd_some hm
    obtain ⟨z15, hz15, hm⟩ := bnd_some hm
    obtain ⟨z16, hz16, hm⟩ := bnd_some hm
    obtain ⟨y17, hy17, hm⟩ := bnd_some hm
    refine xs_set (A := va T y17) (xe_eq (xe_mod (chkP_some hz16) (xe_int1 (xe_pow (chkP_some hz15) (xe_add (xe_add (xe_ix (xe_var (i := 0) rfl) xe_int (isL_M (stt_get ok (i := 0) rfl)) hz12) (xe_mul (chkP_some hz14) xe_int (xe_ix (xe_var (i := 0) rfl) xe_int (isL_M (stt_get ok (i := 0) rfl)) hz13))) xe_int) xe_int)) xe_int) (Option.some.inj hy17)) ?_
    show XS (tSeq _ _) _ _ [some (vr p0), some (va T x1), none, some (va T y17)] (stt Ω [(k0, lstA T p0 ((x0.set z11 y10) : List Int))] [])
    obtain ⟨z18, hz18, hm⟩ := bnd_some hm
    obtain ⟨z19, hz19, hm⟩ := bnd_some hm
    obtain ⟨z20, hz20, hm⟩ := bnd_some hm
    obtain ⟨z21, hz21, hm⟩ := bnd_some hm
    obtain ⟨z22, hz22, hm⟩ := bnd_some hm
    obtain ⟨y23, hy23, hm⟩ := bnd_some hm
    refine xs_set (A := va T y23) (xe_eq (xe_mod (chkP_some hz22) (xe_int1 (xe_mul (chkP_some hz21) (xe_add (xe_var (i := 3) rfl) (xe_mul (chkP_some hz19) xe_int (xe_ix (xe_var (i := 0) rfl) xe_int (isL_M (stt_get ok (i := 0) rfl)) hz18))) (xe_add (xe_fdiv (chkP_some hz20) (xe_var (i := 3) rfl) xe_int) xe_int))) xe_int) (Option.some.inj hy23)) ?_
    show XS (tRet _) _ _ [some (vr p0), some (va T x1), none, some (va T y23)] (stt Ω [(k0, lstA T p0 ((x0.set z11 y10) : List Int))] [])
    obtain ⟨z24, hz24, hm⟩ := bnd_some hm
    obtain ⟨z25, hz25, hm⟩ := bnd_some hm
    obtain ⟨z26, hz26, hm⟩ := bnd_some hm
    obtain ⟨z27, hz27, hm⟩ := bnd_some hm
    obtain ⟨z28, hz28, hm⟩ := bnd_some hm
    obtain rfl := Option.some.inj hm
    refine xs_ret (xe_mod (chkP_some hz28) (xe_int1 (xe_fdiv (chkP_some hz27) (xe_mod (chkP_some hz26) (xe_int1 (xe_mul (chkP_some hz25) (xe_var (i := 3) rfl) (xe_add (xe_fdiv (chkP_some hz24) (xe_var (i := 3) rfl) xe_int) xe_int))) xe_int) xe_int)) (xe_var (i := 1) rfl)) hrt.all
noncomputable def M__law_pick (x0 : List Int) (x1 : List Int) : Option (Int × List Int) :=
  (M__law_coin x0 (x1.length : Int)).bind fun z1 => (atI x1 z1.1).bind fun z2 => some (z2, z1.2)
def Pre__law_pick (T : TC) : PreT := fun As Ω R => ∃ (k0 : Nat) (p0 : Addr) (x0 : List Int) (x1 : List Int) (r : Int × List Int), As = [vr p0, va T (LF.mk x1)] ∧ Ω[k0]? = some (lstA T p0 x0) ∧ M__law_pick x0 x1 = some r ∧ R = RV (va T r.1) (stt Ω [(k0, lstA T p0 r.2)] [])
theorem sc__law_pick : FnScope ["_law_purse_here", "_law_some"] ["_law_purse_here", "_law_some"] (defScope s__law_pick) := ⟨rfl, rfl, rfl, by decide +kernel, rfl, by decide +kernel, by decide +kernel⟩
theorem ok__law_pick {f : Addr} {fd : FuncData} (F : Fun T.K "_law_pick" "_law_pick" s__law_pick f fd) (z_len : mg "len" = none) (c__law_coin : Cal P w T.K mg base 1 "_law_coin" ["_law_purse_here", "_law_amount"] (mkSp (Pre__law_coin T))) : FnOk P w T.K mg base CX0 2 f fd ["_law_purse_here", "_law_some"] (mkSp (Pre__law_pick T)) := by
  refine fn_ok F sc__law_pick (fun As Ω R h => ?_) (fun cdv A outer s H E hr As Ω R F0 h => ?_)
  · obtain ⟨k0, p0, x0, x1, r, rfl, _⟩ := h
    rfl
  obtain ⟨k0, p0, x0, x1, r, rfl, hk0, hm, rfl⟩ := h
  refine ⟨_, (pss_one (ps_ret (pe_ix (ix_seqK (K := T.K) rfl) (pv 1) (pe_cal c__law_coin (hr.mono (by decide)) (by rfl) (pa_cons (pv 0) (pa_cons (pe_callB (cr_lenK (K := T.K) rfl) (by rfl) z_len PySem.boot_len (pa_cons (pv 1) pa_nil)) pa_nil))) (by intro _ _; rfl)))), fun D hrt hnx => ?_⟩
  have ok := okk1 hk0
  suffices hx : XS _ D F0 [some (vr p0), some (va T (LF.mk x1))] (stt Ω [(k0, lstA T p0 (x0 : List Int))] []) by
    rw [show (stt Ω [(k0, lstA T p0 (x0 : List Int))] []) = Ω from stt_self (by simp [hk0])] at hx
    exact hx
  unfold M__law_pick at hm
  obtain ⟨z1, hz1, hm⟩ := bnd_some hm
  obtain ⟨z2, hz2, hm⟩ := bnd_some hm
  obtain rfl := Option.some.inj hm
  refine xs_ret (xe_ix (xe_var (i := 1) rfl) (xe_call (xa_cons (xe_var (i := 0) rfl) (xa_cons (xe_lenL (xe_var (i := 1) rfl) isL_LF) xa_nil)) ⟨k0, p0, x0, (x1.length : Int), z1, rfl, (stt_get ok (i := 0) rfl), hz1, rfl⟩ (cal1 ok (i := 0) rfl)) isL_LF hz2) hrt.all
noncomputable def M__law_pick__o1 (x0 : List Int) (x1 : List Str) : Option (Str × List Int) :=
  (M__law_coin x0 (x1.length : Int)).bind fun z1 => (atI x1 z1.1).bind fun z2 => some (z2, z1.2)
def Pre__law_pick__o1 (T : TC) : PreT := fun As Ω R => ∃ (k0 : Nat) (p0 : Addr) (x0 : List Int) (x1 : List Str) (r : Str × List Int), As = [vr p0, va T (LF.mk x1)] ∧ Ω[k0]? = some (lstA T p0 x0) ∧ M__law_pick__o1 x0 x1 = some r ∧ R = RV (va T r.1) (stt Ω [(k0, lstA T p0 r.2)] [])
theorem sc__law_pick__o1 : FnScope ["_law_purse_here", "_law_some"] ["_law_purse_here", "_law_some"] (defScope s__law_pick__o1) := ⟨rfl, rfl, rfl, by decide +kernel, rfl, by decide +kernel, by decide +kernel⟩
theorem ok__law_pick__o1 {f : Addr} {fd : FuncData} (F : Fun T.K "_law_pick" "_law_pick" s__law_pick__o1 f fd) (z_len : mg "len" = none) (c__law_coin : Cal P w T.K mg base 1 "_law_coin" ["_law_purse_here", "_law_amount"] (mkSp (Pre__law_coin T))) : FnOk P w T.K mg base CX0 2 f fd ["_law_purse_here", "_law_some"] (mkSp (Pre__law_pick__o1 T)) := by
  refine fn_ok F sc__law_pick__o1 (fun As Ω R h => ?_) (fun cdv A outer s H E hr As Ω R F0 h => ?_)
  · obtain ⟨k0, p0, x0, x1, r, rfl, _⟩ := h
    rfl
  obtain ⟨k0, p0, x0, x1, r, rfl, hk0, hm, rfl⟩ := h
  refine ⟨_, (pss_one (ps_ret (pe_ix (ix_seqK (K := T.K) rfl) (pv 1) (pe_cal c__law_coin (hr.mono (by decide)) (by rfl) (pa_cons (pv 0) (pa_cons (pe_callB (cr_lenK (K := T.K) rfl) (by rfl) z_len PySem.boot_len (pa_cons (pv 1) pa_nil)) pa_nil))) (by intro _ _; rfl)))), fun D hrt hnx => ?_⟩
  have ok := okk1 hk0
  suffices hx : XS _ D F0 [some (vr p0), some (va T (LF.mk x1))] (stt Ω [(k0, lstA T p0 (x0 : List Int))] []) by
    rw [show (stt Ω [(k0, lstA T p0 (x0 : List Int))] []) = Ω from stt_self (by simp [hk0])] at hx
    exact hx
  unfold M__law_pick__o1 at hm
  obtain ⟨z1, hz1, hm⟩ := bnd_some hm
  obtain ⟨z2, hz2, hm⟩ := bnd_some hm
  obtain rfl := Option.some.inj hm
  refine xs_ret (xe_ix (xe_var (i := 1) rfl) (xe_call (xa_cons (xe_var (i := 0) rfl) (xa_cons (xe_lenL (xe_var (i := 1) rfl) isL_LF) xa_nil)) ⟨k0, p0, x0, (x1.length : Int), z1, rfl, (stt_get ok (i := 0) rfl), hz1, rfl⟩ (cal1 ok (i := 0) rfl)) isL_LF hz2) hrt.all
noncomputable def M__law_row (x0 : List Int) (x1 : Int) (x2 : Int) : Option (List Int × List Int) :=
  (some ([] : List Int)).bind fun y1 => (chkP (-(2 ^ 62) ≤ x2 ∧ x2 < 2 ^ 62)).bind fun z4 => (forM' (ρ := Unit) (fun (a6 : Int) (s5 : (List Int) × (List Int)) => (chkP (CShl (1 : Int) x1)).bind fun z7 => (M__law_coin s5.1 ((1 : Int) * 2 ^ (x1).toNat)).bind fun z8 => (chkP (CShl (1 : Int) x1)).bind fun z9 => (M__law_coin z8.2 ((1 : Int) * 2 ^ (x1).toNat)).bind fun z10 => (chkP (CShl (1 : Int) x1)).bind fun z11 => (M__law_pick z10.2 ([z8.1, z10.1, (0 : Int), (((1 : Int) * 2 ^ (x1).toNat) - (1 : Int))] : List Int)).bind fun z12 => (chkP (s5.2.length < sizeLine)).bind fun z13 => some (Stp.nx (z12.2, (s5.2 ++ [z12.1])))) (rng 0 (x2).toNat) (x0, y1)).bind fun z14 => (nxt z14).bind fun s15 => (chkP (Dat.ok (LF.mk s15.2) ∧ Dat.ok (LF.mk ([] : List Int)))).bind fun z16 => (if (!eqD (LF.mk s15.2) (LF.mk ([] : List Int))) = true then (atI s15.2 (-(1 : Int))).bind fun z17 => (chkP ((cut s15.2 none (some (-(1 : Int)))).length + ([(max (1 : Int) z17)] : List Int).length ≤ sizeLine)).bind fun z18 => some ((cut s15.2 none (some (-(1 : Int)))) ++ ([(max (1 : Int) z17)] : List Int)) else some ([] : List Int)).bind fun z19 => some (z19, s15.1)
def Pre__law_row (T : TC) : PreT := fun As Ω R => ∃ (k0 : Nat) (p0 : Addr) (x0 : List Int) (x1 : Int) (x2 : Int) (r : List Int × List Int), As = [vr p0, va T x1, va T x2] ∧ Ω[k0]? = some (lstA T p0 x0) ∧ M__law_row x0 x1 x2 = some r ∧ R = RV (va T (LF.mk r.1)) (stt Ω [(k0, lstA T p0 r.2)] [])
theorem sc__law_row : FnScope ["_law_purse_here", "_law_bits", "_law_size", "_law_found", "_law_k"] ["_law_purse_here", "_law_bits", "_law_size"] (defScope s__law_row) := ⟨rfl, rfl, rfl, by decide +kernel, rfl, by decide +kernel, by decide +kernel⟩
theorem ok__law_row {f : Addr} {fd : FuncData} (F : Fun T.K "_law_row" "_law_row" s__law_row f fd) (z_range : mg "range" = none) (c__law_coin : Cal P w T.K mg base 1 "_law_coin" ["_law_purse_here", "_law_amount"] (mkSp (Pre__law_coin T))) (c__law_pick : Cal P w T.K mg base 2 "_law_pick" ["_law_purse_here", "_law_some"] (mkSp (Pre__law_pick T))) (z_max : mg "max" = none) : FnOk P w T.K mg base CX0 3 f fd ["_law_purse_here", "_law_bits", "_law_size"] (mkSp (Pre__law_row T)) := by
  refine fn_ok F sc__law_row (fun As Ω R h => ?_) (fun cdv A outer s H E hr As Ω R F0 h => ?_)
  · obtain ⟨k0, p0, x0, x1, x2, r, rfl, _⟩ := h
    rfl
  obtain ⟨k0, p0, x0, x1, x2, r, rfl, hk0, hm, rfl⟩ := h
  refine ⟨_, (pss_cons (ps_set (i := 3) sc__law_row.nd rfl (.inl rfl) (pe_lst pa_nil)) (pss_cons (ps_for PassesOwn.never rfl (pi_range1 rfl z_range (pa_cons (pv 2) pa_nil)) (pg_name (i := 4) sc__law_row.nd rfl (.inl rfl)) (pss_one (ps_expr (pe_bm PySem.F.plainAttrs_list PySem.F.slot_list_append PySem.F.type_list_append mt_append (pv 3) (pa_cons (pe_cal c__law_pick (hr.mono (by decide)) (by rfl) (pa_cons (pv 0) (pa_cons (pe_lst (pa_cons (pe_cal c__law_coin (hr.mono (by decide)) (by rfl) (pa_cons (pv 0) (pa_cons (pe_op op_shlW pe_int (pv 1)) pa_nil))) (pa_cons (pe_cal c__law_coin (hr.mono (by decide)) (by rfl) (pa_cons (pv 0) (pa_cons (pe_op op_shlW pe_int (pv 1)) pa_nil))) (pa_cons pe_int (pa_cons (pe_op op_sub (pe_op op_shlW pe_int (pv 1)) pe_int) pa_nil))))) pa_nil))) pa_nil))))) (pss_one (ps_ret (pe_ifExp (pt_cmpR (op_neXK (K := T.K) (by exact hr.units) rfl) (pv 3) (pe_lst pa_nil) (nomark _)) (pe_op op_addQ (pe_slice (sl_listK (K := T.K) rfl) (pv 3) po_none (po_some (pe_un un_neg pe_int))) (pe_lst (pa_cons (pe_callB (cr_max2 rfl) (by rfl) z_max (by decide +kernel) (pa_cons pe_int (pa_cons (pe_ix (ix_seqK (K := T.K) rfl) (pv 3) (pe_un un_neg pe_int) (by intro _ _; rfl)) pa_nil))) pa_nil))) (pe_lst pa_nil)))))), fun D hrt hnx => ?_⟩
  have ok := okk1 hk0
  suffices hx : XS _ D F0 [some (vr p0), some (va T x1), some (va T x2), none, none] (stt Ω [(k0, lstA T p0 (x0 : List Int))] []) by
    rw [show (stt Ω [(k0, lstA T p0 (x0 : List Int))] []) = Ω from stt_self (by simp [hk0])] at hx
    exact hx
  unfold M__law_row at hm
  obtain ⟨y1, hy1, hm⟩ := bnd_some hm
  obtain rfl := Option.some.inj hy1
  refine xs_setO ((xn_lst (T := T) (l := ([] : List Int)) xa_nil (Nat.zero_le _))) (fun pp2 => ?_)
  show XS (tSeq _ _) _ _ [some (vr p0), some (va T x1), some (va T x2), some (vr pp2), none] (stt Ω [(k0, lstA T p0 (x0 : List Int))] [lstA T pp2 (([] : List Int) : List Int)])
  obtain ⟨z4, hz4, hm⟩ := bnd_some hm
  obtain ⟨z14, hz14, hm⟩ := bnd_some hm
  refine xs_forS (fun (s5 : (List Int) × (List Int)) => [some (vr p0), some (va T x1), some (va T x2), some (vr pp2), none]) (fun (s5 : (List Int) × (List Int)) => (stt Ω [(k0, lstA T p0 (s5.1 : List Int))] [lstA T pp2 (s5.2 : List Int)])) (fun (_ : Unit) _ _ _ => False) hz14 (xi_range1 (T := T) (xa_cons (xe_var (i := 2) rfl) xa_nil) (chkP_some hz4).1 (chkP_some hz4).2) (fun _ => tgt_name) (fun a6 s5 s' ha hm F1 D1 e1 hD => ?_) (fun s15 es => ?_) (fun r1 es => ?_)
  · show XS (tDrop _) _ _ [some (vr p0), some (va T x1), some (va T x2), some (vr pp2), some (va T a6)] (stt Ω [(k0, lstA T p0 (s5.1 : List Int))] [lstA T pp2 (s5.2 : List Int)])
    obtain ⟨z7, hz7, hm⟩ := bnd_some hm
    obtain ⟨z8, hz8, hm⟩ := bnd_some hm
    obtain ⟨z9, hz9, hm⟩ := bnd_some hm
    obtain ⟨z10, hz10, hm⟩ := bnd_some hm
    obtain ⟨z11, hz11, hm⟩ := bnd_some hm
    obtain ⟨z12, hz12, hm⟩ := bnd_some hm
    obtain ⟨z13, hz13, hm⟩ := bnd_some hm
    refine xs_drop1 (xe_appE (stt_getL (j := 0) rfl) (stt_getL (j := 0) rfl) (xe_var (i := 3) rfl) (xe_call (xa_cons (xe_var (i := 0) rfl) (xa_cons (xe_lst (l := [z8.1, z10.1, (0 : Int), (((1 : Int) * 2 ^ (x1).toNat) - (1 : Int))]) (xa_cons (xe_call (xa_cons (xe_var (i := 0) rfl) (xa_cons (xe_shl (chkP_some hz7) xe_int (xe_var (i := 1) rfl)) xa_nil)) ⟨k0, p0, s5.1, ((1 : Int) * 2 ^ (x1).toNat), z8, rfl, (stt_get ok (i := 0) rfl), hz8, rfl⟩ (cal1 ok (i := 0) rfl)) (xa_cons (xe_call (xa_cons (xe_var (i := 0) rfl) (xa_cons (xe_shl (chkP_some hz9) xe_int (xe_var (i := 1) rfl)) xa_nil)) ⟨k0, p0, z8.2, ((1 : Int) * 2 ^ (x1).toNat), z10, rfl, (stt_get ok (i := 0) rfl), hz10, rfl⟩ (cal1 ok (i := 0) rfl)) (xa_cons xe_int (xa_cons (xe_sub (xe_shl (chkP_some hz11) xe_int (xe_var (i := 1) rfl)) xe_int) xa_nil)))) (by show 4 ≤ sizeLine; decide)) xa_nil)) ⟨k0, p0, z10.2, ([z8.1, z10.1, (0 : Int), (((1 : Int) * 2 ^ (x1).toNat) - (1 : Int))] : List Int), z12, rfl, (stt_get ok (i := 0) rfl), hz12, rfl⟩ (cal1 ok (i := 0) rfl)) (chkP_some hz13) (stt_setL (j := 0))) ?_
    obtain rfl := Option.some.inj hm
    exact fun σ H n => hD.nx _ rfl σ H (n.forget 4)
  · subst es
    obtain ⟨s2, hs2, hm⟩ := bnd_some hm
    cases hs2
    show XS (tRet _) _ _ [some (vr p0), some (va T x1), some (va T x2), some (vr pp2), none] (stt Ω [(k0, lstA T p0 (s15.1 : List Int))] [lstA T pp2 (s15.2 : List Int)])
    refine xs_fzJ (k := 3) (j := 0) rfl rfl ?_
    show XS _ _ _ [some (vr p0), some (va T x1), some (va T x2), some (va T (LF.mk s15.2)), none] (stt Ω [(k0, lstA T p0 (s15.1 : List Int))] [nilA])
    obtain ⟨z16, hz16, hm⟩ := bnd_some hm
    obtain ⟨z19, hz19, hm⟩ := bnd_some hm
    obtain rfl := Option.some.inj hm
    refine xs_ret (show XE _ _ _ (va T (LF.mk z19)) (stt Ω [(k0, lstA T p0 (s15.1 : List Int))] [nilA]) from ?q20) hrt.all
    case q20 =>
      exact (by
        by_cases hc : (!eqD (LF.mk s15.2) (LF.mk ([] : List Int))) = true
        · rw [if_pos hc] at hz19
          obtain ⟨z17, hz17, hz19⟩ := bnd_some hz19
          obtain ⟨z18, hz18, hz19⟩ := bnd_some hz19
          obtain rfl := Option.some.inj hz19
          exact xe_ifT (xt_eq (xt_test (T := T) (xe_neD (chkP_some hz16) (by decide) (xe_var (i := 3) rfl) (xe_lst (T := T) (l := ([] : List Int)) xa_nil (Nat.zero_le _)) isD_va isD_va)) hc) (xe_cat (xe_sliceL (xe_var (i := 3) rfl) xo_none (xo_some (T := T) (xe_neg xe_int)) isL_LF) (xe_lst (l := [(max (1 : Int) z17)]) (xa_cons (xe_max2 xe_int (xe_ix (xe_var (i := 3) rfl) (xe_neg xe_int) isL_LF hz17)) xa_nil) (by show 1 ≤ sizeLine; decide)) isLs_LF isLs_LF (chkP_some hz18))
        · rw [if_neg hc] at hz19
          obtain rfl := Option.some.inj hz19
          exact xe_ifF (xt_eq (xt_test (T := T) (xe_neD (chkP_some hz16) (by decide) (xe_var (i := 3) rfl) (xe_lst (T := T) (l := ([] : List Int)) xa_nil (Nat.zero_le _)) isD_va isD_va)) (nt hc)) (xe_lst (T := T) (l := ([] : List Int)) xa_nil (Nat.zero_le _)))
  · subst es
    cases hm
noncomputable def M__law_worth (x0 : Int) (x1 : List Int) : Option Int :=
  (forM' (ρ := Unit) (fun (a2 : Int) (s1 : Int) => (chkP (CShl s1 x0)).bind fun z3 => (some ((s1 * 2 ^ (x0).toNat) + a2)).bind fun y4 => some (Stp.nx y4)) ((x1).reverse) (0 : Int)).bind fun z5 => (nxt z5).bind fun s6 => some s6
def Pre__law_worth (T : TC) : PreT := fun As Ω R => ∃ (x0 : Int) (x1 : List Int) (r : Int), As = [va T x0, va T (LF.mk x1)] ∧ M__law_worth x0 x1 = some r ∧ R = RV (va T r) (stt Ω [] [])
theorem sc__law_worth : FnScope ["_law_bits", "_law_row_here", "_law_found", "_law_digit"] ["_law_bits", "_law_row_here"] (defScope s__law_worth) := ⟨rfl, rfl, rfl, by decide +kernel, rfl, by decide +kernel, by decide +kernel⟩
theorem ok__law_worth {f : Addr} {fd : FuncData} (F : Fun T.K "_law_worth" "_law_worth" s__law_worth f fd)  : FnOk P w T.K mg base CX0 1 f fd ["_law_bits", "_law_row_here"] (mkSp (Pre__law_worth T)) := by
  refine fn_ok F sc__law_worth (fun As Ω R h => ?_) (fun cdv A outer s H E hr As Ω R F0 h => ?_)
  · obtain ⟨x0, x1, r, rfl, _⟩ := h
    rfl
  obtain ⟨x0, x1, r, rfl, hm, rfl⟩ := h
  refine ⟨_, (pss_cons (ps_set (i := 2) sc__law_worth.nd rfl (.inl rfl) pe_int) (pss_cons (ps_for PassesOwn.never rfl (pi_listK (K := T.K) (pe_revLK (K := T.K) (pv 1) rfl) rfl) (pg_name (i := 3) sc__law_worth.nd rfl (.inl rfl)) (pss_one (ps_set (i := 2) sc__law_worth.nd rfl (.inl rfl) (pe_op op_addQ (pe_op op_shlW (pv 2) (pv 0)) (pv 3))))) (pss_one (ps_ret (pv 2))))), fun D hrt hnx => ?_⟩
  have ok : Okk Ω [] := okk0
  suffices hx : XS _ D F0 [some (va T x0), some (va T (LF.mk x1)), none, none] (stt Ω [] []) by
    rw [show (stt Ω [] []) = Ω from stt_self (by simp)] at hx
    exact hx
  unfold M__law_worth at hm
  refine xs_set (A := va T (0 : Int)) xe_int ?_
  show XS (tSeq _ _) _ _ [some (va T x0), some (va T (LF.mk x1)), some (va T (0 : Int)), none] (stt Ω [] [])
  obtain ⟨z5, hz5, hm⟩ := bnd_some hm
  refine xs_forS (fun (s1 : Int) => [some (va T x0), some (va T (LF.mk x1)), some (va T s1), none]) (fun (s1 : Int) => (stt Ω [] [])) (fun (_ : Unit) _ _ _ => False) hz5 (xi_LF (xe_revL (xe_var (i := 1) rfl) isL_LF)) (fun _ => tgt_name) (fun a2 s1 s' ha hm F1 D1 e1 hD => ?_) (fun s6 es => ?_) (fun r1 es => ?_)
  · show XS (tAsg _ _) _ _ [some (va T x0), some (va T (LF.mk x1)), some (va T s1), some (va T a2)] (stt Ω [] [])
    obtain ⟨z3, hz3, hm⟩ := bnd_some hm
    obtain ⟨y4, hy4, hm⟩ := bnd_some hm
    refine xs_set1 (A := va T y4) (xe_eq (xe_add (xe_shl (chkP_some hz3) (xe_var (i := 2) rfl) (xe_var (i := 0) rfl)) (xe_var (i := 3) rfl)) (Option.some.inj hy4)) ?_
    obtain rfl := Option.some.inj hm
    exact fun σ H n => hD.nx _ rfl σ H (n.forget 3)
  · subst es
    obtain ⟨s2, hs2, hm⟩ := bnd_some hm
    cases hs2
    show XS (tRet _) _ _ [some (va T x0), some (va T (LF.mk x1)), some (va T s6), none] (stt Ω [] [])
    obtain rfl := Option.some.inj hm
    refine xs_ret (xe_var (i := 2) rfl) hrt.all
  · subst es
    cases hm
noncomputable def M__law_digits (x0 : Int) (x1 : Int) : Option (List Int) :=
  (some ([] : List Int)).bind fun y1 => (whileM (ρ := Unit) (fun (s4 : Int × (List Int)) => some (decide ((0 : Int) < s4.1))) (fun (s4 : Int × (List Int)) => (chkP (CShl (1 : Int) x0)).bind fun z5 => (chkP (0 < ((1 : Int) * 2 ^ (x0).toNat))).bind fun z6 => (chkP (s4.2.length < sizeLine)).bind fun z7 => (chkP (0 ≤ x0)).bind fun z8 => (some (s4.1 / 2 ^ (x0).toNat)).bind fun y9 => some (Stp.nx (y9, (s4.2 ++ [(s4.1 % ((1 : Int) * 2 ^ (x0).toNat))])))) ((x1).natAbs + 1) (x1, y1)).bind fun z10 => (nxt z10).bind fun s11 => some s11.2
def Pre__law_digits (T : TC) : PreT := fun As Ω R => ∃ (x0 : Int) (x1 : Int) (r : List Int), As = [va T x0, va T x1] ∧ M__law_digits x0 x1 = some r ∧ R = RV (va T (LF.mk r)) (stt Ω [] [])
theorem sc__law_digits : FnScope ["_law_bits", "_law_n", "_law_found"] ["_law_bits", "_law_n"] (defScope s__law_digits) := ⟨rfl, rfl, rfl, by decide +kernel, rfl, by decide +kernel, by decide +kernel⟩
theorem ok__law_digits {f : Addr} {fd : FuncData} (F : Fun T.K "_law_digits" "_law_digits" s__law_digits f fd) (z_int : mg "int" = none) : FnOk P w T.K mg base CX0 2 f fd ["_law_bits", "_law_n"] (mkSp (Pre__law_digits T)) := by
  refine fn_ok F sc__law_digits (fun As Ω R h => ?_) (fun cdv A outer s H E hr As Ω R F0 h => ?_)
  · obtain ⟨x0, x1, r, rfl, _⟩ := h
    rfl
  obtain ⟨x0, x1, r, rfl, hm, rfl⟩ := h
  refine ⟨_, (pss_cons (ps_set (i := 2) sc__law_digits.nd rfl (.inl rfl) (pe_lst pa_nil)) (pss_cons (ps_while PassesOwn.never (pt_cmpR op_gt (pv 1) pe_int (nomark _)) (pss_cons (ps_expr (pe_bm PySem.F.plainAttrs_list PySem.F.slot_list_append PySem.F.type_list_append mt_append (pv 2) (pa_cons (pe_op op_mod (pe_callTy cr_int (by rfl) z_int (by decide +kernel) (pa_cons (pv 1) pa_nil)) (pe_op op_shlW pe_int (pv 0))) pa_nil))) (pss_one (ps_set (i := 1) sc__law_digits.nd rfl (.inl rfl) (pe_op op_shr (pv 1) (pv 0)))))) (pss_one (ps_ret (pv 2))))), fun D hrt hnx => ?_⟩
  have ok : Okk Ω [] := okk0
  suffices hx : XS _ D F0 [some (va T x0), some (va T x1), none] (stt Ω [] []) by
    rw [show (stt Ω [] []) = Ω from stt_self (by simp)] at hx
    exact hx
  unfold M__law_digits at hm
  obtain ⟨y1, hy1, hm⟩ := bnd_some hm
  obtain rfl := Option.some.inj hy1
  refine xs_setO ((xn_lst (T := T) (l := ([] : List Int)) xa_nil (Nat.zero_le _))) (fun pp2 => ?_)
  show XS (tSeq _ _) _ _ [some (va T x0), some (va T x1), some (vr pp2)] (stt Ω [] [lstA T pp2 (([] : List Int) : List Int)])
  obtain ⟨z10, hz10, hm⟩ := bnd_some hm
  refine xs_whileS (fun (s4 : Int × (List Int)) => [some (va T x0), some (va T s4.1), some (vr pp2)]) (fun (s4 : Int × (List Int)) => (stt Ω [] [lstA T pp2 (s4.2 : List Int)])) (fun (_ : Unit) _ _ _ => False) hz10 (fun s4 v hc => ?_) (fun s4 s' hc0 hm F1 D1 e1 hD => ?_) (fun s11 es => ?_) (fun r1 es => ?_)
  · clear hm
    have hm := hc
    obtain rfl := Option.some.inj hm
    refine (xt_test (T := T) (xe_gt (xe_var (i := 1) rfl) xe_int))
  · clear hc0
    show XS (tSeq _ _) _ _ [some (va T x0), some (va T s4.1), some (vr pp2)] (stt Ω [] [lstA T pp2 (s4.2 : List Int)])
    obtain ⟨z5, hz5, hm⟩ := bnd_some hm
    obtain ⟨z6, hz6, hm⟩ := bnd_some hm
    obtain ⟨z7, hz7, hm⟩ := bnd_some hm
    refine xs_drop (xe_appE (stt_getL (j := 0) rfl) (stt_getL (j := 0) rfl) (xe_var (i := 2) rfl) (xe_mod (chkP_some hz6) (xe_int1 (xe_var (i := 1) rfl)) (xe_shl (chkP_some hz5) xe_int (xe_var (i := 0) rfl))) (chkP_some hz7) (stt_setL (j := 0))) ?_
    show XS (tAsg _ _) _ _ [some (va T x0), some (va T s4.1), some (vr pp2)] (stt Ω [] [lstA T pp2 ((s4.2 ++ [(s4.1 % ((1 : Int) * 2 ^ (x0).toNat))]) : List Int)])
    obtain ⟨z8, hz8, hm⟩ := bnd_some hm
    obtain ⟨y9, hy9, hm⟩ := bnd_some hm
    refine xs_set1 (A := va T y9) (xe_eq (xe_shr (chkP_some hz8) (xe_var (i := 1) rfl) (xe_var (i := 0) rfl)) (Option.some.inj hy9)) ?_
    obtain rfl := Option.some.inj hm
    exact fun σ H n => hD.nx _ rfl σ H n
  · subst es
    obtain ⟨s2, hs2, hm⟩ := bnd_some hm
    cases hs2
    show XS (tRet _) _ _ [some (va T x0), some (va T s11.1), some (vr pp2)] (stt Ω [] [lstA T pp2 (s11.2 : List Int)])
    obtain rfl := Option.some.inj hm
    refine xs_fzJ (k := 2) (j := 0) rfl rfl ?_
    show XS _ _ _ [some (va T x0), some (va T s11.1), some (va T (LF.mk s11.2))] (stt Ω [] [nilA])
    exact xs_ret (xe_var (i := 2) rfl) hrt.all
  · subst es
    cases hm
noncomputable def M__law_is (x0 : Bg) (x1 : Int) (x2 : Int) : Option Bool :=
  (some ((if (decide ((0 : Int) < x2)) = true then (1 : Int) else 0) - (if (decide (x2 < (0 : Int))) = true then (1 : Int) else 0))).bind fun y1 => (M_Big_sign x0).bind fun z2 => (M_Big_digits x0).bind fun z3 => (M_Big_bits x0).bind fun z4 => (M_plain x0).bind fun z5 => (M__law_digits x1 ((x2.natAbs : Nat) : Int)).bind fun z6 => (chkP (Dat.ok (T4.mk z2 (LF.mk z3) z4 z5) ∧ Dat.ok (T4.mk y1 (LF.mk z6) x1 x2))).bind fun z7 => (chkP ((eqD (T4.mk z2 (LF.mk z3) z4 z5) (T4.mk y1 (LF.mk z6) x1 x2)) = true)).bind fun z8 => some true
def Pre__law_is (T : TC) : PreT := fun As Ω R => ∃ (x0 : Bg) (x1 : Int) (x2 : Int) (r : Bool), As = [va T x0, va T x1, va T x2] ∧ M__law_is x0 x1 x2 = some r ∧ R = RV (va T r) (stt Ω [] [])
theorem sc__law_is : FnScope ["_law_held", "_law_bits", "_law_n", "_law_side"] ["_law_held", "_law_bits", "_law_n"] (defScope s__law_is) := ⟨rfl, rfl, rfl, by decide +kernel, rfl, by decide +kernel, by decide +kernel⟩
theorem ok__law_is {f : Addr} {fd : FuncData} (F : Fun T.K "_law_is" "_law_is" s__law_is f fd) (z_int : mg "int" = none) (c_Big_sign : CalM P w T.K mg base 1 (T.C 1) "sign" ["self"] (mkSp (Pre_Big_sign T))) (c_Big_digits : CalM P w T.K mg base 1 (T.C 1) "digits" ["self"] (mkSp (Pre_Big_digits T))) (c_Big_bits : CalM P w T.K mg base 1 (T.C 1) "bits" ["self"] (mkSp (Pre_Big_bits T))) (c_plain : Cal P w T.K mg base 2 "plain" ["x"] (mkSp (Pre_plain T))) (z_abs : mg "abs" = none) (c__law_digits : Cal P w T.K mg base 2 "_law_digits" ["_law_bits", "_law_n"] (mkSp (Pre__law_digits T))) : FnOk P w T.K mg base CX0 3 f fd ["_law_held", "_law_bits", "_law_n"] (mkSp (Pre__law_is T)) := by
  refine fn_ok F sc__law_is (fun As Ω R h => ?_) (fun cdv A outer s H E hr As Ω R F0 h => ?_)
  · obtain ⟨x0, x1, x2, r, rfl, _⟩ := h
    rfl
  obtain ⟨x0, x1, x2, r, rfl, hm, rfl⟩ := h
  refine ⟨_, (pss_cons (ps_set (i := 3) sc__law_is.nd rfl (.inl rfl) (pe_op op_sub (pe_callTy cr_int (by rfl) z_int (by decide +kernel) (pa_cons (pe_cmpR op_gt (pv 2) pe_int (nomark _)) pa_nil)) (pe_callTy cr_int (by rfl) z_int (by decide +kernel) (pa_cons (pe_cmpR op_lt (pv 2) pe_int (nomark _)) pa_nil)))) (pss_one (ps_ret (pe_cmpR (op_eqXK (K := T.K) (by exact hr.units) rfl) (pe_tup (pa_cons (pe_calM0 (pv 0) c_Big_sign (hr.mono (by decide))) (pa_cons (pe_calM0 (pv 0) c_Big_digits (hr.mono (by decide))) (pa_cons (pe_calM0 (pv 0) c_Big_bits (hr.mono (by decide))) (pa_cons (pe_cal c_plain (hr.mono (by decide)) (by rfl) (pa_cons (pv 0) pa_nil)) pa_nil))))) (pe_tup (pa_cons (pv 3) (pa_cons (pe_cal c__law_digits (hr.mono (by decide)) (by rfl) (pa_cons (pv 1) (pa_cons (pe_callB cr_abs (by rfl) z_abs (by decide +kernel) (pa_cons (pv 2) pa_nil)) pa_nil))) (pa_cons (pv 1) (pa_cons (pv 2) pa_nil))))) (nomark _))))), fun D hrt hnx => ?_⟩
  have ok : Okk Ω [] := okk0
  suffices hx : XS _ D F0 [some (va T x0), some (va T x1), some (va T x2), none] (stt Ω [] []) by
    rw [show (stt Ω [] []) = Ω from stt_self (by simp)] at hx
    exact hx
  unfold M__law_is at hm
  obtain ⟨y1, hy1, hm⟩ := bnd_some hm
  refine xs_set (A := va T y1) (xe_eq (xe_sub (xe_intb (xe_gt (xe_var (i := 2) rfl) xe_int)) (xe_intb (xe_lt (xe_var (i := 2) rfl) xe_int))) (Option.some.inj hy1)) ?_
  show XS (tRet _) _ _ [some (va T x0), some (va T x1), some (va T x2), some (va T y1)] (stt Ω [] [])
  obtain ⟨z2, hz2, hm⟩ := bnd_some hm
  obtain ⟨z3, hz3, hm⟩ := bnd_some hm
  obtain ⟨z4, hz4, hm⟩ := bnd_some hm
  obtain ⟨z5, hz5, hm⟩ := bnd_some hm
  obtain ⟨z6, hz6, hm⟩ := bnd_some hm
  obtain ⟨z7, hz7, hm⟩ := bnd_some hm
  obtain ⟨z8, hz8, hm⟩ := bnd_some hm
  obtain rfl := Option.some.inj hm
  refine xs_ret (xe_eq (xe_eqD (chkP_some hz7) (by decide) (xe_tup4 (xa_cons (xe_mcallB (xe_var (i := 0) rfl) xa_nil ⟨x0, z2, rfl, hz2, rfl⟩ cal0) (xa_cons (xe_mcallB (xe_var (i := 0) rfl) xa_nil ⟨x0, z3, rfl, hz3, rfl⟩ cal0) (xa_cons (xe_mcallB (xe_var (i := 0) rfl) xa_nil ⟨x0, z4, rfl, hz4, rfl⟩ cal0) (xa_cons (xe_call (xa_cons (xe_var (i := 0) rfl) xa_nil) ⟨x0, z5, rfl, hz5, rfl⟩ cal0) xa_nil))))) (xe_tup4 (xa_cons (xe_var (i := 3) rfl) (xa_cons (xe_call (xa_cons (xe_var (i := 1) rfl) (xa_cons (xe_abs (xe_var (i := 2) rfl)) xa_nil)) ⟨x1, ((x2.natAbs : Nat) : Int), z6, rfl, hz6, rfl⟩ cal0) (xa_cons (xe_var (i := 1) rfl) (xa_cons (xe_var (i := 2) rfl) xa_nil))))) isD_va isD_va) (chkP_some hz8)) hrt.all
noncomputable def M__law_counted (x0 : MS) : Option ((DF × (LF (T3 Str Int Int))) × MS) :=
  (chkP (x0.tally.length ≤ sizeLine)).bind fun z1 => (lcM (fun (a3 : (Str × Int)) (s2 : Unit) => if (!decide (a3.2 = (0 : Int))) = true then some (some a3, ()) else some (none, ())) x0.tally ()).bind fun z4 => (chkP ((z4.1.map (·.1)).Nodup)).bind fun z6 => (some ((DF.mk z4.1), (LF.mk x0.wk))).bind fun y7 => some (y7, x0.reset)
def Pre__law_counted (T : TC) : PreT := fun As Ω R => ∃ (k0 : Nat) (p0 : Addr) (x0 : MS) (r : (DF × (LF (T3 Str Int Int))) × MS), As = [vr p0] ∧ Ω[k0]? = some (machA T p0 x0) ∧ M__law_counted x0 = some r ∧ R = RV (va T r.1) (stt Ω [(k0, machA T p0 r.2)] [])
theorem sc__law_counted : FnScope ["_law_engine", "_law_found", "_law_row_here"] ["_law_engine"] (defScope s__law_counted) := ⟨rfl, rfl, rfl, by decide +kernel, rfl, by decide +kernel, by decide +kernel⟩
theorem ok__law_counted {f : Addr} {fd : FuncData} (F : Fun T.K "_law_counted" "_law_counted" s__law_counted f fd) (mc : MCls T.K (T.C 0)) (c_Mach_tally : CalM P w T.K mg base 1 (T.C 0) "tally" ["self"] (mkSp (Pre_Mach_tally T))) (z_dict : mg "dict" = none) (c_Mach_walk : CalM P w T.K mg base 1 (T.C 0) "walk" ["self"] (mkSp (Pre_Mach_walk T))) (c_Mach_reset : CalM P w T.K mg base 1 (T.C 0) "reset" ["self"] (mkSp (Pre_Mach_reset T))) : FnOk P w T.K mg base CX0 2 f fd ["_law_engine"] (mkSp (Pre__law_counted T)) := by
  refine fn_ok F sc__law_counted (fun As Ω R h => ?_) (fun cdv A outer s H E hr As Ω R F0 h => ?_)
  · obtain ⟨k0, p0, x0, r, rfl, _⟩ := h
    rfl
  obtain ⟨k0, p0, x0, r, rfl, hk0, hm, rfl⟩ := h
  refine ⟨_, (pss_cons (ps_set (i := 1) sc__law_counted.nd rfl (.inl rfl) (pe_tup (pa_cons (pe_fz (pe_callTy (cr_dictPK (K := T.K) rfl rfl) (by rfl) z_dict (by decide +kernel) (pa_cons (pe_lc (own := [("_law_row_here", 2)]) rfl sc__law_counted.nd (pi_listK (K := T.K) (pe_calM0 (pv 0) c_Mach_tally (hr.mono (by decide))) rfl) (blkOk_by (N := ["_law_engine", "_law_found", "_law_row_here"]) (sc := defScope s__law_counted) (by decide +kernel)) (fun _ _ _ _ _ => (pg_name (i := 2) sc__law_counted.nd rfl (.inl rfl))) (fun _ _ _ _ _ => (pts_one (pt_cmpR (op_neXK (K := T.K) (by exact hr.units) rfl) (pe_ix (ix_seqK (K := T.K) rfl) (pv 2) pe_int (by intro _ _; rfl)) pe_int (nomark _)))) (fun _ _ _ _ _ => (pv 2))) pa_nil))) (pa_cons (pe_calM0 (pv 0) c_Mach_walk (hr.mono (by decide))) pa_nil)))) (pss_cons (ps_expr (pe_calM0 (pv 0) c_Mach_reset (hr.mono (by decide)))) (pss_one (ps_ret (pv 1))))), fun D hrt hnx => ?_⟩
  have ok := okk1 hk0
  suffices hx : XS _ D F0 [some (vr p0), none, none] (stt Ω [(k0, machA T p0 x0)] []) by
    rw [show (stt Ω [(k0, machA T p0 x0)] []) = Ω from stt_self (by simp [hk0])] at hx
    exact hx
  unfold M__law_counted at hm
  obtain ⟨z1, hz1, hm⟩ := bnd_some hm
  obtain ⟨z4, hz4, hm⟩ := bnd_some hm
  obtain ⟨z6, hz6, hm⟩ := bnd_some hm
  obtain ⟨y7, hy7, hm⟩ := bnd_some hm
  refine xs_set (A := va T y7) (xe_eq (xe_tup2 (xa_cons (xe_dictP (xe_fz (xn_lcS (T := T) (fun (s2 : Unit) => [(k0, machA T p0 x0)]) (fun (s2 : Unit) => []) hz4 (xi_LF (xe_mcall (xe_var (i := 0) rfl) (stt_get ok (i := 0) rfl) xa_nil ⟨k0, p0, x0, rfl, (stt_get ok (i := 0) rfl), rfl⟩ rfl)) (fun _ => tgt_name) (by simp) (chkP_some hz1) ?q5)) isL_LF (chkP_some hz6)) (xa_cons (xe_mcall (xe_var (i := 0) rfl) (stt_get ok (i := 0) rfl) xa_nil ⟨k0, p0, x0, rfl, (stt_get ok (i := 0) rfl), rfl⟩ rfl) xa_nil))) (Option.some.inj hy7)) ?_
  case q5 =>
    exact (fun a3 s2 o s2 ha hm X => by
      by_cases hc : (!decide (a3.2 = (0 : Int))) = true
      · rw [if_pos hc] at hm
        obtain ⟨rfl, rfl⟩ := Prod.mk.inj (Option.some.inj hm)
        refine ⟨(fun e => nomatch e), fun y e => ?_⟩
        obtain rfl := Option.some.inj e
        refine ⟨xt_eq (xt_test (T := T) (xe_neI (xe_snd (xe_var (i := 2) rfl)) xe_int)) hc, (xe_var (i := 2) rfl)⟩
      · rw [if_neg hc] at hm
        obtain ⟨rfl, rfl⟩ := Prod.mk.inj (Option.some.inj hm)
        exact ⟨fun _ => xt_eq (xt_test (T := T) (xe_neI (xe_snd (xe_var (i := 2) rfl)) xe_int)) (nt hc), fun y e => nomatch e⟩)
  show XS (tSeq _ _) _ _ [some (vr p0), some (va T y7), none] (stt Ω [(k0, machA T p0 x0)] [])
  refine xs_drop (xe_mcall (xe_var (i := 0) rfl) (stt_get ok (i := 0) rfl) xa_nil ⟨k0, p0, x0, rfl, (stt_get ok (i := 0) rfl), rfl⟩ (cal1 ok (i := 0) rfl)) ?_
  show XS (tRet _) _ _ [some (vr p0), some (va T y7), none] (stt Ω [(k0, machA T p0 x0.reset)] [])
  obtain rfl := Option.some.inj hm
  refine xs_ret (xe_var (i := 1) rfl) hrt.all
noncomputable def M__law_group (x0 : Int) (x1 : Int) : Option (Int × Int) :=
  (whileM (ρ := Unit) (fun (s1 : Int × Int) => (chkP (IntMulOk s1.2 x1)).bind fun z2 => (chkP (CShl (1 : Int) x0)).bind fun z3 => some (decide ((s1.2 * x1) ≤ ((1 : Int) * 2 ^ (x0).toNat)))) (fun (s1 : Int × Int) => (chkP (IntMulOk s1.2 x1)).bind fun z4 => (some (s1.1 + (1 : Int))).bind fun y5 => (some (s1.2 * x1)).bind fun y6 => some (Stp.nx (y5, y6))) (32) ((1 : Int), x1)).bind fun z7 => (nxt z7).bind fun s8 => some (s8.1, s8.2)
def Pre__law_group (T : TC) : PreT := fun As Ω R => ∃ (x0 : Int) (x1 : Int) (r : (Int × Int)), As = [va T x0, va T x1] ∧ M__law_group x0 x1 = some r ∧ R = RV (va T r) (stt Ω [] [])
theorem sc__law_group : FnScope ["_law_bits", "_law_radix", "_law_size", "_law_worth_here"] ["_law_bits", "_law_radix"] (defScope s__law_group) := ⟨rfl, rfl, rfl, by decide +kernel, rfl, by decide +kernel, by decide +kernel⟩
theorem ok__law_group {f : Addr} {fd : FuncData} (F : Fun T.K "_law_group" "_law_group" s__law_group f fd)  : FnOk P w T.K mg base CX0 1 f fd ["_law_bits", "_law_radix"] (mkSp (Pre__law_group T)) := by
  refine fn_ok F sc__law_group (fun As Ω R h => ?_) (fun cdv A outer s H E hr As Ω R F0 h => ?_)
  · obtain ⟨x0, x1, r, rfl, _⟩ := h
    rfl
  obtain ⟨x0, x1, r, rfl, hm, rfl⟩ := h
  refine ⟨_, (pss_cons (ps_par (i := 2) (j := 3) rfl sc__law_group.nd rfl rfl (by decide) rfl rfl (pa_cons pe_int (pa_cons (pv 1) pa_nil)) (by rfl)) (pss_cons (ps_while PassesOwn.never (pt_cmpR op_le (pe_op op_mulQ (pv 3) (pv 1)) (pe_op op_shlW pe_int (pv 0)) (nomark _)) (pss_one (ps_par (i := 2) (j := 3) rfl sc__law_group.nd rfl rfl (by decide) rfl rfl (pa_cons (pe_op op_addQ (pv 2) pe_int) (pa_cons (pe_op op_mulQ (pv 3) (pv 1)) pa_nil)) (by rfl)))) (pss_one (ps_ret (pe_tup (pa_cons (pv 2) (pa_cons (pv 3) pa_nil))))))), fun D hrt hnx => ?_⟩
  have ok : Okk Ω [] := okk0
  suffices hx : XS _ D F0 [some (va T x0), some (va T x1), none, none] (stt Ω [] []) by
    rw [show (stt Ω [] []) = Ω from stt_self (by simp)] at hx
    exact hx
  unfold M__law_group at hm
  refine xs_par2 (A := va T (1 : Int)) (B := va T x1) (xa_cons xe_int (xa_cons (xe_var (i := 1) rfl) xa_nil)) ?_
  show XS (tSeq _ _) _ _ [some (va T x0), some (va T x1), some (va T (1 : Int)), some (va T x1)] (stt Ω [] [])
  obtain ⟨z7, hz7, hm⟩ := bnd_some hm
  refine xs_whileS (fun (s1 : Int × Int) => [some (va T x0), some (va T x1), some (va T s1.1), some (va T s1.2)]) (fun (s1 : Int × Int) => (stt Ω [] [])) (fun (_ : Unit) _ _ _ => False) hz7 (fun s1 v hc => ?_) (fun s1 s' hc0 hm F1 D1 e1 hD => ?_) (fun s8 es => ?_) (fun r1 es => ?_)
  · clear hm
    have hm := hc
    obtain ⟨z2, hz2, hm⟩ := bnd_some hm
    obtain ⟨z3, hz3, hm⟩ := bnd_some hm
    obtain rfl := Option.some.inj hm
    refine (xt_test (T := T) (xe_le (xe_mul (chkP_some hz2) (xe_var (i := 3) rfl) (xe_var (i := 1) rfl)) (xe_shl (chkP_some hz3) xe_int (xe_var (i := 0) rfl))))
  · clear hc0
    show XS _ _ _ [some (va T x0), some (va T x1), some (va T s1.1), some (va T s1.2)] (stt Ω [] [])
    obtain ⟨z4, hz4, hm⟩ := bnd_some hm
    obtain ⟨y5, hy5, hm⟩ := bnd_some hm
    obtain ⟨y6, hy6, hm⟩ := bnd_some hm
    refine xs_par21 (A := va T y5) (B := va T y6) (xa_cons (xe_eq (xe_add (xe_var (i := 2) rfl) xe_int) (Option.some.inj hy5)) (xa_cons (xe_eq (xe_mul (chkP_some hz4) (xe_var (i := 3) rfl) (xe_var (i := 1) rfl)) (Option.some.inj hy6)) xa_nil)) ?_
    obtain rfl := Option.some.inj hm
    exact fun σ H n => hD.nx _ rfl σ H n
  · subst es
    obtain ⟨s2, hs2, hm⟩ := bnd_some hm
    cases hs2
    show XS (tRet _) _ _ [some (va T x0), some (va T x1), some (va T s8.1), some (va T s8.2)] (stt Ω [] [])
    obtain rfl := Option.some.inj hm
    refine xs_ret (xe_tup2 (xa_cons (xe_var (i := 2) rfl) (xa_cons (xe_var (i := 3) rfl) xa_nil))) hrt.all
  · subst es
    cases hm
noncomputable def M__law_steps_in (x0 : Int) (x1 : Int) (x2 : List Int) : Option (Int × Int) :=
  (M__law_group x0 x1).bind fun z1 => (some ((0 : Int), (0 : Int))).bind fun y2 => (chkP (CRg (x2.length : Int) z1.1)).bind fun z3 => (forM' (ρ := Unit) (fun (a5 : Int) (s4 : Int × Int) => (chkP (CDivW ((((Builtin.Int.intBits s4.2 : Nat) : Int) + x0) - (1 : Int)) x0)).bind fun z6 => (some (s4.1 + (((((Builtin.Int.intBits s4.2 : Nat) : Int) + x0) - (1 : Int)) / x0))).bind fun y7 => (forM' (ρ := Unit) (fun (a9 : Int) (s8 : Int) => (chkP (IntMulOk s8 x1)).bind fun z10 => (some ((s8 * x1) + a9)).bind fun y11 => some (Stp.nx y11)) (cut x2 (some a5) (some (a5 + z1.1))) s4.2).bind fun z12 => (nxt z12).bind fun s13 => some (Stp.nx (y7, s13))) (rngS z1.1 (((x2.length : Int) + z1.1 - 1) / z1.1).toNat) (y2.1, y2.2)).bind fun z14 => (nxt z14).bind fun s15 => some (s15.1, s15.2)
def Pre__law_steps_in (T : TC) : PreT := fun As Ω R => ∃ (x0 : Int) (x1 : Int) (x2 : List Int) (r : (Int × Int)), As = [va T x0, va T x1, va T (LF.mk x2)] ∧ M__law_steps_in x0 x1 x2 = some r ∧ R = RV (va T r) (stt Ω [] [])
theorem sc__law_steps_in : FnScope ["_law_bits", "_law_radix", "_law_digits_so", "_law_size", "_law_worth_here", "_law_found", "_law_whole", "_law_start", "_law_value"] ["_law_bits", "_law_radix", "_law_digits_so"] (defScope s__law_steps_in) := ⟨rfl, rfl, rfl, by decide +kernel, rfl, by decide +kernel, by decide +kernel⟩
theorem ok__law_steps_in {f : Addr} {fd : FuncData} (F : Fun T.K "_law_steps_in" "_law_steps_in" s__law_steps_in f fd) (c__law_group : Cal P w T.K mg base 1 "_law_group" ["_law_bits", "_law_radix"] (mkSp (Pre__law_group T))) (z_len : mg "len" = none) (z_range : mg "range" = none) : FnOk P w T.K mg base CX0 2 f fd ["_law_bits", "_law_radix", "_law_digits_so"] (mkSp (Pre__law_steps_in T)) := by
  refine fn_ok F sc__law_steps_in (fun As Ω R h => ?_) (fun cdv A outer s H E hr As Ω R F0 h => ?_)
  · obtain ⟨x0, x1, x2, r, rfl, _⟩ := h
    rfl
  obtain ⟨x0, x1, x2, r, rfl, hm, rfl⟩ := h
  refine ⟨_, (pss_cons (ps_asg (pe_cal c__law_group (hr.mono (by decide)) (by rfl) (pa_cons (pv 0) (pa_cons (pv 1) pa_nil))) (pg_tupK (K := T.K) (n := 2) rfl rfl (pgs_cons (pg_name (i := 3) sc__law_steps_in.nd rfl (.inl rfl)) (pgs_cons (pg_name (i := 4) sc__law_steps_in.nd rfl (.inl rfl)) pgs_nil)))) (pss_cons (ps_asg (pe_tup (pa_cons pe_int (pa_cons pe_int pa_nil))) (pg_tupK (K := T.K) (n := 2) rfl rfl (pgs_cons (pg_name (i := 5) sc__law_steps_in.nd rfl (.inl rfl)) (pgs_cons (pg_name (i := 6) sc__law_steps_in.nd rfl (.inl rfl)) pgs_nil)))) (pss_cons (ps_for PassesOwn.never rfl (pi_range3 rfl z_range (pa_cons pe_int (pa_cons (pe_callB (cr_lenK (K := T.K) rfl) (by rfl) z_len PySem.boot_len (pa_cons (pv 2) pa_nil)) (pa_cons (pv 3) pa_nil)))) (pg_name (i := 7) sc__law_steps_in.nd rfl (.inl rfl)) (pss_cons (ps_set (i := 5) sc__law_steps_in.nd rfl (.inl rfl) (pe_op op_addQ (pv 5) (pe_op op_fdivW (pe_op op_sub (pe_op op_addQ (pe_bits (pv 6)) (pv 0)) pe_int) (pv 0)))) (pss_one (ps_for PassesOwn.never rfl (pi_listK (K := T.K) (pe_slice (sl_listK (K := T.K) rfl) (pv 2) (po_some (pv 7)) (po_some (pe_op op_addQ (pv 7) (pv 3)))) rfl) (pg_name (i := 8) sc__law_steps_in.nd rfl (.inl rfl)) (pss_one (ps_set (i := 6) sc__law_steps_in.nd rfl (.inl rfl) (pe_op op_addQ (pe_op op_mulQ (pv 6) (pv 1)) (pv 8)))))))) (pss_one (ps_ret (pe_tup (pa_cons (pv 5) (pa_cons (pv 6) pa_nil)))))))), fun D hrt hnx => ?_⟩
  have ok : Okk Ω [] := okk0
  suffices hx : XS _ D F0 [some (va T x0), some (va T x1), some (va T (LF.mk x2)), none, none, none, none, none, none] (stt Ω [] []) by
    rw [show (stt Ω [] []) = Ω from stt_self (by simp)] at hx
    exact hx
  unfold M__law_steps_in at hm
  obtain ⟨z1, hz1, hm⟩ := bnd_some hm
  refine xs_asgG (xe_call (xa_cons (xe_var (i := 0) rfl) (xa_cons (xe_var (i := 1) rfl) xa_nil)) ⟨x0, x1, z1, rfl, hz1, rfl⟩ cal0) tgt_pair ?_
  show XS (tSeq _ _) _ _ [some (va T x0), some (va T x1), some (va T (LF.mk x2)), some (va T z1.1), some (va T z1.2), none, none, none, none] (stt Ω [] [])
  obtain ⟨y2, hy2, hm⟩ := bnd_some hm
  refine xs_asgG (xe_eq (xe_tup2 (xa_cons xe_int (xa_cons xe_int xa_nil))) (Option.some.inj hy2)) tgt_pair ?_
  show XS (tSeq _ _) _ _ [some (va T x0), some (va T x1), some (va T (LF.mk x2)), some (va T z1.1), some (va T z1.2), some (va T y2.1), some (va T y2.2), none, none] (stt Ω [] [])
  obtain ⟨z3, hz3, hm⟩ := bnd_some hm
  obtain ⟨z14, hz14, hm⟩ := bnd_some hm
  refine xs_forS (fun (s4 : Int × Int) => [some (va T x0), some (va T x1), some (va T (LF.mk x2)), some (va T z1.1), some (va T z1.2), some (va T s4.1), some (va T s4.2), none, none]) (fun (s4 : Int × Int) => (stt Ω [] [])) (fun (_ : Unit) _ _ _ => False) hz14 (xi_rangeS (T := T) (xa_cons xe_int (xa_cons (xe_lenL (xe_var (i := 2) rfl) isL_LF) (xa_cons (xe_var (i := 3) rfl) xa_nil))) (chkP_some hz3)) (fun _ => tgt_name) (fun a5 s4 s' ha hm F1 D1 e1 hD => ?_) (fun s15 es => ?_) (fun r1 es => ?_)
  · show XS (tSeq _ _) _ _ [some (va T x0), some (va T x1), some (va T (LF.mk x2)), some (va T z1.1), some (va T z1.2), some (va T s4.1), some (va T s4.2), some (va T a5), none] (stt Ω [] [])
    obtain ⟨z6, hz6, hm⟩ := bnd_some hm
    obtain ⟨y7, hy7, hm⟩ := bnd_some hm
    refine xs_set (A := va T y7) (xe_eq (xe_add (xe_var (i := 5) rfl) (xe_fdiv (chkP_some hz6) (xe_sub (xe_add (xe_bits (xe_var (i := 6) rfl)) (xe_var (i := 0) rfl)) xe_int) (xe_var (i := 0) rfl))) (Option.some.inj hy7)) ?_
    show XS (tFor _ _ _) _ _ [some (va T x0), some (va T x1), some (va T (LF.mk x2)), some (va T z1.1), some (va T z1.2), some (va T y7), some (va T s4.2), some (va T a5), none] (stt Ω [] [])
    obtain ⟨z12, hz12, hm⟩ := bnd_some hm
    refine xs_for (fun (s8 : Int) => [some (va T x0), some (va T x1), some (va T (LF.mk x2)), some (va T z1.1), some (va T z1.2), some (va T y7), some (va T s8), some (va T a5), none]) (fun (s8 : Int) => (stt Ω [] [])) (fun (_ : Unit) _ _ _ => False) hz12 (xi_LF (xe_sliceL (xe_var (i := 2) rfl) (xo_some (T := T) (xe_var (i := 7) rfl)) (xo_some (T := T) (xe_add (xe_var (i := 7) rfl) (xe_var (i := 3) rfl))) isL_LF)) (fun _ => tgt_name) (fun a9 s8 s' ha hm F1 D1 e1 hD => ?_) (fun s13 es => ?_) (fun r1 es => ?_)
    · show XS (tAsg _ _) _ _ [some (va T x0), some (va T x1), some (va T (LF.mk x2)), some (va T z1.1), some (va T z1.2), some (va T y7), some (va T s8), some (va T a5), some (va T a9)] (stt Ω [] [])
      obtain ⟨z10, hz10, hm⟩ := bnd_some hm
      obtain ⟨y11, hy11, hm⟩ := bnd_some hm
      refine xs_set1 (A := va T y11) (xe_eq (xe_add (xe_mul (chkP_some hz10) (xe_var (i := 6) rfl) (xe_var (i := 1) rfl)) (xe_var (i := 8) rfl)) (Option.some.inj hy11)) ?_
      obtain rfl := Option.some.inj hm
      exact fun σ H n => hD.nx _ rfl σ H (n.forget 8)
    · subst es
      obtain ⟨s2, hs2, hm⟩ := bnd_some hm
      cases hs2
      obtain rfl := Option.some.inj hm
      exact fun σ H n => hD.nx _ rfl σ H (n.forget 7)
    · subst es
      cases hm
  · subst es
    obtain ⟨s2, hs2, hm⟩ := bnd_some hm
    cases hs2
    show XS (tRet _) _ _ [some (va T x0), some (va T x1), some (va T (LF.mk x2)), some (va T z1.1), some (va T z1.2), some (va T s15.1), some (va T s15.2), none, none] (stt Ω [] [])
    obtain rfl := Option.some.inj hm
    refine xs_ret (xe_tup2 (xa_cons (xe_var (i := 5) rfl) (xa_cons (xe_var (i := 6) rfl) xa_nil))) hrt.all
  · subst es
    cases hm
noncomputable def M__law_figures (x0 : List Int) (x1 : Int) (x2 : Int) : Option (List Int × List Int) :=
  (some ([] : List Int)).bind fun y1 => (whileM (ρ := Unit) (fun (s4 : Int × (List Int)) => some (decide ((0 : Int) < s4.1))) (fun (s4 : Int × (List Int)) => (chkP (0 < x2)).bind fun z5 => (chkP (s4.2.length < sizeLine)).bind fun z6 => (chkP (CDivW s4.1 x2)).bind fun z7 => (some (s4.1 / x2)).bind fun y8 => some (Stp.nx (y8, (s4.2 ++ [(s4.1 % x2)])))) ((x1).natAbs + 1) (x1, y1)).bind fun z9 => (nxt z9).bind fun s10 => (chkP (Dat.ok (LF.mk s10.2) ∧ Dat.ok (LF.mk ([] : List Int)))).bind fun z11 => (M__law_pick x0 ([(0 : Int), (0 : Int), (if (eqD (LF.mk s10.2) (LF.mk ([] : List Int))) = true then (1 : Int) else 0), (1 : Int), (5 : Int), (40 : Int)] : List Int)).bind fun z12 => (chkP ((-(2 ^ 63) ≤ z12.1 ∧ z12.1 < 2 ^ 63) ∧ ([(0 : Int)] : List Int).length * (z12.1).toNat ≤ sizeLine)).bind fun z13 => (chkP (((List.replicate (z12.1).toNat ([(0 : Int)] : List Int)).flatten).length + ((s10.2).reverse).length ≤ sizeLine)).bind fun z14 => some (((List.replicate (z12.1).toNat ([(0 : Int)] : List Int)).flatten ++ (s10.2).reverse), z12.2)
def Pre__law_figures (T : TC) : PreT := fun As Ω R => ∃ (k0 : Nat) (p0 : Addr) (x0 : List Int) (x1 : Int) (x2 : Int) (r : List Int × List Int), As = [vr p0, va T x1, va T x2] ∧ Ω[k0]? = some (lstA T p0 x0) ∧ M__law_figures x0 x1 x2 = some r ∧ R = RV (va T (LF.mk r.1)) (stt Ω [(k0, lstA T p0 r.2)] [])
theorem sc__law_figures : FnScope ["_law_purse_here", "_law_n", "_law_radix", "_law_found"] ["_law_purse_here", "_law_n", "_law_radix"] (defScope s__law_figures) := ⟨rfl, rfl, rfl, by decide +kernel, rfl, by decide +kernel, by decide +kernel⟩
theorem ok__law_figures {f : Addr} {fd : FuncData} (F : Fun T.K "_law_figures" "_law_figures" s__law_figures f fd) (z_int : mg "int" = none) (c__law_pick : Cal P w T.K mg base 2 "_law_pick" ["_law_purse_here", "_law_some"] (mkSp (Pre__law_pick T))) : FnOk P w T.K mg base CX0 3 f fd ["_law_purse_here", "_law_n", "_law_radix"] (mkSp (Pre__law_figures T)) := by
  refine fn_ok F sc__law_figures (fun As Ω R h => ?_) (fun cdv A outer s H E hr As Ω R F0 h => ?_)
  · obtain ⟨k0, p0, x0, x1, x2, r, rfl, _⟩ := h
    rfl
  obtain ⟨k0, p0, x0, x1, x2, r, rfl, hk0, hm, rfl⟩ := h
  refine ⟨_, (pss_cons (ps_set (i := 3) sc__law_figures.nd rfl (.inl rfl) (pe_lst pa_nil)) (pss_cons (ps_while PassesOwn.never (pt_cmpR op_gt (pv 1) pe_int (nomark _)) (pss_cons (ps_expr (pe_bm PySem.F.plainAttrs_list PySem.F.slot_list_append PySem.F.type_list_append mt_append (pv 3) (pa_cons (pe_op op_mod (pe_callTy cr_int (by rfl) z_int (by decide +kernel) (pa_cons (pv 1) pa_nil)) (pv 2)) pa_nil))) (pss_one (ps_set (i := 1) sc__law_figures.nd rfl (.inl rfl) (pe_op op_fdivW (pv 1) (pv 2)))))) (pss_one (ps_ret (pe_op op_addQ (pe_op op_mulQ (pe_lst (pa_cons pe_int pa_nil)) (pe_cal c__law_pick (hr.mono (by decide)) (by rfl) (pa_cons (pv 0) (pa_cons (pe_lst (pa_cons pe_int (pa_cons pe_int (pa_cons (pe_callTy cr_int (by rfl) z_int (by decide +kernel) (pa_cons (pe_cmpR (op_eqXK (K := T.K) (by exact hr.units) rfl) (pv 3) (pe_lst pa_nil) (nomark _)) pa_nil)) (pa_cons pe_int (pa_cons pe_int (pa_cons pe_int pa_nil))))))) pa_nil)))) (pe_revLK (K := T.K) (pv 3) rfl)))))), fun D hrt hnx => ?_⟩
  have ok := okk1 hk0
  suffices hx : XS _ D F0 [some (vr p0), some (va T x1), some (va T x2), none] (stt Ω [(k0, lstA T p0 (x0 : List Int))] []) by
    rw [show (stt Ω [(k0, lstA T p0 (x0 : List Int))] []) = Ω from stt_self (by simp [hk0])] at hx
    exact hx
  unfold M__law_figures at hm
  obtain ⟨y1, hy1, hm⟩ := bnd_some hm
  obtain rfl := Option.some.inj hy1
  refine xs_setO ((xn_lst (T := T) (l := ([] : List Int)) xa_nil (Nat.zero_le _))) (fun pp2 => ?_)
  show XS (tSeq _ _) _ _ [some (vr p0), some (va T x1), some (va T x2), some (vr pp2)] (stt Ω [(k0, lstA T p0 (x0 : List Int))] [lstA T pp2 (([] : List Int) : List Int)])
  obtain ⟨z9, hz9, hm⟩ := bnd_some hm
  refine xs_whileS (fun (s4 : Int × (List Int)) => [some (vr p0), some (va T s4.1), some (va T x2), some (vr pp2)]) (fun (s4 : Int × (List Int)) => (stt Ω [(k0, lstA T p0 (x0 : List Int))] [lstA T pp2 (s4.2 : List Int)])) (fun (_ : Unit) _ _ _ => False) hz9 (fun s4 v hc => ?_) (fun s4 s' hc0 hm F1 D1 e1 hD => ?_) (fun s10 es => ?_) (fun r1 es => ?_)
  · clear hm
    have hm := hc
    obtain rfl := Option.some.inj hm
    refine (xt_test (T := T) (xe_gt (xe_var (i := 1) rfl) xe_int))
  · clear hc0
    show XS (tSeq _ _) _ _ [some (vr p0), some (va T s4.1), some (va T x2), some (vr pp2)] (stt Ω [(k0, lstA T p0 (x0 : List Int))] [lstA T pp2 (s4.2 : List Int)])
    obtain ⟨z5, hz5, hm⟩ := bnd_some hm
    obtain ⟨z6, hz6, hm⟩ := bnd_some hm
    refine xs_drop (xe_appE (stt_getL (j := 0) rfl) (stt_getL (j := 0) rfl) (xe_var (i := 3) rfl) (xe_mod (chkP_some hz5) (xe_int1 (xe_var (i := 1) rfl)) (xe_var (i := 2) rfl)) (chkP_some hz6) (stt_setL (j := 0))) ?_
    show XS (tAsg _ _) _ _ [some (vr p0), some (va T s4.1), some (va T x2), some (vr pp2)] (stt Ω [(k0, lstA T p0 (x0 : List Int))] [lstA T pp2 ((s4.2 ++ [(s4.1 % x2)]) : List Int)])
    obtain ⟨z7, hz7, hm⟩ := bnd_some hm
    obtain ⟨y8, hy8, hm⟩ := bnd_some hm
    refine xs_set1 (A := va T y8) (xe_eq (xe_fdiv (chkP_some hz7) (xe_var (i := 1) rfl) (xe_var (i := 2) rfl)) (Option.some.inj hy8)) ?_
    obtain rfl := Option.some.inj hm
    exact fun σ H n => hD.nx _ rfl σ H n
  · subst es
    obtain ⟨s2, hs2, hm⟩ := bnd_some hm
    cases hs2
    show XS (tRet _) _ _ [some (vr p0), some (va T s10.1), some (va T x2), some (vr pp2)] (stt Ω [(k0, lstA T p0 (x0 : List Int))] [lstA T pp2 (s10.2 : List Int)])
    refine xs_fzJ (k := 3) (j := 0) rfl rfl ?_
    show XS _ _ _ [some (vr p0), some (va T s10.1), some (va T x2), some (va T (LF.mk s10.2))] (stt Ω [(k0, lstA T p0 (x0 : List Int))] [nilA])
    obtain ⟨z11, hz11, hm⟩ := bnd_some hm
    obtain ⟨z12, hz12, hm⟩ := bnd_some hm
    obtain ⟨z13, hz13, hm⟩ := bnd_some hm
    obtain ⟨z14, hz14, hm⟩ := bnd_some hm
    obtain rfl := Option.some.inj hm
    refine xs_ret (xe_cat (xe_rep (xe_lst (l := [(0 : Int)]) (xa_cons xe_int xa_nil) (by show 1 ≤ sizeLine; decide)) (xe_call (xa_cons (xe_var (i := 0) rfl) (xa_cons (xe_lst (l := [(0 : Int), (0 : Int), (if (eqD (LF.mk s10.2) (LF.mk ([] : List Int))) = true then (1 : Int) else 0), (1 : Int), (5 : Int), (40 : Int)]) (xa_cons xe_int (xa_cons xe_int (xa_cons (xe_intb (xe_eqD (chkP_some hz11) (by decide) (xe_var (i := 3) rfl) (xe_lst (T := T) (l := ([] : List Int)) xa_nil (Nat.zero_le _)) isD_va isD_va)) (xa_cons xe_int (xa_cons xe_int (xa_cons xe_int xa_nil)))))) (by show 6 ≤ sizeLine; decide)) xa_nil)) ⟨k0, p0, x0, ([(0 : Int), (0 : Int), (if (eqD (LF.mk s10.2) (LF.mk ([] : List Int))) = true then (1 : Int) else 0), (1 : Int), (5 : Int), (40 : Int)] : List Int), z12, rfl, (stt_get ok (i := 0) rfl), hz12, rfl⟩ (cal1 ok (i := 0) rfl)) isLs_LF (chkP_some hz13)) (xe_revL (xe_var (i := 3) rfl) isL_LF) isLs_LF isLs_LF (chkP_some hz14)) hrt.all
  · subst es
    cases hm
noncomputable def M__law_written (x0 : List Int) (x1 : Int) (x2 : List Int) (x3 : Int) (x4 : Bool) : Option (Str × List Int) :=
  (some ("" : Str)).bind fun y1 => (forM' (ρ := Unit) (fun (a3 : (Int × Int)) (s2 : Str × (List Int)) => (chkP (Str.length ("0123456789abcdefghijklmnopqrstuvwxyz" : Str) ≤ sizeLine)).bind fun z4 => (sAt ("0123456789abcdefghijklmnopqrstuvwxyz" : Str) a3.2).bind fun z5 => (M__law_coin s2.2 (3 : Int)).bind fun z6 => (if (decide (z6.1 = (0 : Int))) = true then (chkP (Str.length z5 ≤ 5592405)).bind fun z7 => some (Txt.upper z5) else some z5).bind fun z8 => (if (decide ((0 : Int) < a3.1)) = true then (M__law_coin z6.2 (5 : Int)).bind fun z10 => some ((decide (z10.1 = (0 : Int))), z10.2) else some (false, z6.2)).bind fun z11 => (chkP (Str.length s2.1 + Str.length (if z11.1 = true then ("_" : Str) else ("" : Str)) ≤ sizeLine)).bind fun z13 => (chkP (Str.length (s2.1 ++ (if z11.1 = true then ("_" : Str) else ("" : Str))) + Str.length z8 ≤ sizeLine)).bind fun z14 => (some ((s2.1 ++ (if z11.1 = true then ("_" : Str) else ("" : Str))) ++ z8)).bind fun y15 => some (Stp.nx (y15, z11.2))) (nums x2) (y1, x0)).bind fun z16 => (nxt z16).bind fun s17 => (if x4 = true then (List.lookup x3 ([(2, "b"), (8, "o"), (16, "x")] : List (Int × Str))).bind fun z18 => (M__law_coin s17.2 (3 : Int)).bind fun z19 => (if (decide (z19.1 = (0 : Int))) = true then (chkP (Str.length z18 ≤ 5592405)).bind fun z20 => some (Txt.upper z18) else some z18).bind fun z21 => (chkP (Str.length ("0" : Str) + Str.length z21 ≤ sizeLine)).bind fun z23 => (M__law_pick__o1 z19.2 ([("" : Str), ("" : Str), ("_" : Str)] : List Str)).bind fun z24 => (chkP (Str.length (("0" : Str) ++ z21) + Str.length z24.1 ≤ sizeLine)).bind fun z25 => (chkP (Str.length ((("0" : Str) ++ z21) ++ z24.1) + Str.length s17.1 ≤ sizeLine)).bind fun z26 => (some (((("0" : Str) ++ z21) ++ z24.1) ++ s17.1)).bind fun y27 => some (y27, z24.2) else some (s17.1, s17.2)).bind fun z30 => (if (decide (x1 < (0 : Int))) = true then some (("-" : Str), z30.2) else (M__law_pick__o1 z30.2 ([("" : Str), ("" : Str), ("+" : Str)] : List Str)).bind fun z31 => some (z31.1, z31.2)).bind fun z32 => (chkP (Str.length z32.1 + Str.length z30.1 ≤ sizeLine)).bind fun z34 => (some (z32.1 ++ z30.1)).bind fun y35 => (chkP (-(2 ^ 62) ≤ (2 : Int) ∧ (2 : Int) < 2 ^ 62)).bind fun z36 => (chkP ((rng 0 ((2 : Int)).toNat).length ≤ sizeLine)).bind fun z37 => (lcM (fun (a39 : Int) (s38 : (List Int)) => (M__law_pick__o1 s38 ([("" : Str), ("" : Str), (" " : Str), ("  " : Str), ("\n" : Str), ("\t " : Str)] : List Str)).bind fun z40 => some (some z40.1, z40.2)) (rng 0 ((2 : Int)).toNat) z32.2).bind fun z41 => (atI z41.1 (0 : Int)).bind fun z43 => (chkP (Str.length z43 + Str.length y35 ≤ sizeLine)).bind fun z44 => (atI z41.1 (1 : Int)).bind fun z45 => (chkP (Str.length (z43 ++ y35) + Str.length z45 ≤ sizeLine)).bind fun z46 => some (((z43 ++ y35) ++ z45), z41.2)
def Pre__law_written (T : TC) : PreT := fun As Ω R => ∃ (k0 : Nat) (p0 : Addr) (x0 : List Int) (x1 : Int) (x2 : List Int) (x3 : Int) (x4 : Bool) (r : Str × List Int), As = [vr p0, va T x1, va T (LF.mk x2), va T x3, va T x4] ∧ Ω[k0]? = some (lstA T p0 x0) ∧ M__law_written x0 x1 x2 x3 x4 = some r ∧ R = RV (va T r.1) (stt Ω [(k0, lstA T p0 r.2)] [])
theorem sc__law_written : FnScope ["_law_purse_here", "_law_side", "_law_figures_here", "_law_radix", "_law_has_prefix", "_law_line", "_law_place", "_law_value", "_law_sign", "_law_letter", "_law_ends", "_law_turn"] ["_law_purse_here", "_law_side", "_law_figures_here", "_law_radix", "_law_has_prefix"] (defScope s__law_written) := ⟨rfl, rfl, rfl, by decide +kernel, rfl, by decide +kernel, by decide +kernel⟩
theorem ok__law_written {f : Addr} {fd : FuncData} (F : Fun T.K "_law_written" "_law_written" s__law_written f fd) (z_enumerate : mg "enumerate" = none) (c__law_coin : Cal P w T.K mg base 1 "_law_coin" ["_law_purse_here", "_law_amount"] (mkSp (Pre__law_coin T))) (c__law_pick__o1 : Cal P w T.K mg base 2 "_law_pick" ["_law_purse_here", "_law_some"] (mkSp (Pre__law_pick__o1 T))) (z_range : mg "range" = none) : FnOk P w T.K mg base CX0 3 f fd ["_law_purse_here", "_law_side", "_law_figures_here", "_law_radix", "_law_has_prefix"] (mkSp (Pre__law_written T)) := by
  refine fn_ok F sc__law_written (fun As Ω R h => ?_) (fun cdv A outer s H E hr As Ω R F0 h => ?_)
  · obtain ⟨k0, p0, x0, x1, x2, x3, x4, r, rfl, _⟩ := h
    rfl
  obtain ⟨k0, p0, x0, x1, x2, x3, x4, r, rfl, hk0, hm, rfl⟩ := h
  refine ⟨_, (pss_cons (ps_set (i := 5) sc__law_written.nd rfl (.inl rfl) pe_str) (pss_cons (ps_for PassesOwn.never rfl (pi_enumK (K := T.K) rfl rfl z_enumerate (pa_cons (pv 2) pa_nil)) (pg_tupK (K := T.K) (n := 2) rfl rfl (pgs_cons (pg_name (i := 6) sc__law_written.nd rfl (.inl rfl)) (pgs_cons (pg_name (i := 7) sc__law_written.nd rfl (.inl rfl)) pgs_nil))) (pss_cons (ps_set (i := 8) sc__law_written.nd rfl (.inl rfl) (pe_ix (ix_seqK (K := T.K) rfl) pe_str (pv 7) (by intro _ _; rfl))) (pss_cons (ps_set (i := 8) sc__law_written.nd rfl (.inl rfl) (pe_ifExp (pt_cmpR (op_eqXK (K := T.K) (by exact hr.units) rfl) (pe_cal c__law_coin (hr.mono (by decide)) (by rfl) (pa_cons (pv 0) (pa_cons pe_int pa_nil))) pe_int (nomark _)) (pe_bm0 PySem.F.plainAttrs_str PySem.F.slot_str_upper PySem.F.type_str_upper mt_up (pv 8)) (pv 8))) (pss_one (ps_set (i := 5) sc__law_written.nd rfl (.inl rfl) (pe_op op_add_str (pe_op op_add_str (pv 5) (pe_ifExp (PW.pt (pw_and (pt_cmpR op_gt (pv 6) pe_int (nomark _)) (pw_and1 (pt_cmpR (op_eqXK (K := T.K) (by exact hr.units) rfl) (pe_cal c__law_coin (hr.mono (by decide)) (by rfl) (pa_cons (pv 0) (pa_cons pe_int pa_nil))) pe_int (nomark _))))) pe_str pe_str)) (pv 8))))))) (Evl.pss_cut (ps_if (pt_val (pv 4)) (pss_cons (ps_set (i := 9) sc__law_written.nd rfl (.inl rfl) (pe_dget (by exact hu_of hr) (pe_disp (pps_cons pe_int pe_str (pps_cons pe_int pe_str (pps_cons pe_int pe_str pps_nil))) (by rfl) (by rfl) (fun z => by cases z) (by decide)) (pv 3) (by intro _ _; rfl))) (pss_cons (ps_set (i := 9) sc__law_written.nd rfl (.inl rfl) (pe_ifExp (pt_cmpR (op_eqXK (K := T.K) (by exact hr.units) rfl) (pe_cal c__law_coin (hr.mono (by decide)) (by rfl) (pa_cons (pv 0) (pa_cons pe_int pa_nil))) pe_int (nomark _)) (pe_bm0 PySem.F.plainAttrs_str PySem.F.slot_str_upper PySem.F.type_str_upper mt_up (pv 9)) (pv 9))) (pss_one (ps_set (i := 5) sc__law_written.nd rfl (.inl rfl) (pe_op op_add_str (pe_op op_add_str (pe_op op_add_str pe_str (pv 9)) (pe_cal c__law_pick__o1 (hr.mono (by decide)) (by rfl) (pa_cons (pv 0) (pa_cons (pe_lst (pa_cons pe_str (pa_cons pe_str (pa_cons pe_str pa_nil)))) pa_nil)))) (pv 5)))))) pss_nil) (pss_cons (ps_set (i := 5) sc__law_written.nd rfl (.inl rfl) (pe_op op_add_str (pe_ifExp (pt_cmpR op_lt (pv 1) pe_int (nomark _)) pe_str (pe_cal c__law_pick__o1 (hr.mono (by decide)) (by rfl) (pa_cons (pv 0) (pa_cons (pe_lst (pa_cons pe_str (pa_cons pe_str (pa_cons pe_str pa_nil)))) pa_nil)))) (pv 5))) (pss_cons (ps_setLc (i := 10) (own := [("_law_turn", 11)]) rfl sc__law_written.nd rfl rfl (sw_true rfl rfl rfl (by decide +kernel)) (pi_range1 rfl z_range (pa_cons pe_int pa_nil)) (blkOk_by (N := ["_law_purse_here", "_law_side", "_law_figures_here", "_law_radix", "_law_has_prefix", "_law_line", "_law_place", "_law_value", "_law_sign", "_law_letter", "_law_ends", "_law_turn"]) (sc := defScope s__law_written) (by decide +kernel)) (fun _ _ _ _ _ => (pg_name (i := 11) sc__law_written.nd rfl (.inl rfl))) (fun _ _ _ _ _ => pts_nil) (fun _ _ _ _ _ => (pe_cal c__law_pick__o1 (hr.mono (by decide)) (by rfl) (pa_cons (pv 0) (pa_cons (pe_lst (pa_cons pe_str (pa_cons pe_str (pa_cons pe_str (pa_cons pe_str (pa_cons pe_str (pa_cons pe_str pa_nil))))))) pa_nil))))) (pss_one (ps_ret (pe_op op_add_str (pe_op op_add_str (pe_ix (ix_seqK (K := T.K) rfl) (pv 10) pe_int (by intro _ _; rfl)) (pv 5)) (pe_ix (ix_seqK (K := T.K) rfl) (pv 10) pe_int (by intro _ _; rfl)))))))))), fun D hrt hnx => ?_⟩
  have ok := okk1 hk0
  suffices hx : XS _ D F0 [some (vr p0), some (va T x1), some (va T (LF.mk x2)), some (va T x3), some (va T x4), none, none, none, none, none, none, none] (stt Ω [(k0, lstA T p0 (x0 : List Int))] []) by
    rw [show (stt Ω [(k0, lstA T p0 (x0 : List Int))] []) = Ω from stt_self (by simp [hk0])] at hx
    exact hx
  unfold M__law_written at hm
  obtain ⟨y1, hy1, hm⟩ := bnd_some hm
  refine xs_set (A := va T y1) (xe_eq xe_str (Option.some.inj hy1)) ?_
  show XS (tSeq _ _) _ _ [some (vr p0), some (va T x1), some (va T (LF.mk x2)), some (va T x3), some (va T x4), some (va T y1), none, none, none, none, none, none] (stt Ω [(k0, lstA T p0 (x0 : List Int))] [])
  obtain ⟨z16, hz16, hm⟩ := bnd_some hm
  refine xs_forS (fun (s2 : Str × (List Int)) => [some (vr p0), some (va T x1), some (va T (LF.mk x2)), some (va T x3), some (va T x4), some (va T s2.1), none, none, none, none, none, none]) (fun (s2 : Str × (List Int)) => (stt Ω [(k0, lstA T p0 (s2.2 : List Int))] [])) (fun (_ : Unit) _ _ _ => False) hz16 (xi_enumL (xe_var (i := 2) rfl)) (fun _ => tgt_pair) (fun a3 s2 s' ha hm F1 D1 e1 hD => ?_) (fun s17 es => ?_) (fun r1 es => ?_)
  · show XS (tSeq _ _) _ _ [some (vr p0), some (va T x1), some (va T (LF.mk x2)), some (va T x3), some (va T x4), some (va T s2.1), some (va T a3.1), some (va T a3.2), none, none, none, none] (stt Ω [(k0, lstA T p0 (s2.2 : List Int))] [])
    obtain ⟨z4, hz4, hm⟩ := bnd_some hm
    obtain ⟨z5, hz5, hm⟩ := bnd_some hm
    refine xs_set (A := va T z5) (xe_sIx xe_str (xe_var (i := 7) rfl) (chkP_some hz4) hz5) ?_
    show XS (tSeq _ _) _ _ [some (vr p0), some (va T x1), some (va T (LF.mk x2)), some (va T x3), some (va T x4), some (va T s2.1), some (va T a3.1), some (va T a3.2), some (va T z5), none, none, none] (stt Ω [(k0, lstA T p0 (s2.2 : List Int))] [])
    obtain ⟨z6, hz6, hm⟩ := bnd_some hm
    obtain ⟨z8, hz8, hm⟩ := bnd_some hm
    refine xs_set (A := va T z8) (show XE _ _ _ (va T z8) (stt Ω [(k0, lstA T p0 (z6.2 : List Int))] []) from ?q9) ?_
    case q9 =>
      exact (by
        by_cases hc : (decide (z6.1 = (0 : Int))) = true
        · rw [if_pos hc] at hz8
          obtain ⟨z7, hz7, hz8⟩ := bnd_some hz8
          obtain rfl := Option.some.inj hz8
          exact xe_ifT (xt_eq (xt_test (T := T) (xe_eqI (xe_call (xa_cons (xe_var (i := 0) rfl) (xa_cons xe_int xa_nil)) ⟨k0, p0, s2.2, (3 : Int), z6, rfl, (stt_get ok (i := 0) rfl), hz6, rfl⟩ (cal1 ok (i := 0) rfl)) xe_int)) hc) (xe_m0 (xe_var (i := 8) rfl) (chkP_some hz7))
        · rw [if_neg hc] at hz8
          obtain rfl := Option.some.inj hz8
          exact xe_ifF (xt_eq (xt_test (T := T) (xe_eqI (xe_call (xa_cons (xe_var (i := 0) rfl) (xa_cons xe_int xa_nil)) ⟨k0, p0, s2.2, (3 : Int), z6, rfl, (stt_get ok (i := 0) rfl), hz6, rfl⟩ (cal1 ok (i := 0) rfl)) xe_int)) (nt hc)) (xe_var (i := 8) rfl))
    show XS (tAsg _ _) _ _ [some (vr p0), some (va T x1), some (va T (LF.mk x2)), some (va T x3), some (va T x4), some (va T s2.1), some (va T a3.1), some (va T a3.2), some (va T z8), none, none, none] (stt Ω [(k0, lstA T p0 (z6.2 : List Int))] [])
    obtain ⟨z11, hz11, hm⟩ := bnd_some hm
    obtain ⟨z13, hz13, hm⟩ := bnd_some hm
    obtain ⟨z14, hz14, hm⟩ := bnd_some hm
    obtain ⟨y15, hy15, hm⟩ := bnd_some hm
    refine xs_set1 (A := va T y15) (xe_eq (xe_sadd (xe_sadd (xe_var (i := 5) rfl) (xe_ite (xt_andOC (O := fun (sO : List Int) => (stt Ω [(k0, lstA T p0 (sO : List Int))] [])) (xt_test (T := T) (xe_gt (xe_var (i := 6) rfl) xe_int)) hz11 ?q12) xe_str xe_str) (chkP_some hz13)) (xe_var (i := 8) rfl) (chkP_some hz14)) (Option.some.inj hy15)) ?_
    case q12 =>
      exact (fun v hm => by
        obtain ⟨z10, hz10, hm⟩ := bnd_some hm
        obtain rfl := Option.some.inj hm
        exact (xt_test (T := T) (xe_eqI (xe_call (xa_cons (xe_var (i := 0) rfl) (xa_cons xe_int xa_nil)) ⟨k0, p0, z6.2, (5 : Int), z10, rfl, (stt_get ok (i := 0) rfl), hz10, rfl⟩ (cal1 ok (i := 0) rfl)) xe_int)))
    obtain rfl := Option.some.inj hm
    exact fun σ H n => hD.nx _ rfl σ H (((n.forget 8).forget 6).forget 7)
  · subst es
    obtain ⟨s2, hs2, hm⟩ := bnd_some hm
    cases hs2
    show XS (Evl.tCut _ _) _ _ [some (vr p0), some (va T x1), some (va T (LF.mk x2)), some (va T x3), some (va T x4), some (va T s17.1), none, none, none, none, none, none] (stt Ω [(k0, lstA T p0 (s17.2 : List Int))] [])
    obtain ⟨z30, hz30, hm⟩ := bnd_some hm
    refine xs_cut (Γ' := [some (vr p0), some (va T x1), some (va T (LF.mk x2)), some (va T x3), some (va T x4), some (va T z30.1), none, none, none, none, none, none]) (Ω' := (stt Ω [(k0, lstA T p0 (z30.2 : List Int))] [])) ?_ ?_
    · clear hm
      have hm := hz30
      clear hz30
      by_cases hc : x4 = true
      · rw [if_pos hc] at hm
        refine xs_ifT1 (xt_eq (xt_tB (T := T) (xe_var (i := 4) rfl)) hc) ?_
        obtain ⟨z18, hz18, hm⟩ := bnd_some hm
        refine xs_set (A := va T z18) (xe_dix V.str (fun a F => rp_str (T := T) a F) ([(2, "b"), (8, "o"), (16, "x")] : List (Int × Str)) (by rfl) (by decide) (xe_var (i := 3) rfl) hz18) ?_
        show XS (tSeq _ _) _ _ [some (vr p0), some (va T x1), some (va T (LF.mk x2)), some (va T x3), some (va T x4), some (va T s17.1), none, none, none, some (va T z18), none, none] (stt Ω [(k0, lstA T p0 (s17.2 : List Int))] [])
        obtain ⟨z19, hz19, hm⟩ := bnd_some hm
        obtain ⟨z21, hz21, hm⟩ := bnd_some hm
        refine xs_set (A := va T z21) (show XE _ _ _ (va T z21) (stt Ω [(k0, lstA T p0 (z19.2 : List Int))] []) from ?q22) ?_
        case q22 =>
          exact (by
            by_cases hc : (decide (z19.1 = (0 : Int))) = true
            · rw [if_pos hc] at hz21
              obtain ⟨z20, hz20, hz21⟩ := bnd_some hz21
              obtain rfl := Option.some.inj hz21
              exact xe_ifT (xt_eq (xt_test (T := T) (xe_eqI (xe_call (xa_cons (xe_var (i := 0) rfl) (xa_cons xe_int xa_nil)) ⟨k0, p0, s17.2, (3 : Int), z19, rfl, (stt_get ok (i := 0) rfl), hz19, rfl⟩ (cal1 ok (i := 0) rfl)) xe_int)) hc) (xe_m0 (xe_var (i := 9) rfl) (chkP_some hz20))
            · rw [if_neg hc] at hz21
              obtain rfl := Option.some.inj hz21
              exact xe_ifF (xt_eq (xt_test (T := T) (xe_eqI (xe_call (xa_cons (xe_var (i := 0) rfl) (xa_cons xe_int xa_nil)) ⟨k0, p0, s17.2, (3 : Int), z19, rfl, (stt_get ok (i := 0) rfl), hz19, rfl⟩ (cal1 ok (i := 0) rfl)) xe_int)) (nt hc)) (xe_var (i := 9) rfl))
        show XS (tAsg _ _) _ _ [some (vr p0), some (va T x1), some (va T (LF.mk x2)), some (va T x3), some (va T x4), some (va T s17.1), none, none, none, some (va T z21), none, none] (stt Ω [(k0, lstA T p0 (z19.2 : List Int))] [])
        obtain ⟨z23, hz23, hm⟩ := bnd_some hm
        obtain ⟨z24, hz24, hm⟩ := bnd_some hm
        obtain ⟨z25, hz25, hm⟩ := bnd_some hm
        obtain ⟨z26, hz26, hm⟩ := bnd_some hm
        obtain ⟨y27, hy27, hm⟩ := bnd_some hm
        refine xs_set1 (A := va T y27) (xe_eq (xe_sadd (xe_sadd (xe_sadd xe_str (xe_var (i := 9) rfl) (chkP_some hz23)) (xe_call (xa_cons (xe_var (i := 0) rfl) (xa_cons (xe_lst (l := [("" : Str), ("" : Str), ("_" : Str)]) (xa_cons xe_str (xa_cons xe_str (xa_cons xe_str xa_nil))) (by show 3 ≤ sizeLine; decide)) xa_nil)) ⟨k0, p0, z19.2, ([("" : Str), ("" : Str), ("_" : Str)] : List Str), z24, rfl, (stt_get ok (i := 0) rfl), hz24, rfl⟩ (cal1 ok (i := 0) rfl)) (chkP_some hz25)) (xe_var (i := 5) rfl) (chkP_some hz26)) (Option.some.inj hy27)) ?_
        obtain rfl := Option.some.inj hm
        exact fun σ H n => (n.forget 9)
      · rw [if_neg hc] at hm
        refine xs_ifF1 (xt_eq (xt_tB (T := T) (xe_var (i := 4) rfl)) (nt hc)) ?_
        obtain rfl := Option.some.inj hm
        exact fun σ H n => n
    · obtain ⟨z32, hz32, hm⟩ := bnd_some hm
      obtain ⟨z34, hz34, hm⟩ := bnd_some hm
      obtain ⟨y35, hy35, hm⟩ := bnd_some hm
      refine xs_set (A := va T y35) (xe_eq (xe_sadd (show XE _ _ _ (va T z32.1) (stt Ω [(k0, lstA T p0 (z32.2 : List Int))] []) from ?q33) (xe_var (i := 5) rfl) (chkP_some hz34)) (Option.some.inj hy35)) ?_
      case q33 =>
        exact (by
          by_cases hc : (decide (x1 < (0 : Int))) = true
          · rw [if_pos hc] at hz32
            obtain rfl := Option.some.inj hz32
            exact xe_ifT (xt_eq (xt_test (T := T) (xe_lt (xe_var (i := 1) rfl) xe_int)) hc) xe_str
          · rw [if_neg hc] at hz32
            obtain ⟨z31, hz31, hz32⟩ := bnd_some hz32
            obtain rfl := Option.some.inj hz32
            exact xe_ifF (xt_eq (xt_test (T := T) (xe_lt (xe_var (i := 1) rfl) xe_int)) (nt hc)) (xe_call (xa_cons (xe_var (i := 0) rfl) (xa_cons (xe_lst (l := [("" : Str), ("" : Str), ("+" : Str)]) (xa_cons xe_str (xa_cons xe_str (xa_cons xe_str xa_nil))) (by show 3 ≤ sizeLine; decide)) xa_nil)) ⟨k0, p0, z30.2, ([("" : Str), ("" : Str), ("+" : Str)] : List Str), z31, rfl, (stt_get ok (i := 0) rfl), hz31, rfl⟩ (cal1 ok (i := 0) rfl)))
      show XS (tSeq _ _) _ _ [some (vr p0), some (va T x1), some (va T (LF.mk x2)), some (va T x3), some (va T x4), some (va T y35), none, none, none, none, none, none] (stt Ω [(k0, lstA T p0 (z32.2 : List Int))] [])
      obtain ⟨z36, hz36, hm⟩ := bnd_some hm
      obtain ⟨z37, hz37, hm⟩ := bnd_some hm
      obtain ⟨z41, hz41, hm⟩ := bnd_some hm
      refine xs_set (A := va T (LF.mk z41.1)) (xe_fz (xn_lcS (T := T) (fun (s38 : (List Int)) => [(k0, lstA T p0 (s38 : List Int))]) (fun (s38 : (List Int)) => []) hz41 (xi_range1 (T := T) (xa_cons xe_int xa_nil) (chkP_some hz36).1 (chkP_some hz36).2) (fun _ => tgt_name) (by simp) (chkP_some hz37) ?q42)) ?_
      case q42 =>
        exact (fun a39 s38 o s2 ha hm X => by
          obtain ⟨z40, hz40, hm⟩ := bnd_some hm
          obtain ⟨rfl, rfl⟩ := Prod.mk.inj (Option.some.inj hm)
          refine ⟨(fun e => nomatch e), fun y e => ?_⟩
          obtain rfl := Option.some.inj e
          refine ⟨xt_yes, (xe_call (xa_cons (xe_var (i := 0) rfl) (xa_cons (xe_lst (l := [("" : Str), ("" : Str), (" " : Str), ("  " : Str), ("\n" : Str), ("\t " : Str)]) (xa_cons xe_str (xa_cons xe_str (xa_cons xe_str (xa_cons xe_str (xa_cons xe_str (xa_cons xe_str xa_nil)))))) (by show 6 ≤ sizeLine; decide)) xa_nil)) ⟨k0, p0, s38, ([("" : Str), ("" : Str), (" " : Str), ("  " : Str), ("\n" : Str), ("\t " : Str)] : List Str), z40, rfl, (stt_get ok (i := 0) rfl), hz40, rfl⟩ (cal1 ok (i := 0) rfl))⟩)
      show XS (tRet _) _ _ [some (vr p0), some (va T x1), some (va T (LF.mk x2)), some (va T x3), some (va T x4), some (va T y35), none, none, none, none, some (va T (LF.mk z41.1)), none] (stt Ω [(k0, lstA T p0 (z41.2 : List Int))] [])
      obtain ⟨z43, hz43, hm⟩ := bnd_some hm
      obtain ⟨z44, hz44, hm⟩ := bnd_some hm
      obtain ⟨z45, hz45, hm⟩ := bnd_some hm
      obtain ⟨z46, hz46, hm⟩ := bnd_some hm
      obtain rfl := Option.some.inj hm
      refine xs_ret (xe_sadd (xe_sadd (xe_ix (xe_var (i := 10) rfl) xe_int isL_LF hz43) (xe_var (i := 5) rfl) (chkP_some hz44)) (xe_ix (xe_var (i := 10) rfl) xe_int isL_LF hz45) (chkP_some hz46)) hrt.all
  · subst es
    cases hm
noncomputable def M__law_right (x0 : List Int) : Option (Bool × List Int) :=
  (M__law_coin x0 (23 : Int)).bind fun z1 => (M__law_pick z1.2 ([(8 : Int), (9 : Int), (15 : Int), (30 : Int), ((8 : Int) + z1.1)] : List Int)).bind fun z2 => (M__law_coin z2.2 (35 : Int)).bind fun z3 => (some ((2 : Int) + z3.1)).bind fun y4 => (M__law_pick z3.2 ([y4, y4, (10 : Int), (16 : Int), (8 : Int), (2 : Int), (32 : Int), (4 : Int)] : List Int)).bind fun z5 => (M__law_pick z5.2 ([(3 : Int), (13 : Int)] : List Int)).bind fun z6 => (M__law_coin z6.2 z6.1).bind fun z7 => (M__law_row z7.2 z2.1 z7.1).bind fun z8 => (M__law_worth z2.1 z8.1).bind fun z9 => (chkP ((8 ≤ z2.1 ∧ z2.1 ≤ 30) ∧ 2 ≤ (70 : Int) ∧ (70 : Int) ≤ 1000)).bind fun z10 => (some (MS.fresh z2.1 70)).bind fun y11 => (M__law_pick z8.2 ([(1 : Int), (-(1 : Int))] : List Int)).bind fun z14 => (M__law_figures z14.2 z9 z5.1).bind fun z15 => (chkP (Dat.ok (LF.mk z15.1) ∧ Dat.ok (LF.mk ([] : List Int)))).bind fun z16 => (some (if (!eqD (LF.mk z15.1) (LF.mk ([] : List Int))) = true then z15.1 else ([(0 : Int)] : List Int))).bind fun y17 => (if (inI z5.1 ([(2 : Int), (8 : Int), (16 : Int)] : List Int)) = true then (M__law_coin z15.2 (2 : Int)).bind fun z18 => some ((decide (z18.1 = (0 : Int))), z18.2) else some (false, z15.2)).bind fun z19 => (M__law_written z19.2 z14.1 y17 z5.1 z19.1).bind fun z21 => (if (decide (z5.1 = (10 : Int))) = true then (atI y17 (0 : Int)).bind fun z22 => some ((decide ((0 : Int) < z22)) || (decide (z9 = (0 : Int)))) else some false).bind fun z23 => (if (z19.1 || z23) = true then (M__law_coin z21.2 (2 : Int)).bind fun z25 => some ((decide (z25.1 = (0 : Int))), z25.2) else some (false, z21.2)).bind fun z26 => (some (if z26.1 = true then (0 : Int) else z5.1)).bind fun y28 => (M_read_text y11 z21.1 y28 (4300 : Int)).bind fun z29 => (chkP (IntMulOk z14.1 z9)).bind fun z30 => (M__law_is z29.1 z2.1 (z14.1 * z9)).bind fun z31 => (chkP (z31 = true)).bind fun z32 => (if (inI z5.1 ([(2 : Int), (4 : Int), (8 : Int), (16 : Int), (32 : Int)] : List Int)) = true then (List.lookup z5.1 ([(2, 1), (4, 2), (8, 3), (16, 4), (32, 5)] : List (Int × Int))).bind fun z33 => (chkP (IntMulOk (y17.length : Int) z33)).bind fun z34 => (chkP (CDivW ((((y17.length : Int) * z33) + z2.1) - (1 : Int)) z2.1)).bind fun z35 => (some ("shifted" : Str)).bind fun y36 => (some (((((y17.length : Int) * z33) + z2.1) - (1 : Int)) / z2.1)).bind fun y37 => some (y36, y37) else (M__law_steps_in z2.1 z5.1 y17).bind fun z39 => (some ("product" : Str)).bind fun y40 => some (y40, z39.1)).bind fun z42 => (if (decide ((0 : Int) < z42.2)) = true then (chkP ((([(z42.1, z42.2)] : List (Str × Int)).map (·.1)).Nodup)).bind fun z43 => some (DF.mk [(z42.1, z42.2)]) else some (DF.mk [])).bind fun z44 => (some (z44, (LF.mk ([(T3.mk ("read" : Str) (y17.length : Int) z5.1)] : List (T3 Str Int Int))))).bind fun y46 => (M__law_counted z29.2).bind fun z47 => (chkP (sameD z47.1.1.l y46.1.l ∧ z47.1.2 = y46.2 ∧ Dat.ok z47.1.2)).bind fun z48 => (M_read_text z47.2 z21.1 y28 (0 : Int)).bind fun z49 => (chkP (IntMulOk z14.1 z9)).bind fun z50 => (M_big z49.2 (z14.1 * z9)).bind fun z51 => (M_Big_eq z49.1 z51).bind fun z52 => (chkP (z52 = true)).bind fun z53 => (M__law_counted z49.2).bind fun z54 => (chkP (sameD z54.1.1.l y46.1.l ∧ z54.1.2 = y46.2 ∧ Dat.ok z54.1.2)).bind fun z55 => (chkP (true = true)).bind fun z56 => some (true, z26.2)
def Pre__law_right (T : TC) : PreT := fun As Ω R => ∃ (k0 : Nat) (p0 : Addr) (x0 : List Int) (r : Bool × List Int), As = [vr p0] ∧ Ω[k0]? = some (lstA T p0 x0) ∧ M__law_right x0 = some r ∧ R = RV (va T r.1) (stt Ω [(k0, lstA T p0 r.2)] [])
theorem sc__law_right : FnScope ["_law_purse_here", "_law_bits", "_law_radix", "_law_n", "_law_engine", "_law_side", "_law_figures_here", "_law_has_prefix", "_law_line", "_law_is_plain", "_law_asked", "_law_width", "_law_word", "_law_steps", "_law_due", "_law_again"] ["_law_purse_here"] (defScope s__law_right) := ⟨rfl, rfl, rfl, by decide +kernel, rfl, by decide +kernel, by decide +kernel⟩
theorem ok__law_right {f : Addr} {fd : FuncData} (F : Fun T.K "_law_right" "_law_right" s__law_right f fd) (c__law_coin : Cal P w T.K mg base 1 "_law_coin" ["_law_purse_here", "_law_amount"] (mkSp (Pre__law_coin T))) (c__law_pick : Cal P w T.K mg base 2 "_law_pick" ["_law_purse_here", "_law_some"] (mkSp (Pre__law_pick T))) (c__law_row : Cal P w T.K mg base 3 "_law_row" ["_law_purse_here", "_law_bits", "_law_size"] (mkSp (Pre__law_row T))) (c__law_worth : Cal P w T.K mg base 1 "_law_worth" ["_law_bits", "_law_row_here"] (mkSp (Pre__law_worth T))) (c_Machine1 : CalC P w T.K mg base 3 "Machine" (T.C 0) ["self", "bits", "cutoff"] [.int 70] (mkSp (Pre_Machine T))) (c__law_figures : Cal P w T.K mg base 3 "_law_figures" ["_law_purse_here", "_law_n", "_law_radix"] (mkSp (Pre__law_figures T))) (c__law_written : Cal P w T.K mg base 3 "_law_written" ["_law_purse_here", "_law_side", "_law_figures_here", "_law_radix", "_law_has_prefix"] (mkSp (Pre__law_written T))) (cd_read_text_3 : CalD P w T.K mg base 23 "read_text" ["machine", "text", "base", "most"] [V.int 4300] (mkSp (Pre_read_text T))) (c__law_is : Cal P w T.K mg base 3 "_law_is" ["_law_held", "_law_bits", "_law_n"] (mkSp (Pre__law_is T))) (z_len : mg "len" = none) (c__law_steps_in : Cal P w T.K mg base 2 "_law_steps_in" ["_law_bits", "_law_radix", "_law_digits_so"] (mkSp (Pre__law_steps_in T))) (c__law_counted : Cal P w T.K mg base 2 "_law_counted" ["_law_engine"] (mkSp (Pre__law_counted T))) (ckd_read_text_0_base_text_machine_most : CalKD P w T.K mg base 23 "read_text" ["machine", "text", "base", "most"] 0 ["base", "text", "machine", "most"] [V.int 10] [3, 2, 1, 4] (mkSp (Pre_read_text T))) (c_big : Cal P w T.K mg base 23 "big" ["machine", "n"] (mkSp (Pre_big T))) (ceq : CalEq P w T.K mg base 1 (T.C 1) (mkSp (Pre_Big_eq T))) : FnOk P w T.K mg base CX0 24 f fd ["_law_purse_here"] (mkSp (Pre__law_right T)) := by
  refine fn_ok F sc__law_right (fun As Ω R h => ?_) (fun cdv A outer s H E hr As Ω R F0 h => ?_)
  · obtain ⟨k0, p0, x0, r, rfl, _⟩ := h
    rfl
  obtain ⟨k0, p0, x0, r, rfl, hk0, hm, rfl⟩ := h
  refine ⟨_, (pss_cons (ps_par (i := 1) (j := 2) rfl sc__law_right.nd rfl rfl (by decide) rfl rfl (pa_cons (pe_cal c__law_pick (hr.mono (by decide)) (by rfl) (pa_cons (pv 0) (pa_cons (pe_lst (pa_cons pe_int (pa_cons pe_int (pa_cons pe_int (pa_cons pe_int (pa_cons (pe_op op_addQ pe_int (pe_cal c__law_coin (hr.mono (by decide)) (by rfl) (pa_cons (pv 0) (pa_cons pe_int pa_nil)))) pa_nil)))))) pa_nil))) (pa_cons (pe_op op_addQ pe_int (pe_cal c__law_coin (hr.mono (by decide)) (by rfl) (pa_cons (pv 0) (pa_cons pe_int pa_nil)))) pa_nil)) (by rfl)) (pss_cons (ps_set (i := 2) sc__law_right.nd rfl (.inl rfl) (pe_cal c__law_pick (hr.mono (by decide)) (by rfl) (pa_cons (pv 0) (pa_cons (pe_lst (pa_cons (pv 2) (pa_cons (pv 2) (pa_cons pe_int (pa_cons pe_int (pa_cons pe_int (pa_cons pe_int (pa_cons pe_int (pa_cons pe_int pa_nil))))))))) pa_nil)))) (pss_cons (ps_set (i := 3) sc__law_right.nd rfl (.inl rfl) (pe_cal c__law_worth (hr.mono (by decide)) (by rfl) (pa_cons (pv 1) (pa_cons (pe_cal c__law_row (hr.mono (by decide)) (by rfl) (pa_cons (pv 0) (pa_cons (pv 1) (pa_cons (pe_cal c__law_coin (hr.mono (by decide)) (by rfl) (pa_cons (pv 0) (pa_cons (pe_cal c__law_pick (hr.mono (by decide)) (by rfl) (pa_cons (pv 0) (pa_cons (pe_lst (pa_cons pe_int (pa_cons pe_int pa_nil))) pa_nil))) pa_nil))) pa_nil)))) pa_nil)))) (pss_cons (ps_par3 (i := 4) (j := 5) (l := 6) rfl sc__law_right.nd rfl rfl rfl (by decide) (by decide) (by decide) rfl rfl rfl (pa_cons (pe_calC c_Machine1 (hr.mono (by decide)) (by rfl) (pa_cons (pv 1) pa_nil)) (pa_cons (pe_cal c__law_pick (hr.mono (by decide)) (by rfl) (pa_cons (pv 0) (pa_cons (pe_lst (pa_cons pe_int (pa_cons (pe_un un_neg pe_int) pa_nil))) pa_nil))) (pa_cons (pe_cal c__law_figures (hr.mono (by decide)) (by rfl) (pa_cons (pv 0) (pa_cons (pv 3) (pa_cons (pv 2) pa_nil)))) pa_nil))) (by rfl)) (pss_cons (ps_set (i := 6) sc__law_right.nd rfl (.inl rfl) (pe_ifExp (pt_cmpR (op_neXK (K := T.K) (by exact hr.units) rfl) (pv 6) (pe_lst pa_nil) (nomark _)) (pv 6) (pe_lst (pa_cons pe_int pa_nil)))) (pss_cons (ps_set (i := 7) sc__law_right.nd rfl (.inl rfl) (pe_and (pe_cmpR (op_inK (K := T.K) rfl) (pv 2) (pe_tup (pa_cons pe_int (pa_cons pe_int (pa_cons pe_int pa_nil)))) (by with_unfolding_all rfl)) (pe_one (pe_cmpR (op_eqXK (K := T.K) (by exact hr.units) rfl) (pe_cal c__law_coin (hr.mono (by decide)) (by rfl) (pa_cons (pv 0) (pa_cons pe_int pa_nil))) pe_int (nomark _))))) (pss_cons (ps_set (i := 8) sc__law_right.nd rfl (.inl rfl) (pe_cal c__law_written (hr.mono (by decide)) (by rfl) (pa_cons (pv 0) (pa_cons (pv 5) (pa_cons (pv 6) (pa_cons (pv 2) (pa_cons (pv 7) pa_nil))))))) (pss_cons (ps_set (i := 9) sc__law_right.nd rfl (.inl rfl) (pe_and (pe_cmpR (op_eqXK (K := T.K) (by exact hr.units) rfl) (pv 2) pe_int (nomark _)) (pe_one (pe_or (pe_cmpR op_gt (pe_ix (ix_seqK (K := T.K) rfl) (pv 6) pe_int (by intro _ _; rfl)) pe_int (nomark _)) (pe_one (pe_cmpR (op_eqXK (K := T.K) (by exact hr.units) rfl) (pv 3) pe_int (nomark _))))))) (pss_cons (ps_set (i := 10) sc__law_right.nd rfl (.inl rfl) (pe_ifExp (PW.pt (pw_and (PW.pt (pw_or (pt_val (pv 7)) (pw_or1 (pt_val (pv 9))))) (pw_and1 (pt_cmpR (op_eqXK (K := T.K) (by exact hr.units) rfl) (pe_cal c__law_coin (hr.mono (by decide)) (by rfl) (pa_cons (pv 0) (pa_cons pe_int pa_nil))) pe_int (nomark _))))) pe_int (pv 2))) (pss_cons (ps_if (pt_not (pt_val (pe_cal c__law_is (hr.mono (by decide)) (by rfl) (pa_cons (pe_calD cd_read_text_3 (hr.mono (by decide)) (by rfl) (pa_cons (pv 4) (pa_cons (pv 8) (pa_cons (pv 10) pa_nil)))) (pa_cons (pv 1) (pa_cons (pe_op op_mulQ (pv 5) (pv 3)) pa_nil)))))) pss_never pss_nil) (Evl.pss_cut (ps_if (pt_cmpR (op_inK (K := T.K) rfl) (pv 2) (pe_tup (pa_cons pe_int (pa_cons pe_int (pa_cons pe_int (pa_cons pe_int (pa_cons pe_int pa_nil)))))) (by with_unfolding_all rfl)) (pss_cons (ps_set (i := 11) sc__law_right.nd rfl (.inl rfl) (pe_dget (by exact hu_of hr) (pe_disp (pps_cons pe_int pe_int (pps_cons pe_int pe_int (pps_cons pe_int pe_int (pps_cons pe_int pe_int (pps_cons pe_int pe_int pps_nil))))) (by rfl) (by rfl) (fun z => by cases z) (by decide)) (pv 2) (by intro _ _; rfl))) (pss_one (ps_par (i := 12) (j := 13) rfl sc__law_right.nd rfl rfl (by decide) rfl rfl (pa_cons pe_str (pa_cons (pe_op op_fdivW (pe_op op_sub (pe_op op_addQ (pe_op op_mulQ (pe_callB (cr_lenK (K := T.K) rfl) (by rfl) z_len PySem.boot_len (pa_cons (pv 6) pa_nil)) (pv 11)) (pv 1)) pe_int) (pv 1)) pa_nil)) (by rfl)))) (pss_one (ps_par (i := 12) (j := 13) rfl sc__law_right.nd rfl rfl (by decide) rfl rfl (pa_cons pe_str (pa_cons (pe_ix (ix_seqK (K := T.K) rfl) (pe_cal c__law_steps_in (hr.mono (by decide)) (by rfl) (pa_cons (pv 1) (pa_cons (pv 2) (pa_cons (pv 6) pa_nil)))) pe_int (by intro _ _; rfl)) pa_nil)) (by rfl)))) (pss_cons (ps_set (i := 14) sc__law_right.nd rfl (.inl rfl) (pe_tup (pa_cons (pe_ifExp (pt_cmpR op_gt (pv 13) pe_int (nomark _)) (pe_fz (pe_disp (pps_cons (pv 12) (pv 13) pps_nil) (by rfl) (by rfl) (fun z => by cases z) (by decide))) (pe_fz pe_dnewK)) (pa_cons (pe_lst (pa_cons (pe_tup (pa_cons pe_str (pa_cons (pe_callB (cr_lenK (K := T.K) rfl) (by rfl) z_len PySem.boot_len (pa_cons (pv 6) pa_nil)) (pa_cons (pv 2) pa_nil)))) pa_nil)) pa_nil)))) (pss_cons (ps_if (pt_cmpR (op_pkNeK (K := T.K) rfl (by exact hr.units)) (pe_cal c__law_counted (hr.mono (by decide)) (by rfl) (pa_cons (pv 4) pa_nil)) (pv 14) (nomark _)) pss_never pss_nil) (pss_cons (ps_set (i := 15) sc__law_right.nd rfl (.inl rfl) (pe_calKD0 ckd_read_text_0_base_text_machine_most (hr.mono (by decide)) (by rfl) (pk_cons (pv 10) (pk_cons (pv 8) (pk_cons (pv 4) (pk_cons pe_int pk_nil)))))) (pss_one (ps_ret (pe_and (pe_cmpR (op_eqC ceq (hr.mono (by decide))) (pv 15) (pe_cal c_big (hr.mono (by decide)) (by rfl) (pa_cons (pv 4) (pa_cons (pe_op op_mulQ (pv 5) (pv 3)) pa_nil))) (nomark _)) (pe_one (pe_cmpR (op_pkEqK (K := T.K) rfl (by exact hr.units)) (pe_cal c__law_counted (hr.mono (by decide)) (by rfl) (pa_cons (pv 4) pa_nil)) (pv 14) (nomark _)))))))))))))))))))), fun D hrt hnx => ?_⟩
  have ok := okk1 hk0
  suffices hx : XS _ D F0 [some (vr p0), none, none, none, none, none, none, none, none, none, none, none, none, none, none, none] (stt Ω [(k0, lstA T p0 (x0 : List Int))] []) by
    rw [show (stt Ω [(k0, lstA T p0 (x0 : List Int))] []) = Ω from stt_self (by simp [hk0])] at hx
    exact hx
  unfold M__law_right at hm
  obtain ⟨z1, hz1, hm⟩ := bnd_some hm
  obtain ⟨z2, hz2, hm⟩ := bnd_some hm
  obtain ⟨z3, hz3, hm⟩ := bnd_some hm
  obtain ⟨y4, hy4, hm⟩ := bnd_some hm
  refine xs_par2 (A := va T z2.1) (B := va T y4) (xa_cons (xe_call (xa_cons (xe_var (i := 0) rfl) (xa_cons (xe_lst (l := [(8 : Int), (9 : Int), (15 : Int), (30 : Int), ((8 : Int) + z1.1)]) (xa_cons xe_int (xa_cons xe_int (xa_cons xe_int (xa_cons xe_int (xa_cons (xe_add xe_int (xe_call (xa_cons (xe_var (i := 0) rfl) (xa_cons xe_int xa_nil)) ⟨k0, p0, x0, (23 : Int), z1, rfl, (stt_get ok (i := 0) rfl), hz1, rfl⟩ (cal1 ok (i := 0) rfl))) xa_nil))))) (by show 5 ≤ sizeLine; decide)) xa_nil)) ⟨k0, p0, z1.2, ([(8 : Int), (9 : Int), (15 : Int), (30 : Int), ((8 : Int) + z1.1)] : List Int), z2, rfl, (stt_get ok (i := 0) rfl), hz2, rfl⟩ (cal1 ok (i := 0) rfl)) (xa_cons (xe_eq (xe_add xe_int (xe_call (xa_cons (xe_var (i := 0) rfl) (xa_cons xe_int xa_nil)) ⟨k0, p0, z2.2, (35 : Int), z3, rfl, (stt_get ok (i := 0) rfl), hz3, rfl⟩ (cal1 ok (i := 0) rfl))) (Option.some.inj hy4)) xa_nil)) ?_
  show XS (tSeq _ _) _ _ [some (vr p0), some (va T z2.1), some (va T y4), none, none, none, none, none, none, none, none, none, none, none, none, none] (stt Ω [(k0, lstA T p0 (z3.2 : List Int))] [])
  obtain ⟨z5, hz5, hm⟩ := bnd_some hm
  refine xs_set (A := va T z5.1) (xe_call (xa_cons (xe_var (i := 0) rfl) (xa_cons (xe_lst (l := [y4, y4, (10 : Int), (16 : Int), (8 : Int), (2 : Int), (32 : Int), (4 : Int)]) (xa_cons (xe_var (i := 2) rfl) (xa_cons (xe_var (i := 2) rfl) (xa_cons xe_int (xa_cons xe_int (xa_cons xe_int (xa_cons xe_int (xa_cons xe_int (xa_cons xe_int xa_nil)))))))) (by show 8 ≤ sizeLine; decide)) xa_nil)) ⟨k0, p0, z3.2, ([y4, y4, (10 : Int), (16 : Int), (8 : Int), (2 : Int), (32 : Int), (4 : Int)] : List Int), z5, rfl, (stt_get ok (i := 0) rfl), hz5, rfl⟩ (cal1 ok (i := 0) rfl)) ?_
  show XS (tSeq _ _) _ _ [some (vr p0), some (va T z2.1), some (va T z5.1), none, none, none, none, none, none, none, none, none, none, none, none, none] (stt Ω [(k0, lstA T p0 (z5.2 : List Int))] [])
  obtain ⟨z6, hz6, hm⟩ := bnd_some hm
  obtain ⟨z7, hz7, hm⟩ := bnd_some hm
  obtain ⟨z8, hz8, hm⟩ := bnd_some hm
  obtain ⟨z9, hz9, hm⟩ := bnd_some hm
  refine xs_set (A := va T z9) (xe_call (xa_cons (xe_var (i := 1) rfl) (xa_cons (xe_call (xa_cons (xe_var (i := 0) rfl) (xa_cons (xe_var (i := 1) rfl) (xa_cons (xe_call (xa_cons (xe_var (i := 0) rfl) (xa_cons (xe_call (xa_cons (xe_var (i := 0) rfl) (xa_cons (xe_lst (l := [(3 : Int), (13 : Int)]) (xa_cons xe_int (xa_cons xe_int xa_nil)) (by show 2 ≤ sizeLine; decide)) xa_nil)) ⟨k0, p0, z5.2, ([(3 : Int), (13 : Int)] : List Int), z6, rfl, (stt_get ok (i := 0) rfl), hz6, rfl⟩ (cal1 ok (i := 0) rfl)) xa_nil)) ⟨k0, p0, z6.2, z6.1, z7, rfl, (stt_get ok (i := 0) rfl), hz7, rfl⟩ (cal1 ok (i := 0) rfl)) xa_nil))) ⟨k0, p0, z7.2, z2.1, z7.1, z8, rfl, (stt_get ok (i := 0) rfl), hz8, rfl⟩ (cal1 ok (i := 0) rfl)) xa_nil)) ⟨z2.1, z8.1, z9, rfl, hz9, rfl⟩ cal0) ?_
  show XS (tSeq _ _) _ _ [some (vr p0), some (va T z2.1), some (va T z5.1), some (va T z9), none, none, none, none, none, none, none, none, none, none, none, none] (stt Ω [(k0, lstA T p0 (z8.2 : List Int))] [])
  obtain ⟨z10, hz10, hm⟩ := bnd_some hm
  obtain ⟨y11, hy11, hm⟩ := bnd_some hm
  obtain ⟨z14, hz14, hm⟩ := bnd_some hm
  obtain ⟨z15, hz15, hm⟩ := bnd_some hm
  obtain rfl := Option.some.inj hy11
  refine xs_par3N (A := va T z14.1) (B := va T (LF.mk z15.1)) (xn_make (Ds := [va T (70 : Int)]) (xa_cons (xe_var (i := 1) rfl) xa_nil) (fun _ => .cons rfl .nil) (fun q => ⟨_, q, z2.1, 70, rfl, chkP_some hz10, rfl, rfl⟩)) (fun pp12 => (xa_cons (xe_call (xa_cons (xe_var (i := 0) rfl) (xa_cons (xe_lst (l := [(1 : Int), (-(1 : Int))]) (xa_cons xe_int (xa_cons (xe_neg xe_int) xa_nil)) (by show 2 ≤ sizeLine; decide)) xa_nil)) ⟨k0, p0, z8.2, ([(1 : Int), (-(1 : Int))] : List Int), z14, rfl, (stt_get ok (i := 0) rfl), hz14, rfl⟩ (cal1 ok (i := 0) rfl)) (xa_cons (xe_call (xa_cons (xe_var (i := 0) rfl) (xa_cons (xe_var (i := 3) rfl) (xa_cons (xe_var (i := 2) rfl) xa_nil))) ⟨k0, p0, z14.2, z9, z5.1, z15, rfl, (stt_get ok (i := 0) rfl), hz15, rfl⟩ (cal1 ok (i := 0) rfl)) xa_nil))) (fun pp12 => ?_)
  show XS (tSeq _ _) _ _ [some (vr p0), some (va T z2.1), some (va T z5.1), some (va T z9), some (vr pp12), some (va T z14.1), some (va T (LF.mk z15.1)), none, none, none, none, none, none, none, none, none] (stt Ω [(k0, lstA T p0 (z15.2 : List Int))] [machA T pp12 (MS.fresh z2.1 70)])
  obtain ⟨z16, hz16, hm⟩ := bnd_some hm
  obtain ⟨y17, hy17, hm⟩ := bnd_some hm
  refine xs_set (A := va T (LF.mk y17)) (xe_eq (xe_iteL (xt_test (T := T) (xe_neD (chkP_some hz16) (by decide) (xe_var (i := 6) rfl) (xe_lst (T := T) (l := ([] : List Int)) xa_nil (Nat.zero_le _)) isD_va isD_va)) (xe_var (i := 6) rfl) (xe_lst (l := [(0 : Int)]) (xa_cons xe_int xa_nil) (by show 1 ≤ sizeLine; decide))) (congrArg LF.mk (Option.some.inj hy17))) ?_
  show XS (tSeq _ _) _ _ [some (vr p0), some (va T z2.1), some (va T z5.1), some (va T z9), some (vr pp12), some (va T z14.1), some (va T (LF.mk y17)), none, none, none, none, none, none, none, none, none] (stt Ω [(k0, lstA T p0 (z15.2 : List Int))] [machA T pp12 (MS.fresh z2.1 70)])
  obtain ⟨z19, hz19, hm⟩ := bnd_some hm
  refine xs_set (A := va T z19.1) (xe_andOC (O := fun (sO : List Int) => (stt Ω [(k0, lstA T p0 (sO : List Int))] [machA T pp12 (MS.fresh z2.1 70)])) (xe_inI (xe_var (i := 2) rfl) (xe_tupF (l := [(2 : Int), (8 : Int), (16 : Int)]) (xa_cons xe_int (xa_cons xe_int (xa_cons xe_int xa_nil))) (by show 3 ≤ sizeLine; decide))) hz19 ?q20) ?_
  case q20 =>
    exact (fun v hm => by
      obtain ⟨z18, hz18, hm⟩ := bnd_some hm
      obtain rfl := Option.some.inj hm
      exact (xe_eqI (xe_call (xa_cons (xe_var (i := 0) rfl) (xa_cons xe_int xa_nil)) ⟨k0, p0, z15.2, (2 : Int), z18, rfl, (stt_get ok (i := 0) rfl), hz18, rfl⟩ (cal1 ok (i := 0) rfl)) xe_int))
  show XS (tSeq _ _) _ _ [some (vr p0), some (va T z2.1), some (va T z5.1), some (va T z9), some (vr pp12), some (va T z14.1), some (va T (LF.mk y17)), some (va T z19.1), none, none, none, none, none, none, none, none] (stt Ω [(k0, lstA T p0 (z19.2 : List Int))] [machA T pp12 (MS.fresh z2.1 70)])
  obtain ⟨z21, hz21, hm⟩ := bnd_some hm
  refine xs_set (A := va T z21.1) (xe_call (xa_cons (xe_var (i := 0) rfl) (xa_cons (xe_var (i := 5) rfl) (xa_cons (xe_var (i := 6) rfl) (xa_cons (xe_var (i := 2) rfl) (xa_cons (xe_var (i := 7) rfl) xa_nil))))) ⟨k0, p0, z19.2, z14.1, y17, z5.1, z19.1, z21, rfl, (stt_get ok (i := 0) rfl), hz21, rfl⟩ (cal1 ok (i := 0) rfl)) ?_
  show XS (tSeq _ _) _ _ [some (vr p0), some (va T z2.1), some (va T z5.1), some (va T z9), some (vr pp12), some (va T z14.1), some (va T (LF.mk y17)), some (va T z19.1), some (va T z21.1), none, none, none, none, none, none, none] (stt Ω [(k0, lstA T p0 (z21.2 : List Int))] [machA T pp12 (MS.fresh z2.1 70)])
  obtain ⟨z23, hz23, hm⟩ := bnd_some hm
  refine xs_set (A := va T z23) (xe_andO (xe_eqI (xe_var (i := 2) rfl) xe_int) hz23 ?q24) ?_
  case q24 =>
    exact (fun v hm => by
      obtain ⟨z22, hz22, hm⟩ := bnd_some hm
      obtain rfl := Option.some.inj hm
      exact (xe_orV (xe_gt (xe_ix (xe_var (i := 6) rfl) xe_int isL_LF hz22) xe_int) (fun _ => (xe_eqI (xe_var (i := 3) rfl) xe_int))))
  show XS (tSeq _ _) _ _ [some (vr p0), some (va T z2.1), some (va T z5.1), some (va T z9), some (vr pp12), some (va T z14.1), some (va T (LF.mk y17)), some (va T z19.1), some (va T z21.1), some (va T z23), none, none, none, none, none, none] (stt Ω [(k0, lstA T p0 (z21.2 : List Int))] [machA T pp12 (MS.fresh z2.1 70)])
  obtain ⟨z26, hz26, hm⟩ := bnd_some hm
  obtain ⟨y28, hy28, hm⟩ := bnd_some hm
  refine xs_set (A := va T y28) (xe_eq (xe_ite (xt_andOC (O := fun (sO : List Int) => (stt Ω [(k0, lstA T p0 (sO : List Int))] [machA T pp12 (MS.fresh z2.1 70)])) (xt_or (xt_tB (T := T) (xe_var (i := 7) rfl)) (fun _ => (xt_tB (T := T) (xe_var (i := 9) rfl))) (fun _ => rfl)) hz26 ?q27) xe_int (xe_var (i := 2) rfl)) (Option.some.inj hy28)) ?_
  case q27 =>
    exact (fun v hm => by
      obtain ⟨z25, hz25, hm⟩ := bnd_some hm
      obtain rfl := Option.some.inj hm
      exact (xt_test (T := T) (xe_eqI (xe_call (xa_cons (xe_var (i := 0) rfl) (xa_cons xe_int xa_nil)) ⟨k0, p0, z21.2, (2 : Int), z25, rfl, (stt_get ok (i := 0) rfl), hz25, rfl⟩ (cal1 ok (i := 0) rfl)) xe_int)))
  show XS (tSeq _ _) _ _ [some (vr p0), some (va T z2.1), some (va T z5.1), some (va T z9), some (vr pp12), some (va T z14.1), some (va T (LF.mk y17)), some (va T z19.1), some (va T z21.1), some (va T z23), some (va T y28), none, none, none, none, none] (stt Ω [(k0, lstA T p0 (z26.2 : List Int))] [machA T pp12 (MS.fresh z2.1 70)])
  obtain ⟨z29, hz29, hm⟩ := bnd_some hm
  obtain ⟨z30, hz30, hm⟩ := bnd_some hm
  obtain ⟨z31, hz31, hm⟩ := bnd_some hm
  obtain ⟨z32, hz32, hm⟩ := bnd_some hm
  refine xs_ifN (xt_notF (xt_eq (xt_tB (T := T) (xe_call (xa_cons (xe_callD (Ds := [va T (4300 : Int)]) (xa_cons (xe_var (i := 4) rfl) (xa_cons (xe_var (i := 8) rfl) (xa_cons (xe_var (i := 10) rfl) xa_nil))) (fun _ => (.cons rfl .nil)) ⟨(Ω.length + 0), pp12, (MS.fresh z2.1 70), z21.1, y28, (4300 : Int), z29, rfl, (stt_getL (j := 0) rfl), hz29, rfl⟩ (cal1L (j := 0))) (xa_cons (xe_var (i := 1) rfl) (xa_cons (xe_mul (chkP_some hz30) (xe_var (i := 5) rfl) (xe_var (i := 3) rfl)) xa_nil))) ⟨z29.1, z2.1, (z14.1 * z9), z31, rfl, hz31, rfl⟩ cal0)) (chkP_some hz32))) ?_
  show XS (Evl.tCut _ _) _ _ [some (vr p0), some (va T z2.1), some (va T z5.1), some (va T z9), some (vr pp12), some (va T z14.1), some (va T (LF.mk y17)), some (va T z19.1), some (va T z21.1), some (va T z23), some (va T y28), none, none, none, none, none] (stt Ω [(k0, lstA T p0 (z26.2 : List Int))] [machA T pp12 z29.2])
  obtain ⟨z42, hz42, hm⟩ := bnd_some hm
  refine xs_cut (Γ' := [some (vr p0), some (va T z2.1), some (va T z5.1), some (va T z9), some (vr pp12), some (va T z14.1), some (va T (LF.mk y17)), some (va T z19.1), some (va T z21.1), some (va T z23), some (va T y28), none, some (va T z42.1), some (va T z42.2), none, none]) (Ω' := (stt Ω [(k0, lstA T p0 (z26.2 : List Int))] [machA T pp12 z29.2])) ?_ ?_
  · clear hm
    have hm := hz42
    clear hz42
    by_cases hc : (inI z5.1 ([(2 : Int), (4 : Int), (8 : Int), (16 : Int), (32 : Int)] : List Int)) = true
    · rw [if_pos hc] at hm
      refine xs_ifT1 (xt_eq (xt_test (T := T) (xe_inI (xe_var (i := 2) rfl) (xe_tupF (l := [(2 : Int), (4 : Int), (8 : Int), (16 : Int), (32 : Int)]) (xa_cons xe_int (xa_cons xe_int (xa_cons xe_int (xa_cons xe_int (xa_cons xe_int xa_nil))))) (by show 5 ≤ sizeLine; decide)))) hc) ?_
      obtain ⟨z33, hz33, hm⟩ := bnd_some hm
      refine xs_set (A := va T z33) (xe_dix V.int (fun a F => rp_int (T := T) a F) ([(2, 1), (4, 2), (8, 3), (16, 4), (32, 5)] : List (Int × Int)) (by rfl) (by decide) (xe_var (i := 2) rfl) hz33) ?_
      show XS _ _ _ [some (vr p0), some (va T z2.1), some (va T z5.1), some (va T z9), some (vr pp12), some (va T z14.1), some (va T (LF.mk y17)), some (va T z19.1), some (va T z21.1), some (va T z23), some (va T y28), some (va T z33), none, none, none, none] (stt Ω [(k0, lstA T p0 (z26.2 : List Int))] [machA T pp12 z29.2])
      obtain ⟨z34, hz34, hm⟩ := bnd_some hm
      obtain ⟨z35, hz35, hm⟩ := bnd_some hm
      obtain ⟨y36, hy36, hm⟩ := bnd_some hm
      obtain ⟨y37, hy37, hm⟩ := bnd_some hm
      refine xs_par21 (A := va T y36) (B := va T y37) (xa_cons (xe_eq xe_str (Option.some.inj hy36)) (xa_cons (xe_eq (xe_fdiv (chkP_some hz35) (xe_sub (xe_add (xe_mul (chkP_some hz34) (xe_lenL (xe_var (i := 6) rfl) isL_LF) (xe_var (i := 11) rfl)) (xe_var (i := 1) rfl)) xe_int) (xe_var (i := 1) rfl)) (Option.some.inj hy37)) xa_nil)) ?_
      obtain rfl := Option.some.inj hm
      exact fun σ H n => (n.forget 11)
    · rw [if_neg hc] at hm
      refine xs_ifF1 (xt_eq (xt_test (T := T) (xe_inI (xe_var (i := 2) rfl) (xe_tupF (l := [(2 : Int), (4 : Int), (8 : Int), (16 : Int), (32 : Int)]) (xa_cons xe_int (xa_cons xe_int (xa_cons xe_int (xa_cons xe_int (xa_cons xe_int xa_nil))))) (by show 5 ≤ sizeLine; decide)))) (nt hc)) ?_
      obtain ⟨z39, hz39, hm⟩ := bnd_some hm
      obtain ⟨y40, hy40, hm⟩ := bnd_some hm
      refine xs_par21 (A := va T y40) (B := va T z39.1) (xa_cons (xe_eq xe_str (Option.some.inj hy40)) (xa_cons (xe_fst (xe_call (xa_cons (xe_var (i := 1) rfl) (xa_cons (xe_var (i := 2) rfl) (xa_cons (xe_var (i := 6) rfl) xa_nil))) ⟨z2.1, z5.1, y17, z39, rfl, hz39, rfl⟩ cal0)) xa_nil)) ?_
      obtain rfl := Option.some.inj hm
      exact fun σ H n => n
  · obtain ⟨z44, hz44, hm⟩ := bnd_some hm
    obtain ⟨y46, hy46, hm⟩ := bnd_some hm
    refine xs_set (A := va T y46) (xe_eq (xe_tup2 (xa_cons (show XE _ _ _ (va T z44) (stt Ω [(k0, lstA T p0 (z26.2 : List Int))] [machA T pp12 z29.2]) from ?q45) (xa_cons (xe_lst (l := [(T3.mk ("read" : Str) (y17.length : Int) z5.1)]) (xa_cons (xe_tup3 (xa_cons xe_str (xa_cons (xe_lenL (xe_var (i := 6) rfl) isL_LF) (xa_cons (xe_var (i := 2) rfl) xa_nil)))) xa_nil) (by show 1 ≤ sizeLine; decide)) xa_nil))) (Option.some.inj hy46)) ?_
    case q45 =>
      exact (by
        by_cases hc : (decide ((0 : Int) < z42.2)) = true
        · rw [if_pos hc] at hz44
          obtain ⟨z43, hz43, hz44⟩ := bnd_some hz44
          obtain rfl := Option.some.inj hz44
          exact xe_ifT (xt_eq (xt_test (T := T) (xe_gt (xe_var (i := 13) rfl) xe_int)) hc) (xe_disp (fun X => (xps_cons (T := T) (xe_var (i := 12) rfl) (xe_var (i := 13) rfl) xps_nil)) (chkP_some hz43) (by show 1 ≤ 15; decide))
        · rw [if_neg hc] at hz44
          obtain rfl := Option.some.inj hz44
          exact xe_ifF (xt_eq (xt_test (T := T) (xe_gt (xe_var (i := 13) rfl) xe_int)) (nt hc)) xe_disp0)
    show XS (tSeq _ _) _ _ [some (vr p0), some (va T z2.1), some (va T z5.1), some (va T z9), some (vr pp12), some (va T z14.1), some (va T (LF.mk y17)), some (va T z19.1), some (va T z21.1), some (va T z23), some (va T y28), none, some (va T z42.1), some (va T z42.2), some (va T y46), none] (stt Ω [(k0, lstA T p0 (z26.2 : List Int))] [machA T pp12 z29.2])
    obtain ⟨z47, hz47, hm⟩ := bnd_some hm
    obtain ⟨z48, hz48, hm⟩ := bnd_some hm
    refine xs_ifN (xt_test (T := T) (xe_pkNe (chkP_some hz48) (by decide) (xe_call (xa_cons (xe_var (i := 4) rfl) xa_nil) ⟨(Ω.length + 0), pp12, z29.2, z47, rfl, (stt_getL (j := 0) rfl), hz47, rfl⟩ (cal1L (j := 0))) (xe_var (i := 14) rfl))) ?_
    show XS (tSeq _ _) _ _ [some (vr p0), some (va T z2.1), some (va T z5.1), some (va T z9), some (vr pp12), some (va T z14.1), some (va T (LF.mk y17)), some (va T z19.1), some (va T z21.1), some (va T z23), some (va T y28), none, some (va T z42.1), some (va T z42.2), some (va T y46), none] (stt Ω [(k0, lstA T p0 (z26.2 : List Int))] [machA T pp12 z47.2])
    obtain ⟨z49, hz49, hm⟩ := bnd_some hm
    refine xs_set (A := va T z49.1) (xe_callND (Ds := [va T (10 : Int)]) xa_nil (xa_cons (xe_var (i := 10) rfl) (xa_cons (xe_var (i := 8) rfl) (xa_cons (xe_var (i := 4) rfl) (xa_cons xe_int xa_nil)))) (fun _ => (.cons rfl .nil)) ⟨(Ω.length + 0), pp12, z47.2, z21.1, y28, (0 : Int), z49, rfl, (stt_getL (j := 0) rfl), hz49, rfl⟩ (cal1L (j := 0))) ?_
    show XS (tRet _) _ _ [some (vr p0), some (va T z2.1), some (va T z5.1), some (va T z9), some (vr pp12), some (va T z14.1), some (va T (LF.mk y17)), some (va T z19.1), some (va T z21.1), some (va T z23), some (va T y28), none, some (va T z42.1), some (va T z42.2), some (va T y46), some (va T z49.1)] (stt Ω [(k0, lstA T p0 (z26.2 : List Int))] [machA T pp12 z49.2])
    obtain ⟨z50, hz50, hm⟩ := bnd_some hm
    obtain ⟨z51, hz51, hm⟩ := bnd_some hm
    obtain ⟨z52, hz52, hm⟩ := bnd_some hm
    obtain ⟨z53, hz53, hm⟩ := bnd_some hm
    obtain ⟨z54, hz54, hm⟩ := bnd_some hm
    obtain ⟨z55, hz55, hm⟩ := bnd_some hm
    obtain ⟨z56, hz56, hm⟩ := bnd_some hm
    obtain rfl := Option.some.inj hm
    refine xs_ret (xe_andT (xe_eq (xe_ownEq (xe_var (i := 15) rfl) (xe_call (xa_cons (xe_var (i := 4) rfl) (xa_cons (xe_mul (chkP_some hz50) (xe_var (i := 5) rfl) (xe_var (i := 3) rfl)) xa_nil)) ⟨(Ω.length + 0), pp12, z49.2, (z14.1 * z9), z51, rfl, (stt_getL (j := 0) rfl), hz51, rfl⟩ cal0) ⟨z49.1, z51, z52, rfl, hz52, rfl⟩ cal0) (chkP_some hz53)) (xe_eq (xe_pkEq (chkP_some hz55) (by decide) (xe_call (xa_cons (xe_var (i := 4) rfl) xa_nil) ⟨(Ω.length + 0), pp12, z49.2, z54, rfl, (stt_getL (j := 0) rfl), hz54, rfl⟩ (cal1L (j := 0))) (xe_var (i := 14) rfl)) (chkP_some hz56))) hrt.all
noncomputable def M_law (x0 : List Int) : Option Bool :=
  (chkP ((cut x0 none (some (3 : Int))).length + ([(0 : Int)] : List Int).length ≤ sizeLine)).bind fun z1 => (forM' (ρ := Unit) (fun (a3 : Int) (s2 : Unit) => (M__law_purse a3).bind fun z4 => (chkP (-(2 ^ 62) ≤ (6 : Int) ∧ (6 : Int) < 2 ^ 62)).bind fun z7 => (forM' (ρ := Unit) (fun (a9 : Int) (s8 : (List Int)) => (M__law_right s8).bind fun z10 => (chkP (z10.1 = true)).bind fun z11 => some (Stp.nx z10.2)) (rng 0 ((6 : Int)).toNat) z4).bind fun z12 => (nxt z12).bind fun s13 => some (Stp.nx ())) ((cut x0 none (some (3 : Int))) ++ ([(0 : Int)] : List Int)) ()).bind fun z14 => (nxt z14).bind fun s15 => (chkP ((8 ≤ (8 : Int) ∧ (8 : Int) ≤ 30) ∧ 2 ≤ (4 : Int) ∧ (4 : Int) ≤ 1000)).bind fun z16 => (some (MS.fresh (8 : Int) (4 : Int))).bind fun y17 => (M_read_text y17 ("-2_000" : Str) (10 : Int) (4300 : Int)).bind fun z20 => (M_read_text z20.2 (" -0x_7d0 " : Str) (16 : Int) (4300 : Int)).bind fun z21 => (some ([z20.1, z21.1] : List Bg)).bind fun y22 => (M__law_counted z21.2).bind fun z23 => (chkP ((([(("product" : Str), (1 : Int)), (("shifted" : Str), (2 : Int))] : List (Str × Int)).map (·.1)).Nodup)).bind fun z24 => (chkP (sameD z23.1.1.l ((DF.mk [(("product" : Str), (1 : Int)), (("shifted" : Str), (2 : Int))]), (LF.mk ([(T3.mk ("read" : Str) (4 : Int) (10 : Int)), (T3.mk ("read" : Str) (3 : Int) (16 : Int))] : List (T3 Str Int Int)))).1.l ∧ z23.1.2 = ((DF.mk [(("product" : Str), (1 : Int)), (("shifted" : Str), (2 : Int))]), (LF.mk ([(T3.mk ("read" : Str) (4 : Int) (10 : Int)), (T3.mk ("read" : Str) (3 : Int) (16 : Int))] : List (T3 Str Int Int)))).2 ∧ Dat.ok z23.1.2)).bind fun z25 => (chkP (y22.length ≤ sizeLine)).bind fun z26 => (lcM (fun (a28 : Bg) (s27 : Unit) => (M_plain a28).bind fun z29 => some (some z29, ())) y22 ()).bind fun z30 => (chkP (Dat.ok (LF.mk z30.1) ∧ Dat.ok (LF.mk ([(-(2000 : Int)), (-(2000 : Int))] : List Int)))).bind fun z32 => (chkP ((eqD (LF.mk z30.1) (LF.mk ([(-(2000 : Int)), (-(2000 : Int))] : List Int))) = true)).bind fun z33 => some true
def Pre_law (T : TC) : PreT := fun As Ω R => ∃ (x0 : List Int) (r : Bool), As = [va T (SF.mk x0)] ∧ M_law x0 = some r ∧ R = RV (va T r) (stt Ω [] [])
theorem sc_law : FnScope ["_law_script", "_law_cell", "_law_purse_here", "_law_turn", "_law_tiny", "_law_got", "_law_one"] ["_law_script"] (defScope s_law) := ⟨rfl, rfl, rfl, by decide +kernel, rfl, by decide +kernel, by decide +kernel⟩
theorem ok_law {f : Addr} {fd : FuncData} (F : Fun T.K "law" "law" s_law f fd) (c__law_purse : Cal P w T.K mg base 1 "_law_purse" ["_law_cell"] (mkSp (Pre__law_purse T))) (z_range : mg "range" = none) (c__law_right : Cal P w T.K mg base 24 "_law_right" ["_law_purse_here"] (mkSp (Pre__law_right T))) (c_Machine2 : CalC P w T.K mg base 3 "Machine" (T.C 0) ["self", "bits", "cutoff"] [] (mkSp (Pre_Machine T))) (cd_read_text_2 : CalD P w T.K mg base 23 "read_text" ["machine", "text", "base", "most"] [V.int 10, V.int 4300] (mkSp (Pre_read_text T))) (cd_read_text_3 : CalD P w T.K mg base 23 "read_text" ["machine", "text", "base", "most"] [V.int 4300] (mkSp (Pre_read_text T))) (c__law_counted : Cal P w T.K mg base 2 "_law_counted" ["_law_engine"] (mkSp (Pre__law_counted T))) (c_plain : Cal P w T.K mg base 2 "plain" ["x"] (mkSp (Pre_plain T))) : FnOk P w T.K mg base CX0 25 f fd ["_law_script"] (mkSp (Pre_law T)) := by
  refine fn_ok F sc_law (fun As Ω R h => ?_) (fun cdv A outer s H E hr As Ω R F0 h => ?_)
  · obtain ⟨x0, r, rfl, _⟩ := h
    rfl
  obtain ⟨x0, r, rfl, hm, rfl⟩ := h
  refine ⟨_, (pss_cons (ps_for PassesOwn.never rfl (pi_listK (K := T.K) (pe_op op_addQ (pe_slice (sl_listK (K := T.K) rfl) (pv 0) po_none (po_some pe_int)) (pe_lst (pa_cons pe_int pa_nil))) rfl) (pg_name (i := 1) sc_law.nd rfl (.inl rfl)) (pss_cons (ps_set (i := 2) sc_law.nd rfl (.inl rfl) (pe_cal c__law_purse (hr.mono (by decide)) (by rfl) (pa_cons (pv 1) pa_nil))) (pss_one (ps_for PassesOwn.never rfl (pi_range1 rfl z_range (pa_cons pe_int pa_nil)) (pg_name (i := 3) sc_law.nd rfl (.inl rfl)) (pss_one (ps_if (pt_not (pt_val (pe_cal c__law_right (hr.mono (by decide)) (by rfl) (pa_cons (pv 2) pa_nil)))) pss_never pss_nil)))))) (pss_cons (ps_set (i := 4) sc_law.nd rfl (.inl rfl) (pe_calC c_Machine2 (hr.mono (by decide)) (by rfl) (pa_cons pe_int (pa_cons pe_int pa_nil)))) (pss_cons (ps_set (i := 5) sc_law.nd rfl (.inl rfl) (pe_lst (pa_cons (pe_calD cd_read_text_2 (hr.mono (by decide)) (by rfl) (pa_cons (pv 4) (pa_cons pe_str pa_nil))) (pa_cons (pe_calD cd_read_text_3 (hr.mono (by decide)) (by rfl) (pa_cons (pv 4) (pa_cons pe_str (pa_cons pe_int pa_nil)))) pa_nil)))) (pss_cons (ps_if (pt_cmpR (op_pkNeK (K := T.K) rfl (by exact hr.units)) (pe_cal c__law_counted (hr.mono (by decide)) (by rfl) (pa_cons (pv 4) pa_nil)) (pe_tup (pa_cons (pe_fz (pe_disp (pps_cons pe_str pe_int (pps_cons pe_str pe_int pps_nil)) (by rfl) (by rfl) (fun z => by cases z) (by decide))) (pa_cons (pe_lst (pa_cons (pe_tup (pa_cons pe_str (pa_cons pe_int (pa_cons pe_int pa_nil)))) (pa_cons (pe_tup (pa_cons pe_str (pa_cons pe_int (pa_cons pe_int pa_nil)))) pa_nil))) pa_nil))) (nomark _)) pss_never pss_nil) (pss_one (ps_ret (pe_cmpR (op_eqXK (K := T.K) (by exact hr.units) rfl) (pe_lc (own := [("_law_one", 6)]) rfl sc_law.nd (pi_listK (K := T.K) (pv 5) rfl) (blkOk_by (N := ["_law_script", "_law_cell", "_law_purse_here", "_law_turn", "_law_tiny", "_law_got", "_law_one"]) (sc := defScope s_law) (by decide +kernel)) (fun _ _ _ _ _ => (pg_name (i := 6) sc_law.nd rfl (.inl rfl))) (fun _ _ _ _ _ => pts_nil) (fun _ _ _ _ _ => (pe_cal c_plain (hr.mono (by decide)) (by rfl) (pa_cons (pv 6) pa_nil)))) (pe_lst (pa_cons (pe_un un_neg pe_int) (pa_cons (pe_un un_neg pe_int) pa_nil))) (nomark _)))))))), fun D hrt hnx => ?_⟩
  have ok : Okk Ω [] := okk0
  suffices hx : XS _ D F0 [some (va T (SF.mk x0)), none, none, none, none, none, none] (stt Ω [] []) by
    rw [show (stt Ω [] []) = Ω from stt_self (by simp)] at hx
    exact hx
  unfold M_law at hm
  obtain ⟨z1, hz1, hm⟩ := bnd_some hm
  obtain ⟨z14, hz14, hm⟩ := bnd_some hm
  refine xs_forS (fun (s2 : Unit) => [some (va T (SF.mk x0)), none, none, none, none, none, none]) (fun (s2 : Unit) => (stt Ω [] [])) (fun (_ : Unit) _ _ _ => False) hz14 (xi_LF (xe_cat (xe_sliceL (xe_var (i := 0) rfl) xo_none (xo_some (T := T) xe_int) isL_SF) (xe_lst (l := [(0 : Int)]) (xa_cons xe_int xa_nil) (by show 1 ≤ sizeLine; decide)) isLs_LF isLs_LF (chkP_some hz1))) (fun _ => tgt_name) (fun a3 s2 s' ha hm F1 D1 e1 hD => ?_) (fun s15 es => ?_) (fun r1 es => ?_)
  · show XS (tSeq _ _) _ _ [some (va T (SF.mk x0)), some (va T a3), none, none, none, none, none] (stt Ω [] [])
    obtain ⟨z4, hz4, hm⟩ := bnd_some hm
    refine xs_setO (xn_call (xa_cons (xe_var (i := 1) rfl) xa_nil) ⟨a3, z4, rfl, hz4, rfl⟩ cal0) (fun pp5 => ?_)
    show XS (tFor _ _ _) _ _ [some (va T (SF.mk x0)), some (va T a3), some (vr pp5), none, none, none, none] (stt Ω [] [lstA T pp5 (z4 : List Int)])
    obtain ⟨z7, hz7, hm⟩ := bnd_some hm
    obtain ⟨z12, hz12, hm⟩ := bnd_some hm
    refine xs_for (fun (s8 : (List Int)) => [some (va T (SF.mk x0)), some (va T a3), some (vr pp5), none, none, none, none]) (fun (s8 : (List Int)) => (stt Ω [] [lstA T pp5 (s8 : List Int)])) (fun (_ : Unit) _ _ _ => False) hz12 (xi_range1 (T := T) (xa_cons xe_int xa_nil) (chkP_some hz7).1 (chkP_some hz7).2) (fun _ => tgt_name) (fun a9 s8 s' ha hm F1 D1 e1 hD => ?_) (fun s13 es => ?_) (fun r1 es => ?_)
    · show XS (tIfS _ _ _) _ _ [some (va T (SF.mk x0)), some (va T a3), some (vr pp5), some (va T a9), none, none, none] (stt Ω [] [lstA T pp5 (s8 : List Int)])
      obtain ⟨z10, hz10, hm⟩ := bnd_some hm
      obtain ⟨z11, hz11, hm⟩ := bnd_some hm
      refine xs_ifF1 (xt_notF (xt_eq (xt_tB (T := T) (xe_call (xa_cons (xe_var (i := 2) rfl) xa_nil) ⟨(Ω.length + 0), pp5, s8, z10, rfl, (stt_getL (j := 0) rfl), hz10, rfl⟩ (cal1L (j := 0)))) (chkP_some hz11))) ?_
      obtain rfl := Option.some.inj hm
      exact fun σ H n => hD.nx _ rfl σ H (n.forget 3)
    · subst es
      obtain ⟨s2, hs2, hm⟩ := bnd_some hm
      cases hs2
      obtain rfl := Option.some.inj hm
      exact fun σ H n => hD.nx _ rfl σ H (NX.cutL [] [lstA T pp5 (s13 : List Int)] ((n.forget 2).forget 1))
    · subst es
      cases hm
  · subst es
    obtain ⟨s2, hs2, hm⟩ := bnd_some hm
    cases hs2
    show XS (tSeq _ _) _ _ [some (va T (SF.mk x0)), none, none, none, none, none, none] (stt Ω [] [])
    obtain ⟨z16, hz16, hm⟩ := bnd_some hm
    obtain ⟨y17, hy17, hm⟩ := bnd_some hm
    obtain rfl := Option.some.inj hy17
    refine xs_setO ((xn_make (Ds := []) (xa_cons xe_int (xa_cons xe_int xa_nil)) (fun _ => .nil) (fun q => ⟨_, q, (8 : Int), (4 : Int), rfl, chkP_some hz16, rfl, rfl⟩))) (fun pp18 => ?_)
    show XS (tSeq _ _) _ _ [some (va T (SF.mk x0)), none, none, none, some (vr pp18), none, none] (stt Ω [] [machA T pp18 (MS.fresh (8 : Int) (4 : Int))])
    obtain ⟨z20, hz20, hm⟩ := bnd_some hm
    obtain ⟨z21, hz21, hm⟩ := bnd_some hm
    obtain ⟨y22, hy22, hm⟩ := bnd_some hm
    refine xs_set (A := va T (LF.mk y22)) (xe_eq (xe_lst (l := [z20.1, z21.1]) (xa_cons (xe_callD (Ds := [va T (10 : Int), va T (4300 : Int)]) (xa_cons (xe_var (i := 4) rfl) (xa_cons xe_str xa_nil)) (fun _ => (.cons rfl (.cons rfl .nil))) ⟨(Ω.length + 0), pp18, (MS.fresh (8 : Int) (4 : Int)), ("-2_000" : Str), (10 : Int), (4300 : Int), z20, rfl, (stt_getL (j := 0) rfl), hz20, rfl⟩ (cal1L (j := 0))) (xa_cons (xe_callD (Ds := [va T (4300 : Int)]) (xa_cons (xe_var (i := 4) rfl) (xa_cons xe_str (xa_cons xe_int xa_nil))) (fun _ => (.cons rfl .nil)) ⟨(Ω.length + 0), pp18, z20.2, (" -0x_7d0 " : Str), (16 : Int), (4300 : Int), z21, rfl, (stt_getL (j := 0) rfl), hz21, rfl⟩ (cal1L (j := 0))) xa_nil)) (by show 2 ≤ sizeLine; decide)) (congrArg LF.mk (Option.some.inj hy22))) ?_
    show XS (tSeq _ _) _ _ [some (va T (SF.mk x0)), none, none, none, some (vr pp18), some (va T (LF.mk y22)), none] (stt Ω [] [machA T pp18 z21.2])
    obtain ⟨z23, hz23, hm⟩ := bnd_some hm
    obtain ⟨z24, hz24, hm⟩ := bnd_some hm
    obtain ⟨z25, hz25, hm⟩ := bnd_some hm
    refine xs_ifN (xt_test (T := T) (xe_pkNe (chkP_some hz25) (by decide) (xe_call (xa_cons (xe_var (i := 4) rfl) xa_nil) ⟨(Ω.length + 0), pp18, z21.2, z23, rfl, (stt_getL (j := 0) rfl), hz23, rfl⟩ (cal1L (j := 0))) (xe_tup2 (xa_cons (xe_disp (fun X => (xps_cons (T := T) xe_str xe_int (xps_cons (T := T) xe_str xe_int xps_nil))) (chkP_some hz24) (by show 2 ≤ 15; decide)) (xa_cons (xe_lst (l := [(T3.mk ("read" : Str) (4 : Int) (10 : Int)), (T3.mk ("read" : Str) (3 : Int) (16 : Int))]) (xa_cons (xe_tup3 (xa_cons xe_str (xa_cons xe_int (xa_cons xe_int xa_nil)))) (xa_cons (xe_tup3 (xa_cons xe_str (xa_cons xe_int (xa_cons xe_int xa_nil)))) xa_nil)) (by show 2 ≤ sizeLine; decide)) xa_nil))))) ?_
    show XS (tRet _) _ _ [some (va T (SF.mk x0)), none, none, none, some (vr pp18), some (va T (LF.mk y22)), none] (stt Ω [] [machA T pp18 z23.2])
    obtain ⟨z26, hz26, hm⟩ := bnd_some hm
    obtain ⟨z30, hz30, hm⟩ := bnd_some hm
    obtain ⟨z32, hz32, hm⟩ := bnd_some hm
    obtain ⟨z33, hz33, hm⟩ := bnd_some hm
    obtain rfl := Option.some.inj hm
    refine xs_ret (xe_eq (xe_eqD (chkP_some hz32) (by decide) (xe_fz (xn_lcS (T := T) (fun (s27 : Unit) => []) (fun (s27 : Unit) => [machA T pp18 z23.2]) hz30 (xi_LF (xe_var (i := 5) rfl)) (fun _ => tgt_name) (by simp) (chkP_some hz26) ?q31)) (xe_lst (l := [(-(2000 : Int)), (-(2000 : Int))]) (xa_cons (xe_neg xe_int) (xa_cons (xe_neg xe_int) xa_nil)) (by show 2 ≤ sizeLine; decide)) isD_va isD_va) (chkP_some hz33)) hrt.all
    case q31 =>
      exact (fun a28 s27 o s2 ha hm X => by
        obtain ⟨z29, hz29, hm⟩ := bnd_some hm
        obtain ⟨rfl, rfl⟩ := Prod.mk.inj (Option.some.inj hm)
        refine ⟨(fun e => nomatch e), fun y e => ?_⟩
        obtain rfl := Option.some.inj e
        refine ⟨xt_yes, (xe_call (xa_cons (xe_var (i := 6) rfl) xa_nil) ⟨a28, z29, rfl, hz29, rfl⟩ cal0)⟩)
  · subst es
    cases hm
end
end P

set_option Elab.async false
set_option linter.all false
set_option maxRecDepth 100000
set_option exponentiation.threshold 4000
namespace P
open PySem L2 VL
theorem mul_l {a b : Int} (h1 : -(2 ^ 64) < a) (h2 : a < 2 ^ 64) : IntMulOk a b := .of_left (intBits_le_64 h1 h2)
theorem mul_r {a b : Int} (h1 : -(2 ^ 64) < b) (h2 : b < 2 ^ 64) : IntMulOk a b := .of_right (intBits_le_64 h1 h2)
/-- a purse: three numbers, k draws done -/
def Pur (k : Nat) (s : List Int) : Prop := ∃ a b c : Int, s = [a, b, c] ∧ 0 ≤ b ∧ b < 2147483563 ∧ 0 ≤ c ∧ c ≤ 7 + (k : Int)
theorem Pur.mono {j k : Nat} {s : List Int} (h : Pur j s) (hk : j ≤ k) : Pur k s := by
  obtain ⟨a, b, c, e, h1, h2, h3, h4⟩ := h
  exact ⟨a, b, c, e, h1, h2, h3, by omega⟩
theorem purse_s (x : Int) : Sat (M__law_purse x) (Pur 0) := by
  unfold M__law_purse
  refine sat_chk (by unfold CPow; decide) ?_
  refine sat_chk (by split <;> exact mul_r (by decide) (by decide)) ?_
  refine sat_chk (by decide) ?_
  exact sat_some ⟨_, _, _, rfl, Int.emod_nonneg _ (by decide), Int.emod_lt_of_pos _ (by decide), by decide, by decide⟩
theorem coin_s {k : Nat} {s : List Int} {m : Int} (hs : Pur k s) (hk : k < 1000000) (h : 0 < m) (h2 : m < 2 ^ 64) : Sat (M__law_coin s m) (fun r => Pur (k + 1) r.2 ∧ 0 ≤ r.1 ∧ r.1 < m) := by
  obtain ⟨a, b, c, rfl, b0, b1, c0, c1⟩ := hs
  unfold M__law_coin
  refine sat_eq (a := a) rfl ?_
  refine sat_ite (fun _ => ?_) fun _ => ?_
  · refine sat_eq (a := a) rfl ?_
    refine sat_chk h ?_
    refine sat_let ?_
    refine sat_eq (a := a) rfl ?_
    refine sat_chk (cdiv_s h h2) ?_
    refine sat_let ?_
    refine sat_eq (a := 0) rfl ?_
    exact sat_some ⟨⟨_, b, c, rfl, b0, b1, c0, by omega⟩, Int.emod_nonneg _ (by omega), Int.emod_lt_of_pos _ h⟩
  · refine sat_eq (a := c) rfl ?_
    refine sat_let ?_
    refine sat_eq (a := 2) rfl ?_
    rw [show [a, b, c].set 2 (c + 1) = [a, b, c + 1] from rfl]
    refine sat_eq (a := b) rfl ?_
    refine sat_eq (a := c + 1) rfl ?_
    refine sat_chk (mul_l (by decide) (by decide)) ?_
    refine sat_chk (by unfold CPow; omega) ?_
    refine sat_chk (by decide) ?_
    refine sat_let ?_
    refine sat_eq (a := c + 1) rfl ?_
    generalize hy : ((b + 80021 * (c + 1)) + 9) ^ ((3 : Int)).toNat % (2147483587 : Int) = y
    have hy1 : 0 ≤ y ∧ y < 2147483587 := by rw [← hy]; exact ⟨Int.emod_nonneg _ (by decide), Int.emod_lt_of_pos _ (by decide)⟩
    refine sat_chk (mul_l (by decide) (by decide)) ?_
    refine sat_chk (cdiv_s (by decide) (by decide)) ?_
    refine sat_chk (mul_l (by omega) (by omega)) ?_
    refine sat_chk (by decide) ?_
    refine sat_let ?_
    generalize hu : ((y + 7 * (c + 1)) * ((y / 1031) + 60089)) % (2147483549 : Int) = u
    have hu1 : 0 ≤ u ∧ u < 2147483549 := by rw [← hu]; exact ⟨Int.emod_nonneg _ (by decide), Int.emod_lt_of_pos _ (by decide)⟩
    refine sat_chk (cdiv_s (by decide) (by decide)) ?_
    refine sat_chk (mul_l (by omega) (by omega)) ?_
    refine sat_chk (by decide) ?_
    refine sat_chk (cdiv_s (by decide) (by decide)) ?_
    refine sat_chk h ?_
    exact sat_some ⟨⟨_, b, c + 1, rfl, b0, b1, by omega, by omega⟩, Int.emod_nonneg _ (by omega), Int.emod_lt_of_pos _ h⟩
theorem pick_s {k : Nat} {s l : List Int} (hs : Pur k s) (hk : k < 1000000) (h : l ≠ []) (h2 : l.length < 100) : Sat (M__law_pick s l) (fun r => Pur (k + 1) r.2 ∧ r.1 ∈ l) := by
  have hp : 0 < l.length := List.length_pos_iff.mpr h
  unfold M__law_pick
  refine sat_bind (coin_s hs hk (m := (l.length : Int)) (by omega) (by omega)) fun r ⟨h1, a, b⟩ => ?_
  exact sat_atI a b fun x hx => sat_some ⟨h1, hx⟩
/-! ### the program's functions -/
theorem top_ok {W : Nat} (h : W ≤ 30) : M_top_digit (W : Int) = some ((2 ^ W - 1 : Nat) : Int) := by
  unfold M_top_digit
  refine bnd_of (chkP_eq (shl_ok (k := 1) (by decide) (by omega) (by omega))) ?_
  rw [Int.toNat_natCast, Int.one_mul, p2, Int.ofNat_sub (Nat.two_pow_pos W)]
  rfl
theorem size_ok {W : Nat} (h8 : 8 ≤ W) (h : W ≤ 30) (n : Int) : M_size_of (W : Int) n = some ((sz W n.natAbs : Nat) : Int) := by
  unfold M_size_of
  refine bnd_of (chkP_eq (cdiv_s (by omega) (by omega))) ?_
  rw [intBits_abs]
  unfold sz
  congr 1
  rw [show ((bl n.natAbs : Nat) : Int) + (W : Int) - 1 = ((bl n.natAbs + W - 1 : Nat) : Int) from by omega]
  exact (Int.natCast_ediv _ _).symm
theorem kW_le {W k : Nat} (h : W ≤ 30) (hk : k ≤ 4194304) : k * W ≤ 125829120 := Nat.le_trans (Nat.mul_le_mul hk h) (by decide)
theorem low_ok {W k : Nat} (h : W ≤ 30) (n : Int) (hk : k ≤ 4194304) : M_low_part (W : Int) n (k : Int) = some (n % 2 ^ (k * W)) := by
  have hm := kW_le h hk
  unfold M_low_part
  refine bnd_of (chkP_eq (mul_small' (by omega))) ?_
  rw [← Int.natCast_mul]
  refine bnd_of (chkP_eq (shl_ok (k := 1) (by decide) (by omega) (by omega))) ?_
  rw [Int.toNat_natCast, Int.one_mul, p2, ← Int.natCast_one, ← Int.ofNat_sub (Nat.two_pow_pos _), and_low, p2]
theorem row_loop {W : Nat} (h : W ≤ 30) : ∀ (xs : List Int) (n : Int) (row : List Int), row.length + xs.length < 16777216 →
    forM' (ρ := Unit) (fun (a15 : Int) (s14 : Int × (List Int)) => (chkP (s14.2.length < sizeLine)).bind fun z16 => (chkP (0 ≤ (W : Int))).bind fun z17 => (some (s14.1 / 2 ^ ((W : Int)).toNat)).bind fun y18 => some (Stp.nx (y18, (s14.2 ++ [(Builtin.bitAnd s14.1 ((2 ^ W - 1 : Nat) : Int))])))) xs (n, row) = some (.nx (n / 2 ^ (xs.length * W), row ++ rw_ W n xs.length))
  | [], n, row, _ => by
    show some (Stp.nx (n, row)) = some (Stp.nx (n / 2 ^ (0 * W), row ++ []))
    rw [Nat.zero_mul, Int.pow_zero, Int.ediv_one, List.append_nil]
  | x :: r, n, row, hl => by
    rw [List.length_cons] at hl
    rw [forM_cons (s' := (n / 2 ^ W, row ++ [n % 2 ^ W])) (by
      refine bnd_of (chkP_eq (size_lt (m := 16777215) (by show row.length ≤ _; omega) (by decide))) ?_
      refine bnd_of (chkP_eq (by omega)) ?_
      refine bnd_of rfl ?_
      rw [Int.toNat_natCast, and_low]), row_loop h r _ _ (by rw [List.length_append]; show row.length + 1 + r.length < _; omega)]
    rw [ediv_pow, List.length_cons, show W + r.length * W = (r.length + 1) * W from by rw [Nat.succ_mul]; omega, List.append_assoc]
    rfl
theorem row_ok {W : Nat} (h8 : 8 ≤ W) (h : W ≤ 30) : ∀ (f k : Nat) (n : Int), k ≤ 32 * 2 ^ f → k ≤ 4194304 → M_row_of (f + 1) (W : Int) n (k : Int) = some (rw_ W n k) := by
  intro f
  induction f with
  | zero =>
    intro k n hk hk2
    rw [M_row_of_succ, if_neg (by rw [decide_eq_true_iff]; omega)]
    refine bnd_of (top_ok h) ?_
    refine bnd_of rfl ?_
    refine bnd_of (chkP_eq (by omega)) ?_
    rw [Int.toNat_natCast]
    refine bnd_of (row_loop h (rng 0 k) n [] (by rw [rng_len]; show 0 + k < _; omega)) ?_
    rw [rng_len]
    rfl
  | succ f ih =>
    intro k n hk hk2
    rw [M_row_of_succ]
    by_cases q : 32 < k
    · rw [if_pos (decide_eq_true (by omega))]
      refine bnd_of (chkP_eq (cdiv_s (by decide) (by decide))) ?_
      refine bnd_of rfl ?_
      rw [show (k : Int) / 2 = ((k / 2 : Nat) : Int) from rfl]
      have hp : 32 * 2 ^ (f + 1) = 2 * (32 * 2 ^ f) := by rw [Nat.pow_succ]; omega
      have hm := kW_le (k := k / 2) h (by omega)
      refine bnd_of (low_ok h n (by omega)) ?_
      refine bnd_of (ih (k / 2) _ (by omega) (by omega)) ?_
      refine bnd_of (chkP_eq (mul_small' (by omega))) ?_
      rw [← Int.natCast_mul, Int.toNat_natCast, show (k : Int) - ((k / 2 : Nat) : Int) = ((k - k / 2 : Nat) : Int) from by omega]
      refine bnd_of (chkP_eq (by omega)) ?_
      refine bnd_of (ih (k - k / 2) _ (by omega) (by omega)) ?_
      refine bnd_of (chkP_eq (size_le (m := 4194304) (by rw [rw_len, rw_len]; omega) (by decide))) ?_
      rw [rw_mod, ← rw_app, show k / 2 + (k - k / 2) = k from by omega]
    · rw [if_neg (by rw [decide_eq_true_iff]; omega)]
      refine bnd_of (top_ok h) ?_
      refine bnd_of rfl ?_
      refine bnd_of (chkP_eq (by omega)) ?_
      rw [Int.toNat_natCast]
      refine bnd_of (row_loop h (rng 0 k) n [] (by rw [rng_len]; show 0 + k < _; omega)) ?_
      rw [rng_len]
      rfl
/-- the number as the program keeps it -/
abbrev bg (W : Nat) (n : Int) : Bg := ⟨(W : Int), dg W n.natAbs, n⟩
theorem bigof_ok {W : Nat} {S : MS} (hS : S.w = (W : Int)) (h8 : 8 ≤ W) (h : W ≤ 30) {n : Int} (hn : sz W n.natAbs ≤ 4194304) : M_big_of S n = some (bg W n) := by
  unfold M_big_of
  rw [hS]
  refine bnd_of (size_ok h8 h n) ?_
  refine bnd_of (row_ok h8 h 19 _ _ (Nat.le_trans hn (by decide)) hn) ?_
  rw [rw_dg (by omega)]
theorem big_ok {W : Nat} {S : MS} (hS : S.w = (W : Int)) (h8 : 8 ≤ W) (h : W ≤ 30) {n : Int} (hn : sz W n.natAbs ≤ 4194304) : M_big S n = some (bg W n) := by
  unfold M_big
  refine bnd_of (show M_check_machine S = some () from bnd_of (chkP_eq rfl) rfl) ?_
  refine bnd_of (show M_is_integer n = some true from rfl) ?_
  refine bnd_of (chkP_eq rfl) ?_
  exact bnd_of (bigof_ok hS h8 h hn) rfl
theorem plain_ok (W : Nat) (n : Int) : M_plain (bg W n) = some n := by
  unfold M_plain M_check_big
  exact bnd_of (a := ()) (bnd_of (a := ()) (chkP_eq rfl) rfl) rfl
theorem cut_take {α : Type} (l : List α) {k : Nat} (hk : k ≤ l.length) : cut l none (some (k : Int)) = l.take k := by
  have h1 : HT.sIx l.length 0 none = 0 := rfl
  have h2 : HT.sIx l.length l.length (some (k : Int)) = k := by rw [HT.sIx_nat, Nat.min_eq_left hk]
  unfold cut
  rw [h1, h2, List.drop_zero, Nat.sub_zero]
theorem cut_drop {α : Type} (l : List α) {k : Nat} (hk : k ≤ l.length) : cut l (some (k : Int)) none = l.drop k := by
  have h1 : HT.sIx l.length 0 (some (k : Int)) = k := by rw [HT.sIx_nat, Nat.min_eq_left hk]
  have h2 : HT.sIx l.length l.length none = l.length := rfl
  unfold cut
  rw [h1, h2]
  exact List.take_of_length_le (by rw [List.length_drop]; omega)
theorem lv_foldr (B : Int) : ∀ l : List Int, l.foldr (fun d s => s * B + d) 0 = lv B l
  | [] => rfl
  | d :: r => by
    rw [List.foldr_cons, lv_foldr B r, Int.mul_comm]
    show B * lv B r + d = d + B * lv B r
    omega
theorem num_loop {W : Nat} : ∀ (xs : List Int) (m : Nat) (s : Int), (∀ x ∈ xs, 0 ≤ x ∧ x < (2 : Int) ^ W) → 0 ≤ s → s < 2 ^ (W * m) → W * (m + xs.length) + W ≤ 134217728 →
    forM' (ρ := Unit) (fun (a9 : Int) (s8 : Int) => (chkP (CShl s8 (W : Int))).bind fun z10 => (some ((s8 * 2 ^ ((W : Int)).toNat) + a9)).bind fun y11 => some (Stp.nx y11)) xs s = some (.nx (xs.foldl (fun s d => s * 2 ^ W + d) s))
  | [], m, s, _, _, _, _ => rfl
  | x :: r, m, s, hd, s0, s1, hl => by
    have hx := hd x List.mem_cons_self
    rw [List.length_cons] at hl
    have e1 : (s + 1) * 2 ^ W ≤ 2 ^ (W * m) * 2 ^ W := Int.mul_le_mul_of_nonneg_right (by omega) (Int.le_of_lt (ppos W))
    rw [Int.add_mul, Int.one_mul, ← Int.pow_add] at e1
    have e0 : 0 ≤ s * 2 ^ W := Int.mul_nonneg s0 (Int.le_of_lt (ppos W))
    have el : W * (m + (r.length + 1)) = W * m + W * r.length + W := by rw [Nat.mul_add, Nat.mul_add, Nat.mul_one]; omega
    rw [forM_cons (s' := s * 2 ^ W + x) (by
      refine bnd_of (chkP_eq (shl_ok (nat_of s0 s1) (by omega) (by omega))) ?_
      refine bnd_of rfl ?_
      rw [Int.toNat_natCast]), num_loop r (m + 1) _ (fun y hy => hd y (List.mem_cons_of_mem _ hy)) (by omega) (by rw [Nat.mul_succ]; omega) (by rw [show m + 1 + r.length = m + (r.length + 1) from by omega]; exact hl)]
    rfl
theorem eq_self (W : Nat) (n : Int) : M_Big_eq (bg W n) (bg W n) = some true := by
  unfold M_Big_eq
  rw [decide_eq_true rfl, decide_eq_true rfl]
  rfl
/-- digits of a number in its normal form -/
def Rw (W : Nat) (l : List Int) : Prop := (∀ x ∈ l, 0 ≤ x ∧ x < (2 : Int) ^ W) ∧ ∀ d, l.getLast? = some d → d ≠ 0
theorem atI_end {l : List Int} {d : Int} : atI (l ++ [d]) (-1) = some d := by
  have e : ixN (l ++ [d]).length (-1) = some l.length := by
    unfold ixN
    rw [List.length_append]
    rw [if_neg (by decide), if_pos (by show -((l.length + 1 : Nat) : Int) ≤ -1; omega)]
    congr 1
    show (-1 + ((l.length + 1 : Nat) : Int)).toNat = _
    omega
  unfold atI
  rw [e]
  show (l ++ [d])[l.length]? = _
  rw [List.getElem?_append_right (Nat.le_refl _), Nat.sub_self]
  rfl
theorem cut_init {l : List Int} {d : Int} : cut (l ++ [d]) none (some (-1)) = l := by
  have h1 : HT.sIx (l ++ [d]).length 0 none = 0 := rfl
  have h2 : HT.sIx (l ++ [d]).length (l ++ [d]).length (some (-1)) = l.length := by
    show (if (-1 : Int) < 0 then (-1 + ((l ++ [d]).length : Int)).toNat else min (-1 : Int).toNat (l ++ [d]).length) = l.length
    rw [if_pos (by decide), List.length_append]
    show (-1 + ((l.length + 1 : Nat) : Int)).toNat = _
    omega
  unfold cut
  rw [h1, h2, List.drop_zero, Nat.sub_zero, List.take_left' rfl]
theorem snoc_of {l : List Int} (h : l ≠ []) : ∃ r d, l = r ++ [d] := ⟨l.dropLast, l.getLast h, (List.dropLast_concat_getLast h).symm⟩
theorem row_s {W k n : Nat} {s : List Int} (h8 : 8 ≤ W) (h : W ≤ 30) (hs : Pur k s) (hn : n ≤ 1000) (hk : k + 3 * n < 900000) : Sat (M__law_row s (W : Int) (n : Int)) (fun r => Pur (k + 3 * n) r.2 ∧ r.1.length = n ∧ Rw W r.1) := by
  have B0 := Nat.two_pow_pos W
  have B8 : 2 ^ 8 ≤ 2 ^ W := Nat.pow_le_pow_right (by decide) h8
  have B30 : 2 ^ W ≤ 2 ^ 30 := Nat.pow_le_pow_right (by decide) h
  have e2 := p2 W
  have es : (1 : Int) * 2 ^ ((W : Int)).toNat = ((2 ^ W : Nat) : Int) := by rw [Int.one_mul, Int.toNat_natCast, p2]
  unfold M__law_row
  refine sat_let ?_
  refine sat_chk (by omega) ?_
  rw [Int.toNat_natCast]
  refine sat_for (fun i st => Pur (k + 3 * i) st.1 ∧ st.2.length = i ∧ ∀ x ∈ st.2, 0 ≤ x ∧ x < (2 : Int) ^ W) (fun i x st hi ⟨q1, q2, q3⟩ => ?_) ⟨hs, rfl, fun x hx => (by cases hx)⟩ fun st ⟨q1, q2, q3⟩ => sat_nx ?_
  · have hi := (rng_get hi).1
    rw [show (1 : Int) * 2 ^ W = ((2 ^ W : Nat) : Int) from by rw [Int.one_mul, p2]]
    refine sat_chk (shl_ok (k := 1) (by decide) (by omega) (by omega)) ?_
    refine sat_bind (coin_s q1 (by omega) (by omega) (by omega)) fun r1 ⟨h1, a1, b1⟩ => ?_
    refine sat_chk (shl_ok (k := 1) (by decide) (by omega) (by omega)) ?_
    refine sat_bind (coin_s h1 (by omega) (by omega) (by omega)) fun r2 ⟨h2, a2, b2⟩ => ?_
    refine sat_chk (shl_ok (k := 1) (by decide) (by omega) (by omega)) ?_
    refine sat_bind (pick_s h2 (by omega) (List.cons_ne_nil _ _) (by show 4 < 100; decide)) fun r3 ⟨h3, m3⟩ => ?_
    simp only [List.mem_cons, List.not_mem_nil, or_false] at m3
    refine sat_chk (size_lt (m := 1000) (by omega) (by decide)) ?_
    refine ⟨_, rfl, _, rfl, h3.mono (by omega), by rw [List.length_append, q2]; rfl, fun x hx => ?_⟩
    rcases List.mem_append.mp hx with hx | hx
    · exact q3 x hx
    · rw [List.mem_singleton.mp hx]
      omega
  · rw [rng_len] at q1 q2
    refine sat_chk ⟨fun _ _ => trivial, fun _ _ => trivial⟩ ?_
    by_cases q : st.2 = []
    · rw [q] at q2 ⊢
      have e : eqD (LF.mk ([] : List Int)) (LF.mk []) = true := eqD_iff.mpr rfl
      rw [e]
      refine sat_let ?_
      exact sat_some ⟨q1, q2, fun x hx => (by cases hx), fun d hd => (by cases hd)⟩
    · have e : eqD (LF.mk st.2) (LF.mk []) = false := Bool.eq_false_iff.mpr fun z => q (congrArg LF.l (eqD_iff.mp z))
      rw [e]
      obtain ⟨r, d, e⟩ := snoc_of q
      rw [e] at q2 q3 ⊢
      rw [List.length_append] at q2
      have q2 : r.length + 1 = n := q2
      rw [if_pos (by rfl)]
      refine sat_bind (P := fun l => l = r ++ [max 1 d]) ?_ fun l hl => ?_
      · refine sat_eq atI_end ?_
        rw [cut_init]
        refine sat_chk (size_le (m := 1000) (by show r.length + 1 ≤ _; omega) (by decide)) ?_
        exact sat_some rfl
      · subst hl
        have hd := q3 d (List.mem_append_right _ (List.mem_singleton.mpr rfl))
        refine sat_some ⟨q1, by rw [List.length_append]; exact q2, fun x hx => ?_, fun x hx => ?_⟩
        · rcases List.mem_append.mp hx with hx | hx
          · exact q3 x (List.mem_append_left _ hx)
          · rw [List.mem_singleton.mp hx]
            omega
        · rw [List.getLast?_concat] at hx
          cases hx
          omega
theorem worth_s {W : Nat} {l : List Int} (h : W ≤ 30) (hd : ∀ x ∈ l, 0 ≤ x ∧ x < (2 : Int) ^ W) (hl : l.length ≤ 1000) : M__law_worth (W : Int) l = some (lv (2 ^ W) l) := by
  unfold M__law_worth
  have := Nat.mul_le_mul h hl
  refine bnd_of (num_loop l.reverse 0 0 (fun x hx => hd x (List.mem_reverse.mp hx)) (Int.le_refl _) (by rw [Nat.mul_zero, Int.pow_zero]; exact Int.zero_lt_one) (by rw [List.length_reverse, Nat.zero_add]; omega)) ?_
  rw [List.foldl_reverse, lv_foldr]
  rfl
theorem digits_loop {W : Nat} (h8 : 8 ≤ W) (h : W ≤ 30) : ∀ (f : Nat) (a : Nat) (row : List Int), a ≤ f → row.length + sz W a ≤ 100000 →
    whileM (ρ := Unit) (fun (s4 : Int × (List Int)) => some (decide ((0 : Int) < s4.1))) (fun (s4 : Int × (List Int)) => (chkP (CShl (1 : Int) (W : Int))).bind fun z5 => (chkP (0 < ((1 : Int) * 2 ^ ((W : Int)).toNat))).bind fun z6 => (chkP (s4.2.length < sizeLine)).bind fun z7 => (chkP (0 ≤ (W : Int))).bind fun z8 => (some (s4.1 / 2 ^ ((W : Int)).toNat)).bind fun y9 => some (Stp.nx (y9, (s4.2 ++ [(s4.1 % ((1 : Int) * 2 ^ ((W : Int)).toNat))])))) (f + 1) ((a : Int), row) = some (.nx (0, row ++ dg W a)) := by
  intro f
  induction f with
  | zero =>
    intro a row ha _
    have e : a = 0 := by omega
    subst e
    rw [dg_zero, List.append_nil]
    exact whileM_f rfl
  | succ f ih =>
    intro a row ha hl
    by_cases q : a = 0
    · subst q
      rw [dg_zero, List.append_nil]
      exact whileM_f rfl
    · have s1 : sz W a = sz W (a / 2 ^ W) + 1 := by rw [← dg_size (by omega), ← dg_size (by omega), dg_pos (by omega) q]; rfl
      have B8 : 2 ^ 8 ≤ 2 ^ W := Nat.pow_le_pow_right (by decide) h8
      have lt : a / 2 ^ W < a := Nat.div_lt_self (by omega) (by omega)
      rw [whileM_t (s' := (((a / 2 ^ W : Nat) : Int), row ++ [((a % 2 ^ W : Nat) : Int)])) (by
        show some (decide (0 < (a : Int))) = _
        rw [decide_eq_true (by omega)]) (by
        refine bnd_of (chkP_eq (shl_ok (k := 1) (by decide) (by omega) (by omega))) ?_
        refine bnd_of (chkP_eq (by rw [Int.one_mul]; exact ppos _)) ?_
        refine bnd_of (chkP_eq (size_lt (m := 100000) (by show row.length ≤ _; omega) (by decide))) ?_
        refine bnd_of (chkP_eq (by omega)) ?_
        refine bnd_of rfl ?_
        rw [Int.one_mul, Int.toNat_natCast, p2, ← Int.natCast_ediv, ← Int.natCast_emod]), ih _ _ (by omega) (by rw [List.length_append]; show row.length + 1 + _ ≤ _; omega), dg_pos (by omega) q, List.append_assoc]
      rfl
theorem digits_ok {W : Nat} (h8 : 8 ≤ W) (h : W ≤ 30) {a : Nat} (ha : sz W a ≤ 100000) : M__law_digits (W : Int) (a : Int) = some (dg W a) := by
  unfold M__law_digits
  refine bnd_of rfl ?_
  rw [Int.natAbs_natCast]
  refine bnd_of (digits_loop h8 h a a [] (Nat.le_refl _) (by rw [List.length_nil]; omega)) ?_
  rfl
theorem sgn_is (n : Int) : (if (decide ((0 : Int) < n)) = true then (1 : Int) else 0) - (if (decide (n < (0 : Int))) = true then (1 : Int) else 0) = sgn n := by
  unfold sgn
  rcases Int.lt_trichotomy n 0 with q | q | q
  · rw [decide_eq_true q, decide_eq_false (by omega), if_neg (by decide), if_pos rfl, if_pos q]; rfl
  · subst q; rfl
  · rw [decide_eq_true q, decide_eq_false (by omega), if_pos rfl, if_neg (by decide), if_neg (by omega), if_neg (by omega)]; rfl
theorem is_ok {W : Nat} (h8 : 8 ≤ W) (h : W ≤ 30) {n : Int} (hn : sz W n.natAbs ≤ 100000) : M__law_is (bg W n) (W : Int) n = some true := by
  unfold M__law_is
  refine bnd_of (a := sgn n) (by rw [sgn_is]) ?_
  refine bnd_of (a := sgn n) rfl ?_
  refine bnd_of (a := dg W n.natAbs) rfl ?_
  refine bnd_of (a := (W : Int)) rfl ?_
  refine bnd_of (plain_ok W n) ?_
  refine bnd_of (digits_ok h8 h hn) ?_
  refine bnd_of (chkP_eq ⟨⟨trivial, fun _ _ => trivial, trivial, trivial⟩, trivial, fun _ _ => trivial, trivial, trivial⟩) ?_
  exact bnd_of (chkP_eq (eqD_iff.mpr rfl)) rfl
def nz (l : List (Str × Int)) : List (Str × Int) := l.filter fun p => !decide (p.2 = 0)
theorem nz_loop (l : List (Str × Int)) : lcM (fun (a3 : (Str × Int)) (s2 : Unit) => if (!decide (a3.2 = (0 : Int))) = true then some (some a3, ()) else some (none, ())) l () = some (nz l, ()) := by
  unfold nz
  refine lcM_filter (p := fun (p : Str × Int) => !decide (p.2 = 0)) fun x _ => ?_
  by_cases q : (!decide (x.2 = 0)) = true
  · rw [if_pos q, if_pos q]
  · rw [if_neg q, if_neg q]
theorem tally_len (S : MS) : S.tally.length = 10 := by unfold MS.tally; rw [List.length_map]; rfl
theorem counted_ok (S : MS) : M__law_counted S = some ((DF.mk (nz S.tally), LF.mk S.wk), S.reset) := by
  unfold M__law_counted
  refine bnd_of (chkP_eq (size_le (m := 10) (by rw [tally_len]; omega) (by decide))) ?_
  refine bnd_of (nz_loop _) ?_
  refine bnd_of (chkP_eq ((List.filter_sublist.map _).nodup (tally_keys S))) ?_
  exact bnd_of rfl rfl
def one_ (w : Str) (k : Int) : List (Str × Int) := if k = 0 then [] else [(w, k)]
theorem nz_product {w c m n k : Int} {y : Str} : nz (((MS.fresh w c).enter y m n).step "product" k).tally = one_ "product" k := by
  have e : (((MS.fresh w c).enter y m n).step "product" k).tally = ([("short", 0), ("sum", 0), ("product", 0 + k), ("quotient", 0), ("corrected", 0), ("restored", 0), ("shifted", 0), ("combined", 0), ("complemented", 0), ("looked", 0)] : List (Str × Int)) := rfl
  rw [e]
  unfold nz one_
  rw [Int.zero_add]
  by_cases q : k = 0
  · subst q; rfl
  · rw [if_neg q]
    simp [q]
theorem same_refl {l : List (Str × Int)} (h : (l.map (·.1)).Nodup) : sameD l l := same_of h h fun _ => Iff.rfl
theorem one_nd {w : Str} {k : Int} : ((one_ w k).map (·.1)).Nodup := by
  unfold one_
  split
  · exact List.nodup_nil
  · simp
/-! ### rows of numbers of any bits -/
theorem num_baseG {W : Nat} {row : List Int} (h : W ≤ 20000) (hd : ∀ x ∈ row, 0 ≤ x ∧ x < (2 : Int) ^ W) (hl : row.length ≤ 32) :
    ((forM' (ρ := Unit) (fun (a9 : Int) (s8 : Int) => (chkP (CShl s8 (W : Int))).bind fun z10 => (some ((s8 * 2 ^ ((W : Int)).toNat) + a9)).bind fun y11 => some (Stp.nx y11)) ((row).reverse) (0 : Int)).bind fun z12 => (nxt z12).bind fun s13 => some s13) = some (lv (2 ^ W) row) := by
  have := Nat.mul_le_mul h hl
  refine bnd_of (num_loop row.reverse 0 0 (fun x hx => hd x (List.mem_reverse.mp hx)) (Int.le_refl _) (by rw [Nat.mul_zero, Int.pow_zero]; exact Int.zero_lt_one) (by rw [List.length_reverse, Nat.zero_add]; omega)) ?_
  rw [List.foldl_reverse, lv_foldr]
  rfl
theorem num_okG {W : Nat} (h8 : 1 ≤ W) (h : W ≤ 20000) : ∀ (f : Nat) (row : List Int), (∀ x ∈ row, 0 ≤ x ∧ x < (2 : Int) ^ W) → row.length ≤ 32 * 2 ^ f → row.length ≤ 5000 → M_number_of (f + 1) (W : Int) row = some (lv (2 ^ W) row) := by
  intro f
  induction f with
  | zero =>
    intro row hd hl _
    rw [M_number_of_succ, Option.bind_some, if_neg (by rw [decide_eq_true_iff]; omega)]
    exact num_baseG h hd (by omega)
  | succ f ih =>
    intro row hd hl hl2
    rw [M_number_of_succ, Option.bind_some]
    by_cases q : 32 < row.length
    · rw [if_pos (decide_eq_true (by omega))]
      refine bnd_of (chkP_eq (cdiv_s (by decide) (by decide))) ?_
      refine bnd_of rfl ?_
      rw [show ((row.length : Nat) : Int) / 2 = ((row.length / 2 : Nat) : Int) from rfl, cut_take row (by omega), cut_drop row (by omega)]
      have hp : 32 * 2 ^ (f + 1) = 2 * (32 * 2 ^ f) := by rw [Nat.pow_succ]; omega
      have d1 : ∀ x ∈ row.take (row.length / 2), 0 ≤ x ∧ x < (2 : Int) ^ W := fun x hx => hd x (List.mem_of_mem_take hx)
      have d2 : ∀ x ∈ row.drop (row.length / 2), 0 ≤ x ∧ x < (2 : Int) ^ W := fun x hx => hd x (List.mem_of_mem_drop hx)
      refine bnd_of (ih _ d1 (by rw [List.length_take]; omega) (by rw [List.length_take]; omega)) ?_
      refine bnd_of (ih _ d2 (by rw [List.length_drop]; omega) (by rw [List.length_drop]; omega)) ?_
      have kb : row.length / 2 * W ≤ 60000000 := Nat.le_trans (Nat.mul_le_mul (show row.length / 2 ≤ 2500 by omega) h) (by decide)
      have kb2 : W * (row.drop (row.length / 2)).length ≤ 60000000 := Nat.le_trans (Nat.mul_le_mul h (show (row.drop (row.length / 2)).length ≤ 2501 by rw [List.length_drop]; omega)) (by decide)
      have bd := lv_bound (ppos W) d2
      rw [← Int.pow_mul] at bd
      refine bnd_of (chkP_eq (mul_small' (by omega))) ?_
      rw [← Int.natCast_mul]
      refine bnd_of (chkP_eq (shl_ok (nat_of bd.1 bd.2) (by omega) (by omega))) ?_
      rw [Int.toNat_natCast, lv_split (row.length / 2) row (by omega), ← Int.pow_mul, Nat.mul_comm W, Int.mul_comm (2 ^ (row.length / 2 * W))]
    · rw [if_neg (by rw [decide_eq_true_iff]; omega)]
      exact num_baseG h hd (by omega)
theorem group_ok {W b : Nat} (h8 : 8 ≤ W) (h30 : W ≤ 30) (hb : 2 ≤ b) (hb2 : b ≤ 36) : ∃ g e : Nat, M_group_in (W : Int) (b : Int) = some ((g : Int), (e : Int)) ∧ 1 ≤ g ∧ e = b ^ g ∧ e ≤ 2 ^ W ∧ 2 ^ W < e * b := by
  have p8 : 2 ^ 8 ≤ 2 ^ W := Nat.pow_le_pow_right (by decide) h8
  have p30 : 2 ^ W ≤ 2 ^ 30 := Nat.pow_le_pow_right (by decide) h30
  have lp : ∀ (f g e : Nat), e ≤ 2 ^ W → e = b ^ g → 1 ≤ g → 2 ^ W < e * 2 ^ f → 1 ≤ f → ∃ g' e' : Nat, whileM (ρ := Unit) (fun (s1 : Int × Int) => (chkP (IntMulOk s1.2 (b : Int))).bind fun z2 => (chkP (CShl (1 : Int) (W : Int))).bind fun z3 => some (decide ((s1.2 * (b : Int)) ≤ ((1 : Int) * 2 ^ ((W : Int)).toNat)))) (fun (s1 : Int × Int) => (some (s1.1 + (1 : Int))).bind fun y4 => (chkP (IntMulOk s1.2 (b : Int))).bind fun z5 => (some (s1.2 * (b : Int))).bind fun y6 => some (Stp.nx (y4, y6))) f ((g : Int), (e : Int)) = some (.nx ((g' : Int), (e' : Int))) ∧ 1 ≤ g' ∧ e' = b ^ g' ∧ e' ≤ 2 ^ W ∧ 2 ^ W < e' * b := by
    intro f
    induction f with
    | zero => intro g e _ _ _ _ h; omega
    | succ f ih =>
      intro g e h1 h2 h3 h4 h5
      have cond : (chkP (IntMulOk (e : Int) (b : Int))).bind (fun z2 => (chkP (CShl (1 : Int) (W : Int))).bind fun z3 => some (decide (((e : Int) * (b : Int)) ≤ ((1 : Int) * 2 ^ ((W : Int)).toNat)))) = some (decide (e * b ≤ 2 ^ W)) := by
        refine bnd_of (chkP_eq (mul_small (by omega))) (bnd_of (chkP_eq (shl_ok (k := 1) (by decide) (by omega) (by omega))) ?_)
        rw [Int.toNat_natCast, Int.one_mul, p2, ← Int.natCast_mul]
        congr 1
        rw [decide_eq_decide]
        omega
      by_cases q : e * b ≤ 2 ^ W
      · rw [decide_eq_true q] at cond
        have f0 : 1 ≤ f := by
          rcases Nat.eq_zero_or_pos f with z | z
          · subst z
            rw [Nat.zero_add, Nat.pow_one] at h4
            have : e * 2 ≤ e * b := Nat.mul_le_mul_left _ hb
            omega
          · exact z
        obtain ⟨g', e', k1, k2⟩ := ih (g + 1) (e * b) q (by rw [Nat.pow_succ, h2]) (by omega) (by
          have : e * 2 * 2 ^ f ≤ e * b * 2 ^ f := Nat.mul_le_mul_right _ (Nat.mul_le_mul_left _ hb)
          rw [Nat.pow_succ, Nat.mul_comm (2 ^ f) 2, ← Nat.mul_assoc] at h4
          omega) f0
        refine ⟨g', e', ?_, k2⟩
        rw [whileM_t (s' := (((g + 1 : Nat) : Int), ((e * b : Nat) : Int))) cond (by
          refine bnd_of rfl (bnd_of (chkP_eq (mul_small (by show ((e : Int)).natAbs < _; omega))) ?_)
          push_cast
          rfl)]
        exact k1
      · rw [decide_eq_false q] at cond
        exact ⟨g, e, whileM_f cond, h3, h2, h1, by omega⟩
  have := lp 32 1 b (by omega) (by rw [Nat.pow_one]) (by decide) (by
    have : 2 * 2 ^ 32 ≤ b * 2 ^ 32 := Nat.mul_le_mul_right _ hb
    omega) (by decide)
  obtain ⟨g, e, k1, k2⟩ := this
  refine ⟨g, e, ?_, k2⟩
  unfold M_group_in
  exact bnd_of k1 rfl
/-! texts read -/
def lo (n : Nat) : Nat := if n < 10 then 48 + n else 87 + n
def up (n : Nat) : Nat := if n < 10 then 48 + n else 55 + n
/-- a figure of a text: "_" ahead of it, its value, whether it is great -/
abbrev Itm := Bool × Nat × Bool
def cd (x : Itm) : Nat := if x.2.2 = true then up x.2.1 else lo x.2.1
def flat (l : List Itm) : List Nat := l.flatMap fun x => (if x.1 = true then [95] else []) ++ [cd x]
def figs (l : List Itm) : List Int := l.map fun x => ((x.2.1 : Nat) : Int)
theorem ss_len (l : List Nat) : Str.length (SS l) = l.length := List.size_toArray
theorem ss_app (a b : List Nat) : SS a ++ SS b = SS (a ++ b) := Str.ext' (Array.toList_inj.mp (by show ((SS a).cps ++ (SS b).cps).toList = _; rw [Array.toList_append]))
theorem ss_inj {a b : List Nat} (h : SS a = SS b) : a = b := congrArg (fun x : Str => x.cps.toList) h
theorem val_cd : ∀ n, n < 36 → M_value_of (SS [lo n]) = some (n : Int) ∧ M_value_of (SS [up n]) = some (n : Int) := by decide +kernel
theorem val_it {x : Itm} (h : x.2.1 < 36) : M_value_of (SS [cd x]) = some ((x.2.1 : Nat) : Int) := by
  unfold cd
  split
  · exact (val_cd _ h).2
  · exact (val_cd _ h).1
theorem val_no : M_value_of (SS [95]) = some 36 ∧ M_value_of (SS [32]) = some 36 ∧ M_value_of (SS [9]) = some 36 ∧ M_value_of (SS [10]) = some 36 := by decide +kernel
def IsB (x : Nat) : Prop := x = 32 ∨ x = 9 ∨ x = 10
theorem val_blank {x : Nat} (h : IsB x) : M_value_of (SS [x]) = some 36 := by
  obtain ⟨_, h1, h2, h3⟩ := val_no
  rcases h with e | e | e <;> subst e <;> assumption
theorem sAt_k {t : List Nat} {k : Nat} {c : Nat} (h : t[k]? = some c) : sAt (SS t) (k : Int) = some (SS [c]) := by
  have hk := (List.getElem?_eq_some_iff.mp h).1
  have e : atI (SS t).cps.toList (k : Int) = some c := by
    show atI t (k : Int) = some c
    unfold atI ixN
    rw [if_pos (by omega), if_pos (by omega)]
    exact h
  unfold sAt
  rw [e]
  rfl
theorem sl1 {t : List Nat} {i : Nat} (h : i ≤ t.length) : Txt.slice (SS t) (some (i : Int)) (some ((i : Int) + 1)) = SS ((t.drop i).take 1) := by
  rcases Nat.lt_or_eq_of_le h with q | q
  · have := eq_of_beq (PyProof.Rows.slice_closes (x := SS t) (i := (i : Int)) (j := (i : Int) + 1) ⟨by omega, by omega, by show _ ≤ ((t.length : Nat) : Int); omega⟩)
    rw [this]
    rw [show ((i : Int) + 1 - (i : Int)).toNat = 1 from by omega, Int.toNat_natCast]
  · subst q
    rw [List.drop_length]
    have e : Builtin.Str.strSliceIndices (some ((t.length : Nat) : Int)) (some (((t.length : Nat) : Int) + 1)) 1 (SS t).length = [] := by
      rw [ss_len]
      unfold Builtin.Str.strSliceIndices sliceRange
      simp
      omega
    unfold Txt.slice
    rw [e]
    split
    · rename_i h2
      have : t.length = 0 := by
        simp at h2
        exact (ss_len t).symm.trans h2.symm
      rw [List.length_eq_zero_iff.mp this]
      rfl
    · rfl
theorem at_app {a b : List Nat} {c : Nat} {r : List Nat} (h : b = c :: r) : (a ++ b)[a.length]? = some c := by
  rw [List.getElem?_append_right (Nat.le_refl _), Nat.sub_self, h]
  rfl
instance decB : DecidablePred IsB := fun x => by unfold IsB; infer_instance
theorem sIn_b (x : Nat) : sIn (SS [x]) (" \t\n" : Str) = decide (IsB x) := by
  unfold sIn
  rw [decide_eq_decide]
  show x ∈ _ ↔ _
  rw [show ((" \t\n" : Str).cps.toList) = [32, 9, 10] by decide +kernel]
  simp [IsB]
theorem bl_cond {t : List Nat} (hl : t.length ≤ 10000) {k : Nat} : k ≤ t.length →
    ((chkP (Str.length (SS t) ≤ sizeLine)).bind fun z2 => (if (decide ((k : Int) < (Str.length (SS t) : Int))) = true then (chkP (Str.length (SS t) ≤ sizeLine)).bind fun z3 => (sAt (SS t) (k : Int)).bind fun z4 => (chkP (Str.length z4 = 1)).bind fun z5 => some (sIn z4 (" \t\n" : Str)) else some false).bind fun z6 => some z6) = some (match t[k]? with | some c => decide (IsB c) | none => false) := by
  intro hk
  refine bnd_of (chkP_eq (size_le (m := 10000) (by rw [ss_len]; exact hl) (by decide))) ?_
  rw [ss_len]
  cases e : t[k]? with
  | none =>
    have := List.getElem?_eq_none_iff.mp e
    rw [if_neg (by rw [decide_eq_true_iff]; omega)]
    rfl
  | some c =>
    have := (List.getElem?_eq_some_iff.mp e).1
    rw [if_pos (by rw [decide_eq_true_iff]; omega)]
    refine bnd_of (bnd_of (chkP_eq (size_le (m := 10000) hl (by decide))) (bnd_of (sAt_k e) (bnd_of (chkP_eq rfl) rfl))) ?_
    rw [sIn_b]
theorem bl_loop {t : List Nat} (hl : t.length ≤ 10000) : ∀ (bl a c : List Nat) (f : Nat), t = a ++ (bl ++ c) → (∀ x ∈ bl, IsB x) → (∀ x r, c = x :: r → ¬ IsB x) → bl.length < f →
    whileM (ρ := Unit) (fun (s1 : Int) => (chkP (Str.length (SS t) ≤ sizeLine)).bind fun z2 => (if (decide (s1 < (Str.length (SS t) : Int))) = true then (chkP (Str.length (SS t) ≤ sizeLine)).bind fun z3 => (sAt (SS t) s1).bind fun z4 => (chkP (Str.length z4 = 1)).bind fun z5 => some (sIn z4 (" \t\n" : Str)) else some false).bind fun z6 => some z6) (fun (s1 : Int) => (some (s1 + (1 : Int))).bind fun y8 => some (Stp.nx y8)) f ((a.length : Nat) : Int) = some (.nx (((a.length + bl.length : Nat)) : Int))
  | _, _, _, 0, _, _, _, h => absurd h (Nat.not_lt_zero _)
  | [], a, c, f + 1, e, hb, hc, h => by
    refine whileM_f ?_
    rw [bl_cond hl (by rw [e, List.length_append]; omega)]
    cases c with
    | nil => rw [e, List.append_nil, List.append_nil, List.getElem?_eq_none (Nat.le_refl _)]
    | cons x r => rw [e, at_app (a := a) (b := [] ++ x :: r) (c := x) (r := r) rfl]; exact congrArg some (decide_eq_false (hc x r rfl))
  | x :: bl, a, c, f + 1, e, hb, hc, h => by
    rw [List.length_cons] at h
    rw [whileM_t (s' := (((a ++ [x]).length : Nat) : Int)) (by
      rw [bl_cond hl (by rw [e, List.length_append]; omega), e, at_app (a := a) (b := x :: bl ++ c) (c := x) (r := bl ++ c) rfl]
      exact congrArg some (decide_eq_true (hb x List.mem_cons_self))) (by
      rw [Option.bind_some, List.length_append]
      rfl), bl_loop hl bl (a ++ [x]) c f (by rw [e, List.append_assoc]; rfl) (fun y hy => hb y (List.mem_cons_of_mem _ hy)) hc (by omega)]
    rw [List.length_append, List.length_cons, List.length_cons, List.length_nil]
    congr 3
    omega
theorem blanks_ok {t a bl c : List Nat} (hl : t.length ≤ 10000) (e : t = a ++ (bl ++ c)) (hb : ∀ x ∈ bl, IsB x) (hc : ∀ x r, c = x :: r → ¬ IsB x) : M_behind_blanks (SS t) ((a.length : Nat) : Int) = some ((a.length + bl.length : Nat) : Int) := by
  unfold M_behind_blanks
  exact bnd_of (bl_loop hl bl a c _ e hb hc (by rw [ss_len, e, List.length_append, List.length_append]; omega)) (bnd_of rfl rfl)
/-! the digits -/
theorem flat_cons (x : Itm) (l : List Itm) : flat (x :: l) = (if x.1 = true then [95] else []) ++ ([cd x] ++ flat l) := by
  unfold flat
  rw [List.flatMap_cons, List.append_assoc]
theorem ss_ne {c : Nat} (h : c ≠ 95) : SS [c] ≠ ("_" : Str) := fun e => h (by
  have : SS [c] = SS [95] := e.trans (by decide +kernel)
  have := ss_inj this
  cases this
  rfl)
theorem ss_us : SS [95] = ("_" : Str) := by decide +kernel
section
variable {t : List Nat} {top : Int}
noncomputable abbrev dCond (t : List Nat) : Bool × Int × List Int → Option Bool := fun s4 => (chkP (Str.length (SS t) ≤ sizeLine)).bind fun z5 => some (decide (s4.2.1 < (Str.length (SS t) : Int)))
noncomputable abbrev dBody (t : List Nat) (top : Int) : Bool × Int × List Int → Option (Stp (Bool × Int × List Int) Unit) := fun s4 => (chkP (Str.length (SS t) ≤ sizeLine)).bind fun z6 => (sAt (SS t) s4.2.1).bind fun z7 => (M_value_of z7).bind fun z8 => if (decide (z8 < top)) = true then (chkP (s4.2.2.length < sizeLine)).bind fun z9 => (some (s4.2.1 + (1 : Int))).bind fun y10 => some (Stp.nx (false, y10, (s4.2.2 ++ [z8]))) else (chkP (Str.length (SS t) ≤ sizeLine)).bind fun z11 => (sAt (SS t) s4.2.1).bind fun z12 => if ((decide (z12 = ("_" : Str))) && (!s4.1)) = true then (some (s4.2.1 + (1 : Int))).bind fun y13 => some (Stp.nx (true, y13, s4.2.2)) else some (Stp.bk (s4.1, s4.2.1, s4.2.2))
theorem d_cond (hl : t.length ≤ 10000) {due : Bool} {k : Nat} {vs : List Int} : dCond t (due, (k : Int), vs) = some (decide (k < t.length)) := by
  refine bnd_of (chkP_eq (size_le (m := 10000) (by rw [ss_len]; exact hl) (by decide))) ?_
  rw [ss_len]
  congr 1
  rw [decide_eq_decide]
  show (k : Int) < _ ↔ _
  omega
theorem d_fig (hl : t.length ≤ 10000) {due : Bool} {k : Nat} {vs : List Int} {x : Itm} (e : t[k]? = some (cd x)) (h36 : x.2.1 < 36) (ht : ((x.2.1 : Nat) : Int) < top) (hv : vs.length ≤ 10000) : dBody t top (due, (k : Int), vs) = some (.nx (false, ((k + 1 : Nat) : Int), vs ++ [((x.2.1 : Nat) : Int)])) := by
  refine bnd_of (chkP_eq (size_le (m := 10000) (by rw [ss_len]; exact hl) (by decide))) (bnd_of (sAt_k e) (bnd_of (val_it h36) ?_))
  rw [if_pos (decide_eq_true ht)]
  refine bnd_of (chkP_eq (Nat.lt_of_le_of_lt hv (by unfold sizeLine; decide))) ?_
  rfl
theorem d_us (hl : t.length ≤ 10000) {k : Nat} {vs : List Int} (e : t[k]? = some 95) (ht : top ≤ 36) : dBody t top (false, (k : Int), vs) = some (.nx (true, ((k + 1 : Nat) : Int), vs)) := by
  refine bnd_of (chkP_eq (size_le (m := 10000) (by rw [ss_len]; exact hl) (by decide))) (bnd_of (sAt_k e) (bnd_of val_no.1 ?_))
  rw [if_neg (by rw [decide_eq_true_iff]; omega)]
  refine bnd_of (chkP_eq (size_le (m := 10000) (by rw [ss_len]; exact hl) (by decide))) (bnd_of (sAt_k e) ?_)
  rw [ss_us, if_pos (show (decide (("_" : Str) = ("_" : Str)) && !false) = true by decide +kernel)]
  rfl
theorem d_end (hl : t.length ≤ 10000) {k : Nat} {vs : List Int} {x : Nat} (e : t[k]? = some x) (hb : IsB x) (ht : top ≤ 36) : dBody t top (false, (k : Int), vs) = some (.bk (false, (k : Int), vs)) := by
  refine bnd_of (chkP_eq (size_le (m := 10000) (by rw [ss_len]; exact hl) (by decide))) (bnd_of (sAt_k e) (bnd_of (val_blank hb) ?_))
  rw [if_neg (by rw [decide_eq_true_iff]; omega)]
  refine bnd_of (chkP_eq (size_le (m := 10000) (by rw [ss_len]; exact hl) (by decide))) (bnd_of (sAt_k e) ?_)
  rw [decide_eq_false (ss_ne (by rcases hb with q | q | q <;> omega)), if_neg (show ¬ (false && !false) = true by decide)]
theorem whileM_b {S ρ : Type} {c : S → Option Bool} {bd : S → Option (Stp S ρ)} {n : Nat} {s s' : S} (h : c s = some true) (h2 : bd s = some (.bk s')) : whileM c bd (n + 1) s = some (.nx s') := by
  unfold whileM
  rw [h, Option.bind_some, if_pos rfl, h2]
  rfl
theorem d_loop (hl : t.length ≤ 10000) (htop : top ≤ 36) {post : List Nat} (hp : ∀ x r, post = x :: r → IsB x) : ∀ (its : List Itm) (a : List Nat) (due : Bool) (vs : List Int) (f : Nat), t = a ++ (flat its ++ post) → (∀ x ∈ its, x.2.1 < 36 ∧ ((x.2.1 : Nat) : Int) < top) → (due = true → ∃ x r, its = x :: r ∧ x.1 = false) → (flat its).length < f → vs.length + its.length ≤ 10000 →
    whileM (ρ := Unit) (dCond t) (dBody t top) f (due, ((a.length : Nat) : Int), vs) = some (.nx (false, ((a.length + (flat its).length : Nat) : Int), vs ++ figs its))
  | _, _, _, _, 0, _, _, _, h, _ => absurd h (Nat.not_lt_zero _)
  | [], a, due, vs, f + 1, e, hn, hd, h, hv => by
    have : due = false := by
      cases due with
      | false => rfl
      | true => obtain ⟨x, r, q, _⟩ := hd rfl; cases q
    subst this
    rw [show figs [] = [] from rfl, List.append_nil]
    cases hpost : post with
    | nil =>
      refine whileM_f ?_
      rw [d_cond hl, e, hpost]
      exact congrArg some (decide_eq_false (by rw [List.length_append]; show ¬ a.length < a.length + 0; omega))
    | cons x r =>
      refine whileM_b (d_cond hl |>.trans (congrArg some (decide_eq_true (by rw [e, hpost, List.length_append]; show a.length < a.length + (r.length + 1); omega)))) ?_
      rw [d_end (x := x) hl (by rw [e, hpost]; exact at_app rfl) (hp x r hpost) htop]
      rfl
  | x :: its, a, due, vs, f + 1, e, hn, hd, h, hv => by
    have hx := hn x List.mem_cons_self
    rw [flat_cons] at e h ⊢
    rw [List.length_cons] at hv
    by_cases q : x.1 = true
    · have : due = false := by
        cases due with
        | false => rfl
        | true => obtain ⟨y, r, q1, q2⟩ := hd rfl; cases q1; rw [q] at q2; cases q2
      subst this
      rw [if_pos q] at e h ⊢
      rw [List.length_append, List.length_append, List.length_singleton, List.length_singleton] at h
      obtain ⟨f, rfl⟩ : ∃ g, f = g + 1 := ⟨f - 1, by omega⟩
      have e1 : t = a ++ ([95] ++ ([cd x] ++ (flat its ++ post))) := by rw [e]; simp
      have e2 : t = (a ++ [95]) ++ ([cd x] ++ (flat its ++ post)) := by rw [e]; simp
      have e3 : t = (a ++ [95] ++ [cd x]) ++ (flat its ++ post) := by rw [e]; simp
      have l1 : a.length < t.length := by rw [e1, List.length_append]; show a.length < a.length + (_ + 1); omega
      have l2 : a.length + 1 < t.length := by rw [e2, List.length_append, List.length_append]; show a.length + 1 < a.length + 1 + (_ + 1); omega
      rw [whileM_t (d_cond hl |>.trans (congrArg some (decide_eq_true l1))) (d_us hl (by rw [e1]; exact at_app rfl) htop),
        whileM_t (d_cond hl |>.trans (congrArg some (decide_eq_true l2))) (d_fig (x := x) hl (by
          have := at_app (a := a ++ [95]) (b := [cd x] ++ (flat its ++ post)) rfl
          rw [← e2, List.length_append] at this
          exact this) hx.1 hx.2 (by omega))]
      have := d_loop hl htop hp its (a ++ [95] ++ [cd x]) false (vs ++ [((x.2.1 : Nat) : Int)]) f e3 (fun y hy => hn y (List.mem_cons_of_mem _ hy)) (fun z => nomatch z) (by omega) (by rw [List.length_append, List.length_singleton]; omega)
      rw [List.length_append, List.length_append, List.length_singleton, List.length_singleton] at this
      rw [this, List.append_assoc]
      rw [List.length_append, List.length_append, List.length_singleton, List.length_singleton]
      congr 4
      omega
    · rw [if_neg q, List.nil_append] at e h ⊢
      rw [List.length_append, List.length_singleton] at h
      have e2 : t = a ++ ([cd x] ++ (flat its ++ post)) := by rw [e]; simp
      have e3 : t = (a ++ [cd x]) ++ (flat its ++ post) := by rw [e]; simp
      have l1 : a.length < t.length := by rw [e2, List.length_append]; show a.length < a.length + (_ + 1); omega
      rw [whileM_t (d_cond hl |>.trans (congrArg some (decide_eq_true l1))) (d_fig (x := x) hl (by rw [e2]; exact at_app rfl) hx.1 hx.2 (by omega))]
      have := d_loop hl htop hp its (a ++ [cd x]) false (vs ++ [((x.2.1 : Nat) : Int)]) f e3 (fun y hy => hn y (List.mem_cons_of_mem _ hy)) (fun z => nomatch z) (by omega) (by rw [List.length_append, List.length_singleton]; omega)
      rw [List.length_append, List.length_singleton] at this
      rw [this, List.append_assoc]
      rw [List.length_append, List.length_singleton]
      congr 4
      omega
theorem dfrom_ok (hl : t.length ≤ 10000) (htop : top ≤ 36) {a post : List Nat} {its : List Itm} (e : t = a ++ (flat its ++ post)) (hp : ∀ x r, post = x :: r → IsB x) (hn : ∀ x ∈ its, x.2.1 < 36 ∧ ((x.2.1 : Nat) : Int) < top) (hd : ∃ x r, its = x :: r ∧ x.1 = false) (hi : its.length ≤ 10000) :
    M_digits_from (SS t) ((a.length : Nat) : Int) top = some (LF.mk (figs its), ((a.length + (flat its).length : Nat) : Int)) := by
  unfold M_digits_from
  rw [Option.bind_some]
  refine bnd_of (d_loop hl htop hp its a true [] _ e hn (fun _ => hd) (by rw [ss_len, e, List.length_append, List.length_append]; omega) (by show 0 + _ ≤ _; omega)) (bnd_of rfl (bnd_of (chkP_eq rfl) ?_))
  rw [List.nil_append]
end
/-! ahead of the digits -/
def pv (y : List Nat) : Int := (List.lookup (SS y) ([("x", 16), ("X", 16), ("o", 8), ("O", 8), ("b", 2), ("B", 2)] : List (Str × Int))).getD (0 : Int)
theorem pv_dig : ∀ n, n < 36 → ∀ r, r < 37 → n < r → pv [lo n] ≠ (r : Int) ∧ pv [up n] ≠ (r : Int) := by decide +kernel
theorem pv_ten : ∀ n, n < 10 → pv [lo n] = 0 ∧ pv [up n] = 0 := by decide +kernel
theorem pv_no : pv [95] = 0 ∧ pv [32] = 0 ∧ pv [9] = 0 ∧ pv [10] = 0 ∧ pv [] = 0 := by decide +kernel
theorem pv_let : pv [120] = 16 ∧ pv [88] = 16 ∧ pv [111] = 8 ∧ pv [79] = 8 ∧ pv [98] = 2 ∧ pv [66] = 2 := by decide +kernel
theorem pv_it {x : Itm} {r : Nat} (h : x.2.1 < r) (hr : r ≤ 36) : pv [cd x] ≠ (r : Int) := by
  unfold cd
  split
  · exact (pv_dig _ (by omega) r (by omega) h).2
  · exact (pv_dig _ (by omega) r (by omega) h).1
theorem pv_it10 {x : Itm} (h : x.2.1 < 10) : pv [cd x] = 0 := by
  unfold cd
  split
  · exact (pv_ten _ h).2
  · exact (pv_ten _ h).1
theorem pv_blank {x : Nat} (h : IsB x) : pv [x] = 0 := by
  obtain ⟨_, h1, h2, h3, _⟩ := pv_no
  rcases h with e | e | e <;> subst e <;> assumption
theorem cd_ge {x : Itm} (h : x.2.1 < 36) : 48 ≤ cd x ∧ cd x ≠ 95 := by
  unfold cd up lo
  split <;> split <;> omega
theorem sl_at {t a : List Nat} {c : Nat} {r : List Nat} {x y : Int} (e : t = a ++ (c :: r)) (hx : x = ((a.length : Nat) : Int)) (hy : y = ((a.length : Nat) : Int) + 1) : Txt.slice (SS t) (some x) (some y) = SS [c] := by
  rw [hx, hy, sl1 (by rw [e, List.length_append]; omega), e, List.drop_left]
  rfl
theorem sl_tk {t a b : List Nat} {x y : Int} (e : t = a ++ b) (hx : x = ((a.length : Nat) : Int)) (hy : y = ((a.length : Nat) : Int) + 1) : Txt.slice (SS t) (some x) (some y) = SS (b.take 1) := by
  rw [hx, hy, sl1 (by rw [e, List.length_append]; omega), e, List.drop_left]
theorem ss_zero : SS [48] = ("0" : Str) := by decide +kernel
theorem ss_one {c d : Nat} {z : Str} (hz : SS [d] = z) : decide (SS [c] = z) = decide (c = d) := by
  rw [decide_eq_decide, ← hz]
  exact ⟨fun e => by have := ss_inj e; cases this; rfl, fun e => by rw [e]⟩
section
variable {t : List Nat} {asked : Int}
theorem behind_N (hl : t.length ≤ 10000) {a r : List Nat} {c : Nat} (e : t = a ++ (c :: r)) (h : c = 48 → pv (r.take 1) = 0 ∨ (asked ≠ 0 ∧ asked ≠ pv (r.take 1))) : M_behind_prefix (SS t) ((a.length : Nat) : Int) asked = some (asked, ((a.length : Nat) : Int)) := by
  unfold M_behind_prefix
  refine bnd_of (chkP_eq (size_le (m := 10000) (by rw [ss_len]; exact hl) (by decide))) ?_
  rw [sl_at e rfl rfl, ss_one ss_zero]
  by_cases q : c = 48
  · rw [if_neg (by rw [decide_eq_true q]; decide)]
    refine bnd_of (chkP_eq (size_le (m := 10000) (by rw [ss_len]; exact hl) (by decide))) ?_
    rw [sl_tk (a := a ++ [c]) (b := r) (by rw [e]; simp) (by rw [List.length_append, List.length_singleton]; omega) (by rw [List.length_append, List.length_singleton]; omega), Option.bind_some]
    have h := h q
    rw [if_pos]
    show (decide (pv (r.take 1) = 0) || !inI asked [0, pv (r.take 1)]) = true
    rcases h with h | ⟨h1, h2⟩
    · rw [decide_eq_true h]; rfl
    · rw [Bool.or_eq_true]
      refine .inr ?_
      simp [inI, h1, h2, Ne.symm h1, Ne.symm h2]
  · rw [if_pos (by rw [decide_eq_false q]; rfl)]
theorem behind_P (hl : t.length ≤ 10000) {a us rest : List Nat} {L c : Nat} {r : Int} (e : t = a ++ (48 :: L :: (us ++ (c :: rest)))) (hL : pv [L] = r) (hr : r ≠ 0) (ha : asked = 0 ∨ asked = r) (hus : us = [] ∨ us = [95]) (hc : c ≠ 95) : M_behind_prefix (SS t) ((a.length : Nat) : Int) asked = some (r, ((a.length + 2 + us.length : Nat) : Int)) := by
  unfold M_behind_prefix
  refine bnd_of (chkP_eq (size_le (m := 10000) (by rw [ss_len]; exact hl) (by decide))) ?_
  rw [sl_at e rfl rfl, ss_zero, if_neg (by decide +kernel)]
  refine bnd_of (chkP_eq (size_le (m := 10000) (by rw [ss_len]; exact hl) (by decide))) ?_
  rw [sl_at (a := a ++ [48]) (c := L) (r := us ++ (c :: rest)) (by rw [e]; simp) (by rw [List.length_append, List.length_singleton]; omega) (by rw [List.length_append, List.length_singleton]; omega), Option.bind_some]
  rw [show (List.lookup (SS [L]) ([("x", 16), ("X", 16), ("o", 8), ("O", 8), ("b", 2), ("B", 2)] : List (Str × Int))).getD (0 : Int) = r from hL]
  rw [if_neg (by
    rw [decide_eq_false hr]
    rcases ha with q | q <;> rw [q] <;> simp [inI])]
  rw [Option.bind_some]
  refine bnd_of (chkP_eq (size_le (m := 10000) (by rw [ss_len]; exact hl) (by decide))) ?_
  rcases hus with q | q
  · subst q
    rw [sl_at (a := a ++ [48, L]) (c := c) (r := rest) (by rw [e]; simp) (by rw [List.length_append]; show _ = ((a.length + 2 : Nat) : Int); omega) (by rw [List.length_append]; show _ = ((a.length + 2 : Nat) : Int) + 1; omega), ss_one ss_us, if_neg (by rw [decide_eq_true_iff]; exact hc)]
    refine bnd_of rfl ?_
    rfl
  · subst q
    rw [sl_at (a := a ++ [48, L]) (c := 95) (r := c :: rest) (by rw [e]; simp) (by rw [List.length_append]; show _ = ((a.length + 2 : Nat) : Int); omega) (by rw [List.length_append]; show _ = ((a.length + 2 : Nat) : Int) + 1; omega), ss_one ss_us, if_pos (by decide)]
    refine bnd_of rfl ?_
    rfl
theorem in_sg (c : Nat) : inS (SS [c]) ([("+" : Str), ("-" : Str)] : List Str) = decide (c = 43 ∨ c = 45) := by
  unfold inS
  rw [show ("+" : Str) = SS [43] by decide +kernel, show ("-" : Str) = SS [45] by decide +kernel]
  have k : ∀ d : Nat, (SS [d] == SS [c]) = decide (c = d) := fun d => by
    by_cases q : c = d
    · subst q; rw [decide_eq_true rfl]; exact beq_self_eq_true _
    · rw [decide_eq_false q]
      exact beq_false_of_ne fun e => q (by have := ss_inj e; cases this; rfl)
  show ((SS [43] == SS [c]) || ((SS [45] == SS [c]) || false)) = _
  rw [k, k, Bool.or_false, Bool.decide_or]
theorem ss_minus : SS [45] = ("-" : Str) := by decide +kernel
theorem parts_ok (hl : t.length ≤ 10000) {e0 sg px e1 : List Nat} {its : List Itm} {r : Nat} (e : t = e0 ++ (sg ++ (px ++ (flat its ++ e1)))) (h0 : ∀ x ∈ e0, IsB x) (h1 : ∀ x ∈ e1, IsB x) (hsg : sg = [] ∨ sg = [43] ∨ sg = [45]) (r2 : 2 ≤ r) (r36 : r ≤ 36) (hn : ∀ x ∈ its, x.2.1 < r) {x : Itm} {q : List Itm} (hx : its = x :: q) (hxu : x.1 = false) (hi : its.length ≤ 10000)
    (hpx : (px = [] ∧ (asked = r ∨ asked = 0 ∧ r = 10 ∧ (x.2.1 ≠ 0 ∨ ∀ y ∈ its, y.2.1 = 0))) ∨ ∃ L us, px = 48 :: L :: us ∧ pv [L] = r ∧ (us = [] ∨ us = [95]) ∧ (asked = 0 ∨ asked = r)) :
    M_parts_of_text (SS t) asked = some (T3.mk (if sg = [45] then -1 else 1) (r : Int) (LF.mk (figs its))) := by
  have hn36 : ∀ y ∈ its, y.2.1 < 36 := fun y hy => Nat.lt_of_lt_of_le (hn y hy) r36
  have hx36 : x.2.1 < 36 := hn36 x (by rw [hx]; exact List.mem_cons_self)
  have hcd := cd_ge hx36
  have ef : flat its = cd x :: flat q := by rw [hx, flat_cons, hxu]; rfl
  -- the first sign behind the blanks and the sign
  obtain ⟨c, rr, ec, hc⟩ : ∃ c rr, px ++ (flat its ++ e1) = c :: rr ∧ 48 ≤ c := by
    rcases hpx with ⟨q1, _⟩ | ⟨L, us, q1, _⟩
    · exact ⟨cd x, flat q ++ e1, by rw [q1, ef]; rfl, hcd.1⟩
    · exact ⟨48, L :: us ++ (flat its ++ e1), by rw [q1]; rfl, Nat.le_refl _⟩
  unfold M_parts_of_text
  have B0 := blanks_ok (a := []) (bl := e0) (c := sg ++ (px ++ (flat its ++ e1))) hl e h0 (fun y z hz hb => by
    have : y = 43 ∨ y = 45 ∨ y = c := by
      rcases hsg with w | w | w <;> rw [w] at hz
      · rw [List.nil_append, ec] at hz; cases hz; exact .inr (.inr rfl)
      · cases hz; exact .inl rfl
      · cases hz; exact .inr (.inl rfl)
    rcases hb with w | w | w <;> omega)
  rw [List.length_nil, Nat.zero_add] at B0
  refine bnd_of B0 ?_
  refine bnd_of (chkP_eq (size_le (m := 10000) (by rw [ss_len]; exact hl) (by decide))) ?_
  rw [Option.bind_some]
  -- the sign
  obtain ⟨d, hd, hd2⟩ : ∃ d, Txt.slice (SS t) (some ((e0.length : Nat) : Int)) (some (((e0.length : Nat) : Int) + 1)) = SS [d] ∧ ((sg = [] ∧ 48 ≤ d) ∨ sg = [d] ∧ (d = 43 ∨ d = 45)) := by
    rcases hsg with w | w | w
    · exact ⟨c, sl_at (a := e0) (r := rr) (by rw [e, w, List.nil_append, ec]) rfl rfl, .inl ⟨w, hc⟩⟩
    · exact ⟨43, sl_at (a := e0) (r := px ++ (flat its ++ e1)) (by rw [e, w]; rfl) rfl rfl, .inr ⟨w, .inl rfl⟩⟩
    · exact ⟨45, sl_at (a := e0) (r := px ++ (flat its ++ e1)) (by rw [e, w]; rfl) rfl rfl, .inr ⟨w, .inr rfl⟩⟩
  rw [hd]
  refine bnd_of (a := (((e0 ++ sg).length : Nat) : Int)) ?_ ?_
  · rw [in_sg]
    rcases hd2 with ⟨w, w2⟩ | ⟨w, w2⟩
    · rw [if_neg (by rw [decide_eq_true_iff]; omega), w, List.append_nil]
    · rw [if_pos (decide_eq_true w2), w, List.length_append]
      rfl
  have et : t = (e0 ++ sg) ++ (px ++ (flat its ++ e1)) := by rw [e]; simp
  have fin : (if decide (SS [d] = ("-" : Str)) = true then (-(1 : Int)) else (1 : Int)) = if sg = [45] then -1 else 1 := by
    rw [ss_one ss_minus]
    rcases hd2 with ⟨w, w2⟩ | ⟨w, w2⟩
    · rw [if_neg (by rw [decide_eq_true_iff]; omega), w, if_neg (by simp)]
    · rcases w2 with z | z <;> subst z <;> rw [w] <;> rfl
  -- behind the prefix
  have go : ∀ (ak : Int) (top : Int), top ≤ 36 → (∀ y ∈ its, ((y.2.1 : Nat) : Int) < top) → M_behind_prefix (SS t) (((e0 ++ sg).length : Nat) : Int) asked = some (ak, (((e0 ++ sg ++ px).length : Nat) : Int)) →
      ((if (decide (ak = (0 : Int))) = true then (chkP (Str.length (SS t) ≤ sizeLine)).bind fun z9 => some (decide ((Txt.slice (SS t) (some (((e0 ++ sg ++ px).length : Nat) : Int)) (some ((((e0 ++ sg ++ px).length : Nat) : Int) + (1 : Int)))) = ("0" : Str))) else some false).bind fun z10 => some (if z10 = true then (1 : Int) else (if (decide (ak = (0 : Int))) = true then (10 : Int) else ak))) = some top →
      (if (decide (ak = (0 : Int))) = true then (10 : Int) else ak) = (r : Int) →
      (M_behind_prefix (SS t) (((e0 ++ sg).length : Nat) : Int) asked).bind (fun z8 => (if (decide (z8.1 = (0 : Int))) = true then (chkP (Str.length (SS t) ≤ sizeLine)).bind fun z9 => some (decide ((Txt.slice (SS t) (some z8.2) (some (z8.2 + (1 : Int)))) = ("0" : Str))) else some false).bind fun z10 => (some (if (decide (z8.1 = (0 : Int))) = true then (10 : Int) else z8.1)).bind fun y12 => (M_digits_from (SS t) z8.2 (if z10 = true then (1 : Int) else y12)).bind fun z13 => (M_behind_blanks (SS t) z13.2).bind fun z14 => (chkP (Str.length (SS t) ≤ sizeLine)).bind fun z15 => (chkP ((decide (z14 < (Str.length (SS t) : Int))) = false)).bind fun z16 => some (T3.mk (if (decide (SS [d] = ("-" : Str))) = true then (-(1 : Int)) else (1 : Int)) y12 (LF.mk z13.1.l))) = some (T3.mk (if sg = [45] then -1 else 1) (r : Int) (LF.mk (figs its))) := by
    intro ak top ht hlt hb hz hr
    refine bnd_of hb ?_
    obtain ⟨b, hb1, hb2⟩ := bnd_some hz
    have hb2 := Option.some.inj hb2
    refine bnd_of hb1 ?_
    rw [Option.bind_some, hb2]
    have D := dfrom_ok (a := e0 ++ sg ++ px) (post := e1) (its := its) hl ht (by rw [e]; simp) (fun y z hz => h1 y (by rw [hz]; exact List.mem_cons_self)) (fun y hy => ⟨hn36 y hy, hlt y hy⟩) ⟨x, q, hx, hxu⟩ hi
    refine bnd_of D ?_
    have B1 := blanks_ok (a := e0 ++ sg ++ px ++ flat its) (bl := e1) (c := []) hl (by rw [e]; simp) h1 (fun y z hz => nomatch hz)
    rw [List.length_append (as := e0 ++ sg ++ px)] at B1
    refine bnd_of B1 ?_
    refine bnd_of (chkP_eq (size_le (m := 10000) (by rw [ss_len]; exact hl) (by decide))) ?_
    refine bnd_of (chkP_eq (decide_eq_false (by rw [ss_len, e]; simp only [List.length_append]; omega))) ?_
    rw [fin]
    show some (T3.mk _ (if (decide (ak = (0 : Int))) = true then (10 : Int) else ak) _) = _
    rw [hr]
  rcases hpx with ⟨p1, p2⟩ | ⟨L, us, p1, pL, pus, pa⟩
  · -- no prefix
    have ex0 : t = (e0 ++ sg) ++ (cd x :: (flat q ++ e1)) := by rw [et, p1, ef]; rfl
    have tk : ∀ y, (flat q ++ e1).take 1 = y → y = [] ∨ y = [95] ∨ (∃ b, IsB b ∧ y = [b]) ∨ ∃ z ∈ its, y = [cd z] := by
      intro y hy
      cases q with
      | nil =>
        rw [show flat ([] : List Itm) = [] from rfl, List.nil_append] at hy
        cases he : e1 with
        | nil => rw [he] at hy; exact .inl hy.symm
        | cons b w => rw [he] at hy; exact .inr (.inr (.inl ⟨b, h1 b (by rw [he]; exact List.mem_cons_self), hy.symm⟩))
      | cons z w =>
        rw [flat_cons] at hy
        by_cases hz : z.1 = true
        · rw [if_pos hz] at hy; exact .inr (.inl hy.symm)
        · rw [if_neg hz] at hy; exact .inr (.inr (.inr ⟨z, by rw [hx]; simp, hy.symm⟩))
    have pp : e0 ++ sg ++ px = e0 ++ sg := by rw [p1, List.append_nil]
    rcases p2 with p2 | ⟨p2, p3, p4⟩
    · refine go (r : Int) (r : Int) (by omega) (fun y hy => by have := hn y hy; omega) ?_ ?_ ?_
      · rw [pp, p2]
        refine behind_N hl ex0 fun _ => ?_
        rcases tk _ rfl with w | w | ⟨b, w1, w⟩ | ⟨z, w1, w⟩ <;> rw [w]
        · exact .inl pv_no.2.2.2.2
        · exact .inl pv_no.1
        · exact .inl (pv_blank w1)
        · exact .inr ⟨by omega, (pv_it (hn z w1) r36).symm⟩
      · rw [if_neg (by rw [decide_eq_true_iff]; omega), if_neg (by rw [decide_eq_true_iff]; omega)]
        rfl
      · rw [if_neg (by rw [decide_eq_true_iff]; omega)]
    · have b0 : M_behind_prefix (SS t) (((e0 ++ sg).length : Nat) : Int) asked = some (0, (((e0 ++ sg ++ px).length : Nat) : Int)) := by
        rw [pp, p2]
        refine behind_N hl ex0 fun _ => .inl ?_
        rcases tk _ rfl with w | w | ⟨b, w1, w⟩ | ⟨z, w1, w⟩ <;> rw [w]
        · exact pv_no.2.2.2.2
        · exact pv_no.1
        · exact pv_blank w1
        · exact pv_it10 (by have := hn z w1; omega)
      have sl := sl_at (a := e0 ++ sg) (c := cd x) (r := flat q ++ e1) ex0 rfl rfl
      by_cases z0 : x.2.1 = 0
      · have az : ∀ y ∈ its, y.2.1 = 0 := p4.resolve_left fun w => w z0
        refine go 0 1 (by decide) (fun y hy => by rw [az y hy]; decide) b0 ?_ (by rw [p3]; rfl)
        rw [if_pos (by decide), pp, sl, show cd x = 48 by unfold cd up lo; rw [z0]; split <;> rfl, ss_zero]
        refine bnd_of (bnd_of (chkP_eq (size_le (m := 10000) (by rw [ss_len]; exact hl) (by decide))) rfl) ?_
        rw [if_pos (by decide +kernel)]
      · refine go 0 10 (by decide) (fun y hy => by have := hn y hy; omega) b0 ?_ (by rw [p3]; rfl)
        rw [if_pos (by decide), pp, sl, ss_one ss_zero]
        have h10 := hn x (by rw [hx]; exact List.mem_cons_self)
        refine bnd_of (bnd_of (chkP_eq (size_le (m := 10000) (by rw [ss_len]; exact hl) (by decide))) rfl) ?_
        rw [if_neg (by rw [decide_eq_true_iff]; unfold cd up lo; split <;> split <;> omega)]
        rfl
  · refine go (r : Int) (r : Int) (by omega) (fun y hy => by have := hn y hy; omega) ?_ ?_ ?_
    · have := behind_P (asked := asked) hl (a := e0 ++ sg) (us := us) (rest := flat q ++ e1) (L := L) (c := cd x) (by rw [et, p1, ef]; simp) pL (by omega) pa pus hcd.2
      have e2 : (e0 ++ sg).length + 2 + us.length = (e0 ++ sg).length + (48 :: L :: us).length := by simp only [List.length_cons]; omega
      rw [this, p1, List.length_append (as := e0 ++ sg), e2]
    · rw [if_neg (by rw [decide_eq_true_iff]; omega), if_neg (by rw [decide_eq_true_iff]; omega)]
      rfl
    · rw [if_neg (by rw [decide_eq_true_iff]; omega)]
end
/-! the number of the digits -/
def hv (r : Int) (l : List Int) : Int := l.foldl (fun s d => s * r + d) 0
theorem fold_sp (r : Int) : ∀ (b : List Int) (s : Int), b.foldl (fun s d => s * r + d) s = s * r ^ b.length + hv r b
  | [], s => by
    show s = s * r ^ 0 + 0
    rw [Int.pow_zero]
    omega
  | d :: b, s => by
    unfold hv
    rw [List.foldl_cons, List.foldl_cons, fold_sp r b (s * r + d), fold_sp r b (0 * r + d), List.length_cons, Int.pow_succ, Int.zero_mul, Int.zero_add, Int.add_mul, Int.mul_assoc s r, Int.mul_comm r, Int.add_assoc]
theorem hv_app (r : Int) (a b : List Int) : hv r (a ++ b) = hv r a * r ^ b.length + hv r b := by
  rw [← fold_sp]
  unfold hv
  rw [List.foldl_append]
theorem hv_lv (r : Int) (l : List Int) : lv r l.reverse = hv r l := by
  rw [← lv_foldr, List.foldr_reverse]
  rfl
def cs (W g : Nat) (r : Int) (l : List Int) : Nat → Nat
  | 0 => 0
  | j + 1 => cs W g r l j + sz W (hv r (l.take (j * g))).natAbs
theorem rngS_get {g n i : Nat} {x : Int} (h : (rngS (g : Int) n)[i]? = some x) : i < n ∧ x = ((i * g : Nat) : Int) := by
  have hi := (List.getElem?_eq_some_iff.mp h).1
  unfold rngS at h hi
  rw [List.length_map, List.length_range] at hi
  rw [List.getElem?_map, List.getElem?_range hi] at h
  refine ⟨hi, ?_⟩
  rw [← Option.some.inj h]
  push_cast
  omega
theorem cut_mid {l : List Int} {a g : Nat} (h : a ≤ l.length) : cut l (some ((a : Nat) : Int)) (some (((a : Nat) : Int) + (g : Int))) = (l.drop a).take g := by
  have h1 : HT.sIx l.length 0 (some ((a : Nat) : Int)) = a := by rw [HT.sIx_nat, Nat.min_eq_left h]
  have h2 : HT.sIx l.length l.length (some (((a : Nat) : Int) + (g : Int))) = min (a + g) l.length := by rw [← Int.natCast_add, HT.sIx_nat]
  unfold cut
  rw [h1, h2]
  by_cases q : a + g ≤ l.length
  · rw [Nat.min_eq_left q, show a + g - a = g from by omega]
  · rw [Nat.min_eq_right (by omega), List.take_of_length_le (by rw [List.length_drop]; omega), List.take_of_length_le (by rw [List.length_drop]; omega)]
theorem take_step {l : List Int} {j g : Nat} : l.take ((j + 1) * g) = l.take (j * g) ++ (l.drop (j * g)).take g := by
  rw [Nat.add_mul, Nat.one_mul, List.take_add]
theorem up_div {n g : Nat} (hg : 1 ≤ g) : (((n : Nat) : Int) + (g : Int) - 1) / (g : Int) = (((n + g - 1) / g : Nat) : Int) := by
  rw [show ((n : Nat) : Int) + (g : Int) - 1 = ((n + g - 1 : Nat) : Int) from by omega, Int.natCast_ediv]
theorem up_all {n g : Nat} (hg : 1 ≤ g) : n ≤ (n + g - 1) / g * g := by
  have h := Nat.div_add_mod (n + g - 1) g
  have h2 := Nat.mod_lt (n + g - 1) (show 0 < g by omega)
  rw [Nat.mul_comm] at h
  omega
theorem up_lt {n g i : Nat} (hg : 1 ≤ g) (h : i < (n + g - 1) / g) : i * g < n := by
  have h1 : (i + 1) * g ≤ n + g - 1 := Nat.le_trans (Nat.mul_le_mul_right g h) (Nat.div_mul_le_self _ _)
  rw [Nat.add_mul, Nat.one_mul] at h1
  omega
theorem cs_all {W g : Nat} {r : Int} {l : List Int} (hg : 1 ≤ g) : l.take ((l.length + g - 1) / g * g) = l := List.take_of_length_le (up_all hg)
theorem in_loop {r : Nat} (r36 : r ≤ 36) : ∀ (b : List Int) (s : Int), forM' (ρ := Unit) (fun (a9 : Int) (s8 : Int) => (chkP (IntMulOk s8 (r : Int))).bind fun z10 => (some ((s8 * (r : Int)) + a9)).bind fun y11 => some (Stp.nx y11)) b s = some (.nx (b.foldl (fun s d => s * (r : Int) + d) s))
  | [], s => rfl
  | d :: b, s => by
    rw [forM_cons (s' := s * (r : Int) + d) (bnd_of (chkP_eq (mul_r (by omega) (by omega))) rfl), in_loop r36 b]
    rfl
theorem grp_loop {r : Nat} (r36 : r ≤ 36) : ∀ (b : List Int) (s c : Int), forM' (ρ := Unit) (fun (a9 : Int) (s8 : Int × Int) => (chkP (IntMulOk s8.1 (r : Int))).bind fun z10 => (some ((s8.1 * (r : Int)) + a9)).bind fun y11 => (chkP (IntMulOk s8.2 (r : Int))).bind fun z12 => (some (s8.2 * (r : Int))).bind fun y13 => some (Stp.nx (y11, y13))) b (s, c) = some (.nx (b.foldl (fun s d => s * (r : Int) + d) s, c * (r : Int) ^ b.length))
  | [], s, c => by
    show some (Stp.nx (s, c)) = some (Stp.nx (s, c * (r : Int) ^ 0))
    rw [Int.pow_zero, Int.mul_one]
  | d :: b, s, c => by
    rw [forM_cons (s' := (s * (r : Int) + d, c * (r : Int))) (bnd_of (chkP_eq (mul_r (by omega) (by omega))) (bnd_of rfl (bnd_of (chkP_eq (mul_r (by omega) (by omega))) rfl))), grp_loop r36 b, List.foldl_cons, List.length_cons, Int.pow_succ, Int.mul_assoc, Int.mul_comm (r : Int)]
section
variable {W g r e : Nat} {l : List Int}
theorem lawin_ok (h8 : 8 ≤ W) (h30 : W ≤ 30) (r36 : r ≤ 36) (hg : M_group_in (W : Int) (r : Int) = some ((g : Int), (e : Int))) (g1 : 1 ≤ g) (g2 : g ≤ 30) (hl : l.length ≤ 10000) :
    M__law_steps_in (W : Int) (r : Int) l = some (((cs W g r l ((l.length + g - 1) / g) : Nat) : Int), hv r l) := by
  unfold M__law_steps_in
  refine bnd_of (show M__law_group (W : Int) (r : Int) = some ((g : Int), (e : Int)) from hg) ?_
  rw [Option.bind_some]
  refine bnd_of (chkP_eq ⟨by omega, by omega, by omega, by omega⟩) ?_
  dsimp only
  rw [up_div g1, Int.toNat_natCast]
  obtain ⟨s', e1, i1⟩ := forM_ind (b := fun (a5 : Int) (s4 : Int × Int) => (chkP (CDivW ((((Builtin.Int.intBits s4.2 : Nat) : Int) + (W : Int)) - (1 : Int)) (W : Int))).bind fun z6 => (some (s4.1 + (((((Builtin.Int.intBits s4.2 : Nat) : Int) + (W : Int)) - (1 : Int)) / (W : Int)))).bind fun y7 => (forM' (ρ := Unit) (fun (a9 : Int) (s8 : Int) => (chkP (IntMulOk s8 (r : Int))).bind fun z10 => (some ((s8 * (r : Int)) + a9)).bind fun y11 => some (Stp.nx y11)) (cut l (some a5) (some (a5 + (g : Int)))) s4.2).bind fun z12 => (nxt z12).bind fun s13 => some (Stp.nx (ρ := Unit) (y7, s13)))
    (fun i s => s = (((cs W g r l i : Nat) : Int), hv r (l.take (i * g)))) (rngS (g : Int) ((l.length + g - 1) / g)) 0 ((0 : Int), (0 : Int)) (fun i x s hx hi => by
      obtain ⟨q1, q2⟩ := rngS_get hx
      rw [Nat.zero_add] at hi ⊢
      subst hi q2
      refine ⟨_, ?_, rfl⟩
      refine bnd_of (chkP_eq (cdiv_s (by omega) (by omega))) ?_
      rw [Option.bind_some, intBits_abs, cut_mid (Nat.le_of_lt (up_lt g1 q1)), in_loop r36]
      refine bnd_of rfl (bnd_of rfl ?_)
      rw [show (i + 1) * g = (i + 1) * g from rfl, take_step, hv_app, ← fold_sp]
      show some (Stp.nx (_, _)) = some (Stp.nx (((cs W g r l i + sz W (hv r (l.take (i * g))).natAbs : Nat) : Int), _))
      congr 3
      rw [Int.natCast_add]
      congr 1
      unfold sz
      rw [show (((bl (hv r (l.take (i * g))).natAbs : Nat) : Int) + (W : Int)) - (1 : Int) = ((bl (hv r (l.take (i * g))).natAbs + W - 1 : Nat) : Int) from by omega, Int.natCast_ediv]) (by rw [Nat.zero_mul]; rfl)
  refine bnd_of e1 (bnd_of rfl ?_)
  rw [i1, show (rngS (g : Int) ((l.length + g - 1) / g)).length = (l.length + g - 1) / g by unfold rngS; rw [List.length_map, List.length_range], Nat.zero_add, cs_all (W := W) (r := r) g1]
theorem step_step (S : MS) (w : Str) (a b : Int) : (S.step w a).step w b = S.step w (a + b) := by
  unfold MS.step
  congr 1
  funext x
  by_cases q : x = w
  · simp only [if_pos q, Int.add_assoc]
  · simp only [if_neg q]
theorem step_0 (S : MS) (w : Str) : S.step w 0 = S := by
  obtain ⟨a, b, c, d⟩ := S
  unfold MS.step
  congr 1
  funext x
  split
  · exact Int.add_zero _
  · rfl
theorem groups_ok {S : MS} (hS : S.w = (W : Int)) (h8 : 8 ≤ W) (h30 : W ≤ 30) (r36 : r ≤ 36) (r1 : 1 ≤ r) (hg : M_group_in (W : Int) (r : Int) = some ((g : Int), (e : Int))) (g1 : 1 ≤ g) (g2 : g ≤ 30) (he : r ^ g ≤ 2 ^ 30) (hl : l.length ≤ 10000) :
    M_number_by_groups S l (r : Int) = some (hv r l, S.step "product" ((cs W g r l ((l.length + g - 1) / g) : Nat) : Int)) := by
  unfold M_number_by_groups
  rw [hS]
  refine bnd_of hg ?_
  refine bnd_of (chkP_eq ⟨by omega, by omega, by omega, by omega⟩) ?_
  dsimp only
  rw [up_div g1, Int.toNat_natCast]
  obtain ⟨s', e1, i1⟩ := forM_ind (b := fun (a4 : Int) (s3 : Int × MS) => (M_size_of s3.2.w s3.1).bind fun z5 => (chkP (("product" : Str) ∈ mwords)).bind fun z6 => (some ((0 : Int), (1 : Int))).bind fun y7 => (forM' (ρ := Unit) (fun (a9 : Int) (s8 : Int × Int) => (chkP (IntMulOk s8.1 (r : Int))).bind fun z10 => (some ((s8.1 * (r : Int)) + a9)).bind fun y11 => (chkP (IntMulOk s8.2 (r : Int))).bind fun z12 => (some (s8.2 * (r : Int))).bind fun y13 => some (Stp.nx (y11, y13))) (cut l (some a4) (some (a4 + (g : Int)))) (y7.1, y7.2)).bind fun z14 => (nxt z14).bind fun s15 => (chkP (IntMulOk s3.1 s15.2)).bind fun z16 => (some ((s3.1 * s15.2) + s15.1)).bind fun y17 => some (Stp.nx (ρ := Unit) (y17, (s3.2.step ("product" : Str) z5))))
    (fun i s => s = (hv r (l.take (i * g)), S.step "product" ((cs W g r l i : Nat) : Int))) (rngS (g : Int) ((l.length + g - 1) / g)) 0 ((0 : Int), S) (fun i x s hx hi => by
      obtain ⟨q1, q2⟩ := rngS_get hx
      rw [Nat.zero_add] at hi ⊢
      subst hi q2
      refine ⟨_, ?_, rfl⟩
      refine bnd_of (show M_size_of (S.step "product" ((cs W g r l i : Nat) : Int)).w _ = _ from by rw [show (S.step "product" ((cs W g r l i : Nat) : Int)).w = (W : Int) from hS]; exact size_ok h8 h30 _) ?_
      refine bnd_of (chkP_eq (by decide +kernel)) ?_
      rw [Option.bind_some, cut_mid (Nat.le_of_lt (up_lt g1 q1)), grp_loop r36]
      refine bnd_of rfl (bnd_of rfl ?_)
      have lt : ((l.drop (i * g)).take g).length ≤ g := List.length_take_le _ _
      have pw : r ^ ((l.drop (i * g)).take g).length ≤ 2 ^ 30 := Nat.le_trans (Nat.pow_le_pow_right r1 lt) he
      have pe : (1 : Int) * (r : Int) ^ ((l.drop (i * g)).take g).length = ((r ^ ((l.drop (i * g)).take g).length : Nat) : Int) := by rw [Int.one_mul]; push_cast; rfl
      dsimp only
      refine bnd_of (chkP_eq (by rw [pe]; exact mul_r (by omega) (by omega))) ?_
      rw [Option.bind_some, Int.one_mul, take_step, hv_app, step_step]
      rfl) (by rw [Nat.zero_mul]; exact congrArg (Prod.mk (0 : Int)) (step_0 S _).symm)
  refine bnd_of e1 (bnd_of rfl ?_)
  rw [i1, show (rngS (g : Int) ((l.length + g - 1) / g)).length = (l.length + g - 1) / g by unfold rngS; rw [List.length_map, List.length_range], Nat.zero_add, cs_all (W := W) (r := r) g1]
end
/-! a text is read -/
def isP (r : Nat) : Option Nat := if r = 2 then some 1 else if r = 4 then some 2 else if r = 8 then some 3 else if r = 16 then some 4 else if r = 32 then some 5 else none
theorem lk : ∀ r : Nat, r < 37 → List.lookup (r : Int) ([(2, 1), (4, 2), (8, 3), (16, 4), (32, 5)] : List (Int × Int)) = Option.map (fun k : Nat => (k : Int)) (isP r) := by decide +kernel
theorem inP : ∀ r : Nat, r < 37 → inI (r : Int) ([(2 : Int), (4 : Int), (8 : Int), (16 : Int), (32 : Int)] : List Int) = (isP r).isSome := by decide +kernel
theorem isP_pow {r k : Nat} (h : isP r = some k) : r = 2 ^ k ∧ 1 ≤ k ∧ k ≤ 5 := by
  unfold isP at h
  split at h
  · cases h; subst_vars; decide
  split at h
  · cases h; subst_vars; decide
  split at h
  · cases h; subst_vars; decide
  split at h
  · cases h; subst_vars; decide
  split at h
  · cases h; subst_vars; decide
  · cases h
/-- the word that is counted, how often -/
def duW (r : Nat) : Str := if (isP r).isSome = true then ("shifted" : Str) else ("product" : Str)
def duN (W g : Nat) (l : List Int) (r : Nat) : Nat := match isP r with
  | some k => (l.length * k + W - 1) / W
  | none => cs W g r l ((l.length + g - 1) / g)
def rdS (W g : Nat) (S : MS) (l : List Int) (r : Nat) : MS := (S.enter "read" (l.length : Int) (r : Int)).step (duW r) ((duN W g l r : Nat) : Int)
def IsMost (m : Int) : Prop := m = 0 ∨ m = 4300
section
variable {W g r e : Nat} {l : List Int} {S : MS}
theorem nread_ok (hS : S.w = (W : Int)) (h8 : 8 ≤ W) (h30 : W ≤ 30) (r36 : r ≤ 36) (r1 : 1 ≤ r) (hg : M_group_in (W : Int) (r : Int) = some ((g : Int), (e : Int))) (g1 : 1 ≤ g) (g2 : g ≤ 30) (he : r ^ g ≤ 2 ^ 30) (hl : l.length ≤ 4300) (hd : ∀ x ∈ l, 0 ≤ x ∧ x < (r : Int)) :
    M_number_read S l (r : Int) = some (hv r l, rdS W g S l r) := by
  unfold M_number_read rdS duW duN
  rw [lk r (by omega)]
  cases q : isP r with
  | none =>
    rw [if_pos (by rfl)]
    refine bnd_of (groups_ok (S := S.enter "read" (l.length : Int) (r : Int)) hS h8 h30 r36 r1 hg g1 g2 he (by omega)) ?_
    rfl
  | some k =>
    obtain ⟨p1, p2, p3⟩ := isP_pow q
    have hw : (S.enter "read" (l.length : Int) (r : Int)).w = (W : Int) := hS
    rw [if_neg (by intro z; cases z)]
    refine bnd_of (a := (k : Int)) rfl ?_
    refine bnd_of (chkP_eq (mul_small (by omega))) ?_
    rw [hw]
    refine bnd_of (chkP_eq (cdiv_s (by omega) (by omega))) ?_
    refine bnd_of (chkP_eq (by decide +kernel)) ?_
    have pe : (r : Int) = 2 ^ k := by rw [p1]; push_cast; rfl
    refine bnd_of (num_okG (W := k) p2 (by omega) 19 l.reverse (fun x hx => by have := hd x (List.mem_reverse.mp hx); rw [← pe]; exact this) (by rw [List.length_reverse]; omega) (by rw [List.length_reverse]; omega)) ?_
    rw [← pe, hv_lv]
    have en : ((((l.length : Int) * (k : Int)) + (W : Int)) - (1 : Int)) / (W : Int) = (((l.length * k + W - 1) / W : Nat) : Int) := by
      rw [← Int.natCast_mul, show (((l.length * k : Nat) : Int) + (W : Int)) - 1 = ((l.length * k + W - 1 : Nat) : Int) from by omega, Int.natCast_ediv]
    rw [en]
    rfl
theorem read_ok (hS : S.w = (W : Int)) (h8 : 8 ≤ W) (h30 : W ≤ 30) (r2 : 2 ≤ r) (r36 : r ≤ 36) (hg : M_group_in (W : Int) (r : Int) = some ((g : Int), (e : Int))) (g1 : 1 ≤ g) (g2 : g ≤ 30) (he : r ^ g ≤ 2 ^ 30) (hl : l.length ≤ 4300) (hd : ∀ x ∈ l, 0 ≤ x ∧ x < (r : Int))
    {s : Str} {asked sd m : Int} {K : Nat} (hp : M_parts_of_text s asked = some (T3.mk sd (r : Int) (LF.mk l))) (hsd : sd = 1 ∨ sd = -1) (ha : asked = 0 ∨ asked = r) (hm : IsMost m) (hK : K ≤ 4000) (hN : (sd * hv r l).natAbs < 2 ^ K) :
    M_read_text S s asked m = some (bg W (sd * hv r l), rdS W g S l r) := by
  unfold M_read_text
  refine bnd_of (a := ()) (bnd_of (chkP_eq rfl) rfl) (bnd_of (chkP_eq rfl) (bnd_of (a := true) rfl (bnd_of (chkP_eq rfl) ?_)))
  refine bnd_of (a := false) ?_ (bnd_of (chkP_eq rfl) ?_)
  · rcases ha with q | q <;> rw [q]
    · rfl
    · rw [if_pos (by rw [decide_eq_false (by omega)]; rfl)]
      refine bnd_of (a := true) ?_ rfl
      unfold M_is_between
      refine bnd_of (a := true) rfl ?_
      rw [decide_eq_true (show (2 : Int) ≤ (r : Int) by omega), decide_eq_true (show (r : Int) ≤ 36 by omega)]
      rfl
  refine bnd_of (a := ()) ?_ (bnd_of hp ?_)
  · unfold M_check_most
    refine bnd_of (a := true) rfl (bnd_of (chkP_eq rfl) (bnd_of (chkP_eq ?_) rfl))
    rcases hm with q | q <;> subst q <;> rfl
  refine bnd_of (chkP_eq ?_) ?_
  · rw [Bool.and_eq_false_iff]
    refine .inr ?_
    rcases hm with q | q
    · subst q; rfl
    · subst q
      rw [decide_eq_false (show ¬ (4300 : Int) < ((l.length : Nat) : Int) by omega), Bool.and_false]
  refine bnd_of (nread_ok hS h8 h30 r36 (by omega) hg g1 g2 he hl hd) ?_
  refine bnd_of (chkP_eq (mul_l (by show -(2 ^ 64) < sd; omega) (by show sd < 2 ^ 64; omega))) ?_
  exact bnd_of (bigof_ok hS h8 h30 ((sz_le (by omega)).mpr (Nat.lt_of_lt_of_le hN (Nat.pow_le_pow_right (by decide) (by omega))))) rfl
/-! what is counted -/
theorem nz_shifted {w c m n k : Int} {y : Str} : nz (((MS.fresh w c).enter y m n).step "shifted" k).tally = one_ "shifted" k := by
  have e : (((MS.fresh w c).enter y m n).step "shifted" k).tally = ([("short", 0), ("sum", 0), ("product", 0), ("quotient", 0), ("corrected", 0), ("restored", 0), ("shifted", 0 + k), ("combined", 0), ("complemented", 0), ("looked", 0)] : List (Str × Int)) := rfl
  rw [e]
  unfold nz one_
  rw [Int.zero_add]
  by_cases q : k = 0
  · subst q; rfl
  · rw [if_neg q]
    simp [q]
theorem rd_cnt {c : Int} : nz (rdS W g (MS.fresh (W : Int) c) l r).tally = one_ (duW r) ((duN W g l r : Nat) : Int) ∧ (rdS W g (MS.fresh (W : Int) c) l r).wk = [T3.mk ("read" : Str) (l.length : Int) (r : Int)] ∧ (rdS W g (MS.fresh (W : Int) c) l r).reset = MS.fresh (W : Int) c := by
  refine ⟨?_, rfl, rfl⟩
  unfold rdS duW
  split
  · exact nz_shifted
  · exact nz_product
theorem due_ok (h8 : 8 ≤ W) (h30 : W ≤ 30) (r36 : r ≤ 36) (hg : M_group_in (W : Int) (r : Int) = some ((g : Int), (e : Int))) (g1 : 1 ≤ g) (g2 : g ≤ 30) (hl : l.length ≤ 4300) :
    (if (inI (r : Int) ([(2 : Int), (4 : Int), (8 : Int), (16 : Int), (32 : Int)] : List Int)) = true then (List.lookup (r : Int) ([(2, 1), (4, 2), (8, 3), (16, 4), (32, 5)] : List (Int × Int))).bind fun z33 => (chkP (IntMulOk (l.length : Int) z33)).bind fun z34 => (chkP (CDivW ((((l.length : Int) * z33) + (W : Int)) - (1 : Int)) (W : Int))).bind fun z35 => (some ("shifted" : Str)).bind fun y36 => (some (((((l.length : Int) * z33) + (W : Int)) - (1 : Int)) / (W : Int))).bind fun y37 => some (y36, y37) else (M__law_steps_in (W : Int) (r : Int) l).bind fun z39 => (some ("product" : Str)).bind fun y40 => some (y40, z39.1)) = some (duW r, ((duN W g l r : Nat) : Int)) := by
  unfold duW duN
  rw [inP r (by omega), lk r (by omega)]
  cases q : isP r with
  | none =>
    rw [if_neg (by intro z; cases z)]
    refine bnd_of (lawin_ok h8 h30 r36 hg g1 g2 (by omega)) rfl
  | some k =>
    obtain ⟨p1, p2, p3⟩ := isP_pow q
    rw [if_pos (show (some k).isSome = true from rfl)]
    refine bnd_of (a := (k : Int)) rfl ?_
    refine bnd_of (chkP_eq (mul_small (by omega))) ?_
    refine bnd_of (chkP_eq (cdiv_s (by omega) (by omega))) ?_
    rw [Option.bind_some, Option.bind_some]
    have en : ((((l.length : Int) * (k : Int)) + (W : Int)) - (1 : Int)) / (W : Int) = (((l.length * k + W - 1) / W : Nat) : Int) := by
      rw [← Int.natCast_mul, show (((l.length * k : Nat) : Int) + (W : Int)) - 1 = ((l.length * k + W - 1 : Nat) : Int) from by omega, Int.natCast_ediv]
    rw [en]
    rfl
theorem dueD {w : Str} {k : Nat} : (if (decide ((0 : Int) < ((k : Nat) : Int))) = true then (chkP ((([(w, ((k : Nat) : Int))] : List (Str × Int)).map (·.1)).Nodup)).bind fun z43 => some (DF.mk [(w, ((k : Nat) : Int))]) else some (DF.mk [])) = some (DF.mk (one_ w ((k : Nat) : Int))) := by
  unfold one_
  by_cases q : k = 0
  · subst q; rfl
  · rw [if_pos (by rw [decide_eq_true_iff]; omega), if_neg (by omega)]
    exact bnd_of (chkP_eq (by simp)) rfl
end
/-! what is drawn -/
theorem hv_zero (r : Int) (l : List Int) : hv r (0 :: l) = hv r l := by
  unfold hv
  rw [List.foldl_cons, Int.zero_mul, Int.add_zero]
theorem hv_zeros (r : Int) (l : List Int) : ∀ k, hv r (List.replicate k 0 ++ l) = hv r l
  | 0 => rfl
  | k + 1 => by
    rw [List.replicate_succ, List.cons_append, hv_zero]
    exact hv_zeros r l k
theorem fig_loop {r : Nat} (r2 : 2 ≤ r) (r36 : r ≤ 36) : ∀ (K f n : Nat) (acc : List Int), n < f → n < 2 ^ K → acc.length + K ≤ 10000 → ∃ ds : List Nat, (∀ d ∈ ds, d < r) ∧ ds.length ≤ K ∧ hv r (ds.map (fun d : Nat => (d : Int))).reverse = (n : Int) ∧ (n = 0 → ds = []) ∧
    whileM (ρ := Unit) (fun (s4 : Int × (List Int)) => some (decide ((0 : Int) < s4.1))) (fun (s4 : Int × (List Int)) => (chkP (0 < (r : Int))).bind fun z5 => (chkP (s4.2.length < sizeLine)).bind fun z6 => (chkP (CDivW s4.1 (r : Int))).bind fun z7 => (some (s4.1 / (r : Int))).bind fun y8 => some (Stp.nx (y8, (s4.2 ++ [(s4.1 % (r : Int))])))) f ((n : Int), acc) = some (.nx (0, acc ++ ds.map (fun d : Nat => (d : Int))))
  | K, 0, n, acc, h, _, _ => absurd h (Nat.not_lt_zero _)
  | 0, f + 1, n, acc, h, hn, hl => by
    have : n = 0 := by rw [Nat.pow_zero] at hn; omega
    subst this
    exact ⟨[], (fun d h => nomatch h), Nat.le_refl _, rfl, fun _ => rfl, by rw [List.map_nil, List.append_nil]; exact whileM_f rfl⟩
  | K + 1, f + 1, n, acc, h, hn, hl => by
    by_cases z : n = 0
    · subst z
      exact ⟨[], (fun d h => nomatch h), Nat.zero_le _, rfl, fun _ => rfl, by rw [List.map_nil, List.append_nil]; exact whileM_f rfl⟩
    · have lt : n / r < n := Nat.div_lt_self (by omega) (by omega)
      have hm : n % r < r := Nat.mod_lt n (by omega)
      have l2 : n / r < 2 ^ K := by
        have : n / r ≤ n / 2 := Nat.div_le_div_left r2 (by decide)
        rw [Nat.pow_succ] at hn
        omega
      obtain ⟨ds, q1, q2, q3, q4, q5⟩ := fig_loop r2 r36 K f (n / r) (acc ++ [((n % r : Nat) : Int)]) (by omega) l2 (by rw [List.length_append, List.length_singleton]; omega)
      refine ⟨(n % r) :: ds, fun d hd => by rcases List.mem_cons.mp hd with e | e; exact e ▸ hm; exact q1 d e, by rw [List.length_cons]; omega, ?_, fun w => absurd w z, ?_⟩
      · rw [List.map_cons, List.reverse_cons, hv_app, q3, List.length_singleton, Int.pow_succ, Int.pow_zero, Int.one_mul]
        show ((n / r : Nat) : Int) * (r : Int) + (0 * (r : Int) + ((n % r : Nat) : Int)) = (n : Int)
        rw [Int.zero_mul, Int.zero_add, ← Int.natCast_mul, ← Int.natCast_add, Nat.mul_comm, Nat.div_add_mod]
      · rw [whileM_t (s' := (((n / r : Nat) : Int), acc ++ [((n % r : Nat) : Int)])) (congrArg some (decide_eq_true (by show (0 : Int) < (n : Int); omega))) (by
          refine bnd_of (chkP_eq (by omega)) (bnd_of (chkP_eq (Nat.lt_of_le_of_lt (show acc.length ≤ 10000 by omega) (by unfold sizeLine; decide))) (bnd_of (chkP_eq (cdiv_s (by omega) (by omega))) ?_))
          rw [Option.bind_some, Int.natCast_ediv, Int.natCast_emod]), q5, List.append_assoc]
        rfl
theorem figures_s {r K n k : Nat} {s : List Int} (hs : Pur k s) (hk : k < 900000) (r2 : 2 ≤ r) (r36 : r ≤ 36) (hn : n < 2 ^ K) (hK : K ≤ 4000) : Sat (M__law_figures s (n : Int) (r : Int)) (fun p => Pur (k + 1) p.2 ∧ ∃ l : List Nat, p.1 = l.map (fun d : Nat => (d : Int)) ∧ (∀ d ∈ l, d < r) ∧ l.length ≤ K + 40 ∧ hv r p.1 = (n : Int) ∧ (n = 0 → ∀ d ∈ l, d = 0)) := by
  unfold M__law_figures
  refine sat_let ?_
  obtain ⟨ds, q1, q2, q3, q4, q5⟩ := fig_loop r2 r36 K (((n : Int)).natAbs + 1) n [] (by rw [Int.natAbs_natCast]; omega) hn (by show 0 + K ≤ _; omega)
  refine sat_eq q5 (sat_nx ?_)
  rw [List.nil_append]
  refine sat_chk ⟨fun x _ => trivial, fun x h => nomatch h⟩ ?_
  refine sat_bind (pick_s hs (by omega) (List.cons_ne_nil _ _) (by show 6 < 100; decide)) fun r1 ⟨g1, m1⟩ => ?_
  have m1' : 0 ≤ r1.1 ∧ r1.1 ≤ 40 := by
    simp only [List.mem_cons, List.not_mem_nil, or_false] at m1
    rcases m1 with q | q | q | q | q | q
    · omega
    · omega
    · rw [q]; split <;> decide
    · omega
    · omega
    · omega
  obtain ⟨z, ez⟩ := Int.eq_ofNat_of_zero_le m1'.1
  rw [ez, Int.toNat_natCast]
  have fl : ((List.replicate z ([(0 : Int)] : List Int)).flatten) = List.replicate z 0 := by simp
  refine sat_chk ⟨by omega, size_le (m := 40) (by show 1 * z ≤ 40; omega) (by decide)⟩ ?_
  rw [fl]
  refine sat_chk (size_le (m := 5000) (by rw [List.length_replicate, List.length_reverse, List.length_map]; omega) (by decide)) ?_
  refine sat_some ⟨g1, List.replicate z 0 ++ ds.reverse, ?_, ?_, ?_, ?_, ?_⟩
  · rw [List.map_append, List.map_replicate, List.map_reverse]; rfl
  · intro d hd
    rcases List.mem_append.mp hd with w | w
    · rw [(List.mem_replicate.mp w).2]; omega
    · exact q1 d (List.mem_reverse.mp w)
  · rw [List.length_append, List.length_replicate, List.length_reverse]; omega
  · show hv r (List.replicate z 0 ++ _) = _
    rw [hv_zeros, q3]
  · intro w d hd
    rw [q4 w, List.reverse_nil, List.append_nil] at hd
    exact (List.mem_replicate.mp hd).2
theorem pickS_s {k : Nat} {s : List Int} {l : List Str} (hs : Pur k s) (hk : k < 1000000) (h : l ≠ []) (h2 : l.length < 100) : Sat (M__law_pick__o1 s l) (fun r => Pur (k + 1) r.2 ∧ r.1 ∈ l) := by
  have hp : 0 < l.length := List.length_pos_iff.mpr h
  unfold M__law_pick__o1
  refine sat_bind (coin_s hs hk (m := (l.length : Int)) (by omega) (by omega)) fun r ⟨h1, a, b⟩ => ?_
  exact sat_atI a b fun x hx => sat_some ⟨h1, hx⟩
theorem sign_lo : ∀ d : Nat, d < 36 → sAt ("0123456789abcdefghijklmnopqrstuvwxyz" : Str) (d : Int) = some (SS [lo d]) ∧ Txt.upper (SS [lo d]) = SS [up d] := by decide +kernel
theorem flat_len : ∀ l : List Itm, (flat l).length ≤ 2 * l.length
  | [] => Nat.le_refl _
  | x :: r => by
    have := flat_len r
    rw [flat_cons]
    split <;> simp only [List.length_append, List.length_cons, List.length_nil] <;> omega
theorem flat_snoc (l : List Itm) (x : Itm) : flat (l ++ [x]) = flat l ++ ((if x.1 = true then [95] else []) ++ [cd x]) := by
  unfold flat
  rw [List.flatMap_append, List.flatMap_cons, List.flatMap_nil, List.append_nil]
theorem ss_nil : ("" : Str) = SS [] := by decide +kernel
theorem end_mem : ∀ z ∈ ([("" : Str), ("" : Str), (" " : Str), ("  " : Str), ("\n" : Str), ("\t " : Str)] : List Str), ∃ e : List Nat, z = SS e ∧ e.length ≤ 2 ∧ ∀ x ∈ e, IsB x := by
  intro z hz
  simp only [List.mem_cons, List.not_mem_nil, or_false] at hz
  rcases hz with q | q | q | q | q | q
  · exact ⟨[], q.trans ss_nil, by decide, fun x h => nomatch h⟩
  · exact ⟨[], q.trans ss_nil, by decide, fun x h => nomatch h⟩
  · exact ⟨[32], q.trans (by decide +kernel), by decide, by decide⟩
  · exact ⟨[32, 32], q.trans (by decide +kernel), by decide, by decide⟩
  · exact ⟨[10], q.trans (by decide +kernel), by decide, by decide⟩
  · exact ⟨[9, 32], q.trans (by decide +kernel), by decide, by decide⟩
/-- a text of these digits -/
def TxtOf (side : Int) (l : List Nat) (r : Nat) (pf : Bool) (s : Str) : Prop := ∃ (e0 sg px e1 : List Nat) (its : List Itm) (x : Itm) (q : List Itm), s = SS (e0 ++ (sg ++ (px ++ (flat its ++ e1)))) ∧ (∀ y ∈ e0, IsB y) ∧ (∀ y ∈ e1, IsB y) ∧ (sg = [] ∨ sg = [43] ∨ sg = [45]) ∧ (if sg = [45] then (-1 : Int) else 1) = side ∧ its.map (fun y => y.2.1) = l ∧ its = x :: q ∧ x.1 = false ∧
  (pf = false → px = []) ∧ (pf = true → ∃ L us, px = 48 :: L :: us ∧ pv [L] = r ∧ (us = [] ∨ us = [95])) ∧ e0.length ≤ 2 ∧ e1.length ≤ 2 ∧ px.length ≤ 3
section
variable {k r : Nat} {s : List Int} {side : Int} {l : List Nat} {pf : Bool}
theorem wloop_s (hs : Pur k s) (hk : k + 1000 < 900000) (hl : l.length ≤ 410) (hd : ∀ d ∈ l, d < 36) {β : Type} {Q : β → Prop} {g : Stp (Str × List Int) Unit → Option β}
    (go : ∀ (its : List Itm) (t : List Int), its.map (fun y => y.2.1) = l → (∀ x q, its = x :: q → x.1 = false) → Pur (k + 820) t → Sat (g (.nx (SS (flat its), t))) Q) :
    Sat ((forM' (ρ := Unit) (fun (a3 : (Int × Int)) (s2 : Str × (List Int)) => (chkP (Str.length ("0123456789abcdefghijklmnopqrstuvwxyz" : Str) ≤ sizeLine)).bind fun z4 => (sAt ("0123456789abcdefghijklmnopqrstuvwxyz" : Str) a3.2).bind fun z5 => (M__law_coin s2.2 (3 : Int)).bind fun z6 => (if (decide (z6.1 = (0 : Int))) = true then (chkP (Str.length z5 ≤ 5592405)).bind fun z7 => some (Txt.upper z5) else some z5).bind fun z8 => (if (decide ((0 : Int) < a3.1)) = true then (M__law_coin z6.2 (5 : Int)).bind fun z10 => some ((decide (z10.1 = (0 : Int))), z10.2) else some (false, z6.2)).bind fun z11 => (chkP (Str.length s2.1 + Str.length (if z11.1 = true then ("_" : Str) else ("" : Str)) ≤ sizeLine)).bind fun z13 => (chkP (Str.length (s2.1 ++ (if z11.1 = true then ("_" : Str) else ("" : Str))) + Str.length z8 ≤ sizeLine)).bind fun z14 => (some ((s2.1 ++ (if z11.1 = true then ("_" : Str) else ("" : Str))) ++ z8)).bind fun y15 => some (Stp.nx (y15, z11.2))) (nums (l.map (fun d : Nat => (d : Int)))) (("" : Str), s)).bind g) Q := by
  refine sat_for (fun i (st : Str × List Int) => ∃ its : List Itm, its.map (fun y => y.2.1) = l.take i ∧ st.1 = SS (flat its) ∧ (∀ x q, its = x :: q → x.1 = false) ∧ Pur (k + 2 * i) st.2) (fun i x st hx ⟨its, q1, q2, q3, q4⟩ => ?_) ⟨[], by rw [List.take_zero]; rfl, ss_nil, (fun x q h => nomatch h), hs⟩ fun st ⟨its, q1, q2, q3, q4⟩ => ?_
  · have hi : i < l.length := by
      have := (List.getElem?_eq_some_iff.mp hx).1
      rwa [nums_len, List.length_map] at this
    obtain ⟨d, ed⟩ : ∃ d, l[i]? = some d := ⟨l[i], List.getElem?_eq_getElem hi⟩
    have ex : x = ((i : Int), (d : Int)) := by
      have := nums_get (l := l.map (fun d : Nat => (d : Int))) (i := i) (x := (d : Int)) (by rw [List.getElem?_map, ed]; rfl)
      rw [this] at hx
      exact (Option.some.inj hx).symm
    subst ex
    have d36 := hd d (List.mem_of_getElem? ed)
    obtain ⟨w1, w2⟩ := sign_lo d d36
    have il : its.length = i := by
      have := congrArg List.length q1
      rw [List.length_map, List.length_take] at this
      omega
    have fl := flat_len its
    refine sat_chk (by decide +kernel) (sat_eq w1 ?_)
    refine sat_bind (coin_s q4 (by omega) (by decide) (by decide)) fun r1 ⟨g1, _, _⟩ => ?_
    refine sat_bind (P := fun z => ∃ u : Bool, z = SS [if u = true then up d else lo d]) ?_ fun z8 ⟨u, hu⟩ => ?_
    · refine sat_ite (fun _ => sat_chk (by rw [ss_len]; show 1 ≤ 5592405; decide) (sat_some ⟨true, w2⟩)) fun _ => sat_some ⟨false, rfl⟩
    refine sat_bind (P := fun z => Pur (k + 2 * (i + 1)) z.2 ∧ (z.1 = true → 0 < i)) ?_ fun z11 ⟨g2, h2⟩ => ?_
    · refine sat_ite (fun c => ?_) fun _ => sat_some ⟨g1.mono (by omega), fun h => nomatch h⟩
      refine sat_bind (coin_s g1 (by omega) (by decide) (by decide)) fun r2 ⟨g2, _, _⟩ => sat_some ⟨g2.mono (by omega), fun _ => ?_⟩
      have := of_decide_eq_true c
      have : (0 : Int) < (i : Int) := this
      omega
    have eu : (if z11.1 = true then ("_" : Str) else ("" : Str)) = SS (if z11.1 = true then [95] else []) := by
      split
      · exact ss_us.symm
      · exact ss_nil
    rw [eu, hu, q2, ss_app, ss_app]
    have l1 : ((if z11.1 = true then [95] else [] : List Nat)).length ≤ 1 := by split <;> decide
    refine sat_chk (size_le (m := 2000) (by rw [ss_len, ss_len]; omega) (by decide)) ?_
    refine sat_chk (size_le (m := 2000) (by rw [ss_len, ss_len, List.length_append, List.length_singleton]; omega) (by decide)) (sat_let ?_)
    refine sat_end ⟨its ++ [(z11.1, d, u)], ?_, ?_, ?_, g2⟩
    · rw [List.map_append, q1, List.take_succ, ed]
      rfl
    · rw [flat_snoc, List.append_assoc]
      rfl
    · intro y q hy
      cases its with
      | nil =>
        rw [List.nil_append] at hy
        cases hy
        cases hz : z11.1 with
        | false => rfl
        | true =>
          have := h2 hz
          rw [List.length_nil] at il
          omega
      | cons y' q' =>
        cases hy
        exact q3 y q' rfl
  · obtain ⟨a, b⟩ := st
    have q2 : a = SS (flat its) := q2
    subst q2
    rw [nums_len, List.length_map] at q1 q4
    refine go its b (by rw [q1, List.take_length]) q3 (Pur.mono q4 (by omega))
end
section
variable {k r : Nat} {s : List Int} {side : Int} {l : List Nat} {pf : Bool}
theorem written_s (hs : Pur k s) (hk : k + 1000 < 900000) (hl : l.length ≤ 410) (hl0 : l ≠ []) (hd : ∀ d ∈ l, d < 36) (hsd : side = 1 ∨ side = -1) (hpf : pf = true → r = 2 ∨ r = 8 ∨ r = 16) : Sat (M__law_written s side (l.map (fun d : Nat => (d : Int))) (r : Int) pf) (fun p => Pur (k + 900) p.2 ∧ TxtOf side l r pf p.1) := by
  unfold M__law_written
  refine sat_let (wloop_s hs hk hl hd fun its t q1 q3 g0 => sat_nx ?_)
  have il : its.length = l.length := by rw [← q1, List.length_map]
  obtain ⟨x, q, hx⟩ : ∃ x q, its = x :: q := by
    cases its with
    | nil => exact absurd (by rw [← q1]; rfl) hl0
    | cons x q => exact ⟨x, q, rfl⟩
  have fl := flat_len its
  dsimp only
  refine sat_bind (P := fun z => Pur (k + 823) z.2 ∧ ∃ px, z.1 = SS (px ++ flat its) ∧ px.length ≤ 3 ∧ (pf = false → px = []) ∧ (pf = true → ∃ L us, px = 48 :: L :: us ∧ pv [L] = r ∧ (us = [] ∨ us = [95]))) ?_ fun z30 ⟨g1, px, p1, p2, p3, p4⟩ => ?_
  · refine sat_ite (fun c => ?_) fun c => sat_some ⟨g0.mono (by omega), [], rfl, by decide, fun _ => rfl, fun h => by rw [h] at c; cases c⟩
    obtain ⟨L1, L2, a1, a2, a3, a4⟩ : ∃ L1 L2, List.lookup (r : Int) ([(2, "b"), (8, "o"), (16, "x")] : List (Int × Str)) = some (SS [L1]) ∧ Txt.upper (SS [L1]) = SS [L2] ∧ pv [L1] = r ∧ pv [L2] = r := by
      rcases hpf c with w | w | w <;> subst w
      · exact ⟨98, 66, by decide +kernel, by decide +kernel, pv_let.2.2.2.2.1, pv_let.2.2.2.2.2⟩
      · exact ⟨111, 79, by decide +kernel, by decide +kernel, pv_let.2.2.1, pv_let.2.2.2.1⟩
      · exact ⟨120, 88, by decide +kernel, by decide +kernel, pv_let.1, pv_let.2.1⟩
    refine sat_eq a1 ?_
    refine sat_bind (coin_s g0 (by omega) (by decide) (by decide)) fun r1 ⟨g1, _, _⟩ => ?_
    refine sat_bind (P := fun z => ∃ L, z = SS [L] ∧ pv [L] = r) ?_ fun z21 ⟨L, b1, b2⟩ => ?_
    · exact sat_ite (fun _ => sat_chk (by rw [ss_len]; show 1 ≤ 5592405; decide) (sat_some ⟨L2, a2, a4⟩)) fun _ => sat_some ⟨L1, rfl, a3⟩
    rw [b1, ← ss_zero, ss_app]
    refine sat_chk (size_le (m := 2) (by rw [ss_len, ss_len]; show 1 + 1 ≤ 2; decide) (by decide)) ?_
    refine sat_bind (pickS_s g1 (by omega) (List.cons_ne_nil _ _) (by show 3 < 100; decide)) fun r2 ⟨g2, m2⟩ => ?_
    obtain ⟨us, c1, c2, c3⟩ : ∃ us, r2.1 = SS us ∧ (us = [] ∨ us = [95]) ∧ us.length ≤ 1 := by
      simp only [List.mem_cons, List.not_mem_nil, or_false] at m2
      rcases m2 with w | w | w
      · exact ⟨[], w.trans ss_nil, .inl rfl, by decide⟩
      · exact ⟨[], w.trans ss_nil, .inl rfl, by decide⟩
      · exact ⟨[95], w.trans ss_us.symm, .inr rfl, by decide⟩
    rw [c1, ss_app, ss_app]
    refine sat_chk (size_le (m := 10) (by rw [ss_len, ss_len]; show 2 + us.length ≤ 10; omega) (by decide)) ?_
    refine sat_chk (size_le (m := 2000) (by rw [ss_len, ss_len, List.length_append]; show 2 + us.length + (flat its).length ≤ 2000; omega) (by decide)) (sat_let ?_)
    refine sat_some ⟨g2.mono (by omega), 48 :: L :: us, ?_, by simp only [List.length_cons]; omega, (fun h => by rw [c] at h; cases h), fun _ => ⟨L, us, rfl, b2, c2⟩⟩
    show SS _ = SS _
    rfl
  rw [p1]
  refine sat_bind (P := fun z => Pur (k + 824) z.2 ∧ ∃ sg, z.1 = SS sg ∧ (sg = [] ∨ sg = [43] ∨ sg = [45]) ∧ (if sg = [45] then (-1 : Int) else 1) = side ∧ sg.length ≤ 1) ?_ fun z32 ⟨g2, sg, s1, s2, s3, s4⟩ => ?_
  · refine sat_ite (fun c => ?_) fun c => ?_
    · have c := of_decide_eq_true c
      exact sat_some ⟨g1.mono (by omega), [45], ss_minus.symm, .inr (.inr rfl), by rw [if_pos rfl]; omega, by decide⟩
    · have c := of_decide_eq_false c
      refine sat_bind (pickS_s g1 (by omega) (List.cons_ne_nil _ _) (by show 3 < 100; decide)) fun r2 ⟨g2, m2⟩ => sat_some ⟨g2.mono (by omega), ?_⟩
      simp only [List.mem_cons, List.not_mem_nil, or_false] at m2
      have e1 : side = 1 := by omega
      rcases m2 with w | w | w
      · exact ⟨[], w.trans ss_nil, .inl rfl, by rw [if_neg (by decide), e1], by decide⟩
      · exact ⟨[], w.trans ss_nil, .inl rfl, by rw [if_neg (by decide), e1], by decide⟩
      · exact ⟨[43], w.trans (by decide +kernel), .inr (.inl rfl), by rw [if_neg (by decide), e1], by decide⟩
  rw [s1, ss_app]
  refine sat_chk (size_le (m := 2000) (by rw [ss_len, ss_len, List.length_append]; omega) (by decide)) (sat_let (sat_chk (by decide) (sat_chk (by decide) ?_)))
  have one : ∀ (j : Nat) (t : List Int) (i : Int), Pur j t → j < 1000000 → Sat ((fun (a39 : Int) (s38 : (List Int)) => (M__law_pick__o1 s38 ([("" : Str), ("" : Str), (" " : Str), ("  " : Str), ("\n" : Str), ("\t " : Str)] : List Str)).bind fun z40 => some (some z40.1, z40.2)) i t) (fun z => Pur (j + 1) z.2 ∧ ∃ e : List Nat, z.1 = some (SS e) ∧ e.length ≤ 2 ∧ ∀ y ∈ e, IsB y) := fun j t i ht hj =>
    sat_bind (pickS_s ht hj (List.cons_ne_nil _ _) (by show 6 < 100; decide)) fun z ⟨u1, u2⟩ => by
      obtain ⟨e, v1, v2, v3⟩ := end_mem z.1 u2
      exact sat_some ⟨u1, e, congrArg some v1, v2, v3⟩
  refine sat_bind (P := fun z => Pur (k + 826) z.2 ∧ ∃ e0 e1 : List Nat, z.1 = [SS e0, SS e1] ∧ e0.length ≤ 2 ∧ e1.length ≤ 2 ∧ (∀ y ∈ e0, IsB y) ∧ ∀ y ∈ e1, IsB y) ?_ fun z41 ⟨g3, e0, e1, t1, t2, t3, t4, t5⟩ => ?_
  · refine sat_bind (one (k + 824) z32.2 0 g2 (by omega)) fun z ⟨u1, e0, u2, u3, u4⟩ => ?_
    obtain ⟨o, t'⟩ := z
    have u2 : o = some (SS e0) := u2
    subst u2
    refine sat_bind (P := fun z => Pur (k + 826) z.2 ∧ ∃ e1 : List Nat, z.1 = [SS e1] ∧ e1.length ≤ 2 ∧ ∀ y ∈ e1, IsB y) ?_ fun z ⟨w1, e1, w2, w3, w4⟩ => ?_
    · refine sat_bind (one (k + 825) t' 1 u1 (by omega)) fun z ⟨w1, e1, w2, w3, w4⟩ => ?_
      obtain ⟨o2, t2⟩ := z
      have w2 : o2 = some (SS e1) := w2
      subst w2
      exact sat_some ⟨w1, e1, rfl, w3, w4⟩
    · obtain ⟨ys, t3⟩ := z
      have w2 : ys = [SS e1] := w2
      subst w2
      exact sat_some ⟨w1, e0, e1, rfl, u3, w3, u4, w4⟩
  rw [t1]
  refine sat_eq (a := SS e0) rfl ?_
  refine sat_chk (size_le (m := 2000) (by rw [ss_len, ss_len, List.length_append, List.length_append]; omega) (by decide)) ?_
  refine sat_eq (a := SS e1) rfl ?_
  rw [ss_app]
  refine sat_chk (size_le (m := 2000) (by rw [ss_len, ss_len, List.length_append, List.length_append, List.length_append]; omega) (by decide)) ?_
  refine sat_some ⟨g3.mono (by omega), e0, sg, px, e1, its, x, q, ?_, t4, t5, s2, s3, q1, hx, q3 x q hx, p3, p4, t2, t3, p2⟩
  show SS _ ++ SS _ = _
  rw [ss_app]
  simp
end
theorem atI_0 {x : Int} {r : List Int} : atI (x :: r) 0 = some x := by
  unfold atI ixN
  rw [if_pos (by decide), if_pos (by rw [List.length_cons]; omega)]
  rfl
theorem figs_map (its : List Itm) : figs its = (its.map (fun y => y.2.1)).map (fun d : Nat => (d : Int)) := by
  unfold figs
  rw [List.map_map]
  rfl
theorem txt_parts {side asked : Int} {l : List Nat} {r : Nat} {pf : Bool} {s : Str} (h : TxtOf side l r pf s) (r2 : 2 ≤ r) (r36 : r ≤ 36) (hn : ∀ d ∈ l, d < r) (hl : l.length ≤ 410) (ha : asked = r ∨ asked = 0 ∧ (pf = true ∨ r = 10 ∧ (l.head? ≠ some 0 ∨ ∀ d ∈ l, d = 0))) : M_parts_of_text s asked = some (T3.mk side (r : Int) (LF.mk (l.map (fun d : Nat => (d : Int))))) := by
  obtain ⟨e0, sg, px, e1, its, x, q, rfl, h0, h1, hsg, hsd, hm, hx, hxu, p0, p1, l0, l1, l2⟩ := h
  have il : its.length = l.length := by rw [← hm, List.length_map]
  have fl := flat_len its
  have sgl : sg.length ≤ 1 := by rcases hsg with w | w | w <;> rw [w] <;> decide
  have mem : ∀ y ∈ its, y.2.1 ∈ l := fun y hy => by rw [← hm]; exact List.mem_map.mpr ⟨y, hy, rfl⟩
  have hd : l.head? = some x.2.1 := by rw [← hm, hx]; rfl
  have := parts_ok (asked := asked) (t := e0 ++ (sg ++ (px ++ (flat its ++ e1)))) (by simp only [List.length_append]; omega) rfl h0 h1 hsg r2 r36 (fun y hy => hn _ (mem y hy)) hx hxu (by omega) (by
    cases hp : pf with
    | false =>
      refine .inl ⟨p0 hp, ?_⟩
      rcases ha with w | ⟨w, w2⟩
      · exact .inl w
      · rcases w2 with w2 | ⟨w2, w3⟩
        · rw [hp] at w2; cases w2
        · refine .inr ⟨w, w2, ?_⟩
          rcases w3 with w3 | w3
          · exact .inl fun z => w3 (by rw [hd, z])
          · exact .inr fun y hy => w3 _ (mem y hy)
    | true =>
      obtain ⟨L, us, c1, c2, c3⟩ := p1 hp
      refine .inr ⟨L, us, c1, c2, c3, ?_⟩
      rcases ha with w | ⟨w, _⟩
      · exact .inr w
      · exact .inl w)
  rw [this, figs_map, hm, hsd]
theorem in3 : ∀ r : Nat, r < 37 → (inI (r : Int) ([(2 : Int), (8 : Int), (16 : Int)] : List Int) = true ↔ r = 2 ∨ r = 8 ∨ r = 16) := by decide +kernel
theorem right_s {k : Nat} {s : List Int} (hs : Pur k s) (hk : k + 2000 < 900000) : Sat (M__law_right s) (fun p => p.1 = true ∧ Pur (k + 1000) p.2) := by
  unfold M__law_right
  refine sat_bind (coin_s hs (by omega) (by decide) (by decide)) fun r1 ⟨g1, n1, l1⟩ => ?_
  refine sat_bind (pick_s g1 (by omega) (List.cons_ne_nil _ _) (by show 5 < 100; decide)) fun r2 ⟨g2, m2⟩ => ?_
  obtain ⟨W, eW, h8, h30⟩ : ∃ W : Nat, r2.1 = (W : Int) ∧ 8 ≤ W ∧ W ≤ 30 := by
    have : 8 ≤ r2.1 ∧ r2.1 ≤ 30 := by
      simp only [List.mem_cons, List.not_mem_nil, or_false] at m2
      rcases m2 with q | q | q | q | q <;> omega
    exact ⟨r2.1.toNat, by omega, by omega, by omega⟩
  rw [eW]
  refine sat_bind (coin_s g2 (by omega) (by decide) (by decide)) fun r3 ⟨g3, n3, l3⟩ => sat_let ?_
  refine sat_bind (pick_s g3 (by omega) (List.cons_ne_nil _ _) (by show 8 < 100; decide)) fun r4 ⟨g4, m4⟩ => ?_
  obtain ⟨r, er, r2', r36⟩ : ∃ r : Nat, r4.1 = (r : Int) ∧ 2 ≤ r ∧ r ≤ 36 := by
    have : 2 ≤ r4.1 ∧ r4.1 ≤ 36 := by
      simp only [List.mem_cons, List.not_mem_nil, or_false] at m4
      rcases m4 with q | q | q | q | q | q | q | q <;> omega
    exact ⟨r4.1.toNat, by omega, by omega, by omega⟩
  rw [er]
  refine sat_bind (pick_s g4 (by omega) (List.cons_ne_nil _ _) (by show 2 < 100; decide)) fun r5 ⟨g5, m5⟩ => ?_
  have m5' : 0 < r5.1 ∧ r5.1 ≤ 13 := by
    simp only [List.mem_cons, List.not_mem_nil, or_false] at m5
    rcases m5 with q | q <;> omega
  refine sat_bind (coin_s g5 (by omega) m5'.1 (by omega)) fun r6 ⟨g6, n6, l6⟩ => ?_
  obtain ⟨c, ec⟩ := Int.eq_ofNat_of_zero_le n6
  rw [ec]
  refine sat_bind (row_s h8 h30 g6 (by omega) (by omega)) fun r7 ⟨g7, l7, w7⟩ => ?_
  refine sat_eq (worth_s h30 w7.1 (by omega)) ?_
  have hb := lv_bound (ppos W) w7.1
  rw [l7] at hb
  obtain ⟨n, en⟩ := Int.eq_ofNat_of_zero_le hb.1
  have nK : n < 2 ^ 360 := by
    have h := hb.2
    rw [en, p2, ← Int.natCast_pow, ← Nat.pow_mul] at h
    exact Nat.lt_of_lt_of_le (Int.ofNat_lt.mp h) (Nat.pow_le_pow_right (by decide) (Nat.le_trans (Nat.mul_le_mul h30 (show c ≤ 12 by omega)) (by decide)))
  rw [en]
  clear hb en
  refine sat_chk (by omega) (sat_let ?_)
  refine sat_bind (pick_s g7 (by omega) (List.cons_ne_nil _ _) (by show 2 < 100; decide)) fun r8 ⟨g8, m8⟩ => ?_
  obtain ⟨sd, esd, hsd⟩ : ∃ sd : Int, r8.1 = sd ∧ (sd = 1 ∨ sd = -1) := by
    simp only [List.mem_cons, List.not_mem_nil, or_false] at m8
    exact ⟨_, rfl, m8⟩
  rw [esd]
  obtain ⟨K, hK, hK2⟩ : ∃ K : Nat, n < 2 ^ K ∧ K = 360 := ⟨360, nK, rfl⟩
  clear nK
  refine sat_bind (figures_s g8 (by omega) r2' r36 hK (by omega)) fun r9 ⟨g9, l, f1, f2, f3, f4, f5⟩ => ?_
  rw [f1] at f4 ⊢
  refine sat_chk ⟨fun x _ => trivial, fun x h => nomatch h⟩ ?_
  -- at least one figure
  obtain ⟨v, ev, v0, v1, v2, v3, v4⟩ : ∃ v : List Nat, (if (!eqD (LF.mk (l.map (fun d : Nat => (d : Int)))) (LF.mk ([] : List Int))) = true then l.map (fun d : Nat => (d : Int)) else ([(0 : Int)] : List Int)) = v.map (fun d : Nat => (d : Int)) ∧ v ≠ [] ∧ (∀ d ∈ v, d < r) ∧ v.length ≤ 410 ∧ hv r (v.map (fun d : Nat => (d : Int))) = (n : Int) ∧ (n = 0 → ∀ d ∈ v, d = 0) := by
    cases l with
    | nil => exact ⟨[0], rfl, by decide, fun d hd => by rw [List.mem_singleton.mp hd]; omega, by decide, by rw [← f4]; exact hv_zero (r : Int) [], fun _ d hd => List.mem_singleton.mp hd⟩
    | cons d q => exact ⟨d :: q, rfl, by simp, f2, by omega, f4, f5⟩
  refine sat_let ?_
  rw [ev]
  refine sat_bind (P := fun z => Pur (k + 60) z.2 ∧ (z.1 = true → r = 2 ∨ r = 8 ∨ r = 16)) ?_ fun r10 ⟨g10, m10⟩ => ?_
  · refine sat_ite (fun q => ?_) fun _ => sat_some ⟨g9.mono (by omega), fun h => nomatch h⟩
    refine sat_bind (coin_s g9 (by omega) (by decide) (by decide)) fun z ⟨g, _, _⟩ => sat_some ⟨g.mono (by omega), fun _ => (in3 r (by omega)).mp q⟩
  refine sat_bind (written_s g10 (by omega) v2 v0 (fun d hd => Nat.lt_of_lt_of_le (v1 d hd) r36) hsd m10) fun r11 ⟨g11, t11⟩ => ?_
  refine sat_bind (P := fun b => b = true → r = 10 ∧ (v.head? ≠ some 0 ∨ ∀ d ∈ v, d = 0)) ?_ fun pl hpl => ?_
  · refine sat_ite (fun q => ?_) fun _ => sat_some fun h => nomatch h
    have q : (r : Int) = 10 := of_decide_eq_true q
    obtain ⟨d, w, hv0⟩ : ∃ d w, v = d :: w := by
      cases v with
      | nil => exact absurd rfl v0
      | cons d w => exact ⟨d, w, rfl⟩
    refine sat_eq (a := (d : Int)) (by rw [hv0]; exact atI_0) (sat_some fun h => ⟨by omega, ?_⟩)
    rw [Bool.or_eq_true] at h
    rcases h with h | h
    · have h : (0 : Int) < (d : Int) := of_decide_eq_true h
      refine .inl fun z => ?_
      rw [hv0] at z
      have := Option.some.inj z
      omega
    · have h : ((n : Nat) : Int) = 0 := of_decide_eq_true h
      exact .inr (v4 (by omega))
  refine sat_bind (P := fun z => Pur (k + 1000) z.2 ∧ (z.1 = true → (r10.1 || pl) = true)) ?_ fun r12 ⟨g12, m12⟩ => sat_let ?_
  · refine sat_ite (fun q => ?_) fun _ => sat_some ⟨g11.mono (by omega), fun h => nomatch h⟩
    refine sat_bind (coin_s g11 (by omega) (by decide) (by decide)) fun z ⟨g, _, _⟩ => sat_some ⟨g.mono (by omega), fun _ => q⟩
  generalize hak : (if r12.1 = true then (0 : Int) else (r : Int)) = ak
  have hak2 : ak = 0 ∨ ak = r := by rw [← hak]; split; exact .inl rfl; exact .inr rfl
  have PT := txt_parts (asked := ak) t11 r2' r36 v1 v2 (by
    by_cases q : r12.1 = true
    · rw [if_pos q] at hak
      refine .inr ⟨hak.symm, ?_⟩
      have := m12 q
      rw [Bool.or_eq_true] at this
      rcases this with w | w
      · exact .inl w
      · exact .inr (hpl w)
    · rw [if_neg q] at hak
      exact .inl hak.symm)
  obtain ⟨g, e, hg, g1', eg, e1, e2⟩ := group_ok (b := r) h8 h30 r2' r36
  have p30 : 2 ^ W ≤ 2 ^ 30 := Nat.pow_le_pow_right (by decide) h30
  have he : r ^ g ≤ 2 ^ 30 := by rw [← eg]; omega
  have g30 : g ≤ 30 := Nat.le_of_not_lt fun z => by
    have h1 : 2 ^ 31 ≤ r ^ g := Nat.le_trans (Nat.pow_le_pow_right (by decide) z) (Nat.pow_le_pow_left r2' _)
    have h2 : (2 : Nat) ^ 30 < 2 ^ 31 := by decide
    omega
  have vl : (v.map (fun d : Nat => (d : Int))).length ≤ 4300 := by rw [List.length_map]; omega
  have vd : ∀ x ∈ v.map (fun d : Nat => (d : Int)), 0 ≤ x ∧ x < (r : Int) := fun x hx => by
    obtain ⟨d, hd, rfl⟩ := List.mem_map.mp hx
    have := v1 d hd
    omega
  have hN : (sd * (n : Int)).natAbs < 2 ^ K := by
    have : (sd * (n : Int)).natAbs = n := by rcases hsd with q | q <;> rw [q] <;> omega
    rw [this]; exact hK
  have RD : ∀ m, IsMost m → M_read_text (MS.fresh (W : Int) 70) r11.1 ak m = some (bg W (sd * (n : Int)), rdS W g (MS.fresh (W : Int) 70) (v.map (fun d : Nat => (d : Int))) r) := fun m hm => by
    have := read_ok (S := MS.fresh (W : Int) 70) rfl h8 h30 r2' r36 hg g1' g30 he vl vd (m := m) (K := K) PT hsd hak2 hm (by omega) (by rw [v3]; exact hN)
    rw [v3] at this
    exact this
  obtain ⟨c1, c2, c3⟩ := rd_cnt (W := W) (g := g) (r := r) (l := v.map (fun d : Nat => (d : Int))) (c := 70)
  have DU := due_ok (l := v.map (fun d : Nat => (d : Int))) h8 h30 r36 hg g1' g30 vl
  have sz : sz W (sd * (n : Int)).natAbs ≤ 100000 := (sz_le (by omega)).mpr (Nat.lt_of_lt_of_le hN (Nat.pow_le_pow_right (by decide) (by omega)))
  clear hN hK
  have ml : IntMulOk sd (n : Int) := mul_l (by omega) (by omega)
  refine sat_eq (RD 4300 (.inr rfl)) (sat_chk ml ?_)
  refine sat_eq (is_ok h8 h30 sz) (sat_chk rfl ?_)
  refine sat_eq DU ?_
  refine sat_eq dueD (sat_let ?_)
  refine sat_eq (counted_ok _) ?_
  dsimp only
  rw [c1, c2, c3]
  have D1 : sameD (one_ (duW r) ((duN W g (v.map (fun d : Nat => (d : Int))) r : Nat) : Int)) (one_ (duW r) ((duN W g (v.map (fun d : Nat => (d : Int))) r : Nat) : Int)) := same_refl one_nd
  refine sat_chk ⟨D1, rfl, wkok_dat (wkok_one)⟩ ?_
  refine sat_eq (RD 0 (.inl rfl)) (sat_chk ml ?_)
  refine sat_eq (big_ok rfl h8 h30 (by omega)) (sat_eq (eq_self _ _) (sat_chk rfl ?_))
  refine sat_eq (counted_ok _) ?_
  dsimp only
  rw [c1, c2]
  refine sat_chk ⟨D1, rfl, wkok_dat (wkok_one)⟩ ?_
  exact sat_chk rfl (sat_some ⟨rfl, g12⟩)
/-! the fixed machine -/
theorem group8 {b : Nat} {g e : Nat} (hb : 2 ≤ b ∧ b ≤ 16) (h : b ^ g ≤ 256) (h2 : 256 < b ^ (g + 1)) (he : e = b ^ g) (hg1 : 1 ≤ g) : M_group_in ((8 : Nat) : Int) (b : Int) = some ((g : Int), (e : Int)) := by
  obtain ⟨g', e', hg, g1, eg, e1, e2⟩ := group_ok (W := 8) (b := b) (by decide) (by decide) (by omega) (by omega)
  have e1 : e' ≤ 256 := e1
  have e2 : 256 < e' * b := e2
  rw [eg] at e1 e2
  rw [← Nat.pow_succ] at e2
  have : g' = g := by
    rcases Nat.lt_trichotomy g' g with w | w | w
    · have := Nat.pow_le_pow_right (n := b) (by omega) (show g' + 1 ≤ g from w)
      exact absurd (Nat.lt_of_lt_of_le e2 this) (Nat.not_lt.mpr h)
    · exact w
    · have := Nat.pow_le_pow_right (n := b) (by omega) (show g + 1 ≤ g' from w)
      exact absurd (Nat.lt_of_lt_of_le h2 this) (Nat.not_lt.mpr e1)
  subst this
  rw [hg, eg, he]
def V1 : List Nat := [2, 0, 0, 0]
def V2 : List Nat := [7, 13, 0]
theorem t1 : TxtOf (-1) V1 10 false ("-2_000" : Str) := ⟨[], [45], [], [], [(false, 2, false), (true, 0, false), (false, 0, false), (false, 0, false)], _, _, by decide +kernel, (fun _ h => nomatch h), (fun _ h => nomatch h), .inr (.inr rfl), rfl, rfl, rfl, rfl, fun _ => rfl, (fun h => nomatch h), by decide, by decide, by decide⟩
theorem t2 : TxtOf (-1) V2 16 true (" -0x_7d0 " : Str) := ⟨[32], [45], [48, 120, 95], [32], [(false, 7, false), (false, 13, false), (false, 0, false)], _, _, by decide +kernel, by decide, by decide, .inr (.inr rfl), rfl, rfl, rfl, rfl, (fun h => nomatch h), (fun _ => ⟨120, [95], rfl, pv_let.1, .inr rfl⟩), by decide, by decide, by decide⟩
def S8 : MS := MS.fresh (8 : Int) (4 : Int)
def S8a : MS := rdS 8 2 S8 (V1.map (fun d : Nat => (d : Int))) 10
def S8b : MS := rdS 8 2 S8a (V2.map (fun d : Nat => (d : Int))) 16
theorem nz8 : nz S8b.tally = [(("product" : Str), (1 : Int)), (("shifted" : Str), (2 : Int))] := by decide +kernel
theorem wk8 : S8b.wk = [T3.mk ("read" : Str) (4 : Int) (10 : Int), T3.mk ("read" : Str) (3 : Int) (16 : Int)] := rfl
theorem law_right (ns : List Int) (h : ns.length ≤ 63) : M_law ns = some true := by
  refine sat_get ?_
  unfold M_law
  have hc := cut_len ns none (some (3 : Int))
  refine sat_chk (size_le (m := 64) (by show _ + 1 ≤ 64; omega) (by decide)) ?_
  refine sat_forA (fun _ => True) (fun x _ st _ => ?_) trivial fun s _ => sat_nx ?_
  · refine sat_bind (purse_s x) fun s0 g0 => ?_
    refine sat_chk (by decide) ?_
    refine sat_for (fun i s => Pur (i * 1000) s) (fun i x s hx hs => ?_) (by rw [Nat.zero_mul]; exact g0) fun s _ => sat_nx (sat_end trivial)
    have hi : i < 6 := (List.getElem?_eq_some_iff.mp hx).1
    refine sat_bind (right_s hs (by omega)) fun r ⟨e, q⟩ => sat_chk e (sat_end (q.mono (by omega)))
  refine sat_chk (by decide) (sat_let ?_)
  have p1 := txt_parts (asked := 10) t1 (by decide) (by decide) (by decide) (by decide) (.inl rfl)
  have p2 := txt_parts (asked := 16) t2 (by decide) (by decide) (by decide) (by decide) (.inl rfl)
  have r1 := read_ok (S := S8) (W := 8) (g := 2) (e := 100) (m := 4300) (K := 20) rfl (by decide) (by decide) (by decide) (by decide) (group8 (b := 10) (by decide) (by decide) (by decide) rfl (by decide)) (by decide) (by decide) (by decide) (by decide) (by decide) p1 (.inr rfl) (.inr rfl) (.inr rfl) (by decide) (by decide +kernel)
  have r2 := read_ok (S := S8a) (W := 8) (g := 2) (e := 256) (m := 4300) (K := 20) rfl (by decide) (by decide) (by decide) (by decide) (group8 (b := 16) (by decide) (by decide) (by decide) rfl (by decide)) (by decide) (by decide) (by decide) (by decide) (by decide) p2 (.inr rfl) (.inr rfl) (.inr rfl) (by decide) (by decide +kernel)
  have v1 : (-1 : Int) * hv ((10 : Nat) : Int) (V1.map (fun d : Nat => (d : Int))) = -2000 := by decide +kernel
  have v2 : (-1 : Int) * hv ((16 : Nat) : Int) (V2.map (fun d : Nat => (d : Int))) = -2000 := by decide +kernel
  rw [v1] at r1
  rw [v2] at r2
  refine sat_eq r1 (sat_eq r2 (sat_let (sat_eq (counted_ok _) (sat_chk (by decide +kernel) ?_))))
  dsimp only
  rw [show rdS 8 2 S8a (V2.map (fun d : Nat => (d : Int))) 16 = S8b from rfl, nz8, wk8]
  refine sat_chk ⟨same_refl (by decide +kernel), rfl, wkok_dat fun x hx => ?_⟩ ?_
  · simp only [List.mem_cons, List.not_mem_nil, or_false] at hx
    rcases hx with q | q <;> rw [q] <;> show (PyData.str ("read" : Str)).canLay0 = true <;> decide +kernel
  refine sat_chk (by decide +kernel) ?_
  refine sat_eq (a := ([(-2000 : Int), -2000], ())) ?_ ?_
  · exact lcM_mapU (f := fun b : Bg => b.v) (fun x hx => by
      have : x = bg 8 (-2000) := by
        simp only [List.mem_cons, List.not_mem_nil, or_false] at hx
        rcases hx with q | q <;> exact q
      subst this
      exact bnd_of (plain_ok 8 (-2000)) rfl)
  refine sat_chk ⟨fun x _ => trivial, fun x _ => trivial⟩ ?_
  exact sat_chk (by decide +kernel) (sat_some rfl)
end P

set_option Elab.async false
set_option linter.all false
set_option maxRecDepth 100000
set_option maxHeartbeats 0
namespace P
open PySem L2 VL

theorem Fun.ofD {K : PySem.W.Frag} {x qual : Str} {st : Stmt} {f : Addr} {fd : FuncData} (F : FunD K x qual (defArgs st) (defBody st) (defScope st) [] [] f fd) : Fun K x qual st f fd := by
  obtain ⟨oc, od, dV, kV, doc, pm, an, cdv, ct, osl, rfl, lk, hcd, hD, hK⟩ := F.ex
  rcases hD with ⟨_, rfl⟩ | ⟨e, _⟩
  · exact ⟨⟨oc, od, kV, doc, pm, an, cdv, ct, osl, rfl, lk, hcd⟩, F.kp⟩
  · exact absurd rfl e
theorem iclsB_ok {K : PySem.W.Frag} {C : Addr} (cl : Cls K C) (h : iclsB K C = true) : ICls K C := by
  obtain ⟨h1, h⟩ := He.ba h
  obtain ⟨h2, h⟩ := He.ba h
  obtain ⟨h3, h⟩ := He.ba h
  obtain ⟨h4, h5⟩ := He.ba h
  exact ⟨cl, He.eqO_ok h1, He.eqO_ok h2, of_decide_eq_true h3, of_decide_eq_true h4, of_decide_eq_true h5⟩
theorem hu_of {l : List (Addr × Str)} (nd : (l.map (·.1)).Nodup) {A : Addr} {q : Str} (hm : (A, q) ∈ l) : ∀ p ∈ l, p.1 = A → p.2 = q := by
  induction l with
  | nil => cases hm
  | cons a r ih =>
    obtain ⟨h1, h2⟩ := List.nodup_cons.mp (show (a.1 :: r.map (·.1)).Nodup from nd)
    intro p hp e
    rcases List.mem_cons.mp hm with m | m
    · rcases List.mem_cons.mp hp with z | z
      · rw [z, ← m]
      · exact absurd (List.mem_map.mpr ⟨p, z, by rw [e, ← m]⟩) h1
    · rcases List.mem_cons.mp hp with z | z
      · exact absurd (List.mem_map.mpr ⟨_, m, by rw [← e, z]⟩) h1
      · exact ih h2 m p z e
theorem gInt {K : PySem.W.Frag} {h : Heap} {mg : Str → Option Value} {x : Str} {i : Int} (X : K.In h) (G : h.Ns mainGlobals mg) (c : (He.Fa.int x i).ok K = true) : ∃ u, mg x = some u ∧ RelV (.int i) u := by
  obtain ⟨t, e⟩ := He.int_ok X G c
  exact ⟨_, e, t, rfl⟩
theorem gStr {K : PySem.W.Frag} {h : Heap} {mg : Str → Option Value} {x z : Str} (X : K.In h) (G : h.Ns mainGlobals mg) (c : (He.Fa.str x z).ok K = true) : ∃ u, mg x = some u ∧ RelV (.str z) u := by
  obtain ⟨t, e⟩ := He.str_ok X G c
  exact ⟨_, e, t, rfl⟩
theorem gRef {K : PySem.W.Frag} {h : Heap} {mg : Str → Option Value} {x : Str} (X : K.In h) (G : h.Ns mainGlobals mg) (c : (He.Fa.glo x).ok K = true) : ∃ u, mg x = some u ∧ RelV (.ref (He.ga K x)) u := ⟨_, He.glo_ok X G c, rfl⟩
theorem facts {P : Program} {w : World} {K : PySem.W.Frag} {h : Heap} {mg : Str → Option Value} {f : Addr} (X : K.In h) (G : h.Ns mainGlobals mg) (hfa : mg ("law" : Str) = some (.ref f)) (c : He.SaysX fa fn tbl [] exB w h K) :
    ∃ (T : TC) (fd : FuncData), T.K = K ∧ (∀ (s : Shared) (v : Value), BindsTo s fd ⟨[v], []⟩ [("_law_script", v)]) ∧ ∀ base : Heap, K.In base → base.Ns mainGlobals mg → FnOk P w K mg base CX0 25 f fd ["_law_script"] (mkSp (Pre_law T)) := by
  have cd : He.SaysD fa fn K := c.t.d
  obtain ⟨cmoreT_PREFIXES, exT_PREFIXES⟩ := He.ba c.more
  obtain ⟨cmoreT_DIGIT_BITS, exT_DIGIT_BITS⟩ := He.ba cmoreT_PREFIXES
  obtain ⟨ex1, exr⟩ := He.ba cmoreT_DIGIT_BITS
  obtain ⟨ex2, exs⟩ := He.ba exr
  obtain ⟨ex3, ex4⟩ := He.ba exs
  let T : TC := ⟨K, fun i => match i with | 0 => He.ga K "Machine" | 1 => He.ga K "Big" | 410 => He.ga K "DIGIT_BITS" | 411 => He.ga K "PREFIXES" | _ => He.ga K "Big"⟩
  refine ⟨T, ?_⟩
  obtain ⟨fd_law, G_law⟩ := cd.def_ 37 (d := d_law) rfl
  cases hfa.symm.trans (He.glo_ok X G (cd.fact 82 (f := .glo "law") rfl))
  refine ⟨fd_law, rfl, fun s v => (FunD.bindsA (ps := ["_law_script"]) G_law fun _ _ _ _ _ _ us hl => match us, hl with | [_], _ => rfl) s [v] rfl, fun base _ _ => ?_⟩
  have clM : Cls K (He.ga K "Machine") := He.cls_ok (cd.fact 0 (f := .cls "Machine") rfl)
  have mc : MCls T.K (T.C 0) := ⟨clM, (He.noat_ok (cd.fact 1 (f := .noat "Machine" "width") rfl)), (He.noat_ok (cd.fact 2 (f := .noat "Machine" "cutoff") rfl)), (He.noat_ok (cd.fact 3 (f := .noat "Machine" "counts") rfl)), (He.noat_ok (cd.fact 4 (f := .noat "Machine" "entered") rfl))⟩
  have icm : ICls T.K (T.C 0) := iclsB_ok clM ex2
  have clB : Cls K (He.ga K "Big") := He.cls_ok (cd.fact 5 (f := .cls "Big") rfl)
  have bc : BCls T.K (T.C 1) := ⟨clB, (He.noat_ok (cd.fact 6 (f := .noat "Big" "width") rfl)), (He.noat_ok (cd.fact 7 (f := .noat "Big" "side") rfl)), (He.noat_ok (cd.fact 8 (f := .noat "Big" "row") rfl)), (He.noat_ok (cd.fact 9 (f := .noat "Big" "value") rfl))⟩
  have icb : ICls T.K (T.C 1) := iclsB_ok clB ex3
  have qd_DIGIT_BITS : IDict T.K (T.C 410) ([(2, 1), (4, 2), (8, 3), (16, 4), (32, 5)] : List (Int × Int)) := idcB_ok exT_DIGIT_BITS
  have qs_PREFIXES : SDict T.K w (T.C 411) ([("x", 16), ("X", 16), ("o", 8), ("O", 8), ("b", 2), ("B", 2)] : List (Str × Int)) := sdict_ok (c.t.tab 0) exT_PREFIXES
  have hW : ∀ H, SqT T.K H (He.ga K "WORDS") (mwords.map V.str) := fun H => He.tupB_ok ex1 H
  obtain ⟨fd_is_integer, F_is_integer⟩ := cd.def_ 0 (d := d_is_integer) rfl
  have F_is_integer := Fun.ofD (st := s_is_integer) F_is_integer
  have c_is_integer : Cal P w K mg base 1 "is_integer" ["value"] (mkSp (Pre_is_integer T)) := ⟨⟨_, _, ok_is_integer (T := T) F_is_integer (He.free_ok X G (cd.fact 10 (f := .free "isinstance") rfl)) (He.free_ok X G (cd.fact 11 (f := .free "int") rfl)) (He.free_ok X G (cd.fact 12 (f := .free "bool") rfl)), He.glo_ok X G (cd.fact 13 (f := .glo "is_integer") rfl), F_is_integer.kp, (F_is_integer.binds (ps := ["value"]) fun _ _ _ _ _ _ us hl => match us, hl with | [_], _ => rfl)⟩⟩
  obtain ⟨fd_is_between, F_is_between⟩ := cd.def_ 1 (d := d_is_between) rfl
  have F_is_between := Fun.ofD (st := s_is_between) F_is_between
  have c_is_between : Cal P w K mg base 2 "is_between" ["value", "low", "high"] (mkSp (Pre_is_between T)) := ⟨⟨_, _, ok_is_between (T := T) F_is_between c_is_integer, He.glo_ok X G (cd.fact 14 (f := .glo "is_between") rfl), F_is_between.kp, (F_is_between.binds (ps := ["value", "low", "high"]) fun _ _ _ _ _ _ us hl => match us, hl with | [_, _, _], _ => rfl)⟩⟩
  obtain ⟨fd_Mach_step, F_Mach_step⟩ := cd.def_ 38 (d := d_Mach_step) rfl
  have F_Mach_step := Fun.ofD (st := s_Mach_step) F_Mach_step
  have c_Mach_step : CalM P w K mg base 1 (T.C 0) "step" ["self", "word", "many"] (mkSp (Pre_Mach_step T)) := ⟨⟨_, _, ok_Mach_step (T := T) F_Mach_step mc , He.meth_ok (cd.fact 15 (f := .meth "Machine" "step") rfl), (F_Mach_step.binds (ps := ["self", "word", "many"]) fun _ _ _ _ _ _ us hl => match us, hl with | [_, _, _], _ => rfl)⟩, clM⟩
  obtain ⟨fd_Mach_enter, F_Mach_enter⟩ := cd.def_ 39 (d := d_Mach_enter) rfl
  have F_Mach_enter := Fun.ofD (st := s_Mach_enter) F_Mach_enter
  have c_Mach_enter : CalM P w K mg base 1 (T.C 0) "enter" ["self", "word", "m", "n"] (mkSp (Pre_Mach_enter T)) := ⟨⟨_, _, ok_Mach_enter (T := T) F_Mach_enter mc (He.free_ok X G (cd.fact 16 (f := .free "len") rfl)) (gInt X G (cd.fact 17 (f := .int "LONGEST_WALK" 1000) rfl)), He.meth_ok (cd.fact 18 (f := .meth "Machine" "enter") rfl), (F_Mach_enter.binds (ps := ["self", "word", "m", "n"]) fun _ _ _ _ _ _ us hl => match us, hl with | [_, _, _, _], _ => rfl)⟩, clM⟩
  obtain ⟨fd_Mach_reset, F_Mach_reset⟩ := cd.def_ 40 (d := d_Mach_reset) rfl
  have F_Mach_reset := Fun.ofD (st := s_Mach_reset) F_Mach_reset
  have c_Mach_reset : CalM P w K mg base 1 (T.C 0) "reset" ["self"] (mkSp (Pre_Mach_reset T)) := ⟨⟨_, _, ok_Mach_reset (T := T) F_Mach_reset mc (gRef X G (cd.fact 19 (f := .glo "WORDS") rfl)) hW, He.meth_ok (cd.fact 20 (f := .meth "Machine" "reset") rfl), (F_Mach_reset.binds (ps := ["self"]) fun _ _ _ _ _ _ us hl => match us, hl with | [_], _ => rfl)⟩, clM⟩
  obtain ⟨fd_Mach_tally, F_Mach_tally⟩ := cd.def_ 41 (d := d_Mach_tally) rfl
  have F_Mach_tally := Fun.ofD (st := s_Mach_tally) F_Mach_tally
  have c_Mach_tally : CalM P w K mg base 1 (T.C 0) "tally" ["self"] (mkSp (Pre_Mach_tally T)) := ⟨⟨_, _, ok_Mach_tally (T := T) F_Mach_tally mc (gRef X G (cd.fact 19 (f := .glo "WORDS") rfl)) hW, He.meth_ok (cd.fact 21 (f := .meth "Machine" "tally") rfl), (F_Mach_tally.binds (ps := ["self"]) fun _ _ _ _ _ _ us hl => match us, hl with | [_], _ => rfl)⟩, clM⟩
  obtain ⟨fd_Mach_walk, F_Mach_walk⟩ := cd.def_ 42 (d := d_Mach_walk) rfl
  have F_Mach_walk := Fun.ofD (st := s_Mach_walk) F_Mach_walk
  have c_Mach_walk : CalM P w K mg base 1 (T.C 0) "walk" ["self"] (mkSp (Pre_Mach_walk T)) := ⟨⟨_, _, ok_Mach_walk (T := T) F_Mach_walk mc (He.free_ok X G (cd.fact 22 (f := .free "list") rfl)), He.meth_ok (cd.fact 23 (f := .meth "Machine" "walk") rfl), (F_Mach_walk.binds (ps := ["self"]) fun _ _ _ _ _ _ us hl => match us, hl with | [_], _ => rfl)⟩, clM⟩
  obtain ⟨fd_Mach_init, F_Mach_init⟩ := cd.def_ 43 (d := d_Mach_init) rfl
  have c_Machine2 : CalC P w K mg base 3 "Machine" (T.C 0) ["self", "bits", "cutoff"] [] (mkSp (Pre_Machine T)) := by
    obtain ⟨ds, hv, hb⟩ := FunD.binds1 (ps := ["self", "bits", "cutoff"]) F_Mach_init 3 2 (fun e => nomatch e) rfl fun _ _ _ _ _ _ _ us its hl hi => match us, its, hl, hi with | [_, _, _], [_, _], _, _ => ⟨_, rfl, rfl⟩
    exact ⟨⟨_, _, ds, ok_Mach_init (T := T) F_Mach_init mc (gRef X G (cd.fact 19 (f := .glo "WORDS") rfl)) hW c_is_between, He.glo_ok X G (cd.fact 24 (f := .glo "Machine") rfl), He.mkr_ok (cd.fact 25 (f := .mkr "Machine") rfl), hv, hb⟩⟩
  have c_Machine1 : CalC P w K mg base 3 "Machine" (T.C 0) ["self", "bits", "cutoff"] [.int 70] (mkSp (Pre_Machine T)) := by
    obtain ⟨ds, hv, hb⟩ := FunD.binds1 (ps := ["self", "bits", "cutoff"]) F_Mach_init 2 1 (fun e => nomatch e) rfl fun _ _ _ _ _ _ _ us its hl hi => match us, its, hl, hi with | [_, _], [_, _], _, _ => ⟨_, rfl, rfl⟩
    exact ⟨⟨_, _, ds, ok_Mach_init (T := T) F_Mach_init mc (gRef X G (cd.fact 19 (f := .glo "WORDS") rfl)) hW c_is_between, He.glo_ok X G (cd.fact 24 (f := .glo "Machine") rfl), He.mkr_ok (cd.fact 25 (f := .mkr "Machine") rfl), hv, hb⟩⟩
  obtain ⟨fd_Big_eq, F_Big_eq⟩ := cd.def_ 45 (d := d_Big_eq) rfl
  have F_Big_eq := Fun.ofD (st := s_Big_eq) F_Big_eq
  have ceq : CalEq P w K mg base 1 (T.C 1) (mkSp (Pre_Big_eq T)) := ⟨⟨_, _, ok_Big_eq (T := T) F_Big_eq (He.free_ok X G (cd.fact 10 (f := .free "isinstance") rfl)) icb (gRef X G (cd.fact 26 (f := .glo "Big") rfl)) bc, ex4, He.meth_ok (cd.fact 27 (f := .meth "Big" "__eq__") rfl), (F_Big_eq.binds (ps := ["self", "other"]) fun _ _ _ _ _ _ us hl => match us, hl with | [_, _], _ => rfl)⟩⟩
  obtain ⟨fd_Big_digits, F_Big_digits⟩ := cd.def_ 46 (d := d_Big_digits) rfl
  have F_Big_digits := Fun.ofD (st := s_Big_digits) F_Big_digits
  have c_Big_digits : CalM P w K mg base 1 (T.C 1) "digits" ["self"] (mkSp (Pre_Big_digits T)) := ⟨⟨_, _, ok_Big_digits (T := T) F_Big_digits bc (He.free_ok X G (cd.fact 22 (f := .free "list") rfl)), He.meth_ok (cd.fact 28 (f := .meth "Big" "digits") rfl), (F_Big_digits.binds (ps := ["self"]) fun _ _ _ _ _ _ us hl => match us, hl with | [_], _ => rfl)⟩, clB⟩
  obtain ⟨fd_Big_sign, F_Big_sign⟩ := cd.def_ 47 (d := d_Big_sign) rfl
  have F_Big_sign := Fun.ofD (st := s_Big_sign) F_Big_sign
  have c_Big_sign : CalM P w K mg base 1 (T.C 1) "sign" ["self"] (mkSp (Pre_Big_sign T)) := ⟨⟨_, _, ok_Big_sign (T := T) F_Big_sign bc, He.meth_ok (cd.fact 29 (f := .meth "Big" "sign") rfl), (F_Big_sign.binds (ps := ["self"]) fun _ _ _ _ _ _ us hl => match us, hl with | [_], _ => rfl)⟩, clB⟩
  obtain ⟨fd_Big_bits, F_Big_bits⟩ := cd.def_ 48 (d := d_Big_bits) rfl
  have F_Big_bits := Fun.ofD (st := s_Big_bits) F_Big_bits
  have c_Big_bits : CalM P w K mg base 1 (T.C 1) "bits" ["self"] (mkSp (Pre_Big_bits T)) := ⟨⟨_, _, ok_Big_bits (T := T) F_Big_bits bc, He.meth_ok (cd.fact 30 (f := .meth "Big" "bits") rfl), (F_Big_bits.binds (ps := ["self"]) fun _ _ _ _ _ _ us hl => match us, hl with | [_], _ => rfl)⟩, clB⟩
  obtain ⟨fd_order_of, F_order_of⟩ := cd.def_ 2 (d := d_order_of) rfl
  have F_order_of := Fun.ofD (st := s_order_of) F_order_of
  have c_order_of : Cal P w K mg base 1 "order_of" ["a", "b"] (mkSp (Pre_order_of T)) := ⟨⟨_, _, ok_order_of (T := T) F_order_of , He.glo_ok X G (cd.fact 31 (f := .glo "order_of") rfl), F_order_of.kp, (F_order_of.binds (ps := ["a", "b"]) fun _ _ _ _ _ _ us hl => match us, hl with | [_, _], _ => rfl)⟩⟩
  obtain ⟨fd_Big_init, F_Big_init⟩ := cd.def_ 44 (d := d_Big_init) rfl
  have F_Big_init := Fun.ofD (st := s_Big_init) F_Big_init
  have c_Big : CalC P w K mg base 2 "Big" (T.C 1) ["self", "width", "value", "row"] [] (mkSp (Pre_Big T)) := ⟨⟨_, _, [], ok_Big_init (T := T) F_Big_init bc (He.free_ok X G (cd.fact 32 (f := .free "tuple") rfl)) c_order_of, He.glo_ok X G (cd.fact 26 (f := .glo "Big") rfl), He.mkr_ok (cd.fact 33 (f := .mkr "Big") rfl), .nil, (F_Big_init.binds (ps := ["self", "width", "value", "row"]) fun _ _ _ _ _ _ us hl => match us, hl with | [_, _, _, _], _ => rfl)⟩⟩
  obtain ⟨fd_check_machine, F_check_machine⟩ := cd.def_ 3 (d := d_check_machine) rfl
  have F_check_machine := Fun.ofD (st := s_check_machine) F_check_machine
  have c_check_machine : Cal P w K mg base 1 "check_machine" ["machine"] (mkSp (Pre_check_machine T)) := ⟨⟨_, _, ok_check_machine (T := T) F_check_machine (He.free_ok X G (cd.fact 10 (f := .free "isinstance") rfl)) icm (gRef X G (cd.fact 24 (f := .glo "Machine") rfl)), He.glo_ok X G (cd.fact 34 (f := .glo "check_machine") rfl), F_check_machine.kp, (F_check_machine.binds (ps := ["machine"]) fun _ _ _ _ _ _ us hl => match us, hl with | [_], _ => rfl)⟩⟩
  obtain ⟨fd_top_digit, F_top_digit⟩ := cd.def_ 4 (d := d_top_digit) rfl
  have F_top_digit := Fun.ofD (st := s_top_digit) F_top_digit
  have c_top_digit : Cal P w K mg base 1 "top_digit" ["width"] (mkSp (Pre_top_digit T)) := ⟨⟨_, _, ok_top_digit (T := T) F_top_digit , He.glo_ok X G (cd.fact 35 (f := .glo "top_digit") rfl), F_top_digit.kp, (F_top_digit.binds (ps := ["width"]) fun _ _ _ _ _ _ us hl => match us, hl with | [_], _ => rfl)⟩⟩
  obtain ⟨fd_size_of, F_size_of⟩ := cd.def_ 5 (d := d_size_of) rfl
  have F_size_of := Fun.ofD (st := s_size_of) F_size_of
  have c_size_of : Cal P w K mg base 2 "size_of" ["width", "n"] (mkSp (Pre_size_of T)) := ⟨⟨_, _, ok_size_of (T := T) F_size_of , He.glo_ok X G (cd.fact 36 (f := .glo "size_of") rfl), F_size_of.kp, (F_size_of.binds (ps := ["width", "n"]) fun _ _ _ _ _ _ us hl => match us, hl with | [_, _], _ => rfl)⟩⟩
  obtain ⟨fd_number_of, F_number_of⟩ := cd.def_ 6 (d := d_number_of) rfl
  have F_number_of := Fun.ofD (st := s_number_of) F_number_of
  have r_number_of : ∀ n : Nat, FnOk P w K mg base CX0 (1 + n) (He.ga K "number_of") fd_number_of ["width", "row"] (mkSp (Pre_number_of n T)) := by
    intro n
    induction n with
    | zero => exact ok0_number_of (T := T) F_number_of
    | succ n ih =>
      have i_number_of := ih
      have c_number_of : Cal P w K mg base (1 + n) "number_of" ["width", "row"] (mkSp (Pre_number_of n T)) := ⟨⟨_, _, i_number_of, He.glo_ok X G (cd.fact 37 (f := .glo "number_of") rfl), F_number_of.kp, (F_number_of.binds (ps := ["width", "row"]) fun _ _ _ _ _ _ us hl => match us, hl with | [_, _], _ => rfl)⟩⟩
      exact ok_number_of (T := T) n F_number_of (He.free_ok X G (cd.fact 16 (f := .free "len") rfl)) (gInt X G (cd.fact 38 (f := .int "LONGEST_LOOP" 32) rfl)) c_number_of (He.free_ok X G (cd.fact 39 (f := .free "reversed") rfl))
  have c_number_of : Cal P w K mg base 21 "number_of" ["width", "row"] (mkSp (Pre_number_of 20 T)) := ⟨⟨_, _, (r_number_of 20), He.glo_ok X G (cd.fact 37 (f := .glo "number_of") rfl), F_number_of.kp, (F_number_of.binds (ps := ["width", "row"]) fun _ _ _ _ _ _ us hl => match us, hl with | [_, _], _ => rfl)⟩⟩
  obtain ⟨fd_low_part, F_low_part⟩ := cd.def_ 7 (d := d_low_part) rfl
  have F_low_part := Fun.ofD (st := s_low_part) F_low_part
  have c_low_part : Cal P w K mg base 1 "low_part" ["width", "n", "size"] (mkSp (Pre_low_part T)) := ⟨⟨_, _, ok_low_part (T := T) F_low_part , He.glo_ok X G (cd.fact 40 (f := .glo "low_part") rfl), F_low_part.kp, (F_low_part.binds (ps := ["width", "n", "size"]) fun _ _ _ _ _ _ us hl => match us, hl with | [_, _, _], _ => rfl)⟩⟩
  obtain ⟨fd_row_of, F_row_of⟩ := cd.def_ 8 (d := d_row_of) rfl
  have F_row_of := Fun.ofD (st := s_row_of) F_row_of
  have r_row_of : ∀ n : Nat, FnOk P w K mg base CX0 (1 + n) (He.ga K "row_of") fd_row_of ["width", "n", "size"] (mkSp (Pre_row_of n T)) := by
    intro n
    induction n with
    | zero => exact ok0_row_of (T := T) F_row_of
    | succ n ih =>
      have i_row_of := ih
      have c_row_of : Cal P w K mg base (1 + n) "row_of" ["width", "n", "size"] (mkSp (Pre_row_of n T)) := ⟨⟨_, _, i_row_of, He.glo_ok X G (cd.fact 41 (f := .glo "row_of") rfl), F_row_of.kp, (F_row_of.binds (ps := ["width", "n", "size"]) fun _ _ _ _ _ _ us hl => match us, hl with | [_, _, _], _ => rfl)⟩⟩
      exact ok_row_of (T := T) n F_row_of (gInt X G (cd.fact 38 (f := .int "LONGEST_LOOP" 32) rfl)) c_low_part c_row_of c_top_digit (He.free_ok X G (cd.fact 42 (f := .free "range") rfl))
  have c_row_of : Cal P w K mg base 21 "row_of" ["width", "n", "size"] (mkSp (Pre_row_of 20 T)) := ⟨⟨_, _, (r_row_of 20), He.glo_ok X G (cd.fact 41 (f := .glo "row_of") rfl), F_row_of.kp, (F_row_of.binds (ps := ["width", "n", "size"]) fun _ _ _ _ _ _ us hl => match us, hl with | [_, _, _], _ => rfl)⟩⟩
  obtain ⟨fd_check_big, F_check_big⟩ := cd.def_ 9 (d := d_check_big) rfl
  have F_check_big := Fun.ofD (st := s_check_big) F_check_big
  have c_check_big : Cal P w K mg base 1 "check_big" ["value", "name"] (mkSp (Pre_check_big T)) := ⟨⟨_, _, ok_check_big (T := T) F_check_big (He.free_ok X G (cd.fact 10 (f := .free "isinstance") rfl)) icb (gRef X G (cd.fact 26 (f := .glo "Big") rfl)), He.glo_ok X G (cd.fact 43 (f := .glo "check_big") rfl), F_check_big.kp, (F_check_big.binds (ps := ["value", "name"]) fun _ _ _ _ _ _ us hl => match us, hl with | [_, _], _ => rfl)⟩⟩
  obtain ⟨fd_big_of, F_big_of⟩ := cd.def_ 10 (d := d_big_of) rfl
  have F_big_of := Fun.ofD (st := s_big_of) F_big_of
  have c_big_of : Cal P w K mg base 22 "big_of" ["machine", "value"] (mkSp (Pre_big_of T)) := ⟨⟨_, _, ok_big_of (T := T) F_big_of mc (He.free_ok X G (cd.fact 44 (f := .free "abs") rfl)) c_size_of c_row_of c_Big, He.glo_ok X G (cd.fact 45 (f := .glo "big_of") rfl), F_big_of.kp, (F_big_of.binds (ps := ["machine", "value"]) fun _ _ _ _ _ _ us hl => match us, hl with | [_, _], _ => rfl)⟩⟩
  obtain ⟨fd_big, F_big⟩ := cd.def_ 11 (d := d_big) rfl
  have F_big := Fun.ofD (st := s_big) F_big
  have c_big : Cal P w K mg base 23 "big" ["machine", "n"] (mkSp (Pre_big T)) := ⟨⟨_, _, ok_big (T := T) F_big c_check_machine c_is_integer c_big_of, He.glo_ok X G (cd.fact 46 (f := .glo "big") rfl), F_big.kp, (F_big.binds (ps := ["machine", "n"]) fun _ _ _ _ _ _ us hl => match us, hl with | [_, _], _ => rfl)⟩⟩
  obtain ⟨fd_plain, F_plain⟩ := cd.def_ 12 (d := d_plain) rfl
  have F_plain := Fun.ofD (st := s_plain) F_plain
  have c_plain : Cal P w K mg base 2 "plain" ["x"] (mkSp (Pre_plain T)) := ⟨⟨_, _, ok_plain (T := T) F_plain c_check_big bc, He.glo_ok X G (cd.fact 47 (f := .glo "plain") rfl), F_plain.kp, (F_plain.binds (ps := ["x"]) fun _ _ _ _ _ _ us hl => match us, hl with | [_], _ => rfl)⟩⟩
  obtain ⟨fd_check_most, F_check_most⟩ := cd.def_ 13 (d := d_check_most) rfl
  have F_check_most := Fun.ofD (st := s_check_most) F_check_most
  have c_check_most : Cal P w K mg base 2 "check_most" ["most"] (mkSp (Pre_check_most T)) := ⟨⟨_, _, ok_check_most (T := T) F_check_most c_is_integer (gInt X G (cd.fact 48 (f := .int "LEAST_LIMIT" 640) rfl)), He.glo_ok X G (cd.fact 49 (f := .glo "check_most") rfl), F_check_most.kp, (F_check_most.binds (ps := ["most"]) fun _ _ _ _ _ _ us hl => match us, hl with | [_], _ => rfl)⟩⟩
  obtain ⟨fd_behind_blanks, F_behind_blanks⟩ := cd.def_ 14 (d := d_behind_blanks) rfl
  have F_behind_blanks := Fun.ofD (st := s_behind_blanks) F_behind_blanks
  have c_behind_blanks : Cal P w K mg base 1 "behind_blanks" ["text", "place"] (mkSp (Pre_behind_blanks T)) := ⟨⟨_, _, ok_behind_blanks (T := T) F_behind_blanks (He.free_ok X G (cd.fact 16 (f := .free "len") rfl)) (gStr X G (cd.fact 50 (f := .str "BLANKS" " \t\n") rfl)), He.glo_ok X G (cd.fact 51 (f := .glo "behind_blanks") rfl), F_behind_blanks.kp, (F_behind_blanks.binds (ps := ["text", "place"]) fun _ _ _ _ _ _ us hl => match us, hl with | [_, _], _ => rfl)⟩⟩
  obtain ⟨fd_behind_prefix, F_behind_prefix⟩ := cd.def_ 15 (d := d_behind_prefix) rfl
  have F_behind_prefix := Fun.ofD (st := s_behind_prefix) F_behind_prefix
  have c_behind_prefix : Cal P w K mg base 2 "behind_prefix" ["text", "place", "base"] (mkSp (Pre_behind_prefix T)) := ⟨⟨_, _, ok_behind_prefix (T := T) F_behind_prefix (gRef X G (cd.fact 52 (f := .glo "PREFIXES") rfl)) qs_PREFIXES, He.glo_ok X G (cd.fact 53 (f := .glo "behind_prefix") rfl), F_behind_prefix.kp, (F_behind_prefix.binds (ps := ["text", "place", "base"]) fun _ _ _ _ _ _ us hl => match us, hl with | [_, _, _], _ => rfl)⟩⟩
  obtain ⟨fd_value_of, F_value_of⟩ := cd.def_ 16 (d := d_value_of) rfl
  have F_value_of := Fun.ofD (st := s_value_of) F_value_of
  have c_value_of : Cal P w K mg base 2 "value_of" ["sign"] (mkSp (Pre_value_of T)) := ⟨⟨_, _, ok_value_of (T := T) F_value_of (gStr X G (cd.fact 54 (f := .str "SMALL_SIGNS" "0123456789abcdefghijklmnopqrstuvwxyz") rfl)) (gStr X G (cd.fact 55 (f := .str "CAPITAL_SIGNS" "0123456789ABCDEFGHIJKLMNOPQRSTUVWXYZ") rfl)) (He.free_ok X G (cd.fact 56 (f := .free "max") rfl)) (gInt X G (cd.fact 57 (f := .int "GREATEST_BASE" 36) rfl)), He.glo_ok X G (cd.fact 58 (f := .glo "value_of") rfl), F_value_of.kp, (F_value_of.binds (ps := ["sign"]) fun _ _ _ _ _ _ us hl => match us, hl with | [_], _ => rfl)⟩⟩
  obtain ⟨fd_digits_from, F_digits_from⟩ := cd.def_ 17 (d := d_digits_from) rfl
  have F_digits_from := Fun.ofD (st := s_digits_from) F_digits_from
  have c_digits_from : Cal P w K mg base 3 "digits_from" ["text", "place", "top"] (mkSp (Pre_digits_from T)) := ⟨⟨_, _, ok_digits_from (T := T) F_digits_from (He.free_ok X G (cd.fact 16 (f := .free "len") rfl)) c_value_of, He.glo_ok X G (cd.fact 59 (f := .glo "digits_from") rfl), F_digits_from.kp, (F_digits_from.binds (ps := ["text", "place", "top"]) fun _ _ _ _ _ _ us hl => match us, hl with | [_, _, _], _ => rfl)⟩⟩
  obtain ⟨fd_parts_of_text, F_parts_of_text⟩ := cd.def_ 18 (d := d_parts_of_text) rfl
  have F_parts_of_text := Fun.ofD (st := s_parts_of_text) F_parts_of_text
  have c_parts_of_text : Cal P w K mg base 4 "parts_of_text" ["text", "base"] (mkSp (Pre_parts_of_text T)) := ⟨⟨_, _, ok_parts_of_text (T := T) F_parts_of_text c_behind_blanks c_behind_prefix c_digits_from (He.free_ok X G (cd.fact 16 (f := .free "len") rfl)), He.glo_ok X G (cd.fact 60 (f := .glo "parts_of_text") rfl), F_parts_of_text.kp, (F_parts_of_text.binds (ps := ["text", "base"]) fun _ _ _ _ _ _ us hl => match us, hl with | [_, _], _ => rfl)⟩⟩
  obtain ⟨fd_group_in, F_group_in⟩ := cd.def_ 19 (d := d_group_in) rfl
  have F_group_in := Fun.ofD (st := s_group_in) F_group_in
  have c_group_in : Cal P w K mg base 1 "group_in" ["width", "base"] (mkSp (Pre_group_in T)) := ⟨⟨_, _, ok_group_in (T := T) F_group_in , He.glo_ok X G (cd.fact 61 (f := .glo "group_in") rfl), F_group_in.kp, (F_group_in.binds (ps := ["width", "base"]) fun _ _ _ _ _ _ us hl => match us, hl with | [_, _], _ => rfl)⟩⟩
  obtain ⟨fd_number_by_groups, F_number_by_groups⟩ := cd.def_ 20 (d := d_number_by_groups) rfl
  have F_number_by_groups := Fun.ofD (st := s_number_by_groups) F_number_by_groups
  have c_number_by_groups : Cal P w K mg base 3 "number_by_groups" ["machine", "values", "base"] (mkSp (Pre_number_by_groups T)) := ⟨⟨_, _, ok_number_by_groups (T := T) F_number_by_groups mc c_group_in (He.free_ok X G (cd.fact 16 (f := .free "len") rfl)) (He.free_ok X G (cd.fact 42 (f := .free "range") rfl)) c_size_of c_Mach_step, He.glo_ok X G (cd.fact 62 (f := .glo "number_by_groups") rfl), F_number_by_groups.kp, (F_number_by_groups.binds (ps := ["machine", "values", "base"]) fun _ _ _ _ _ _ us hl => match us, hl with | [_, _, _], _ => rfl)⟩⟩
  obtain ⟨fd_number_read, F_number_read⟩ := cd.def_ 21 (d := d_number_read) rfl
  have F_number_read := Fun.ofD (st := s_number_read) F_number_read
  have c_number_read : Cal P w K mg base 22 "number_read" ["machine", "values", "base"] (mkSp (Pre_number_read T)) := ⟨⟨_, _, ok_number_read (T := T) F_number_read mc (He.free_ok X G (cd.fact 16 (f := .free "len") rfl)) c_Mach_enter (gRef X G (cd.fact 63 (f := .glo "DIGIT_BITS") rfl)) qd_DIGIT_BITS c_number_by_groups c_Mach_step (He.free_ok X G (cd.fact 22 (f := .free "list") rfl)) (He.free_ok X G (cd.fact 39 (f := .free "reversed") rfl)) c_number_of, He.glo_ok X G (cd.fact 64 (f := .glo "number_read") rfl), F_number_read.kp, (F_number_read.binds (ps := ["machine", "values", "base"]) fun _ _ _ _ _ _ us hl => match us, hl with | [_, _, _], _ => rfl)⟩⟩
  obtain ⟨fd_read_text, F_read_text⟩ := cd.def_ 22 (d := d_read_text) rfl
  have ckd_read_text_0_base_text_machine_most : CalKD P w K mg base 23 "read_text" ["machine", "text", "base", "most"] 0 ["base", "text", "machine", "most"] [V.int 10] [3, 2, 1, 4] (mkSp (Pre_read_text T)) := by
    obtain ⟨its, mv, hb⟩ := FunD.kbinds (ps := ["machine", "text", "base", "most"]) F_read_text 0 ["base", "text", "machine", "most"] [] (fun us its mv ws => prm [3, 2, 1, 4] (us ++ (its ++ (mv ++ ws)))) (fun e => nomatch e) (fun e => nomatch e) (fun q h => nomatch h) (fun r1 r2 r3 r4 => prm_rel _ (Vals.append r1 (Vals.append r2 (Vals.append r3 r4)))) (fun _ _ _ _ _ _ _ us its mv ws hl hi hm hw => match us, its, mv, ws, hl, hi, hm, hw with | [], [_], [], [_, _, _, _], _, _, _, _ => ⟨_, rfl, rfl⟩)
    exact ⟨⟨_, _, _, ok_read_text (T := T) F_read_text c_check_machine (He.free_ok X G (cd.fact 10 (f := .free "isinstance") rfl)) (He.free_ok X G (cd.fact 65 (f := .free "str") rfl)) c_is_integer (gInt X G (cd.fact 57 (f := .int "GREATEST_BASE" 36) rfl)) c_is_between c_check_most c_parts_of_text (gRef X G (cd.fact 63 (f := .glo "DIGIT_BITS") rfl)) qd_DIGIT_BITS (He.free_ok X G (cd.fact 16 (f := .free "len") rfl)) c_number_read c_big_of, He.glo_ok X G (cd.fact 66 (f := .glo "read_text") rfl), F_read_text.kp, hb⟩⟩
  have cd_read_text_2 : CalD P w K mg base 23 "read_text" ["machine", "text", "base", "most"] [V.int 10, V.int 4300] (mkSp (Pre_read_text T)) := by
    obtain ⟨ds, hv, hb⟩ := FunD.binds (ps := ["machine", "text", "base", "most"]) F_read_text 2 0 (fun e => nomatch e) rfl (fun _ _ _ _ _ _ _ us its ks hl hi hk => match us, its, ks, hl, hi, hk with | [_, _], [_], [_], _, _, _ => ⟨_, rfl, _, _, _, _, _, _, rfl, rfl, rfl⟩) (fun e => nomatch e)
    exact ⟨⟨_, _, ds, ok_read_text (T := T) F_read_text c_check_machine (He.free_ok X G (cd.fact 10 (f := .free "isinstance") rfl)) (He.free_ok X G (cd.fact 65 (f := .free "str") rfl)) c_is_integer (gInt X G (cd.fact 57 (f := .int "GREATEST_BASE" 36) rfl)) c_is_between c_check_most c_parts_of_text (gRef X G (cd.fact 63 (f := .glo "DIGIT_BITS") rfl)) qd_DIGIT_BITS (He.free_ok X G (cd.fact 16 (f := .free "len") rfl)) c_number_read c_big_of, He.glo_ok X G (cd.fact 66 (f := .glo "read_text") rfl), F_read_text.kp, hv, hb⟩⟩
  have cd_read_text_3 : CalD P w K mg base 23 "read_text" ["machine", "text", "base", "most"] [V.int 4300] (mkSp (Pre_read_text T)) := by
    obtain ⟨ds, hv, hb⟩ := FunD.binds (ps := ["machine", "text", "base", "most"]) F_read_text 3 1 (fun e => nomatch e) rfl (fun _ _ _ _ _ _ _ us its ks hl hi hk => match us, its, ks, hl, hi, hk with | [_, _, _], [_], [_], _, _, _ => ⟨_, rfl, _, _, _, _, _, _, rfl, rfl, rfl⟩) (fun e => nomatch e)
    exact ⟨⟨_, _, ds, ok_read_text (T := T) F_read_text c_check_machine (He.free_ok X G (cd.fact 10 (f := .free "isinstance") rfl)) (He.free_ok X G (cd.fact 65 (f := .free "str") rfl)) c_is_integer (gInt X G (cd.fact 57 (f := .int "GREATEST_BASE" 36) rfl)) c_is_between c_check_most c_parts_of_text (gRef X G (cd.fact 63 (f := .glo "DIGIT_BITS") rfl)) qd_DIGIT_BITS (He.free_ok X G (cd.fact 16 (f := .free "len") rfl)) c_number_read c_big_of, He.glo_ok X G (cd.fact 66 (f := .glo "read_text") rfl), F_read_text.kp, hv, hb⟩⟩
  obtain ⟨fd__law_purse, F__law_purse⟩ := cd.def_ 23 (d := d__law_purse) rfl
  have F__law_purse := Fun.ofD (st := s__law_purse) F__law_purse
  have c__law_purse : Cal P w K mg base 1 "_law_purse" ["_law_cell"] (mkSp (Pre__law_purse T)) := ⟨⟨_, _, ok__law_purse (T := T) F__law_purse (He.free_ok X G (cd.fact 11 (f := .free "int") rfl)), He.glo_ok X G (cd.fact 67 (f := .glo "_law_purse") rfl), F__law_purse.kp, (F__law_purse.binds (ps := ["_law_cell"]) fun _ _ _ _ _ _ us hl => match us, hl with | [_], _ => rfl)⟩⟩
  obtain ⟨fd__law_coin, F__law_coin⟩ := cd.def_ 24 (d := d__law_coin) rfl
  have F__law_coin := Fun.ofD (st := s__law_coin) F__law_coin
  have c__law_coin : Cal P w K mg base 1 "_law_coin" ["_law_purse_here", "_law_amount"] (mkSp (Pre__law_coin T)) := ⟨⟨_, _, ok__law_coin (T := T) F__law_coin (He.free_ok X G (cd.fact 11 (f := .free "int") rfl)), He.glo_ok X G (cd.fact 68 (f := .glo "_law_coin") rfl), F__law_coin.kp, (F__law_coin.binds (ps := ["_law_purse_here", "_law_amount"]) fun _ _ _ _ _ _ us hl => match us, hl with | [_, _], _ => rfl)⟩⟩
  obtain ⟨fd__law_pick, F__law_pick⟩ := cd.def_ 25 (d := d__law_pick) rfl
  have F__law_pick := Fun.ofD (st := s__law_pick) F__law_pick
  have c__law_pick : Cal P w K mg base 2 "_law_pick" ["_law_purse_here", "_law_some"] (mkSp (Pre__law_pick T)) := ⟨⟨_, _, ok__law_pick (T := T) F__law_pick (He.free_ok X G (cd.fact 16 (f := .free "len") rfl)) c__law_coin, He.glo_ok X G (cd.fact 69 (f := .glo "_law_pick") rfl), F__law_pick.kp, (F__law_pick.binds (ps := ["_law_purse_here", "_law_some"]) fun _ _ _ _ _ _ us hl => match us, hl with | [_, _], _ => rfl)⟩⟩
  obtain ⟨fd__law_pick__o1, F__law_pick__o1⟩ := cd.def_ 26 (d := d__law_pick__o1) rfl
  have F__law_pick__o1 := Fun.ofD (st := s__law_pick__o1) F__law_pick__o1
  have c__law_pick__o1 : Cal P w K mg base 2 "_law_pick" ["_law_purse_here", "_law_some"] (mkSp (Pre__law_pick__o1 T)) := ⟨⟨_, _, ok__law_pick__o1 (T := T) F__law_pick__o1 (He.free_ok X G (cd.fact 16 (f := .free "len") rfl)) c__law_coin, He.glo_ok X G (cd.fact 69 (f := .glo "_law_pick") rfl), F__law_pick__o1.kp, (F__law_pick__o1.binds (ps := ["_law_purse_here", "_law_some"]) fun _ _ _ _ _ _ us hl => match us, hl with | [_, _], _ => rfl)⟩⟩
  obtain ⟨fd__law_row, F__law_row⟩ := cd.def_ 27 (d := d__law_row) rfl
  have F__law_row := Fun.ofD (st := s__law_row) F__law_row
  have c__law_row : Cal P w K mg base 3 "_law_row" ["_law_purse_here", "_law_bits", "_law_size"] (mkSp (Pre__law_row T)) := ⟨⟨_, _, ok__law_row (T := T) F__law_row (He.free_ok X G (cd.fact 42 (f := .free "range") rfl)) c__law_coin c__law_pick (He.free_ok X G (cd.fact 56 (f := .free "max") rfl)), He.glo_ok X G (cd.fact 70 (f := .glo "_law_row") rfl), F__law_row.kp, (F__law_row.binds (ps := ["_law_purse_here", "_law_bits", "_law_size"]) fun _ _ _ _ _ _ us hl => match us, hl with | [_, _, _], _ => rfl)⟩⟩
  obtain ⟨fd__law_worth, F__law_worth⟩ := cd.def_ 28 (d := d__law_worth) rfl
  have F__law_worth := Fun.ofD (st := s__law_worth) F__law_worth
  have c__law_worth : Cal P w K mg base 1 "_law_worth" ["_law_bits", "_law_row_here"] (mkSp (Pre__law_worth T)) := ⟨⟨_, _, ok__law_worth (T := T) F__law_worth , He.glo_ok X G (cd.fact 71 (f := .glo "_law_worth") rfl), F__law_worth.kp, (F__law_worth.binds (ps := ["_law_bits", "_law_row_here"]) fun _ _ _ _ _ _ us hl => match us, hl with | [_, _], _ => rfl)⟩⟩
  obtain ⟨fd__law_digits, F__law_digits⟩ := cd.def_ 29 (d := d__law_digits) rfl
  have F__law_digits := Fun.ofD (st := s__law_digits) F__law_digits
  have c__law_digits : Cal P w K mg base 2 "_law_digits" ["_law_bits", "_law_n"] (mkSp (Pre__law_digits T)) := ⟨⟨_, _, ok__law_digits (T := T) F__law_digits (He.free_ok X G (cd.fact 11 (f := .free "int") rfl)), He.glo_ok X G (cd.fact 72 (f := .glo "_law_digits") rfl), F__law_digits.kp, (F__law_digits.binds (ps := ["_law_bits", "_law_n"]) fun _ _ _ _ _ _ us hl => match us, hl with | [_, _], _ => rfl)⟩⟩
  obtain ⟨fd__law_is, F__law_is⟩ := cd.def_ 30 (d := d__law_is) rfl
  have F__law_is := Fun.ofD (st := s__law_is) F__law_is
  have c__law_is : Cal P w K mg base 3 "_law_is" ["_law_held", "_law_bits", "_law_n"] (mkSp (Pre__law_is T)) := ⟨⟨_, _, ok__law_is (T := T) F__law_is (He.free_ok X G (cd.fact 11 (f := .free "int") rfl)) c_Big_sign c_Big_digits c_Big_bits c_plain (He.free_ok X G (cd.fact 44 (f := .free "abs") rfl)) c__law_digits, He.glo_ok X G (cd.fact 73 (f := .glo "_law_is") rfl), F__law_is.kp, (F__law_is.binds (ps := ["_law_held", "_law_bits", "_law_n"]) fun _ _ _ _ _ _ us hl => match us, hl with | [_, _, _], _ => rfl)⟩⟩
  obtain ⟨fd__law_counted, F__law_counted⟩ := cd.def_ 31 (d := d__law_counted) rfl
  have F__law_counted := Fun.ofD (st := s__law_counted) F__law_counted
  have c__law_counted : Cal P w K mg base 2 "_law_counted" ["_law_engine"] (mkSp (Pre__law_counted T)) := ⟨⟨_, _, ok__law_counted (T := T) F__law_counted mc c_Mach_tally (He.free_ok X G (cd.fact 74 (f := .free "dict") rfl)) c_Mach_walk c_Mach_reset, He.glo_ok X G (cd.fact 75 (f := .glo "_law_counted") rfl), F__law_counted.kp, (F__law_counted.binds (ps := ["_law_engine"]) fun _ _ _ _ _ _ us hl => match us, hl with | [_], _ => rfl)⟩⟩
  obtain ⟨fd__law_group, F__law_group⟩ := cd.def_ 32 (d := d__law_group) rfl
  have F__law_group := Fun.ofD (st := s__law_group) F__law_group
  have c__law_group : Cal P w K mg base 1 "_law_group" ["_law_bits", "_law_radix"] (mkSp (Pre__law_group T)) := ⟨⟨_, _, ok__law_group (T := T) F__law_group , He.glo_ok X G (cd.fact 76 (f := .glo "_law_group") rfl), F__law_group.kp, (F__law_group.binds (ps := ["_law_bits", "_law_radix"]) fun _ _ _ _ _ _ us hl => match us, hl with | [_, _], _ => rfl)⟩⟩
  obtain ⟨fd__law_steps_in, F__law_steps_in⟩ := cd.def_ 33 (d := d__law_steps_in) rfl
  have F__law_steps_in := Fun.ofD (st := s__law_steps_in) F__law_steps_in
  have c__law_steps_in : Cal P w K mg base 2 "_law_steps_in" ["_law_bits", "_law_radix", "_law_digits_so"] (mkSp (Pre__law_steps_in T)) := ⟨⟨_, _, ok__law_steps_in (T := T) F__law_steps_in c__law_group (He.free_ok X G (cd.fact 16 (f := .free "len") rfl)) (He.free_ok X G (cd.fact 42 (f := .free "range") rfl)), He.glo_ok X G (cd.fact 77 (f := .glo "_law_steps_in") rfl), F__law_steps_in.kp, (F__law_steps_in.binds (ps := ["_law_bits", "_law_radix", "_law_digits_so"]) fun _ _ _ _ _ _ us hl => match us, hl with | [_, _, _], _ => rfl)⟩⟩
  obtain ⟨fd__law_figures, F__law_figures⟩ := cd.def_ 34 (d := d__law_figures) rfl
  have F__law_figures := Fun.ofD (st := s__law_figures) F__law_figures
  have c__law_figures : Cal P w K mg base 3 "_law_figures" ["_law_purse_here", "_law_n", "_law_radix"] (mkSp (Pre__law_figures T)) := ⟨⟨_, _, ok__law_figures (T := T) F__law_figures (He.free_ok X G (cd.fact 11 (f := .free "int") rfl)) c__law_pick, He.glo_ok X G (cd.fact 78 (f := .glo "_law_figures") rfl), F__law_figures.kp, (F__law_figures.binds (ps := ["_law_purse_here", "_law_n", "_law_radix"]) fun _ _ _ _ _ _ us hl => match us, hl with | [_, _, _], _ => rfl)⟩⟩
  obtain ⟨fd__law_written, F__law_written⟩ := cd.def_ 35 (d := d__law_written) rfl
  have F__law_written := Fun.ofD (st := s__law_written) F__law_written
  have c__law_written : Cal P w K mg base 3 "_law_written" ["_law_purse_here", "_law_side", "_law_figures_here", "_law_radix", "_law_has_prefix"] (mkSp (Pre__law_written T)) := ⟨⟨_, _, ok__law_written (T := T) F__law_written (He.free_ok X G (cd.fact 79 (f := .free "enumerate") rfl)) c__law_coin c__law_pick__o1 (He.free_ok X G (cd.fact 42 (f := .free "range") rfl)), He.glo_ok X G (cd.fact 80 (f := .glo "_law_written") rfl), F__law_written.kp, (F__law_written.binds (ps := ["_law_purse_here", "_law_side", "_law_figures_here", "_law_radix", "_law_has_prefix"]) fun _ _ _ _ _ _ us hl => match us, hl with | [_, _, _, _, _], _ => rfl)⟩⟩
  obtain ⟨fd__law_right, F__law_right⟩ := cd.def_ 36 (d := d__law_right) rfl
  have F__law_right := Fun.ofD (st := s__law_right) F__law_right
  have c__law_right : Cal P w K mg base 24 "_law_right" ["_law_purse_here"] (mkSp (Pre__law_right T)) := ⟨⟨_, _, ok__law_right (T := T) F__law_right c__law_coin c__law_pick c__law_row c__law_worth c_Machine1 c__law_figures c__law_written cd_read_text_3 c__law_is (He.free_ok X G (cd.fact 16 (f := .free "len") rfl)) c__law_steps_in c__law_counted ckd_read_text_0_base_text_machine_most c_big ceq, He.glo_ok X G (cd.fact 81 (f := .glo "_law_right") rfl), F__law_right.kp, (F__law_right.binds (ps := ["_law_purse_here"]) fun _ _ _ _ _ _ us hl => match us, hl with | [_], _ => rfl)⟩⟩
  have F_law := Fun.ofD (st := s_law) G_law
  exact ok_law (T := T) F_law c__law_purse (He.free_ok X G (cd.fact 42 (f := .free "range") rfl)) c__law_right c_Machine2 cd_read_text_2 cd_read_text_3 c__law_counted c_plain
end P

open PySem PySem.W PySem.Calls PyProof.Rows in
theorem PySem.Challenge.cw_thirtybits_k65_texts_read_holds : PySem.Challenge.rw_thirtybits_k65_texts_read.Holds := by
  w_on; o_law
  refine HandSHeadRun.head_any (r := OpenLaw.row PySem.Challenge.rw_thirtybits_k65_texts_read) (q := view (OpenLaw.row PySem.Challenge.rw_thirtybits_k65_texts_read).prog [62]) (H := P.hk) (ob := P.ob) (M := 12000) (loose := P.loose) (d := HandSHeadRun.topDef (OpenLaw.row PySem.Challenge.rw_thirtybits_k65_texts_read).prog 62) (kwd := []) P.ob_eq
    (by kernel_rfl) (fun s => by kernel_rfl) P.run (by kernel_rfl) (by kernel_rfl) (by kernel_rfl) (by rfl) (by first | assumption | decide +kernel) (by decide +kernel) ⟨rfl, rfl, rfl, rfl, rfl, by decide +kernel⟩ ?hw ?hc
  case hw => w_witness2
  case hc =>
    refine L2.walk_ofE (l := PySem.Challenge.rw_thirtybits_k65_texts_read) (n := 63) (k := 25) (x := "_law_script") (CX := L2.CX0) rfl (by decide) (by kernel_rfl) ⟨rfl, by decide, by decide⟩ ?F (fun _ _ _ _ z => z)
    intro w mg fa h Y G hmg0
    obtain ⟨K, KX, c⟩ := Y
    have hmg : mg ("law" : PySem.Str) = some (.ref fa) := by
      have e : (HandSHeadRun.topDef (OpenLaw.row PySem.Challenge.rw_thirtybits_k65_texts_read).prog 62).name = ("law" : PySem.Str) := by kernel_rfl
      rw [← e]
      exact hmg0
    obtain ⟨T, fd, eT, hb, hF⟩ := P.facts (P := (PySem.Challenge.rw_thirtybits_k65_texts_read).prog) (w := w) KX G hmg c
    refine ⟨K, fd, VL.mkSp (P.Pre_law T), KX, hb, fun H a ns hl _ hS => ?_, fun base b1 b2 => hF base b1 b2⟩
    refine ⟨H, [], _, _, ⟨ns, true, rfl, P.law_right ns hl, rfl⟩, .cons ⟨a, ns.map L2.V.int, rfl, by rw [eT]; exact hS, VL.al_of_int⟩ .nil, VL.Holds.nil (L2.Same.refl H), fun F' v H' Ω' _ _ r => r.1⟩
